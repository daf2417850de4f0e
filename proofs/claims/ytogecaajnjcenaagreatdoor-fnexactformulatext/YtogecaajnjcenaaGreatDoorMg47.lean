/-
  Several texts in one: Fx9, Gw8, Fy1.
-/
import Derived.Test.YtogecaajnjcenaaGreatDoorMg43
import Derived.Test.YtogecaajnjcenaaGreatDoorGs8
import Derived.Test.YtogecaajnjcenaaGreatDoorMg25
import Derived.Test.YtogecaajnjcenaaGreatDoorGw7
import Derived.Test.YtogecaajnjcenaaGreatDoorMg45
import Derived.Test.YtogecaajnjcenaaGreatDoorMg40
namespace Go.Proofs.YtogecaajnjcenaaGreatDoor
open Go.RowKit
noncomputable def told (D:NT→List UInt8) (T:Int→Int→Bool→Bool→List UInt8) (f:List NT):List UInt8:=
 if goodSF NT.good f then (match takeF 41 f with
  | some (e,_)=>if 2000<(textE D T e).length+1 then [] else 61 :: textE D T e
  | none=>[]) else []
theorem told_not {D:NT→List UInt8} {T:Int→Int→Bool→Bool→List UInt8} {f:List NT} (h:goodSF NT.good f=false):told D T f=[]:=by rw [told,if_neg (by rw [h];decide)]
theorem told_good {D:NT→List UInt8} {T:Int→Int→Bool→Bool→List UInt8} {f:List NT} (h:goodSF NT.good f=true) {e:ET} (ht:takeF 41 f=some (e,[])):told D T f=if 2000<(textE D T e).length+1 then [] else 61 :: textE D T e:=by rw [told,if_pos h,ht]
theorem ok_of {f:List NT} (h:goodSF NT.good f=true) {e:ET} (ht:takeF 41 f=some (e,[])):OkE e∧cntE e≤300:=by
 unfold goodSF at h;rw [ht] at h;simp only [Bool.and_eq_true,decide_eq_true_eq] at h;obtain ⟨⟨h1,h2⟩,h3⟩:=h;have hc:=take_cnt _ _ _ _ ht;refine ⟨?_,by simp at hc;omega⟩
 split at h3
 ·next n d hs=>exact ⟨false,_,hs⟩
 ·cases h3
set_option maxRecDepth 8000 in
set_option maxHeartbeats 4000000 in
theorem formulaS (row col:Int) (D:NT→List UInt8) (T:Int→Int→Bool→Bool→List UInt8) (C:TextC row col D T) (v:Value) (f:List NT) (w:World) (h:NodesIn w v f) (hx:∀ x ∈ f,x.t.length≤1048576) :
  Calls Tryz.prog 13 #[.agg #[.int .i64 row,.int .i64 col],v] w fun e w'=>e=.returned (sV (told D T f))∧Ext w w':=by
 obtain ⟨wa,ha,X1,VW,-⟩:=boxed w [.int .i64 row,.int .i64 col] 39;have CR:Hid (Calls Tryz.prog 19 #[v] wa fun e w'=>ReadPost f wa e w'):=readS4 v f wa (h.later X1) hx;have HC:Hid (TextC row col D T):=C;have HX1:Hid _:=X1;have HVW:Hid (Vec wa w.heap.size [.int .i64 row,.int .i64 col]):=VW;have HA:Hid _:=ha;obtain ⟨A,hA⟩:∃ A,told D T f=A:=⟨_,rfl⟩;have HTD:Hid _:=hA;rw [hA];clear h hx C X1 VW ha hA;go_enter Tryz.func13,Tryz.ntmps13;go_upto_region 1 with fail;rw [HA.out];go_wp2_with fail;refine Calls.mono CR.out ?_;rintro e w1 ⟨e1,x,pk,nk,ck,rfl,hgood⟩;have HGD:Hid _:=hgood;have HE1:Hid _:=e1;have V1:=vC2 (Vec.later HVW.out e1);obtain ⟨Q,hQ⟩:∃ Q,goodSF NT.good f=Q:=⟨_,rfl⟩;rw [hQ];have HQ:Hid _:=hQ;clear hgood hQ CR HA;obtain ⟨k,t,ng,d,ee,r,cc,ff,g,ra,ca,fa,ga,q⟩:=x;obtain ⟨wz,hz9,XZ,VZ,-⟩:=boxed w1 [.int .i64 0,.string ⟨#[]⟩,.bool false,.int .i64 0,.int .i64 0,.int .i64 0,.int .i64 0,.bool false,.bool false,.int .i64 0,.int .i64 0,.bool false,.bool false,.int .i64 0,.slice none 0 0] 55;have VT:=VZ.there;have VR:=World.rangeAt_setCells_same wz w1.heap.size 0 (NT.exL ⟨k,t,ng,d,ee,r,cc,ff,g,ra,ca,fa,ga,q⟩ (.slice pk nk ck)) VT;have XR:=Ext.setCells (b:=w1.heap.size) (Nat.le_refl _) (NT.exL ⟨k,t,ng,d,ee,r,cc,ff,g,ra,ca,fa,ga,q⟩ (.slice pk nk ck)) 0 wz XZ;obtain ⟨w5,h5⟩:∃ z5,wz.setCells w1.heap.size 0 (NT.exL ⟨k,t,ng,d,ee,r,cc,ff,g,ra,ca,fa,ga,q⟩ (.slice pk nk ck))=z5:=⟨_,rfl⟩;rw [h5] at VR XR;have one:((NT.exL ⟨k,t,ng,d,ee,r,cc,ff,g,ra,ca,fa,ga,q⟩ (.slice pk nk ck)).toArray).all (·.oneCell')=true:=by simp [Value.oneCell']
 have V5:=vC2 (Vec.later HVW.out (xt HE1.out XR));have HX5:Hid (Ext w w5):=xt HX1.out (xt HE1.out XR);have HXR:Hid (Ext w1 w5):=XR;clear VZ XZ XR V1 e1;cases Q
 ·have HT:Hid (A=[]):=HTD.out.symm.trans (told_not HQ.out);clear VR V5 HTD;go_wp2_with (refine store_to rfl _ _ _ rfl w1.heap.size 0 (NT.exL ⟨k,t,ng,d,ee,r,cc,ff,g,ra,ca,fa,ga,q⟩ (.slice pk nk ck)).toArray rfl rfl VT hi15E one h5 ?_;go_frame);go_ret;exact ⟨ret_str (by rw [HT.out]),HX5.out⟩
 ·have HG:=HGD.out HQ.out;obtain ⟨e,hte,hxe,hkid⟩:=HG;obtain ⟨n,ks⟩:=e;have hxe2:(⟨k,t,ng,d,ee,r,cc,ff,g,ra,ca,fa,ga,q⟩:NT)=n:=hxe;clear hxe;subst hxe2;obtain ⟨ok,hcnt⟩:=ok_of HQ.out hte;have CT:Calls Tryz.prog 20 #[.agg #[.int .i64 row,.int .i64 col],NT.ex ⟨k,t,ng,d,ee,r,cc,ff,g,ra,ca,fa,ga,q⟩ (.slice pk nk ck)] w5 fun e w'=>e=.returned (sV (textE D T (.mk ⟨k,t,ng,d,ee,r,cc,ff,g,ra,ca,fa,ga,q⟩ ks)))∧Ext w5 w':=
   textSE row col D T HC.out (hkid.later (fun k hk=>hk.2) HXR.out) ⟨k,t,ng,d,ee,r,cc,ff,g,ra,ca,fa,ga,q⟩ w5 (xr _) ok hcnt
  have hlen:(textE D T (.mk ⟨k,t,ng,d,ee,r,cc,ff,g,ra,ca,fa,ga,q⟩ ks)).length≤1200000:=by
   have h1:=textE_len D T HC.out.lenD HC.out.lenT _ (ok_all _ ok);omega
  have ht:=HTD.out.symm.trans (told_good (D:=D) (T:=T) HQ.out hte);obtain ⟨U,hU⟩:∃ U,textE D T (.mk ⟨k,t,ng,d,ee,r,cc,ff,g,ra,ca,fa,ga,q⟩ ks)=U:=⟨_,rfl⟩;rw [hU] at CT hlen ht;have HT:Hid (A=if 2000<U.length+1 then [] else 61 :: U):=ht;clear ht;have q1:(9223372036854775807<1+U.length)=False:=eq_false (by omega);clear hU ok hcnt hkid hte HGD HQ HTD;by_cases hb:2000<U.length+1
  ·have HB:Hid (A=[]):=HT.out.trans (if_pos hb);have i1:(2000:Int)<1+(U.length:Int):=by omega
   clear hb hlen;go_wp2_with (first | (refine store_to rfl _ _ _ rfl w1.heap.size 0 (NT.exL ⟨k,t,ng,d,ee,r,cc,ff,g,ra,ca,fa,ga,q⟩ (.slice pk nk ck)).toArray rfl rfl VT hi15E one h5 ?_;go_frame) | (refine wpList_load_mid rfl 55 (.tmp 5) rfl w1.heap.size 0 rfl (NT.exL ⟨k,t,ng,d,ee,r,cc,ff,g,ra,ca,fa,ga,q⟩ (.slice pk nk ck)) _ VR Tryz.underlying55 rfl hi15E ?_));refine CT.mono ?_;rintro e w6 ⟨rfl,e6⟩;have X6:Hid (Ext w w6):=xt HX5.out e6;clear e6 VR V5;go_wp2_with fail;go_ret;exact ⟨ret_str (by rw [HB.out]),X6.out⟩
  ·have HB:Hid (A=61 :: U):=HT.out.trans (if_neg hb);have i1:¬ (2000:Int)<1+(U.length:Int):=by omega
   clear hb hlen;go_wp2_with (first | (refine store_to rfl _ _ _ rfl w1.heap.size 0 (NT.exL ⟨k,t,ng,d,ee,r,cc,ff,g,ra,ca,fa,ga,q⟩ (.slice pk nk ck)).toArray rfl rfl VT hi15E one h5 ?_;go_frame) | (refine wpList_load_mid rfl 55 (.tmp 5) rfl w1.heap.size 0 rfl (NT.exL ⟨k,t,ng,d,ee,r,cc,ff,g,ra,ca,fa,ga,q⟩ (.slice pk nk ck)) _ VR Tryz.underlying55 rfl hi15E ?_));refine CT.mono ?_;rintro e w6 ⟨rfl,e6⟩;have X6:Hid (Ext w w6):=xt HX5.out e6;clear e6 VR V5;go_wp2_with fail;go_ret;exact ⟨ret_str (by rw [HB.out];refine bs_of ?_;simp),X6.out⟩
theorem NotI.later {w w':World} {how:Value} {T:Int→Int→Bool→Bool→List UInt8} (h:NotI w how T) (x:Ext w w'):NotI w' how T:=by
 obtain ⟨ty,a,f,h1,h2,h3,h4⟩:=h;exact ⟨ty,a,f,h1,h2,h3,fun r c g h W hg X=>h4 r c g h W hg (xt x X)⟩
theorem TextI.later {w w':World} {how:Value} {D:NT→List UInt8} {T:Int→Int→Bool→Bool→List UInt8} (h:TextI w how D T) (x:Ext w w'):TextI w' how D T:=
 ⟨h.tell.later x,fun y W g k X=>h.num y W g k (xt x X),fun f W hf X=>h.quo f W hf (xt x X),h.lenD,h.lenT⟩
theorem wr_new (w:World) (how:Value):Wr (w.alloc (.cells #[how,.pointer none,.slice none 0 0] 72)) w.heap.size w.heap.size how []:=
 .inl ⟨Nat.le_refl _,.slice none 0 0,heap_alloc_new w _,ownY_nil _ _,by simp [Value.ownBlock]⟩
set_option maxRecDepth 8000 in
set_option maxHeartbeats 4000000 in
theorem formulaTextI (D:NT→List UInt8) (T:Int→Int→Bool→Bool→List UInt8) (how:Value) (v:Value) (f:List NT) (w:World) (h:NodesIn w v f) (hr:∀ x ∈ f,x.fits) (hl:f.length≤1048576) (hT:Tens w) (hE:ErrTab w) (hO:OpTab w) (LW:LibW w) (IT:ItoaC w)
  (C:TextI w how D T) :
  Calls Tryz.prog 15 #[v,how] w fun e w'=>e=.returned (sV (told D T f))∧Ext w w':=by
 obtain ⟨hty,hva,_,hhow,_⟩:=C.tell;subst hhow;have hgs:goodIF NT.good f=goodSF NT.good f:=good_same goodK f;have CR:=treeOfI v f w h hr hl hT hE hO LW IT;obtain ⟨A,hA⟩:∃ A,told D T f=A:=⟨_,rfl⟩;have HTD:Hid _:=hA;rw [hA];have HC:Hid (TextI w (.iface hty hva) D T):=C;rw [hgs] at CR;have HGS:Hid _:=hgs;obtain ⟨Q,hQ⟩:∃ Q,goodSF NT.good f=Q:=⟨_,rfl⟩;rw [hQ] at CR;have HQ:Hid _:=hQ;clear h hr hl hT hE hO LW IT C hA hgs hQ;go_enter Tryz.func15,Tryz.ntmps15;go_wp2_with fail;refine CR.mono ?_;rintro e w1 ⟨u,rfl,hok,e1⟩;have HOK:Hid _:=hok;have HE1:Hid (Ext w w1):=e1;clear hok e1 CR;cases Q
 ·have HT:Hid (A=[]):=HTD.out.symm.trans (told_not HQ.out);clear HTD;go_wp2_with fail;go_ret;exact ⟨ret_str (by rw [HT.out]),HE1.out⟩
 ·obtain ⟨t,hte,tv⟩:=HOK.out (HGS.out.trans HQ.out);obtain ⟨ok,hcnt⟩:=ok_of HQ.out hte;obtain ⟨ty,a,rfl,_⟩:=levTree tv;have hlen:(textE D T t).length≤1200000:=by
   have h1:=textE_len D T HC.out.lenD HC.out.lenT _ (ok_all _ ok);omega
  have HTT:Hid (TellP w1 w1.heap.size (.iface hty hva) (.iface ty a) (textE D T t)):=tellTree w1 (.iface hty hva) D T (HC.out.later HE1.out) w1.heap.size (fun k hk=>hk.2) tv ok;have ht:=HTD.out.symm.trans (told_good (D:=D) (T:=T) HQ.out hte);obtain ⟨U,hU⟩:∃ U,textE D T t=U:=⟨_,rfl⟩;rw [hU] at HTT hlen ht;have HT:Hid (A=if 2000<U.length+1 then [] else 61 :: U):=ht;obtain ⟨wb,hb⟩:∃ z,w1.alloc (.cells #[.iface hty hva,.pointer none,.slice none 0 0] 72)=z:=⟨_,rfl⟩;obtain ⟨gB,hgB⟩:∃ z,w1.heap.size=z:=⟨_,rfl⟩;have HW0:Hid (Way w1 wb gB (.iface hty hva) wb []):=by
   rw [← hgB,← hb];exact ⟨x1 w1 _,wr_new w1 (.iface hty hva),WrX.refl _ _⟩
  have HSZ:Hid _:=hgB;have HTT:Hid (TellP w1 gB (.iface hty hva) (.iface ty a) U):=by rw [← hgB];exact HTT.out
  have HHB:Hid _:=hb;have HL:Hid _:=hlen;clear hU ht tv ok hcnt hte HTD HOK HGS HQ hlen hgB hb;go_upto_region 5 with fail;rw [HHB.out]
  (try rw [HSZ.out])
  go_wp2_with fail;refine (putW w1.heap.size gB (.iface hty hva) [] [61] wb HW0.out.wr (by simp)).mono ?_;rintro e w2 ⟨rfl,h2,x2⟩;have H2:Hid (Way w1 wb gB (.iface hty hva) w2 [61]):=Way.step HW0.out h2 x2;clear h2 x2 HW0;go_wp2_with fail;refine (HTT.out w2 [61] H2.out.ext H2.out.wr (by have:=HL.out;simp;omega)).mono ?_;rintro e w3 ⟨rfl,h3,x3⟩;have H3:Hid (Way w1 wb gB (.iface hty hva) w3 (61 :: U)):=Way.step H2.out h3 x3;clear h3 x3 H2 HTT;go_wp2_with fail;refine (lenW w1.heap.size gB (.iface hty hva) (61 :: U) w3 H3.out.wr).mono ?_;rintro e w4 ⟨rfl,rfl⟩;obtain ⟨n,hn⟩:∃ n,(61 :: U).length=n:=⟨_,rfl⟩;have hn2:n=U.length+1:=by rw [← hn];rfl
  rw [hn];clear hn;by_cases hb:2000<n
  ·have HB:Hid (A=[]):=HT.out.trans (if_pos (by omega));have i1:(2000:Int)<(n:Int):=by omega
   clear hb hn2;go_wp2_with fail;go_ret;exact ⟨ret_str (by rw [HB.out]),xt HE1.out H3.out.ext⟩
  ·have HB:Hid (A=61 :: U):=HT.out.trans (if_neg (by omega));have i1:¬ (2000:Int)<(n:Int):=by omega
   clear hb hn2;go_wp2_with fail;refine (strW w1.heap.size gB (.iface hty hva) (61 :: U) w4 H3.out.wr (by simp)).mono ?_;rintro e w5 ⟨rfl,x5⟩;have X5:Hid (Ext w w5):=xt HE1.out (H3.out.ext.trans x5);clear x5;go_wp2_with fail;go_ret;exact ⟨ret_str (by rw [HB.out]),X5.out⟩
set_option maxRecDepth 8000 in
set_option maxHeartbeats 2000000 in
theorem fmlTextS (v:Value) (f:List NT) (w:World) (h:NodesIn w v f) (hx:∀ x ∈ f,x.t.length≤1048576) :
  Calls Tryz.prog 6 #[v] w fun e w'=>e=.returned (sV (told decN refT f))∧Ext w w':=by
 have C:Hid (∀ W,Ext w W→Calls Tryz.prog 13 #[.agg #[.int .i64 0,.int .i64 0],v] W fun e w'=>e=.returned (sV (told decN refT f))∧Ext W w'):=fun W X=>formulaS 0 0 decN refT textC0 v f W (h.later X) hx;obtain ⟨A,hA⟩:∃ A,told decN refT f=A:=⟨_,rfl⟩;rw [hA] at C ⊢;clear h hx hA;go_enter Tryz.func6,Tryz.ntmps6;go_wp2_with fail;refine (C.out _ (xr _)).mono ?_;rintro e w1 ⟨rfl,e1⟩;go_wp2_with fail;go_ret;exact ⟨rfl,e1⟩
set_option maxRecDepth 8000 in
set_option maxHeartbeats 2000000 in
theorem fmlTextI (v:Value) (f:List NT) (w:World) (h:NodesIn w v f) (hr:∀ x ∈ f,x.fits) (hl:f.length≤1048576) (hT:Tens w) (hE:ErrTab w) (hO:OpTab w) (LW:LibW w) (IT:ItoaC w) (hM:Tab14 w) :
  Calls Tryz.prog 8 #[v] w fun e w'=>e=.returned (sV (told decN refT f))∧Ext w w':=by
 have C:Hid (Calls Tryz.prog 15 #[v,.iface 47 (.agg #[])] w fun e w'=>e=.returned (sV (told decN refT f))∧Ext w w'):=formulaTextI decN refT _ v f w h hr hl hT hE hO LW IT (textI_of (notL w IT) refT_len IT hT hM);obtain ⟨A,hA⟩:∃ A,told decN refT f=A:=⟨_,rfl⟩;rw [hA] at C ⊢;clear h hr hl hT hE hO LW IT hM hA;go_enter Tryz.func8,Tryz.ntmps8;go_wp2_with fail;refine Calls.mono C.out ?_;rintro e w1 ⟨rfl,e1⟩;go_wp2_with fail;go_ret;exact ⟨rfl,e1⟩
end Go.Proofs.YtogecaajnjcenaaGreatDoor

