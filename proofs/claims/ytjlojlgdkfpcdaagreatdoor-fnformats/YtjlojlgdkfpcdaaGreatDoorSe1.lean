/-
  Chapter 10: a value shown by a code, by the specification.
-/
import Derived.Test.YtjlojlgdkfpcdaaGreatDoorMg30
import Derived.Test.YtjlojlgdkfpcdaaGreatDoorMg31
import Derived.Test.YtjlojlgdkfpcdaaGreatDoorMg34
set_option maxRecDepth 8000
set_option maxHeartbeats 8000000
namespace Go.Proofs.YtjlojlgdkfpcdaaGreatDoor
open Go.RowKit
def zMW (w:World) (g:Nat) (l:List KT):Prop:=∀ (i:Nat) f,l[i]?=some f->∀ c u,f.cells[c]?=some u->w.cell? ⟨g,i * 9+c,none⟩=some u
theorem zMW.l {w w':World} {g:Nat} {l:List KT} (h:zMW w g l) (x:Ext w w'):zMW w' g l:=fun i f hi c u hu=>cell_later x (h i f hi c u hu)
theorem zNM {w:World} {base:Nat} {v:Value} {l:List KT} (h:OwnF w base v l) (h0:l ≠ []):∃ g c,v=.slice (some ⟨g,0,none⟩) l.length c/\l.length<=c/\base<=g/\zMW w g l:=by
 rcases h.2 with ⟨rfl,hl⟩ | ⟨g,cap,cur,rfl,hb,hg,hc,_,hcs,htake⟩
 ·exact absurd (List.length_eq_zero_iff.1 hl) h0
 ·refine ⟨g,cap,rfl,hc,hb,fun i f hi c u hu=>?_⟩;have:=h.cells (g:=g) rfl (i * 9+c) u ((zK3 hi c (KT.cells_lt hu)).trans hu);rw [Addr.add_lit,Nat.zero_add] at this;exact this
theorem zMW.range {w:World} {g:Nat} {l:List KT} (h:zMW w g l) {i:Nat} {f:KT} (hf:l[i]?=some f):w.rangeAt g (i * 9) f.cells:=fun j u hu=>h i f hf j u hu
theorem hi9K:(Tryz.prog.info? 28).map (·.size)=some 9:=by kernel_rfl
theorem zEG {w:World} {b:Nat} {v0 v1 v2 v3 v4 v5 v6 v7 v8:Value} (V:Vec w b [v0,v1,v2,v3,v4,v5,v6,v7,v8]) (u0 u1 u2 u3 u4 u5 u6 u7 u8:Value) :
  ∃ wn,w.setCells b 0 [u0,u1,u2,u3,u4,u5,u6,u7,u8]=wn/\Vec wn b [u0,u1,u2,u3,u4,u5,u6,u7,u8]/\(∀ c l,c ≠ b->l ≠ []->Vec w c l->Vec wn c l)/\(∀ a,Ext a w->a.heap.size<=b->Ext a wn)/\w.there b 0 9:=by
 refine ⟨_,rfl,?_,fun c l hc hl VC=>?_,fun a X ha=>Ext.setCells ha _ 0 w X,zEO V (by simp)⟩
 ·exact zCQ [u0,u1,u2,u3,u4,u5,u6,u7,u8] 0 w _ V (by simp)
 ·have hlt:c<w.heap.size:=by
   cases l with
   | nil=>exact absurd rfl hl
   | cons v r=>exact World.block_lt_of_cell? _ _ (VC 0 v rfl).1
  exact zHC VC ((zDH b [u0,u1,u2,u3,u4,u5,u6,u7,u8] 0 w).block c hlt (fun e=>hc (by cases e;rfl)))
theorem zNW {k:Int} {n:Bool} {d x:Int} {t:List UInt8} (h:zAR k n d x t=true) (hk:k=1):zA1 n d x=true:=by
 subst hk;unfold zAR at h;simp at h
 first | exact h | exact h.1 | exact h.2 | simp_all
theorem showByS (k:Int) (n:Bool) (d x:Int) (t c:BLs) (w:World) (hl:t.length<=2000000) (hcl:c.length<=100000000) :
  Calls Tryz.prog 13 #[valV k n d x t,sV c] w fun r w'=>r=.returned (sV (zC4 k n d x t c))/\Ext w w':=by
 have CR:Hid (∀ W,Calls Tryz.prog 24 #[sV c] W fun e w'=>(∃ v,e=.returned v/\OwnF w' W.heap.size v (zAZ c))/\Ext W w'):=fun W=>readS c W hcl;have CG:Hid (∀ W,Calls Tryz.prog 37 #[valV k n d x t] W fun e w'=>e=.returned (.bool (zAR k n d x t))/\Ext W w'):=fun W=>goodVS k n d x t W hl;have CS:Hid (∀ W,Calls Tryz.prog 38 #[valV k n d x t] W fun e w'=>e=.returned (sV (zDE k n d x t))/\Ext W w'):=fun W=>showS k n d x t W hl;obtain ⟨A,hA⟩:=nm (zC4 k n d x t c);have HA:Hid (zC4 k n d x t c=A):=hA;rw [hA];obtain ⟨G,hG⟩:=nm (zAR k n d x t);obtain ⟨l,hL⟩:=nm (zAZ c);have HGY:Hid ((∀ f ∈ l,zJZ f)/\l.length<=3):=by show _/\_;rw [<- hL];exact zF6 c
 have HNO:Hid (¬ (G=true/\k=1/\l ≠ [])->zDE k n d x t=A):=fun h=>by rw [<- HA.out,zC4,hG,hL,if_neg h]
 have HYES:Hid (G=true->k=1->l ≠ []->A=zJG (zAX l n d) (n && !decide (1<l.length)) d x):=fun h1 h2 h3=>by rw [<- HA.out,zC4,hG,hL,if_pos ⟨h1,h2,h3⟩]
 have HGN:Hid (G=true->k=1->zA1 n d x=true):=fun h1 h2=>zNW (hG.trans h1) h2;rw [hL] at CR;rw [hG] at CG;clear hA hG hL HA hl hcl;obtain ⟨wa,ha,X1,VV,-⟩:=zC7 w (valL k n d x t) 33;obtain ⟨b0,hb0⟩:=nm (w.heap.size);rw [hb0] at VV;have HVV:=hid VV;have HB0:=hid hb0;have hlb:b0<wa.heap.size:=World.block_lt_of_cell? _ _ (vC5 VV).1;have hls:wa.heap.size=b0+1:=by rw [<- ha,World.size_alloc,hb0]
 clear VV;go_enter Tryz.func13,Tryz.ntmps13;go_wp2_with fail;refine (CR.out _).mono ?_;rintro r w2 ⟨⟨v,rfl,hO⟩,e2⟩;have X2:=xt X1 e2;have HO:=hid hO;obtain ⟨p0,q0,hv,-⟩:=zBH hO;subst hv;have c5:=vC5 (HVV.out.l e2);have HE2:=hid e2;clear ha hb0 hO hlb;cases G
 ·have HX:Hid (zDE k n d x t=A):=HNO.out (fun h=>by cases h.1);rw [HX.out] at CS;go_wp2_with (first
   | (go_at_call 37;refine (CG.out _).mono ?_;rintro r w3 ⟨rfl,e3⟩;have c6:=vC5 (HVV.out.l (xt HE2.out e3)))
   | (go_at_call 38;refine (CS.out _).mono ?_;rintro r w4 ⟨rfl,e4⟩))
  go_ret;exact ⟨rfl,xt X2 (xt e3 e4)⟩
 by_cases hk:k=1
 case neg =>
  have HX:Hid (zDE k n d x t=A):=HNO.out (fun h=>hk h.2.1);rw [HX.out] at CS;have hkb:(k == 1)=false:=by simpa using hk
  clear hk;go_wp2_with (first
   | (go_at_call 37;refine (CG.out _).mono ?_;rintro r w3 ⟨rfl,e3⟩;have c6:=vC5 (HVV.out.l (xt HE2.out e3)))
   | (go_at_call 38;refine (CS.out _).mono ?_;rintro r w4 ⟨rfl,e4⟩))
  go_ret;exact ⟨rfl,xt X2 (xt e3 e4)⟩
 subst hk;have HK:Hid ((1:Int)=1):=rfl;by_cases hl0:l=[]
 ·have HX:Hid (zDE 1 n d x t=A):=HNO.out (fun h=>h.2.2 hl0);rw [HX.out] at CS;subst hl0;go_wp2_with (first
   | (go_at_call 37;refine (CG.out _).mono ?_;rintro r w3 ⟨rfl,e3⟩;have c6:=vC5 (HVV.out.l (xt HE2.out e3)))
   | (go_at_call 38;refine (CS.out _).mono ?_;rintro r w4 ⟨rfl,e4⟩))
  go_ret;exact ⟨rfl,xt X2 (xt e3 e4)⟩
 obtain ⟨g,cap,hv,hgc,hgb,hR⟩:=zNM HO.out hl0;have hgn:Hid (zA1 n d x=true):=HGN.out rfl HK.out;have HAY:Hid (A=zJG (zAX l n d) (n && !decide (1<l.length)) d x):=HYES.out rfl HK.out hl0;injection hv with hv1 hv2 hv3;subst hv1;subst hv3;have HR:=hid hR;have h0:0<l.length:=List.length_pos_iff.2 hl0;obtain ⟨f0,hf0⟩:∃ f,l[0]?=some f:=⟨l[0],List.getElem?_eq_getElem h0⟩;have hy0:=HGY.out.1 f0 (List.mem_of_getElem? hf0);obtain ⟨L,hL⟩:=nm (l.length);have HLL:=hid hL;have hL3:L<=3:=by rw [<- hL];exact HGY.out.2
 have hGB:Hid (b0<g):=by show _<_;have:=hgb;omega
 rw [hL] at h0 hgc;have HG2:=hid (And.intro h0 (And.intro hL3 hgc));have i0:((L:Int) == 0)=false:=by simp;omega
 have i00:0<L:=h0;clear hl0 hgb hR hls hL3 hgc HO HNO HYES HGN CR;go_upto_region 4 with (go_at_call 37;refine (CG.out _).mono ?_;rintro r w3 ⟨rfl,e3⟩;have c6:=vC5 (HVV.out.l (xt HE2.out e3)));clear c5;have R3:=hid (HR.out.l e3);have HV3:=hid (HVV.out.l (xt HE2.out e3));have HSL:Hid (∀ m,zAX l m d=zAX l m d):=fun _=>rfl;have VR0:=R3.out.range hf0;have X3:=xt X2 e3;have HF0:=hid hf0;obtain ⟨ng0,bf0,af0,wh0,pl0,mb0,gr0,tm0,dt0⟩:=f0;have HY0:=hid hy0;obtain ⟨wz,hz,XZ,VZ,-⟩:=zC7 w3 [.bool false,sV [],sV [],iQ 0,iQ 0,iQ 0,.bool false,iQ 0,sV []] 28;obtain ⟨bA,hbA⟩:=nm (w3.heap.size);rw [hbA] at VZ;have HBA:=hid hbA;have VR0:w3.rangeAt g 0 [.bool ng0,sV bf0,sV af0,iQ wh0,iQ pl0,iQ mb0,.bool gr0,iQ tm0,sV dt0]:=VR0;obtain ⟨w4,h4,V4,K4,E4,VT4⟩:=zEG VZ (.bool ng0) (sV bf0) (sV af0) (iQ wh0) (iQ pl0) (iQ mb0) (.bool gr0) (iQ tm0) (sV dt0);have H4:=hid h4;have HNB:b0 ≠ bA:=by have h:b0<w3.heap.size:=World.block_lt_of_cell? _ _ (vC5 HV3.out).1;omega
 have VB4:=K4 b0 _ HNB (by simp [valL]) (HV3.out.l XZ);have Y4:Ext w w4:=E4 w (xt X3 XZ) (by rw [<- hbA];exact X3.size);have R4:Hid (zMW w4 g l):=by
  intro i f hi c u hu;have h1:g<w3.heap.size:=World.block_lt_of_cell? _ _ (VR0 0 _ rfl);have h2:w4.heap[g]?=w3.heap[g]?:=by
   have h3:=(E4 w3 XZ (by omega)).block g h1;exact h3
  have h4:=R3.out i f hi c u hu;unfold World.cell? at h4 ⊢;simp only [h2];exact h4
 clear VZ K4 E4 h4 XZ;have HNE:=hid HNB;have c5:=vC5 VB4;have c50:=vC5 HV3.out;go_upto_region 5 with (first | (refine wpList_load_mid rfl 28 (.tmp 28) rfl g 0 rfl _ _ VR0 Tryz.underlying28 rfl hi9K ?_) | (refine zAW rfl _ _ _ rfl bA 0 _ rfl rfl VT4 hi9K (by simp [Value.oneCell']) H4.out ?_));clear c50 VR0 VT4;have hdn:n=true->(d == 0)=false:=fun h=>by
  have:=hgn.out;rw [h] at this;have g:=zAN this;have:d ≠ 0:=fun e=>by have:=(g.2.2.2.2.1 e).2;cases this
  simpa using this
 clear hf0 hy0 e3 CG CS;cases n
 ·clear hdn;have HAY:Hid (A=zJG (zAX l false d) false d x):=HAY.out;obtain ⟨q,hq⟩:=nm (decide (d=0/\2<L));have HQ:=hid hq;clear hq;go_upto_region 9 with fail;go_cut [49] (fun v wx=>v=.bool q/\wx=w4)
  case first =>
   by_cases hd0:d=0
   ·subst hd0;by_cases h2L:2<L
    ·have hqv:Hid (q=true):=(by show q=true;rw [<- HQ.out];exact decide_eq_true ⟨rfl,h2L⟩);have i6:(2:Int)<(L:Int):=(by omega);go_wp2_with fail;go_meet
     case rel=>exact ⟨by rw [hqv.out],by first | rfl | trivial⟩
    ·have hqv:Hid (q=false):=(by show q=false;rw [<- HQ.out];exact decide_eq_false (fun h=>h2L h.2));have i6:¬ (2:Int)<(L:Int):=(by omega);have i7:¬ 2<L:=h2L;go_wp2_with fail;go_meet
     case rel=>exact ⟨by rw [hqv.out],by first | rfl | trivial⟩
   ·have hqv:Hid (q=false):=(by show q=false;rw [<- HQ.out];exact decide_eq_false (fun h=>hd0 h.1));have i5:(d == 0)=false:=(by simpa using hd0);have hd0:=hid hd0;go_wp2_with fail;go_meet
    case rel=>exact ⟨by rw [hqv.out],by first | rfl | trivial⟩
  case rest =>
   obtain ⟨rfl,hwx⟩:=hcut;have hwx:=hwx.symm;subst hwx;cases q
   ·have hcq:=of_decide_eq_false HQ.out;clear HQ;have HSEL:Hid (zAX l false d=⟨ng0,bf0,af0,wh0,pl0,mb0,gr0,tm0,dt0⟩):=by
     show zAX _ _ _=_;unfold zAX;rw [if_neg (fun h=>Bool.noConfusion h.1),if_neg (fun h=>hcq ⟨h.1,by rw [<- HLL.out];exact h.2⟩)];rw [List.getD,HF0.out];rfl
    clear hcq
    rcases HY0.out.2.2 with ⟨hdt,wh',pl',mb',tm',⟨e1,e2,e3,e4⟩,hw,hpb,hmb,htb⟩ | ⟨hdt,hdl,ps,hps,hps1⟩
    ·have hdt:dt0=[]:=hdt;have e1:wh0=wh':=e1;have e2:pl0=pl':=e2;have e3:mb0=mb':=e3;have e4:tm0=tm':=e4;subst hdt e1 e2 e3 e4;have HE:Hid (A=bf0++numT wh' pl' mb' gr0 tm' true false d x++af0):=by
      show A=_;rw [HAY.out,HSEL.out];rfl
     have CNm:Hid (∀ W,Calls Tryz.prog 40 #[decV false d x,.agg #[.bool ng0,sV bf0,sV af0,iQ wh',iQ pl',iQ mb',.bool gr0,iQ tm',sV []],.bool true] W fun r w'=>r=.returned (sV (numT wh' pl' mb' gr0 tm' true false d x))/\Ext W w'):=fun W=>by
      have h:=zNN false true d x ng0 bf0 af0 [] wh' pl' mb' tm' gr0 W hw hpb hmb htb hgn.out;rw [zEQ] at h;exact h
     have hTl:=zFP (wh:=wh') (pl:=pl') (mb:=mb') (tm:=tm') (gr:=gr0) (minus:=true) (n:=false) (d:=d) (e:=x) hw.2 hpb hmb htb;obtain ⟨T,hT⟩:=nm (numT wh' pl' mb' gr0 tm' true false d x);rw [hT] at CNm HE hTl;have hb1:bf0.length<=20:=HY0.out.1;have hb2:af0.length<=20:=HY0.out.2.1;have q1:(9223372036854775807<bf0.length+T.length)=False:=eq_false (by omega);have q2:(9223372036854775807<bf0.length+T.length+af0.length)=False:=eq_false (by omega);have HV:=hid V4;have cA:=vC9 V4;have VA:w4.rangeAt bA 0 [.bool ng0,sV bf0,sV af0,iQ wh',iQ pl',iQ mb',.bool gr0,iQ tm',sV []]:=fun j u hu=>(by rw [Nat.zero_add];exact (HV.out j u hu).1);have c5b:=vC5 (VB4);clear hT hTl hb1 hb2 hw hpb hmb htb V4;go_wp2_with (first | (refine wpList_load_mid rfl 28 (.tmp 6) rfl bA 0 rfl _ _ VA Tryz.underlying28 rfl hi9K ?_));refine (CNm.out _).mono ?_;rintro r w8 ⟨rfl,e8⟩;have cB:=vC9 (HV.out.l e8);clear cA c5 c5b VA;go_wp2_with fail;go_ret;exact ⟨retZ (bsZ (by rw [HE.out];simp)),xt Y4 e8⟩
    ·have hdt:dt0 ≠ []:=hdt;have hdl:dt0.length<=100:=hdl;have hps:zA6 dt0.length dt0=some ps:=hps;have HE:Hid (A=bf0++zBS false d x ps++af0):=by
      show A=_;rw [HAY.out,HSEL.out];show bf0++(if dt0=[] then _ else zBS false d x ((zA6 dt0.length dt0).getD []))++af0=_;rw [if_neg hdt,hps];rfl
     have hgg:zA1 false d x=true:=by first | exact hgn.out | exact zCZ hgn.out
     have CDt:Hid (∀ W,Calls Tryz.prog 39 #[decV false d x,sV dt0] W fun r w'=>r=.returned (sV (zBS false d x ps))/\Ext W w'):=fun W=>zH7 false d x hgg dt0 ps hps hps1 (by omega) W;have hTl:=zEI hgg hps1.2 (zCE _ _ _ hps) (fun z h0 h1=>zGE z w h0 h1);obtain ⟨T,hT⟩:=nm (zBS false d x ps);rw [hT] at CDt HE hTl;have hb1:bf0.length<=20:=HY0.out.1;have hb2:af0.length<=20:=HY0.out.2.1;have q1:(9223372036854775807<bf0.length+T.length)=False:=eq_false (by omega);have q2:(9223372036854775807<bf0.length+T.length+af0.length)=False:=eq_false (by omega);have hz1:dt0.isEmpty=false:=(by cases dt0 with | nil=>exact absurd rfl hdt | cons _ _=>rfl);have hz2:(dt0 == [])=false:=(by cases dt0 with | nil=>exact absurd rfl hdt | cons _ _=>rfl);have hz3:(!dt0.isEmpty)=true:=(by rw [hz1];rfl);obtain ⟨wm,hm,Xm,Vm,-⟩:=zC7 w4 [.bool false,iQ d,iQ x] 31;obtain ⟨bM,hbM⟩:=nm (w4.heap.size);rw [hbM] at Vm;have cA:=vC9 (V4.l Xm);have cA0:=vC9 V4;have HV:=hid (V4.l Xm);have c5b:=vC5 (VB4);have XM:Ext w wm:=xt Y4 Xm;have cM:=vC3 Vm;clear hT hTl hb1 hb2 hgg hps hps1 hdl hdt V4 Vm;go_wp2_with fail;refine (CDt.out _).mono ?_;rintro r w8 ⟨rfl,e8⟩;have cB:=vC9 (HV.out.l e8);clear cA c5 cA0 cM hm;go_wp2_with fail;go_ret;exact ⟨retZ (bsZ (by rw [HE.out];simp)),xt XM e8⟩
   ·have hcq:=of_decide_eq_true HQ.out;clear HQ;have h2L:=hcq.2;have HD0:=hid hcq.1;clear hcq;have i6:(2:Int)<(L:Int):=(by omega);obtain ⟨f2,hf2⟩:∃ f,l[2]?=some f:=⟨l[2]'(by rw [HLL.out];exact h2L),List.getElem?_eq_getElem _⟩;have hy2:=HGY.out.1 f2 (List.mem_of_getElem? hf2);have VR5:=R4.out.range hf2;have HSEL:Hid (zAX l false d=f2):=by
     show zAX _ _ _=_;unfold zAX;rw [if_neg (fun h=>Bool.noConfusion h.1),if_pos ⟨HD0.out,by rw [HLL.out];exact h2L⟩];rw [List.getD,hf2];rfl
    obtain ⟨ng2,bf2,af2,wh2,pl2,mb2,gr2,tm2,dt2⟩:=f2;have HY2:=hid hy2;obtain ⟨w5,h5,V5,K5,E5,VT5⟩:=zEG V4 (.bool ng2) (sV bf2) (sV af2) (iQ wh2) (iQ pl2) (iQ mb2) (.bool gr2) (iQ tm2) (sV dt2);have H5:=hid h5;have VB5:=K5 b0 _ HNE.out (by simp [valL]) VB4;have X5:Ext w w5:=E5 w Y4 (by rw [<- HBA.out];exact X3.size);have VR5:w4.rangeAt g 18 [.bool ng2,sV bf2,sV af2,iQ wh2,iQ pl2,iQ mb2,.bool gr2,iQ tm2,sV dt2]:=VR5;clear K5 E5 h5;clear hf2 hy2
    rcases HY2.out.2.2 with ⟨hdt,wh',pl',mb',tm',⟨e1,e2,e3,e4⟩,hw,hpb,hmb,htb⟩ | ⟨hdt,hdl,ps,hps,hps1⟩
    ·have hdt:dt2=[]:=hdt;have e1:wh2=wh':=e1;have e2:pl2=pl':=e2;have e3:mb2=mb':=e3;have e4:tm2=tm':=e4;subst hdt e1 e2 e3 e4;have HE:Hid (A=bf2++numT wh' pl' mb' gr2 tm' true false d x++af2):=by
      show A=_;rw [HAY.out,HSEL.out];rfl
     have CNm:Hid (∀ W,Calls Tryz.prog 40 #[decV false d x,.agg #[.bool ng2,sV bf2,sV af2,iQ wh',iQ pl',iQ mb',.bool gr2,iQ tm',sV []],.bool true] W fun r w'=>r=.returned (sV (numT wh' pl' mb' gr2 tm' true false d x))/\Ext W w'):=fun W=>by
      have h:=zNN false true d x ng2 bf2 af2 [] wh' pl' mb' tm' gr2 W hw hpb hmb htb hgn.out;rw [zEQ] at h;exact h
     have hTl:=zFP (wh:=wh') (pl:=pl') (mb:=mb') (tm:=tm') (gr:=gr2) (minus:=true) (n:=false) (d:=d) (e:=x) hw.2 hpb hmb htb;obtain ⟨T,hT⟩:=nm (numT wh' pl' mb' gr2 tm' true false d x);rw [hT] at CNm HE hTl;have hb1:bf2.length<=20:=HY2.out.1;have hb2:af2.length<=20:=HY2.out.2.1;have q1:(9223372036854775807<bf2.length+T.length)=False:=eq_false (by omega);have q2:(9223372036854775807<bf2.length+T.length+af2.length)=False:=eq_false (by omega);have HV:=hid V5;have cA:=vC9 V5;have VA:w5.rangeAt bA 0 [.bool ng2,sV bf2,sV af2,iQ wh',iQ pl',iQ mb',.bool gr2,iQ tm',sV []]:=fun j u hu=>(by rw [Nat.zero_add];exact (HV.out j u hu).1);have c5b:=vC5 (VB5);clear hT hTl hb1 hb2 hw hpb hmb htb V5;go_wp2_with (first | (refine wpList_load_mid rfl 28 (.tmp 51) rfl g 18 rfl _ _ VR5 Tryz.underlying28 rfl hi9K ?_) | (refine zAW rfl _ _ _ rfl bA 0 _ rfl rfl VT5 hi9K (by simp [Value.oneCell']) H5.out ?_) | (refine wpList_load_mid rfl 28 (.tmp 6) rfl bA 0 rfl _ _ VA Tryz.underlying28 rfl hi9K ?_));refine (CNm.out _).mono ?_;rintro r w8 ⟨rfl,e8⟩;have cB:=vC9 (HV.out.l e8);clear cA c5 c5b VA;go_wp2_with fail;go_ret;exact ⟨retZ (bsZ (by rw [HE.out];simp)),xt X5 e8⟩
    ·have hdt:dt2 ≠ []:=hdt;have hdl:dt2.length<=100:=hdl;have hps:zA6 dt2.length dt2=some ps:=hps;have HE:Hid (A=bf2++zBS false d x ps++af2):=by
      show A=_;rw [HAY.out,HSEL.out];show bf2++(if dt2=[] then _ else zBS false d x ((zA6 dt2.length dt2).getD []))++af2=_;rw [if_neg hdt,hps];rfl
     have hgg:zA1 false d x=true:=by first | exact hgn.out | exact zCZ hgn.out
     have CDt:Hid (∀ W,Calls Tryz.prog 39 #[decV false d x,sV dt2] W fun r w'=>r=.returned (sV (zBS false d x ps))/\Ext W w'):=fun W=>zH7 false d x hgg dt2 ps hps hps1 (by omega) W;have hTl:=zEI hgg hps1.2 (zCE _ _ _ hps) (fun z h0 h1=>zGE z w h0 h1);obtain ⟨T,hT⟩:=nm (zBS false d x ps);rw [hT] at CDt HE hTl;have hb1:bf2.length<=20:=HY2.out.1;have hb2:af2.length<=20:=HY2.out.2.1;have q1:(9223372036854775807<bf2.length+T.length)=False:=eq_false (by omega);have q2:(9223372036854775807<bf2.length+T.length+af2.length)=False:=eq_false (by omega);have hz1:dt2.isEmpty=false:=(by cases dt2 with | nil=>exact absurd rfl hdt | cons _ _=>rfl);have hz2:(dt2 == [])=false:=(by cases dt2 with | nil=>exact absurd rfl hdt | cons _ _=>rfl);have hz3:(!dt2.isEmpty)=true:=(by rw [hz1];rfl);obtain ⟨wm,hm,Xm,Vm,-⟩:=zC7 w5 [.bool false,iQ d,iQ x] 31;obtain ⟨bM,hbM⟩:=nm (w5.heap.size);rw [hbM] at Vm;have cA:=vC9 (V5.l Xm);have cA0:=vC9 V5;have HV:=hid (V5.l Xm);have c5b:=vC5 (VB5);have XM:Ext w wm:=xt X5 Xm;have cM:=vC3 Vm;clear hT hTl hb1 hb2 hgg hps hps1 hdl hdt V5 Vm;go_wp2_with (first | (refine wpList_load_mid rfl 28 (.tmp 51) rfl g 18 rfl _ _ VR5 Tryz.underlying28 rfl hi9K ?_) | (refine zAW rfl _ _ _ rfl bA 0 _ rfl rfl VT5 hi9K (by simp [Value.oneCell']) H5.out ?_));refine (CDt.out _).mono ?_;rintro r w8 ⟨rfl,e8⟩;have cB:=vC9 (HV.out.l e8);clear cA c5 cA0 cM hm;go_wp2_with fail;go_ret;exact ⟨retZ (bsZ (by rw [HE.out];simp)),xt XM e8⟩
 ·have i5:=hdn rfl;clear hdn;by_cases h1L:1<L
  ·have HAY:Hid (A=zJG (zAX l true d) false d x):=by
    show A=_;rw [HAY.out];have:decide (1<l.length)=true:=decide_eq_true (by rw [HLL.out];exact h1L);rw [this];rfl
   have i6:(1:Int)<(L:Int):=by omega
   obtain ⟨f1,hf1⟩:∃ f,l[1]?=some f:=⟨l[1]'(by rw [HLL.out];exact h1L),List.getElem?_eq_getElem _⟩;have hy1:=HGY.out.1 f1 (List.mem_of_getElem? hf1);have VR5:=R4.out.range hf1;have HSEL:Hid (zAX l true d=f1):=by
    show zAX _ _ _=_;unfold zAX;rw [if_pos ⟨rfl,by rw [HLL.out];exact h1L⟩];rw [List.getD,hf1];rfl
   obtain ⟨ng1,bf1,af1,wh1,pl1,mb1,gr1,tm1,dt1⟩:=f1;have HY1:=hid hy1;obtain ⟨w5,h5,V5,K5,E5,VT5⟩:=zEG V4 (.bool ng1) (sV bf1) (sV af1) (iQ wh1) (iQ pl1) (iQ mb1) (.bool gr1) (iQ tm1) (sV dt1);have H5:=hid h5;have VB5:=K5 b0 _ HNE.out (by simp [valL]) VB4;have X5:Ext w w5:=E5 w Y4 (by rw [<- HBA.out];exact X3.size);have VR5:w4.rangeAt g 9 [.bool ng1,sV bf1,sV af1,iQ wh1,iQ pl1,iQ mb1,.bool gr1,iQ tm1,sV dt1]:=VR5;clear K5 E5 h5;clear hf1 hy1
   rcases HY1.out.2.2 with ⟨hdt,wh',pl',mb',tm',⟨e1,e2,e3,e4⟩,hw,hpb,hmb,htb⟩ | ⟨hdt,hdl,ps,hps,hps1⟩
   ·have hdt:dt1=[]:=hdt;have e1:wh1=wh':=e1;have e2:pl1=pl':=e2;have e3:mb1=mb':=e3;have e4:tm1=tm':=e4;subst hdt e1 e2 e3 e4;have HE:Hid (A=bf1++numT wh' pl' mb' gr1 tm' true false d x++af1):=by
     show A=_;rw [HAY.out,HSEL.out];rfl
    have CNm:Hid (∀ W,Calls Tryz.prog 40 #[decV true d x,.agg #[.bool ng1,sV bf1,sV af1,iQ wh',iQ pl',iQ mb',.bool gr1,iQ tm',sV []],.bool false] W fun r w'=>r=.returned (sV (numT wh' pl' mb' gr1 tm' true false d x))/\Ext W w'):=fun W=>by
     have h:=zNN true false d x ng1 bf1 af1 [] wh' pl' mb' tm' gr1 W hw hpb hmb htb hgn.out;rw [zEQ] at h;exact h
    have hTl:=zFP (wh:=wh') (pl:=pl') (mb:=mb') (tm:=tm') (gr:=gr1) (minus:=true) (n:=false) (d:=d) (e:=x) hw.2 hpb hmb htb;obtain ⟨T,hT⟩:=nm (numT wh' pl' mb' gr1 tm' true false d x);rw [hT] at CNm HE hTl;have hb1:bf1.length<=20:=HY1.out.1;have hb2:af1.length<=20:=HY1.out.2.1;have q1:(9223372036854775807<bf1.length+T.length)=False:=eq_false (by omega);have q2:(9223372036854775807<bf1.length+T.length+af1.length)=False:=eq_false (by omega);have HV:=hid V5;have cA:=vC9 V5;have VA:w5.rangeAt bA 0 [.bool ng1,sV bf1,sV af1,iQ wh',iQ pl',iQ mb',.bool gr1,iQ tm',sV []]:=fun j u hu=>(by rw [Nat.zero_add];exact (HV.out j u hu).1);have c5b:=vC5 (VB5);clear hT hTl hb1 hb2 hw hpb hmb htb V5;go_wp2_with (first | (refine wpList_load_mid rfl 28 (.tmp 39) rfl g 9 rfl _ _ VR5 Tryz.underlying28 rfl hi9K ?_) | (refine zAW rfl _ _ _ rfl bA 0 _ rfl rfl VT5 hi9K (by simp [Value.oneCell']) H5.out ?_) | (refine wpList_load_mid rfl 28 (.tmp 6) rfl bA 0 rfl _ _ VA Tryz.underlying28 rfl hi9K ?_));refine (CNm.out _).mono ?_;rintro r w8 ⟨rfl,e8⟩;have cB:=vC9 (HV.out.l e8);clear cA c5 c5b VA;go_wp2_with fail;go_ret;exact ⟨retZ (bsZ (by rw [HE.out];simp)),xt X5 e8⟩
   ·have hdt:dt1 ≠ []:=hdt;have hdl:dt1.length<=100:=hdl;have hps:zA6 dt1.length dt1=some ps:=hps;have HE:Hid (A=bf1++zBS false d x ps++af1):=by
     show A=_;rw [HAY.out,HSEL.out];show bf1++(if dt1=[] then _ else zBS false d x ((zA6 dt1.length dt1).getD []))++af1=_;rw [if_neg hdt,hps];rfl
    have hgg:zA1 false d x=true:=by first | exact hgn.out | exact zCZ hgn.out
    have CDt:Hid (∀ W,Calls Tryz.prog 39 #[decV false d x,sV dt1] W fun r w'=>r=.returned (sV (zBS false d x ps))/\Ext W w'):=fun W=>zH7 false d x hgg dt1 ps hps hps1 (by omega) W;have hTl:=zEI hgg hps1.2 (zCE _ _ _ hps) (fun z h0 h1=>zGE z w h0 h1);obtain ⟨T,hT⟩:=nm (zBS false d x ps);rw [hT] at CDt HE hTl;have hb1:bf1.length<=20:=HY1.out.1;have hb2:af1.length<=20:=HY1.out.2.1;have q1:(9223372036854775807<bf1.length+T.length)=False:=eq_false (by omega);have q2:(9223372036854775807<bf1.length+T.length+af1.length)=False:=eq_false (by omega);have hz1:dt1.isEmpty=false:=(by cases dt1 with | nil=>exact absurd rfl hdt | cons _ _=>rfl);have hz2:(dt1 == [])=false:=(by cases dt1 with | nil=>exact absurd rfl hdt | cons _ _=>rfl);have hz3:(!dt1.isEmpty)=true:=(by rw [hz1];rfl);obtain ⟨wm,hm,Xm,Vm,-⟩:=zC7 w5 [.bool true,iQ d,iQ x] 31;obtain ⟨bM,hbM⟩:=nm (w5.heap.size);rw [hbM] at Vm;have cA:=vC9 (V5.l Xm);have cA0:=vC9 V5;have HV:=hid (V5.l Xm);have c5b:=vC5 (VB5);have XM:Ext w wm:=xt X5 Xm;have cM:=vC3 Vm;have fM:=(Vm 0 _ rfl).2;have hne:bA ≠ bM:=(by have h:bA<w5.heap.size:=World.block_lt_of_cell? _ _ cA0.1;omega);obtain ⟨wn,hn⟩:=nm (wm.setCell ⟨bM,0,none⟩ (.bool false));have HV2:Hid (Vec wn bA [.bool ng1,sV bf1,sV af1,iQ wh1,iQ pl1,iQ mb1,.bool gr1,iQ tm1,sV dt1]):=(by show Vec _ _ _;rw [<- hn];exact HV.out.far (by show bM ≠ bA;omega) _);have VN:Vec wn bM [.bool false,iQ d,iQ x]:=(by rw [<- hn];exact Vm.put 0 (by simp) _);have XN:Ext w wn:=(by rw [<- hn];exact xset XM (by show _<=bM;rw [<- hbM];exact (X5).size) _);have cN:=vC3 VN;have cA2:=vC9 HV2.out;clear hT hTl hb1 hb2 hgg hps hps1 hdl hdt V5 Vm VN hne;go_wp2_with (first | (refine wpList_load_mid rfl 28 (.tmp 39) rfl g 9 rfl _ _ VR5 Tryz.underlying28 rfl hi9K ?_) | (refine zAW rfl _ _ _ rfl bA 0 _ rfl rfl VT5 hi9K (by simp [Value.oneCell']) H5.out ?_));refine (CDt.out _).mono ?_;rintro r w8 ⟨rfl,e8⟩;have cB:=vC9 (HV2.out.l e8);clear cA c5 cA0 cM hm cN cA2 fM hn;go_wp2_with fail;go_ret;exact ⟨retZ (bsZ (by rw [HE.out];simp)),xt XN e8⟩
  ·have HAY:Hid (A=zJG (zAX l true d) true d x):=by
    show A=_;rw [HAY.out];have:decide (1<l.length)=false:=decide_eq_false (by rw [HLL.out];exact h1L);rw [this];rfl
   have i6:¬ (1:Int)<(L:Int):=by omega
   have HSEL:Hid (zAX l true d=⟨ng0,bf0,af0,wh0,pl0,mb0,gr0,tm0,dt0⟩):=by
    show zAX _ _ _=_;unfold zAX;rw [if_neg (fun h=>h1L (by rw [<- HLL.out];exact h.2)),if_neg (fun h=>by have:=hgn.out;have g:=zAN this;have:=(g.2.2.2.2.1 h.1).2;cases this)];rw [List.getD,HF0.out];rfl
   rcases HY0.out.2.2 with ⟨hdt,wh',pl',mb',tm',⟨e1,e2,e3,e4⟩,hw,hpb,hmb,htb⟩ | ⟨hdt,hdl,ps,hps,hps1⟩
   ·have hdt:dt0=[]:=hdt;have e1:wh0=wh':=e1;have e2:pl0=pl':=e2;have e3:mb0=mb':=e3;have e4:tm0=tm':=e4;subst hdt e1 e2 e3 e4;have HE:Hid (A=bf0++numT wh' pl' mb' gr0 tm' true true d x++af0):=by
     show A=_;rw [HAY.out,HSEL.out];rfl
    have CNm:Hid (∀ W,Calls Tryz.prog 40 #[decV true d x,.agg #[.bool ng0,sV bf0,sV af0,iQ wh',iQ pl',iQ mb',.bool gr0,iQ tm',sV []],.bool true] W fun r w'=>r=.returned (sV (numT wh' pl' mb' gr0 tm' true true d x))/\Ext W w'):=fun W=>by
     have h:=zNN true true d x ng0 bf0 af0 [] wh' pl' mb' tm' gr0 W hw hpb hmb htb hgn.out;rw [zEQ] at h;exact h
    have hTl:=zFP (wh:=wh') (pl:=pl') (mb:=mb') (tm:=tm') (gr:=gr0) (minus:=true) (n:=true) (d:=d) (e:=x) hw.2 hpb hmb htb;obtain ⟨T,hT⟩:=nm (numT wh' pl' mb' gr0 tm' true true d x);rw [hT] at CNm HE hTl;have hb1:bf0.length<=20:=HY0.out.1;have hb2:af0.length<=20:=HY0.out.2.1;have q1:(9223372036854775807<bf0.length+T.length)=False:=eq_false (by omega);have q2:(9223372036854775807<bf0.length+T.length+af0.length)=False:=eq_false (by omega);have HV:=hid V4;have cA:=vC9 V4;have VA:w4.rangeAt bA 0 [.bool ng0,sV bf0,sV af0,iQ wh',iQ pl',iQ mb',.bool gr0,iQ tm',sV []]:=fun j u hu=>(by rw [Nat.zero_add];exact (HV.out j u hu).1);have c5b:=vC5 (VB4);clear hT hTl hb1 hb2 hw hpb hmb htb V4;go_wp2_with (first | (refine wpList_load_mid rfl 28 (.tmp 6) rfl bA 0 rfl _ _ VA Tryz.underlying28 rfl hi9K ?_));refine (CNm.out _).mono ?_;rintro r w8 ⟨rfl,e8⟩;have cB:=vC9 (HV.out.l e8);clear cA c5 c5b VA;go_wp2_with fail;go_ret;exact ⟨retZ (bsZ (by rw [HE.out];simp)),xt Y4 e8⟩
   ·have hdt:dt0 ≠ []:=hdt;have hdl:dt0.length<=100:=hdl;have hps:zA6 dt0.length dt0=some ps:=hps;have HE:Hid (A=bf0++zBS true d x ps++af0):=by
     show A=_;rw [HAY.out,HSEL.out];show bf0++(if dt0=[] then _ else zBS true d x ((zA6 dt0.length dt0).getD []))++af0=_;rw [if_neg hdt,hps];rfl
    have hgg:zA1 true d x=true:=by first | exact hgn.out | exact zCZ hgn.out
    have CDt:Hid (∀ W,Calls Tryz.prog 39 #[decV true d x,sV dt0] W fun r w'=>r=.returned (sV (zBS true d x ps))/\Ext W w'):=fun W=>zH7 true d x hgg dt0 ps hps hps1 (by omega) W;have hTl:=zEI hgg hps1.2 (zCE _ _ _ hps) (fun z h0 h1=>zGE z w h0 h1);obtain ⟨T,hT⟩:=nm (zBS true d x ps);rw [hT] at CDt HE hTl;have hb1:bf0.length<=20:=HY0.out.1;have hb2:af0.length<=20:=HY0.out.2.1;have q1:(9223372036854775807<bf0.length+T.length)=False:=eq_false (by omega);have q2:(9223372036854775807<bf0.length+T.length+af0.length)=False:=eq_false (by omega);have hz1:dt0.isEmpty=false:=(by cases dt0 with | nil=>exact absurd rfl hdt | cons _ _=>rfl);have hz2:(dt0 == [])=false:=(by cases dt0 with | nil=>exact absurd rfl hdt | cons _ _=>rfl);have hz3:(!dt0.isEmpty)=true:=(by rw [hz1];rfl);obtain ⟨wm,hm,Xm,Vm,-⟩:=zC7 w4 [.bool true,iQ d,iQ x] 31;obtain ⟨bM,hbM⟩:=nm (w4.heap.size);rw [hbM] at Vm;have cA:=vC9 (V4.l Xm);have cA0:=vC9 V4;have HV:=hid (V4.l Xm);have c5b:=vC5 (VB4);have XM:Ext w wm:=xt Y4 Xm;have cM:=vC3 Vm;clear hT hTl hb1 hb2 hgg hps hps1 hdl hdt V4 Vm;go_wp2_with fail;refine (CDt.out _).mono ?_;rintro r w8 ⟨rfl,e8⟩;have cB:=vC9 (HV.out.l e8);clear cA c5 cA0 cM hm;go_wp2_with fail;go_ret;exact ⟨retZ (bsZ (by rw [HE.out];simp)),xt XM e8⟩
end Go.Proofs.YtjlojlgdkfpcdaaGreatDoor

