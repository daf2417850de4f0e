/-
  Several texts in one: L8, L9, L10, Te5, DvM, X9d, Te6.
-/
import Derived.Test.YtjlojlgdkfpcdaaGreatDoorMg34
import Derived.Test.YtjlojlgdkfpcdaaGreatDoorMg36
import Derived.Test.YtjlojlgdkfpcdaaGreatDoorMg20
import Derived.Test.YtjlojlgdkfpcdaaGreatDoorMg16
import Derived.Laws.IdiomStrings
set_option maxRecDepth 8000
set_option maxHeartbeats 8000000
namespace Go.Proofs.YtjlojlgdkfpcdaaGreatDoor
open Go.RowKit
theorem zTU (f:KT) (hc:cntB f=true) (hb:f.bf.length<=1048576) (ha:f.af.length<=1048576) (hd:f.dt.length<=1048576):(zBB f).length<=3200000:=by
 have hcc:0<=f.wh/\0<=f.pl/\0<=f.mb/\0<=f.tm/\f.wh<=9/\f.pl<=9/\f.mb<=9/\f.tm<=9:=of_decide_eq_true hc;unfold zBB;have q1:=zC8 f.bf;have q2:=zC8 f.af;have r1:=zAJ [48] f.wh.toNat rfl;have r2:=zAJ [48] f.pl.toNat rfl;have r3:=zAJ [35] f.mb.toNat rfl;have r4:=zAJ [37] f.tm.toNat rfl;have g:(if f.gr then ([35,44]:BL) else []).length<=2:=by split <;> simp
 have h:(if (decide (0<f.pl+f.mb)) then (46 :: (repF [48] f.pl.toNat++repF [35] f.mb.toNat):BL) else []).length<=30:=by
  split
  ·simp only [List.length_cons,List.length_append];rw [r2,r3];omega
  ·simp
 simp only [List.length_append];rw [r1,r4];omega
theorem zVJ (l:List BL) (h3:l.length<=3) (hm:∀ x ∈ l,x.length<=3200000):(Lib.join l [59]).length<=100000000:=by
 match l,h3,hm with
 | [],_,_=>simp [Lib.join,List.intercalate]
 | [a],_,hm=>have:=hm a (by simp);simp [Lib.join,List.intercalate];omega
 | [a,b],_,hm =>
  have:=hm a (by simp);have:=hm b (by simp);simp [Lib.join,List.intercalate];omega
 | [a,b,c],_,hm =>
  have:=hm a (by simp);have:=hm b (by simp);have:=hm c (by simp);simp [Lib.join,List.intercalate];omega
 | _ :: _ :: _ :: _ :: _,h3,_=>simp at h3
theorem toldPI (v:Value) (l:List KT) (w:World) (h:zB0 w v l) (hl:l.length<=2000000) (ht:∀ f ∈ l,f.bf.length<=1048576/\f.af.length<=1048576/\f.dt.length<=1048576) (T:TabK w) :
  Calls Tryz.prog 6 #[v] w fun e w'=>e=.returned (sV (zFG l))/\Ext w w':=by
 have HI:Hid (zB0 w v l):=h;obtain ⟨p,cap,rfl,hcap,hrow⟩:=h;obtain ⟨n,hn⟩:=nm (l.length);have HN:Hid (l.length=n):=hn;obtain ⟨R,hR⟩:=nm (zFG l);have HR:Hid ((if 3<n then [] else if l.any (fun f=>!cntB f) then [] else if zAZ (Lib.join (l.map zBB) [59])=l then Lib.join (l.map zBB) [59] else [])=R):=by show _=_;rw [<- hR,<- hn];rfl
 rw [hR];rw [hn] at hcap hl hrow HI ⊢;have HRow:Hid (0<n->∃ b o,p=some ⟨b,o,none⟩/\RowK w b o l):=hrow;have HTx:Hid (∀ f ∈ l,f.bf.length<=1048576/\f.af.length<=1048576/\f.dt.length<=1048576):=ht;have HT:Hid (TabK w):=T;clear hn hR hrow ht T;by_cases hlen:3<n
 ·have HE:Hid (R=[]):=by show _=_;rw [<- HR.out,if_pos hlen]
  have i2:3<(n:Int):=by omega
  clear HR HI;go_enter Tryz.func6,Tryz.ntmps6;go_wp2_with fail;go_ret;exact ⟨by rw [HE.out] <;> rfl,xr _⟩
 ·have i2:(n:Int)<=3:=by omega
  have HQ:Hid ((if l.any (fun f=>!cntB f) then [] else if zAZ (Lib.join (l.map zBB) [59])=l then Lib.join (l.map zBB) [59] else [])=R):=by show _=_;rw [<- HR.out,if_neg hlen]
  have hn3:n<=3:=by omega
  clear hlen HR;obtain ⟨B,hB⟩:=nm (w.heap.size);have HB:Hid (w.heap.size=B):=hB;clear hB;go_enter Tryz.func6,Tryz.ntmps6;go_wp2_with fail;have T0:=zJS w B;go_loopw [3,12] (fun s i wr=>∃ k:Nat,k<=n/\i=.int .i64 k/\OwnT wr B s ((l.take k).map zBB)/\Hid (∀ f ∈ l.take k,cntB f=true)/\Ext w wr) (fun _ i _=>n - (intOf i).toNat)
  case atStart=>exact ⟨0,by omega,rfl,T0,fun f hf=>by simp at hf,xr _⟩
  case round =>
   clear T0;obtain ⟨k,hk,rfl,OT,HW,X⟩:=hrel;by_cases hlt:k<n
   ·obtain ⟨f,hf⟩:∃ f,l[k]?=some f:=⟨_,List.getElem?_eq_getElem (by rw [HN.out];exact hlt)⟩;have hmem:f ∈ l:=List.mem_of_getElem? hf;obtain ⟨b,o,rfl,hRw⟩:=HRow.out (by omega);obtain ⟨a0,a1,a2,a3,a4,a5,a6,a7,a8⟩:=(hRw.l X).all hf;obtain ⟨S,hS⟩:=nm ((l.take k).map zBB);have HS:Hid ((l.take k).map zBB=S):=hS;have lS:S.length<=3:=(by rw [<- hS,List.length_map,List.length_take,HN.out];omega);rw [hS] at OT;obtain ⟨p3,c3,rfl,hc3⟩:=zBG OT;have OTH:Hid (OwnT wr B (.slice p3 S.length c3) S):=OT;clear hS;have CN:=fun W=>cntI f W;obtain ⟨cb,hcb⟩:=nm (cntB f);simp only [hcb] at CN;have j2:(k:Int)<(n:Int):=(by omega);have j1:(0:Int)<=(k:Int):=(by omega);have E1:=x1 wr (.cells f.cells.toArray 28);have V1:=zA2 wr f.cells 28;cases cb with
    | false =>
     have HE:Hid (R=[]):=by
      show _=_;rw [<- HQ.out,if_pos];rw [List.any_eq_true];exact ⟨f,hmem,by rw [hcb];rfl⟩
     clear HQ HW hf hmem hRw OT HI V1;go_wp2_with fail;refine (CN _).mono ?_;rintro e w2 ⟨rfl,e2⟩;go_wp2_with fail;go_ret;exact ⟨by rw [HE.out] <;> rfl,xt (xt X E1) e2⟩
    | true =>
     obtain ⟨t1,t2,t3⟩:=HTx.out f hmem;have CC:=fun W=>codePI f W hcb t1 t2 t3;have HW2:Hid (∀ f ∈ l.take (k+1),cntB f=true):=fun g hg=>by
      rw [List.take_add_one,hf] at hg
      rcases List.mem_append.1 hg with hg | hg
      ·exact HW.out g hg
      ·have:g=f:=(by simpa using hg);rw [this];exact hcb
     have HM:Hid ((l.take (k+1)).map zBB=S++[zBB f]):=by
      show _=_;rw [List.take_add_one,hf,List.map_append,HS.out];rfl
     obtain ⟨c,hc⟩:=nm (zBB f);simp only [hc] at CC;rw [hc] at HM;obtain ⟨inf,hi,hz,hz1,hz2⟩:=zVM;have HV1:Hid (Vec (wr.alloc (.cells f.cells.toArray 28)) wr.heap.size f.cells):=V1;clear HQ HW hf hmem hRw OT HI hcb hc t1 t2 t3 V1;go_wp2_with fail;refine (CN _).mono ?_;rintro e w2 ⟨rfl,e2⟩;have V2:=HV1.out.l e2;have d0:=(V2 0 _ rfl).1;have d1:=(V2 1 _ rfl).1;have d2:=(V2 2 _ rfl).1;have d3:=(V2 3 _ rfl).1;have d4:=(V2 4 _ rfl).1;have d5:=(V2 5 _ rfl).1;have d6:=(V2 6 _ rfl).1;have d7:=(V2 7 _ rfl).1;have d8:=(V2 8 _ rfl).1;clear V2 HV1;go_wp2_with fail;refine (CC _).mono ?_;rintro e w3 ⟨rfl,e3⟩;have E3:=xt (xt E1 e2) e3;have OQ:Hid (OwnT w3 B (.slice p3 S.length c3) S):=zIV OTH.out E3;have X3:=xt X E3;have S3:B<=w3.heap.size:=(by have:=X3.size;have:=HB.out;omega);clear d0 d1 d2 d3 d4 d5 d6 d7 d8 E1 e2 e3 E3 OTH CC CN a0 a1 a2 a3 a4 a5 a6 a7 a8;go_wp2_with (at_builtin;refine wpList_append_own _ rfl _ _ 51 rfl B 9 inf (.string ByteArray.empty) 1 16 Tryz.underlying51 hi hz hz1 hz2 rfl (by decide) _ _ _ rfl (OQ.out.alloc _) ⟨w3.heap.size,0,none⟩ 1 1 [sV c] rfl rfl (World.news_of_block (heap_alloc_new w3 (.cells [sV c].toArray 9))) (by simp [Value.oneCell']) (by simp only [maxLen];omega) (by omega) (by simp;omega) ?_);intro v7 wC ownC gC _;have XA:=xa X3 (.cells [sV c].toArray 9);have HOB:=zGC OQ.out;have XC:Ext w wC:=XA.grown gC XA.size (fun q hq=>by have:=(HOB q hq).1;have:=HB.out;omega);have OC:OwnT wC B v7 (S++[c]):=by
      show World.ownsRow _ _ _ _ _ _ _;rw [List.map_append,List.length_append];exact ownC
     obtain ⟨p7,c7,hv7,hc7⟩:=zBG OC;obtain ⟨L7,hL7⟩:=nm ((S++[c]).length);rw [hL7] at hv7;subst hv7;have HOC:Hid (OwnT wC B (.slice p7 L7 c7) ((l.take (k+1)).map zBB)):=(by rw [HM.out];exact OC);clear gC ownC OQ XA X3 hi hz hz1 hz2 HOB OC HM hc3 hc7 hL7;go_wp2_with fail;go_roundw
     case rel=>exact ⟨k+1,by omega,by go_num,HOC.out,HW2,XC⟩
     case measure=>simp [intOf];omega
   ·obtain rfl:k=n:=(by omega);have htl:l.take k=l:=List.take_of_length_le (by rw [HN.out];exact Nat.le_refl _);rw [htl] at OT HW;have HQ2:Hid ((if zAZ (Lib.join (l.map zBB) [59])=l then Lib.join (l.map zBB) [59] else [])=R):=by
     show _=_;rw [<- HQ.out];have:l.any (fun f=>!cntB f)=false:=by
      rw [List.any_eq_false];intro f hf;rw [HW.out f hf];decide
     rw [this];rfl
    have hjl:=zVJ (l.map zBB) (by rw [List.length_map,HN.out];exact hn3) (fun x hx=>by
     obtain ⟨f,hf,rfl⟩:=List.mem_map.1 hx;obtain ⟨t1,t2,t3⟩:=HTx.out f hf;exact zTU f (HW.out f hf) t1 t2 t3)
    have JC:=joinI _ (l.map zBB) B wr OT (by rw [List.length_map,HN.out];omega) hjl;obtain ⟨J,hJ⟩:=nm (Lib.join (l.map zBB) [59]);rw [hJ] at JC HQ2 hjl;have RC:=fun W (hW:TabK W)=>readI J W hjl hW;simp only [zG9] at RC;obtain ⟨D,hD⟩:=nm (zAZ J);simp only [hD] at RC;rw [hD] at HQ2;have hdl:D.length<=2000000:=(by have:=zG8 J;rw [hD] at this;omega);obtain ⟨p3,c3,hv3,hc3⟩:=zBG OT;obtain ⟨L3,hL3⟩:=nm ((l.map zBB).length);rw [hL3] at hv3;subst hv3;clear hJ hD HQ HW htl OT hL3 hc3;go_wp2_with fail;refine JC.mono ?_;rintro e w2 ⟨rfl,e2⟩;have X2:=xt X e2;clear e2 JC X;go_wp2_with fail;refine (RC w2 (HT.out.l X2)).mono ?_;rintro e w3 ⟨⟨v3,rfl,V3⟩,e3⟩;have X3:=xt X2 e3;have EQ:=equalF v3 _ D l w3 (zDY V3) (HI.out.l X3) hdl;obtain ⟨q,hq⟩:=nm (decide (D=l));rw [hq] at EQ;clear e3 RC X2 V3;cases q with
    | true =>
     have HE:Hid (R=J):=(by show _=_;rw [<- HQ2.out,if_pos (of_decide_eq_true hq)]);clear hq HQ2;go_wp2_with fail;refine EQ.mono ?_;rintro e w4 ⟨rfl,e4⟩;go_wp2_with fail;go_ret;exact ⟨by rw [HE.out] <;> rfl,xt X3 e4⟩
    | false =>
     have HE:Hid (R=[]):=(by show _=_;rw [<- HQ2.out,if_neg (of_decide_eq_false hq)]);clear hq HQ2;go_wp2_with fail;refine EQ.mono ?_;rintro e w4 ⟨rfl,e4⟩;go_wp2_with fail;go_ret;exact ⟨by rw [HE.out] <;> rfl,xt X3 e4⟩
def zK0 (f:KT):Prop:=cntB f=true/\zDK f<=200/\(f.dt=[]\/(f.gr=false/\f.wh=0/\f.pl=0/\f.mb=0/\f.tm=0))
theorem zM6 {l:BL} {x:BL × BL} (h:quoS l=some x):x.1.length<=20/\x.2.length<=l.length:=by
 unfold quoS at h
 split at h
 ·obtain ⟨t,r⟩:=x;obtain ⟨h1,_,_⟩:=zH4 h;refine ⟨?_,by rw [h1];simp;omega⟩;cases l with
  | nil=>cases h
  | cons c0 r0 =>
   have h:(if (c0 == 34)=true then (if (r0.dropWhile nq) ≠ []/\(r0.takeWhile nq) ≠ []/\(r0.takeWhile nq).length<=20/\zBW (r0.takeWhile nq)=true then some (r0.takeWhile nq,(r0.dropWhile nq).drop 1) else none) else none)=some (t,r):=h
   split at h
   ·split at h
    ·rename_i hh;cases h;exact hh.2.2.1
    ·cases h
   ·cases h
 ·cases h;simp
theorem cnt_of {f:KT} (h:0<=f.wh/\0<=f.pl/\0<=f.mb/\0<=f.tm/\f.wh<=9/\f.pl<=9/\f.mb<=9/\f.tm<=9):cntB f=true:=decide_eq_true h
theorem zSE {b l:BL} {x:KT × BL} (hb:b.length<=20) (h:numS b l=some x):zK0 x.1/\x.2.length<=l.length:=by
 obtain ⟨g,hg⟩:=nm (Lib.hasPrefix (l.drop 0) [35,44]);obtain ⟨k2,hk2⟩:=nm ((if g=true then 0+2 else 0));obtain ⟨wn,hwn⟩:=nm (runF 48 9 (l.drop k2));obtain ⟨pt,hpt⟩:=nm (Lib.hasPrefix (l.drop (k2+wn)) [46]);obtain ⟨k4,hk4⟩:=nm ((if pt=true then k2+wn+1 else k2+wn));obtain ⟨pn,hpn⟩:=nm ((if pt=true then runF 48 9 (l.drop k4) else 0));obtain ⟨mn,hmn⟩:=nm ((if pt=true then runF 35 9 (l.drop (k4+pn)) else 0));obtain ⟨tn,htn⟩:=nm (runF 37 3 (l.drop (k4+pn+mn)));have hk:=zEC b l 0 hg hk2 hwn hpt hk4 hpn hmn htn;have bw:wn<=9:=by rw [<- hwn];exact zC2 _ _ _
 have bp:pn<=9:=by rw [<- hpn];split;exact zC2 _ _ _;omega
 have bm:mn<=9:=by rw [<- hmn];split;exact zC2 _ _ _;omega
 have bt:tn<=3:=by rw [<- htn];exact zC2 _ _ _
 rw [List.drop_zero,h] at hk
 split at hk
 ·cases hk
 ·split at hk
  ·cases hk
  ·cases hq:quoS (l.drop (k4+pn+mn+tn)) with
   | none=>rw [hq] at hk;cases hk
   | some y =>
    rw [hq] at hk;cases hk;obtain ⟨q1,q2⟩:=zM6 hq;rw [List.length_drop] at q2;refine ⟨⟨cnt_of ?_,?_,.inl rfl⟩,?_⟩
    ·dsimp only;omega
    ·unfold zDK;dsimp only [List.length_nil];omega
    ·dsimp only;omega
theorem zQ2 {b l:BL} {x:KT × BL} (hb:b.length<=20) (hl:l.length<=100) (h:zE8 b l=some x):zK0 x.1/\x.2.length<=l.length:=by
 have hk:=zKC b l 0 (0+((l.drop 0).takeWhile sepC).length) rfl rfl;rw [List.drop_zero,h] at hk
 split at hk
 ·cases hq:quoS (l.drop (0+(l.takeWhile sepC).length)) with
  | none=>rw [hq] at hk;cases hk
  | some y =>
   rw [hq] at hk;cases hk;obtain ⟨q1,q2⟩:=zM6 hq;rw [List.length_drop] at q2;have:=zBK sepC l;refine ⟨⟨cnt_of ?_,?_,.inr ⟨rfl,rfl,rfl,rfl,rfl⟩⟩,?_⟩
   ·dsimp only;omega
   ·unfold zDK;dsimp only;omega
   ·dsimp only;omega
 ·cases hk
theorem zRA {l:BL} {x:KT × BL} (hl:l.length<=100) (h:secS l=some x):zK0 x.1/\x.2.length<=l.length:=by
 unfold secS at h;cases hq:quoS l with
 | none=>rw [hq] at h;cases h
 | some y =>
  rw [hq] at h;obtain ⟨q1,q2⟩:=zM6 hq;have h:(if Lib.hasPrefix y.2 [35,44] || Lib.hasPrefix y.2 [48] then numS y.1 y.2 else zE8 y.1 y.2)=some x:=h
  split at h
  ·obtain ⟨g1,g2⟩:=zSE q1 h;exact ⟨g1,by omega⟩
  ·obtain ⟨g1,g2⟩:=zQ2 q1 (by omega) h;exact ⟨g1,by omega⟩
theorem zP4:∀ (k:Nat) (l:BL) (acc:List KT),l.length<=100->(∀ f ∈ acc,zK0 f)->∀ f ∈ zBV k l acc,zK0 f:=by
 intro k
 induction k with
 | zero=>intro l acc _ _ f hf;cases hf
 | succ k ih =>
  intro l acc hl ha f hf;simp only [zBV] at hf;cases hS:secS l with
  | none=>rw [hS] at hf;cases hf
  | some x =>
   rw [hS] at hf;obtain ⟨g1,g2⟩:=zRA hl hS;have hacc:∀ f ∈ acc++[x.1],zK0 f:=fun f hf=>by
    rcases List.mem_append.1 hf with hf | hf
    ·exact ha f hf
    ·have:f=x.1:=(by simpa using hf);rw [this];exact g1
   dsimp only at hf
   split at hf
   ·cases hf
   ·split at hf
    ·exact hacc f hf
    ·split at hf
     ·exact ih _ _ (by rw [List.length_drop];omega) hacc f hf
     ·cases hf
theorem zGA (c:BL):∀ f ∈ zAZ c,zK0 f:=by
 intro f hf;unfold zAZ at hf
 split at hf
 ·cases hf
 ·exact zP4 4 c [] (by omega) (fun f hf=>by cases hf) f hf
theorem zTS {f:KT} (h:zK0 f):zI0 f=zBB f:=by
 obtain ⟨hc,_,hd⟩:=h;have hcc:0<=f.wh/\0<=f.pl/\0<=f.mb/\0<=f.tm/\f.wh<=9/\f.pl<=9/\f.mb<=9/\f.tm<=9:=of_decide_eq_true hc;have mI:∀ a:Int,a<=9->minI a 20=a:=fun a ha=>by unfold minI;rw [if_pos (by omega)]
 have hw:wrap64 (f.pl+f.mb)=f.pl+f.mb:=by unfold wrap64;omega
 unfold zI0 zBB;rw [mI _ hcc.2.2.2.2.1,mI _ hcc.2.2.2.2.2.1,mI _ hcc.2.2.2.2.2.2.1,mI _ hcc.2.2.2.2.2.2.2,hw];by_cases hdt:f.dt=[]
 ·rw [if_pos hdt,hdt];unfold numC;simp only [List.append_assoc,List.nil_append]
 ·rcases hd with hd | ⟨h1,h2,h3,h4,h5⟩
  ·exact absurd hd hdt
  ·rw [if_neg hdt,h1,h2,h3,h4,h5];simp [repF]
theorem jk_join {l:List KT} (h1:1<=l.length) (h3:l.length<=3) (hg:∀ f ∈ l,zI0 f=zBB f):jk l l.length=Lib.join (l.map zBB) [59]:=by
 match l,h1,h3,hg with
 | [a],_,_,hg =>
  have:=hg a (by simp);simp [jk,Lib.join,List.intercalate,this]
 | [a,b],_,_,hg =>
  have e1:=hg a (by simp);have e2:=hg b (by simp);simp [jk,Lib.join,List.intercalate,e1,e2]
 | [a,b,c],_,_,hg =>
  have e1:=hg a (by simp);have e2:=hg b (by simp);have e3:=hg c (by simp);simp [jk,Lib.join,List.intercalate,e1,e2,e3]
 | _ :: _ :: _ :: _ :: _,_,h3,_=>simp at h3
theorem zKK (l:List KT):zFG l=zQR l:=by
 unfold zFG zQR;by_cases h3:3<l.length
 ·rw [if_pos h3,if_pos (.inr h3)]
 ·rw [if_neg h3];by_cases h1:l.length<1
  ·have hl:l=[]:=List.length_eq_zero_iff.1 (by omega);subst hl;simp [Lib.join,List.intercalate]
  ·rw [if_neg (show ¬ (l.length<1\/3<l.length) by omega)];by_cases hg:∀ f ∈ l,zK0 f
   ·have a1:l.any (fun f=>!cntB f)=false:=by
     rw [List.any_eq_false];intro f hf;rw [(hg f hf).1];decide
    have a2:l.any (fun f=>decide (200<zDK f))=false:=by
     rw [List.any_eq_false];intro f hf;have:=(hg f hf).2.1;simp;omega
    rw [a1,a2,jk_join (by omega) (by omega) (fun f hf=>zTS (hg f hf))]
   ·have n1:∀ c,zAZ c ≠ l:=fun c e=>hg (fun f hf=>zGA c f (by rw [e];exact hf));rw [if_neg (n1 _),if_neg (n1 _)]
    repeat' split
    all_goals rfl
theorem zMS (f:KT) (hc:cntB f=true) (h:DrF f):(zBB f).length<=300:=by
 have hcc:0<=f.wh/\0<=f.pl/\0<=f.mb/\0<=f.tm/\f.wh<=9/\f.pl<=9/\f.mb<=9/\f.tm<=9:=of_decide_eq_true hc;obtain ⟨hb,ha,hd⟩:=h;unfold zBB;have q1:=zC8 f.bf;have q2:=zC8 f.af;have r1:=zAJ [48] f.wh.toNat rfl;have r2:=zAJ [48] f.pl.toNat rfl;have r3:=zAJ [35] f.mb.toNat rfl;have r4:=zAJ [37] f.tm.toNat rfl;have g:(if f.gr then ([35,44]:BL) else []).length<=2:=by split <;> simp
 have h:(if (decide (0<f.pl+f.mb)) then (46 :: (repF [48] f.pl.toNat++repF [35] f.mb.toNat):BL) else []).length<=30:=by
  split
  ·simp only [List.length_cons,List.length_append];rw [r2,r3];omega
  ·simp
 simp only [List.length_append];rw [r1,r4];omega
theorem zPN (l:List BL) (h3:l.length<=3) (hm:∀ x ∈ l,x.length<=300):(Lib.join l [59]).length<=1000:=by
 match l,h3,hm with
 | [],_,_=>simp [Lib.join,List.intercalate]
 | [a],_,hm=>have:=hm a (by simp);simp [Lib.join,List.intercalate];omega
 | [a,b],_,hm =>
  have:=hm a (by simp);have:=hm b (by simp);simp [Lib.join,List.intercalate];omega
 | [a,b,c],_,hm =>
  have:=hm a (by simp);have:=hm b (by simp);have:=hm c (by simp);simp [Lib.join,List.intercalate];omega
 | _ :: _ :: _ :: _ :: _,h3,_=>simp at h3
theorem zIM (l:List KT) (hd:∀ f ∈ l,DrF f):(zFG l).length<=1000:=by
 unfold zFG
 split
 ·simp
 ·next h3 =>
  split
  ·simp
  ·next ha =>
   split
   ·refine zPN _ (by rw [List.length_map];omega) ?_;intro x hx;obtain ⟨f,hf,rfl⟩:=List.mem_map.1 hx;refine zMS f ?_ (hd f hf);cases hq:cntB f
    ·exact absurd (List.any_eq_true.2 ⟨f,hf,by rw [hq];rfl⟩) ha
    ·rfl
   ·simp
theorem toldD (v:Value) (l:List KT) (w:World) (h:zB0 w v l) (h3:l.length<=3) (hd:∀ f ∈ l,DrF f) :
  Calls Tryz.prog 7 #[v] w fun e w'=>(∃ s:List UInt8,e=.returned (.string (bsF s))/\s.length<=1000)/\Ext w w':=by
 refine (toldSS v l w h (by omega) (fun f hf=>by obtain ⟨h1,h2,h4⟩:=hd f hf;omega)).mono ?_;rintro e w' ⟨rfl,x⟩;exact ⟨⟨zQR l,rfl,by rw [<- zKK];exact zIM l hd⟩,x⟩
def pcR:List BLs:=[[48],[35],[46],[59],[34],[37],[121],[35,44],[109],[32]]
def pcS:List BLs:=[[48],[35],[59],[48]]
def pcT (L:List BLs) (j:Nat):ByteArray:=bsF (L.getD j [48])
theorem pc_at {L:List BLs} {w:World} {g:Nat} (V:Vec w g (L.map sV)):∀ j,j<L.length->w.cell? ⟨g,j,none⟩=some (.string (pcT L j)):=fun j hj=>by
 refine (V j _ ?_).1;rw [List.getElem?_map,List.getElem?_eq_getElem hj];simp only [Option.map_some,pcT,List.getD_eq_getElem?_getD,List.getElem?_eq_getElem hj,Option.getD_some];rfl
theorem zNK {L:List BLs} (h:∀ t ∈ L,1<=t.length/\t.length<=10) (j:Nat):1<=(pcT L j).size/\(pcT L j).size<=10:=by
 unfold pcT;rw [zOA,List.getD_eq_getElem?_getD];cases hj:L[j]? with
 | none=>exact ⟨by decide,by decide⟩
 | some t =>
  obtain ⟨hi,rfl⟩:=List.getElem?_eq_some_iff.1 hj;exact h _ (List.getElem_mem hi)
theorem zRS:∀ t ∈ pcR,1<=t.length/\t.length<=10:=by decide
theorem zRR:∀ t ∈ pcS,1<=t.length/\t.length<=10:=by decide
theorem zW1 (v:Value) (k:Nat) (w:World) (hc:zCP w w.heap.size v k) (hk:k<=1048576) :
  Calls Tryz.prog 9 #[v] w fun e w'=>(∃ s:List UInt8,e=.returned (.string (bsF s))/\s.length<=20100)/\Ext w w':=by
 have C0:=Cur.made w v k w.heap.size 47 hc hk (Nat.le_refl _);have X0:=x1 w (.cells #[v,iQ 0,.int .u64 0] 47);have hv:∃ p cap,v=.slice p k cap:=by
  rcases hc with ⟨⟨p,cap,h⟩,rfl⟩ | ⟨pb,po,cap,_,h,_⟩
  ·exact ⟨p,cap,h⟩
  ·exact ⟨_,cap,h⟩
 clear hc;obtain ⟨p,cap,rfl⟩:=hv;go_enter Tryz.func9,Tryz.ntmps9;go_wp2_with fail;refine (zK2 w.heap.size w.heap.size 0 _ C0 (by omega)).mono ?_;rintro e w1 ⟨v,l,rfl,hf,l1,l3⟩;obtain ⟨own,c1,o1,hdr⟩:=hf;have E1:=Only.ext X0 o1 (Nat.le_refl _);clear C0 o1 X0 hk l1;go_wp2_with fail;refine (toldD v l w1 (zDY own) l3 hdr).mono ?_;rintro e w2 ⟨⟨s,rfl,hs⟩,e2⟩;have TV:=zA2 w2 (pcR.map sV) 9;have X2:=x1 w2 (.cells (pcR.map sV).toArray 9);have C3:=(c1.ext e2).ext X2;have E3:=xt (xt E1 e2) X2;have hlt:=(c1.ext e2).lt;clear own c1 e2 E1 X2;go_wp2_with fail;refine (bentG 10 w.heap.size w.heap.size _ s w2.heap.size _ C3 (by omega) (by omega) (by omega) (by omega) (by omega) (pcT pcR) (pc_at TV) (fun j=>(zNK zRS j).2) (fun j _=>(zNK zRS j).1)).mono ?_;rintro e w4 ⟨s',rfl,hs',o4⟩;have E4:=Only.ext E3 o4 (Nat.le_refl _);go_wp2_with fail;go_ret;exact ⟨⟨s',rfl,hs'⟩,E4⟩
theorem zMF {n:Bool} {d e:Int} (h:zA1 n d e=true) (hd:d=0):e=0/\n=false:=by
 unfold zA1 at h;rw [if_pos hd] at h;simp at h;exact ⟨h.2,h.1⟩
theorem divS (na nb:Bool) (da ea db eb:Int) (w:World) :
  Calls Tryz.prog 118 #[.agg #[.bool na,iQ da,iQ ea],.agg #[.bool nb,iQ db,iQ eb]] w fun r w'=>r=.returned (resV (divR na da ea nb db eb))/\Ext w w':=by
 by_cases hg:(zA1 na da ea && zA1 nb db eb && !(db == 0))=true
 ·unfold divR;rw [if_pos hg];simp only [Bool.and_eq_true,Bool.not_eq_true',beq_eq_false_iff_ne] at hg;obtain ⟨⟨ga,gb⟩,hd⟩:=hg;obtain ⟨A,rfl⟩:=Int.eq_ofNat_of_zero_le (zCM ga).1;obtain ⟨B,rfl⟩:=Int.eq_ofNat_of_zero_le (zCM gb).1;rw [Int.toNat_natCast,Int.toNat_natCast];exact zTK na nb A B ea eb w ga gb (by omega)
 ·have hR:divR na da ea nb db eb=⟨false,false,0,0⟩:=by unfold divR;rw [if_neg hg];rfl
  rw [hR];have X0:=xa (xa (x1 w (.cells #[.bool na,iQ da,iQ ea] 31)) (.cells #[.bool nb,iQ db,iQ eb] 31)) (.cells #[.bool false,.bool false,iQ 0,iQ 0] 99);have Ba:=(Box3.made w (.bool na) (iQ da) (iQ ea) 31).l (xa (x1 _ (.cells #[.bool nb,iQ db,iQ eb] 31)) (.cells #[.bool false,.bool false,iQ 0,iQ 0] 99));have Bb:=(Box3.made (w.alloc (.cells #[.bool na,iQ da,iQ ea] 31)) (.bool nb) (iQ db) (iQ eb) 31).l (x1 _ (.cells #[.bool false,.bool false,iQ 0,iQ 0] 99));have Br:=Box4.made ((w.alloc (.cells #[.bool na,iQ da,iQ ea] 31)).alloc (.cells #[.bool nb,iQ db,iQ eb] 31)) (.bool false) (.bool false) (iQ 0) (iQ 0) 99;simp only [World.size_alloc] at Bb Br;clear hR;go_enter Tryz.func118,Tryz.ntmps118;go_wp2_with fail;cases ga:zA1 na da ea
  ·refine (zB5 false na da ea _ ga).mono ?_;rintro r w1 ⟨rfl,x1'⟩;obtain ⟨⟨m0,m1,m2,m3⟩,n0,n1,n2,n3⟩:=Br.l x1';clear ga hg;go_wp2_with fail;exact bodyPost_ret (v:=.agg #[.bool false,.bool false,iQ 0,iQ 0]) (by simp [results,Tryz.results118,go_sem,m0,m1,m2,m3]) rfl ⟨rfl,xset (xset (xset (xset (xt X0 x1') (by simp only;omega) _) (by simp only;omega) _) (by simp only;omega) _) (by simp only;omega) _⟩
  ·refine (zB5 true na da ea _ ga).mono ?_;rintro r w1 ⟨rfl,x1'⟩;have Bb1:=Bb.l x1';have Bb1':=Bb1;obtain ⟨⟨q0,q1,q2⟩,_⟩:=Bb1';go_wp2_with fail;cases gb:zA1 nb db eb
   ·refine (zB5 false nb db eb _ gb).mono ?_;rintro r w2 ⟨rfl,x2'⟩;obtain ⟨⟨m0,m1,m2,m3⟩,n0,n1,n2,n3⟩:=(Br.l x1').l x2';clear ga gb hg q0 q1 q2;go_wp2_with fail;exact bodyPost_ret (v:=.agg #[.bool false,.bool false,iQ 0,iQ 0]) (by simp [results,Tryz.results118,go_sem,m0,m1,m2,m3]) rfl ⟨rfl,xset (xset (xset (xset (xt (xt X0 x1') x2') (by simp only;omega) _) (by simp only;omega) _) (by simp only;omega) _) (by simp only;omega) _⟩
   ·refine (zB5 true nb db eb _ gb).mono ?_;rintro r w2 ⟨rfl,x2'⟩;have hd:db=0:=by
     refine Classical.byContradiction fun h=>hg ?_;rw [ga,gb];simpa using h
    obtain ⟨he,hn⟩:=zMF gb hd;subst hd;subst he;subst hn;obtain ⟨⟨r0,r1,r2⟩,_⟩:=Bb1.l x2';obtain ⟨⟨m0,m1,m2,m3⟩,n0,n1,n2,n3⟩:=(Br.l x1').l x2';clear ga gb hg q0 q1 q2;go_wp2_with fail;exact bodyPost_ret (v:=.agg #[.bool false,.bool false,iQ 0,iQ 0]) (by simp [results,Tryz.results118,go_sem,m0,m1,m2,m3]) rfl ⟨rfl,xset (xset (xset (xset (xt (xt X0 x1') x2') (by simp only;omega) _) (by simp only;omega) _) (by simp only;omega) _) (by simp only;omega) _⟩
theorem infoU8:(Tryz.prog.info? 5).map (fun i=>(i.zero,i.size,i.bytes))=some (some (.int .u8 0),1,1):=by kernel_rfl
theorem zVB (n:Nat) (hn:n<=2000000) (w:World) :
  (Instr.makeSlice 22 (iQ (n:Int)) (iQ (n:Int))).run Tryz.prog w=.ok (.slice (some ⟨w.heap.size,0,none⟩) n n) (w.alloc (.cells (madeCells #[.int .u8 0] (n * 1)) 5)):=by
 obtain ⟨i,hi,hzz⟩:=Option.map_eq_some_iff.1 infoU8;simp only [Prod.mk.injEq] at hzz;obtain ⟨hz,hs,hb⟩:=hzz;have hr:=run_make (P:=Tryz.prog) w 22 5 i _ Tryz.underlying22 hi hz .i64 .i64 n n (by omega) (Int.le_refl _) (by rw [hb];omega) (by omega);simp only [Int.toNat_natCast,hs] at hr;exact hr
theorem madeU (n:Nat):madeCells #[.int .u8 0] (n * 1)=(List.replicate n (Value.int .u8 0)).toArray:=by
 apply Array.ext';unfold madeCells;apply List.ext_getElem?;intro i;simp;by_cases h:i<n
 ·simp [h,Nat.mod_one]
 ·simp [h]
def mixU (m k:Nat):List Value:=List.replicate k (Value.int .u8 107)++List.replicate (m - k) (Value.int .u8 0)
theorem zNQ (m k:Nat) (h:k<=m):(mixU m k).length=m:=by simp [mixU];omega
theorem zSQ (m k:Nat) (h:k<m):(mixU m k).set k (.int .u8 107)=mixU m (k+1):=by
 unfold mixU;obtain ⟨j,rfl⟩:∃ j,m=k+1+j:=⟨m - k - 1,by omega⟩;rw [show k+1+j - k=j+1 by omega,show k+1+j - (k+1)=j by omega,List.replicate_succ,List.set_append_right _ _ (by simp)];simp [List.replicate_succ']
theorem zV8 (m:Nat):mixU m m=List.replicate m (.int .u8 107):=by simp [mixU]
theorem zS9 (b base K:Nat) (k:Int) (n:Bool) (d x:Int) (t:List UInt8) (w:World) (h:Cur w b base K) (hK:K<=900000) (d0:0<=d) (d1:d<1000000000000000) (ht:t.length<=2000) :
  Calls Tryz.prog 30 #[.pointer (some ⟨b,0,none⟩),valV k n d x t] w fun e w'=>zOD e/\Cur w' b base (K+10)/\Only b w w':=by
 have bl:=h.lt;have bb:=h.baseC;obtain ⟨u0,u1,h0,h1,s0,s1,B0,B1,X⟩:=mkB2 w [iQ k,.bool n,iQ d,iQ x,sV t] [iQ 0,.bool false,iQ 0,iQ 0,sV []] 33 33;have C0:=h.ext X;go_enter Tryz.func30,Tryz.ntmps30;go_wp2_with fail;clear h0 h1;refine (zBA b base K 40 _ C0 (by omega) (by omega) (by omega)).mono ?_;rintro e w1 ⟨y,rfl,⟨y0,y9⟩,C1,o1⟩;have V0:=o1.vecC (by omega) B0;have V1:=o1.vecC (by omega) B1;have O1:=(Only.of_ext X).trans o1;clear C0 o1 X B0 B1 s0 s1;by_cases q0:y=0
 ·subst q0;clear y0 y9;go_wp2_with fail;refine (zBA b base _ 7 _ C1 (by omega) (by omega) (by omega)).mono ?_;rintro e w2 ⟨z,rfl,⟨z0,z9⟩,C1,o1⟩;have V0:=o1.vecC (by omega) V0;have V1:=o1.vecC (by omega) V1;have O1:=O1.trans o1;clear o1;obtain ⟨b0,fb0⟩:=V0 0 _ rfl;have V2:Vec (w2.setCell ⟨w.heap.size,0,none⟩ (iQ (z - 1))) w.heap.size [iQ (z - 1),.bool n,iQ d,iQ x,sV t]:=V0.put 0 (by simp) _;have V1:=V1.far (p:=⟨w.heap.size,0,none⟩) (by show w.heap.size ≠ _;omega) (iQ (z - 1));have C1:=C1.far (g:=w.heap.size) (i:=0) (by omega) (by omega) (iQ (z - 1));have O1:=O1.setNew (g:=w.heap.size) (i:=0) (Nat.le_refl _) (iQ (z - 1));obtain ⟨ws,hs⟩:=nm (w2.setCell ⟨w.heap.size,0,none⟩ (iQ (z - 1)));rw [hs] at V1 V2 C1 O1;have V0:=V2;clear V2;obtain ⟨a0,a1,a2,a3,a4⟩:=Vec.five (V0);obtain ⟨wy,hy,OF,CF,_,⟨b0,b1,b2,b3,b4⟩,⟨fb0,fb1,fb2,fb3,fb4⟩,fd0,fd1,fd2,fd3,fd4⟩:=zFX V1 C1 O1 (Nat.le_succ _) (by omega) (by omega) (z - 1) n d x t;go_wp2_with fail;exact bodyPost_ret (v:=valV (z - 1) n d x t) (by simp [results,Tryz.results30,go_sem,fd0,fd1,fd2,fd3,fd4]) rfl ⟨⟨_,_,_,_,_,rfl,d0,d1,ht⟩,CF.more (by omega),OF⟩
 ·have e0:(y == 0)=false:=by simpa using q0
  by_cases q1:y=1
  ·subst q1;clear y0 y9;obtain ⟨b4,fb4⟩:=V0 4 _ rfl;have V2:Vec (w1.setCell ⟨w.heap.size,4,none⟩ (sV [97,9,98])) w.heap.size [iQ k,.bool n,iQ d,iQ x,sV [97,9,98]]:=V0.put 4 (by simp) _;have V1:=V1.far (p:=⟨w.heap.size,4,none⟩) (by show w.heap.size ≠ _;omega) (sV [97,9,98]);have C1:=C1.far (g:=w.heap.size) (i:=4) (by omega) (by omega) (sV [97,9,98]);have O1:=O1.setNew (g:=w.heap.size) (i:=4) (Nat.le_refl _) (sV [97,9,98]);obtain ⟨ws,hs⟩:=nm (w1.setCell ⟨w.heap.size,4,none⟩ (sV [97,9,98]));rw [hs] at V1 V2 C1 O1;have V0:=V2;clear V2;obtain ⟨a0,a1,a2,a3,a4⟩:=Vec.five (V0);obtain ⟨wy,hy,OF,CF,_,⟨b0,b1,b2,b3,b4⟩,⟨fb0,fb1,fb2,fb3,fb4⟩,fd0,fd1,fd2,fd3,fd4⟩:=zFX V1 C1 O1 (Nat.le_succ _) (by omega) (by omega) k n d x ([97,9,98]);go_wp2_with fail;exact bodyPost_ret (v:=valV k n d x ([97,9,98])) (by simp [results,Tryz.results30,go_sem,fd0,fd1,fd2,fd3,fd4]) rfl ⟨⟨_,_,_,_,_,rfl,d0,d1,by simp⟩,CF.more (by omega),OF⟩
  ·have e1:(y == 1)=false:=by simpa using q1
   by_cases q2:y=2
   ·subst q2;clear y0 y9;obtain ⟨b2,fb2⟩:=V0 2 _ rfl;have V2:Vec (w1.setCell ⟨w.heap.size,2,none⟩ (iQ 10)) w.heap.size [iQ k,.bool n,iQ 10,iQ x,sV t]:=V0.put 2 (by simp) _;have V1:=V1.far (p:=⟨w.heap.size,2,none⟩) (by show w.heap.size ≠ _;omega) (iQ 10);have C1:=C1.far (g:=w.heap.size) (i:=2) (by omega) (by omega) (iQ 10);have O1:=O1.setNew (g:=w.heap.size) (i:=2) (Nat.le_refl _) (iQ 10);obtain ⟨ws,hs⟩:=nm (w1.setCell ⟨w.heap.size,2,none⟩ (iQ 10));rw [hs] at V1 V2 C1 O1;have V0:=V2;clear V2;obtain ⟨a0,a1,a2,a3,a4⟩:=Vec.five (V0);obtain ⟨wy,hy,OF,CF,_,⟨b0,b1,b2,b3,b4⟩,⟨fb0,fb1,fb2,fb3,fb4⟩,fd0,fd1,fd2,fd3,fd4⟩:=zFX V1 C1 O1 (Nat.le_succ _) (by omega) (by omega) k n 10 x t;go_wp2_with fail;exact bodyPost_ret (v:=valV k n 10 x t) (by simp [results,Tryz.results30,go_sem,fd0,fd1,fd2,fd3,fd4]) rfl ⟨⟨_,_,_,_,_,rfl,by omega,by omega,ht⟩,CF.more (by omega),OF⟩
   ·have e2:(y == 2)=false:=(by simpa using q2);by_cases q3:y=3
    ·subst q3;clear y0 y9;go_wp2_with fail;refine (zBA b base _ 3 _ C1 (by omega) (by omega) (by omega)).mono ?_;rintro e w2 ⟨z,rfl,⟨z0,z9⟩,C1,o1⟩;have V0:=o1.vecC (by omega) V0;have V1:=o1.vecC (by omega) V1;have O1:=O1.trans o1;clear o1;obtain ⟨m,hm⟩:∃ m:Nat,999+z=(m:Int):=⟨(999+z).toNat,by omega⟩;have hmk:=zVB m (by omega) w2;rw [madeU] at hmk;have hb2:=C1.lt;have hs2:w.heap.size+1<w2.heap.size:=World.block_lt_of_cell? _ _ (V1 0 _ rfl).1;have EM:=x1 w2 (.cells (List.replicate m (Value.int .u8 0)).toArray 5);have VM:=zA2 w2 (List.replicate m (Value.int .u8 0)) 5;obtain ⟨w3,h3⟩:=nm (w2.alloc (.cells (List.replicate m (Value.int .u8 0)).toArray 5));rw [h3] at hmk EM VM;have C1:=C1.ext EM;have V1:=V1.l EM;have O1:=O1.trans (Only.of_ext EM);have hwz:IntKind.i64.wrap (999+z)=(m:Int):=(by rw [hm,IntKind.wrap_i64];omega);obtain ⟨g,hg⟩:=nm (w2.heap.size);rw [hg] at hmk VM hs2 hb2;have HV0:Hid (Vec w3 g (mixU m 0)/\Vec w3 (w.heap.size+1) [iQ 0,.bool false,iQ 0,iQ 0,sV []]/\Cur w3 b base (K+2+2)/\Only b w w3):=⟨by unfold mixU;exact VM,V1,C1,O1⟩;clear VM V1 C1 O1 EM V0;go_wp2_with fail;clear hmk h3;go_loopw [30] (fun i wr=>∃ q:Nat,q<=m/\i=.int .i64 q/\Hid (Vec wr g (mixU m q)/\Vec wr (w.heap.size+1) [.int .i64 0,.bool false,.int .i64 0,.int .i64 0,sV []]/\Cur wr b base (K+2+2)/\Only b w wr)) (fun i _=>m - (intOf i).toNat)
     case atStart=>exact ⟨0,by omega,rfl,HV0⟩
     case round =>
      obtain ⟨q,hq,rfl,HV⟩:=hrel;obtain ⟨VM,V1,C1,O1⟩:=HV.out;clear HV0;by_cases hlt:q<m
      ·have i2:(q:Int)<(m:Int):=(by omega);obtain ⟨a0,f0⟩:=VM q _ (List.getElem?_eq_getElem (by rw [zNQ m q hq];exact hlt));have VN:Vec (wr.setCell ⟨g,q,none⟩ (.int .u8 107)) g (mixU m (q+1)):=(by rw [<- zSQ m q hlt];exact VM.put q (by rw [zNQ m q hq];exact hlt) _);have V1:=V1.far (p:=⟨g,q,none⟩) (by show g ≠ _;omega) (.int .u8 107);have C1:=C1.far (g:=g) (i:=q) (by omega) (by omega) (.int .u8 107);have O1:=O1.setNew (g:=g) (i:=q) (by omega) (.int .u8 107);obtain ⟨ws,hs⟩:=nm (wr.setCell ⟨g,q,none⟩ (.int .u8 107));rw [hs] at VN V1 C1 O1;have HVn:Hid (Vec ws g (mixU m (q+1))/\Vec ws (w.heap.size+1) [iQ 0,.bool false,iQ 0,iQ 0,sV []]/\Cur ws b base (K+2+2)/\Only b w ws):=⟨VN,V1,C1,O1⟩;clear VM VN V1 C1 O1 HV;go_wp2_with fail;go_roundw
       case rel=>exact ⟨q+1,by omega,by go_num,HVn⟩
       case measure=>simp [intOf];omega
      ·obtain rfl:q=m:=(by omega);rw [zV8] at VM;have hcv:=run_convert_bytes_back (P:=Tryz.prog) wr 22 9 5 ⟨g,0,none⟩ q (List.replicate q 107) Tryz.underlying22 Tryz.underlying5 Tryz.underlying9 (fun j hj=>by
        have hj':j<q:=(by simpa using hj);have:=(VM j (.int .u8 107) (by rw [List.getElem?_replicate,if_pos hj'])).1;rw [show (⟨g,0,none⟩:Addr).add j=⟨g,j,none⟩ by unfold Addr.add;split <;> simp_all,this];simp)
       rw [List.length_replicate] at hcv;obtain ⟨tx,htx⟩:=nm (List.replicate q (107:UInt8));have hlx:tx.length<=2000:=(by rw [<- htx,List.length_replicate];omega);rw [htx] at hcv;clear htx VM HV;go_wp2_with fail;clear hcv;refine (zIN tx wr).mono ?_;rintro e w8 ⟨rfl,E⟩;have C1:=C1.ext E;have V1:=V1.l E;have O1:=O1.trans (Only.of_ext E);clear E;obtain ⟨wy,hy,OF,CF,_,⟨b0,b1,b2,b3,b4⟩,⟨fb0,fb1,fb2,fb3,fb4⟩,fd0,fd1,fd2,fd3,fd4⟩:=zFX V1 C1 O1 (Nat.le_succ _) (by omega) (by omega) 2 false 0 0 tx;go_wp2_with fail;exact bodyPost_ret (v:=valV 2 false 0 0 tx) (by simp [results,Tryz.results30,go_sem,fd0,fd1,fd2,fd3,fd4]) rfl ⟨⟨_,_,_,_,_,rfl,by omega,by omega,hlx⟩,CF.more (by omega),OF⟩
    ·have e3:(y == 3)=false:=(by simpa using q3);obtain ⟨a0,a1,a2,a3,a4⟩:=Vec.five (V0);obtain ⟨wy,hy,OF,CF,_,⟨b0,b1,b2,b3,b4⟩,⟨fb0,fb1,fb2,fb3,fb4⟩,fd0,fd1,fd2,fd3,fd4⟩:=zFX V1 C1 O1 (Nat.le_succ _) (by omega) (by omega) k n d x t;go_wp2_with fail;exact bodyPost_ret (v:=valV k n d x t) (by simp [results,Tryz.results30,go_sem,fd0,fd1,fd2,fd3,fd4]) rfl ⟨⟨_,_,_,_,_,rfl,d0,d1,ht⟩,CF.more (by omega),OF⟩
abbrev zSA:List UInt8:=[35,78,85,77,33]
abbrev divU:List UInt8:=[35,68,73,86,47,48,33]
abbrev evU (l:List UInt8):Value:=valV 4 false 0 0 l
def putU (r:DR):Value:=if r.ok=true then valV 1 r.neg r.d r.e [] else evU zSA
theorem Vec.putU {w:World} {b:Nat} {v0 v1 v2 v3:Value} (h:Vec w b [v0,v1,v2,v3]) (u0 u1 u2 u3:Value):Vec ((((w.setCell ⟨b,0,none⟩ u0).setCell ⟨b,1,none⟩ u1).setCell ⟨b,2,none⟩ u2).setCell ⟨b,3,none⟩ u3) b [u0,u1,u2,u3]:=
 (((h.put 0 (by simp) u0).put 1 (by simp) u1).put 2 (by simp) u2).put 3 (by simp) u3
theorem zK7 {a w:World} {b:Nat} (h:Ext a w) (hb:a.heap.size<=b) (u0 u1 u2 u3:Value):Ext a ((((w.setCell ⟨b,0,none⟩ u0).setCell ⟨b,1,none⟩ u1).setCell ⟨b,2,none⟩ u2).setCell ⟨b,3,none⟩ u3):=
 xset (p:=⟨b,3,none⟩) (xset (p:=⟨b,2,none⟩) (xset (p:=⟨b,1,none⟩) (xset (p:=⟨b,0,none⟩) h hb _) hb _) hb _) hb _
theorem Vec.farU {w:World} {b k:Nat} {l:List Value} (hk:b ≠ k) (u0 u1 u2 u3:Value) (h:Vec w k l):Vec ((((w.setCell ⟨b,0,none⟩ u0).setCell ⟨b,1,none⟩ u1).setCell ⟨b,2,none⟩ u2).setCell ⟨b,3,none⟩ u3) k l:=
 Vec.farL (k:=b) hk [u0,u1,u2,u3] 0 h
theorem overU (n:Bool) (d e:Int) (n':Bool) (d' e':Int) (w:World)  :
  Calls Tryz.prog 65 #[sV [47],decV n d e,decV n' d' e'] w fun rr w'=>rr=.returned ((if d'=0 then evU divU else putU (divR n d e n' d' e')))/\Ext w w':=by
 by_cases h00:d'=0
 ·rw [if_pos h00];subst h00;have HR:Hid (evU divU=evU divU):=rfl;obtain ⟨u0,u1,u2,u3,h0,h1,h2,h3,s0,s1,s2,s3,B0,B1,B2,B3,X⟩:=mkB4 w [.bool n,iQ d,iQ e] [.bool n',iQ 0,iQ e'] [iQ 0,.bool false,iQ 0,iQ 0,sV []] [.bool false,.bool false,iQ 0,iQ 0] 31 31 33 99;obtain ⟨wz,hz⟩:=nm (u3);rw [hz] at h3 s3 B0 B1 B2 B3 X;clear hz;have BQ:=B3.putU (.bool false) (.bool false) (iQ 0) (iQ 0);have XQ:=zK7 (b:=w.heap.size+1+1+1) X (by omega) (.bool false) (.bool false) (iQ 0) (iQ 0);have D0:=Vec.farU (b:=w.heap.size+1+1+1) (by omega) (.bool false) (.bool false) (iQ 0) (iQ 0) B0;have D1:=Vec.farU (b:=w.heap.size+1+1+1) (by omega) (.bool false) (.bool false) (iQ 0) (iQ 0) B1;have D2:=Vec.farU (b:=w.heap.size+1+1+1) (by omega) (.bool false) (.bool false) (iQ 0) (iQ 0) B2;obtain ⟨wq,hq⟩:=nm (((((wz.setCell ⟨w.heap.size+1+1+1,0,none⟩ (.bool false)).setCell ⟨w.heap.size+1+1+1,1,none⟩ (.bool false)).setCell ⟨w.heap.size+1+1+1,2,none⟩ (iQ 0)).setCell ⟨w.heap.size+1+1+1,3,none⟩ (iQ 0)));rw [hq] at BQ XQ D0 D1 D2;obtain ⟨z0,z1,z2,z3⟩:=B3.four;obtain ⟨y0,y1,y2,y3⟩:=B3.fourF;have X:=XQ;clear B0 B1 B2 B3 XQ;obtain ⟨a0,a1,a2⟩:=Vec.three (D0);obtain ⟨c0,c1,c2⟩:=Vec.three (D1);go_enter Tryz.func65,Tryz.ntmps65;go_wp2_with fail;clear h0 h1 h2 h3 s0 s1 s2 s3 hq z0 y0 z1 y1 z2 y2 z3 y3 a0 a1 a2 c0 c1 c2;refine (zVX divU wq).mono ?_;rintro rr w2 ⟨rfl,e2⟩;obtain ⟨wy,hy,FX,⟨b0,b1,b2,b3,b4⟩,⟨fb0,fb1,fb2,fb3,fb4⟩,fd0,fd1,fd2,fd3,fd4⟩:=fin5 (D2.l e2) (xt X e2) (by omega) 4 false 0 0 divU;go_wp2_with fail;exact bodyPost_ret (v:=valV 4 false 0 0 divU) (by simp [results,Tryz.results65,go_sem,fd0,fd1,fd2,fd3,fd4]) rfl ⟨rfl,FX⟩
 ·rw [if_neg h00];have hd0:(d' == 0)=false:=by simpa using h00
  obtain ⟨⟨rk,rn,rd,re⟩,hr⟩:∃ r,divR n d e n' d' e'=r:=⟨_,rfl⟩;have HP:Hid (∀ W,Calls Tryz.prog 118 #[decV n d e,decV n' d' e'] W fun r w'=>r=.returned (.agg #[.bool rk,.bool rn,iQ rd,iQ re])/\Ext W w'):=fun W=>by have:=divS n n' d e d' e' W;rw [hr] at this;exact this
  rw [hr];clear hr;obtain ⟨R,hR⟩:=nm (putU ⟨rk,rn,rd,re⟩);have HV:Hid (putU ⟨rk,rn,rd,re⟩=R):=hR;rw [hR];clear hR;obtain ⟨u0,u1,u2,u3,h0,h1,h2,h3,s0,s1,s2,s3,B0,B1,B2,B3,X⟩:=mkB4 w [.bool n,iQ d,iQ e] [.bool n',iQ d',iQ e'] [iQ 0,.bool false,iQ 0,iQ 0,sV []] [.bool false,.bool false,iQ 0,iQ 0] 31 31 33 99;obtain ⟨wz,hz⟩:=nm (u3);rw [hz] at h3 s3 B0 B1 B2 B3 X;clear hz;have BQ:=B3.putU (.bool false) (.bool false) (iQ 0) (iQ 0);have XQ:=zK7 (b:=w.heap.size+1+1+1) X (by omega) (.bool false) (.bool false) (iQ 0) (iQ 0);have D0:=Vec.farU (b:=w.heap.size+1+1+1) (by omega) (.bool false) (.bool false) (iQ 0) (iQ 0) B0;have D1:=Vec.farU (b:=w.heap.size+1+1+1) (by omega) (.bool false) (.bool false) (iQ 0) (iQ 0) B1;have D2:=Vec.farU (b:=w.heap.size+1+1+1) (by omega) (.bool false) (.bool false) (iQ 0) (iQ 0) B2;obtain ⟨wq,hq⟩:=nm (((((wz.setCell ⟨w.heap.size+1+1+1,0,none⟩ (.bool false)).setCell ⟨w.heap.size+1+1+1,1,none⟩ (.bool false)).setCell ⟨w.heap.size+1+1+1,2,none⟩ (iQ 0)).setCell ⟨w.heap.size+1+1+1,3,none⟩ (iQ 0)));rw [hq] at BQ XQ D0 D1 D2;obtain ⟨z0,z1,z2,z3⟩:=B3.four;obtain ⟨y0,y1,y2,y3⟩:=B3.fourF;have X:=XQ;clear B0 B1 B2 B3 XQ;obtain ⟨a0,a1,a2⟩:=Vec.three (D0);obtain ⟨c0,c1,c2⟩:=Vec.three (D1);go_enter Tryz.func65,Tryz.ntmps65;go_wp2_with fail;clear h0 h1 h2 h3 s0 s1 s2 s3 hq z0 y0 z1 y1 z2 y2 z3 y3 a0 a1 a2 c0 c1 c2;refine (HP.out wq).mono ?_;rintro rr w2 ⟨rfl,e2⟩;have GQ:=(BQ.l e2).putU (.bool rk) (.bool rn) (iQ rd) (iQ re);have GX:=zK7 (a:=w) (b:=w.heap.size+1+1+1) (xt X e2) (by omega) (.bool rk) (.bool rn) (iQ rd) (iQ re);have G2:=Vec.farU (b:=w.heap.size+1+1+1) (by omega) (.bool rk) (.bool rn) (iQ rd) (iQ re) (D2.l e2);obtain ⟨wg,hgw⟩:=nm (((((w2.setCell ⟨w.heap.size+1+1+1,0,none⟩ (.bool rk)).setCell ⟨w.heap.size+1+1+1,1,none⟩ (.bool rn)).setCell ⟨w.heap.size+1+1+1,2,none⟩ (iQ rd)).setCell ⟨w.heap.size+1+1+1,3,none⟩ (iQ re)));rw [hgw] at GQ GX G2;obtain ⟨m0,m1,m2,m3⟩:=Vec.four (BQ.l e2);obtain ⟨o0,o1,o2,o3⟩:=Vec.fourF (BQ.l e2);obtain ⟨r0,r1,r2,r3⟩:=Vec.four GQ;cases rk
  ·have HV2:=HV;go_wp2_with fail;clear hgw m0 o0 r0 m1 o1 r1 m2 o2 r2 m3 o3 r3;refine (zVX zSA wg).mono ?_;rintro rr w8 ⟨rfl,e8⟩;obtain ⟨wy,hy,FX,⟨b0,b1,b2,b3,b4⟩,⟨fb0,fb1,fb2,fb3,fb4⟩,fd0,fd1,fd2,fd3,fd4⟩:=fin5 (G2.l e8) (xt GX e8) (by omega) 4 false 0 0 zSA;go_wp2_with fail;exact bodyPost_ret (v:=valV 4 false 0 0 zSA) (by simp [results,Tryz.results65,go_sem,fd0,fd1,fd2,fd3,fd4]) rfl ⟨congrArg Ending.returned HV2.out,FX⟩
  ·have HV2:=HV;go_wp2_with fail;clear hgw m0 o0 r0 m1 o1 r1 m2 o2 r2 m3 o3 r3;refine (zSC rn rd re wg).mono ?_;rintro rr w8 ⟨rfl,e8⟩;obtain ⟨wy,hy,FX,⟨b0,b1,b2,b3,b4⟩,⟨fb0,fb1,fb2,fb3,fb4⟩,fd0,fd1,fd2,fd3,fd4⟩:=fin5 (G2.l e8) (xt GX e8) (by omega) 1 rn rd re [];go_wp2_with fail;exact bodyPost_ret (v:=valV 1 rn rd re []) (by simp [results,Tryz.results65,go_sem,fd0,fd1,fd2,fd3,fd4]) rfl ⟨congrArg Ending.returned HV2.out,FX⟩
theorem isErrT (k:Int) (n:Bool) (d x:Int) (t:List UInt8) (w:World) :
  Calls Tryz.prog 64 #[valV k n d x t] w fun e w'=>e=.returned (.bool (decide (k=4)))/\Ext w w':=by
 have X0:=x1 w (.cells #[iQ k,.bool n,iQ d,iQ x,sV t] 33);have B0:=zA2 w (valL k n d x t) 33;change Vec (w.alloc (.cells #[iQ k,.bool n,iQ d,iQ x,sV t] 33)) _ _ at B0;obtain ⟨a0,a1,a2,a3,a4⟩:=Vec.five B0;have e:decide (k=4)=(k == 4):=rfl;rw [e];clear e;go_enter Tryz.func64,Tryz.ntmps64;go_wp2_with fail;go_ret;exact ⟨rfl,X0⟩
theorem zPF (n:Bool) (d x:Int) (n':Bool) (d' x':Int):zOD (.returned (if d'=0 then evU divU else putU (divR n d x n' d' x'))):=by
 split
 ·exact ⟨4,false,0,0,divU,rfl,by omega,by omega,by decide⟩
 ·unfold putU
  split
  ·have hd:0<=(divR n d x n' d' x').d/\(divR n d x n' d' x').d<1000000000000000:=by
    unfold divR
    split
    ·exact put_d _ _ _ _
    ·exact ⟨by decide,by decide⟩
   exact ⟨1,_,_,_,[],rfl,hd.1,hd.2,by decide⟩
  ·exact ⟨4,false,0,0,zSA,rfl,by omega,by omega,by decide⟩
theorem stepT (n:Bool) (d x:Int) (n':Bool) (d' x':Int) (w:World) :
  Calls Tryz.prog 32 #[sV [47],valV 1 n d x [],valV 1 n' d' x' []] w fun e w'=>zOD e/\Ext w w':=by
 obtain ⟨u0,u1,u2,h0,h1,h2,s0,s1,s2,B0,B1,B2,X⟩:=mkB3 w [iQ 1,.bool n,iQ d,iQ x,sV []] [iQ 1,.bool n',iQ d',iQ x',sV []] [iQ 0,.bool false,iQ 0,iQ 0,sV []] 33 33 33;obtain ⟨k2,n2,d2,x2,t2,hr,g1,g2,g3⟩:=zPF n d x n' d' x';have HO:Hid (∀ W,Calls Tryz.prog 65 #[sV [47],decV n d x,decV n' d' x'] W fun rr w'=>rr=.returned (valV k2 n2 d2 x2 t2)/\Ext W w'):=fun W=>by
  have:=overU n d x n' d' x' W;rw [hr] at this;exact this
 have C1:=isErrT 1 n d x [] u2;have C2:=fun W=>isErrT 1 n' d' x' [] W;rw [show decide ((1:Int)=4)=false by decide] at C1;simp only [show decide ((1:Int)=4)=false by decide] at C2;obtain ⟨a0,a1,a2,a3,a4⟩:=Vec.five B0;clear hr;go_enter Tryz.func32,Tryz.ntmps32;go_wp2_with fail;clear a0 a1 a2 a3 a4 h0 h1 h2 s0 s1 s2;refine C1.mono ?_;rintro rr w1 ⟨rfl,e1⟩;obtain ⟨c0,c1,c2,c3,c4⟩:=Vec.five (B1.l e1);go_wp2_with fail;clear c0 c1 c2 c3 c4;refine (C2 w1).mono ?_;rintro rr w2 ⟨rfl,e2⟩;obtain ⟨a0,a1,a2,a3,a4⟩:=Vec.five ((B0.l e1).l e2);obtain ⟨c0,c1,c2,c3,c4⟩:=Vec.five ((B1.l e1).l e2);go_wp2_with fail;clear a0 a1 a2 a3 a4 c0 c1 c2 c3 c4;refine (HO.out w2).mono ?_;rintro rr w3 ⟨rfl,e3⟩;obtain ⟨wy,hy,FX,⟨b0,b1,b2,b3,b4⟩,⟨fb0,fb1,fb2,fb3,fb4⟩,fd0,fd1,fd2,fd3,fd4⟩:=fin5 (((B2.l e1).l e2).l e3) (xt (xt (xt X e1) e2) e3) (by omega) k2 n2 d2 x2 t2;go_wp2_with fail;exact bodyPost_ret (v:=valV k2 n2 d2 x2 t2) (by simp [results,Tryz.results32,go_sem,fd0,fd1,fd2,fd3,fd4]) rfl ⟨⟨_,_,_,_,_,rfl,g1,g2,g3⟩,FX⟩
end Go.Proofs.YtjlojlgdkfpcdaaGreatDoor

