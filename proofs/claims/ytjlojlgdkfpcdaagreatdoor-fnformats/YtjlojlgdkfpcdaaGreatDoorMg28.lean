/-
  Several texts in one: Sc2, Kb, Kd, Kw, K3.
-/
import Derived.Test.YtjlojlgdkfpcdaaGreatDoorMg23
import Derived.Test.YtjlojlgdkfpcdaaGreatDoorMg27
import Derived.Test.YtjlojlgdkfpcdaaGreatDoorMg24
import Derived.Test.YtjlojlgdkfpcdaaGreatDoorMg22
import Derived.Test.YtjlojlgdkfpcdaaGreatDoorMg16
import Derived.Test.YtjlojlgdkfpcdaaGreatDoorMg26
import Derived.Test.YtjlojlgdkfpcdaaGreatDoorMg3
import Derived.Deep.RegionHeld3
import Derived.Test.YtjlojlgdkfpcdaaGreatDoorKu
set_option maxRecDepth 8000
set_option maxHeartbeats 8000000
namespace Go.Proofs.YtjlojlgdkfpcdaaGreatDoor
open Go.RowKit
def zGY (w:World) (g:Nat) (l:List BLs):Prop:=∀ (i:Nat) m,l[i]?=some m->w.cell? ⟨g,i,none⟩=some (sV m)
theorem zGY.l {w w':World} {g:Nat} {l:List BLs} (h:zGY w g l) (x:Ext w w'):zGY w' g l:=fun i m hi=>cell_later x (h i m hi)
theorem zUX {w:World} {base:Nat} {v:Value} {l:List BL} (h:OwnT w base v l) (h0:l ≠ []):∃ g c,v=.slice (some ⟨g,0,none⟩) l.length c/\l.length<=c/\zGY w g l:=by
 rcases h.2 with ⟨rfl,hl⟩ | ⟨g,cap,cur,rfl,_,_,hc,_⟩
 ·exact absurd (List.length_eq_zero_iff.1 hl) h0
 ·refine ⟨g,cap,rfl,hc,fun i m hi=>?_⟩;have:=h.cells (g:=g) rfl i (sV m) (by rw [List.getElem?_map,hi];rfl);rw [Addr.add_lit,Nat.zero_add] at this;exact this
theorem absS (y:Int) (w:World) (h0 : -9999<=y) (h1:y<=9999):Calls Tryz.prog 88 #[iQ y,iQ (-y)] w fun e w'=>e=.returned (iQ (y.natAbs:Int))/\w'=w:=by
 by_cases h:y < -y
 ·have e1:(y.natAbs:Int) = -y:=by omega
  have h2:¬ (-y<=y):=by omega
  rw [e1];go_enter Tryz.func88,Tryz.ntmps88
  go_wp2
  all_goals go_ret
  all_goals first | exact ⟨rfl,rfl⟩ | (exfalso;simp_all;omega) | (refine ⟨zA8 ?_,rfl⟩;omega)
 ·have e1:(y.natAbs:Int)=y:=by omega
  rw [e1];go_enter Tryz.func88,Tryz.ntmps88
  go_wp2
  all_goals go_ret
  all_goals first | exact ⟨rfl,rfl⟩ | (exfalso;simp_all;omega) | (refine ⟨zA8 ?_,rfl⟩;omega)
theorem isErrS8 (k:Int) (n:Bool) (d x:Int) (t:List UInt8) (w:World) :
  Calls Tryz.prog 64 #[valV k n d x t] w fun e w'=>e=.returned (.bool (decide (k=4)))/\Ext w w':=by
 have X0:=x1 w (.cells #[iQ k,.bool n,iQ d,iQ x,sV t] 33);have B0:=zA2 w (valL k n d x t) 33;change Vec (w.alloc (.cells #[iQ k,.bool n,iQ d,iQ x,sV t] 33)) _ _ at B0;have a0:=vC5 B0;have e:decide (k=4)=(k == 4):=rfl;rw [e];clear e;go_enter Tryz.func64,Tryz.ntmps64;go_wp2_with fail;go_ret;exact ⟨rfl,X0⟩
theorem zMJ (ok n:Bool) (d x:Int) (W:World):(Instr.field 99 (.agg #[.bool ok,.bool n,iQ d,iQ x]) 1).run Tryz.prog W=.ok (decV n d x) W:=by kernel_rfl
noncomputable def zBS (n:Bool) (d e:Int) (ps:List BLs):BLs:=
 let F:=zAL n d e
 let z:=intR F.neg F.d F.e
 let R:=secR n d e F.neg F.d F.e
 if (zCF F.neg F.d F.e && decide (-1000000<=z/\z<=1000000))=true then zCH (ymdZ z).1 (ymdZ z).2.1 (ymdZ z).2.2 (intR R.neg R.d R.e) ps else [35]
theorem zKL {l:List BLs} {k:Nat} {m:BLs} (h:l[k]?=some m):l.take (k+1)=l.take k++[m]:=by
 rw [List.take_add_one,h];rfl
theorem zQJ {m:BLs} (h:m ∈ zAG):m=[121,121,121,121]\/m=[121,121]\/m=[109,109]\/m=[109]\/m=[100,100]\/m=[100]\/m=[104,104]\/m=[110,110]\/m=[115,115]\/m=[45]\/m=[47]\/m=[58]\/m=[46]\/m=[32]:=by
 simpa [zAG] using h
theorem zH7 (n:Bool) (d e:Int) (g:zA1 n d e=true) (dt:BLs) (ps:List BLs) (hp:zA6 dt.length dt=some ps) (hps:1<=ps.length/\ps.length<=12) (hl:dt.length<=1000) (w:World) :
  Calls Tryz.prog 39 #[decV n d e,sV dt] w fun r w'=>r=.returned (sV (zBS n d e ps))/\Ext w w':=by
 obtain ⟨A,hA⟩:=nm (zBS n d e ps);have HA:Hid (zBS n d e ps=A):=hA;rw [hA];clear hA;obtain ⟨sf,s0,s1⟩:=zHI n d e g;obtain ⟨F,hF⟩:=nm (zAL n d e);rw [hF] at sf s0 s1;have HF:=hid hF;obtain ⟨fok,fn,fd,fe⟩:=F;have sf:fok=true:=sf;subst sf;obtain ⟨S,hS⟩:=nm (subR n d e fn fd fe);obtain ⟨P,hP⟩:=nm (mulR S.neg S.d S.e false 864 2);obtain ⟨R,hR⟩:=nm (zAB P.neg P.d P.e 0 2);have hQ:secR n d e fn fd fe=R:=by rw [<- hR,<- hP,<- hS];rfl
 obtain ⟨z,hz⟩:=nm (intR fn fd fe);obtain ⟨zk,hzk⟩:=nm (zCF fn fd fe);obtain ⟨sc,hsc⟩:=nm (intR R.neg R.d R.e);obtain ⟨sck,hsck⟩:=nm (zCF R.neg R.d R.e);have s0:0<=sc:=by rw [<- hsc,<- hQ];exact s0
 have s1:sc<=1000000:=by rw [<- hsc,<- hQ];exact s1
 have HD:Hid (A=if (zk && decide (-1000000<=z/\z<=1000000))=true then zCH (ymdZ z).1 (ymdZ z).2.1 (ymdZ z).2.2 sc ps else [35]):=by
  show A=_;rw [<- HA.out];unfold zBS;simp only [HF.out,hQ,hz,hzk,hsc]
 obtain ⟨k1,hk1⟩:∃ k:Int,1=k:=⟨_,rfl⟩;obtain ⟨t1,ht1⟩:∃ t:List UInt8,[]=t:=⟨_,rfl⟩;have CI:Hid (∀ W,Calls Tryz.prog 80 #[decV n d e] W fun r w'=>r=.returned (valV k1 fn fd fe t1)/\Ext W w'):=fun W=>by
  have h:=l7IntS n d e W;rw [HF.out] at h;rw [<- hk1,<- ht1];exact h
 have CN:Hid (∀ W,Calls Tryz.prog 81 #[decV fn fd fe] W fun r w'=>r=.returned (.tuple #[iQ z,.bool zk])/\Ext W w'):=fun W=>by rw [<- hz,<- hzk];exact intS fn fd fe W
 have CE:Hid (∀ W,Calls Tryz.prog 64 #[valV k1 fn fd fe t1] W fun r w'=>r=.returned (.bool false)/\Ext W w'):=fun W=>by
  have h:=isErrS8 k1 fn fd fe t1 W;rw [<- hk1] at h ⊢;exact h
 have CS:Hid (∀ W,Calls Tryz.prog 83 #[decV n d e,decV fn fd fe] W fun r w'=>r=.returned (resV S)/\Ext W w'):=fun W=>by rw [<- hS];exact subSpec n fn d e fd fe W
 have CM:Hid (∀ W,Calls Tryz.prog 85 #[decV S.neg S.d S.e,decV false 864 2] W fun r w'=>r=.returned (resV P)/\Ext W w'):=fun W=>by rw [<- hP];exact mulS S.neg false S.d S.e 864 2 W
 have CR:Hid (∀ W,Calls Tryz.prog 84 #[decV P.neg P.d P.e,iQ 0,iQ 2] W fun r w'=>r=.returned (resV R)/\Ext W w'):=fun W=>by rw [<- hR];exact zRB P.neg P.d P.e 0 2 W
 have CJ:Hid (∀ W,Calls Tryz.prog 81 #[decV R.neg R.d R.e] W fun r w'=>r=.returned (.tuple #[iQ sc,.bool sck])/\Ext W w'):=fun W=>by rw [<- hsc,<- hsck];exact intS R.neg R.d R.e W
 have CD:Hid (∀ W,Calls Tryz.prog 82 #[iQ z] W fun r w'=>r=.returned (.bool (decide (-1000000<=z/\z<=1000000)))/\w'=W):=fun W=>dayS z W;have CP:Hid (∀ W,Calls Tryz.prog 89 #[sV dt] W fun e w'=>(∃ v,e=.returned (.tuple #[v,.bool (zAT dt)])/\∀ ps,zA6 dt.length dt=some ps->OwnT w' (W.heap.size+1) v ps)/\Ext W w'):=fun W=>partsK dt W hl;obtain ⟨sok,sn,sd,se⟩:=S;obtain ⟨pok,pn,pd,pe⟩:=P;obtain ⟨rok,rn,rd,re⟩:=R;have HPS:=hid hps;have HPP:=hid hp;have HS0:Hid (0<=sc/\sc<=1000000):=⟨s0,s1⟩;clear hF hS hP hR hQ hz hzk hsc hsck s0 s1 hk1 ht1 HA HF hp hps g hl;obtain ⟨wa,ha,X1,VD,-⟩:=zC7 w [.bool n,iQ d,iQ e] 31;have HVD:=hid VD;have c0:=vC3 VD;clear VD;have CM:Hid (∀ W,Calls Tryz.prog 85 #[decV sn sd se,decV false 864 2] W fun r w'=>r=.returned (.agg #[.bool pok,.bool pn,iQ pd,iQ pe])/\Ext W w'):=CM;have FM:=zMJ pok pn pd pe;obtain ⟨b0,hb0⟩:=nm (w.heap.size);rw [hb0] at HVD c0;have HB0:Hid (w.heap.size=b0):=hb0;go_enter Tryz.func39,Tryz.ntmps39;go_wp2_with fail;refine (CI.out _).mono ?_;rintro r w2 ⟨rfl,e2⟩;obtain ⟨w3,h3,X3,V3,-⟩:=zC7 w2 (valL k1 fn fd fe t1) 33;obtain ⟨b1,hb1⟩:=nm (w2.heap.size);rw [hb1] at V3;have Y3:=xt e2 X3;have c1:=vC3 (HVD.out.l Y3);have HV3:=hid V3;have c5:=vC5 V3;clear V3 ha hb0 c0;go_wp2_with fail;refine (CN.out _).mono ?_;rintro r w4 ⟨rfl,e4⟩;have Y4:=xt Y3 e4;have V4:=HV3.out.l e4;have c5:=vC5 V4;clear e2 X3 h3 c1;cases zk
 ·have HE:Hid (A=[35]):=by show _=_;rw [HD.out];rfl
  go_wp2_with (go_at_call 64;refine (CE.out _).mono ?_;rintro r w5 ⟨rfl,e5⟩;have Y5:=xt Y4 e5);go_ret;exact ⟨retZ (by rw [HE.out]),xt X1 Y5⟩
 obtain ⟨dk,hdk⟩:=nm (decide (-1000000<=z/\z<=1000000));rw [hdk] at CD HD;cases dk
 ·have HE:Hid (A=[35]):=by show _=_;rw [HD.out];rfl
  go_wp2_with (first
   | (go_at_call 64;refine (CE.out _).mono ?_;rintro r w5 ⟨rfl,e5⟩;have Y5:=xt Y4 e5)
   | (go_at_call 82;refine (CD.out _).mono ?_;rintro r w5 ⟨rfl,rfl⟩))
  go_ret;exact ⟨retZ (by rw [HE.out]),xt X1 Y5⟩
 have hzr : -1000000<=z/\z<=1000000:=of_decide_eq_true hdk;clear hdk;have HZ:=hid hzr;have CY:Hid (∀ W,Calls Tryz.prog 86 #[iQ 1,iQ z] W fun e w'=>∃ y m d,e=.returned (.agg #[iQ y,iQ m,iQ d])/\(IsDt 1 z y m d /\ -20000<=y/\y<=20000)/\Ext W w'):=fun W=>zTO 1 z W (.inl rfl) (by have:=HZ.out;omega) (by have:=HZ.out;omega);clear hzr;go_wp2_with (first
  | (go_at_call 64;refine (CE.out _).mono ?_;rintro r w5 ⟨rfl,e5⟩;have Y5:=xt Y4 e5;have d3:=vC3 (HVD.out.l Y5);have d5:=vC5 (V4.l e5))
  | (go_at_call 82;refine (CD.out _).mono ?_;rintro r w5 ⟨rfl,rfl⟩)
  | fail)
 refine (CS.out _).mono ?_;rintro r w6 ⟨rfl,e6⟩;have Y6:=xt Y5 e6;obtain ⟨w7,h7,X7,V7,-⟩:=zC7 w6 [.bool sok,.bool sn,iQ sd,iQ se] 99;obtain ⟨b2,hb2⟩:=nm (w6.heap.size);rw [hb2] at V7;have Y7:=xt Y6 X7;have c7:=vC4 V7;clear c5 V4 d3 d5 e6 Y6 Y5 Y4 Y3 V7;go_wp2_with fail;refine (CM.out _).mono ?_;rintro r w8 ⟨rfl,e8⟩;have Y8:=xt Y7 e8;clear h7 hb2 c7 X7;go_wp2_with fail;refine (CR.out _).mono ?_;rintro r w9 ⟨rfl,e9⟩;have Y9:=xt Y8 e9;obtain ⟨wA,hA,XA,VA,-⟩:=zC7 w9 [.bool rok,.bool rn,iQ rd,iQ re] 99;obtain ⟨b3,hb3⟩:=nm (w9.heap.size);rw [hb3] at VA;have YA:=xt Y9 XA;have cA:=vC4 VA;clear e8 Y8 Y7 e9 Y9 VA;go_wp2_with fail;refine (CJ.out _).mono ?_;rintro r wB ⟨rfl,eB⟩;have YB:=xt YA eB;clear hA hb3 cA XA YA eB;go_wp2_with fail;refine (CY.out _).mono ?_;rintro r wC ⟨y,mo,da,rfl,⟨hdt,-,-⟩,eC⟩;have YC:=xt YB eC;obtain ⟨hy,hmo,hda⟩:=zME hdt HZ.out.1 HZ.out.2;have HE:Hid (A=zCH y mo da sc ps):=by
  show A=_;rw [HD.out,zQD hdt];rfl
 obtain ⟨wD,hD,XD,VDt,-⟩:=zC7 wC [iQ y,iQ mo,iQ da] 121;obtain ⟨b4,hb4⟩:=nm (wC.heap.size);rw [hb4] at VDt;have YD:=xt YC XD;have cD:=vC3 VDt;have HVT:=hid VDt;have wy:IntKind.i64.wrap (-y) = -y:=by rw [IntKind.wrap_i64] <;> omega
 have CX:Hid (∀ W,Calls Tryz.prog 88 #[iQ y,iQ (-y)] W fun e w'=>e=.returned (iQ (y.natAbs:Int))/\w'=W):=fun W=>absS y W (by omega) (by omega);have CG:Hid (∀ W,Calls Tryz.prog 87 #[iQ (y.natAbs:Int),iQ 4] W fun e w'=>e=.returned (sV (padT (y.natAbs:Int) 4))/\Ext W w'):=fun W=>digB (y.natAbs:Int) 4 W (by omega) (by omega) (by omega);have HYR:Hid ((padT (y.natAbs:Int) 4).length=4/\(padT (y.natAbs:Int) 4).drop 2=padT ((y.natAbs:Int) % 100) 2):=zU7 (by omega);have HIN:Hid ((-5000<=y/\y<=9999)/\(1<=mo/\mo<=12)/\1<=da/\da<=31):=⟨hy,hmo,hda⟩;have HYT:Hid (zFD y=if y<0 then 45 :: padT (y.natAbs:Int) 4 else padT (y.natAbs:Int) 4):=by
  show _=_;unfold zFD
  split
  ·rw [show -y=(y.natAbs:Int) by omega]
  ·rw [show (y.natAbs:Int)=y by omega]
 obtain ⟨ya,hya⟩:∃ z:Int,(y.natAbs:Int)=z:=⟨_,rfl⟩;rw [hya] at CX CG HYR HYT;obtain ⟨Y,hY⟩:=nm (padT ya 4);rw [hY] at CG HYR HYT;have HYA:=hid hya;clear hY hya hdt hy hmo hda eC YC YB VDt CI CN CE CS CM CR CJ CD CY FM;go_wp2_with (go_at_call 88;refine (CX.out _).mono ?_;rintro r wE ⟨rfl,rfl⟩);refine (CG.out _).mono ?_;rintro r wE ⟨rfl,eE⟩;have YE:=xt YD eE;have VE:=HVT.out.l eE;clear hD hb4 cD XD YD HVT;go_wp2_with fail;refine (CP.out _).mono ?_;rintro r wG ⟨⟨v,rfl,hO⟩,eG⟩;have O:=hO ps HPP.out;obtain ⟨gb,gc,rfl,hgc,RT⟩:=zUX O (fun h=>by have:=HPS.out.1;rw [h] at this;exact absurd this (by decide));have YG:=xt X1 (xt YE eG);have VG:=VE.l eG;have HS:=hid (And.intro RT (And.intro VG YG));have hmem:Hid (∀ m ∈ ps,m ∈ zAG):=zCE _ _ _ HPP.out;obtain ⟨N,hN⟩:=nm (ps.length);have HN:=hid hN;rw [hN] at hgc;have hN12:Hid (N<=12):=by show _<=_;rw [<- hN];exact HPS.out.2
 clear hO O RT YG VG VE YE eE eG CP CG CX;go_wp2_with fail
 (try rw [hN])
 clear hN;go_loopw [70,14] (fun i o wr=>∃ k:Nat,k<=N/\i=.int .i64 k/\o=sV (zCH y mo da sc (ps.take k))/\Hid (zGY wr gb ps/\Vec wr b4 [.int .i64 y,.int .i64 mo,.int .i64 da]/\Ext w wr)) (fun i _ _=>N - (intOf i).toNat)
 case atStart=>exact ⟨0,by omega,rfl,rfl,HS⟩
 case round =>
  clear HS;obtain ⟨k,hk,rfl,rfl,HS⟩:=hrel;by_cases hlt:k<N
  ·obtain ⟨m,hm⟩:∃ m,ps[k]?=some m:=⟨ps[k]'(by rw [HN.out];exact hlt),by rw [List.getElem?_eq_getElem]⟩;have hc:=HS.out.1 k m hm;have hv:=vC3 HS.out.2.1;have i2:(k:Int)<(N:Int):=by omega
   have i3:k<N:=hlt;have hmw:=hmem.out m (List.mem_of_getElem? hm);have HTK:Hid (zCH y mo da sc (ps.take (k+1))=zCH y mo da sc (ps.take k)++zC0 y mo da sc m):=by show _=_;rw [zKL hm,zPZ]
   have HOL:Hid ((zCH y mo da sc (ps.take k)).length<=240):=by
    show _<=_;have h:=zFY (y:=y) (mo:=mo) (da:=da) (sec:=sc) (by have:=HIN.out;omega) (by have:=HIN.out;omega) (by have:=HIN.out;omega) (by have:=HIN.out;omega) (by have:=HIN.out;omega) (by have:=HIN.out;omega) HS0.out.1 HS0.out.2 (ps.take k) (fun x hx=>hmem.out x (List.mem_of_mem_take hx));rw [List.length_take] at h;have:=hN12.out;omega
   have hk1:IntKind.i64.wrap ((k:Int)+1)=((k+1:Nat):Int):=by have:=hN12.out;rw [IntKind.wrap_i64] <;> omega
   obtain ⟨O,hO⟩:=nm (zCH y mo da sc (ps.take k));rw [hO] at HTK HOL ⊢;have HK:=hid hk;clear hO hm hlt
   rcases zQJ hmw with rfl | rfl | rfl | rfl | rfl | rfl | rfl | rfl | rfl | rfl | rfl | rfl | rfl | rfl
   ·have hYl:Y.length=4:=HYR.out.1;have HYL:=hid hYl;by_cases hneg:y<0
    ·have HW:Hid (zC0 y mo da sc [121,121,121,121]=45 :: Y):=(by show _=_;rw [show zC0 y mo da sc [121,121,121,121]=zFD y from rfl,HYT.out,if_pos hneg]);have q1:(9223372036854775807<O.length+1)=False:=eq_false (by have:=HOL.out;omega);have q2:(9223372036854775807<O.length+1+Y.length)=False:=eq_false (by have:=HOL.out;omega);have q3:(9223372036854775807<O.length+1+4)=False:=eq_false (by have:=HOL.out;omega);clear hmw hYl;go_wp2_with fail;go_roundw
     case rel=>exact ⟨k+1,by omega,by go_num,by first | exact congrArg Value.string (bsZ (by rw [HTK.out,HW.out];simp)) | exact congrArg Value.string (bsZ (by rw [HTK.out,HW.out];simp [List.append_assoc])),HS⟩
     case measure=>simp [intOf];omega
    ·have HW:Hid (zC0 y mo da sc [121,121,121,121]=Y):=(by show _=_;rw [show zC0 y mo da sc [121,121,121,121]=zFD y from rfl,HYT.out,if_neg hneg]);have q1:(9223372036854775807<O.length+Y.length)=False:=eq_false (by have:=HOL.out;omega);have q3:(9223372036854775807<O.length+4)=False:=eq_false (by have:=HOL.out;omega);clear hmw hYl;go_wp2_with fail;go_roundw
     case rel=>exact ⟨k+1,by omega,by go_num,by first | exact congrArg Value.string (bsZ (by rw [HTK.out,HW.out];simp)) | exact congrArg Value.string (bsZ (by rw [HTK.out,HW.out];simp [List.append_assoc])),HS⟩
     case measure=>simp [intOf];omega
   ·have HW:Hid (zC0 y mo da sc [121,121]=Y.drop 2):=(by show _=_;rw [HYR.out.2,<- HYA.out];rfl);have hYl:Y.length=4:=HYR.out.1;have E1:(⟨Y.toArray⟩:ByteArray).extract 2 4=⟨(Y.drop 2).toArray⟩:=(by rw [<- hYl];exact zD7 Y 2);have q1:(9223372036854775807<O.length+(Y.drop 2).length)=False:=eq_false (by rw [List.length_drop];have:=HOL.out;omega);have q2:(9223372036854775807<O.length+2)=False:=eq_false (by have:=HOL.out;omega);have q3:(9223372036854775807<O.length+(Y.length - 2))=False:=eq_false (by have:=HOL.out;omega);clear hmw;go_wp2_with fail;go_roundw
    case rel=>exact ⟨k+1,by omega,by go_num,by first | exact congrArg Value.string (bsZ (by rw [HTK.out,HW.out];simp)) | exact congrArg Value.string (bsZ (by rw [HTK.out,HW.out];simp [List.append_assoc])),HS⟩
    case measure=>simp [intOf];omega
   ·have HW:Hid (zC0 y mo da sc [109,109]=padT mo 2):=rfl;have CU:Hid (∀ W,Calls Tryz.prog 87 #[iQ mo,iQ 2] W fun e w'=>e=.returned (sV (padT mo 2))/\Ext W w'):=fun W=>digB mo 2 W (by have:=HIN.out;have:=HS0.out;omega) (by have:=HIN.out;have:=HS0.out;omega) (by omega);have hl2:=zB4 (n:=mo) (k:=2) (by have:=HIN.out;have:=HS0.out;omega) (by have:=HIN.out;have:=HS0.out;omega) (by omega);obtain ⟨l,hl⟩:=nm (padT mo 2);rw [hl] at HW CU hl2;have q1:(9223372036854775807<O.length+l.length)=False:=eq_false (by have:=HOL.out;omega);clear hmw hl hl2;go_wp2_with fail;refine (CU.out _).mono ?_;rintro r w2 ⟨rfl,e2⟩;have HS2:Hid (zGY w2 gb ps/\Vec w2 b4 [iQ y,iQ mo,iQ da]/\Ext w w2):=⟨HS.out.1.l e2,HS.out.2.1.l e2,xt HS.out.2.2 e2⟩;clear CU;go_wp2_with fail;go_roundw
    case rel=>exact ⟨k+1,by omega,by go_num,by first | exact congrArg Value.string (bsZ (by rw [HTK.out,HW.out];simp)) | exact congrArg Value.string (bsZ (by rw [HTK.out,HW.out];simp [List.append_assoc])),HS2⟩
    case measure=>simp [intOf];omega
   ·have HW:Hid (zC0 y mo da sc [109]=Lib.decDigits mo.toNat):=zNL;have CU:Hid (∀ W,Calls Tryz.prog 90 #[iQ mo] W fun e w'=>∃ l,e=.returned (.string ⟨l.toArray⟩)/\zCO l mo/\Ext W w'):=fun W=>zJU mo W (by have:=HIN.out;omega) (by have:=HIN.out;omega);have HX:Hid (∀ l,zCO l mo->l=Lib.decDigits mo.toNat/\l.length<=20):=fun l ht=>by
     have h1:=ht.dec (by have:=HIN.out;omega);exact ⟨h1,by rw [h1];have:=zEU (n:=mo) (by have:=HIN.out;omega) (by have:=HIN.out;omega);omega⟩
    clear hmw;go_wp2_with fail;refine (CU.out _).mono ?_;rintro r w2 ⟨l,rfl,ht,e2⟩;obtain ⟨hl1,hl2⟩:=HX.out l ht;have HW2:Hid (zC0 y mo da sc [109]=l):=(by show _=_;rw [HW.out,hl1]);have HW:=HW2;have q1:(9223372036854775807<O.length+l.length)=False:=eq_false (by have:=HOL.out;omega);have HS2:Hid (zGY w2 gb ps/\Vec w2 b4 [iQ y,iQ mo,iQ da]/\Ext w w2):=⟨HS.out.1.l e2,HS.out.2.1.l e2,xt HS.out.2.2 e2⟩;clear ht hl1 hl2 HX CU HW2;go_wp2_with fail;go_roundw
    case rel=>exact ⟨k+1,by omega,by go_num,by first | exact congrArg Value.string (bsZ (by rw [HTK.out,HW.out];simp)) | exact congrArg Value.string (bsZ (by rw [HTK.out,HW.out];simp [List.append_assoc])),HS2⟩
    case measure=>simp [intOf];omega
   ·have HW:Hid (zC0 y mo da sc [100,100]=padT da 2):=rfl;have CU:Hid (∀ W,Calls Tryz.prog 87 #[iQ da,iQ 2] W fun e w'=>e=.returned (sV (padT da 2))/\Ext W w'):=fun W=>digB da 2 W (by have:=HIN.out;have:=HS0.out;omega) (by have:=HIN.out;have:=HS0.out;omega) (by omega);have hl2:=zB4 (n:=da) (k:=2) (by have:=HIN.out;have:=HS0.out;omega) (by have:=HIN.out;have:=HS0.out;omega) (by omega);obtain ⟨l,hl⟩:=nm (padT da 2);rw [hl] at HW CU hl2;have q1:(9223372036854775807<O.length+l.length)=False:=eq_false (by have:=HOL.out;omega);clear hmw hl hl2;go_wp2_with fail;refine (CU.out _).mono ?_;rintro r w2 ⟨rfl,e2⟩;have HS2:Hid (zGY w2 gb ps/\Vec w2 b4 [iQ y,iQ mo,iQ da]/\Ext w w2):=⟨HS.out.1.l e2,HS.out.2.1.l e2,xt HS.out.2.2 e2⟩;clear CU;go_wp2_with fail;go_roundw
    case rel=>exact ⟨k+1,by omega,by go_num,by first | exact congrArg Value.string (bsZ (by rw [HTK.out,HW.out];simp)) | exact congrArg Value.string (bsZ (by rw [HTK.out,HW.out];simp [List.append_assoc])),HS2⟩
    case measure=>simp [intOf];omega
   ·have HW:Hid (zC0 y mo da sc [100]=Lib.decDigits da.toNat):=zNL;have CU:Hid (∀ W,Calls Tryz.prog 90 #[iQ da] W fun e w'=>∃ l,e=.returned (.string ⟨l.toArray⟩)/\zCO l da/\Ext W w'):=fun W=>zJU da W (by have:=HIN.out;omega) (by have:=HIN.out;omega);have HX:Hid (∀ l,zCO l da->l=Lib.decDigits da.toNat/\l.length<=20):=fun l ht=>by
     have h1:=ht.dec (by have:=HIN.out;omega);exact ⟨h1,by rw [h1];have:=zEU (n:=da) (by have:=HIN.out;omega) (by have:=HIN.out;omega);omega⟩
    clear hmw;go_wp2_with fail;refine (CU.out _).mono ?_;rintro r w2 ⟨l,rfl,ht,e2⟩;obtain ⟨hl1,hl2⟩:=HX.out l ht;have HW2:Hid (zC0 y mo da sc [100]=l):=(by show _=_;rw [HW.out,hl1]);have HW:=HW2;have q1:(9223372036854775807<O.length+l.length)=False:=eq_false (by have:=HOL.out;omega);have HS2:Hid (zGY w2 gb ps/\Vec w2 b4 [iQ y,iQ mo,iQ da]/\Ext w w2):=⟨HS.out.1.l e2,HS.out.2.1.l e2,xt HS.out.2.2 e2⟩;clear ht hl1 hl2 HX CU HW2;go_wp2_with fail;go_roundw
    case rel=>exact ⟨k+1,by omega,by go_num,by first | exact congrArg Value.string (bsZ (by rw [HTK.out,HW.out];simp)) | exact congrArg Value.string (bsZ (by rw [HTK.out,HW.out];simp [List.append_assoc])),HS2⟩
    case measure=>simp [intOf];omega
   ·have HW:Hid (zC0 y mo da sc [104,104]=padT (sc / 3600) 2):=rfl;have t1:sc.tdiv 3600=sc / 3600:=Int.tdiv_eq_ediv_of_nonneg HS0.out.1;have t2:IntKind.i64.wrap (sc / 3600)=sc / 3600:=(by have:=HS0.out;rw [IntKind.wrap_i64] <;> omega);have CU:Hid (∀ W,Calls Tryz.prog 87 #[iQ (sc / 3600),iQ 2] W fun e w'=>e=.returned (sV (padT (sc / 3600) 2))/\Ext W w'):=fun W=>digB (sc / 3600) 2 W (by have:=HIN.out;have:=HS0.out;omega) (by have:=HIN.out;have:=HS0.out;omega) (by omega);have hl2:=zB4 (n:=(sc / 3600)) (k:=2) (by have:=HIN.out;have:=HS0.out;omega) (by have:=HIN.out;have:=HS0.out;omega) (by omega);obtain ⟨l,hl⟩:=nm (padT (sc / 3600) 2);rw [hl] at HW CU hl2;have q1:(9223372036854775807<O.length+l.length)=False:=eq_false (by have:=HOL.out;omega);clear hmw hl hl2;go_wp2_with fail;refine (CU.out _).mono ?_;rintro r w2 ⟨rfl,e2⟩;have HS2:Hid (zGY w2 gb ps/\Vec w2 b4 [iQ y,iQ mo,iQ da]/\Ext w w2):=⟨HS.out.1.l e2,HS.out.2.1.l e2,xt HS.out.2.2 e2⟩;clear CU;go_wp2_with fail;go_roundw
    case rel=>exact ⟨k+1,by omega,by go_num,by first | exact congrArg Value.string (bsZ (by rw [HTK.out,HW.out];simp)) | exact congrArg Value.string (bsZ (by rw [HTK.out,HW.out];simp [List.append_assoc])),HS2⟩
    case measure=>simp [intOf];omega
   ·have HW:Hid (zC0 y mo da sc [110,110]=padT (sc / 60 % 60) 2):=rfl;have t1:sc.tdiv 60=sc / 60:=Int.tdiv_eq_ediv_of_nonneg HS0.out.1;have t2:IntKind.i64.wrap (sc / 60)=sc / 60:=(by have:=HS0.out;rw [IntKind.wrap_i64] <;> omega);have t3:(sc / 60).tmod 60=sc / 60 % 60:=Int.tmod_eq_emod_of_nonneg (by have:=HS0.out;omega);have t4:IntKind.i64.wrap (sc / 60 % 60)=sc / 60 % 60:=(by rw [IntKind.wrap_i64] <;> omega);have CU:Hid (∀ W,Calls Tryz.prog 87 #[iQ (sc / 60 % 60),iQ 2] W fun e w'=>e=.returned (sV (padT (sc / 60 % 60) 2))/\Ext W w'):=fun W=>digB (sc / 60 % 60) 2 W (by have:=HIN.out;have:=HS0.out;omega) (by have:=HIN.out;have:=HS0.out;omega) (by omega);have hl2:=zB4 (n:=(sc / 60 % 60)) (k:=2) (by have:=HIN.out;have:=HS0.out;omega) (by have:=HIN.out;have:=HS0.out;omega) (by omega);obtain ⟨l,hl⟩:=nm (padT (sc / 60 % 60) 2);rw [hl] at HW CU hl2;have q1:(9223372036854775807<O.length+l.length)=False:=eq_false (by have:=HOL.out;omega);clear hmw hl hl2;go_wp2_with fail;refine (CU.out _).mono ?_;rintro r w2 ⟨rfl,e2⟩;have HS2:Hid (zGY w2 gb ps/\Vec w2 b4 [iQ y,iQ mo,iQ da]/\Ext w w2):=⟨HS.out.1.l e2,HS.out.2.1.l e2,xt HS.out.2.2 e2⟩;clear CU;go_wp2_with fail;go_roundw
    case rel=>exact ⟨k+1,by omega,by go_num,by first | exact congrArg Value.string (bsZ (by rw [HTK.out,HW.out];simp)) | exact congrArg Value.string (bsZ (by rw [HTK.out,HW.out];simp [List.append_assoc])),HS2⟩
    case measure=>simp [intOf];omega
   ·have HW:Hid (zC0 y mo da sc [115,115]=padT (sc % 60) 2):=rfl;have t1:sc.tmod 60=sc % 60:=Int.tmod_eq_emod_of_nonneg HS0.out.1;have t2:IntKind.i64.wrap (sc % 60)=sc % 60:=(by rw [IntKind.wrap_i64] <;> omega);have CU:Hid (∀ W,Calls Tryz.prog 87 #[iQ (sc % 60),iQ 2] W fun e w'=>e=.returned (sV (padT (sc % 60) 2))/\Ext W w'):=fun W=>digB (sc % 60) 2 W (by have:=HIN.out;have:=HS0.out;omega) (by have:=HIN.out;have:=HS0.out;omega) (by omega);have hl2:=zB4 (n:=(sc % 60)) (k:=2) (by have:=HIN.out;have:=HS0.out;omega) (by have:=HIN.out;have:=HS0.out;omega) (by omega);obtain ⟨l,hl⟩:=nm (padT (sc % 60) 2);rw [hl] at HW CU hl2;have q1:(9223372036854775807<O.length+l.length)=False:=eq_false (by have:=HOL.out;omega);clear hmw hl hl2;go_wp2_with fail;refine (CU.out _).mono ?_;rintro r w2 ⟨rfl,e2⟩;have HS2:Hid (zGY w2 gb ps/\Vec w2 b4 [iQ y,iQ mo,iQ da]/\Ext w w2):=⟨HS.out.1.l e2,HS.out.2.1.l e2,xt HS.out.2.2 e2⟩;clear CU;go_wp2_with fail;go_roundw
    case rel=>exact ⟨k+1,by omega,by go_num,by first | exact congrArg Value.string (bsZ (by rw [HTK.out,HW.out];simp)) | exact congrArg Value.string (bsZ (by rw [HTK.out,HW.out];simp [List.append_assoc])),HS2⟩
    case measure=>simp [intOf];omega
   ·have HW:Hid (zC0 y mo da sc [45]=[45]):=rfl;have q1:(9223372036854775807<O.length+1)=False:=eq_false (by have:=HOL.out;omega);clear hmw;go_wp2_with fail;go_roundw
    case rel=>exact ⟨k+1,by omega,by go_num,by first | exact congrArg Value.string (bsZ (by rw [HTK.out,HW.out];simp)) | exact congrArg Value.string (bsZ (by rw [HTK.out,HW.out];simp [List.append_assoc])),HS⟩
    case measure=>simp [intOf];omega
   ·have HW:Hid (zC0 y mo da sc [47]=[47]):=rfl;have q1:(9223372036854775807<O.length+1)=False:=eq_false (by have:=HOL.out;omega);clear hmw;go_wp2_with fail;go_roundw
    case rel=>exact ⟨k+1,by omega,by go_num,by first | exact congrArg Value.string (bsZ (by rw [HTK.out,HW.out];simp)) | exact congrArg Value.string (bsZ (by rw [HTK.out,HW.out];simp [List.append_assoc])),HS⟩
    case measure=>simp [intOf];omega
   ·have HW:Hid (zC0 y mo da sc [58]=[58]):=rfl;have q1:(9223372036854775807<O.length+1)=False:=eq_false (by have:=HOL.out;omega);clear hmw;go_wp2_with fail;go_roundw
    case rel=>exact ⟨k+1,by omega,by go_num,by first | exact congrArg Value.string (bsZ (by rw [HTK.out,HW.out];simp)) | exact congrArg Value.string (bsZ (by rw [HTK.out,HW.out];simp [List.append_assoc])),HS⟩
    case measure=>simp [intOf];omega
   ·have HW:Hid (zC0 y mo da sc [46]=[46]):=rfl;have q1:(9223372036854775807<O.length+1)=False:=eq_false (by have:=HOL.out;omega);clear hmw;go_wp2_with fail;go_roundw
    case rel=>exact ⟨k+1,by omega,by go_num,by first | exact congrArg Value.string (bsZ (by rw [HTK.out,HW.out];simp)) | exact congrArg Value.string (bsZ (by rw [HTK.out,HW.out];simp [List.append_assoc])),HS⟩
    case measure=>simp [intOf];omega
   ·have HW:Hid (zC0 y mo da sc [32]=[32]):=rfl;have q1:(9223372036854775807<O.length+1)=False:=eq_false (by have:=HOL.out;omega);clear hmw;go_wp2_with fail;go_roundw
    case rel=>exact ⟨k+1,by omega,by go_num,by first | exact congrArg Value.string (bsZ (by rw [HTK.out,HW.out];simp)) | exact congrArg Value.string (bsZ (by rw [HTK.out,HW.out];simp [List.append_assoc])),HS⟩
    case measure=>simp [intOf];omega
  ·obtain rfl:k=N:=by omega
   have i2:¬ (k:Int)<(k:Int):=by omega
   have HO:Hid (zCH y mo da sc (ps.take k)=A):=by show _=_;rw [HE.out,List.take_of_length_le (by rw [HN.out];omega)]
   clear hk;go_wp2_with fail;go_ret;exact ⟨retZ (by rw [HO.out]),HS.out.2.2⟩
theorem infoK:(Tryz.prog.info? 28).map (fun i=>(i.zero,i.size,i.bytes))=some (some (.agg #[.bool false,sV [],sV [],iQ 0,iQ 0,iQ 0,.bool false,iQ 0,sV []]),9,96):=by kernel_rfl
def zC1:List KT->List Value
 | []=>[]
 | x :: l=>x.cells++zC1 l
theorem zEH (l m:List KT):zC1 (l++m)=zC1 l++zC1 m:=by
 induction l with
 | nil=>rfl
 | cons x l ih=>simp [zC1,ih]
theorem zK3 {l:List KT} {i:Nat} {x:KT} (h:l[i]?=some x) (j:Nat) (hj:j<9):(zC1 l)[i * 9+j]?=x.cells[j]?:=by
 induction l generalizing i with
 | nil=>cases h
 | cons y l ih =>
  have h8:y.cells.length=9:=rfl;cases i with
  | zero =>
   have:y=x:=by simpa using h
   subst this;show (y.cells++zC1 l)[0 * 9+j]?=_;rw [Nat.zero_mul,Nat.zero_add,List.getElem?_append_left (by omega)]
  | succ i =>
   show (y.cells++zC1 l)[(i+1) * 9+j]?=_;rw [List.getElem?_append_right (by omega),show (i+1) * 9+j - y.cells.length=i * 9+j by omega];exact ih (by simpa using h)
abbrev OwnF (w:World) (base:Nat) (v:Value) (l:List KT):Prop:=w.ownsRow base 28 9 v l.length (zC1 l)
theorem zDO {w w':World} {base:Nat} {v:Value} {l:List KT} (h:OwnF w base v l) (hx:Ext w w'):OwnF w' base v l:=by
 refine ⟨h.1,h.2.imp id ?_⟩;rintro ⟨g,cap,cur,h1,h2,h3,h4⟩;have hlt:g<w.heap.size:=by
  rcases Nat.lt_or_ge g w.heap.size with h' | h'
  ·exact h'
  ·rw [Array.getElem?_eq_none h'] at h3;cases h3
 exact ⟨g,cap,cur,h1,h2,by rw [hx.block g hlt];exact h3,h4⟩
theorem zKY {w w':World} {b base:Nat} {v:Value} {l:List KT} (h:OwnF w base v l) (hx:zAA b w w') (hb:b<base):OwnF w' base v l:=by
 refine ⟨h.1,h.2.imp id ?_⟩;rintro ⟨g,cap,cur,h1,h2,h3,h4⟩;have hlt:g<w.heap.size:=by
  rcases Nat.lt_or_ge g w.heap.size with h' | h'
  ·exact h'
  ·rw [Array.getElem?_eq_none h'] at h3;cases h3
 exact ⟨g,cap,cur,h1,h2,by rw [hx.block g (by omega) hlt];exact h3,h4⟩
theorem zS7 {w:World} {base base':Nat} {v:Value} {l:List KT} (h:OwnF w base v l) (hb:base'<=base):OwnF w base' v l:=by
 refine ⟨h.1,h.2.imp id ?_⟩;rintro ⟨g,cap,cur,h1,h2,h3⟩;exact ⟨g,cap,cur,h1,Nat.le_trans hb h2,h3⟩
theorem zDP {w:World} {base:Nat} {v:Value} {l:List KT} (h:OwnF w base v l):∀ r,v.ownBlock=some r->base<=r/\r<w.heap.size:=by
 intro r hr
 rcases h.2 with ⟨rfl,_⟩ | ⟨g,cap,cur,rfl,h2,h3,_⟩
 ·cases hr
 ·have:g=r:=by simpa [Value.ownBlock] using hr
  subst this;refine ⟨h2,?_⟩
  rcases Nat.lt_or_ge g w.heap.size with h' | h'
  ·exact h'
  ·rw [Array.getElem?_eq_none h'] at h3;cases h3
theorem zBH {w:World} {base:Nat} {v:Value} {l:List KT} (h:OwnF w base v l):∃ p c,v=.slice p l.length c/\l.length<=c:=by
 rcases h.2 with ⟨rfl,h0⟩ | ⟨g,cap,cur,rfl,_,_,h3,_⟩
 ·exact ⟨none,0,by rw [h0],by omega⟩
 ·exact ⟨_,_,rfl,h3⟩
theorem zBX (w:World) (base:Nat):OwnF w base (.slice none 0 0) []:=World.ownsRow_nil _ _ _ _
theorem zDY {w:World} {base:Nat} {v:Value} {l:List KT} (h:OwnF w base v l):zB0 w v l:=by
 rcases h.2 with ⟨rfl,h0⟩ | ⟨g,cap,cur,rfl,hb,hg,hc,_,hcs,htake⟩
 ·exact ⟨none,0,by rw [h0],by omega,fun h=>absurd h0 (by omega)⟩
 ·refine ⟨_,cap,rfl,hc,fun _=>⟨g,0,rfl,fun i e hi c u hu=>?_⟩⟩;have:=h.cells (g:=g) rfl (i * 9+c) u ((zK3 hi c (KT.cells_lt hu)).trans hu);rw [show (⟨g,0,none⟩:Addr).add (i * 9+c)=⟨g,0+i * 9+c,none⟩ by unfold Addr.add;split <;> simp_all] at this;exact this
theorem infoF:∃ inf,Tryz.prog.info? 28=some inf/\inf.zero=some (.agg zBM.cells.toArray)/\inf.size=9/\inf.bytes=96:=by
 have h:=infoK;cases h':Tryz.prog.info? 28 with
 | none=>rw [h'] at h;cases h
 | some inf =>
  rw [h'] at h;simp at h;exact ⟨inf,rfl,h.1,h.2.1,h.2.2⟩
theorem zIR {k:Nat} {l:BL} {acc:List KT} (h:secS l=none):zBV k l acc=[]:=by
 cases k with
 | zero=>rfl
 | succ k=>simp only [zBV,h]
theorem zP5 {k:Nat} {l:BL} {acc:List KT} (h:acc.length=3):zBV k l acc=[]:=by
 cases k with
 | zero=>rfl
 | succ k =>
  simp only [zBV];cases secS l with
  | none=>rfl
  | some x=>simp [h]
theorem zRM {k:Nat} {l:BL} {acc:List KT} {x:KT} (h:secS l=some (x,[])) (ha:acc.length ≠ 3):zBV (k+1) l acc=acc++[x]:=by
 simp only [zBV,h,if_neg ha];simp
theorem zP2 {k:Nat} {l r:BL} {acc:List KT} {x:KT} (h:secS l=some (x,r)) (ha:acc.length ≠ 3) (hr:r ≠ []) (hp:Lib.hasPrefix r [59]=true):zBV (k+1) l acc=zBV k (r.drop 1) (acc++[x]):=by
 simp only [zBV,h,if_neg ha,if_neg hr,hp,if_true]
theorem zRN {k:Nat} {l r:BL} {acc:List KT} {x:KT} (h:secS l=some (x,r)) (hr:r ≠ []) (hp:Lib.hasPrefix r [59]=false):zBV k l acc=[]:=by
 cases k with
 | zero=>rfl
 | succ k =>
  simp only [zBV,h,if_neg hr,hp]
  split <;> rfl
theorem zGR {l:BL} {k:Nat} (hk:k<=l.length):l.drop k=[] ↔ k=l.length:=by
 rw [List.drop_eq_nil_iff];omega
theorem readS (l:BL) (w:World) (hL:l.length<=100000000) :
  Calls Tryz.prog 24 #[sV l] w fun e w'=>(∃ v,e=.returned v/\OwnF w' w.heap.size v (zAZ l))/\Ext w w':=by
 have HZ:(⟨l.toArray⟩:ByteArray).size=l.length:=rfl;by_cases hbig:100<l.length
 ·have HR:Hid (zAZ l=[]):=by show _=_;unfold zAZ;rw [if_pos hbig]
  obtain ⟨R,hR⟩:=nm (zAZ l);rw [hR] at HR ⊢;obtain ⟨n,hn⟩:=nm (l.length);rw [hn] at HZ hbig hL;have i1:100<(n:Int):=by omega
  clear hR hn;go_enter Tryz.func24,Tryz.ntmps24;go_wp2_with fail;go_ret;exact ⟨⟨_,rfl,by rw [HR.out];exact zBX _ _⟩,xr _⟩
 ·have HR:Hid (zBV (4 - ([]:List KT).length) (l.drop 0) []=zAZ l):=by show _=_;unfold zAZ;rw [if_neg hbig];rfl
  obtain ⟨R,hR⟩:=nm (zAZ l);rw [hR] at HR ⊢;clear hR;have V0:Vec (w.alloc (.cells #[sV l,iQ 0] 89)) w.heap.size [sV l,iQ 0]:=zA2 w [sV l,iQ 0] 89;have X0:=x1 w (.cells #[sV l,iQ 0] 89);have A0:Hid (AtK (w.alloc (.cells #[sV l,iQ 0] 89)) w.heap.size l 0):=⟨V0,by omega,by omega⟩;obtain ⟨n,hn⟩:=nm (l.length);have HN:Hid (l.length=n):=hn;rw [hn] at HZ hbig;have i1:(n:Int)<=100:=by omega
  have hn100:n<=100:=by omega
  clear hn hL hbig V0;obtain ⟨B,hB⟩:=nm (w.heap.size);have HB:Hid (w.heap.size=B):=hB;have sz0:(w.alloc (.cells #[sV l,iQ 0] 89)).heap.size=B+1:=by rw [World.size_alloc,hB]
  rw [hB] at A0 ⊢;go_enter Tryz.func24,Tryz.ntmps24;go_wp2_with fail;clear hB;have T0:=zBX (w.alloc (.cells #[sV l,iQ 0] 89)) (B+1)
  go_loopg [4] 4 (fun gk v wr=>∃ (q:Nat) (acc:List KT),Hid (acc.length+gk=4)/\Hid (AtK wr B l q)/\OwnF wr (B+1) v acc/\Hid (zBV (4 - acc.length) (l.drop q) acc=R)/\acc.length<=3/\Hid (B+1<=wr.heap.size)/\Ext w wr)
  case atStart=>exact ⟨0,[],by show _=_;rfl,A0,T0,HR,by simp,by show _<=_;omega,X0⟩
  case round =>
   clear A0 T0 HR sz0 X0;obtain ⟨q,acc,HG,HA,OF,HR,h3,HSz,X⟩:=hrel;obtain ⟨p4,c4,rfl,hc4⟩:=zBH OF;have OFH:Hid (OwnF wr (B+1) (.slice p4 acc.length c4) acc):=OF;have SC:=zUH B l q wr HA.out;clear OF;go_wp2_with fail;refine SC.mono ?_;rintro e w1 ⟨⟨k1,A1,hq | hq⟩,o1⟩
   ·obtain ⟨⟨x,r⟩,hx,rfl,hd1⟩:=hq;have hd1:l.drop k1=r:=hd1;have O1:Hid (OwnF w1 (B+1) (.slice p4 acc.length c4) acc):=zKY OFH.out o1 (by omega);have X1:=zAA.ext X o1 (by have:=HB.out;omega);have S1:B+1<=w1.heap.size:=(by have:=HSz.out;have:=o1.size;omega);clear SC HA OFH X HSz o1;by_cases ha3:acc.length=3
    ·have HE:Hid (R=[]):=(by show _=_;rw [<- HR.out];exact zP5 ha3);have i3:(acc.length:Int)=3:=(by omega);clear hx HR;obtain ⟨ng,bf,af,wh,pl,mb,gr,tm,dt⟩:=x;go_wp2_with fail;go_ret;refine ⟨⟨_,rfl,by rw [HE.out];exact zBX _ _⟩,xa X1 _⟩
    ·have i3:(acc.length:Int) ≠ 3:=(by omega);have hx':secS (l.drop q)=some (x,r):=hx;have HX:Hid (secS (l.drop q)=some (x,r)):=hx';clear hx hx';obtain ⟨inf,hi,hz,hz1,hz2⟩:=infoF;have hk1:k1<=n:=(by have:=A1.2.1;rw [HN.out] at this;exact this);have HD:Hid (l.drop k1=r):=hd1;have HA1:Hid (AtK w1 B l k1):=A1;have E1:=x1 w1 (.cells x.cells.toArray 28);have OQ:Hid (OwnF (w1.alloc (.cells x.cells.toArray 28)) (B+1) (.slice p4 acc.length c4) acc):=zDO O1.out E1;clear hd1 O1 A1;go_wp2_with (at_builtin;refine wpList_append_own _ rfl _ _ 23 rfl (B+1) 28 inf (.agg zBM.cells.toArray) 9 96 Tryz.underlying23 hi hz hz1 hz2 rfl (by decide) _ _ _ rfl (OQ.out.alloc _) ⟨w1.heap.size+1,0,none⟩ 1 1 x.cells rfl rfl (World.news_of_block (by have:=heap_alloc_new (w1.alloc (.cells x.cells.toArray 28)) (.cells x.cells.toArray 28);rw [World.size_alloc] at this;exact this)) (by simp [Value.oneCell']) (by simp only [maxLen];omega) (by omega) (by simp;omega) ?_);intro v7 wC ownC gC _;have XA:=xa (xa X1 (.cells x.cells.toArray 28)) (.cells x.cells.toArray 28);have EA:=xa E1 (.cells x.cells.toArray 28);have HOB:=zDP OQ.out;have XC:Ext w wC:=XA.grown gC XA.size (fun z hz=>by have:=(HOB z hz).1;have:=HB.out;omega);have OC:Hid (OwnF wC (B+1) v7 (acc++[x])):=by
      show World.ownsRow _ _ _ _ _ _ _;rw [zEH,List.length_append];rw [show zC1 [x]=x.cells by simp [zC1]];exact ownC
     have AC:Hid (AtK wC B l k1):=(HA1.out.l EA).grown gC (fun z hz=>by have:=(HOB z hz).1;omega);have SC2:Hid (B+1<=wC.heap.size):=World.block_lt_of_cell? _ _ (AC.out.1 0 _ rfl).1;obtain ⟨p7,c7,rfl,hc7⟩:=zBH OC.out;obtain ⟨d1,e1⟩:=AC.out.1 1 _ rfl;obtain ⟨L7,hL7⟩:=nm ((acc++[x]).length);have HL7:Hid ((acc++[x]).length=L7):=hL7;rw [hL7] at OC ⊢;clear gC ownC OQ XA X1 EA E1 hi hz hz1 hz2 HA1 HOB hL7 hc7 S1;by_cases hr:r=[]
     ·have hkn:k1=n:=by
       have:=(zGR (l:=l) (k:=k1) (by rw [HN.out];exact hk1)).1 (by rw [HD.out,hr]);rw [this,HN.out]
      have HE:Hid (R=acc++[x]):=by
       show _=_;rw [<- HR.out,show 4 - acc.length=(3 - acc.length)+1 by omega];exact zRM (by rw [HX.out,hr]) ha3
      have i5:(k1:Int)=(n:Int):=(by omega);subst hkn;clear HR HX HD hr i5;go_wp2_with fail;go_ret;exact ⟨⟨_,rfl,by rw [HE.out];exact zS7 OC.out (by have:=HB.out;omega)⟩,XC⟩
     ·have hkn:k1 ≠ n:=fun e=>hr (by rw [<- HD.out];exact (zGR (by rw [HN.out];exact hk1)).2 (by rw [HN.out];exact e));have i5:(k1:Int) ≠ (n:Int):=(by omega);have CT:=zON B l [59] k1 wC AC.out (by simp);rw [HD.out] at CT;obtain ⟨p,hp⟩:=nm (Lib.hasPrefix r [59]);rw [hp] at CT;have CT:Calls Tryz.prog 52 #[.pointer (some ⟨B,0,none⟩),sV [59]] wC fun e w'=>e=.returned (.bool p)/\AtK w' B l (if p=true then k1+1 else k1)/\zAA B wC w':=CT;cases p
      ·have HE:Hid (R=[]):=(by show _=_;rw [<- HR.out];exact zRN HX.out hr hp);clear HR HX HD hp;go_wp2_with fail;refine CT.mono ?_;rintro e w2 ⟨rfl,A2,o2⟩;go_wp2_with fail;go_ret;exact ⟨⟨_,rfl,by rw [HE.out];exact zBX _ _⟩,zAA.ext XC o2 (by have:=HB.out;omega)⟩
      ·have HE:Hid (zBV (4 - (acc++[x]).length) (l.drop (k1+1)) (acc++[x])=R):=by
        show _=_;have hl4:4 - (acc++[x]).length=3 - acc.length:=(by rw [List.length_append];simp only [List.length_singleton];omega);rw [<- HR.out,show 4 - acc.length=(3 - acc.length)+1 by omega,zP2 HX.out ha3 hr hp,hl4,<- HD.out,List.drop_drop]
       clear HR HX HD hp;go_wp2_with fail;refine CT.mono ?_;rintro e w2 ⟨rfl,A2,o2⟩;have A2:Hid (AtK w2 B l (k1+1)):=A2;have O2:OwnF w2 (B+1) (.slice p7 L7 c7) (acc++[x]):=zKY OC.out o2 (by omega);have X2:=zAA.ext XC o2 (by have:=HB.out;omega);have S2:Hid (B+1<=w2.heap.size):=(by show _<=_;have:=SC2.out;have:=o2.size;omega);have l7:(acc++[x]).length=acc.length+1:=(by simp);have L3:Hid ((acc++[x]).length<=3):=(by show _<=_;omega);have LG:Hid ((acc++[x]).length+(gk - 1)=4):=(by show _=_;have:=HG.out;omega);have LM:Hid (0<gk):=(by show _<_;have:=HG.out;omega);clear CT o2 XC AC OC d1 e1 l7;go_wp2_with fail
       go_roundg (gk - 1)
       case measure=>have:=LM.out;omega
       case rel=>exact ⟨k1+1,acc++[x],LG,A2,O2,HE,L3.out,S2,X2⟩
   ·obtain ⟨hx,⟨ng,bf,af,wh,pl,mb,gr,tm,dt⟩,rfl⟩:=hq;have HE:Hid (R=[]):=(by show _=_;rw [<- HR.out];exact zIR hx);have X1:=zAA.ext X o1 (by have:=HB.out;omega);clear hx HR SC HA OFH X HSz;go_wp2_with fail;go_ret;refine ⟨⟨_,rfl,by rw [HE.out];exact zBX _ _⟩,xa X1 _⟩
def zHL:Nat->BL->List KT->List KT
 | 0,_,_=>[]
 | k+1,c,acc=>if mayB 10 (secI c).2.2=false\/acc.length=3 then [] else if Lib.hasPrefix (secI c).2.1 [59] then zHL k ((secI c).2.1.drop 1) (acc++[(secI c).1]) else if (secI c).2.1=[] then acc++[(secI c).1] else []
def zFK (l:BL):List KT:=if 100<l.length then [] else zHL 4 l []
theorem zUJ:∀ (k last:Nat) (l:BL) (f:KT),(zDW k last l f).2.1.length<=l.length:=by
 intro k
 induction k with
 | zero=>intro last l f;exact Nat.le_refl _
 | succ k ih =>
  intro last l f;show ((match zAI last l with | none=>(f,l,last) | some p=>zDW k p (l.drop (zA0 p l)) (zB6 p (l.take (zA0 p l)) f)):KT × BL × Nat).2.1.length<=_;cases zAI last l with
  | none=>exact Nat.le_refl _
  | some p =>
   have:=ih p (l.drop (zA0 p l)) (zB6 p (l.take (zA0 p l)) f);rw [List.length_drop] at this;show (zDW k p _ _).2.1.length<=_;omega
theorem readI (l:BL) (w:World) (hL:l.length<=100000000) (T:TabK w) :
  Calls Tryz.prog 8 #[sV l] w fun e w'=>(∃ v,e=.returned v/\OwnF w' w.heap.size v (zFK l))/\Ext w w':=by
 have HZ:(⟨l.toArray⟩:ByteArray).size=l.length:=rfl;by_cases hbig:100<l.length
 ·have HR:Hid (zFK l=[]):=by show _=_;unfold zFK;rw [if_pos hbig]
  obtain ⟨R,hR⟩:=nm (zFK l);rw [hR] at HR ⊢;obtain ⟨n,hn⟩:=nm (l.length);rw [hn] at HZ hbig hL;have i1:100<(n:Int):=by omega
  clear hR hn T;go_enter Tryz.func8,Tryz.ntmps8;go_wp2_with fail;go_ret;exact ⟨⟨_,rfl,by rw [HR.out];exact zBX _ _⟩,xr _⟩
 ·have HR:Hid (zHL (4 - ([]:List KT).length) l []=zFK l):=by show _=_;unfold zFK;rw [if_neg hbig];rfl
  obtain ⟨R,hR⟩:=nm (zFK l);rw [hR] at HR ⊢;clear hR;obtain ⟨n,hn⟩:=nm (l.length);have HN:Hid (l.length=n):=hn;rw [hn] at HZ hbig;have i1:(n:Int)<=100:=by omega
  have hn100:n<=100:=by omega
  have hl1000:Hid (l.length<=1000):=by show _<=_;omega
  have HT:Hid (TabK w):=T;clear hn hL hbig T;obtain ⟨B,hB⟩:=nm (w.heap.size);have HB:Hid (w.heap.size=B):=hB;rw [hB];clear hB;go_enter Tryz.func8,Tryz.ntmps8;go_wp2_with fail;have T0:=zBX w B
  go_loopg [0,3,4] 5 (fun gk sc v sm wr=>∃ (c:BL) (acc:List KT),sc=sV c/\OwnF wr B v acc/\Hid (c.length<=1000)/\acc.length<=3/\Ext w wr/\((sm=.bool true/\Hid (acc.length+gk=5/\zHL (4 - acc.length) c acc=R))\/(sm=.bool false/\Hid (gk=0/\(if c=[] then acc else [])=R))))
  case atStart=>exact ⟨l,[],rfl,T0,hl1000,by simp,xr _,.inl ⟨rfl,rfl,HR.out⟩⟩
  case round =>
   clear T0 HR hl1000;obtain ⟨c,acc,rfl,OF,Hc,h3,X,hcase⟩:=hrel;obtain ⟨p4,c4,rfl,hc4⟩:=zBH OF
   rcases hcase with ⟨rfl,HG⟩ | ⟨rfl,HG⟩
   ·have SI:=secIw c Hc.out wr (HT.out.l X);have hsl:(secI c).2.1.length<=c.length:=zUJ _ _ _ _;have OFH:Hid (OwnF wr B (.slice p4 acc.length c4) acc):=OF;have HP:Hid (zHL (4 - acc.length) c acc=R):=HG.out.2;have HP:Hid ((if mayB 10 (secI c).2.2=false\/acc.length=3 then [] else if Lib.hasPrefix (secI c).2.1 [59] then zHL (3 - acc.length) ((secI c).2.1.drop 1) (acc++[(secI c).1]) else if (secI c).2.1=[] then acc++[(secI c).1] else [])=R):=by
     show _=_;rw [<- HP.out,show 4 - acc.length=(3 - acc.length)+1 by omega];rfl
    obtain ⟨x,hx⟩:=nm ((secI c).1);obtain ⟨r,hr⟩:=nm ((secI c).2.1);obtain ⟨m,hm⟩:=nm (mayB 10 (secI c).2.2);rw [hx,hr,hm] at SI HP;rw [hr] at hsl;have Hr:Hid (r.length<=1000):=(by show _<=_;have:=Hc.out;omega);clear hx hr hm OF hsl;by_cases hbad:m=false\/acc.length=3
    ·have HE:Hid (R=[]):=(by show _=_;rw [<- HP.out,if_pos hbad]);clear HP;cases m with
     | false =>
      go_wp2_with fail;refine SI.mono ?_;rintro e w1 ⟨rfl,e1⟩;go_wp2_with fail;go_ret;exact ⟨⟨_,rfl,by rw [HE.out];exact zBX _ _⟩,xa (xt X e1) _⟩
     | true =>
      have ha3:acc.length=3:=by
       rcases hbad with h | h
       ·cases h
       ·exact h
      have i3:(acc.length:Int)=3:=(by omega);clear ha3 hbad;go_wp2_with fail;refine SI.mono ?_;rintro e w1 ⟨rfl,e1⟩;go_wp2_with fail;go_ret;exact ⟨⟨_,rfl,by rw [HE.out];exact zBX _ _⟩,xa (xt X e1) _⟩
    ·obtain rfl:m=true:=by
      cases m with
      | true=>rfl
      | false=>exact absurd (.inl rfl) hbad
     have ha3:acc.length ≠ 3:=fun h=>hbad (.inr h);have i3:(acc.length:Int) ≠ 3:=(by omega);have HP:Hid ((if Lib.hasPrefix r [59] then zHL (3 - acc.length) (r.drop 1) (acc++[x]) else if r=[] then acc++[x] else [])=R):=by
      show _=_;rw [<- HP.out,if_neg hbad]
     have CP:=fun W=>zJB r 59 W;obtain ⟨p,hp⟩:=nm (Lib.hasPrefix r [59]);have hrest:Lib.trimPrefix r [59]=if p then r.drop 1 else r:=(by unfold Lib.trimPrefix;rw [hp];cases p <;> rfl);obtain ⟨r2,hr2⟩:=nm (Lib.trimPrefix r [59]);rw [hr2] at hrest;simp only [hr2,hp] at CP;rw [hp] at HP;clear hbad hp hr2;obtain ⟨inf,hi,hz,hz1,hz2⟩:=infoF;go_wp2_with fail;refine SI.mono ?_;rintro e w1 ⟨rfl,e1⟩;have OQ:Hid (OwnF (w1.alloc (.cells x.cells.toArray 28)) B (.slice p4 acc.length c4) acc):=zDO (zDO OFH.out e1) (x1 _ _);have X1:=xt X e1;have S1:B<=w1.heap.size:=(by have:=X1.size;have:=HB.out;omega);clear SI OFH e1 X;go_wp2_with (at_builtin;refine wpList_append_own _ rfl _ _ 23 rfl B 28 inf (.agg zBM.cells.toArray) 9 96 Tryz.underlying23 hi hz hz1 hz2 rfl (by decide) _ _ _ rfl (OQ.out.alloc _) ⟨w1.heap.size+1,0,none⟩ 1 1 x.cells rfl rfl (World.news_of_block (by have:=heap_alloc_new (w1.alloc (.cells x.cells.toArray 28)) (.cells x.cells.toArray 28);rw [World.size_alloc] at this;exact this)) (by simp [Value.oneCell']) (by simp only [maxLen];omega) (by omega) (by simp;omega) ?_);intro v7 wC ownC gC _;have XA:=xa (xa X1 (.cells x.cells.toArray 28)) (.cells x.cells.toArray 28);have HOB:=zDP OQ.out;have XC:Ext w wC:=XA.grown gC XA.size (fun z hz=>by have:=(HOB z hz).1;have:=HB.out;omega);have OC:OwnF wC B v7 (acc++[x]):=by
      show World.ownsRow _ _ _ _ _ _ _;rw [zEH,List.length_append];rw [show zC1 [x]=x.cells by simp [zC1]];exact ownC
     obtain ⟨p7,c7,rfl,hc7⟩:=zBH OC;have HOC:Hid (OwnF wC B (.slice p7 (acc.length+1) c7) (acc++[x])):=(by rw [List.length_append] at OC;exact OC);have l7:Hid ((acc++[x]).length=acc.length+1):=(by show _=_;simp);have Hr2:Hid (r2.length<=1000):=by
      show _<=_;have:=Hr.out;rw [hrest];split
      ·rw [List.length_drop];omega
      ·exact this
     clear gC ownC OQ XA X1 hi hz hz1 hz2 HOB hc7 S1 OC;cases p with
     | true =>
      have HR2:Hid (acc.length+1+(gk - 1)=5/\zHL (4 - (acc.length+1)) r2 (acc++[x])=R):=by
       refine ⟨by have:=HG.out.1;omega,?_⟩;rw [<- HP.out,hrest,show 4 - (acc.length+1)=3 - acc.length by omega];rfl
      have HM:Hid (0<gk):=(by show _<_;have:=HG.out.1;omega);clear hrest HP;go_wp2_with fail;refine (CP _).mono ?_;rintro e w2 ⟨rfl,h2⟩;rw [h2];clear h2;go_wp2_with fail
      go_roundg (gk - 1)
      case measure=>have:=HM.out;omega
      case rel=>exact ⟨r2,acc++[x],rfl,HOC.out,Hr2,by rw [l7.out];omega,XC,.inl ⟨rfl,by rw [l7.out];exact HR2⟩⟩
     | false =>
      have HR2:Hid ((if r2=[] then acc++[x] else [])=R):=by
       show _=_;rw [<- HP.out,hrest];rfl
      have HM:Hid (0<gk):=(by show _<_;have:=HG.out.1;omega);clear hrest HP;go_wp2_with fail;refine (CP _).mono ?_;rintro e w2 ⟨rfl,h2⟩;rw [h2];clear h2;go_wp2_with fail
      go_roundg 0
      case measure=>have:=HM.out;omega
      case rel=>exact ⟨r2,acc++[x],rfl,HOC.out,Hr2,by rw [l7.out];omega,XC,.inr ⟨rfl,rfl,HR2.out⟩⟩
   ·by_cases hc0:c=[]
    ·have HE:Hid (R=acc):=(by show _=_;rw [<- HG.out.2,if_pos hc0]);subst hc0;clear HG;have OFH:Hid (OwnF wr B (.slice p4 acc.length c4) acc):=OF;clear OF;go_wp2_with fail;go_ret;exact ⟨⟨_,rfl,by rw [HE.out];exact OFH.out⟩,X⟩
    ·have HE:Hid (R=[]):=(by show _=_;rw [<- HG.out.2,if_neg hc0]);have he:(c == [])=false:=(by rw [beq_eq_false_iff_ne];exact hc0);clear HG OF;go_wp2_with fail;go_ret;exact ⟨⟨_,rfl,by rw [HE.out];exact zBX _ _⟩,X⟩
end Go.Proofs.YtjlojlgdkfpcdaaGreatDoor

