import Derived.Test.YteliaeejooekbaaGreatDoorMg18
import Derived.Test.YteliaeejooekbaaGreatDoorMg21
import Derived.Test.YteliaeejooekbaaGreatDoorMg4
import Derived.Test.YteliaeejooekbaaGreatDoorMg8
import Derived.Test.YteliaeejooekbaaGreatDoorMg26
import Derived.Test.YteliaeejooekbaaGreatDoorFt7
import Derived.Test.YteliaeejooekbaaGreatDoorFt8
import Derived.Test.YteliaeejooekbaaGreatDoorMg25
set_option maxRecDepth 8000
set_option maxHeartbeats 4000000
namespace Go.Proofs.YteliaeejooekbaaGreatDoor
open Go.RowKit
def zDE (t:List UInt8) (kk:Nat):Bool:=!(decide (numL t<1) || decide (20<numL t) || !(Lib.decDigits (numL t).toNat == t) || decide (kk<1) || decide (100<kk) || !((kk:Int).tmod (numL t) == 0))
theorem zS7 (i:Nat) (hi:i<=20) (w:World):Calls Tryz.prog 81 #[iQ (i:Int)] w fun e w'=>e=.returned (sV (Lib.decDigits i))/\Ext w w':=by
 refine (zNP (i:Int) w (by omega) (by omega)).mono ?_;rintro e w' ⟨l,rfl,ht,ex⟩;have:=ht.dec (by omega);rw [Int.toNat_natCast] at this;exact ⟨by rw [this],ex⟩
theorem zQE (t:List UInt8) (neg:Bool) (d:Int) (x:Int) (r:Int) (c:Int) (rf:Bool) (cf:Bool) (r2:Int) (c2:Int) (rf2:Bool) (cf2:Bool) (m:Int) (p:Option Addr) (kk cap:Nat) (ks:List ET) (U:Nat->Prop) (many:Bool) (w:World) (hK:KidsS w U (.slice p kk cap) ks) (hU:∀ k,U k->k<w.heap.size) (hkl:ks.length=kk) :
  Calls Tryz.prog 103 #[exV 12 t neg d x r c rf cf r2 c2 rf2 cf2 m (.slice p kk cap),.bool many] w fun e w'=>e=.returned (.bool (decide (m=(kk:Int)) && (zA9 neg d x && zA3 r c rf cf && zA3 r2 c2 rf2 cf2) && (zDE t kk && ks.all zAU)))/\Ext w w':=by
 obtain ⟨Q,hQ⟩:=nm ((decide (m=(kk:Int)) && (zA9 neg d x && zA3 r c rf cf && zA3 r2 c2 rf2 cf2) && (zDE t kk && ks.all zAU)));have HQ:Hid _:=hQ;rw [hQ];clear hQ;have HKL:Hid _:=hkl;have HKI:Hid (∀ W,Ext w W->KidsS W U (.slice p kk cap) ks):=fun W XW=>hK.l hU XW;have HUL:Hid _:=hU;clear hK hU hkl;obtain ⟨wa,ha,X1,VE,-⟩:=zAC w [iQ 12,sV t,.bool neg,iQ d,iQ x,iQ r,iQ c,.bool rf,.bool cf,iQ r2,iQ c2,.bool rf2,.bool cf2,iQ m,.slice p kk cap] 77;obtain ⟨wb,hb,X2,VN,-⟩:=zAC wa [iQ 12,sV t,.bool neg,iQ d,iQ x,iQ r,iQ c,.bool rf,.bool cf,iQ r2,iQ c2,.bool rf2,.bool cf2,iQ m] 73;have sa:wa.heap.size=w.heap.size+1:=by rw [<- ha,World.size_alloc]
 rw [sa] at VN;have VE2:=VE.l X2;have X:=xt X1 X2;clear X1 X2;by_cases q:m=(kk:Int)
 ·have HMK:Hid (decide (m=(kk:Int))=true):=decide_eq_true q;have gMK:(m != (kk:Int))=false:=by simp [q]
  clear q;cases hBA:(zA9 neg d x && zA3 r c rf cf && zA3 r2 c2 rf2 cf2)
  ·have HB:Hid (false=Q):=by show _=_;rw [<- HQ.out,HMK.out,hBA];simp
   obtain ⟨a0,a1,a2,a3,a4,a5,a6,a7,a8,a9,a10,a11,a12,a13,a14⟩:=vC15 VE;have d14:=(VE2 14 _ rfl).1;have n0:=vC14 VN;go_enter Tryz.func103,Tryz.ntmps103;go_wp2_with fail;clear a0 a1 a2 a3 a4 a5 a6 a7 a8 a9 a10 a11 a12 a13 a14 d14;refine (zB5 _ _ _ _ _ _ _ _ _ _ _ _ _ _ _).mono ?_;rintro e w1 ⟨rfl,e1⟩;have V1:=VN.l e1;have Y1:=xt X e1;clear n0;rw [hBA];have b0:=vC14 V1;go_wp2_with fail;go_ret;exact ⟨zA1 HB.out,Y1⟩
  ·obtain ⟨R,hRN⟩:=nm (numL t);have HRN:Hid _:=hRN;by_cases t1:R<1
   ·have HB:Hid (false=Q):=(by show _=_;rw [<- HQ.out,HMK.out,hBA];simp [zDE,hRN,t1]);have g1:decide (R<1)=true:=decide_eq_true t1;clear hRN;obtain ⟨a0,a1,a2,a3,a4,a5,a6,a7,a8,a9,a10,a11,a12,a13,a14⟩:=vC15 VE;have d14:=(VE2 14 _ rfl).1;have n0:=vC14 VN;go_enter Tryz.func103,Tryz.ntmps103;go_wp2_with fail;clear a0 a1 a2 a3 a4 a5 a6 a7 a8 a9 a10 a11 a12 a13 a14 d14;refine (zB5 _ _ _ _ _ _ _ _ _ _ _ _ _ _ _).mono ?_;rintro e w1 ⟨rfl,e1⟩;have V1:=VN.l e1;have Y1:=xt X e1;clear n0;rw [hBA];have b0:=vC14 V1;go_wp2_with fail;refine (numS _ t _ rfl).mono ?_;rintro e w2 ⟨rfl,rfl⟩;rw [HRN.out];go_wp2_with fail;clear b0;have c1:=fun p:ExtW w2=>((V1.l p.ext) 1 _ rfl).1;refine zA2 rfl (by kernel_rfl) ?_
    repeat (go_big_quiet_step (first | (go_at_call 81;exact zA6 (LN.out _))))
    refine zA7 fun w9 E=>?_;clear c1;go_wp2_with fail;go_ret;exact ⟨zA1 HB.out,xt Y1 E⟩
   have g1:decide (R<1)=false:=decide_eq_false t1;by_cases t2:20<R
   ·have HB:Hid (false=Q):=(by show _=_;rw [<- HQ.out,HMK.out,hBA];simp [zDE,hRN,t2]);have g2:decide (20<R)=true:=decide_eq_true t2;clear hRN;obtain ⟨a0,a1,a2,a3,a4,a5,a6,a7,a8,a9,a10,a11,a12,a13,a14⟩:=vC15 VE;have d14:=(VE2 14 _ rfl).1;have n0:=vC14 VN;go_enter Tryz.func103,Tryz.ntmps103;go_wp2_with fail;clear a0 a1 a2 a3 a4 a5 a6 a7 a8 a9 a10 a11 a12 a13 a14 d14;refine (zB5 _ _ _ _ _ _ _ _ _ _ _ _ _ _ _).mono ?_;rintro e w1 ⟨rfl,e1⟩;have V1:=VN.l e1;have Y1:=xt X e1;clear n0;rw [hBA];have b0:=vC14 V1;go_wp2_with fail;refine (numS _ t _ rfl).mono ?_;rintro e w2 ⟨rfl,rfl⟩;rw [HRN.out];go_wp2_with fail;clear b0;have c1:=fun p:ExtW w2=>((V1.l p.ext) 1 _ rfl).1;refine zA2 rfl (by kernel_rfl) ?_
    repeat (go_big_quiet_step (first | (go_at_call 81;exact zA6 (LN.out _))))
    refine zA7 fun w9 E=>?_;clear c1;go_wp2_with fail;go_ret;exact ⟨zA1 HB.out,xt Y1 E⟩
   have g2:decide (20<R)=false:=decide_eq_false t2;obtain ⟨ri,rfl⟩:∃ ri:Nat,R=(ri:Int):=⟨R.toNat,by omega⟩;obtain ⟨D,hD⟩:=nm (Lib.decDigits ri);have LN:Hid (∀ W,Calls Tryz.prog 81 #[iQ (ri:Int)] W fun e w'=>e=.returned (sV D)/\Ext W w'):=fun W=>by rw [<- hD];exact zS7 ri (by omega) W
   have hS0:zDE t kk=!(!(D == t) || decide (kk<1) || decide (100<kk) || !((kk:Int).tmod (ri:Int) == 0)):=by
    have q1:¬ (ri:Int)<1:=t1;have q2:¬ 20<(ri:Int):=t2;unfold zDE;rw [hRN,decide_eq_false q1,decide_eq_false q2,Int.toNat_natCast,hD];rfl
   clear hRN hD;cases t3:(D == t)
   ·have HB:Hid (false=Q):=(by show _=_;rw [<- HQ.out,HMK.out,hBA,hS0,t3];simp);have g3:(D != t)=true:=(by simp [bne,t3]);clear hS0;obtain ⟨a0,a1,a2,a3,a4,a5,a6,a7,a8,a9,a10,a11,a12,a13,a14⟩:=vC15 VE;have d14:=(VE2 14 _ rfl).1;have n0:=vC14 VN;go_enter Tryz.func103,Tryz.ntmps103;go_wp2_with fail;clear a0 a1 a2 a3 a4 a5 a6 a7 a8 a9 a10 a11 a12 a13 a14 d14;refine (zB5 _ _ _ _ _ _ _ _ _ _ _ _ _ _ _).mono ?_;rintro e w1 ⟨rfl,e1⟩;have V1:=VN.l e1;have Y1:=xt X e1;clear n0;rw [hBA];have b0:=vC14 V1;go_wp2_with fail;refine (numS _ t _ rfl).mono ?_;rintro e w2 ⟨rfl,rfl⟩;rw [HRN.out];go_wp2_with fail;clear b0;have c1:=fun p:ExtW w2=>((V1.l p.ext) 1 _ rfl).1;refine zA2 rfl (by kernel_rfl) ?_
    repeat (go_big_quiet_step (first | (go_at_call 81;exact zA6 (LN.out _))))
    refine zA7 fun w9 E=>?_;clear c1;go_wp2_with fail;go_ret;exact ⟨zA1 HB.out,xt Y1 E⟩
   have g3:(D != t)=false:=by simp [bne,t3]
   by_cases t4:kk<1
   ·have HB:Hid (false=Q):=(by show _=_;rw [<- HQ.out,HMK.out,hBA,hS0,t3,decide_eq_true t4];simp);have g4:decide ((kk:Int)<1)=true:=decide_eq_true (by omega);have g4':(kk:Int)<1:=(by omega);clear hS0 t4;obtain ⟨a0,a1,a2,a3,a4,a5,a6,a7,a8,a9,a10,a11,a12,a13,a14⟩:=vC15 VE;have d14:=(VE2 14 _ rfl).1;have n0:=vC14 VN;go_enter Tryz.func103,Tryz.ntmps103;go_wp2_with fail;clear a0 a1 a2 a3 a4 a5 a6 a7 a8 a9 a10 a11 a12 a13 a14 d14;refine (zB5 _ _ _ _ _ _ _ _ _ _ _ _ _ _ _).mono ?_;rintro e w1 ⟨rfl,e1⟩;have V1:=VN.l e1;have Y1:=xt X e1;clear n0;rw [hBA];have b0:=vC14 V1;go_wp2_with fail;refine (numS _ t _ rfl).mono ?_;rintro e w2 ⟨rfl,rfl⟩;rw [HRN.out];go_wp2_with fail;clear b0;have c1:=fun p:ExtW w2=>((V1.l p.ext) 1 _ rfl).1;refine zA2 rfl (by kernel_rfl) ?_
    repeat (go_big_quiet_step (first | (go_at_call 81;exact zA6 (LN.out _))))
    refine zA7 fun w9 E=>?_;clear c1;go_wp2_with fail;go_ret;exact ⟨zA1 HB.out,xt Y1 E⟩
   have g4:decide ((kk:Int)<1)=false:=decide_eq_false (by omega);have g4':¬ (kk:Int)<1:=by omega
   by_cases t5:100<kk
   ·have HB:Hid (false=Q):=(by show _=_;rw [<- HQ.out,HMK.out,hBA,hS0,t3,decide_eq_false t4,decide_eq_true t5];simp);have g5:decide (100<(kk:Int))=true:=decide_eq_true (by omega);have g5':100<(kk:Int):=(by omega);clear hS0 t4 t5;obtain ⟨a0,a1,a2,a3,a4,a5,a6,a7,a8,a9,a10,a11,a12,a13,a14⟩:=vC15 VE;have d14:=(VE2 14 _ rfl).1;have n0:=vC14 VN;go_enter Tryz.func103,Tryz.ntmps103;go_wp2_with fail;clear a0 a1 a2 a3 a4 a5 a6 a7 a8 a9 a10 a11 a12 a13 a14 d14;refine (zB5 _ _ _ _ _ _ _ _ _ _ _ _ _ _ _).mono ?_;rintro e w1 ⟨rfl,e1⟩;have V1:=VN.l e1;have Y1:=xt X e1;clear n0;rw [hBA];have b0:=vC14 V1;go_wp2_with fail;refine (numS _ t _ rfl).mono ?_;rintro e w2 ⟨rfl,rfl⟩;rw [HRN.out];go_wp2_with fail;clear b0;have c1:=fun p:ExtW w2=>((V1.l p.ext) 1 _ rfl).1;refine zA2 rfl (by kernel_rfl) ?_
    repeat (go_big_quiet_step (first | (go_at_call 81;exact zA6 (LN.out _))))
    refine zA7 fun w9 E=>?_;clear c1;go_wp2_with fail;go_ret;exact ⟨zA1 HB.out,xt Y1 E⟩
   have g5:decide (100<(kk:Int))=false:=decide_eq_false (by omega);have g5':¬ 100<(kk:Int):=by omega
   obtain ⟨z,hz⟩:=nm ((kk:Int).tmod (ri:Int));have hri:¬ (ri:Int)=0:=by omega
   have hri2:((ri:Int) == 0)=false:=by simp;omega
   rw [hz] at hS0;cases t6:(z == 0)
   ·have HB:Hid (false=Q):=(by show _=_;rw [<- HQ.out,HMK.out,hBA,hS0,t3,decide_eq_false t4,decide_eq_false t5,t6];simp);have g6:(z != 0)=true:=(by simp [bne,t6]);have g6':¬ z=0:=(by intro q;rw [q] at t6;cases t6);clear hS0 t4 t5;obtain ⟨a0,a1,a2,a3,a4,a5,a6,a7,a8,a9,a10,a11,a12,a13,a14⟩:=vC15 VE;have d14:=(VE2 14 _ rfl).1;have n0:=vC14 VN;go_enter Tryz.func103,Tryz.ntmps103;go_wp2_with fail;clear a0 a1 a2 a3 a4 a5 a6 a7 a8 a9 a10 a11 a12 a13 a14 d14;refine (zB5 _ _ _ _ _ _ _ _ _ _ _ _ _ _ _).mono ?_;rintro e w1 ⟨rfl,e1⟩;have V1:=VN.l e1;have Y1:=xt X e1;clear n0;rw [hBA];have b0:=vC14 V1;go_wp2_with fail;refine (numS _ t _ rfl).mono ?_;rintro e w2 ⟨rfl,rfl⟩;rw [HRN.out];go_wp2_with fail;clear b0;have c1:=fun p:ExtW w2=>((V1.l p.ext) 1 _ rfl).1;refine zA2 rfl (by kernel_rfl) ?_
    repeat (go_big_quiet_step (first | (go_at_call 81;exact zA6 (LN.out _))))
    refine zA7 fun w9 E=>?_;clear c1;go_wp2_with fail;go_ret;exact ⟨zA1 HB.out,xt Y1 E⟩
   have g6:(z != 0)=false:=by simp [bne,t6]
   have g6':z=0:=by simpa using t6
   have HS:Hid (zDE t kk=true):=by show _=_;rw [hS0,t3,decide_eq_false t4,decide_eq_false t5,t6];rfl
   clear hS0 t4 t5 t6 g6';obtain ⟨a0,a1,a2,a3,a4,a5,a6,a7,a8,a9,a10,a11,a12,a13,a14⟩:=vC15 VE;have d14:=(VE2 14 _ rfl).1;have n0:=vC14 VN;go_enter Tryz.func103,Tryz.ntmps103;go_wp2_with fail;clear a0 a1 a2 a3 a4 a5 a6 a7 a8 a9 a10 a11 a12 a13 a14 d14;refine (zB5 _ _ _ _ _ _ _ _ _ _ _ _ _ _ _).mono ?_;rintro e w1 ⟨rfl,e1⟩;have V1:=VN.l e1;have Y1:=xt X e1;clear n0;rw [hBA];have b0:=vC14 V1;go_wp2_with fail;refine (numS _ t _ rfl).mono ?_;rintro e w2 ⟨rfl,rfl⟩;rw [HRN.out];go_wp2_with fail;clear b0;have c1:=fun p:ExtW w2=>((V1.l p.ext) 1 _ rfl).1;refine zA2 rfl (by kernel_rfl) ?_
   repeat (go_big_quiet_step (first | (go_at_call 81;exact zA6 (LN.out _))))
   refine zA7 fun w9 E=>?_;clear c1;have a14:=((VE2.l (xt e1 E)) 14 _ rfl).1;have Y2:=xt Y1 E;have HV5:Hid _:=Y2;go_wp2_with fail;go_loopw [235] (fun i wr=>∃ j:Nat,j<=kk/\i=.int .i64 j/\Hid (Ext w wr/\∀ (q:Nat) e,q<j->ks[q]?=some e->zAU e=true)) (fun i _=>kk - (intOf i).toNat)
   case atStart=>exact ⟨0,by omega,rfl,HV5.out,fun q e hq=>absurd hq (by omega)⟩
   case round =>
    obtain ⟨j,hj,rfl,HO⟩:=hrel;by_cases hlt:j<kk
    ·have i2:(j:Int)<(kk:Int):=(by omega);obtain ⟨e,he⟩:∃ e,ks[j]?=some e:=⟨_,List.getElem?_eq_getElem (by rw [HKL.out];exact hlt)⟩;obtain ⟨cap',g,sk,ev,HRA,hks⟩:=(HKI.out wr HO.out.1).row he;obtain rfl:p=some ⟨g,0,none⟩:=(Value.slice.inj ev).1;have HEL:Hid _:=he;obtain ⟨⟨ek,et,en,ed,ex,er,ec,ef,eg,er2,ec2,ef2,eg2,eq⟩,ekids⟩:=e;have HRA:wr.rangeAt g (j * 15) (NT.exL ⟨ek,et,en,ed,ex,er,ec,ef,eg,er2,ec2,ef2,eg2,eq⟩ sk):=HRA;obtain ⟨wz,hz9,XZ,VZ,-⟩:=zAC wr [iQ 0,.string ⟨#[]⟩,.bool false,iQ 0,iQ 0,iQ 0,iQ 0,.bool false,.bool false,iQ 0,iQ 0,.bool false,.bool false,iQ 0,.slice none 0 0] 77;have VT:=VZ.there;have VR:=World.rangeAt_setCells_same wz wr.heap.size 0 (NT.exL ⟨ek,et,en,ed,ex,er,ec,ef,eg,er2,ec2,ef2,eg2,eq⟩ sk) VT;have XR:=Ext.setCells (b:=wr.heap.size) (Nat.le_refl _) (NT.exL ⟨ek,et,en,ed,ex,er,ec,ef,eg,er2,ec2,ef2,eg2,eq⟩ sk) 0 wz XZ;obtain ⟨w5,h5⟩:=nm (wz.setCells wr.heap.size 0 (NT.exL ⟨ek,et,en,ed,ex,er,ec,ef,eg,er2,ec2,ef2,eg2,eq⟩ sk));rw [h5] at VR XR;obtain ⟨pk,nk,ck,rfl⟩:∃ pk nk ck,sk=.slice pk nk ck:=(by obtain ⟨q1,q2,q3,_⟩:=hks.slice;exact ⟨_,_,_,q3⟩);have one:((NT.exL ⟨ek,et,en,ed,ex,er,ec,ef,eg,er2,ec2,ef2,eg2,eq⟩ (.slice pk nk ck)).toArray).all (·.oneCell')=true:=(by simp [Value.oneCell']);have CC:=constS ⟨ek,et,en,ed,ex,er,ec,ef,eg,er2,ec2,ef2,eg2,eq⟩ (.slice pk nk ck) ekids U w5 (hks.keep (fun k hk=>XR.block k (Nat.lt_of_lt_of_le (HUL.out k hk) HO.out.1.size)) (fun _ h=>h));obtain ⟨z9,hz10⟩:=nm (zAU (.mk ⟨ek,et,en,ed,ex,er,ec,ef,eg,er2,ec2,ef2,eg2,eq⟩ ekids));have HZ9:Hid _:=hz10;rw [hz10] at CC;have ghi:(g,j * 15)=(g,j * 15):=rfl;clear hz10 hks he ev VZ XZ ghi;go_wp2_with (first | (refine wpList_load_mid rfl 77 (.tmp 237) rfl g (j * 15) rfl (NT.exL ⟨ek,et,en,ed,ex,er,ec,ef,eg,er2,ec2,ef2,eg2,eq⟩ (.slice pk nk ck)) _ HRA Tryz.underlying77 rfl zDT ?_) | (refine wpList_store_mid rfl _ _ _ rfl wr.heap.size 0 (NT.exL ⟨ek,et,en,ed,ex,er,ec,ef,eg,er2,ec2,ef2,eg2,eq⟩ (.slice pk nk ck)).toArray rfl rfl VT zDT one ?_;show wpList _ _ _ _ _ (wz.setCells wr.heap.size 0 (NT.exL ⟨ek,et,en,ed,ex,er,ec,ef,eg,er2,ec2,ef2,eg2,eq⟩ (.slice pk nk ck)));rw [h5];go_frame) | (refine wpList_load_mid rfl 77 (.tmp 9) rfl wr.heap.size 0 rfl (NT.exL ⟨ek,et,en,ed,ex,er,ec,ef,eg,er2,ec2,ef2,eg2,eq⟩ (.slice pk nk ck)) _ VR Tryz.underlying77 rfl zDT ?_));refine CC.mono ?_;rintro e w6 ⟨rfl,e6⟩;have Y6:=xt (xt HO.out.1 XR) e6;cases z9
     ·have HB:Hid (false=Q):=by
       show _=_;have hall:ks.all zAU=false:=by
        cases hq:ks.all zAU with
        | false=>rfl
        | true =>
         have:=(List.all_eq_true.1 hq) _ (List.mem_of_getElem? HEL.out);rw [HZ9.out] at this;cases this
       rw [<- HQ.out,hall];simp
      clear HO HRA VR VT XR CC;go_wp2_with fail;go_ret;exact ⟨zA1 HB.out,Y6⟩
     ·have HM:Hid (Ext w w6/\∀ (q:Nat) e,q<j+1->ks[q]?=some e->zAU e=true):=⟨Y6,fun q e hq hqe=>by
       by_cases q1:q=j
       ·subst q1;rw [HEL.out] at hqe;cases hqe;exact HZ9.out
       ·exact HO.out.2 q e (by omega) hqe⟩
      clear HO HRA VR VT XR CC;go_wp2_with fail;go_roundw
      case rel=>exact ⟨j+1,by omega,by go_num,HM⟩
      case measure=>simp [intOf];omega
    ·obtain rfl:j=kk:=(by omega);have i2:¬ (j:Int)<(j:Int):=(by omega);have HB:Hid (true=Q):=by
      show _=_;have hall:ks.all zAU=true:=by
       rw [List.all_eq_true];intro e he;obtain ⟨q,hq,rfl⟩:=List.getElem_of_mem he;exact HO.out.2 q _ (by rw [<- HKL.out];exact hq) (List.getElem?_eq_getElem hq)
      rw [<- HQ.out,HMK.out,hBA,HS.out,hall];rfl
     have Y3:=HO.out.1;clear HO;go_wp2_with fail;go_ret;exact ⟨zA1 HB.out,Y3⟩
 ·have HMK:Hid (decide (m=(kk:Int))=false):=decide_eq_false q;have gMK:(m != (kk:Int))=true:=by simp [q]
  clear q;have HB:Hid (false=Q):=by show _=_;rw [<- HQ.out,HMK.out];simp
  obtain ⟨a0,a1,a2,a3,a4,a5,a6,a7,a8,a9,a10,a11,a12,a13,a14⟩:=vC15 VE;have d14:=(VE2 14 _ rfl).1;have n0:=vC14 VN;go_enter Tryz.func103,Tryz.ntmps103;go_wp2_with fail;clear a0 a1 a2 a3 a4 a5 a6 a7 a8 a9 a10 a11 a12 a13 a14 d14;go_ret;exact ⟨zA1 HB.out,X⟩
theorem zSY (k:Int) (t:List UInt8) (neg:Bool) (d:Int) (x:Int) (r:Int) (c:Int) (rf:Bool) (cf:Bool) (r2:Int) (c2:Int) (rf2:Bool) (cf2:Bool) (m:Int) (p:Option Addr) (kk cap:Nat) (many:Bool) (w:World) (h1:k ≠ 1) (h2:k ≠ 2) (h3:k ≠ 3) (h4:k ≠ 4) (h5:k ≠ 5) (h6:k ≠ 6) (h7:k ≠ 7) (h8:k ≠ 8) (h9:k ≠ 9) (h10:k ≠ 10) (h11:k ≠ 11) (h12:k ≠ 12) (h13:k ≠ 13) :
  Calls Tryz.prog 103 #[exV k t neg d x r c rf cf r2 c2 rf2 cf2 m (.slice p kk cap),.bool many] w fun e w'=>e=.returned (.bool false)/\Ext w w':=by
 obtain ⟨wa,ha,X1,VE,-⟩:=zAC w [iQ k,sV t,.bool neg,iQ d,iQ x,iQ r,iQ c,.bool rf,.bool cf,iQ r2,iQ c2,.bool rf2,.bool cf2,iQ m,.slice p kk cap] 77;obtain ⟨wb,hb,X2,VN,-⟩:=zAC wa [iQ k,sV t,.bool neg,iQ d,iQ x,iQ r,iQ c,.bool rf,.bool cf,iQ r2,iQ c2,.bool rf2,.bool cf2,iQ m] 73;have sa:wa.heap.size=w.heap.size+1:=by rw [<- ha,World.size_alloc]
 rw [sa] at VN;have VE2:=VE.l X2;have X:=xt X1 X2;clear X1 X2;by_cases q:m=(kk:Int)
 ·have gMK:(m != (kk:Int))=false:=by simp [q]
  clear q;cases hBA:(zA9 neg d x && zA3 r c rf cf && zA3 r2 c2 rf2 cf2)
  ·have a0:=(VE 0 _ rfl).1;have a1:=(VE 1 _ rfl).1;have a2:=(VE 2 _ rfl).1;have a3:=(VE 3 _ rfl).1;have a4:=(VE 4 _ rfl).1;have a5:=(VE 5 _ rfl).1;have a6:=(VE 6 _ rfl).1;have a7:=(VE 7 _ rfl).1;have a8:=(VE 8 _ rfl).1;have a9:=(VE 9 _ rfl).1;have a10:=(VE 10 _ rfl).1;have a11:=(VE 11 _ rfl).1;have a12:=(VE 12 _ rfl).1;have a13:=(VE 13 _ rfl).1;have a14:=(VE 14 _ rfl).1;have d14:=(VE2 14 _ rfl).1;have n0:=vC14 VN;go_enter Tryz.func103,Tryz.ntmps103;go_wp2_with fail;clear a0 a1 a2 a3 a4 a5 a6 a7 a8 a9 a10 a11 a12 a13 a14 d14;refine (zB5 _ _ _ _ _ _ _ _ _ _ _ _ _ _ _).mono ?_;rintro e w1 ⟨rfl,e1⟩;have V1:=VN.l e1;have Y1:=xt X e1;clear n0;rw [hBA];have b0:=vC14 V1;go_wp2_with fail;go_ret;exact ⟨rfl,Y1⟩
  ·have a0:=(VE 0 _ rfl).1;have a1:=(VE 1 _ rfl).1;have a2:=(VE 2 _ rfl).1;have a3:=(VE 3 _ rfl).1;have a4:=(VE 4 _ rfl).1;have a5:=(VE 5 _ rfl).1;have a6:=(VE 6 _ rfl).1;have a7:=(VE 7 _ rfl).1;have a8:=(VE 8 _ rfl).1;have a9:=(VE 9 _ rfl).1;have a10:=(VE 10 _ rfl).1;have a11:=(VE 11 _ rfl).1;have a12:=(VE 12 _ rfl).1;have a13:=(VE 13 _ rfl).1;have a14:=(VE 14 _ rfl).1;have d14:=(VE2 14 _ rfl).1;have n0:=vC14 VN;go_enter Tryz.func103,Tryz.ntmps103;go_wp2_with fail;clear a0 a1 a2 a3 a4 a5 a6 a7 a8 a9 a10 a11 a12 a13 a14 d14;refine (zB5 _ _ _ _ _ _ _ _ _ _ _ _ _ _ _).mono ?_;rintro e w1 ⟨rfl,e1⟩;have V1:=VN.l e1;have Y1:=xt X e1;clear n0;rw [hBA];have b0:=vC14 V1;go_wp2_with fail;go_ret;exact ⟨rfl,Y1⟩
 ·have gMK:(m != (kk:Int))=true:=by simp [q]
  clear q;obtain ⟨a0,a1,a2,a3,a4,a5,a6,a7,a8,a9,a10,a11,a12,a13,a14⟩:=vC15 VE;have d14:=(VE2 14 _ rfl).1;have n0:=vC14 VN;go_enter Tryz.func103,Tryz.ntmps103;go_wp2_with fail;clear a0 a1 a2 a3 a4 a5 a6 a7 a8 a9 a10 a11 a12 a13 a14 d14;go_ret;exact ⟨rfl,X⟩
theorem zSK:∀ r ∈ List.range 21,1<=r->zC9 (Lib.decDigits r)=(r:Int)/\numL (Lib.decDigits r)=(r:Int):=by decide +kernel
theorem zNH (t:List UInt8) (kk:Nat):zDE t kk=zCY t (kk:Int):=by
 have hi:∀ i:Nat,Lib.itoa (i:Int)=Lib.decDigits i:=fun i=>by unfold Lib.itoa;rw [if_neg (by omega)];simp
 have key:∀ r:Nat,1<=r->r<=20->t=Lib.decDigits r->zDE t kk=zCY t (kk:Int):=fun r h1 h2 ht=>by
  obtain ⟨w1,w2⟩:=zSK r (List.mem_range.2 (by omega)) h1;have q1:zC9 t=(r:Int):=by rw [ht];exact w1
  have q2:numL t=(r:Int):=by rw [ht];exact w2
  have q3:(Lib.decDigits r == t)=true:=by rw [ht];simp
  have q4:(t == Lib.decDigits r)=true:=by rw [ht];simp
  unfold zDE zCY;rw [q1,q2,hi r,Int.toNat_natCast,q3,q4];have a1:decide ((r:Int)<1)=false:=decide_eq_false (by omega);have a2:decide (20<(r:Int))=false:=decide_eq_false (by omega);have a3:decide (1<=(r:Int))=true:=decide_eq_true (by omega);have a4:decide ((r:Int)<=20)=true:=decide_eq_true (by omega);rw [a1,a2,a3,a4];have b1:decide (kk<1)=!decide (1<=(kk:Int)):=by by_cases h:kk<1 <;> simp [h] <;> omega
  have b2:decide (100<kk)=!decide ((kk:Int)<=100):=by by_cases h:100<kk <;> simp [h] <;> omega
  rw [b1,b2];cases decide (1<=(kk:Int)) <;> cases decide ((kk:Int)<=100) <;> cases ((kk:Int).tmod (r:Int) == 0) <;> rfl
 cases h1:zDE t kk with
 | true =>
  have h:=h1;unfold zDE at h;simp only [Bool.not_eq_true',Bool.or_eq_false_iff,decide_eq_false_iff_not,Bool.not_eq_false'] at h;obtain ⟨⟨⟨⟨⟨g1,g2⟩,g3⟩,_⟩,_⟩,_⟩:=h;have g3':Lib.decDigits (numL t).toNat=t:=by simpa using g3
  rw [<- h1];exact key (numL t).toNat (by omega) (by omega) g3'.symm
 | false =>
  cases h2:zCY t (kk:Int) with
  | false=>rfl
  | true =>
   have h:=h2;unfold zCY at h;simp only [Bool.and_eq_true,decide_eq_true_eq,beq_iff_eq] at h;obtain ⟨⟨⟨⟨g1,g2⟩,g3⟩,_⟩,_⟩:=h;have g3':t=Lib.decDigits (zC9 t).toNat:=by
    obtain ⟨i,hw⟩:∃ i:Nat,zC9 t=(i:Int):=⟨(zC9 t).toNat,by omega⟩;rw [hw,hi i] at g3;rw [hw,Int.toNat_natCast];exact g3
   have:=key (zC9 t).toNat (by omega) (by omega) g3';rw [h1,h2] at this;cases this
theorem zNI (x:NT) (p:Option Addr) (cap:Nat) (ks:List ET) (U:Nat->Prop) (many:Bool) (w:World) (hl:x.t.length<=1048576) (hK:KidsS w U (.slice p ks.length cap) ks) (hU:∀ k,U k->k<w.heap.size) :
  Calls Tryz.prog 103 #[x.ex (.slice p ks.length cap),.bool many] w fun e w'=>e=.returned (.bool (zCP NT.good (.mk x ks) many))/\Ext w w':=by
 have RE:zCP NT.good (.mk x ks) many=(decide (x.q=(ks.length:Int)) && x.good && (!decide (x.k=13) || many) && (!decide (x.k=12) || ks.all zAU)):=rfl;rw [RE];clear RE;obtain ⟨kk,hkk⟩:=nm (ks.length);rw [hkk] at hK ⊢;unfold NT.good;by_cases k1:x.k=1
 ·have h:=zT7 x.t x.n x.d x.x x.r x.c x.f x.g x.r2 x.c2 x.f2 x.g2 x.q p kk cap many w hl;have e:(decide (x.q=(kk:Int)) && zAB x.k x.t x.n x.d x.x x.r x.c x.f x.g x.r2 x.c2 x.f2 x.g2 x.q && (!decide (x.k=13) || many) && (!decide (x.k=12) || ks.all zAU))=(decide (x.q=(kk:Int)) && decide (kk=0) && (x.t == []) && zFA x.n x.d x.x && !x.n && zA3 x.r x.c x.f x.g && zA3 x.r2 x.c2 x.f2 x.g2):=by
   rw [k1];rw [Bool.eq_iff_iff];simp [zAB,zA3]
   grind
  rw [e];show Calls Tryz.prog 103 #[exV x.k x.t x.n x.d x.x x.r x.c x.f x.g x.r2 x.c2 x.f2 x.g2 x.q (.slice p kk cap),.bool many] w _;rw [k1];exact h
 by_cases k2:x.k=2
 ·have h:=zT6 x.t x.n x.d x.x x.r x.c x.f x.g x.r2 x.c2 x.f2 x.g2 x.q p kk cap many w hl;have e:(decide (x.q=(kk:Int)) && zAB x.k x.t x.n x.d x.x x.r x.c x.f x.g x.r2 x.c2 x.f2 x.g2 x.q && (!decide (x.k=13) || many) && (!decide (x.k=12) || ks.all zAU))=(decide (x.q=(kk:Int)) && (zA9 x.n x.d x.x && zA3 x.r x.c x.f x.g && zA3 x.r2 x.c2 x.f2 x.g2) && decide (kk=0) && zF4 x.t):=by
   rw [k2];rw [Bool.eq_iff_iff];simp [zAB,zA9,zA3]
   grind
  rw [e];show Calls Tryz.prog 103 #[exV x.k x.t x.n x.d x.x x.r x.c x.f x.g x.r2 x.c2 x.f2 x.g2 x.q (.slice p kk cap),.bool many] w _;rw [k2];exact h
 by_cases k3:x.k=3
 ·have h:=zT5 x.t x.n x.d x.x x.r x.c x.f x.g x.r2 x.c2 x.f2 x.g2 x.q p kk cap many w hl;have e:(decide (x.q=(kk:Int)) && zAB x.k x.t x.n x.d x.x x.r x.c x.f x.g x.r2 x.c2 x.f2 x.g2 x.q && (!decide (x.k=13) || many) && (!decide (x.k=12) || ks.all zAU))=(decide (x.q=(kk:Int)) && (zA9 x.n x.d x.x && zA3 x.r x.c x.f x.g && zA3 x.r2 x.c2 x.f2 x.g2) && decide (kk=0) && zEZ x.t):=by
   rw [k3];rw [Bool.eq_iff_iff];simp [zAB,zA9,zA3]
   grind
  rw [e];show Calls Tryz.prog 103 #[exV x.k x.t x.n x.d x.x x.r x.c x.f x.g x.r2 x.c2 x.f2 x.g2 x.q (.slice p kk cap),.bool many] w _;rw [k3];exact h
 by_cases k4:x.k=4
 ·have h:=zT4 x.t x.n x.d x.x x.r x.c x.f x.g x.r2 x.c2 x.f2 x.g2 x.q p kk cap many w hl;have e:(decide (x.q=(kk:Int)) && zAB x.k x.t x.n x.d x.x x.r x.c x.f x.g x.r2 x.c2 x.f2 x.g2 x.q && (!decide (x.k=13) || many) && (!decide (x.k=12) || ks.all zAU))=(decide (x.q=(kk:Int)) && (zA9 x.n x.d x.x && zA3 x.r x.c x.f x.g && zA3 x.r2 x.c2 x.f2 x.g2) && (decide (kk=0) && memB errL x.t)):=by
   rw [k4];rw [Bool.eq_iff_iff];simp [zAB,zA9,zA3]
   grind
  rw [e];show Calls Tryz.prog 103 #[exV x.k x.t x.n x.d x.x x.r x.c x.f x.g x.r2 x.c2 x.f2 x.g2 x.q (.slice p kk cap),.bool many] w _;rw [k4];exact h
 by_cases k5:x.k=5
 ·have h:=zT3 x.t x.n x.d x.x x.r x.c x.f x.g x.r2 x.c2 x.f2 x.g2 x.q p kk cap many w hl;have e:(decide (x.q=(kk:Int)) && zAB x.k x.t x.n x.d x.x x.r x.c x.f x.g x.r2 x.c2 x.f2 x.g2 x.q && (!decide (x.k=13) || many) && (!decide (x.k=12) || ks.all zAU))=(decide (x.q=(kk:Int)) && decide (kk=0) && (x.t == []) && zAA x.r x.c && zA9 x.n x.d x.x && zA3 x.r2 x.c2 x.f2 x.g2):=by
   rw [k5];rw [Bool.eq_iff_iff];simp [zAB,zA9,zA3]
   grind
  rw [e];show Calls Tryz.prog 103 #[exV x.k x.t x.n x.d x.x x.r x.c x.f x.g x.r2 x.c2 x.f2 x.g2 x.q (.slice p kk cap),.bool many] w _;rw [k5];exact h
 by_cases k6:x.k=6
 ·have h:=zT2 x.t x.n x.d x.x x.r x.c x.f x.g x.r2 x.c2 x.f2 x.g2 x.q p kk cap many w hl;have e:(decide (x.q=(kk:Int)) && zAB x.k x.t x.n x.d x.x x.r x.c x.f x.g x.r2 x.c2 x.f2 x.g2 x.q && (!decide (x.k=13) || many) && (!decide (x.k=12) || ks.all zAU))=(decide (x.q=(kk:Int)) && decide (kk=0) && (x.t == []) && zAA x.r x.c && zAA x.r2 x.c2 && zA9 x.n x.d x.x):=by
   rw [k6];rw [Bool.eq_iff_iff];simp [zAB,zA9]
   grind
  rw [e];show Calls Tryz.prog 103 #[exV x.k x.t x.n x.d x.x x.r x.c x.f x.g x.r2 x.c2 x.f2 x.g2 x.q (.slice p kk cap),.bool many] w _;rw [k6];exact h
 by_cases k7:x.k=7
 ·have h:=zT1 x.t x.n x.d x.x x.r x.c x.f x.g x.r2 x.c2 x.f2 x.g2 x.q p kk cap many w hl;have e:(decide (x.q=(kk:Int)) && zAB x.k x.t x.n x.d x.x x.r x.c x.f x.g x.r2 x.c2 x.f2 x.g2 x.q && (!decide (x.k=13) || many) && (!decide (x.k=12) || ks.all zAU))=(decide (x.q=(kk:Int)) && (zA9 x.n x.d x.x && zA3 x.r x.c x.f x.g && zA3 x.r2 x.c2 x.f2 x.g2) && decide (kk=0) && zCL x.t):=by
   rw [k7];rw [Bool.eq_iff_iff];simp [zAB,zA9,zA3]
   grind
  rw [e];show Calls Tryz.prog 103 #[exV x.k x.t x.n x.d x.x x.r x.c x.f x.g x.r2 x.c2 x.f2 x.g2 x.q (.slice p kk cap),.bool many] w _;rw [k7];exact h
 by_cases k8:x.k=8
 ·have h:=zT0 x.t x.n x.d x.x x.r x.c x.f x.g x.r2 x.c2 x.f2 x.g2 x.q p kk cap many w hl;have e:(decide (x.q=(kk:Int)) && zAB x.k x.t x.n x.d x.x x.r x.c x.f x.g x.r2 x.c2 x.f2 x.g2 x.q && (!decide (x.k=13) || many) && (!decide (x.k=12) || ks.all zAU))=(decide (x.q=(kk:Int)) && (zA9 x.n x.d x.x && zA3 x.r x.c x.f x.g && zA3 x.r2 x.c2 x.f2 x.g2) && decide (kk=1) && (x.t == [])):=by
   rw [k8];rw [Bool.eq_iff_iff];simp [zAB,zA9,zA3]
   grind
  rw [e];show Calls Tryz.prog 103 #[exV x.k x.t x.n x.d x.x x.r x.c x.f x.g x.r2 x.c2 x.f2 x.g2 x.q (.slice p kk cap),.bool many] w _;rw [k8];exact h
 by_cases k9:x.k=9
 ·have h:=zSZ x.t x.n x.d x.x x.r x.c x.f x.g x.r2 x.c2 x.f2 x.g2 x.q p kk cap many w hl;have e:(decide (x.q=(kk:Int)) && zAB x.k x.t x.n x.d x.x x.r x.c x.f x.g x.r2 x.c2 x.f2 x.g2 x.q && (!decide (x.k=13) || many) && (!decide (x.k=12) || ks.all zAU))=(decide (x.q=(kk:Int)) && (zA9 x.n x.d x.x && zA3 x.r x.c x.f x.g && zA3 x.r2 x.c2 x.f2 x.g2) && decide (kk=1) && (x.t == [])):=by
   rw [k9];rw [Bool.eq_iff_iff];simp [zAB,zA9,zA3]
   grind
  rw [e];show Calls Tryz.prog 103 #[exV x.k x.t x.n x.d x.x x.r x.c x.f x.g x.r2 x.c2 x.f2 x.g2 x.q (.slice p kk cap),.bool many] w _;rw [k9];exact h
 by_cases k10:x.k=10
 ·have h:=zQG x.t x.n x.d x.x x.r x.c x.f x.g x.r2 x.c2 x.f2 x.g2 x.q p kk cap many w hl;have e:(decide (x.q=(kk:Int)) && zAB x.k x.t x.n x.d x.x x.r x.c x.f x.g x.r2 x.c2 x.f2 x.g2 x.q && (!decide (x.k=13) || many) && (!decide (x.k=12) || ks.all zAU))=(decide (x.q=(kk:Int)) && (zA9 x.n x.d x.x && zA3 x.r x.c x.f x.g && zA3 x.r2 x.c2 x.f2 x.g2) && (decide (kk=2) && memB opsL x.t)):=by
   rw [k10];rw [Bool.eq_iff_iff];simp [zAB,zA9,zA3]
   grind
  rw [e];show Calls Tryz.prog 103 #[exV x.k x.t x.n x.d x.x x.r x.c x.f x.g x.r2 x.c2 x.f2 x.g2 x.q (.slice p kk cap),.bool many] w _;rw [k10];exact h
 by_cases k11:x.k=11
 ·have h:=zQF x.t x.n x.d x.x x.r x.c x.f x.g x.r2 x.c2 x.f2 x.g2 x.q p kk cap many w hl;have e:(decide (x.q=(kk:Int)) && zAB x.k x.t x.n x.d x.x x.r x.c x.f x.g x.r2 x.c2 x.f2 x.g2 x.q && (!decide (x.k=13) || many) && (!decide (x.k=12) || ks.all zAU))=(decide (x.q=(kk:Int)) && (zA9 x.n x.d x.x && zA3 x.r x.c x.f x.g && zA3 x.r2 x.c2 x.f2 x.g2) && (decide (kk<=30) && (zCL x.t && (x.t.map upC == x.t)))):=by
   rw [k11];rw [Bool.eq_iff_iff];simp [zAB,zA9,zA3]
   grind
  rw [e];show Calls Tryz.prog 103 #[exV x.k x.t x.n x.d x.x x.r x.c x.f x.g x.r2 x.c2 x.f2 x.g2 x.q (.slice p kk cap),.bool many] w _;rw [k11];exact h
 by_cases k12:x.k=12
 ·have h:=zQE x.t x.n x.d x.x x.r x.c x.f x.g x.r2 x.c2 x.f2 x.g2 x.q p kk cap ks U many w hK hU hkk;have e:(decide (x.q=(kk:Int)) && zAB x.k x.t x.n x.d x.x x.r x.c x.f x.g x.r2 x.c2 x.f2 x.g2 x.q && (!decide (x.k=13) || many) && (!decide (x.k=12) || ks.all zAU))=(decide (x.q=(kk:Int)) && (zA9 x.n x.d x.x && zA3 x.r x.c x.f x.g && zA3 x.r2 x.c2 x.f2 x.g2) && (zDE x.t kk && ks.all zAU)):=by
   rw [k12];rw [zNH];rw [Bool.eq_iff_iff];simp [zAB,zA9,zA3]
   grind
  rw [e];show Calls Tryz.prog 103 #[exV x.k x.t x.n x.d x.x x.r x.c x.f x.g x.r2 x.c2 x.f2 x.g2 x.q (.slice p kk cap),.bool many] w _;rw [k12];exact h
 by_cases k13:x.k=13
 ·have h:=zQD x.t x.n x.d x.x x.r x.c x.f x.g x.r2 x.c2 x.f2 x.g2 x.q p kk cap many w hl;have e:(decide (x.q=(kk:Int)) && zAB x.k x.t x.n x.d x.x x.r x.c x.f x.g x.r2 x.c2 x.f2 x.g2 x.q && (!decide (x.k=13) || many) && (!decide (x.k=12) || ks.all zAU))=(decide (x.q=(kk:Int)) && (zA9 x.n x.d x.x && zA3 x.r x.c x.f x.g && zA3 x.r2 x.c2 x.f2 x.g2) && decide (kk=0) && (x.t == []) && many):=by
   rw [k13];rw [Bool.eq_iff_iff];simp [zAB,zA9,zA3]
   grind
  rw [e];show Calls Tryz.prog 103 #[exV x.k x.t x.n x.d x.x x.r x.c x.f x.g x.r2 x.c2 x.f2 x.g2 x.q (.slice p kk cap),.bool many] w _;rw [k13];exact h
 have e:(decide (x.q=(kk:Int)) && zAB x.k x.t x.n x.d x.x x.r x.c x.f x.g x.r2 x.c2 x.f2 x.g2 x.q && (!decide (x.k=13) || many) && (!decide (x.k=12) || ks.all zAU))=false:=by
  simp [zAB,k1,k2,k3,k4,k5,k6,k7,k8,k9,k10,k11,k12,k13]
 rw [e];exact zSY x.k x.t x.n x.d x.x x.r x.c x.f x.g x.r2 x.c2 x.f2 x.g2 x.q p kk cap many w k1 k2 k3 k4 k5 k6 k7 k8 k9 k10 k11 k12 k13
mutual
def cntE:ET->Nat
 | .mk _ ks=>cntL ks+1
def cntL:List ET->Nat
 | []=>0
 | k :: ks=>cntE k+cntL ks
end
mutual
def allE (P:NT->Prop):ET->Prop
 | .mk n ks=>P n/\allL P ks
def allL (P:NT->Prop):List ET->Prop
 | []=>True
 | k :: ks=>allE P k/\allL P ks
end
theorem zLP {P:NT->Prop}:∀ {es:List ET} {i:Nat} {e:ET},allL P es->es[i]?=some e->allE P e
 | k :: ks,0,e,h,hi=>by cases hi;exact h.1
 | k :: ks,i+1,e,h,hi=>zLP h.2 (by simpa using hi)
theorem zI8:∀ {es:List ET} {i:Nat} {e:ET},es[i]?=some e->cntE e<=cntL es
 | k :: ks,0,e,hi=>by cases hi;rw [cntL];omega
 | k :: ks,i+1,e,hi=>by have:=zI8 (es:=ks) (i:=i) (by simpa using hi);rw [cntL];omega
theorem zJO:∀ (es:List ET) (j:Nat),cntL (es.take j)<=cntL es
 | [],j=>by simp
 | k :: ks,0=>by rw [List.take_zero];rw [cntL];omega
 | k :: ks,j+1=>by rw [List.take_succ_cons,cntL,cntL];have:=zJO ks j;omega
theorem zLA:∀ (es:List ET),es.length<=cntL es
 | []=>by simp
 | .mk n ks :: l=>by rw [cntL,cntE,List.length_cons];have:=zLA l;omega
mutual
theorem zQ8 (gd:NT->Bool):∀ (e:ET) (many:Bool) (a d:Nat),zCA gd e many=some (a,d)->a<=cntE e/\d<=cntE e
 | .mk n ks,many,a,d,h=>by
  rw [zCA] at h
  split at h
  ·split at h
   ·cases h
   ·next a1 d1 h1 =>
    cases h;have:=zI0 gd ks _ a1 d1 h1;rw [cntE];omega
  ·cases h
theorem zI0 (gd:NT->Bool):∀ (es:List ET) (many:Bool) (a d:Nat),zBD gd es many=some (a,d)->a<=cntL es/\d<=cntL es
 | [],many,a,d,h=>by rw [zBD] at h;cases h;omega
 | k :: ks,many,a,d,h=>by
  rw [zBD] at h
  split at h
  ·cases h
  ·next a1 d1 h1 =>
   split at h
   ·cases h
   ·next a2 d2 h2 =>
    cases h;have:=zQ8 gd k many a1 d1 h1;have:=zI0 gd ks many a2 d2 h2;rw [cntL];omega
end
def zIQ:Option (Nat × Nat)->Option (Nat × Nat)
 | none=>none
 | some (a,d)=>some (a+1,d+1)
def zNG (a d:Nat):Option (Nat × Nat)->Option (Nat × Nat)
 | none=>none
 | some (a',d')=>some (a+a',max d d')
theorem zQ9 (gd:NT->Bool) (n:NT) (ks:List ET) (many:Bool):zCA gd (.mk n ks) many=if zCP gd (.mk n ks) many then zIQ (zBD gd ks (decide (n.k=11) && decide (1<ks.length))) else none:=by
 rw [zCA]
 split
 ·cases zBD gd ks (decide (n.k=11) && decide (1<ks.length)) with
  | none=>rfl
  | some q=>rfl
 ·rfl
theorem zM4 {gd:NT->Bool} {many:Bool} {es:List ET} {j:Nat} (h:zBD gd (es.take (j+1)) many=none):zBD gd es many=none:=by
 have:=zCH gd many (es.take (j+1)) (es.drop (j+1));rw [List.take_append_drop,h] at this;exact this
theorem zM3 {gd:NT->Bool} {many:Bool} {es:List ET} {j:Nat} {e:ET} (he:es[j]?=some e) {a d:Nat} (h:zBD gd (es.take j) many=some (a,d)) :
  zBD gd (es.take (j+1)) many=zNG a d (zCA gd e many):=by
 have:es.take (j+1)=es.take j++[e]:=by rw [List.take_add_one,he];rfl
 rw [this,zCH,h,zBD];cases zCA gd e many with
 | none=>rfl
 | some q=>obtain ⟨a',d'⟩:=q;rw [zBD];simp [zNG]
def zHC:Option (Nat × Nat)->Value
 | none=>.tuple #[iQ 0,iQ 0,.bool false]
 | some (a,d)=>.tuple #[iQ (a:Int),iQ (d:Int),.bool true]
theorem maxS4 (a b:Nat) (w:World):Calls Tryz.prog 65 #[iQ (a:Int),iQ (b:Int)] w fun e w'=>e=.returned (iQ ((max a b:Nat):Int))/\w'=w:=by
 by_cases h:(a:Int)<(b:Int)
 ·rw [Nat.max_eq_right (by omega)];have h':(b:Int) > (a:Int):=h;have h2:¬ (a:Int) > (b:Int):=by omega
  go_enter Tryz.func65,Tryz.ntmps65;go_wp2_with fail;go_ret;exact ⟨rfl,rfl⟩
 ·by_cases h2:(b:Int)<(a:Int)
  ·rw [Nat.max_eq_left (by omega)];go_enter Tryz.func65,Tryz.ntmps65;go_wp2_with fail;go_ret;exact ⟨rfl,rfl⟩
  ·obtain rfl:a=b:=by omega
   rw [Nat.max_self];go_enter Tryz.func65,Tryz.ntmps65;go_wp2_with fail;go_ret;exact ⟨rfl,rfl⟩
theorem zV9 {w:World} {U:Nat->Prop} (hU:∀ k,U k->k<w.heap.size) {v:Value} {es:List ET} (h:KidsS w U v es):∀ (x:NT) (many:Bool) (W:World),Ext w W->x.t.length<=1048576->allL (fun n=>n.t.length<=1048576) es->cntL es<=1000000 ->
  Calls Tryz.prog 85 #[x.ex v,.bool many] W fun r w'=>r=.returned (zHC (zCA NT.good (.mk x es) many))/\Ext W w':=by
 induction h with
 | mk p cap es s hc hp hk ih =>
 intro x many W XW hx hall hcnt;obtain ⟨XN0,hXN⟩:∃ q,q=x:=⟨_,rfl⟩;have HR:Hid (∀ W',Ext W W'->Calls Tryz.prog 103 #[x.ex (.slice p es.length cap),.bool many] W' fun e w'=>e=.returned (.bool (zCP NT.good (.mk x es) many))/\Ext W' w'):=fun W' X'=>zNI x p cap es U many W' hx ((KidsS.mk p cap es s hc hp hk).l hU (xt XW X')) (fun k hk'=>Nat.lt_of_lt_of_le (hU k hk') (xt XW X').size);have HIH:Hid (∀ (i:Nat) (e:ET),es[i]?=some e->∀ (many:Bool) (W':World),Ext W W'->Calls Tryz.prog 85 #[e.n.ex (s i),.bool many] W' fun r w'=>r=.returned (zHC (zCA NT.good e many))/\Ext W' w'):=fun i e hi mny W' X'=>by
  have ha:=zLP hall hi;have hc':=zI8 hi;obtain ⟨n,ks⟩:=e;rw [cntE] at hc';exact ih i (.mk n ks) hi n mny W' (xt XW X') ha.1 ha.2 (by show cntL ks<=_;omega)
 have HP:Hid _:=hp;have HSL:Hid (∀ (i:Nat) (e:ET),es[i]?=some e->∃ pk nk ck,s i=.slice pk nk ck):=fun i e hi=>by obtain ⟨q1,q2,q3,_⟩:=(hk i e hi).slice;exact ⟨_,_,_,q3⟩
 have SE:zCA NT.good (.mk x es) many=(if zCP NT.good (.mk x es) many then zIQ (zBD NT.good es (decide (x.k=11) && decide (1<es.length))) else none):=zQ9 _ _ _ _;obtain ⟨rb,hrb⟩:=nm (zCP NT.good (.mk x es) many);rw [hrb] at HR SE;obtain ⟨kk,hkk⟩:=nm (es.length);rw [hkk] at HR SE HP ⊢;have HKK:Hid _:=hkk;have hkb:kk<=1000000:=by have:=zLA es;omega
 obtain ⟨SZ,hSZ⟩:=nm (zCA NT.good (.mk x es) many);have HSE:Hid ((if rb then zIQ (zBD NT.good es (decide (x.k=11) && decide (1<kk))) else none)=SZ):=by show _=_;rw [<- hSZ,SE]
 rw [hSZ];have HCN:Hid _:=hcnt;have HXW:Hid _:=XW;clear SE hSZ hrb hkk hp hk ih hc hall hcnt hx XW XN0 hXN;obtain ⟨xk,xt',xn,xd',xx,xr',xc,xf,xg,xr2,xc2,xf2,xg2,xq⟩:=x;have XB:=x1 W (.cells (NT.exL ⟨xk,xt',xn,xd',xx,xr',xc,xf,xg,xr2,xc2,xf2,xg2,xq⟩ (.slice p kk cap)).toArray 77);have VB:=zA4 W (NT.exL ⟨xk,xt',xn,xd',xx,xr',xc,xf,xg,xr2,xc2,xf2,xg2,xq⟩ (.slice p kk cap)) 77;obtain ⟨wa,ha⟩:=nm (W.alloc (.cells (NT.exL ⟨xk,xt',xn,xd',xx,xr',xc,xf,xg,xr2,xc2,xf2,xg2,xq⟩ (.slice p kk cap)).toArray 77));rw [ha] at XB VB;have VRB:wa.rangeAt W.heap.size 0 (NT.exL ⟨xk,xt',xn,xd',xx,xr',xc,xf,xg,xr2,xc2,xf2,xg2,xq⟩ (.slice p kk cap)):=fun j u hu=>by rw [Nat.zero_add];exact (VB j u hu).1
 go_enter Tryz.func85,Tryz.ntmps85;go_wp2_with (refine wpList_load_mid rfl 77 (.tmp 2) rfl W.heap.size 0 rfl (NT.exL ⟨xk,xt',xn,xd',xx,xr',xc,xf,xg,xr2,xc2,xf2,xg2,xq⟩ (.slice p kk cap)) _ VRB Tryz.underlying77 rfl zDT ?_);refine (HR.out wa XB).mono ?_;rintro e w1 ⟨rfl,e1⟩;have V1:=VB.l e1;have Y1:=xt XB e1;clear HR;cases rb
 ·have HE:Hid (none=SZ):=HSE.out;clear HSE VRB VB;go_wp2_with fail;exact bodyPost_ret (v:=.tuple #[iQ 0,iQ 0,.bool false]) (by simp [results,Tryz.results85,go_sem]) rfl ⟨by rw [<- HE.out];rfl,Y1⟩
 ·have c14:=(V1 14 _ rfl).1;have HL0:Hid (Ext w1 w1/\zBD NT.good (es.take 0) (decide (xk=11) && decide (1<kk))=some (0,0)):=⟨xr _,by rw [List.take_zero,zBD]⟩;clear VRB VB;go_wp2_with fail;clear c14;go_loopw [7,8,21] (fun nv dv i wr=>∃ j a d:Nat,j<=kk/\i=.int .i64 j/\nv=.int .i64 ((a+1:Nat):Int)/\dv=.int .i64 (d:Int)/\a<=1000000/\d<=1000000/\Hid (Ext w1 wr/\zBD NT.good (es.take j) (decide (xk=11) && decide (1<kk))=some (a,d))) (fun _ _ i _=>kk - (intOf i).toNat)
  case atStart=>exact ⟨0,0,0,by omega,rfl,rfl,rfl,by omega,by omega,HL0⟩
  case round =>
   obtain ⟨j,a,d,hj,rfl,rfl,rfl,ha1,hd1,HO⟩:=hrel;by_cases hlt:j<kk
   ·have i2:(j:Int)<(kk:Int):=(by omega);obtain ⟨e,he⟩:∃ e,es[j]?=some e:=⟨_,List.getElem?_eq_getElem (by rw [HKK.out];exact hlt)⟩;obtain ⟨g,rfl,_,hcell⟩:=HP.out (by omega);obtain ⟨pk,nk,ck,hsk⟩:=HSL.out j e he;have HEL:Hid _:=he;obtain ⟨⟨ek,et,en,ed,ex,er,ec,ef,eg,er2,ec2,ef2,eg2,eq⟩,ekids⟩:=e;have CI:=HIH.out j _ he;rw [hsk] at CI;have HRA:wr.rangeAt g (j * 15) (NT.exL ⟨ek,et,en,ed,ex,er,ec,ef,eg,er2,ec2,ef2,eg2,eq⟩ (.slice pk nk ck)):=fun c u hu=>by
     have:=hcell j _ he c u (by rw [hsk];exact hu);exact cell_later (xt (xt HXW.out Y1) HO.out.1) this
    have VX:=V1.l HO.out.1;obtain ⟨wz,hz9,XZ,VZ,-⟩:=zAC wr [iQ 0,.string ⟨#[]⟩,.bool false,iQ 0,iQ 0,iQ 0,iQ 0,.bool false,.bool false,iQ 0,iQ 0,.bool false,.bool false,iQ 0,.slice none 0 0] 77;have VT:=VZ.there;have VR:=World.rangeAt_setCells_same wz wr.heap.size 0 (NT.exL ⟨ek,et,en,ed,ex,er,ec,ef,eg,er2,ec2,ef2,eg2,eq⟩ (.slice pk nk ck)) VT;have XR:=Ext.setCells (b:=wr.heap.size) (Nat.le_refl _) (NT.exL ⟨ek,et,en,ed,ex,er,ec,ef,eg,er2,ec2,ef2,eg2,eq⟩ (.slice pk nk ck)) 0 wz XZ;obtain ⟨w5,h5⟩:=nm (wz.setCells wr.heap.size 0 (NT.exL ⟨ek,et,en,ed,ex,er,ec,ef,eg,er2,ec2,ef2,eg2,eq⟩ (.slice pk nk ck)));rw [h5] at VR XR;have VX5:=VX.l XR;have n0:=(VX5 0 _ rfl).1;have n14:=(VX5 14 _ rfl).1;have one:((NT.exL ⟨ek,et,en,ed,ex,er,ec,ef,eg,er2,ec2,ef2,eg2,eq⟩ (.slice pk nk ck)).toArray).all (·.oneCell')=true:=(by simp [Value.oneCell']);have CE:=zI8 he;obtain ⟨mb,hmb⟩:=nm ((decide (xk=11) && decide (1<kk)));have HMB:Hid _:=hmb;have CC:Calls Tryz.prog 85 #[NT.ex ⟨ek,et,en,ed,ex,er,ec,ef,eg,er2,ec2,ef2,eg2,eq⟩ (.slice pk nk ck),.bool mb] w5 fun r w'=>r=.returned (zHC (zCA NT.good (.mk ⟨ek,et,en,ed,ex,er,ec,ef,eg,er2,ec2,ef2,eg2,eq⟩ ekids) mb))/\Ext w5 w':=CI mb w5 (xt (xt Y1 HO.out.1) XR);have HST:=zM3 (gd:=NT.good) (many:=mb) HEL.out (by rw [<- hmb];exact HO.out.2);obtain ⟨sz,hsz⟩:=nm (zCA NT.good (.mk ⟨ek,et,en,ed,ex,er,ec,ef,eg,er2,ec2,ef2,eg2,eq⟩ ekids) mb);rw [hsz] at CC HST;have HSB:Hid (∀ a' d',sz=some (a',d')->a+a'<=1000000/\max d d'<=1000000):=fun a' d' hq=>by
     rw [hq] at HST;have:=zI0 NT.good _ _ _ _ HST;have:=zJO es (j+1);have:=HCN.out;omega
    have HST:Hid _:=HST;clear he hsk CI hcell VX VZ XZ hsz CE HEL hmb;by_cases k11:xk=11
    all_goals
     by_cases kk1:1<kk
    all_goals
     have hq1:mb=(decide (xk=11) && decide (1<kk)):=HMB.out.symm
     first | rw [decide_eq_true k11] at hq1 | rw [decide_eq_false k11] at hq1
     first | rw [decide_eq_true kk1] at hq1 | rw [decide_eq_false kk1] at hq1
     have hk1:((xk:Int) == 11)=decide (xk=11):=by by_cases h:xk=11 <;> simp [h]
     first | rw [decide_eq_true k11] at hk1 | rw [decide_eq_false k11] at hk1
     have hk2:decide (1<(kk:Int))=decide (1<kk):=by by_cases h:1<kk <;> simp [h] <;> omega
     first | rw [decide_eq_true kk1] at hk2 | rw [decide_eq_false kk1] at hk2
     have CC2:=CC;rw [hq1] at CC2;clear CC k11;go_wp2_with (first | (refine wpList_load_mid rfl 77 (.tmp 23) rfl g (j * 15) rfl (NT.exL ⟨ek,et,en,ed,ex,er,ec,ef,eg,er2,ec2,ef2,eg2,eq⟩ (.slice pk nk ck)) _ HRA Tryz.underlying77 rfl zDT ?_) | (refine wpList_store_mid rfl _ _ _ rfl wr.heap.size 0 (NT.exL ⟨ek,et,en,ed,ex,er,ec,ef,eg,er2,ec2,ef2,eg2,eq⟩ (.slice pk nk ck)).toArray rfl rfl VT zDT one ?_;show wpList _ _ _ _ _ (wz.setCells wr.heap.size 0 (NT.exL ⟨ek,et,en,ed,ex,er,ec,ef,eg,er2,ec2,ef2,eg2,eq⟩ (.slice pk nk ck)));rw [h5];go_frame) | (refine wpList_load_mid rfl 77 (.tmp 10) rfl wr.heap.size 0 rfl (NT.exL ⟨ek,et,en,ed,ex,er,ec,ef,eg,er2,ec2,ef2,eg2,eq⟩ (.slice pk nk ck)) _ VR Tryz.underlying77 rfl zDT ?_));refine CC2.mono ?_;rintro e w6 ⟨rfl,e6⟩;have Y6:=xt (xt HO.out.1 XR) e6;cases sz with
     | none =>
      have HE:Hid (none=SZ):=by
       show _=_;have hf:zBD NT.good es (decide (xk=11) && decide (1<kk))=none:=(by rw [HMB.out];exact zM4 (j:=j) HST.out);rw [<- HSE.out];simp [hf,zIQ]
      clear HO HRA VR VT XR CC2 VX5 n0 n14 HST HSB;simp only [zHC];go_wp2_with fail;exact bodyPost_ret (v:=.tuple #[iQ 0,iQ 0,.bool false]) (by simp [results,Tryz.results85,go_sem]) rfl ⟨by rw [<- HE.out];rfl,xt Y1 Y6⟩
     | some ad =>
      obtain ⟨a',d'⟩:=ad;have HB2:=HSB.out a' d' rfl;have HM:Hid (Ext w1 w6/\zBD NT.good (es.take (j+1)) (decide (xk=11) && decide (1<kk))=some (a+a',max d d')):=⟨Y6,by rw [HMB.out];exact HST.out⟩;obtain ⟨dm,hdm⟩:=nm (max d d');have MX:∀ W',Calls Tryz.prog 65 #[iQ (d:Int),iQ (d':Int)] W' fun e w'=>e=.returned (iQ (dm:Int))/\w'=W':=fun W'=>(by rw [<- hdm];exact maxS4 d d' W');rw [hdm] at HM HB2;clear HO HRA VR VT XR CC2 VX5 n0 n14 HST HSB hdm;simp only [zHC];have hs1:IntKind.i64.wrap (((a+1:Nat):Int)+(a':Int))=((a+a'+1:Nat):Int):=(by rw [IntKind.wrap_i64] <;> omega);go_wp2_with (go_at_call 65;refine (MX _).mono ?_;rintro e w7 ⟨rfl,rfl⟩);go_roundw
      case rel=>exact ⟨j+1,a+a',dm,by omega,by go_num,by go_num,rfl,by omega,by omega,HM⟩
      case measure=>simp [intOf];omega
   ·obtain rfl:j=kk:=(by omega);have i2:¬ (j:Int)<(j:Int):=(by omega);have HE:Hid (some (a+1,d+1)=SZ):=by
     show _=_;have hf:=HO.out.2;rw [<- HKK.out,List.take_length,HKK.out] at hf;rw [<- HSE.out];simp [hf,zIQ]
    have Y3:=HO.out.1;clear HO;go_wp2_with fail;exact bodyPost_ret (v:=zHC (some (a+1,d+1))) (by simp [results,Tryz.results85,go_sem,zHC]) rfl ⟨by rw [<- HE.out],xt Y1 Y3⟩
end Go.Proofs.YteliaeejooekbaaGreatDoor
