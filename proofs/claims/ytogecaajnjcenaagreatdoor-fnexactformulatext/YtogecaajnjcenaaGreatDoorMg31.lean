/-
  Several texts in one: Gs2, Gs3, Cn4.
-/
import Derived.Test.YtogecaajnjcenaaGreatDoorMg16
import Derived.Test.YtogecaajnjcenaaGreatDoorMg21
import Derived.Test.YtogecaajnjcenaaGreatDoorMg5
import Derived.Test.YtogecaajnjcenaaGreatDoorMg9
import Derived.Test.YtogecaajnjcenaaGreatDoorMg27
import Derived.Test.YtogecaajnjcenaaGreatDoorMg28
import Derived.Test.YtogecaajnjcenaaGreatDoorFt7
import Derived.Test.YtogecaajnjcenaaGreatDoorFt8
import Derived.Test.YtogecaajnjcenaaGreatDoorMg25
import Derived.Test.YtogecaajnjcenaaGreatDoorMg12
namespace Go.Proofs.YtogecaajnjcenaaGreatDoor
open Go.RowKit
def side12 (t:List UInt8) (kk:Nat):Bool:=!(decide (numL t<1) || decide (20<numL t) || !(Lib.decDigits (numL t).toNat == t) || decide (kk<1) || decide (100<kk) || !((kk:Int).tmod (numL t) == 0))
theorem l1NumS (i:Nat) (hi:i≤20) (w:World):Calls Tryz.prog 51 #[.int .i64 (i:Int)] w fun e w'=>e=.returned (sV (Lib.decDigits i))∧Ext w w':=by
 refine (num_any (i:Int) w (by omega) (by omega)).mono ?_;rintro e w' ⟨l,rfl,ht,ex⟩;have:=ht.dec (by omega);rw [Int.toNat_natCast] at this;exact ⟨by rw [this],ex⟩
set_option maxRecDepth 8000 in
set_option maxHeartbeats 4000000 in
theorem rightS12 (t:List UInt8) (neg:Bool) (d:Int) (x:Int) (r:Int) (c:Int) (rf:Bool) (cf:Bool) (r2:Int) (c2:Int) (rf2:Bool) (cf2:Bool) (m:Int) (p:Option Addr) (kk cap:Nat) (ks:List ET) (U:Nat→Prop) (many:Bool) (w:World) (hK:KidsS w U (.slice p kk cap) ks) (hU:∀ k,U k→k<w.heap.size) (hkl:ks.length=kk) :
  Calls Tryz.prog 63 #[exV 12 t neg d x r c rf cf r2 c2 rf2 cf2 m (.slice p kk cap),.bool many] w fun e w'=>e=.returned (.bool (decide (m=(kk:Int)) && (zeroDN neg d x && zeroRN r c rf cf && zeroRN r2 c2 rf2 cf2) && (side12 t kk && ks.all constE)))∧Ext w w':=by
 obtain ⟨Q,hQ⟩:∃ Q,(decide (m=(kk:Int)) && (zeroDN neg d x && zeroRN r c rf cf && zeroRN r2 c2 rf2 cf2) && (side12 t kk && ks.all constE))=Q:=⟨_,rfl⟩;have HQ:Hid _:=hQ;rw [hQ];clear hQ;have HKL:Hid _:=hkl;have HKI:Hid (∀ W,Ext w W→KidsS W U (.slice p kk cap) ks):=fun W XW=>hK.later hU XW;have HUL:Hid _:=hU;clear hK hU hkl;obtain ⟨wa,ha,X1,VE,-⟩:=boxed w [.int .i64 12,sV t,.bool neg,.int .i64 d,.int .i64 x,.int .i64 r,.int .i64 c,.bool rf,.bool cf,.int .i64 r2,.int .i64 c2,.bool rf2,.bool cf2,.int .i64 m,.slice p kk cap] 55;obtain ⟨wb,hb,X2,VN,-⟩:=boxed wa [.int .i64 12,sV t,.bool neg,.int .i64 d,.int .i64 x,.int .i64 r,.int .i64 c,.bool rf,.bool cf,.int .i64 r2,.int .i64 c2,.bool rf2,.bool cf2,.int .i64 m] 43;have sa:wa.heap.size=w.heap.size+1:=by rw [← ha,World.size_alloc]
 rw [sa] at VN;have VE2:=VE.later X2;have X:=xt X1 X2;clear X1 X2;by_cases q:m=(kk:Int)
 ·have HMK:Hid (decide (m=(kk:Int))=true):=decide_eq_true q;have gMK:(m != (kk:Int))=false:=by simp [q]
  clear q;cases hBA:(zeroDN neg d x && zeroRN r c rf cf && zeroRN r2 c2 rf2 cf2)
  ·have HB:Hid (false=Q):=by show _=_;rw [← HQ.out,HMK.out,hBA];simp
   obtain ⟨a0,a1,a2,a3,a4,a5,a6,a7,a8,a9,a10,a11,a12,a13,a14⟩:=vC15 VE;have d14:=(VE2 14 _ rfl).1;have n0:=vC14 VN;go_enter Tryz.func63,Tryz.ntmps63;go_wp2_with fail;clear a0 a1 a2 a3 a4 a5 a6 a7 a8 a9 a10 a11 a12 a13 a14 d14;refine (bareS _ _ _ _ _ _ _ _ _ _ _ _ _ _ _).mono ?_;rintro e w1 ⟨rfl,e1⟩;have V1:=VN.later e1;have Y1:=xt X e1;clear n0;rw [hBA];have b0:=vC14 V1;go_wp2_with fail;go_ret;exact ⟨ret_bool HB.out,Y1⟩
  ·obtain ⟨R,hRN⟩:∃ R,numL t=R:=⟨_,rfl⟩;have HRN:Hid _:=hRN;by_cases t1:R<1
   ·have HB:Hid (false=Q):=(by show _=_;rw [← HQ.out,HMK.out,hBA];simp [side12,hRN,t1]);have g1:decide (R<1)=true:=decide_eq_true t1;clear hRN;obtain ⟨a0,a1,a2,a3,a4,a5,a6,a7,a8,a9,a10,a11,a12,a13,a14⟩:=vC15 VE;have d14:=(VE2 14 _ rfl).1;have n0:=vC14 VN;go_enter Tryz.func63,Tryz.ntmps63;go_wp2_with fail;clear a0 a1 a2 a3 a4 a5 a6 a7 a8 a9 a10 a11 a12 a13 a14 d14;refine (bareS _ _ _ _ _ _ _ _ _ _ _ _ _ _ _).mono ?_;rintro e w1 ⟨rfl,e1⟩;have V1:=VN.later e1;have Y1:=xt X e1;clear n0;rw [hBA];have b0:=vC14 V1;go_wp2_with fail;refine (numS _ t _ rfl).mono ?_;rintro e w2 ⟨rfl,rfl⟩;rw [HRN.out];go_wp2_with fail;clear b0;have c1:=fun p:ExtW w2=>((V1.later p.ext) 1 _ rfl).1;refine wp_region_quiet_ext rfl (by kernel_rfl) ?_
    repeat (go_big_quiet_step (first | (go_at_call 51;exact quiet_ext (LN.out _))))
    refine quiet_end fun w9 E=>?_;clear c1;go_wp2_with fail;go_ret;exact ⟨ret_bool HB.out,xt Y1 E⟩
   have g1:decide (R<1)=false:=decide_eq_false t1;by_cases t2:20<R
   ·have HB:Hid (false=Q):=(by show _=_;rw [← HQ.out,HMK.out,hBA];simp [side12,hRN,t2]);have g2:decide (20<R)=true:=decide_eq_true t2;clear hRN;obtain ⟨a0,a1,a2,a3,a4,a5,a6,a7,a8,a9,a10,a11,a12,a13,a14⟩:=vC15 VE;have d14:=(VE2 14 _ rfl).1;have n0:=vC14 VN;go_enter Tryz.func63,Tryz.ntmps63;go_wp2_with fail;clear a0 a1 a2 a3 a4 a5 a6 a7 a8 a9 a10 a11 a12 a13 a14 d14;refine (bareS _ _ _ _ _ _ _ _ _ _ _ _ _ _ _).mono ?_;rintro e w1 ⟨rfl,e1⟩;have V1:=VN.later e1;have Y1:=xt X e1;clear n0;rw [hBA];have b0:=vC14 V1;go_wp2_with fail;refine (numS _ t _ rfl).mono ?_;rintro e w2 ⟨rfl,rfl⟩;rw [HRN.out];go_wp2_with fail;clear b0;have c1:=fun p:ExtW w2=>((V1.later p.ext) 1 _ rfl).1;refine wp_region_quiet_ext rfl (by kernel_rfl) ?_
    repeat (go_big_quiet_step (first | (go_at_call 51;exact quiet_ext (LN.out _))))
    refine quiet_end fun w9 E=>?_;clear c1;go_wp2_with fail;go_ret;exact ⟨ret_bool HB.out,xt Y1 E⟩
   have g2:decide (20<R)=false:=decide_eq_false t2;obtain ⟨ri,rfl⟩:∃ ri:Nat,R=(ri:Int):=⟨R.toNat,by omega⟩;obtain ⟨D,hD⟩:∃ D,Lib.decDigits ri=D:=⟨_,rfl⟩;have LN:Hid (∀ W,Calls Tryz.prog 51 #[.int .i64 (ri:Int)] W fun e w'=>e=.returned (sV D)∧Ext W w'):=fun W=>by rw [← hD];exact l1NumS ri (by omega) W
   have hS0:side12 t kk=!(!(D == t) || decide (kk<1) || decide (100<kk) || !((kk:Int).tmod (ri:Int) == 0)):=by
    have q1:¬ (ri:Int)<1:=t1;have q2:¬ 20<(ri:Int):=t2;unfold side12;rw [hRN,decide_eq_false q1,decide_eq_false q2,Int.toNat_natCast,hD];rfl
   clear hRN hD;cases t3:(D == t)
   ·have HB:Hid (false=Q):=(by show _=_;rw [← HQ.out,HMK.out,hBA,hS0,t3];simp);have g3:(D != t)=true:=(by simp [bne,t3]);clear hS0;obtain ⟨a0,a1,a2,a3,a4,a5,a6,a7,a8,a9,a10,a11,a12,a13,a14⟩:=vC15 VE;have d14:=(VE2 14 _ rfl).1;have n0:=vC14 VN;go_enter Tryz.func63,Tryz.ntmps63;go_wp2_with fail;clear a0 a1 a2 a3 a4 a5 a6 a7 a8 a9 a10 a11 a12 a13 a14 d14;refine (bareS _ _ _ _ _ _ _ _ _ _ _ _ _ _ _).mono ?_;rintro e w1 ⟨rfl,e1⟩;have V1:=VN.later e1;have Y1:=xt X e1;clear n0;rw [hBA];have b0:=vC14 V1;go_wp2_with fail;refine (numS _ t _ rfl).mono ?_;rintro e w2 ⟨rfl,rfl⟩;rw [HRN.out];go_wp2_with fail;clear b0;have c1:=fun p:ExtW w2=>((V1.later p.ext) 1 _ rfl).1;refine wp_region_quiet_ext rfl (by kernel_rfl) ?_
    repeat (go_big_quiet_step (first | (go_at_call 51;exact quiet_ext (LN.out _))))
    refine quiet_end fun w9 E=>?_;clear c1;go_wp2_with fail;go_ret;exact ⟨ret_bool HB.out,xt Y1 E⟩
   have g3:(D != t)=false:=by simp [bne,t3]
   by_cases t4:kk<1
   ·have HB:Hid (false=Q):=(by show _=_;rw [← HQ.out,HMK.out,hBA,hS0,t3,decide_eq_true t4];simp);have g4:decide ((kk:Int)<1)=true:=decide_eq_true (by omega);have g4':(kk:Int)<1:=(by omega);clear hS0 t4;obtain ⟨a0,a1,a2,a3,a4,a5,a6,a7,a8,a9,a10,a11,a12,a13,a14⟩:=vC15 VE;have d14:=(VE2 14 _ rfl).1;have n0:=vC14 VN;go_enter Tryz.func63,Tryz.ntmps63;go_wp2_with fail;clear a0 a1 a2 a3 a4 a5 a6 a7 a8 a9 a10 a11 a12 a13 a14 d14;refine (bareS _ _ _ _ _ _ _ _ _ _ _ _ _ _ _).mono ?_;rintro e w1 ⟨rfl,e1⟩;have V1:=VN.later e1;have Y1:=xt X e1;clear n0;rw [hBA];have b0:=vC14 V1;go_wp2_with fail;refine (numS _ t _ rfl).mono ?_;rintro e w2 ⟨rfl,rfl⟩;rw [HRN.out];go_wp2_with fail;clear b0;have c1:=fun p:ExtW w2=>((V1.later p.ext) 1 _ rfl).1;refine wp_region_quiet_ext rfl (by kernel_rfl) ?_
    repeat (go_big_quiet_step (first | (go_at_call 51;exact quiet_ext (LN.out _))))
    refine quiet_end fun w9 E=>?_;clear c1;go_wp2_with fail;go_ret;exact ⟨ret_bool HB.out,xt Y1 E⟩
   have g4:decide ((kk:Int)<1)=false:=decide_eq_false (by omega);have g4':¬ (kk:Int)<1:=by omega
   by_cases t5:100<kk
   ·have HB:Hid (false=Q):=(by show _=_;rw [← HQ.out,HMK.out,hBA,hS0,t3,decide_eq_false t4,decide_eq_true t5];simp);have g5:decide (100<(kk:Int))=true:=decide_eq_true (by omega);have g5':100<(kk:Int):=(by omega);clear hS0 t4 t5;obtain ⟨a0,a1,a2,a3,a4,a5,a6,a7,a8,a9,a10,a11,a12,a13,a14⟩:=vC15 VE;have d14:=(VE2 14 _ rfl).1;have n0:=vC14 VN;go_enter Tryz.func63,Tryz.ntmps63;go_wp2_with fail;clear a0 a1 a2 a3 a4 a5 a6 a7 a8 a9 a10 a11 a12 a13 a14 d14;refine (bareS _ _ _ _ _ _ _ _ _ _ _ _ _ _ _).mono ?_;rintro e w1 ⟨rfl,e1⟩;have V1:=VN.later e1;have Y1:=xt X e1;clear n0;rw [hBA];have b0:=vC14 V1;go_wp2_with fail;refine (numS _ t _ rfl).mono ?_;rintro e w2 ⟨rfl,rfl⟩;rw [HRN.out];go_wp2_with fail;clear b0;have c1:=fun p:ExtW w2=>((V1.later p.ext) 1 _ rfl).1;refine wp_region_quiet_ext rfl (by kernel_rfl) ?_
    repeat (go_big_quiet_step (first | (go_at_call 51;exact quiet_ext (LN.out _))))
    refine quiet_end fun w9 E=>?_;clear c1;go_wp2_with fail;go_ret;exact ⟨ret_bool HB.out,xt Y1 E⟩
   have g5:decide (100<(kk:Int))=false:=decide_eq_false (by omega);have g5':¬ 100<(kk:Int):=by omega
   obtain ⟨z,hz⟩:∃ z,(kk:Int).tmod (ri:Int)=z:=⟨_,rfl⟩;have hri:¬ (ri:Int)=0:=by omega
   have hri2:((ri:Int) == 0)=false:=by simp;omega
   rw [hz] at hS0;cases t6:(z == 0)
   ·have HB:Hid (false=Q):=(by show _=_;rw [← HQ.out,HMK.out,hBA,hS0,t3,decide_eq_false t4,decide_eq_false t5,t6];simp);have g6:(z != 0)=true:=(by simp [bne,t6]);have g6':¬ z=0:=(by intro q;rw [q] at t6;cases t6);clear hS0 t4 t5;obtain ⟨a0,a1,a2,a3,a4,a5,a6,a7,a8,a9,a10,a11,a12,a13,a14⟩:=vC15 VE;have d14:=(VE2 14 _ rfl).1;have n0:=vC14 VN;go_enter Tryz.func63,Tryz.ntmps63;go_wp2_with fail;clear a0 a1 a2 a3 a4 a5 a6 a7 a8 a9 a10 a11 a12 a13 a14 d14;refine (bareS _ _ _ _ _ _ _ _ _ _ _ _ _ _ _).mono ?_;rintro e w1 ⟨rfl,e1⟩;have V1:=VN.later e1;have Y1:=xt X e1;clear n0;rw [hBA];have b0:=vC14 V1;go_wp2_with fail;refine (numS _ t _ rfl).mono ?_;rintro e w2 ⟨rfl,rfl⟩;rw [HRN.out];go_wp2_with fail;clear b0;have c1:=fun p:ExtW w2=>((V1.later p.ext) 1 _ rfl).1;refine wp_region_quiet_ext rfl (by kernel_rfl) ?_
    repeat (go_big_quiet_step (first | (go_at_call 51;exact quiet_ext (LN.out _))))
    refine quiet_end fun w9 E=>?_;clear c1;go_wp2_with fail;go_ret;exact ⟨ret_bool HB.out,xt Y1 E⟩
   have g6:(z != 0)=false:=by simp [bne,t6]
   have g6':z=0:=by simpa using t6
   have HS:Hid (side12 t kk=true):=by show _=_;rw [hS0,t3,decide_eq_false t4,decide_eq_false t5,t6];rfl
   clear hS0 t4 t5 t6 g6';obtain ⟨a0,a1,a2,a3,a4,a5,a6,a7,a8,a9,a10,a11,a12,a13,a14⟩:=vC15 VE;have d14:=(VE2 14 _ rfl).1;have n0:=vC14 VN;go_enter Tryz.func63,Tryz.ntmps63;go_wp2_with fail;clear a0 a1 a2 a3 a4 a5 a6 a7 a8 a9 a10 a11 a12 a13 a14 d14;refine (bareS _ _ _ _ _ _ _ _ _ _ _ _ _ _ _).mono ?_;rintro e w1 ⟨rfl,e1⟩;have V1:=VN.later e1;have Y1:=xt X e1;clear n0;rw [hBA];have b0:=vC14 V1;go_wp2_with fail;refine (numS _ t _ rfl).mono ?_;rintro e w2 ⟨rfl,rfl⟩;rw [HRN.out];go_wp2_with fail;clear b0;have c1:=fun p:ExtW w2=>((V1.later p.ext) 1 _ rfl).1;refine wp_region_quiet_ext rfl (by kernel_rfl) ?_
   repeat (go_big_quiet_step (first | (go_at_call 51;exact quiet_ext (LN.out _))))
   refine quiet_end fun w9 E=>?_;clear c1;have a14:=((VE2.later (xt e1 E)) 14 _ rfl).1;have Y2:=xt Y1 E;have HV5:Hid _:=Y2;go_wp2_with fail;go_loopw [235] (fun i wr=>∃ j:Nat,j≤kk∧i=.int .i64 j∧Hid (Ext w wr∧∀ (q:Nat) e,q<j→ks[q]?=some e→constE e=true)) (fun i _=>kk - (intOf i).toNat)
   case atStart=>exact ⟨0,by omega,rfl,HV5.out,fun q e hq=>absurd hq (by omega)⟩
   case round =>
    obtain ⟨j,hj,rfl,HO⟩:=hrel;by_cases hlt:j<kk
    ·have i2:(j:Int)<(kk:Int):=(by omega);obtain ⟨e,he⟩:∃ e,ks[j]?=some e:=⟨_,List.getElem?_eq_getElem (by rw [HKL.out];exact hlt)⟩;obtain ⟨cap',g,sk,ev,HRA,hks⟩:=(HKI.out wr HO.out.1).row he;obtain rfl:p=some ⟨g,0,none⟩:=(Value.slice.inj ev).1;have HEL:Hid _:=he;obtain ⟨⟨ek,et,en,ed,ex,er,ec,ef,eg,er2,ec2,ef2,eg2,eq⟩,ekids⟩:=e;have HRA:wr.rangeAt g (j * 15) (NT.exL ⟨ek,et,en,ed,ex,er,ec,ef,eg,er2,ec2,ef2,eg2,eq⟩ sk):=HRA;obtain ⟨wz,hz9,XZ,VZ,-⟩:=boxed wr [.int .i64 0,.string ⟨#[]⟩,.bool false,.int .i64 0,.int .i64 0,.int .i64 0,.int .i64 0,.bool false,.bool false,.int .i64 0,.int .i64 0,.bool false,.bool false,.int .i64 0,.slice none 0 0] 55;have VT:=VZ.there;have VR:=World.rangeAt_setCells_same wz wr.heap.size 0 (NT.exL ⟨ek,et,en,ed,ex,er,ec,ef,eg,er2,ec2,ef2,eg2,eq⟩ sk) VT;have XR:=Ext.setCells (b:=wr.heap.size) (Nat.le_refl _) (NT.exL ⟨ek,et,en,ed,ex,er,ec,ef,eg,er2,ec2,ef2,eg2,eq⟩ sk) 0 wz XZ;obtain ⟨w5,h5⟩:∃ q,wz.setCells wr.heap.size 0 (NT.exL ⟨ek,et,en,ed,ex,er,ec,ef,eg,er2,ec2,ef2,eg2,eq⟩ sk)=q:=⟨_,rfl⟩;rw [h5] at VR XR;obtain ⟨pk,nk,ck,rfl⟩:∃ pk nk ck,sk=.slice pk nk ck:=(by obtain ⟨q1,q2,q3,_⟩:=hks.slice;exact ⟨_,_,_,q3⟩);have one:((NT.exL ⟨ek,et,en,ed,ex,er,ec,ef,eg,er2,ec2,ef2,eg2,eq⟩ (.slice pk nk ck)).toArray).all (·.oneCell')=true:=(by simp [Value.oneCell']);have CC:=constS ⟨ek,et,en,ed,ex,er,ec,ef,eg,er2,ec2,ef2,eg2,eq⟩ (.slice pk nk ck) ekids U w5 (hks.keep (fun k hk=>XR.block k (Nat.lt_of_lt_of_le (HUL.out k hk) HO.out.1.size)) (fun _ h=>h));obtain ⟨z9,hz10⟩:∃ z,constE (.mk ⟨ek,et,en,ed,ex,er,ec,ef,eg,er2,ec2,ef2,eg2,eq⟩ ekids)=z:=⟨_,rfl⟩;have HZ9:Hid _:=hz10;rw [hz10] at CC;have ghi:(g,j * 15)=(g,j * 15):=rfl;clear hz10 hks he ev VZ XZ ghi;go_wp2_with (first | (refine wpList_load_mid rfl 55 (.tmp 237) rfl g (j * 15) rfl (NT.exL ⟨ek,et,en,ed,ex,er,ec,ef,eg,er2,ec2,ef2,eg2,eq⟩ (.slice pk nk ck)) _ HRA Tryz.underlying55 rfl hi15E ?_) | (refine wpList_store_mid rfl _ _ _ rfl wr.heap.size 0 (NT.exL ⟨ek,et,en,ed,ex,er,ec,ef,eg,er2,ec2,ef2,eg2,eq⟩ (.slice pk nk ck)).toArray rfl rfl VT hi15E one ?_;show wpList _ _ _ _ _ (wz.setCells wr.heap.size 0 (NT.exL ⟨ek,et,en,ed,ex,er,ec,ef,eg,er2,ec2,ef2,eg2,eq⟩ (.slice pk nk ck)));rw [h5];go_frame) | (refine wpList_load_mid rfl 55 (.tmp 9) rfl wr.heap.size 0 rfl (NT.exL ⟨ek,et,en,ed,ex,er,ec,ef,eg,er2,ec2,ef2,eg2,eq⟩ (.slice pk nk ck)) _ VR Tryz.underlying55 rfl hi15E ?_));refine CC.mono ?_;rintro e w6 ⟨rfl,e6⟩;have Y6:=xt (xt HO.out.1 XR) e6;cases z9
     ·have HB:Hid (false=Q):=by
       show _=_;have hall:ks.all constE=false:=by
        cases hq:ks.all constE with
        | false=>rfl
        | true =>
         have:=(List.all_eq_true.1 hq) _ (List.mem_of_getElem? HEL.out);rw [HZ9.out] at this;cases this
       rw [← HQ.out,hall];simp
      clear HO HRA VR VT XR CC;go_wp2_with fail;go_ret;exact ⟨ret_bool HB.out,Y6⟩
     ·have HM:Hid (Ext w w6∧∀ (q:Nat) e,q<j+1→ks[q]?=some e→constE e=true):=⟨Y6,fun q e hq hqe=>by
       by_cases q1:q=j
       ·subst q1;rw [HEL.out] at hqe;cases hqe;exact HZ9.out
       ·exact HO.out.2 q e (by omega) hqe⟩
      clear HO HRA VR VT XR CC;go_wp2_with fail;go_roundw
      case rel=>exact ⟨j+1,by omega,by go_num,HM⟩
      case measure=>simp [intOf];omega
    ·obtain rfl:j=kk:=(by omega);have i2:¬ (j:Int)<(j:Int):=(by omega);have HB:Hid (true=Q):=by
      show _=_;have hall:ks.all constE=true:=by
       rw [List.all_eq_true];intro e he;obtain ⟨q,hq,rfl⟩:=List.getElem_of_mem he;exact HO.out.2 q _ (by rw [← HKL.out];exact hq) (List.getElem?_eq_getElem hq)
      rw [← HQ.out,HMK.out,hBA,HS.out,hall];rfl
     have Y3:=HO.out.1;clear HO;go_wp2_with fail;go_ret;exact ⟨ret_bool HB.out,Y3⟩
 ·have HMK:Hid (decide (m=(kk:Int))=false):=decide_eq_false q;have gMK:(m != (kk:Int))=true:=by simp [q]
  clear q;have HB:Hid (false=Q):=by show _=_;rw [← HQ.out,HMK.out];simp
  obtain ⟨a0,a1,a2,a3,a4,a5,a6,a7,a8,a9,a10,a11,a12,a13,a14⟩:=vC15 VE;have d14:=(VE2 14 _ rfl).1;have n0:=vC14 VN;go_enter Tryz.func63,Tryz.ntmps63;go_wp2_with fail;clear a0 a1 a2 a3 a4 a5 a6 a7 a8 a9 a10 a11 a12 a13 a14 d14;go_ret;exact ⟨ret_bool HB.out,X⟩
set_option maxRecDepth 8000 in
set_option maxHeartbeats 2000000 in
theorem rightSx (k:Int) (t:List UInt8) (neg:Bool) (d:Int) (x:Int) (r:Int) (c:Int) (rf:Bool) (cf:Bool) (r2:Int) (c2:Int) (rf2:Bool) (cf2:Bool) (m:Int) (p:Option Addr) (kk cap:Nat) (many:Bool) (w:World) (h1:k ≠ 1) (h2:k ≠ 2) (h3:k ≠ 3) (h4:k ≠ 4) (h5:k ≠ 5) (h6:k ≠ 6) (h7:k ≠ 7) (h8:k ≠ 8) (h9:k ≠ 9) (h10:k ≠ 10) (h11:k ≠ 11) (h12:k ≠ 12) (h13:k ≠ 13) :
  Calls Tryz.prog 63 #[exV k t neg d x r c rf cf r2 c2 rf2 cf2 m (.slice p kk cap),.bool many] w fun e w'=>e=.returned (.bool false)∧Ext w w':=by
 obtain ⟨wa,ha,X1,VE,-⟩:=boxed w [.int .i64 k,sV t,.bool neg,.int .i64 d,.int .i64 x,.int .i64 r,.int .i64 c,.bool rf,.bool cf,.int .i64 r2,.int .i64 c2,.bool rf2,.bool cf2,.int .i64 m,.slice p kk cap] 55;obtain ⟨wb,hb,X2,VN,-⟩:=boxed wa [.int .i64 k,sV t,.bool neg,.int .i64 d,.int .i64 x,.int .i64 r,.int .i64 c,.bool rf,.bool cf,.int .i64 r2,.int .i64 c2,.bool rf2,.bool cf2,.int .i64 m] 43;have sa:wa.heap.size=w.heap.size+1:=by rw [← ha,World.size_alloc]
 rw [sa] at VN;have VE2:=VE.later X2;have X:=xt X1 X2;clear X1 X2;by_cases q:m=(kk:Int)
 ·have gMK:(m != (kk:Int))=false:=by simp [q]
  clear q;cases hBA:(zeroDN neg d x && zeroRN r c rf cf && zeroRN r2 c2 rf2 cf2)
  ·have a0:=(VE 0 _ rfl).1;have a1:=(VE 1 _ rfl).1;have a2:=(VE 2 _ rfl).1;have a3:=(VE 3 _ rfl).1;have a4:=(VE 4 _ rfl).1;have a5:=(VE 5 _ rfl).1;have a6:=(VE 6 _ rfl).1;have a7:=(VE 7 _ rfl).1;have a8:=(VE 8 _ rfl).1;have a9:=(VE 9 _ rfl).1;have a10:=(VE 10 _ rfl).1;have a11:=(VE 11 _ rfl).1;have a12:=(VE 12 _ rfl).1;have a13:=(VE 13 _ rfl).1;have a14:=(VE 14 _ rfl).1;have d14:=(VE2 14 _ rfl).1;have n0:=vC14 VN;go_enter Tryz.func63,Tryz.ntmps63;go_wp2_with fail;clear a0 a1 a2 a3 a4 a5 a6 a7 a8 a9 a10 a11 a12 a13 a14 d14;refine (bareS _ _ _ _ _ _ _ _ _ _ _ _ _ _ _).mono ?_;rintro e w1 ⟨rfl,e1⟩;have V1:=VN.later e1;have Y1:=xt X e1;clear n0;rw [hBA];have b0:=vC14 V1;go_wp2_with fail;go_ret;exact ⟨rfl,Y1⟩
  ·have a0:=(VE 0 _ rfl).1;have a1:=(VE 1 _ rfl).1;have a2:=(VE 2 _ rfl).1;have a3:=(VE 3 _ rfl).1;have a4:=(VE 4 _ rfl).1;have a5:=(VE 5 _ rfl).1;have a6:=(VE 6 _ rfl).1;have a7:=(VE 7 _ rfl).1;have a8:=(VE 8 _ rfl).1;have a9:=(VE 9 _ rfl).1;have a10:=(VE 10 _ rfl).1;have a11:=(VE 11 _ rfl).1;have a12:=(VE 12 _ rfl).1;have a13:=(VE 13 _ rfl).1;have a14:=(VE 14 _ rfl).1;have d14:=(VE2 14 _ rfl).1;have n0:=vC14 VN;go_enter Tryz.func63,Tryz.ntmps63;go_wp2_with fail;clear a0 a1 a2 a3 a4 a5 a6 a7 a8 a9 a10 a11 a12 a13 a14 d14;refine (bareS _ _ _ _ _ _ _ _ _ _ _ _ _ _ _).mono ?_;rintro e w1 ⟨rfl,e1⟩;have V1:=VN.later e1;have Y1:=xt X e1;clear n0;rw [hBA];have b0:=vC14 V1;go_wp2_with fail;go_ret;exact ⟨rfl,Y1⟩
 ·have gMK:(m != (kk:Int))=true:=by simp [q]
  clear q;obtain ⟨a0,a1,a2,a3,a4,a5,a6,a7,a8,a9,a10,a11,a12,a13,a14⟩:=vC15 VE;have d14:=(VE2 14 _ rfl).1;have n0:=vC14 VN;go_enter Tryz.func63,Tryz.ntmps63;go_wp2_with fail;clear a0 a1 a2 a3 a4 a5 a6 a7 a8 a9 a10 a11 a12 a13 a14 d14;go_ret;exact ⟨rfl,X⟩
theorem whole20:∀ r ∈ List.range 21,1≤r→whole (Lib.decDigits r)=(r:Int)∧numL (Lib.decDigits r)=(r:Int):=by decide +kernel
theorem side_same (t:List UInt8) (kk:Nat):side12 t kk=sidesB t (kk:Int):=by
 have hi:∀ i:Nat,Lib.itoa (i:Int)=Lib.decDigits i:=fun i=>by unfold Lib.itoa;rw [if_neg (by omega)];simp
 have key:∀ r:Nat,1≤r→r≤20→t=Lib.decDigits r→side12 t kk=sidesB t (kk:Int):=fun r h1 h2 ht=>by
  obtain ⟨w1,w2⟩:=whole20 r (List.mem_range.2 (by omega)) h1;have q1:whole t=(r:Int):=by rw [ht];exact w1
  have q2:numL t=(r:Int):=by rw [ht];exact w2
  have q3:(Lib.decDigits r == t)=true:=by rw [ht];simp
  have q4:(t == Lib.decDigits r)=true:=by rw [ht];simp
  unfold side12 sidesB;rw [q1,q2,hi r,Int.toNat_natCast,q3,q4];have a1:decide ((r:Int)<1)=false:=decide_eq_false (by omega);have a2:decide (20<(r:Int))=false:=decide_eq_false (by omega);have a3:decide (1≤(r:Int))=true:=decide_eq_true (by omega);have a4:decide ((r:Int)≤20)=true:=decide_eq_true (by omega);rw [a1,a2,a3,a4];have b1:decide (kk<1)=!decide (1≤(kk:Int)):=by by_cases h:kk<1 <;> simp [h] <;> omega
  have b2:decide (100<kk)=!decide ((kk:Int)≤100):=by by_cases h:100<kk <;> simp [h] <;> omega
  rw [b1,b2];cases decide (1≤(kk:Int)) <;> cases decide ((kk:Int)≤100) <;> cases ((kk:Int).tmod (r:Int) == 0) <;> rfl
 cases h1:side12 t kk with
 | true =>
  have h:=h1;unfold side12 at h;simp only [Bool.not_eq_true',Bool.or_eq_false_iff,decide_eq_false_iff_not,Bool.not_eq_false'] at h;obtain ⟨⟨⟨⟨⟨g1,g2⟩,g3⟩,_⟩,_⟩,_⟩:=h;have g3':Lib.decDigits (numL t).toNat=t:=by simpa using g3
  rw [← h1];exact key (numL t).toNat (by omega) (by omega) g3'.symm
 | false =>
  cases h2:sidesB t (kk:Int) with
  | false=>rfl
  | true =>
   have h:=h2;unfold sidesB at h;simp only [Bool.and_eq_true,decide_eq_true_eq,beq_iff_eq] at h;obtain ⟨⟨⟨⟨g1,g2⟩,g3⟩,_⟩,_⟩:=h;have g3':t=Lib.decDigits (whole t).toNat:=by
    obtain ⟨i,hw⟩:∃ i:Nat,whole t=(i:Int):=⟨(whole t).toNat,by omega⟩;rw [hw,hi i] at g3;rw [hw,Int.toNat_natCast];exact g3
   have:=key (whole t).toNat (by omega) (by omega) g3';rw [h1,h2] at this;cases this
theorem rightAllS (x:NT) (p:Option Addr) (cap:Nat) (ks:List ET) (U:Nat→Prop) (many:Bool) (w:World) (hl:x.t.length≤1048576) (hK:KidsS w U (.slice p ks.length cap) ks) (hU:∀ k,U k→k<w.heap.size) :
  Calls Tryz.prog 63 #[x.ex (.slice p ks.length cap),.bool many] w fun e w'=>e=.returned (.bool (rightE NT.good (.mk x ks) many))∧Ext w w':=by
 have RE:rightE NT.good (.mk x ks) many=(decide (x.q=(ks.length:Int)) && x.good && (!decide (x.k=13) || many) && (!decide (x.k=12) || ks.all constE)):=rfl;rw [RE];clear RE;obtain ⟨kk,hkk⟩:∃ kk,ks.length=kk:=⟨_,rfl⟩;rw [hkk] at hK ⊢;unfold NT.good;by_cases k1:x.k=1
 ·have h:=rightS1 x.t x.n x.d x.x x.r x.c x.f x.g x.r2 x.c2 x.f2 x.g2 x.q p kk cap many w hl;have e:(decide (x.q=(kk:Int)) && goodN x.k x.t x.n x.d x.x x.r x.c x.f x.g x.r2 x.c2 x.f2 x.g2 x.q && (!decide (x.k=13) || many) && (!decide (x.k=12) || ks.all constE))=(decide (x.q=(kk:Int)) && decide (kk=0) && (x.t == []) && goodB x.n x.d x.x && !x.n && zeroRN x.r x.c x.f x.g && zeroRN x.r2 x.c2 x.f2 x.g2):=by
   rw [k1];rw [Bool.eq_iff_iff];simp [goodN,zeroRN]
   grind
  rw [e];show Calls Tryz.prog 63 #[exV x.k x.t x.n x.d x.x x.r x.c x.f x.g x.r2 x.c2 x.f2 x.g2 x.q (.slice p kk cap),.bool many] w _;rw [k1];exact h
 by_cases k2:x.k=2
 ·have h:=rightS2 x.t x.n x.d x.x x.r x.c x.f x.g x.r2 x.c2 x.f2 x.g2 x.q p kk cap many w hl;have e:(decide (x.q=(kk:Int)) && goodN x.k x.t x.n x.d x.x x.r x.c x.f x.g x.r2 x.c2 x.f2 x.g2 x.q && (!decide (x.k=13) || many) && (!decide (x.k=12) || ks.all constE))=(decide (x.q=(kk:Int)) && (zeroDN x.n x.d x.x && zeroRN x.r x.c x.f x.g && zeroRN x.r2 x.c2 x.f2 x.g2) && decide (kk=0) && printB x.t):=by
   rw [k2];rw [Bool.eq_iff_iff];simp [goodN,zeroDN,zeroRN]
   grind
  rw [e];show Calls Tryz.prog 63 #[exV x.k x.t x.n x.d x.x x.r x.c x.f x.g x.r2 x.c2 x.f2 x.g2 x.q (.slice p kk cap),.bool many] w _;rw [k2];exact h
 by_cases k3:x.k=3
 ·have h:=rightS3 x.t x.n x.d x.x x.r x.c x.f x.g x.r2 x.c2 x.f2 x.g2 x.q p kk cap many w hl;have e:(decide (x.q=(kk:Int)) && goodN x.k x.t x.n x.d x.x x.r x.c x.f x.g x.r2 x.c2 x.f2 x.g2 x.q && (!decide (x.k=13) || many) && (!decide (x.k=12) || ks.all constE))=(decide (x.q=(kk:Int)) && (zeroDN x.n x.d x.x && zeroRN x.r x.c x.f x.g && zeroRN x.r2 x.c2 x.f2 x.g2) && decide (kk=0) && boolB x.t):=by
   rw [k3];rw [Bool.eq_iff_iff];simp [goodN,zeroDN,zeroRN]
   grind
  rw [e];show Calls Tryz.prog 63 #[exV x.k x.t x.n x.d x.x x.r x.c x.f x.g x.r2 x.c2 x.f2 x.g2 x.q (.slice p kk cap),.bool many] w _;rw [k3];exact h
 by_cases k4:x.k=4
 ·have h:=rightS4 x.t x.n x.d x.x x.r x.c x.f x.g x.r2 x.c2 x.f2 x.g2 x.q p kk cap many w hl;have e:(decide (x.q=(kk:Int)) && goodN x.k x.t x.n x.d x.x x.r x.c x.f x.g x.r2 x.c2 x.f2 x.g2 x.q && (!decide (x.k=13) || many) && (!decide (x.k=12) || ks.all constE))=(decide (x.q=(kk:Int)) && (zeroDN x.n x.d x.x && zeroRN x.r x.c x.f x.g && zeroRN x.r2 x.c2 x.f2 x.g2) && (decide (kk=0) && memB errL x.t)):=by
   rw [k4];rw [Bool.eq_iff_iff];simp [goodN,zeroDN,zeroRN]
   grind
  rw [e];show Calls Tryz.prog 63 #[exV x.k x.t x.n x.d x.x x.r x.c x.f x.g x.r2 x.c2 x.f2 x.g2 x.q (.slice p kk cap),.bool many] w _;rw [k4];exact h
 by_cases k5:x.k=5
 ·have h:=rightS5 x.t x.n x.d x.x x.r x.c x.f x.g x.r2 x.c2 x.f2 x.g2 x.q p kk cap many w hl;have e:(decide (x.q=(kk:Int)) && goodN x.k x.t x.n x.d x.x x.r x.c x.f x.g x.r2 x.c2 x.f2 x.g2 x.q && (!decide (x.k=13) || many) && (!decide (x.k=12) || ks.all constE))=(decide (x.q=(kk:Int)) && decide (kk=0) && (x.t == []) && goodRB x.r x.c && zeroDN x.n x.d x.x && zeroRN x.r2 x.c2 x.f2 x.g2):=by
   rw [k5];rw [Bool.eq_iff_iff];simp [goodN,zeroDN,zeroRN]
   grind
  rw [e];show Calls Tryz.prog 63 #[exV x.k x.t x.n x.d x.x x.r x.c x.f x.g x.r2 x.c2 x.f2 x.g2 x.q (.slice p kk cap),.bool many] w _;rw [k5];exact h
 by_cases k6:x.k=6
 ·have h:=rightS6 x.t x.n x.d x.x x.r x.c x.f x.g x.r2 x.c2 x.f2 x.g2 x.q p kk cap many w hl;have e:(decide (x.q=(kk:Int)) && goodN x.k x.t x.n x.d x.x x.r x.c x.f x.g x.r2 x.c2 x.f2 x.g2 x.q && (!decide (x.k=13) || many) && (!decide (x.k=12) || ks.all constE))=(decide (x.q=(kk:Int)) && decide (kk=0) && (x.t == []) && goodRB x.r x.c && goodRB x.r2 x.c2 && zeroDN x.n x.d x.x):=by
   rw [k6];rw [Bool.eq_iff_iff];simp [goodN,zeroDN]
   grind
  rw [e];show Calls Tryz.prog 63 #[exV x.k x.t x.n x.d x.x x.r x.c x.f x.g x.r2 x.c2 x.f2 x.g2 x.q (.slice p kk cap),.bool many] w _;rw [k6];exact h
 by_cases k7:x.k=7
 ·have h:=rightS7 x.t x.n x.d x.x x.r x.c x.f x.g x.r2 x.c2 x.f2 x.g2 x.q p kk cap many w hl;have e:(decide (x.q=(kk:Int)) && goodN x.k x.t x.n x.d x.x x.r x.c x.f x.g x.r2 x.c2 x.f2 x.g2 x.q && (!decide (x.k=13) || many) && (!decide (x.k=12) || ks.all constE))=(decide (x.q=(kk:Int)) && (zeroDN x.n x.d x.x && zeroRN x.r x.c x.f x.g && zeroRN x.r2 x.c2 x.f2 x.g2) && decide (kk=0) && nameB x.t):=by
   rw [k7];rw [Bool.eq_iff_iff];simp [goodN,zeroDN,zeroRN]
   grind
  rw [e];show Calls Tryz.prog 63 #[exV x.k x.t x.n x.d x.x x.r x.c x.f x.g x.r2 x.c2 x.f2 x.g2 x.q (.slice p kk cap),.bool many] w _;rw [k7];exact h
 by_cases k8:x.k=8
 ·have h:=rightS8 x.t x.n x.d x.x x.r x.c x.f x.g x.r2 x.c2 x.f2 x.g2 x.q p kk cap many w hl;have e:(decide (x.q=(kk:Int)) && goodN x.k x.t x.n x.d x.x x.r x.c x.f x.g x.r2 x.c2 x.f2 x.g2 x.q && (!decide (x.k=13) || many) && (!decide (x.k=12) || ks.all constE))=(decide (x.q=(kk:Int)) && (zeroDN x.n x.d x.x && zeroRN x.r x.c x.f x.g && zeroRN x.r2 x.c2 x.f2 x.g2) && decide (kk=1) && (x.t == [])):=by
   rw [k8];rw [Bool.eq_iff_iff];simp [goodN,zeroDN,zeroRN]
   grind
  rw [e];show Calls Tryz.prog 63 #[exV x.k x.t x.n x.d x.x x.r x.c x.f x.g x.r2 x.c2 x.f2 x.g2 x.q (.slice p kk cap),.bool many] w _;rw [k8];exact h
 by_cases k9:x.k=9
 ·have h:=rightS9 x.t x.n x.d x.x x.r x.c x.f x.g x.r2 x.c2 x.f2 x.g2 x.q p kk cap many w hl;have e:(decide (x.q=(kk:Int)) && goodN x.k x.t x.n x.d x.x x.r x.c x.f x.g x.r2 x.c2 x.f2 x.g2 x.q && (!decide (x.k=13) || many) && (!decide (x.k=12) || ks.all constE))=(decide (x.q=(kk:Int)) && (zeroDN x.n x.d x.x && zeroRN x.r x.c x.f x.g && zeroRN x.r2 x.c2 x.f2 x.g2) && decide (kk=1) && (x.t == [])):=by
   rw [k9];rw [Bool.eq_iff_iff];simp [goodN,zeroDN,zeroRN]
   grind
  rw [e];show Calls Tryz.prog 63 #[exV x.k x.t x.n x.d x.x x.r x.c x.f x.g x.r2 x.c2 x.f2 x.g2 x.q (.slice p kk cap),.bool many] w _;rw [k9];exact h
 by_cases k10:x.k=10
 ·have h:=rightS10 x.t x.n x.d x.x x.r x.c x.f x.g x.r2 x.c2 x.f2 x.g2 x.q p kk cap many w hl;have e:(decide (x.q=(kk:Int)) && goodN x.k x.t x.n x.d x.x x.r x.c x.f x.g x.r2 x.c2 x.f2 x.g2 x.q && (!decide (x.k=13) || many) && (!decide (x.k=12) || ks.all constE))=(decide (x.q=(kk:Int)) && (zeroDN x.n x.d x.x && zeroRN x.r x.c x.f x.g && zeroRN x.r2 x.c2 x.f2 x.g2) && (decide (kk=2) && memB opsL x.t)):=by
   rw [k10];rw [Bool.eq_iff_iff];simp [goodN,zeroDN,zeroRN]
   grind
  rw [e];show Calls Tryz.prog 63 #[exV x.k x.t x.n x.d x.x x.r x.c x.f x.g x.r2 x.c2 x.f2 x.g2 x.q (.slice p kk cap),.bool many] w _;rw [k10];exact h
 by_cases k11:x.k=11
 ·have h:=rightS11 x.t x.n x.d x.x x.r x.c x.f x.g x.r2 x.c2 x.f2 x.g2 x.q p kk cap many w hl;have e:(decide (x.q=(kk:Int)) && goodN x.k x.t x.n x.d x.x x.r x.c x.f x.g x.r2 x.c2 x.f2 x.g2 x.q && (!decide (x.k=13) || many) && (!decide (x.k=12) || ks.all constE))=(decide (x.q=(kk:Int)) && (zeroDN x.n x.d x.x && zeroRN x.r x.c x.f x.g && zeroRN x.r2 x.c2 x.f2 x.g2) && (decide (kk≤30) && (nameB x.t && (x.t.map upC == x.t)))):=by
   rw [k11];rw [Bool.eq_iff_iff];simp [goodN,zeroDN,zeroRN]
   grind
  rw [e];show Calls Tryz.prog 63 #[exV x.k x.t x.n x.d x.x x.r x.c x.f x.g x.r2 x.c2 x.f2 x.g2 x.q (.slice p kk cap),.bool many] w _;rw [k11];exact h
 by_cases k12:x.k=12
 ·have h:=rightS12 x.t x.n x.d x.x x.r x.c x.f x.g x.r2 x.c2 x.f2 x.g2 x.q p kk cap ks U many w hK hU hkk;have e:(decide (x.q=(kk:Int)) && goodN x.k x.t x.n x.d x.x x.r x.c x.f x.g x.r2 x.c2 x.f2 x.g2 x.q && (!decide (x.k=13) || many) && (!decide (x.k=12) || ks.all constE))=(decide (x.q=(kk:Int)) && (zeroDN x.n x.d x.x && zeroRN x.r x.c x.f x.g && zeroRN x.r2 x.c2 x.f2 x.g2) && (side12 x.t kk && ks.all constE)):=by
   rw [k12];rw [side_same];rw [Bool.eq_iff_iff];simp [goodN,zeroDN,zeroRN]
   grind
  rw [e];show Calls Tryz.prog 63 #[exV x.k x.t x.n x.d x.x x.r x.c x.f x.g x.r2 x.c2 x.f2 x.g2 x.q (.slice p kk cap),.bool many] w _;rw [k12];exact h
 by_cases k13:x.k=13
 ·have h:=rightS13 x.t x.n x.d x.x x.r x.c x.f x.g x.r2 x.c2 x.f2 x.g2 x.q p kk cap many w hl;have e:(decide (x.q=(kk:Int)) && goodN x.k x.t x.n x.d x.x x.r x.c x.f x.g x.r2 x.c2 x.f2 x.g2 x.q && (!decide (x.k=13) || many) && (!decide (x.k=12) || ks.all constE))=(decide (x.q=(kk:Int)) && (zeroDN x.n x.d x.x && zeroRN x.r x.c x.f x.g && zeroRN x.r2 x.c2 x.f2 x.g2) && decide (kk=0) && (x.t == []) && many):=by
   rw [k13];rw [Bool.eq_iff_iff];simp [goodN,zeroDN,zeroRN]
   grind
  rw [e];show Calls Tryz.prog 63 #[exV x.k x.t x.n x.d x.x x.r x.c x.f x.g x.r2 x.c2 x.f2 x.g2 x.q (.slice p kk cap),.bool many] w _;rw [k13];exact h
 have e:(decide (x.q=(kk:Int)) && goodN x.k x.t x.n x.d x.x x.r x.c x.f x.g x.r2 x.c2 x.f2 x.g2 x.q && (!decide (x.k=13) || many) && (!decide (x.k=12) || ks.all constE))=false:=by
  simp [goodN,k1,k2,k3,k4,k5,k6,k7,k8,k9,k10,k11,k12,k13]
 rw [e];exact rightSx x.k x.t x.n x.d x.x x.r x.c x.f x.g x.r2 x.c2 x.f2 x.g2 x.q p kk cap many w k1 k2 k3 k4 k5 k6 k7 k8 k9 k10 k11 k12 k13
mutual
def cntE:ET→Nat
 | .mk _ ks=>cntL ks+1
def cntL:List ET→Nat
 | []=>0
 | k :: ks=>cntE k+cntL ks
end
mutual
def allE (P:NT→Prop):ET→Prop
 | .mk n ks=>P n∧allL P ks
def allL (P:NT→Prop):List ET→Prop
 | []=>True
 | k :: ks=>allE P k∧allL P ks
end
theorem allL_get {P:NT→Prop}:∀ {es:List ET} {i:Nat} {e:ET},allL P es→es[i]?=some e→allE P e
 | k :: ks,0,e,h,hi=>by cases hi;exact h.1
 | k :: ks,i+1,e,h,hi=>allL_get h.2 (by simpa using hi)
theorem cntL_get:∀ {es:List ET} {i:Nat} {e:ET},es[i]?=some e→cntE e≤cntL es
 | k :: ks,0,e,hi=>by cases hi;rw [cntL];omega
 | k :: ks,i+1,e,hi=>by have:=cntL_get (es:=ks) (i:=i) (by simpa using hi);rw [cntL];omega
theorem cntL_take:∀ (es:List ET) (j:Nat),cntL (es.take j)≤cntL es
 | [],j=>by simp
 | k :: ks,0=>by rw [List.take_zero];rw [cntL];omega
 | k :: ks,j+1=>by rw [List.take_succ_cons,cntL,cntL];have:=cntL_take ks j;omega
theorem len_cntL:∀ (es:List ET),es.length≤cntL es
 | []=>by simp
 | .mk n ks :: l=>by rw [cntL,cntE,List.length_cons];have:=len_cntL l;omega
end Go.Proofs.YtogecaajnjcenaaGreatDoor

