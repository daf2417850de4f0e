/-
  Several texts in one: Ft1, Ft2, Ft3, Ft4.
-/
import Derived.Test.YtogecaajnjcenaaGreatDoorMg16
namespace Go.Proofs.YtogecaajnjcenaaGreatDoor
open Go.RowKit
set_option maxRecDepth 8000 in
set_option maxHeartbeats 2000000 in
theorem rightS1 (t:List UInt8) (neg:Bool) (d:Int) (x:Int) (r:Int) (c:Int) (rf:Bool) (cf:Bool) (r2:Int) (c2:Int) (rf2:Bool) (cf2:Bool) (m:Int) (p:Option Addr) (kk cap:Nat) (many:Bool) (w:World) (hl:t.length≤1048576) :
  Calls Tryz.prog 63 #[exV 1 t neg d x r c rf cf r2 c2 rf2 cf2 m (.slice p kk cap),.bool many] w fun e w'=>e=.returned (.bool (decide (m=(kk:Int)) && decide (kk=0) && (t == []) && goodB neg d x && !neg && zeroRN r c rf cf && zeroRN r2 c2 rf2 cf2))∧Ext w w':=by
 have hU:True:=by have _:=hl;trivial
 clear hU;obtain ⟨Q,hQ⟩:∃ Q,(decide (m=(kk:Int)) && decide (kk=0) && (t == []) && goodB neg d x && !neg && zeroRN r c rf cf && zeroRN r2 c2 rf2 cf2)=Q:=⟨_,rfl⟩;have HQ:Hid _:=hQ;rw [hQ];clear hQ;obtain ⟨wa,ha,X1,VE,-⟩:=boxed w [.int .i64 1,sV t,.bool neg,.int .i64 d,.int .i64 x,.int .i64 r,.int .i64 c,.bool rf,.bool cf,.int .i64 r2,.int .i64 c2,.bool rf2,.bool cf2,.int .i64 m,.slice p kk cap] 55;obtain ⟨wb,hb,X2,VN,-⟩:=boxed wa [.int .i64 1,sV t,.bool neg,.int .i64 d,.int .i64 x,.int .i64 r,.int .i64 c,.bool rf,.bool cf,.int .i64 r2,.int .i64 c2,.bool rf2,.bool cf2,.int .i64 m] 43;have sa:wa.heap.size=w.heap.size+1:=by rw [← ha,World.size_alloc]
 rw [sa] at VN;have VE2:=VE.later X2;have X:=xt X1 X2;clear X1 X2;by_cases q:m=(kk:Int)
 ·have HMK:Hid (decide (m=(kk:Int))=true):=decide_eq_true q;have gMK:(m != (kk:Int))=false:=by simp [q]
  clear q;by_cases q:kk=0
  ·have HK0:Hid (decide (kk=0)=true):=decide_eq_true q;have gK0:((kk:Int) == 0)=true:=by simp [q]
   clear q;cases hT0:(t == [])
   ·have HB:Hid (false=Q):=by show _=_;first | (rw [← HQ.out,HMK.out,HK0.out,hT0];rfl) | (rw [← HQ.out,HMK.out,HK0.out];rfl)
    have a0:=vC15 VE;have d14:=(VE2 14 _ rfl).1;have n0:=vC14 VN;go_enter Tryz.func63,Tryz.ntmps63;go_wp2_with fail;clear a0 d14;go_ret;exact ⟨ret_bool HB.out,X⟩
   ·cases hGD:goodB neg d x
    ·have HB:Hid (false=Q):=by show _=_;first | (rw [← HQ.out,HMK.out,HK0.out,hT0,hGD];rfl) | (rw [← HQ.out,HMK.out,HK0.out,hT0];rfl)
     have a0:=vC15 VE;have d14:=(VE2 14 _ rfl).1;have n0:=vC14 VN;go_enter Tryz.func63,Tryz.ntmps63;go_wp2_with fail;clear a0 d14;refine (goodS _ _ _ _).mono ?_;rintro e w1 ⟨rfl,e1⟩;have V1:=VN.later e1;have Y1:=xt X e1;clear n0;have n1x0:=vC14 V1;rw [hGD];go_wp2_with fail;go_ret;exact ⟨ret_bool HB.out,Y1⟩
    ·cases neg
     ·cases hZ1:zeroRN r c rf cf
      ·rcases zeroRN_no hZ1 with q | ⟨rfl,q | ⟨rfl,rfl | ⟨rfl,rfl⟩⟩⟩
       all_goals
        have HB:Hid (false=Q):=by show _=_;first | (rw [← HQ.out,HMK.out,HK0.out,hT0,hGD,hZ1];rfl) | (rw [← HQ.out,HMK.out,HK0.out,hT0,hGD];rfl)
        have a0:=vC15 VE;have d14:=(VE2 14 _ rfl).1;have n0:=vC14 VN;go_enter Tryz.func63,Tryz.ntmps63;go_wp2_with fail;clear a0 d14;refine (goodS _ _ _ _).mono ?_;rintro e w1 ⟨rfl,e1⟩;have V1:=VN.later e1;have Y1:=xt X e1;clear n0;have n1x0:=vC14 V1;rw [hGD];go_wp2_with fail;go_ret;exact ⟨ret_bool HB.out,Y1⟩
      ·obtain ⟨rfl,rfl,rfl,rfl⟩:r=0∧c=0∧rf=false∧cf=false:=(by simpa [zeroRN,and_assoc] using hZ1);cases hZ2:zeroRN r2 c2 rf2 cf2
       ·rcases zeroRN_no hZ2 with q | ⟨rfl,q | ⟨rfl,rfl | ⟨rfl,rfl⟩⟩⟩
        all_goals
         have HB:Hid (false=Q):=by show _=_;first | (rw [← HQ.out,HMK.out,HK0.out,hT0,hGD,hZ1,hZ2];rfl) | (rw [← HQ.out,HMK.out,HK0.out,hT0,hGD,hZ1];rfl)
         have a0:=vC15 VE;have d14:=(VE2 14 _ rfl).1;have n0:=vC14 VN;go_enter Tryz.func63,Tryz.ntmps63;go_wp2_with fail;clear a0 d14;refine (goodS _ _ _ _).mono ?_;rintro e w1 ⟨rfl,e1⟩;have V1:=VN.later e1;have Y1:=xt X e1;clear n0;have n1x0:=vC14 V1;rw [hGD];go_wp2_with fail;go_ret;exact ⟨ret_bool HB.out,Y1⟩
       ·obtain ⟨rfl,rfl,rfl,rfl⟩:r2=0∧c2=0∧rf2=false∧cf2=false:=(by simpa [zeroRN,and_assoc] using hZ2);have HB:Hid (true=Q):=by show _=_;first | (rw [← HQ.out,HMK.out,HK0.out,hT0,hGD,hZ1,hZ2];rfl) | (rw [← HQ.out,HMK.out,HK0.out,hT0,hGD,hZ1];rfl)
        have a0:=vC15 VE;have d14:=(VE2 14 _ rfl).1;have n0:=vC14 VN;go_enter Tryz.func63,Tryz.ntmps63;go_wp2_with fail;clear a0 d14;refine (goodS _ _ _ _).mono ?_;rintro e w1 ⟨rfl,e1⟩;have V1:=VN.later e1;have Y1:=xt X e1;clear n0;have n1x0:=vC14 V1;rw [hGD];go_wp2_with fail;go_ret;exact ⟨ret_bool HB.out,Y1⟩
     ·have HB:Hid (false=Q):=by show _=_;first | (rw [← HQ.out,HMK.out,HK0.out,hT0,hGD];rfl) | (rw [← HQ.out,HMK.out,HK0.out,hT0];rfl)
      have a0:=vC15 VE;have d14:=(VE2 14 _ rfl).1;have n0:=vC14 VN;go_enter Tryz.func63,Tryz.ntmps63;go_wp2_with fail;clear a0 d14;refine (goodS _ _ _ _).mono ?_;rintro e w1 ⟨rfl,e1⟩;have V1:=VN.later e1;have Y1:=xt X e1;clear n0;have n1x0:=vC14 V1;rw [hGD];go_wp2_with fail;go_ret;exact ⟨ret_bool HB.out,Y1⟩
  ·have HK0:Hid (decide (kk=0)=false):=decide_eq_false q;have gK0:((kk:Int) == 0)=false:=by simp;omega
   clear q;have HB:Hid (false=Q):=by show _=_;first | (rw [← HQ.out,HMK.out,HK0.out];rfl) | (rw [← HQ.out,HMK.out];rfl)
   have a0:=vC15 VE;have d14:=(VE2 14 _ rfl).1;have n0:=vC14 VN;go_enter Tryz.func63,Tryz.ntmps63;go_wp2_with fail;clear a0 d14;go_ret;exact ⟨ret_bool HB.out,X⟩
 ·have HMK:Hid (decide (m=(kk:Int))=false):=decide_eq_false q;have gMK:(m != (kk:Int))=true:=by simpa using q
  have HB:Hid (false=Q):=by show _=_;first | (rw [← HQ.out,HMK.out];rfl) | (rw [← HQ.out];rfl)
  have a0:=vC15 VE;have d14:=(VE2 14 _ rfl).1;have n0:=vC14 VN;go_enter Tryz.func63,Tryz.ntmps63;go_wp2_with fail;clear a0 d14;go_ret;exact ⟨ret_bool HB.out,X⟩
set_option maxRecDepth 8000 in
set_option maxHeartbeats 2000000 in
theorem rightS5 (t:List UInt8) (neg:Bool) (d:Int) (x:Int) (r:Int) (c:Int) (rf:Bool) (cf:Bool) (r2:Int) (c2:Int) (rf2:Bool) (cf2:Bool) (m:Int) (p:Option Addr) (kk cap:Nat) (many:Bool) (w:World) (hl:t.length≤1048576) :
  Calls Tryz.prog 63 #[exV 5 t neg d x r c rf cf r2 c2 rf2 cf2 m (.slice p kk cap),.bool many] w fun e w'=>e=.returned (.bool (decide (m=(kk:Int)) && decide (kk=0) && (t == []) && goodRB r c && zeroDN neg d x && zeroRN r2 c2 rf2 cf2))∧Ext w w':=by
 have hU:True:=by have _:=hl;trivial
 clear hU;obtain ⟨Q,hQ⟩:∃ Q,(decide (m=(kk:Int)) && decide (kk=0) && (t == []) && goodRB r c && zeroDN neg d x && zeroRN r2 c2 rf2 cf2)=Q:=⟨_,rfl⟩;have HQ:Hid _:=hQ;rw [hQ];clear hQ;obtain ⟨wa,ha,X1,VE,-⟩:=boxed w [.int .i64 5,sV t,.bool neg,.int .i64 d,.int .i64 x,.int .i64 r,.int .i64 c,.bool rf,.bool cf,.int .i64 r2,.int .i64 c2,.bool rf2,.bool cf2,.int .i64 m,.slice p kk cap] 55;obtain ⟨wb,hb,X2,VN,-⟩:=boxed wa [.int .i64 5,sV t,.bool neg,.int .i64 d,.int .i64 x,.int .i64 r,.int .i64 c,.bool rf,.bool cf,.int .i64 r2,.int .i64 c2,.bool rf2,.bool cf2,.int .i64 m] 43;have sa:wa.heap.size=w.heap.size+1:=by rw [← ha,World.size_alloc]
 rw [sa] at VN;have VE2:=VE.later X2;have X:=xt X1 X2;clear X1 X2;by_cases q:m=(kk:Int)
 ·have HMK:Hid (decide (m=(kk:Int))=true):=decide_eq_true q;have gMK:(m != (kk:Int))=false:=by simp [q]
  clear q;by_cases q:kk=0
  ·have HK0:Hid (decide (kk=0)=true):=decide_eq_true q;have gK0:((kk:Int) == 0)=true:=by simp [q]
   clear q;cases hT0:(t == [])
   ·have HB:Hid (false=Q):=by show _=_;first | (rw [← HQ.out,HMK.out,HK0.out,hT0];rfl) | (rw [← HQ.out,HMK.out,HK0.out];rfl)
    have a0:=vC15 VE;have d14:=(VE2 14 _ rfl).1;have n0:=vC14 VN;go_enter Tryz.func63,Tryz.ntmps63;go_wp2_with fail;clear a0 d14;go_ret;exact ⟨ret_bool HB.out,X⟩
   ·cases hG1:goodRB r c
    ·have HB:Hid (false=Q):=by show _=_;first | (rw [← HQ.out,HMK.out,HK0.out,hT0,hG1];rfl) | (rw [← HQ.out,HMK.out,HK0.out,hT0];rfl)
     have a0:=vC15 VE;have d14:=(VE2 14 _ rfl).1;have n0:=vC14 VN;go_enter Tryz.func63,Tryz.ntmps63;go_wp2_with fail;clear a0 d14;refine (goodRS _ _ _ _ _).mono ?_;rintro e w1 ⟨rfl,e1⟩;have V1:=VN.later e1;have Y1:=xt X e1;clear n0;have n1x0:=vC14 V1;rw [hG1];go_wp2_with fail;go_ret;exact ⟨ret_bool HB.out,Y1⟩
    ·cases hZD:zeroDN neg d x
     ·rcases zeroDN_no hZD with rfl | ⟨rfl,q | ⟨rfl,q⟩⟩
      all_goals
       have HB:Hid (false=Q):=by show _=_;first | (rw [← HQ.out,HMK.out,HK0.out,hT0,hG1,hZD];rfl) | (rw [← HQ.out,HMK.out,HK0.out,hT0,hG1];rfl)
       have a0:=vC15 VE;have d14:=(VE2 14 _ rfl).1;have n0:=vC14 VN;go_enter Tryz.func63,Tryz.ntmps63;go_wp2_with fail;clear a0 d14;refine (goodRS _ _ _ _ _).mono ?_;rintro e w1 ⟨rfl,e1⟩;have V1:=VN.later e1;have Y1:=xt X e1;clear n0;have n1x0:=vC14 V1;rw [hG1];go_wp2_with fail;go_ret;exact ⟨ret_bool HB.out,Y1⟩
     ·obtain ⟨rfl,rfl,rfl⟩:neg=false∧d=0∧x=0:=(by simpa [zeroDN,and_assoc] using hZD);cases hZ2:zeroRN r2 c2 rf2 cf2
      ·rcases zeroRN_no hZ2 with q | ⟨rfl,q | ⟨rfl,rfl | ⟨rfl,rfl⟩⟩⟩
       all_goals
        have HB:Hid (false=Q):=by show _=_;first | (rw [← HQ.out,HMK.out,HK0.out,hT0,hG1,hZD,hZ2];rfl) | (rw [← HQ.out,HMK.out,HK0.out,hT0,hG1,hZD];rfl)
        have a0:=vC15 VE;have d14:=(VE2 14 _ rfl).1;have n0:=vC14 VN;go_enter Tryz.func63,Tryz.ntmps63;go_wp2_with fail;clear a0 d14;refine (goodRS _ _ _ _ _).mono ?_;rintro e w1 ⟨rfl,e1⟩;have V1:=VN.later e1;have Y1:=xt X e1;clear n0;have n1x0:=vC14 V1;rw [hG1];go_wp2_with fail;go_ret;exact ⟨ret_bool HB.out,Y1⟩
      ·obtain ⟨rfl,rfl,rfl,rfl⟩:r2=0∧c2=0∧rf2=false∧cf2=false:=(by simpa [zeroRN,and_assoc] using hZ2);have HB:Hid (true=Q):=by show _=_;first | (rw [← HQ.out,HMK.out,HK0.out,hT0,hG1,hZD,hZ2];rfl) | (rw [← HQ.out,HMK.out,HK0.out,hT0,hG1,hZD];rfl)
       have a0:=vC15 VE;have d14:=(VE2 14 _ rfl).1;have n0:=vC14 VN;go_enter Tryz.func63,Tryz.ntmps63;go_wp2_with fail;clear a0 d14;refine (goodRS _ _ _ _ _).mono ?_;rintro e w1 ⟨rfl,e1⟩;have V1:=VN.later e1;have Y1:=xt X e1;clear n0;have n1x0:=vC14 V1;rw [hG1];go_wp2_with fail;go_ret;exact ⟨ret_bool HB.out,Y1⟩
  ·have HK0:Hid (decide (kk=0)=false):=decide_eq_false q;have gK0:((kk:Int) == 0)=false:=by simp;omega
   clear q;have HB:Hid (false=Q):=by show _=_;first | (rw [← HQ.out,HMK.out,HK0.out];rfl) | (rw [← HQ.out,HMK.out];rfl)
   have a0:=vC15 VE;have d14:=(VE2 14 _ rfl).1;have n0:=vC14 VN;go_enter Tryz.func63,Tryz.ntmps63;go_wp2_with fail;clear a0 d14;go_ret;exact ⟨ret_bool HB.out,X⟩
 ·have HMK:Hid (decide (m=(kk:Int))=false):=decide_eq_false q;have gMK:(m != (kk:Int))=true:=by simpa using q
  have HB:Hid (false=Q):=by show _=_;first | (rw [← HQ.out,HMK.out];rfl) | (rw [← HQ.out];rfl)
  have a0:=vC15 VE;have d14:=(VE2 14 _ rfl).1;have n0:=vC14 VN;go_enter Tryz.func63,Tryz.ntmps63;go_wp2_with fail;clear a0 d14;go_ret;exact ⟨ret_bool HB.out,X⟩
set_option maxRecDepth 8000 in
set_option maxHeartbeats 2000000 in
theorem rightS6 (t:List UInt8) (neg:Bool) (d:Int) (x:Int) (r:Int) (c:Int) (rf:Bool) (cf:Bool) (r2:Int) (c2:Int) (rf2:Bool) (cf2:Bool) (m:Int) (p:Option Addr) (kk cap:Nat) (many:Bool) (w:World) (hl:t.length≤1048576) :
  Calls Tryz.prog 63 #[exV 6 t neg d x r c rf cf r2 c2 rf2 cf2 m (.slice p kk cap),.bool many] w fun e w'=>e=.returned (.bool (decide (m=(kk:Int)) && decide (kk=0) && (t == []) && goodRB r c && goodRB r2 c2 && zeroDN neg d x))∧Ext w w':=by
 have hU:True:=by have _:=hl;trivial
 clear hU;obtain ⟨Q,hQ⟩:∃ Q,(decide (m=(kk:Int)) && decide (kk=0) && (t == []) && goodRB r c && goodRB r2 c2 && zeroDN neg d x)=Q:=⟨_,rfl⟩;have HQ:Hid _:=hQ;rw [hQ];clear hQ;obtain ⟨wa,ha,X1,VE,-⟩:=boxed w [.int .i64 6,sV t,.bool neg,.int .i64 d,.int .i64 x,.int .i64 r,.int .i64 c,.bool rf,.bool cf,.int .i64 r2,.int .i64 c2,.bool rf2,.bool cf2,.int .i64 m,.slice p kk cap] 55;obtain ⟨wb,hb,X2,VN,-⟩:=boxed wa [.int .i64 6,sV t,.bool neg,.int .i64 d,.int .i64 x,.int .i64 r,.int .i64 c,.bool rf,.bool cf,.int .i64 r2,.int .i64 c2,.bool rf2,.bool cf2,.int .i64 m] 43;have sa:wa.heap.size=w.heap.size+1:=by rw [← ha,World.size_alloc]
 rw [sa] at VN;have VE2:=VE.later X2;have X:=xt X1 X2;clear X1 X2;by_cases q:m=(kk:Int)
 ·have HMK:Hid (decide (m=(kk:Int))=true):=decide_eq_true q;have gMK:(m != (kk:Int))=false:=by simp [q]
  clear q;by_cases q:kk=0
  ·have HK0:Hid (decide (kk=0)=true):=decide_eq_true q;have gK0:((kk:Int) == 0)=true:=by simp [q]
   clear q;cases hT0:(t == [])
   ·have HB:Hid (false=Q):=by show _=_;first | (rw [← HQ.out,HMK.out,HK0.out,hT0];rfl) | (rw [← HQ.out,HMK.out,HK0.out];rfl)
    have a0:=vC15 VE;have d14:=(VE2 14 _ rfl).1;have n0:=vC14 VN;go_enter Tryz.func63,Tryz.ntmps63;go_wp2_with fail;clear a0 d14;go_ret;exact ⟨ret_bool HB.out,X⟩
   ·cases hG1:goodRB r c
    ·have HB:Hid (false=Q):=by show _=_;first | (rw [← HQ.out,HMK.out,HK0.out,hT0,hG1];rfl) | (rw [← HQ.out,HMK.out,HK0.out,hT0];rfl)
     have a0:=vC15 VE;have d14:=(VE2 14 _ rfl).1;have n0:=vC14 VN;go_enter Tryz.func63,Tryz.ntmps63;go_wp2_with fail;clear a0 d14;refine (goodRS _ _ _ _ _).mono ?_;rintro e w1 ⟨rfl,e1⟩;have V1:=VN.later e1;have Y1:=xt X e1;clear n0;have n1x0:=vC14 V1;rw [hG1];go_wp2_with fail;go_ret;exact ⟨ret_bool HB.out,Y1⟩
    ·cases hG2:goodRB r2 c2
     ·have HB:Hid (false=Q):=by show _=_;first | (rw [← HQ.out,HMK.out,HK0.out,hT0,hG1,hG2];rfl) | (rw [← HQ.out,HMK.out,HK0.out,hT0,hG1];rfl)
      have a0:=vC15 VE;have d14:=(VE2 14 _ rfl).1;have n0:=vC14 VN;go_enter Tryz.func63,Tryz.ntmps63;go_wp2_with fail;clear a0 d14;refine (goodRS _ _ _ _ _).mono ?_;rintro e w1 ⟨rfl,e1⟩;have V1:=VN.later e1;have Y1:=xt X e1;clear n0;have n1x0:=vC14 V1;rw [hG1];go_wp2_with fail;refine (goodRS _ _ _ _ _).mono ?_;rintro e w2 ⟨rfl,e2⟩;have V2:=V1.later e2;have Y2:=xt Y1 e2;clear n1x0;have n2x0:=vC14 V2;rw [hG2];go_wp2_with fail;go_ret;exact ⟨ret_bool HB.out,Y2⟩
     ·cases hZD:zeroDN neg d x
      ·rcases zeroDN_no hZD with rfl | ⟨rfl,q | ⟨rfl,q⟩⟩
       all_goals
        have HB:Hid (false=Q):=by show _=_;first | (rw [← HQ.out,HMK.out,HK0.out,hT0,hG1,hG2,hZD];rfl) | (rw [← HQ.out,HMK.out,HK0.out,hT0,hG1,hG2];rfl)
        have a0:=vC15 VE;have d14:=(VE2 14 _ rfl).1;have n0:=vC14 VN;go_enter Tryz.func63,Tryz.ntmps63;go_wp2_with fail;clear a0 d14;refine (goodRS _ _ _ _ _).mono ?_;rintro e w1 ⟨rfl,e1⟩;have V1:=VN.later e1;have Y1:=xt X e1;clear n0;have n1x0:=vC14 V1;rw [hG1];go_wp2_with fail;refine (goodRS _ _ _ _ _).mono ?_;rintro e w2 ⟨rfl,e2⟩;have V2:=V1.later e2;have Y2:=xt Y1 e2;clear n1x0;have n2x0:=vC14 V2;rw [hG2];go_wp2_with fail;go_ret;exact ⟨ret_bool HB.out,Y2⟩
      ·obtain ⟨rfl,rfl,rfl⟩:neg=false∧d=0∧x=0:=(by simpa [zeroDN,and_assoc] using hZD);have HB:Hid (true=Q):=by show _=_;first | (rw [← HQ.out,HMK.out,HK0.out,hT0,hG1,hG2,hZD];rfl) | (rw [← HQ.out,HMK.out,HK0.out,hT0,hG1,hG2];rfl)
       have a0:=vC15 VE;have d14:=(VE2 14 _ rfl).1;have n0:=vC14 VN;go_enter Tryz.func63,Tryz.ntmps63;go_wp2_with fail;clear a0 d14;refine (goodRS _ _ _ _ _).mono ?_;rintro e w1 ⟨rfl,e1⟩;have V1:=VN.later e1;have Y1:=xt X e1;clear n0;have n1x0:=vC14 V1;rw [hG1];go_wp2_with fail;refine (goodRS _ _ _ _ _).mono ?_;rintro e w2 ⟨rfl,e2⟩;have V2:=V1.later e2;have Y2:=xt Y1 e2;clear n1x0;have n2x0:=vC14 V2;rw [hG2];go_wp2_with fail;go_ret;exact ⟨ret_bool HB.out,Y2⟩
  ·have HK0:Hid (decide (kk=0)=false):=decide_eq_false q;have gK0:((kk:Int) == 0)=false:=by simp;omega
   clear q;have HB:Hid (false=Q):=by show _=_;first | (rw [← HQ.out,HMK.out,HK0.out];rfl) | (rw [← HQ.out,HMK.out];rfl)
   have a0:=vC15 VE;have d14:=(VE2 14 _ rfl).1;have n0:=vC14 VN;go_enter Tryz.func63,Tryz.ntmps63;go_wp2_with fail;clear a0 d14;go_ret;exact ⟨ret_bool HB.out,X⟩
 ·have HMK:Hid (decide (m=(kk:Int))=false):=decide_eq_false q;have gMK:(m != (kk:Int))=true:=by simpa using q
  have HB:Hid (false=Q):=by show _=_;first | (rw [← HQ.out,HMK.out];rfl) | (rw [← HQ.out];rfl)
  have a0:=vC15 VE;have d14:=(VE2 14 _ rfl).1;have n0:=vC14 VN;go_enter Tryz.func63,Tryz.ntmps63;go_wp2_with fail;clear a0 d14;go_ret;exact ⟨ret_bool HB.out,X⟩
set_option maxRecDepth 8000 in
set_option maxHeartbeats 2000000 in
theorem rightS2 (t:List UInt8) (neg:Bool) (d:Int) (x:Int) (r:Int) (c:Int) (rf:Bool) (cf:Bool) (r2:Int) (c2:Int) (rf2:Bool) (cf2:Bool) (m:Int) (p:Option Addr) (kk cap:Nat) (many:Bool) (w:World) (hl:t.length≤1048576) :
  Calls Tryz.prog 63 #[exV 2 t neg d x r c rf cf r2 c2 rf2 cf2 m (.slice p kk cap),.bool many] w fun e w'=>e=.returned (.bool (decide (m=(kk:Int)) && (zeroDN neg d x && zeroRN r c rf cf && zeroRN r2 c2 rf2 cf2) && decide (kk=0) && printB t))∧Ext w w':=by
 have hU:True:=by have _:=hl;trivial
 clear hU;obtain ⟨Q,hQ⟩:∃ Q,(decide (m=(kk:Int)) && (zeroDN neg d x && zeroRN r c rf cf && zeroRN r2 c2 rf2 cf2) && decide (kk=0) && printB t)=Q:=⟨_,rfl⟩;have HQ:Hid _:=hQ;rw [hQ];clear hQ;obtain ⟨wa,ha,X1,VE,-⟩:=boxed w [.int .i64 2,sV t,.bool neg,.int .i64 d,.int .i64 x,.int .i64 r,.int .i64 c,.bool rf,.bool cf,.int .i64 r2,.int .i64 c2,.bool rf2,.bool cf2,.int .i64 m,.slice p kk cap] 55;obtain ⟨wb,hb,X2,VN,-⟩:=boxed wa [.int .i64 2,sV t,.bool neg,.int .i64 d,.int .i64 x,.int .i64 r,.int .i64 c,.bool rf,.bool cf,.int .i64 r2,.int .i64 c2,.bool rf2,.bool cf2,.int .i64 m] 43;have sa:wa.heap.size=w.heap.size+1:=by rw [← ha,World.size_alloc]
 rw [sa] at VN;have VE2:=VE.later X2;have X:=xt X1 X2;clear X1 X2;by_cases q:m=(kk:Int)
 ·have HMK:Hid (decide (m=(kk:Int))=true):=decide_eq_true q;have gMK:(m != (kk:Int))=false:=by simp [q]
  clear q;cases hBA:(zeroDN neg d x && zeroRN r c rf cf && zeroRN r2 c2 rf2 cf2)
  ·have HB:Hid (false=Q):=by show _=_;first | (rw [← HQ.out,HMK.out,hBA];rfl) | (rw [← HQ.out,HMK.out];rfl)
   have a0:=vC15 VE;have d14:=(VE2 14 _ rfl).1;have n0:=vC14 VN;go_enter Tryz.func63,Tryz.ntmps63;go_wp2_with fail;clear a0 d14;refine (bareS _ _ _ _ _ _ _ _ _ _ _ _ _ _ _).mono ?_;rintro e w1 ⟨rfl,e1⟩;have V1:=VN.later e1;have Y1:=xt X e1;clear n0;have n1x0:=vC14 V1;rw [hBA];go_wp2_with fail;go_ret;exact ⟨ret_bool HB.out,Y1⟩
  ·by_cases q:kk=0
   ·have HK0:Hid (decide (kk=0)=true):=decide_eq_true q;have gK0:((kk:Int) == 0)=true:=(by simp [q]);clear q;cases hPR:printB t
    ·have HB:Hid (false=Q):=by show _=_;first | (rw [← HQ.out,HMK.out,hBA,HK0.out,hPR];rfl) | (rw [← HQ.out,HMK.out,hBA,HK0.out];rfl)
     have a0:=vC15 VE;have d14:=(VE2 14 _ rfl).1;have n0:=vC14 VN;go_enter Tryz.func63,Tryz.ntmps63;go_wp2_with fail;clear a0 d14;refine (bareS _ _ _ _ _ _ _ _ _ _ _ _ _ _ _).mono ?_;rintro e w1 ⟨rfl,e1⟩;have V1:=VN.later e1;have Y1:=xt X e1;clear n0;have n1x0:=vC14 V1;rw [hBA];go_wp2_with fail;refine (printS 200 t _ (by omega)).mono ?_;rintro e w2 ⟨rfl,rfl⟩;rw [show printN 200 t=false from hPR];go_wp2_with fail;go_ret;exact ⟨ret_bool HB.out,Y1⟩
    ·have HB:Hid (true=Q):=by show _=_;first | (rw [← HQ.out,HMK.out,hBA,HK0.out,hPR];rfl) | (rw [← HQ.out,HMK.out,hBA,HK0.out];rfl)
     have a0:=vC15 VE;have d14:=(VE2 14 _ rfl).1;have n0:=vC14 VN;go_enter Tryz.func63,Tryz.ntmps63;go_wp2_with fail;clear a0 d14;refine (bareS _ _ _ _ _ _ _ _ _ _ _ _ _ _ _).mono ?_;rintro e w1 ⟨rfl,e1⟩;have V1:=VN.later e1;have Y1:=xt X e1;clear n0;have n1x0:=vC14 V1;rw [hBA];go_wp2_with fail;refine (printS 200 t _ (by omega)).mono ?_;rintro e w2 ⟨rfl,rfl⟩;rw [show printN 200 t=true from hPR];go_wp2_with fail;go_ret;exact ⟨ret_bool HB.out,Y1⟩
   ·have HK0:Hid (decide (kk=0)=false):=decide_eq_false q;have gK0:((kk:Int) == 0)=false:=(by simp;omega);clear q;have HB:Hid (false=Q):=by show _=_;first | (rw [← HQ.out,HMK.out,hBA,HK0.out];rfl) | (rw [← HQ.out,HMK.out,hBA];rfl)
    have a0:=vC15 VE;have d14:=(VE2 14 _ rfl).1;have n0:=vC14 VN;go_enter Tryz.func63,Tryz.ntmps63;go_wp2_with fail;clear a0 d14;refine (bareS _ _ _ _ _ _ _ _ _ _ _ _ _ _ _).mono ?_;rintro e w1 ⟨rfl,e1⟩;have V1:=VN.later e1;have Y1:=xt X e1;clear n0;have n1x0:=vC14 V1;rw [hBA];go_wp2_with fail;go_ret;exact ⟨ret_bool HB.out,Y1⟩
 ·have HMK:Hid (decide (m=(kk:Int))=false):=decide_eq_false q;have gMK:(m != (kk:Int))=true:=by simpa using q
  have HB:Hid (false=Q):=by show _=_;first | (rw [← HQ.out,HMK.out];rfl) | (rw [← HQ.out];rfl)
  have a0:=vC15 VE;have d14:=(VE2 14 _ rfl).1;have n0:=vC14 VN;go_enter Tryz.func63,Tryz.ntmps63;go_wp2_with fail;clear a0 d14;go_ret;exact ⟨ret_bool HB.out,X⟩
set_option maxRecDepth 8000 in
set_option maxHeartbeats 2000000 in
theorem rightS3 (t:List UInt8) (neg:Bool) (d:Int) (x:Int) (r:Int) (c:Int) (rf:Bool) (cf:Bool) (r2:Int) (c2:Int) (rf2:Bool) (cf2:Bool) (m:Int) (p:Option Addr) (kk cap:Nat) (many:Bool) (w:World) (hl:t.length≤1048576) :
  Calls Tryz.prog 63 #[exV 3 t neg d x r c rf cf r2 c2 rf2 cf2 m (.slice p kk cap),.bool many] w fun e w'=>e=.returned (.bool (decide (m=(kk:Int)) && (zeroDN neg d x && zeroRN r c rf cf && zeroRN r2 c2 rf2 cf2) && decide (kk=0) && boolB t))∧Ext w w':=by
 have hU:True:=by have _:=hl;trivial
 clear hU;obtain ⟨Q,hQ⟩:∃ Q,(decide (m=(kk:Int)) && (zeroDN neg d x && zeroRN r c rf cf && zeroRN r2 c2 rf2 cf2) && decide (kk=0) && boolB t)=Q:=⟨_,rfl⟩;have HQ:Hid _:=hQ;rw [hQ];clear hQ;obtain ⟨wa,ha,X1,VE,-⟩:=boxed w [.int .i64 3,sV t,.bool neg,.int .i64 d,.int .i64 x,.int .i64 r,.int .i64 c,.bool rf,.bool cf,.int .i64 r2,.int .i64 c2,.bool rf2,.bool cf2,.int .i64 m,.slice p kk cap] 55;obtain ⟨wb,hb,X2,VN,-⟩:=boxed wa [.int .i64 3,sV t,.bool neg,.int .i64 d,.int .i64 x,.int .i64 r,.int .i64 c,.bool rf,.bool cf,.int .i64 r2,.int .i64 c2,.bool rf2,.bool cf2,.int .i64 m] 43;have sa:wa.heap.size=w.heap.size+1:=by rw [← ha,World.size_alloc]
 rw [sa] at VN;have VE2:=VE.later X2;have X:=xt X1 X2;clear X1 X2;by_cases q:m=(kk:Int)
 ·have HMK:Hid (decide (m=(kk:Int))=true):=decide_eq_true q;have gMK:(m != (kk:Int))=false:=by simp [q]
  clear q;cases hBA:(zeroDN neg d x && zeroRN r c rf cf && zeroRN r2 c2 rf2 cf2)
  ·have HB:Hid (false=Q):=by show _=_;first | (rw [← HQ.out,HMK.out,hBA];rfl) | (rw [← HQ.out,HMK.out];rfl)
   have a0:=vC15 VE;have d14:=(VE2 14 _ rfl).1;have n0:=vC14 VN;go_enter Tryz.func63,Tryz.ntmps63;go_wp2_with fail;clear a0 d14;refine (bareS _ _ _ _ _ _ _ _ _ _ _ _ _ _ _).mono ?_;rintro e w1 ⟨rfl,e1⟩;have V1:=VN.later e1;have Y1:=xt X e1;clear n0;have n1x0:=vC14 V1;rw [hBA];go_wp2_with fail;go_ret;exact ⟨ret_bool HB.out,Y1⟩
  ·by_cases q:kk=0
   ·have HK0:Hid (decide (kk=0)=true):=decide_eq_true q;have gK0:((kk:Int) == 0)=true:=(by simp [q]);clear q;obtain ⟨p1,hp1⟩:∃ p1,(t == [84,82,85,69])=p1:=⟨_,rfl⟩;obtain ⟨p2,hp2⟩:∃ p2,(t == [70,65,76,83,69])=p2:=⟨_,rfl⟩;have hBO:boolB t=(p1 || p2):=(by unfold boolB;rw [hp1,hp2]);cases p1
    ·cases p2
     ·have HB:Hid (false=Q):=by show _=_;first | (rw [← HQ.out,HMK.out,hBA,HK0.out,hBO];rfl) | (rw [← HQ.out,HMK.out,hBA,HK0.out];rfl)
      have a0:=vC15 VE;have d14:=(VE2 14 _ rfl).1;have n0:=vC14 VN;go_enter Tryz.func63,Tryz.ntmps63;go_wp2_with fail;clear a0 d14;refine (bareS _ _ _ _ _ _ _ _ _ _ _ _ _ _ _).mono ?_;rintro e w1 ⟨rfl,e1⟩;have V1:=VN.later e1;have Y1:=xt X e1;clear n0;have n1x0:=vC14 V1;rw [hBA];go_wp2_with fail;go_ret;exact ⟨ret_bool HB.out,Y1⟩
     ·have HB:Hid (true=Q):=by show _=_;first | (rw [← HQ.out,HMK.out,hBA,HK0.out,hBO];rfl) | (rw [← HQ.out,HMK.out,hBA,HK0.out];rfl)
      have a0:=vC15 VE;have d14:=(VE2 14 _ rfl).1;have n0:=vC14 VN;go_enter Tryz.func63,Tryz.ntmps63;go_wp2_with fail;clear a0 d14;refine (bareS _ _ _ _ _ _ _ _ _ _ _ _ _ _ _).mono ?_;rintro e w1 ⟨rfl,e1⟩;have V1:=VN.later e1;have Y1:=xt X e1;clear n0;have n1x0:=vC14 V1;rw [hBA];go_wp2_with fail;go_ret;exact ⟨ret_bool HB.out,Y1⟩
    ·have HB:Hid (true=Q):=by show _=_;first | (rw [← HQ.out,HMK.out,hBA,HK0.out,hBO];rfl) | (rw [← HQ.out,HMK.out,hBA,HK0.out];rfl)
     have a0:=vC15 VE;have d14:=(VE2 14 _ rfl).1;have n0:=vC14 VN;go_enter Tryz.func63,Tryz.ntmps63;go_wp2_with fail;clear a0 d14;refine (bareS _ _ _ _ _ _ _ _ _ _ _ _ _ _ _).mono ?_;rintro e w1 ⟨rfl,e1⟩;have V1:=VN.later e1;have Y1:=xt X e1;clear n0;have n1x0:=vC14 V1;rw [hBA];go_wp2_with fail;go_ret;exact ⟨ret_bool HB.out,Y1⟩
   ·have HK0:Hid (decide (kk=0)=false):=decide_eq_false q;have gK0:((kk:Int) == 0)=false:=(by simp;omega);clear q;have HB:Hid (false=Q):=by show _=_;first | (rw [← HQ.out,HMK.out,hBA,HK0.out];rfl) | (rw [← HQ.out,HMK.out,hBA];rfl)
    have a0:=vC15 VE;have d14:=(VE2 14 _ rfl).1;have n0:=vC14 VN;go_enter Tryz.func63,Tryz.ntmps63;go_wp2_with fail;clear a0 d14;refine (bareS _ _ _ _ _ _ _ _ _ _ _ _ _ _ _).mono ?_;rintro e w1 ⟨rfl,e1⟩;have V1:=VN.later e1;have Y1:=xt X e1;clear n0;have n1x0:=vC14 V1;rw [hBA];go_wp2_with fail;go_ret;exact ⟨ret_bool HB.out,Y1⟩
 ·have HMK:Hid (decide (m=(kk:Int))=false):=decide_eq_false q;have gMK:(m != (kk:Int))=true:=by simpa using q
  have HB:Hid (false=Q):=by show _=_;first | (rw [← HQ.out,HMK.out];rfl) | (rw [← HQ.out];rfl)
  have a0:=vC15 VE;have d14:=(VE2 14 _ rfl).1;have n0:=vC14 VN;go_enter Tryz.func63,Tryz.ntmps63;go_wp2_with fail;clear a0 d14;go_ret;exact ⟨ret_bool HB.out,X⟩
end Go.Proofs.YtogecaajnjcenaaGreatDoor

