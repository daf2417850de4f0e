/-
  Several texts in one: Ft5, Ft6.
-/
import Derived.Test.YtogecaajnjcenaaGreatDoorMg16
namespace Go.Proofs.YtogecaajnjcenaaGreatDoor
open Go.RowKit
set_option maxRecDepth 8000 in
set_option maxHeartbeats 2000000 in
theorem rightS7 (t:List UInt8) (neg:Bool) (d:Int) (x:Int) (r:Int) (c:Int) (rf:Bool) (cf:Bool) (r2:Int) (c2:Int) (rf2:Bool) (cf2:Bool) (m:Int) (p:Option Addr) (kk cap:Nat) (many:Bool) (w:World) (hl:t.length≤1048576) :
  Calls Tryz.prog 63 #[exV 7 t neg d x r c rf cf r2 c2 rf2 cf2 m (.slice p kk cap),.bool many] w fun e w'=>e=.returned (.bool (decide (m=(kk:Int)) && (zeroDN neg d x && zeroRN r c rf cf && zeroRN r2 c2 rf2 cf2) && decide (kk=0) && nameB t))∧Ext w w':=by
 have hU:True:=by have _:=hl;trivial
 clear hU;obtain ⟨Q,hQ⟩:∃ Q,(decide (m=(kk:Int)) && (zeroDN neg d x && zeroRN r c rf cf && zeroRN r2 c2 rf2 cf2) && decide (kk=0) && nameB t)=Q:=⟨_,rfl⟩;have HQ:Hid _:=hQ;rw [hQ];clear hQ;obtain ⟨wa,ha,X1,VE,-⟩:=boxed w [.int .i64 7,sV t,.bool neg,.int .i64 d,.int .i64 x,.int .i64 r,.int .i64 c,.bool rf,.bool cf,.int .i64 r2,.int .i64 c2,.bool rf2,.bool cf2,.int .i64 m,.slice p kk cap] 55;obtain ⟨wb,hb,X2,VN,-⟩:=boxed wa [.int .i64 7,sV t,.bool neg,.int .i64 d,.int .i64 x,.int .i64 r,.int .i64 c,.bool rf,.bool cf,.int .i64 r2,.int .i64 c2,.bool rf2,.bool cf2,.int .i64 m] 43;have sa:wa.heap.size=w.heap.size+1:=by rw [← ha,World.size_alloc]
 rw [sa] at VN;have VE2:=VE.later X2;have X:=xt X1 X2;clear X1 X2;by_cases q:m=(kk:Int)
 ·have HMK:Hid (decide (m=(kk:Int))=true):=decide_eq_true q;have gMK:(m != (kk:Int))=false:=by simp [q]
  clear q;cases hBA:(zeroDN neg d x && zeroRN r c rf cf && zeroRN r2 c2 rf2 cf2)
  ·have HB:Hid (false=Q):=by show _=_;first | (rw [← HQ.out,HMK.out,hBA];rfl) | (rw [← HQ.out,HMK.out];rfl)
   have a0:=vC15 VE;have d14:=(VE2 14 _ rfl).1;have n0:=vC14 VN;go_enter Tryz.func63,Tryz.ntmps63;go_wp2_with fail;clear a0 d14;refine (bareS _ _ _ _ _ _ _ _ _ _ _ _ _ _ _).mono ?_;rintro e w1 ⟨rfl,e1⟩;have V1:=VN.later e1;have Y1:=xt X e1;clear n0;have n1x0:=vC14 V1;rw [hBA];go_wp2_with fail;go_ret;exact ⟨ret_bool HB.out,Y1⟩
  ·by_cases q:kk=0
   ·have HK0:Hid (decide (kk=0)=true):=decide_eq_true q;have gK0:((kk:Int) == 0)=true:=(by simp [q]);clear q;cases hNA:nameB t
    ·have HB:Hid (false=Q):=by show _=_;first | (rw [← HQ.out,HMK.out,hBA,HK0.out,hNA];rfl) | (rw [← HQ.out,HMK.out,hBA,HK0.out];rfl)
     have a0:=vC15 VE;have d14:=(VE2 14 _ rfl).1;have n0:=vC14 VN;go_enter Tryz.func63,Tryz.ntmps63;go_wp2_with fail;clear a0 d14;refine (bareS _ _ _ _ _ _ _ _ _ _ _ _ _ _ _).mono ?_;rintro e w1 ⟨rfl,e1⟩;have V1:=VN.later e1;have Y1:=xt X e1;clear n0;have n1x0:=vC14 V1;rw [hBA];go_wp2_with fail;refine (nameS t _ hl).mono ?_;rintro e w2 ⟨rfl,e2⟩;have V2:=V1.later e2;have Y2:=xt Y1 e2;clear n1x0;have n2x0:=vC14 V2;rw [hNA];go_wp2_with fail;go_ret;exact ⟨ret_bool HB.out,Y2⟩
    ·have HB:Hid (true=Q):=by show _=_;first | (rw [← HQ.out,HMK.out,hBA,HK0.out,hNA];rfl) | (rw [← HQ.out,HMK.out,hBA,HK0.out];rfl)
     have a0:=vC15 VE;have d14:=(VE2 14 _ rfl).1;have n0:=vC14 VN;go_enter Tryz.func63,Tryz.ntmps63;go_wp2_with fail;clear a0 d14;refine (bareS _ _ _ _ _ _ _ _ _ _ _ _ _ _ _).mono ?_;rintro e w1 ⟨rfl,e1⟩;have V1:=VN.later e1;have Y1:=xt X e1;clear n0;have n1x0:=vC14 V1;rw [hBA];go_wp2_with fail;refine (nameS t _ hl).mono ?_;rintro e w2 ⟨rfl,e2⟩;have V2:=V1.later e2;have Y2:=xt Y1 e2;clear n1x0;have n2x0:=vC14 V2;rw [hNA];go_wp2_with fail;go_ret;exact ⟨ret_bool HB.out,Y2⟩
   ·have HK0:Hid (decide (kk=0)=false):=decide_eq_false q;have gK0:((kk:Int) == 0)=false:=(by simp;omega);clear q;have HB:Hid (false=Q):=by show _=_;first | (rw [← HQ.out,HMK.out,hBA,HK0.out];rfl) | (rw [← HQ.out,HMK.out,hBA];rfl)
    have a0:=vC15 VE;have d14:=(VE2 14 _ rfl).1;have n0:=vC14 VN;go_enter Tryz.func63,Tryz.ntmps63;go_wp2_with fail;clear a0 d14;refine (bareS _ _ _ _ _ _ _ _ _ _ _ _ _ _ _).mono ?_;rintro e w1 ⟨rfl,e1⟩;have V1:=VN.later e1;have Y1:=xt X e1;clear n0;have n1x0:=vC14 V1;rw [hBA];go_wp2_with fail;go_ret;exact ⟨ret_bool HB.out,Y1⟩
 ·have HMK:Hid (decide (m=(kk:Int))=false):=decide_eq_false q;have gMK:(m != (kk:Int))=true:=by simpa using q
  have HB:Hid (false=Q):=by show _=_;first | (rw [← HQ.out,HMK.out];rfl) | (rw [← HQ.out];rfl)
  have a0:=vC15 VE;have d14:=(VE2 14 _ rfl).1;have n0:=vC14 VN;go_enter Tryz.func63,Tryz.ntmps63;go_wp2_with fail;clear a0 d14;go_ret;exact ⟨ret_bool HB.out,X⟩
set_option maxRecDepth 8000 in
set_option maxHeartbeats 2000000 in
theorem rightS13 (t:List UInt8) (neg:Bool) (d:Int) (x:Int) (r:Int) (c:Int) (rf:Bool) (cf:Bool) (r2:Int) (c2:Int) (rf2:Bool) (cf2:Bool) (m:Int) (p:Option Addr) (kk cap:Nat) (many:Bool) (w:World) (hl:t.length≤1048576) :
  Calls Tryz.prog 63 #[exV 13 t neg d x r c rf cf r2 c2 rf2 cf2 m (.slice p kk cap),.bool many] w fun e w'=>e=.returned (.bool (decide (m=(kk:Int)) && (zeroDN neg d x && zeroRN r c rf cf && zeroRN r2 c2 rf2 cf2) && decide (kk=0) && (t == []) && many))∧Ext w w':=by
 have hU:True:=by have _:=hl;trivial
 clear hU;obtain ⟨Q,hQ⟩:∃ Q,(decide (m=(kk:Int)) && (zeroDN neg d x && zeroRN r c rf cf && zeroRN r2 c2 rf2 cf2) && decide (kk=0) && (t == []) && many)=Q:=⟨_,rfl⟩;have HQ:Hid _:=hQ;rw [hQ];clear hQ;obtain ⟨wa,ha,X1,VE,-⟩:=boxed w [.int .i64 13,sV t,.bool neg,.int .i64 d,.int .i64 x,.int .i64 r,.int .i64 c,.bool rf,.bool cf,.int .i64 r2,.int .i64 c2,.bool rf2,.bool cf2,.int .i64 m,.slice p kk cap] 55;obtain ⟨wb,hb,X2,VN,-⟩:=boxed wa [.int .i64 13,sV t,.bool neg,.int .i64 d,.int .i64 x,.int .i64 r,.int .i64 c,.bool rf,.bool cf,.int .i64 r2,.int .i64 c2,.bool rf2,.bool cf2,.int .i64 m] 43;have sa:wa.heap.size=w.heap.size+1:=by rw [← ha,World.size_alloc]
 rw [sa] at VN;have VE2:=VE.later X2;have X:=xt X1 X2;clear X1 X2;by_cases q:m=(kk:Int)
 ·have HMK:Hid (decide (m=(kk:Int))=true):=decide_eq_true q;have gMK:(m != (kk:Int))=false:=by simp [q]
  clear q;cases hBA:(zeroDN neg d x && zeroRN r c rf cf && zeroRN r2 c2 rf2 cf2)
  ·have HB:Hid (false=Q):=by show _=_;first | (rw [← HQ.out,HMK.out,hBA];rfl) | (rw [← HQ.out,HMK.out];rfl)
   have a0:=vC15 VE;have d14:=(VE2 14 _ rfl).1;have n0:=vC14 VN;go_enter Tryz.func63,Tryz.ntmps63;go_wp2_with fail;clear a0 d14;refine (bareS _ _ _ _ _ _ _ _ _ _ _ _ _ _ _).mono ?_;rintro e w1 ⟨rfl,e1⟩;have V1:=VN.later e1;have Y1:=xt X e1;clear n0;have n1x0:=vC14 V1;rw [hBA];go_wp2_with fail;go_ret;exact ⟨ret_bool HB.out,Y1⟩
  ·by_cases q:kk=0
   ·have HK0:Hid (decide (kk=0)=true):=decide_eq_true q;have gK0:((kk:Int) == 0)=true:=(by simp [q]);clear q;cases hT0:(t == [])
    ·have HB:Hid (false=Q):=by show _=_;first | (rw [← HQ.out,HMK.out,hBA,HK0.out,hT0];rfl) | (rw [← HQ.out,HMK.out,hBA,HK0.out];rfl)
     have a0:=vC15 VE;have d14:=(VE2 14 _ rfl).1;have n0:=vC14 VN;go_enter Tryz.func63,Tryz.ntmps63;go_wp2_with fail;clear a0 d14;refine (bareS _ _ _ _ _ _ _ _ _ _ _ _ _ _ _).mono ?_;rintro e w1 ⟨rfl,e1⟩;have V1:=VN.later e1;have Y1:=xt X e1;clear n0;have n1x0:=vC14 V1;rw [hBA];go_wp2_with fail;go_ret;exact ⟨ret_bool HB.out,Y1⟩
    ·cases many
     ·have HB:Hid (false=Q):=by show _=_;first | (rw [← HQ.out,HMK.out,hBA,HK0.out,hT0];rfl) | (rw [← HQ.out,HMK.out,hBA,HK0.out];rfl)
      have a0:=vC15 VE;have d14:=(VE2 14 _ rfl).1;have n0:=vC14 VN;go_enter Tryz.func63,Tryz.ntmps63;go_wp2_with fail;clear a0 d14;refine (bareS _ _ _ _ _ _ _ _ _ _ _ _ _ _ _).mono ?_;rintro e w1 ⟨rfl,e1⟩;have V1:=VN.later e1;have Y1:=xt X e1;clear n0;have n1x0:=vC14 V1;rw [hBA];go_wp2_with fail;go_ret;exact ⟨ret_bool HB.out,Y1⟩
     ·have HB:Hid (true=Q):=by show _=_;first | (rw [← HQ.out,HMK.out,hBA,HK0.out,hT0];rfl) | (rw [← HQ.out,HMK.out,hBA,HK0.out];rfl)
      have a0:=vC15 VE;have d14:=(VE2 14 _ rfl).1;have n0:=vC14 VN;go_enter Tryz.func63,Tryz.ntmps63;go_wp2_with fail;clear a0 d14;refine (bareS _ _ _ _ _ _ _ _ _ _ _ _ _ _ _).mono ?_;rintro e w1 ⟨rfl,e1⟩;have V1:=VN.later e1;have Y1:=xt X e1;clear n0;have n1x0:=vC14 V1;rw [hBA];go_wp2_with fail;go_ret;exact ⟨ret_bool HB.out,Y1⟩
   ·have HK0:Hid (decide (kk=0)=false):=decide_eq_false q;have gK0:((kk:Int) == 0)=false:=(by simp;omega);clear q;have HB:Hid (false=Q):=by show _=_;first | (rw [← HQ.out,HMK.out,hBA,HK0.out];rfl) | (rw [← HQ.out,HMK.out,hBA];rfl)
    have a0:=vC15 VE;have d14:=(VE2 14 _ rfl).1;have n0:=vC14 VN;go_enter Tryz.func63,Tryz.ntmps63;go_wp2_with fail;clear a0 d14;refine (bareS _ _ _ _ _ _ _ _ _ _ _ _ _ _ _).mono ?_;rintro e w1 ⟨rfl,e1⟩;have V1:=VN.later e1;have Y1:=xt X e1;clear n0;have n1x0:=vC14 V1;rw [hBA];go_wp2_with fail;go_ret;exact ⟨ret_bool HB.out,Y1⟩
 ·have HMK:Hid (decide (m=(kk:Int))=false):=decide_eq_false q;have gMK:(m != (kk:Int))=true:=by simpa using q
  have HB:Hid (false=Q):=by show _=_;first | (rw [← HQ.out,HMK.out];rfl) | (rw [← HQ.out];rfl)
  have a0:=vC15 VE;have d14:=(VE2 14 _ rfl).1;have n0:=vC14 VN;go_enter Tryz.func63,Tryz.ntmps63;go_wp2_with fail;clear a0 d14;go_ret;exact ⟨ret_bool HB.out,X⟩
set_option maxRecDepth 8000 in
set_option maxHeartbeats 2000000 in
theorem rightS8 (t:List UInt8) (neg:Bool) (d:Int) (x:Int) (r:Int) (c:Int) (rf:Bool) (cf:Bool) (r2:Int) (c2:Int) (rf2:Bool) (cf2:Bool) (m:Int) (p:Option Addr) (kk cap:Nat) (many:Bool) (w:World) (hl:t.length≤1048576) :
  Calls Tryz.prog 63 #[exV 8 t neg d x r c rf cf r2 c2 rf2 cf2 m (.slice p kk cap),.bool many] w fun e w'=>e=.returned (.bool (decide (m=(kk:Int)) && (zeroDN neg d x && zeroRN r c rf cf && zeroRN r2 c2 rf2 cf2) && decide (kk=1) && (t == [])))∧Ext w w':=by
 have hU:True:=by have _:=hl;trivial
 clear hU;obtain ⟨Q,hQ⟩:∃ Q,(decide (m=(kk:Int)) && (zeroDN neg d x && zeroRN r c rf cf && zeroRN r2 c2 rf2 cf2) && decide (kk=1) && (t == []))=Q:=⟨_,rfl⟩;have HQ:Hid _:=hQ;rw [hQ];clear hQ;obtain ⟨wa,ha,X1,VE,-⟩:=boxed w [.int .i64 8,sV t,.bool neg,.int .i64 d,.int .i64 x,.int .i64 r,.int .i64 c,.bool rf,.bool cf,.int .i64 r2,.int .i64 c2,.bool rf2,.bool cf2,.int .i64 m,.slice p kk cap] 55;obtain ⟨wb,hb,X2,VN,-⟩:=boxed wa [.int .i64 8,sV t,.bool neg,.int .i64 d,.int .i64 x,.int .i64 r,.int .i64 c,.bool rf,.bool cf,.int .i64 r2,.int .i64 c2,.bool rf2,.bool cf2,.int .i64 m] 43;have sa:wa.heap.size=w.heap.size+1:=by rw [← ha,World.size_alloc]
 rw [sa] at VN;have VE2:=VE.later X2;have X:=xt X1 X2;clear X1 X2;by_cases q:m=(kk:Int)
 ·have HMK:Hid (decide (m=(kk:Int))=true):=decide_eq_true q;have gMK:(m != (kk:Int))=false:=by simp [q]
  clear q;cases hBA:(zeroDN neg d x && zeroRN r c rf cf && zeroRN r2 c2 rf2 cf2)
  ·have HB:Hid (false=Q):=by show _=_;first | (rw [← HQ.out,HMK.out,hBA];rfl) | (rw [← HQ.out,HMK.out];rfl)
   have a0:=vC15 VE;have d14:=(VE2 14 _ rfl).1;have n0:=vC14 VN;go_enter Tryz.func63,Tryz.ntmps63;go_wp2_with fail;clear a0 d14;refine (bareS _ _ _ _ _ _ _ _ _ _ _ _ _ _ _).mono ?_;rintro e w1 ⟨rfl,e1⟩;have V1:=VN.later e1;have Y1:=xt X e1;clear n0;have n1x0:=vC14 V1;rw [hBA];go_wp2_with fail;go_ret;exact ⟨ret_bool HB.out,Y1⟩
  ·by_cases q:kk=1
   ·have HK1:Hid (decide (kk=1)=true):=decide_eq_true q;have gK1:((kk:Int) == 1)=true:=(by simp [q]);clear q;cases hT0:(t == [])
    ·have HB:Hid (false=Q):=by show _=_;first | (rw [← HQ.out,HMK.out,hBA,HK1.out,hT0];rfl) | (rw [← HQ.out,HMK.out,hBA,HK1.out];rfl)
     have a0:=vC15 VE;have d14:=(VE2 14 _ rfl).1;have n0:=vC14 VN;go_enter Tryz.func63,Tryz.ntmps63;go_wp2_with fail;clear a0 d14;refine (bareS _ _ _ _ _ _ _ _ _ _ _ _ _ _ _).mono ?_;rintro e w1 ⟨rfl,e1⟩;have V1:=VN.later e1;have Y1:=xt X e1;clear n0;have n1x0:=vC14 V1;rw [hBA];go_wp2_with fail;go_ret;exact ⟨ret_bool HB.out,Y1⟩
    ·have HB:Hid (true=Q):=by show _=_;first | (rw [← HQ.out,HMK.out,hBA,HK1.out,hT0];rfl) | (rw [← HQ.out,HMK.out,hBA,HK1.out];rfl)
     have a0:=vC15 VE;have d14:=(VE2 14 _ rfl).1;have n0:=vC14 VN;go_enter Tryz.func63,Tryz.ntmps63;go_wp2_with fail;clear a0 d14;refine (bareS _ _ _ _ _ _ _ _ _ _ _ _ _ _ _).mono ?_;rintro e w1 ⟨rfl,e1⟩;have V1:=VN.later e1;have Y1:=xt X e1;clear n0;have n1x0:=vC14 V1;rw [hBA];go_wp2_with fail;go_ret;exact ⟨ret_bool HB.out,Y1⟩
   ·have HK1:Hid (decide (kk=1)=false):=decide_eq_false q;have gK1:((kk:Int) == 1)=false:=(by simp;omega);clear q;have HB:Hid (false=Q):=by show _=_;first | (rw [← HQ.out,HMK.out,hBA,HK1.out];rfl) | (rw [← HQ.out,HMK.out,hBA];rfl)
    have a0:=vC15 VE;have d14:=(VE2 14 _ rfl).1;have n0:=vC14 VN;go_enter Tryz.func63,Tryz.ntmps63;go_wp2_with fail;clear a0 d14;refine (bareS _ _ _ _ _ _ _ _ _ _ _ _ _ _ _).mono ?_;rintro e w1 ⟨rfl,e1⟩;have V1:=VN.later e1;have Y1:=xt X e1;clear n0;have n1x0:=vC14 V1;rw [hBA];go_wp2_with fail;go_ret;exact ⟨ret_bool HB.out,Y1⟩
 ·have HMK:Hid (decide (m=(kk:Int))=false):=decide_eq_false q;have gMK:(m != (kk:Int))=true:=by simpa using q
  have HB:Hid (false=Q):=by show _=_;first | (rw [← HQ.out,HMK.out];rfl) | (rw [← HQ.out];rfl)
  have a0:=vC15 VE;have d14:=(VE2 14 _ rfl).1;have n0:=vC14 VN;go_enter Tryz.func63,Tryz.ntmps63;go_wp2_with fail;clear a0 d14;go_ret;exact ⟨ret_bool HB.out,X⟩
set_option maxRecDepth 8000 in
set_option maxHeartbeats 2000000 in
theorem rightS9 (t:List UInt8) (neg:Bool) (d:Int) (x:Int) (r:Int) (c:Int) (rf:Bool) (cf:Bool) (r2:Int) (c2:Int) (rf2:Bool) (cf2:Bool) (m:Int) (p:Option Addr) (kk cap:Nat) (many:Bool) (w:World) (hl:t.length≤1048576) :
  Calls Tryz.prog 63 #[exV 9 t neg d x r c rf cf r2 c2 rf2 cf2 m (.slice p kk cap),.bool many] w fun e w'=>e=.returned (.bool (decide (m=(kk:Int)) && (zeroDN neg d x && zeroRN r c rf cf && zeroRN r2 c2 rf2 cf2) && decide (kk=1) && (t == [])))∧Ext w w':=by
 have hU:True:=by have _:=hl;trivial
 clear hU;obtain ⟨Q,hQ⟩:∃ Q,(decide (m=(kk:Int)) && (zeroDN neg d x && zeroRN r c rf cf && zeroRN r2 c2 rf2 cf2) && decide (kk=1) && (t == []))=Q:=⟨_,rfl⟩;have HQ:Hid _:=hQ;rw [hQ];clear hQ;obtain ⟨wa,ha,X1,VE,-⟩:=boxed w [.int .i64 9,sV t,.bool neg,.int .i64 d,.int .i64 x,.int .i64 r,.int .i64 c,.bool rf,.bool cf,.int .i64 r2,.int .i64 c2,.bool rf2,.bool cf2,.int .i64 m,.slice p kk cap] 55;obtain ⟨wb,hb,X2,VN,-⟩:=boxed wa [.int .i64 9,sV t,.bool neg,.int .i64 d,.int .i64 x,.int .i64 r,.int .i64 c,.bool rf,.bool cf,.int .i64 r2,.int .i64 c2,.bool rf2,.bool cf2,.int .i64 m] 43;have sa:wa.heap.size=w.heap.size+1:=by rw [← ha,World.size_alloc]
 rw [sa] at VN;have VE2:=VE.later X2;have X:=xt X1 X2;clear X1 X2;by_cases q:m=(kk:Int)
 ·have HMK:Hid (decide (m=(kk:Int))=true):=decide_eq_true q;have gMK:(m != (kk:Int))=false:=by simp [q]
  clear q;cases hBA:(zeroDN neg d x && zeroRN r c rf cf && zeroRN r2 c2 rf2 cf2)
  ·have HB:Hid (false=Q):=by show _=_;first | (rw [← HQ.out,HMK.out,hBA];rfl) | (rw [← HQ.out,HMK.out];rfl)
   have a0:=vC15 VE;have d14:=(VE2 14 _ rfl).1;have n0:=vC14 VN;go_enter Tryz.func63,Tryz.ntmps63;go_wp2_with fail;clear a0 d14;refine (bareS _ _ _ _ _ _ _ _ _ _ _ _ _ _ _).mono ?_;rintro e w1 ⟨rfl,e1⟩;have V1:=VN.later e1;have Y1:=xt X e1;clear n0;have n1x0:=vC14 V1;rw [hBA];go_wp2_with fail;go_ret;exact ⟨ret_bool HB.out,Y1⟩
  ·by_cases q:kk=1
   ·have HK1:Hid (decide (kk=1)=true):=decide_eq_true q;have gK1:((kk:Int) == 1)=true:=(by simp [q]);clear q;cases hT0:(t == [])
    ·have HB:Hid (false=Q):=by show _=_;first | (rw [← HQ.out,HMK.out,hBA,HK1.out,hT0];rfl) | (rw [← HQ.out,HMK.out,hBA,HK1.out];rfl)
     have a0:=vC15 VE;have d14:=(VE2 14 _ rfl).1;have n0:=vC14 VN;go_enter Tryz.func63,Tryz.ntmps63;go_wp2_with fail;clear a0 d14;refine (bareS _ _ _ _ _ _ _ _ _ _ _ _ _ _ _).mono ?_;rintro e w1 ⟨rfl,e1⟩;have V1:=VN.later e1;have Y1:=xt X e1;clear n0;have n1x0:=vC14 V1;rw [hBA];go_wp2_with fail;go_ret;exact ⟨ret_bool HB.out,Y1⟩
    ·have HB:Hid (true=Q):=by show _=_;first | (rw [← HQ.out,HMK.out,hBA,HK1.out,hT0];rfl) | (rw [← HQ.out,HMK.out,hBA,HK1.out];rfl)
     have a0:=vC15 VE;have d14:=(VE2 14 _ rfl).1;have n0:=vC14 VN;go_enter Tryz.func63,Tryz.ntmps63;go_wp2_with fail;clear a0 d14;refine (bareS _ _ _ _ _ _ _ _ _ _ _ _ _ _ _).mono ?_;rintro e w1 ⟨rfl,e1⟩;have V1:=VN.later e1;have Y1:=xt X e1;clear n0;have n1x0:=vC14 V1;rw [hBA];go_wp2_with fail;go_ret;exact ⟨ret_bool HB.out,Y1⟩
   ·have HK1:Hid (decide (kk=1)=false):=decide_eq_false q;have gK1:((kk:Int) == 1)=false:=(by simp;omega);clear q;have HB:Hid (false=Q):=by show _=_;first | (rw [← HQ.out,HMK.out,hBA,HK1.out];rfl) | (rw [← HQ.out,HMK.out,hBA];rfl)
    have a0:=vC15 VE;have d14:=(VE2 14 _ rfl).1;have n0:=vC14 VN;go_enter Tryz.func63,Tryz.ntmps63;go_wp2_with fail;clear a0 d14;refine (bareS _ _ _ _ _ _ _ _ _ _ _ _ _ _ _).mono ?_;rintro e w1 ⟨rfl,e1⟩;have V1:=VN.later e1;have Y1:=xt X e1;clear n0;have n1x0:=vC14 V1;rw [hBA];go_wp2_with fail;go_ret;exact ⟨ret_bool HB.out,Y1⟩
 ·have HMK:Hid (decide (m=(kk:Int))=false):=decide_eq_false q;have gMK:(m != (kk:Int))=true:=by simpa using q
  have HB:Hid (false=Q):=by show _=_;first | (rw [← HQ.out,HMK.out];rfl) | (rw [← HQ.out];rfl)
  have a0:=vC15 VE;have d14:=(VE2 14 _ rfl).1;have n0:=vC14 VN;go_enter Tryz.func63,Tryz.ntmps63;go_wp2_with fail;clear a0 d14;go_ret;exact ⟨ret_bool HB.out,X⟩
end Go.Proofs.YtogecaajnjcenaaGreatDoor

