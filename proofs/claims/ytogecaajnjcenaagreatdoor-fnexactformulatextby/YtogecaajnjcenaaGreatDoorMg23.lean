/-
  Several texts in one: Fq3, Fq4.
-/
import Derived.Test.YtogecaajnjcenaaGreatDoorMg22
import Derived.Deep.DeepCutAuto
namespace Go.Proofs.YtogecaajnjcenaaGreatDoor
open Go.RowKit
set_option maxRecDepth 8000 in
set_option maxHeartbeats 4000000 in
theorem goodNI8 (t:List UInt8) (neg:Bool) (d:Int) (x:Int) (r:Int) (c:Int) (rf:Bool) (cf:Bool) (r2:Int) (c2:Int) (rf2:Bool) (cf2:Bool) (m:Int) (w:World) (hl:t.length≤1048576) (d1 : -9223372036854775808≤d) (d2:d≤9223372036854775807) (hT:Tens w) (hE:ErrTab w) (hO:OpTab w) (LW:LibW w) (IT:ItoaC w) :
  Calls Tryz.prog 57 #[ndV 8 t neg d x r c rf cf r2 c2 rf2 cf2 m] w fun e w'=>e=.returned (.bool (goodN 8 t neg d x r c rf cf r2 c2 rf2 cf2 m))∧Ext w w':=by
 obtain ⟨Q,hQ⟩:∃ Q,goodN 8 t neg d x r c rf cf r2 c2 rf2 cf2 m=Q:=⟨_,rfl⟩;have HQ:Hid _:=hQ;rw [hQ];clear hQ;obtain ⟨wa,ha,X,VN,-⟩:=boxed w [.int .i64 8,sV t,.bool neg,.int .i64 d,.int .i64 x,.int .i64 r,.int .i64 c,.bool rf,.bool cf,.int .i64 r2,.int .i64 c2,.bool rf2,.bool cf2,.int .i64 m] 43;have TA:=hT.later X;have EA:=hE.later X;have OA:=hO.later X;have LA:=LW.later X;have hU:True:=by have _:=IT;have _:=hl;have _:=d1;have _:=d2;have _:=TA;have _:=EA;have _:=OA;have _:=LA;trivial
 clear hT hE hO LW hU;by_cases he:t=[]∧neg=false∧d=0∧x=0∧r=0∧c=0∧rf=false∧cf=false∧r2=0∧c2=0∧rf2=false∧cf2=false∧m=1
 ·obtain ⟨rfl,rfl,rfl,rfl,rfl,rfl,rfl,rfl,rfl,rfl,rfl,rfl,rfl⟩:=he;go_enter Tryz.func57,Tryz.ntmps57;have CT:=fun W=>toldI 8 [] false 0 0 0 0 false false 0 0 false false 1 W;rw [show toldL 8 [] false 0 0 0 0 false false 0 0 false false 1=[.int .i64 8,sV [],.bool false,.int .i64 0,.int .i64 0,.int .i64 0,.int .i64 0,.bool false,.bool false,.int .i64 0,.int .i64 0,.bool false,.bool false,.int .i64 1] by simp [toldL]] at CT;obtain ⟨a0,a1,a2,a3,a4,a5,a6,a7,a8,a9,a10,a11,a12,a13⟩:=VN.e14;go_wp2_with fail;refine wp_region_quiet_ext rfl (by kernel_rfl) ?_
  repeat (go_big_quiet_step (first | (go_at_call 72;exact quiet_ext (CT _))))
  refine quiet_end fun w1 Y=>?_;obtain ⟨b0,b1,b2,b3,b4,b5,b6,b7,b8,b9,b10,b11,b12,b13⟩:=(VN.later Y).c14;clear CT a0 a1 a2 a3 a4 a5 a6 a7 a8 a9 a10 a11 a12 a13;have HB:Hid ((true)=Q):=by show _=_;rw [← HQ.out];simp [goodN]
  go_wp2_with fail;go_ret;exact ⟨ret_bool HB.out,xt X Y⟩
 ·have HB:Hid (false=Q):=by show _=_;rw [← HQ.out];unfold goodN;rw [if_neg (by decide),if_neg (by decide),if_neg (by decide),if_neg (by decide),if_neg (by decide),if_neg (by decide),if_neg (by decide),if_neg (by decide),if_pos rfl,decide_eq_false he];rfl
  go_enter Tryz.func57,Tryz.ntmps57;have CT:=fun W=>toldI 8 t neg d x r c rf cf r2 c2 rf2 cf2 m W;rw [show toldL 8 t neg d x r c rf cf r2 c2 rf2 cf2 m=[.int .i64 8,sV [],.bool false,.int .i64 0,.int .i64 0,.int .i64 0,.int .i64 0,.bool false,.bool false,.int .i64 0,.int .i64 0,.bool false,.bool false,.int .i64 1] by simp [toldL]] at CT;obtain ⟨a0,a1,a2,a3,a4,a5,a6,a7,a8,a9,a10,a11,a12,a13⟩:=VN.e14;have hne:=fun W=>node_neq 8 t neg d x r c rf cf r2 c2 rf2 cf2 m 8 [] false 0 0 0 0 false false 0 0 false false 1 W;rw [decide_eq_false (by simpa using he)] at hne;go_wp2_with fail;refine wp_region_quiet_ext rfl (by kernel_rfl) ?_
  repeat (go_big_quiet_step (first | (go_at_call 72;exact quiet_ext (CT _))))
  refine quiet_end fun w1 Y=>?_;obtain ⟨b0,b1,b2,b3,b4,b5,b6,b7,b8,b9,b10,b11,b12,b13⟩:=(VN.later Y).c14;clear CT a0 a1 a2 a3 a4 a5 a6 a7 a8 a9 a10 a11 a12 a13 hne;go_wp2_with fail;go_ret;exact ⟨ret_bool HB.out,xt X Y⟩
set_option maxRecDepth 8000 in
set_option maxHeartbeats 4000000 in
theorem goodNI9 (t:List UInt8) (neg:Bool) (d:Int) (x:Int) (r:Int) (c:Int) (rf:Bool) (cf:Bool) (r2:Int) (c2:Int) (rf2:Bool) (cf2:Bool) (m:Int) (w:World) (hl:t.length≤1048576) (d1 : -9223372036854775808≤d) (d2:d≤9223372036854775807) (hT:Tens w) (hE:ErrTab w) (hO:OpTab w) (LW:LibW w) (IT:ItoaC w) :
  Calls Tryz.prog 57 #[ndV 9 t neg d x r c rf cf r2 c2 rf2 cf2 m] w fun e w'=>e=.returned (.bool (goodN 9 t neg d x r c rf cf r2 c2 rf2 cf2 m))∧Ext w w':=by
 obtain ⟨Q,hQ⟩:∃ Q,goodN 9 t neg d x r c rf cf r2 c2 rf2 cf2 m=Q:=⟨_,rfl⟩;have HQ:Hid _:=hQ;rw [hQ];clear hQ;obtain ⟨wa,ha,X,VN,-⟩:=boxed w [.int .i64 9,sV t,.bool neg,.int .i64 d,.int .i64 x,.int .i64 r,.int .i64 c,.bool rf,.bool cf,.int .i64 r2,.int .i64 c2,.bool rf2,.bool cf2,.int .i64 m] 43;have TA:=hT.later X;have EA:=hE.later X;have OA:=hO.later X;have LA:=LW.later X;have hU:True:=by have _:=IT;have _:=hl;have _:=d1;have _:=d2;have _:=TA;have _:=EA;have _:=OA;have _:=LA;trivial
 clear hT hE hO LW hU;by_cases he:t=[]∧neg=false∧d=0∧x=0∧r=0∧c=0∧rf=false∧cf=false∧r2=0∧c2=0∧rf2=false∧cf2=false∧m=1
 ·obtain ⟨rfl,rfl,rfl,rfl,rfl,rfl,rfl,rfl,rfl,rfl,rfl,rfl,rfl⟩:=he;go_enter Tryz.func57,Tryz.ntmps57;have CT:=fun W=>toldI 9 [] false 0 0 0 0 false false 0 0 false false 1 W;rw [show toldL 9 [] false 0 0 0 0 false false 0 0 false false 1=[.int .i64 9,sV [],.bool false,.int .i64 0,.int .i64 0,.int .i64 0,.int .i64 0,.bool false,.bool false,.int .i64 0,.int .i64 0,.bool false,.bool false,.int .i64 1] by simp [toldL]] at CT;obtain ⟨a0,a1,a2,a3,a4,a5,a6,a7,a8,a9,a10,a11,a12,a13⟩:=VN.e14;go_wp2_with fail;refine wp_region_quiet_ext rfl (by kernel_rfl) ?_
  repeat (go_big_quiet_step (first | (go_at_call 72;exact quiet_ext (CT _))))
  refine quiet_end fun w1 Y=>?_;obtain ⟨b0,b1,b2,b3,b4,b5,b6,b7,b8,b9,b10,b11,b12,b13⟩:=(VN.later Y).c14;clear CT a0 a1 a2 a3 a4 a5 a6 a7 a8 a9 a10 a11 a12 a13;have HB:Hid ((true)=Q):=by show _=_;rw [← HQ.out];simp [goodN]
  go_wp2_with fail;go_ret;exact ⟨ret_bool HB.out,xt X Y⟩
 ·have HB:Hid (false=Q):=by show _=_;rw [← HQ.out];unfold goodN;rw [if_neg (by decide),if_neg (by decide),if_neg (by decide),if_neg (by decide),if_neg (by decide),if_neg (by decide),if_neg (by decide),if_neg (by decide),if_neg (by decide),if_pos rfl,decide_eq_false he];rfl
  go_enter Tryz.func57,Tryz.ntmps57;have CT:=fun W=>toldI 9 t neg d x r c rf cf r2 c2 rf2 cf2 m W;rw [show toldL 9 t neg d x r c rf cf r2 c2 rf2 cf2 m=[.int .i64 9,sV [],.bool false,.int .i64 0,.int .i64 0,.int .i64 0,.int .i64 0,.bool false,.bool false,.int .i64 0,.int .i64 0,.bool false,.bool false,.int .i64 1] by simp [toldL]] at CT;obtain ⟨a0,a1,a2,a3,a4,a5,a6,a7,a8,a9,a10,a11,a12,a13⟩:=VN.e14;have hne:=fun W=>node_neq 9 t neg d x r c rf cf r2 c2 rf2 cf2 m 9 [] false 0 0 0 0 false false 0 0 false false 1 W;rw [decide_eq_false (by simpa using he)] at hne;go_wp2_with fail;refine wp_region_quiet_ext rfl (by kernel_rfl) ?_
  repeat (go_big_quiet_step (first | (go_at_call 72;exact quiet_ext (CT _))))
  refine quiet_end fun w1 Y=>?_;obtain ⟨b0,b1,b2,b3,b4,b5,b6,b7,b8,b9,b10,b11,b12,b13⟩:=(VN.later Y).c14;clear CT a0 a1 a2 a3 a4 a5 a6 a7 a8 a9 a10 a11 a12 a13 hne;go_wp2_with fail;go_ret;exact ⟨ret_bool HB.out,xt X Y⟩
set_option maxRecDepth 8000 in
set_option maxHeartbeats 4000000 in
theorem goodNI10 (t:List UInt8) (neg:Bool) (d:Int) (x:Int) (r:Int) (c:Int) (rf:Bool) (cf:Bool) (r2:Int) (c2:Int) (rf2:Bool) (cf2:Bool) (m:Int) (w:World) (hl:t.length≤1048576) (d1 : -9223372036854775808≤d) (d2:d≤9223372036854775807) (hT:Tens w) (hE:ErrTab w) (hO:OpTab w) (LW:LibW w) (IT:ItoaC w) :
  Calls Tryz.prog 57 #[ndV 10 t neg d x r c rf cf r2 c2 rf2 cf2 m] w fun e w'=>e=.returned (.bool (goodN 10 t neg d x r c rf cf r2 c2 rf2 cf2 m))∧Ext w w':=by
 obtain ⟨Q,hQ⟩:∃ Q,goodN 10 t neg d x r c rf cf r2 c2 rf2 cf2 m=Q:=⟨_,rfl⟩;have HQ:Hid _:=hQ;rw [hQ];clear hQ;obtain ⟨wa,ha,X,VN,-⟩:=boxed w [.int .i64 10,sV t,.bool neg,.int .i64 d,.int .i64 x,.int .i64 r,.int .i64 c,.bool rf,.bool cf,.int .i64 r2,.int .i64 c2,.bool rf2,.bool cf2,.int .i64 m] 43;have TA:=hT.later X;have EA:=hE.later X;have OA:=hO.later X;have LA:=LW.later X;have hU:True:=by have _:=IT;have _:=hl;have _:=d1;have _:=d2;have _:=TA;have _:=EA;have _:=OA;have _:=LA;trivial
 clear hT hE hO LW hU;by_cases he:neg=false∧d=0∧x=0∧r=0∧c=0∧rf=false∧cf=false∧r2=0∧c2=0∧rf2=false∧cf2=false∧m=2
 ·obtain ⟨rfl,rfl,rfl,rfl,rfl,rfl,rfl,rfl,rfl,rfl,rfl,rfl⟩:=he;go_enter Tryz.func57,Tryz.ntmps57;have CT:=fun W=>toldI 10 t false 0 0 0 0 false false 0 0 false false 2 W;rw [show toldL 10 t false 0 0 0 0 false false 0 0 false false 2=[.int .i64 10,sV t,.bool false,.int .i64 0,.int .i64 0,.int .i64 0,.int .i64 0,.bool false,.bool false,.int .i64 0,.int .i64 0,.bool false,.bool false,.int .i64 2] by simp [toldL]] at CT;obtain ⟨a0,a1,a2,a3,a4,a5,a6,a7,a8,a9,a10,a11,a12,a13⟩:=VN.e14;go_wp2_with fail;refine wp_region_quiet_ext rfl (by kernel_rfl) ?_
  repeat (go_big_quiet_step (first | (go_at_call 72;exact quiet_ext (CT _))))
  refine quiet_end fun w1 Y=>?_;obtain ⟨b0,b1,b2,b3,b4,b5,b6,b7,b8,b9,b10,b11,b12,b13⟩:=(VN.later Y).c14;clear CT a0 a1 a2 a3 a4 a5 a6 a7 a8 a9 a10 a11 a12 a13;have HB:Hid ((memB opsL t)=Q):=by show _=_;rw [← HQ.out];simp [goodN]
  go_wp2_with fail;refine (opI t w1 (OA.later Y)).mono ?_;rintro e w2 ⟨rfl,e2⟩;go_wp2_with fail;go_ret;exact ⟨ret_bool HB.out,xt (xt X Y) e2⟩
 ·have HB:Hid (false=Q):=by show _=_;rw [← HQ.out];unfold goodN;rw [if_neg (by decide),if_neg (by decide),if_neg (by decide),if_neg (by decide),if_neg (by decide),if_neg (by decide),if_neg (by decide),if_neg (by decide),if_neg (by decide),if_neg (by decide),if_pos rfl,decide_eq_false he];rfl
  go_enter Tryz.func57,Tryz.ntmps57;have CT:=fun W=>toldI 10 t neg d x r c rf cf r2 c2 rf2 cf2 m W;rw [show toldL 10 t neg d x r c rf cf r2 c2 rf2 cf2 m=[.int .i64 10,sV t,.bool false,.int .i64 0,.int .i64 0,.int .i64 0,.int .i64 0,.bool false,.bool false,.int .i64 0,.int .i64 0,.bool false,.bool false,.int .i64 2] by simp [toldL]] at CT;obtain ⟨a0,a1,a2,a3,a4,a5,a6,a7,a8,a9,a10,a11,a12,a13⟩:=VN.e14;have hne:=fun W=>node_neq 10 t neg d x r c rf cf r2 c2 rf2 cf2 m 10 t false 0 0 0 0 false false 0 0 false false 2 W;rw [decide_eq_false (by simpa using he)] at hne;go_wp2_with fail;refine wp_region_quiet_ext rfl (by kernel_rfl) ?_
  repeat (go_big_quiet_step (first | (go_at_call 72;exact quiet_ext (CT _))))
  refine quiet_end fun w1 Y=>?_;obtain ⟨b0,b1,b2,b3,b4,b5,b6,b7,b8,b9,b10,b11,b12,b13⟩:=(VN.later Y).c14;clear CT a0 a1 a2 a3 a4 a5 a6 a7 a8 a9 a10 a11 a12 a13 hne;go_wp2_with fail;go_ret;exact ⟨ret_bool HB.out,xt X Y⟩
set_option maxRecDepth 8000 in
set_option maxHeartbeats 4000000 in
theorem goodNI12 (t:List UInt8) (neg:Bool) (d:Int) (x:Int) (r:Int) (c:Int) (rf:Bool) (cf:Bool) (r2:Int) (c2:Int) (rf2:Bool) (cf2:Bool) (m:Int) (w:World) (hl:t.length≤1048576) (d1 : -9223372036854775808≤d) (d2:d≤9223372036854775807) (hT:Tens w) (hE:ErrTab w) (hO:OpTab w) (LW:LibW w) (IT:ItoaC w) :
  Calls Tryz.prog 57 #[ndV 12 t neg d x r c rf cf r2 c2 rf2 cf2 m] w fun e w'=>e=.returned (.bool (goodN 12 t neg d x r c rf cf r2 c2 rf2 cf2 m))∧Ext w w':=by
 obtain ⟨Q,hQ⟩:∃ Q,goodN 12 t neg d x r c rf cf r2 c2 rf2 cf2 m=Q:=⟨_,rfl⟩;have HQ:Hid _:=hQ;rw [hQ];clear hQ;obtain ⟨wa,ha,X,VN,-⟩:=boxed w [.int .i64 12,sV t,.bool neg,.int .i64 d,.int .i64 x,.int .i64 r,.int .i64 c,.bool rf,.bool cf,.int .i64 r2,.int .i64 c2,.bool rf2,.bool cf2,.int .i64 m] 43;have TA:=hT.later X;have EA:=hE.later X;have OA:=hO.later X;have LA:=LW.later X;have hU:True:=by have _:=IT;have _:=hl;have _:=d1;have _:=d2;have _:=TA;have _:=EA;have _:=OA;have _:=LA;trivial
 clear hT hE hO LW hU;by_cases he:neg=false∧d=0∧x=0∧r=0∧c=0∧rf=false∧cf=false∧r2=0∧c2=0∧rf2=false∧cf2=false
 ·obtain ⟨rfl,rfl,rfl,rfl,rfl,rfl,rfl,rfl,rfl,rfl,rfl⟩:=he;go_enter Tryz.func57,Tryz.ntmps57;have CT:=fun W=>toldI 12 t false 0 0 0 0 false false 0 0 false false m W;rw [show toldL 12 t false 0 0 0 0 false false 0 0 false false m=[.int .i64 12,sV t,.bool false,.int .i64 0,.int .i64 0,.int .i64 0,.int .i64 0,.bool false,.bool false,.int .i64 0,.int .i64 0,.bool false,.bool false,.int .i64 m] by simp [toldL]] at CT;obtain ⟨a0,a1,a2,a3,a4,a5,a6,a7,a8,a9,a10,a11,a12,a13⟩:=VN.e14;go_wp2_with fail;refine wp_region_quiet_ext rfl (by kernel_rfl) ?_
  repeat (go_big_quiet_step (first | (go_at_call 72;exact quiet_ext (CT _))))
  refine quiet_end fun w1 Y=>?_;obtain ⟨b0,b1,b2,b3,b4,b5,b6,b7,b8,b9,b10,b11,b12,b13⟩:=(VN.later Y).c14;clear CT a0 a1 a2 a3 a4 a5 a6 a7 a8 a9 a10 a11 a12 a13;have HB:Hid ((sidesB t m)=Q):=by show _=_;rw [← HQ.out];simp [goodN]
  go_wp2_with fail;refine (sidesI 12 t false 0 0 0 0 false false 0 0 false false m w1 hl (LA.later Y)).mono ?_;rintro e w2 ⟨rfl,e2⟩;go_wp2_with fail;go_ret;exact ⟨ret_bool HB.out,xt (xt X Y) e2⟩
 ·have HB:Hid (false=Q):=by show _=_;rw [← HQ.out];unfold goodN;rw [if_neg (by decide),if_neg (by decide),if_neg (by decide),if_neg (by decide),if_neg (by decide),if_neg (by decide),if_neg (by decide),if_neg (by decide),if_neg (by decide),if_neg (by decide),if_neg (by decide),if_neg (by decide),if_pos rfl,decide_eq_false he];rfl
  go_enter Tryz.func57,Tryz.ntmps57;have CT:=fun W=>toldI 12 t neg d x r c rf cf r2 c2 rf2 cf2 m W;rw [show toldL 12 t neg d x r c rf cf r2 c2 rf2 cf2 m=[.int .i64 12,sV t,.bool false,.int .i64 0,.int .i64 0,.int .i64 0,.int .i64 0,.bool false,.bool false,.int .i64 0,.int .i64 0,.bool false,.bool false,.int .i64 m] by simp [toldL]] at CT;obtain ⟨a0,a1,a2,a3,a4,a5,a6,a7,a8,a9,a10,a11,a12,a13⟩:=VN.e14;have hne:=fun W=>node_neq 12 t neg d x r c rf cf r2 c2 rf2 cf2 m 12 t false 0 0 0 0 false false 0 0 false false m W;rw [decide_eq_false (by simpa using he)] at hne;go_wp2_with fail;refine wp_region_quiet_ext rfl (by kernel_rfl) ?_
  repeat (go_big_quiet_step (first | (go_at_call 72;exact quiet_ext (CT _))))
  refine quiet_end fun w1 Y=>?_;obtain ⟨b0,b1,b2,b3,b4,b5,b6,b7,b8,b9,b10,b11,b12,b13⟩:=(VN.later Y).c14;clear CT a0 a1 a2 a3 a4 a5 a6 a7 a8 a9 a10 a11 a12 a13 hne;go_wp2_with fail;go_ret;exact ⟨ret_bool HB.out,xt X Y⟩
set_option maxRecDepth 8000 in
set_option maxHeartbeats 4000000 in
theorem goodNI11 (t:List UInt8) (neg:Bool) (d:Int) (x:Int) (r:Int) (c:Int) (rf:Bool) (cf:Bool) (r2:Int) (c2:Int) (rf2:Bool) (cf2:Bool) (m:Int) (w:World) (hl:t.length≤1048576) (d1 : -9223372036854775808≤d) (d2:d≤9223372036854775807) (hT:Tens w) (hE:ErrTab w) (hO:OpTab w) (LW:LibW w) (IT:ItoaC w) :
  Calls Tryz.prog 57 #[ndV 11 t neg d x r c rf cf r2 c2 rf2 cf2 m] w fun e w'=>e=.returned (.bool (goodN 11 t neg d x r c rf cf r2 c2 rf2 cf2 m))∧Ext w w':=by
 obtain ⟨Q,hQ⟩:∃ Q,goodN 11 t neg d x r c rf cf r2 c2 rf2 cf2 m=Q:=⟨_,rfl⟩;have HQ:Hid _:=hQ;rw [hQ];clear hQ;obtain ⟨wa,ha,X,VN,-⟩:=boxed w [.int .i64 11,sV t,.bool neg,.int .i64 d,.int .i64 x,.int .i64 r,.int .i64 c,.bool rf,.bool cf,.int .i64 r2,.int .i64 c2,.bool rf2,.bool cf2,.int .i64 m] 43;have TA:=hT.later X;have EA:=hE.later X;have OA:=hO.later X;have LA:=LW.later X;have hU:True:=by have _:=IT;have _:=hl;have _:=d1;have _:=d2;have _:=TA;have _:=EA;have _:=OA;have _:=LA;trivial
 clear hT hE hO LW hU;by_cases he:neg=false∧d=0∧x=0∧r=0∧c=0∧rf=false∧cf=false∧r2=0∧c2=0∧rf2=false∧cf2=false
 ·obtain ⟨rfl,rfl,rfl,rfl,rfl,rfl,rfl,rfl,rfl,rfl,rfl⟩:=he;go_enter Tryz.func57,Tryz.ntmps57;have CT:=fun W=>toldI 11 t false 0 0 0 0 false false 0 0 false false m W;rw [show toldL 11 t false 0 0 0 0 false false 0 0 false false m=[.int .i64 11,sV t,.bool false,.int .i64 0,.int .i64 0,.int .i64 0,.int .i64 0,.bool false,.bool false,.int .i64 0,.int .i64 0,.bool false,.bool false,.int .i64 m] by simp [toldL]] at CT;obtain ⟨a0,a1,a2,a3,a4,a5,a6,a7,a8,a9,a10,a11,a12,a13⟩:=VN.e14;go_wp2_with fail;refine wp_region_quiet_ext rfl (by kernel_rfl) ?_
  repeat (go_big_quiet_step (first | (go_at_call 72;exact quiet_ext (CT _))))
  refine quiet_end fun w1 Y=>?_;obtain ⟨b0,b1,b2,b3,b4,b5,b6,b7,b8,b9,b10,b11,b12,b13⟩:=(VN.later Y).c14;clear CT a0 a1 a2 a3 a4 a5 a6 a7 a8 a9 a10 a11 a12 a13;obtain ⟨g,hg⟩:∃ g,nameB t=g:=⟨_,rfl⟩;obtain ⟨u,hu⟩:∃ u,t.map upC=u:=⟨_,rfl⟩;obtain ⟨p,hp⟩:∃ p,(t == u)=p:=⟨_,rfl⟩;have HB0:Hid ((g && p && (decide (0≤m) && decide (m≤30)))=Q):=by show _=_;rw [← HQ.out];simp [goodN,hg,hu,hp]
  have CN:Hid (∀ W,Ext w1 W→Calls Tryz.prog 77 #[sV t] W fun e w'=>e=.returned (.bool g)∧Ext W w'):=fun W x=>by rw [← hg];exact nameI t W hl (LA.later (xt Y x)) IT (xt X (xt Y x))
  have CC:Hid (∀ W,Calls Tryz.prog 79 #[sV t] W fun e w'=>e=.returned (sV u)∧Ext W w'):=fun W=>by rw [← hu];exact capsI t W (by omega)
  go_upto_region 21 with fail;clear hg hu IT LA OA EA TA hl;cases g
  ·have HB:Hid _:=HB0;have c1:=fun p:ExtW w1=>cell_later p.ext b1;have c13:=fun p:ExtW w1=>cell_later p.ext b13;refine wp_region_quiet_ext rfl (by kernel_rfl) ?_
   repeat (go_big_quiet_step (first | (go_at_call 77;exact quiet_ext (CN.out _ (ExtW.ext _))) | (go_at_call 79;exact quiet_ext (CC.out _))))
   refine quiet_end fun wl X5=>?_;go_wp2_with fail;go_ret;exact ⟨ret_bool HB.out,xt (xt X Y) X5⟩
  ·cases p
   ·have HB:Hid _:=HB0;have c1:=fun p:ExtW w1=>cell_later p.ext b1;have c13:=fun p:ExtW w1=>cell_later p.ext b13;refine wp_region_quiet_ext rfl (by kernel_rfl) ?_
    repeat (go_big_quiet_step (first | (go_at_call 77;exact quiet_ext (CN.out _ (ExtW.ext _))) | (go_at_call 79;exact quiet_ext (CC.out _))))
    refine quiet_end fun wl X5=>?_;go_wp2_with fail;go_ret;exact ⟨ret_bool HB.out,xt (xt X Y) X5⟩
   ·by_cases q1:0≤m
    ·have g1:decide (0≤m)=true:=decide_eq_true q1;by_cases q2:m≤30
     ·have g2:decide (m≤30)=true:=decide_eq_true q2;have HB:Hid (true=Q):=(by show _=_;rw [← HB0.out,g1,g2];rfl);have c1:=fun p:ExtW w1=>cell_later p.ext b1;have c13:=fun p:ExtW w1=>cell_later p.ext b13;refine wp_region_quiet_ext rfl (by kernel_rfl) ?_
      repeat (go_big_quiet_step (first | (go_at_call 77;exact quiet_ext (CN.out _ (ExtW.ext _))) | (go_at_call 79;exact quiet_ext (CC.out _))))
      refine quiet_end fun wl X5=>?_;go_wp2_with fail;go_ret;exact ⟨ret_bool HB.out,xt (xt X Y) X5⟩
     ·have g2:decide (m≤30)=false:=decide_eq_false q2;have HB:Hid (false=Q):=(by show _=_;rw [← HB0.out,g1,g2];rfl);have c1:=fun p:ExtW w1=>cell_later p.ext b1;have c13:=fun p:ExtW w1=>cell_later p.ext b13;refine wp_region_quiet_ext rfl (by kernel_rfl) ?_
      repeat (go_big_quiet_step (first | (go_at_call 77;exact quiet_ext (CN.out _ (ExtW.ext _))) | (go_at_call 79;exact quiet_ext (CC.out _))))
      refine quiet_end fun wl X5=>?_;go_wp2_with fail;go_ret;exact ⟨ret_bool HB.out,xt (xt X Y) X5⟩
    ·have g1:decide (0≤m)=false:=decide_eq_false q1;have HB:Hid (false=Q):=(by show _=_;rw [← HB0.out,g1];rfl);have c1:=fun p:ExtW w1=>cell_later p.ext b1;have c13:=fun p:ExtW w1=>cell_later p.ext b13;refine wp_region_quiet_ext rfl (by kernel_rfl) ?_
     repeat (go_big_quiet_step (first | (go_at_call 77;exact quiet_ext (CN.out _ (ExtW.ext _))) | (go_at_call 79;exact quiet_ext (CC.out _))))
     refine quiet_end fun wl X5=>?_;go_wp2_with fail;go_ret;exact ⟨ret_bool HB.out,xt (xt X Y) X5⟩
 ·have HB:Hid (false=Q):=by show _=_;rw [← HQ.out];unfold goodN;rw [if_neg (by decide),if_neg (by decide),if_neg (by decide),if_neg (by decide),if_neg (by decide),if_neg (by decide),if_neg (by decide),if_neg (by decide),if_neg (by decide),if_neg (by decide),if_neg (by decide),if_pos rfl,decide_eq_false he];rfl
  go_enter Tryz.func57,Tryz.ntmps57;have CT:=fun W=>toldI 11 t neg d x r c rf cf r2 c2 rf2 cf2 m W;rw [show toldL 11 t neg d x r c rf cf r2 c2 rf2 cf2 m=[.int .i64 11,sV t,.bool false,.int .i64 0,.int .i64 0,.int .i64 0,.int .i64 0,.bool false,.bool false,.int .i64 0,.int .i64 0,.bool false,.bool false,.int .i64 m] by simp [toldL]] at CT;obtain ⟨a0,a1,a2,a3,a4,a5,a6,a7,a8,a9,a10,a11,a12,a13⟩:=VN.e14;have hne:=fun W=>node_neq 11 t neg d x r c rf cf r2 c2 rf2 cf2 m 11 t false 0 0 0 0 false false 0 0 false false m W;rw [decide_eq_false (by simpa using he)] at hne;go_wp2_with fail;refine wp_region_quiet_ext rfl (by kernel_rfl) ?_
  repeat (go_big_quiet_step (first | (go_at_call 72;exact quiet_ext (CT _))))
  refine quiet_end fun w1 Y=>?_;obtain ⟨b0,b1,b2,b3,b4,b5,b6,b7,b8,b9,b10,b11,b12,b13⟩:=(VN.later Y).c14;clear CT a0 a1 a2 a3 a4 a5 a6 a7 a8 a9 a10 a11 a12 a13 hne;go_wp2_with fail;go_ret;exact ⟨ret_bool HB.out,xt X Y⟩
end Go.Proofs.YtogecaajnjcenaaGreatDoor

