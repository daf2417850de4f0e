/-
  Chapter 4: a good node, of the program: all kinds.
-/
import Derived.Test.YtnbagcclckekkaaGreatDoorMg24
import Derived.Test.YtnbagcclckekkaaGreatDoorMg25
namespace Go.Proofs.YtnbagcclckekkaaGreatDoor
open Go.RowKit
set_option maxRecDepth 8000 in
set_option maxHeartbeats 4000000 in
theorem goodNI0 (t:List UInt8) (neg:Bool) (d:Int) (x:Int) (r:Int) (c:Int) (rf:Bool) (cf:Bool) (r2:Int) (c2:Int) (rf2:Bool) (cf2:Bool) (m:Int) (w:World) (hl:t.length≤1048576) (d1 : -9223372036854775808≤d) (d2:d≤9223372036854775807) (hT:Tens w) (hE:ErrTab w) (hO:OpTab w) (LW:LibW w) (IT:ItoaC w) :
  Calls Tryz.prog 89 #[ndV 0 t neg d x r c rf cf r2 c2 rf2 cf2 m] w fun e w'=>e=.returned (.bool (goodN 0 t neg d x r c rf cf r2 c2 rf2 cf2 m))∧Ext w w':=by
 obtain ⟨Q,hQ⟩:∃ Q,goodN 0 t neg d x r c rf cf r2 c2 rf2 cf2 m=Q:=⟨_,rfl⟩;have HQ:Hid (goodN 0 t neg d x r c rf cf r2 c2 rf2 cf2 m=Q):=hQ;rw [hQ];clear hQ;have X:=x1 w (.cells #[.int .i64 0,sV t,.bool neg,.int .i64 d,.int .i64 x,.int .i64 r,.int .i64 c,.bool rf,.bool cf,.int .i64 r2,.int .i64 c2,.bool rf2,.bool cf2,.int .i64 m] 59);have VN:=vec_made w [.int .i64 0,sV t,.bool neg,.int .i64 d,.int .i64 x,.int .i64 r,.int .i64 c,.bool rf,.bool cf,.int .i64 r2,.int .i64 c2,.bool rf2,.bool cf2,.int .i64 m] 59;obtain ⟨wa,ha⟩:∃ wa,w.alloc (.cells #[.int .i64 0,sV t,.bool neg,.int .i64 d,.int .i64 x,.int .i64 r,.int .i64 c,.bool rf,.bool cf,.int .i64 r2,.int .i64 c2,.bool rf2,.bool cf2,.int .i64 m] 59)=wa:=⟨_,rfl⟩;change Vec (w.alloc (.cells #[.int .i64 0,sV t,.bool neg,.int .i64 d,.int .i64 x,.int .i64 r,.int .i64 c,.bool rf,.bool cf,.int .i64 r2,.int .i64 c2,.bool rf2,.bool cf2,.int .i64 m] 59)) _ _ at VN;rw [ha] at X VN;have TA:=hT.later X;have EA:=hE.later X;have OA:=hO.later X;have LA:=LW.later X;have hU:True:=by have _:=IT;have _:=hl;have _:=d1;have _:=d2;have _:=TA;have _:=EA;have _:=OA;have _:=LA;trivial
 clear hT hE hO LW hU;by_cases he:t=[]∧neg=false∧d=0∧x=0∧r=0∧c=0∧rf=false∧cf=false∧r2=0∧c2=0∧rf2=false∧cf2=false∧m=0
 ·obtain ⟨rfl,rfl,rfl,rfl,rfl,rfl,rfl,rfl,rfl,rfl,rfl,rfl,rfl⟩:=he;have HB:Hid (false=Q):=by show _=_;rw [← HQ.out];simp [goodN]
  go_enter Tryz.func89,Tryz.ntmps89;have CT:=fun W=>toldI 0 [] false 0 0 0 0 false false 0 0 false false 0 W;rw [show toldL 0 [] false 0 0 0 0 false false 0 0 false false 0=[.int .i64 0,sV [],.bool false,.int .i64 0,.int .i64 0,.int .i64 0,.int .i64 0,.bool false,.bool false,.int .i64 0,.int .i64 0,.bool false,.bool false,.int .i64 0] by simp [toldL]] at CT;obtain ⟨a0,a1,a2,a3,a4,a5,a6,a7,a8,a9,a10,a11,a12,a13⟩:=VN.e14;go_wp2_with fail;refine wp_region_quiet_ext rfl (by kernel_rfl) ?_
  repeat (go_big_quiet_step (first | (go_at_call 57;exact quiet_ext (CT _))))
  refine quiet_end fun w1 Y=>?_;obtain ⟨b0,b1,b2,b3,b4,b5,b6,b7,b8,b9,b10,b11,b12,b13⟩:=(VN.later Y).c14;clear CT a0 a1 a2 a3 a4 a5 a6 a7 a8 a9 a10 a11 a12 a13;go_wp2_with fail;go_ret;exact ⟨ret_bool HB.out,xt X Y⟩
 ·have HB:Hid (false=Q):=by show _=_;rw [← HQ.out];simp [goodN]
  go_enter Tryz.func89,Tryz.ntmps89;have CT:=fun W=>toldI 0 t neg d x r c rf cf r2 c2 rf2 cf2 m W;rw [show toldL 0 t neg d x r c rf cf r2 c2 rf2 cf2 m=[.int .i64 0,sV [],.bool false,.int .i64 0,.int .i64 0,.int .i64 0,.int .i64 0,.bool false,.bool false,.int .i64 0,.int .i64 0,.bool false,.bool false,.int .i64 0] by simp [toldL]] at CT;obtain ⟨a0,a1,a2,a3,a4,a5,a6,a7,a8,a9,a10,a11,a12,a13⟩:=VN.e14;have hne:=fun W=>node_neq 0 t neg d x r c rf cf r2 c2 rf2 cf2 m 0 [] false 0 0 0 0 false false 0 0 false false 0 W;rw [decide_eq_false (by simpa using he)] at hne;go_wp2_with fail;refine wp_region_quiet_ext rfl (by kernel_rfl) ?_
  repeat (go_big_quiet_step (first | (go_at_call 57;exact quiet_ext (CT _))))
  refine quiet_end fun w1 Y=>?_;obtain ⟨b0,b1,b2,b3,b4,b5,b6,b7,b8,b9,b10,b11,b12,b13⟩:=(VN.later Y).c14;clear CT a0 a1 a2 a3 a4 a5 a6 a7 a8 a9 a10 a11 a12 a13 hne;go_wp2_with fail;go_ret;exact ⟨ret_bool HB.out,xt X Y⟩
set_option maxRecDepth 8000 in
set_option maxHeartbeats 4000000 in
theorem goodNIx (k:Int) (t:List UInt8) (neg:Bool) (d:Int) (x:Int) (r:Int) (c:Int) (rf:Bool) (cf:Bool) (r2:Int) (c2:Int) (rf2:Bool) (cf2:Bool) (m:Int) (w:World) (h0:k ≠ 0) (h1:k ≠ 1) (h2:k ≠ 2) (h3:k ≠ 3) (h4:k ≠ 4) (h7:k ≠ 7) (h5:k ≠ 5) (h6:k ≠ 6) (h13:k ≠ 13) (h8:k ≠ 8) (h9:k ≠ 9) (h10:k ≠ 10) (h11:k ≠ 11) (h12:k ≠ 12) :
  Calls Tryz.prog 89 #[ndV k t neg d x r c rf cf r2 c2 rf2 cf2 m] w fun e w'=>e=.returned (.bool false)∧Ext w w':=by
 have X:=x1 w (.cells #[.int .i64 k,sV t,.bool neg,.int .i64 d,.int .i64 x,.int .i64 r,.int .i64 c,.bool rf,.bool cf,.int .i64 r2,.int .i64 c2,.bool rf2,.bool cf2,.int .i64 m] 59);have VN:=vec_made w [.int .i64 k,sV t,.bool neg,.int .i64 d,.int .i64 x,.int .i64 r,.int .i64 c,.bool rf,.bool cf,.int .i64 r2,.int .i64 c2,.bool rf2,.bool cf2,.int .i64 m] 59;obtain ⟨wa,ha⟩:∃ wa,w.alloc (.cells #[.int .i64 k,sV t,.bool neg,.int .i64 d,.int .i64 x,.int .i64 r,.int .i64 c,.bool rf,.bool cf,.int .i64 r2,.int .i64 c2,.bool rf2,.bool cf2,.int .i64 m] 59)=wa:=⟨_,rfl⟩;change Vec (w.alloc (.cells #[.int .i64 k,sV t,.bool neg,.int .i64 d,.int .i64 x,.int .i64 r,.int .i64 c,.bool rf,.bool cf,.int .i64 r2,.int .i64 c2,.bool rf2,.bool cf2,.int .i64 m] 59)) _ _ at VN;rw [ha] at X VN;have CT:=fun W=>toldI k t neg d x r c rf cf r2 c2 rf2 cf2 m W;rw [show toldL k t neg d x r c rf cf r2 c2 rf2 cf2 m=[.int .i64 0,sV [],.bool false,.int .i64 0,.int .i64 0,.int .i64 0,.int .i64 0,.bool false,.bool false,.int .i64 0,.int .i64 0,.bool false,.bool false,.int .i64 0] by simp [toldL,h1,h2,h3,h4,h7,h5,h6,h13,h8,h9,h10,h11,h12]] at CT;obtain ⟨a0,a1,a2,a3,a4,a5,a6,a7,a8,a9,a10,a11,a12,a13⟩:=VN.e14;have hne:=fun W=>node_neq k t neg d x r c rf cf r2 c2 rf2 cf2 m 0 [] false 0 0 0 0 false false 0 0 false false 0 W;rw [decide_eq_false (fun h=>h0 h.1)] at hne;clear h1 h2 h3 h4 h7 h5 h6 h13 h8 h9 h10 h11 h12;go_enter Tryz.func89,Tryz.ntmps89;go_wp2_with fail;refine wp_region_quiet_ext rfl (by kernel_rfl) ?_
 repeat (go_big_quiet_step (first | (go_at_call 57;exact quiet_ext (CT _))))
 refine quiet_end fun w1 Y=>?_;obtain ⟨b0,b1,b2,b3,b4,b5,b6,b7,b8,b9,b10,b11,b12,b13⟩:=(VN.later Y).c14;clear CT hne a0 a1 a2 a3 a4 a5 a6 a7 a8 a9 a10 a11 a12 a13;go_wp2_with fail;go_ret;exact ⟨rfl,xt X Y⟩
theorem goodNI (k:Int) (t:List UInt8) (neg:Bool) (d:Int) (x:Int) (r:Int) (c:Int) (rf:Bool) (cf:Bool) (r2:Int) (c2:Int) (rf2:Bool) (cf2:Bool) (m:Int) (w:World) (hl:t.length≤1048576) (d1 : -9223372036854775808≤d) (d2:d≤9223372036854775807) (hT:Tens w) (hE:ErrTab w) (hO:OpTab w) (LW:LibW w) (IT:ItoaC w) :
  Calls Tryz.prog 89 #[ndV k t neg d x r c rf cf r2 c2 rf2 cf2 m] w fun e w'=>e=.returned (.bool (goodN k t neg d x r c rf cf r2 c2 rf2 cf2 m))∧Ext w w':=by
 by_cases h0:k=0
 ·subst h0;exact goodNI0 t neg d x r c rf cf r2 c2 rf2 cf2 m w hl d1 d2 hT hE hO LW IT
 by_cases h1:k=1
 ·subst h1;exact goodNI1 t neg d x r c rf cf r2 c2 rf2 cf2 m w hl d1 d2 hT hE hO LW IT
 by_cases h2:k=2
 ·subst h2;exact goodNI2 t neg d x r c rf cf r2 c2 rf2 cf2 m w hl d1 d2 hT hE hO LW IT
 by_cases h3:k=3
 ·subst h3;exact goodNI3 t neg d x r c rf cf r2 c2 rf2 cf2 m w hl d1 d2 hT hE hO LW IT
 by_cases h4:k=4
 ·subst h4;exact goodNI4 t neg d x r c rf cf r2 c2 rf2 cf2 m w hl d1 d2 hT hE hO LW IT
 by_cases h7:k=7
 ·subst h7;exact goodNI7 t neg d x r c rf cf r2 c2 rf2 cf2 m w hl d1 d2 hT hE hO LW IT
 by_cases h5:k=5
 ·subst h5;exact goodNI5 t neg d x r c rf cf r2 c2 rf2 cf2 m w hl d1 d2 hT hE hO LW IT
 by_cases h6:k=6
 ·subst h6;exact goodNI6 t neg d x r c rf cf r2 c2 rf2 cf2 m w hl d1 d2 hT hE hO LW IT
 by_cases h13:k=13
 ·subst h13;exact goodNI13 t neg d x r c rf cf r2 c2 rf2 cf2 m w hl d1 d2 hT hE hO LW IT
 by_cases h8:k=8
 ·subst h8;exact goodNI8 t neg d x r c rf cf r2 c2 rf2 cf2 m w hl d1 d2 hT hE hO LW IT
 by_cases h9:k=9
 ·subst h9;exact goodNI9 t neg d x r c rf cf r2 c2 rf2 cf2 m w hl d1 d2 hT hE hO LW IT
 by_cases h10:k=10
 ·subst h10;exact goodNI10 t neg d x r c rf cf r2 c2 rf2 cf2 m w hl d1 d2 hT hE hO LW IT
 by_cases h11:k=11
 ·subst h11;exact goodNI11 t neg d x r c rf cf r2 c2 rf2 cf2 m w hl d1 d2 hT hE hO LW IT
 by_cases h12:k=12
 ·subst h12;exact goodNI12 t neg d x r c rf cf r2 c2 rf2 cf2 m w hl d1 d2 hT hE hO LW IT
 rw [show goodN k t neg d x r c rf cf r2 c2 rf2 cf2 m=false by simp [goodN,h1,h2,h3,h4,h7,h5,h6,h13,h8,h9,h10,h11,h12]];exact goodNIx k t neg d x r c rf cf r2 c2 rf2 cf2 m w h0 h1 h2 h3 h4 h7 h5 h6 h13 h8 h9 h10 h11 h12
end Go.Proofs.YtnbagcclckekkaaGreatDoor

