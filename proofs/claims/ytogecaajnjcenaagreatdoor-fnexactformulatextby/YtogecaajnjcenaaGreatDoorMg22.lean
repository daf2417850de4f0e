/-
  Several texts in one: Fq, Fq1, Fq2.
-/
import Derived.Test.YtogecaajnjcenaaGreatDoorMg20
import Derived.Test.YtogecaajnjcenaaGreatDoorMg16
import Derived.Test.YtogecaajnjcenaaGreatDoorMg21
namespace Go.Proofs.YtogecaajnjcenaaGreatDoor
open Go.RowKit
set_option maxRecDepth 8000 in
set_option maxHeartbeats 2000000 in
theorem node_neq (k:Int) (t:List UInt8) (neg:Bool) (d:Int) (x:Int) (r:Int) (c:Int) (rf:Bool) (cf:Bool) (r2:Int) (c2:Int) (rf2:Bool) (cf2:Bool) (m:Int) (k':Int) (t':List UInt8) (neg':Bool) (d':Int) (x':Int) (r':Int) (c':Int) (rf':Bool) (cf':Bool) (r2':Int) (c2':Int) (rf2':Bool) (cf2':Bool) (m':Int) (W:World) :
  (binOp BinOp.neq 43 (ndV k t neg d x r c rf cf r2 c2 rf2 cf2 m) (ndV k' t' neg' d' x' r' c' rf' cf' r2' c2' rf2' cf2' m')).run Tryz.prog W=.ok (.bool (!(decide (k=k'∧t=t'∧neg=neg'∧d=d'∧x=x'∧r=r'∧c=c'∧rf=rf'∧cf=cf'∧r2=r2'∧c2=c2'∧rf2=rf2'∧cf2=cf2'∧m=m')))) W:=by
 by_cases h:k=k'∧t=t'∧neg=neg'∧d=d'∧x=x'∧r=r'∧c=c'∧rf=rf'∧cf=cf'∧r2=r2'∧c2=c2'∧rf2=rf2'∧cf2=cf2'∧m=m'
 ·obtain ⟨rfl,rfl,rfl,rfl,rfl,rfl,rfl,rfl,rfl,rfl,rfl,rfl,rfl,rfl⟩:=h
  go_simp
 ·rw [decide_eq_false h];have H:Hid _:=h;clear h
  go_simp
  intros
  have:=H.out
  simp_all
noncomputable def goodN (k:Int) (t:List UInt8) (neg:Bool) (d:Int) (x:Int) (r:Int) (c:Int) (rf:Bool) (cf:Bool) (r2:Int) (c2:Int) (rf2:Bool) (cf2:Bool) (m:Int):Bool:=
 if k=1 then decide (t=[]∧r=0∧c=0∧rf=false∧cf=false∧r2=0∧c2=0∧rf2=false∧cf2=false∧m=0) && (goodB neg d x && !neg) else
 if k=2 then decide (neg=false∧d=0∧x=0∧r=0∧c=0∧rf=false∧cf=false∧r2=0∧c2=0∧rf2=false∧cf2=false∧m=0) && (printB t) else
 if k=3 then decide (neg=false∧d=0∧x=0∧r=0∧c=0∧rf=false∧cf=false∧r2=0∧c2=0∧rf2=false∧cf2=false∧m=0) && (boolB t) else
 if k=4 then decide (neg=false∧d=0∧x=0∧r=0∧c=0∧rf=false∧cf=false∧r2=0∧c2=0∧rf2=false∧cf2=false∧m=0) && (memB errL t) else
 if k=7 then decide (neg=false∧d=0∧x=0∧r=0∧c=0∧rf=false∧cf=false∧r2=0∧c2=0∧rf2=false∧cf2=false∧m=0) && (nameB t) else
 if k=5 then decide (t=[]∧neg=false∧d=0∧x=0∧r2=0∧c2=0∧rf2=false∧cf2=false∧m=0) && (goodRB r c) else
 if k=6 then decide (t=[]∧neg=false∧d=0∧x=0∧m=0) && (goodRB r c && goodRB r2 c2) else
 if k=13 then decide (t=[]∧neg=false∧d=0∧x=0∧r=0∧c=0∧rf=false∧cf=false∧r2=0∧c2=0∧rf2=false∧cf2=false∧m=0) && (true) else
 if k=8 then decide (t=[]∧neg=false∧d=0∧x=0∧r=0∧c=0∧rf=false∧cf=false∧r2=0∧c2=0∧rf2=false∧cf2=false∧m=1) && (true) else
 if k=9 then decide (t=[]∧neg=false∧d=0∧x=0∧r=0∧c=0∧rf=false∧cf=false∧r2=0∧c2=0∧rf2=false∧cf2=false∧m=1) && (true) else
 if k=10 then decide (neg=false∧d=0∧x=0∧r=0∧c=0∧rf=false∧cf=false∧r2=0∧c2=0∧rf2=false∧cf2=false∧m=2) && (memB opsL t) else
 if k=11 then decide (neg=false∧d=0∧x=0∧r=0∧c=0∧rf=false∧cf=false∧r2=0∧c2=0∧rf2=false∧cf2=false) && (nameB t && (t == t.map upC) && (decide (0≤m) && decide (m≤30))) else
 if k=12 then decide (neg=false∧d=0∧x=0∧r=0∧c=0∧rf=false∧cf=false∧r2=0∧c2=0∧rf2=false∧cf2=false) && (sidesB t m) else
 false
set_option maxRecDepth 8000 in
set_option maxHeartbeats 4000000 in
theorem goodNI1 (t:List UInt8) (neg:Bool) (d:Int) (x:Int) (r:Int) (c:Int) (rf:Bool) (cf:Bool) (r2:Int) (c2:Int) (rf2:Bool) (cf2:Bool) (m:Int) (w:World) (hl:t.length≤1048576) (d1 : -9223372036854775808≤d) (d2:d≤9223372036854775807) (hT:Tens w) (hE:ErrTab w) (hO:OpTab w) (LW:LibW w) (IT:ItoaC w) :
  Calls Tryz.prog 57 #[ndV 1 t neg d x r c rf cf r2 c2 rf2 cf2 m] w fun e w'=>e=.returned (.bool (goodN 1 t neg d x r c rf cf r2 c2 rf2 cf2 m))∧Ext w w':=by
 obtain ⟨Q,hQ⟩:∃ Q,goodN 1 t neg d x r c rf cf r2 c2 rf2 cf2 m=Q:=⟨_,rfl⟩;have HQ:Hid _:=hQ;rw [hQ];clear hQ;obtain ⟨wa,ha,X,VN,-⟩:=boxed w [.int .i64 1,sV t,.bool neg,.int .i64 d,.int .i64 x,.int .i64 r,.int .i64 c,.bool rf,.bool cf,.int .i64 r2,.int .i64 c2,.bool rf2,.bool cf2,.int .i64 m] 43;have TA:=hT.later X;have EA:=hE.later X;have OA:=hO.later X;have LA:=LW.later X;have hU:True:=by have _:=IT;have _:=hl;have _:=d1;have _:=d2;have _:=TA;have _:=EA;have _:=OA;have _:=LA;trivial
 clear hT hE hO LW hU;by_cases he:t=[]∧r=0∧c=0∧rf=false∧cf=false∧r2=0∧c2=0∧rf2=false∧cf2=false∧m=0
 ·obtain ⟨rfl,rfl,rfl,rfl,rfl,rfl,rfl,rfl,rfl,rfl⟩:=he;go_enter Tryz.func57,Tryz.ntmps57;have CT:=fun W=>toldI 1 [] neg d x 0 0 false false 0 0 false false 0 W;rw [show toldL 1 [] neg d x 0 0 false false 0 0 false false 0=[.int .i64 1,sV [],.bool neg,.int .i64 d,.int .i64 x,.int .i64 0,.int .i64 0,.bool false,.bool false,.int .i64 0,.int .i64 0,.bool false,.bool false,.int .i64 0] by simp [toldL]] at CT;obtain ⟨a0,a1,a2,a3,a4,a5,a6,a7,a8,a9,a10,a11,a12,a13⟩:=VN.e14;go_wp2_with fail;refine wp_region_quiet_ext rfl (by kernel_rfl) ?_
  repeat (go_big_quiet_step (first | (go_at_call 72;exact quiet_ext (CT _))))
  refine quiet_end fun w1 Y=>?_;obtain ⟨b0,b1,b2,b3,b4,b5,b6,b7,b8,b9,b10,b11,b12,b13⟩:=(VN.later Y).c14;clear CT a0 a1 a2 a3 a4 a5 a6 a7 a8 a9 a10 a11 a12 a13;go_wp2_with fail;refine (goodI neg d x w1 d1 d2 (TA.later Y)).mono ?_;rintro e w2 ⟨rfl,e2⟩;obtain ⟨g,hg⟩:∃ g,goodB neg d x=g:=⟨_,rfl⟩;have HB:Hid ((g && !neg)=Q):=by show _=_;rw [← HQ.out];simp [goodN,hg]
  rw [hg];clear hg;have z2:=cell_later e2 b2;cases g
  ·go_wp2_with fail;go_ret;exact ⟨ret_bool HB.out,xt (xt X Y) e2⟩
  ·go_wp2_with fail;go_ret;exact ⟨ret_bool HB.out,xt (xt X Y) e2⟩
 ·have HB:Hid (false=Q):=by show _=_;rw [← HQ.out];unfold goodN;rw [if_pos rfl,decide_eq_false he];rfl
  go_enter Tryz.func57,Tryz.ntmps57;have CT:=fun W=>toldI 1 t neg d x r c rf cf r2 c2 rf2 cf2 m W;rw [show toldL 1 t neg d x r c rf cf r2 c2 rf2 cf2 m=[.int .i64 1,sV [],.bool neg,.int .i64 d,.int .i64 x,.int .i64 0,.int .i64 0,.bool false,.bool false,.int .i64 0,.int .i64 0,.bool false,.bool false,.int .i64 0] by simp [toldL]] at CT;obtain ⟨a0,a1,a2,a3,a4,a5,a6,a7,a8,a9,a10,a11,a12,a13⟩:=VN.e14;have hne:=fun W=>node_neq 1 t neg d x r c rf cf r2 c2 rf2 cf2 m 1 [] neg d x 0 0 false false 0 0 false false 0 W;rw [decide_eq_false (by simpa using he)] at hne;go_wp2_with fail;refine wp_region_quiet_ext rfl (by kernel_rfl) ?_
  repeat (go_big_quiet_step (first | (go_at_call 72;exact quiet_ext (CT _))))
  refine quiet_end fun w1 Y=>?_;obtain ⟨b0,b1,b2,b3,b4,b5,b6,b7,b8,b9,b10,b11,b12,b13⟩:=(VN.later Y).c14;clear CT a0 a1 a2 a3 a4 a5 a6 a7 a8 a9 a10 a11 a12 a13 hne;go_wp2_with fail;go_ret;exact ⟨ret_bool HB.out,xt X Y⟩
set_option maxRecDepth 8000 in
set_option maxHeartbeats 4000000 in
theorem goodNI2 (t:List UInt8) (neg:Bool) (d:Int) (x:Int) (r:Int) (c:Int) (rf:Bool) (cf:Bool) (r2:Int) (c2:Int) (rf2:Bool) (cf2:Bool) (m:Int) (w:World) (hl:t.length≤1048576) (d1 : -9223372036854775808≤d) (d2:d≤9223372036854775807) (hT:Tens w) (hE:ErrTab w) (hO:OpTab w) (LW:LibW w) (IT:ItoaC w) :
  Calls Tryz.prog 57 #[ndV 2 t neg d x r c rf cf r2 c2 rf2 cf2 m] w fun e w'=>e=.returned (.bool (goodN 2 t neg d x r c rf cf r2 c2 rf2 cf2 m))∧Ext w w':=by
 obtain ⟨Q,hQ⟩:∃ Q,goodN 2 t neg d x r c rf cf r2 c2 rf2 cf2 m=Q:=⟨_,rfl⟩;have HQ:Hid _:=hQ;rw [hQ];clear hQ;obtain ⟨wa,ha,X,VN,-⟩:=boxed w [.int .i64 2,sV t,.bool neg,.int .i64 d,.int .i64 x,.int .i64 r,.int .i64 c,.bool rf,.bool cf,.int .i64 r2,.int .i64 c2,.bool rf2,.bool cf2,.int .i64 m] 43;have TA:=hT.later X;have EA:=hE.later X;have OA:=hO.later X;have LA:=LW.later X;have hU:True:=by have _:=IT;have _:=hl;have _:=d1;have _:=d2;have _:=TA;have _:=EA;have _:=OA;have _:=LA;trivial
 clear hT hE hO LW hU;by_cases he:neg=false∧d=0∧x=0∧r=0∧c=0∧rf=false∧cf=false∧r2=0∧c2=0∧rf2=false∧cf2=false∧m=0
 ·obtain ⟨rfl,rfl,rfl,rfl,rfl,rfl,rfl,rfl,rfl,rfl,rfl,rfl⟩:=he;go_enter Tryz.func57,Tryz.ntmps57;have CT:=fun W=>toldI 2 t false 0 0 0 0 false false 0 0 false false 0 W;rw [show toldL 2 t false 0 0 0 0 false false 0 0 false false 0=[.int .i64 2,sV t,.bool false,.int .i64 0,.int .i64 0,.int .i64 0,.int .i64 0,.bool false,.bool false,.int .i64 0,.int .i64 0,.bool false,.bool false,.int .i64 0] by simp [toldL]] at CT;obtain ⟨a0,a1,a2,a3,a4,a5,a6,a7,a8,a9,a10,a11,a12,a13⟩:=VN.e14;go_wp2_with fail;refine wp_region_quiet_ext rfl (by kernel_rfl) ?_
  repeat (go_big_quiet_step (first | (go_at_call 72;exact quiet_ext (CT _))))
  refine quiet_end fun w1 Y=>?_;obtain ⟨b0,b1,b2,b3,b4,b5,b6,b7,b8,b9,b10,b11,b12,b13⟩:=(VN.later Y).c14;clear CT a0 a1 a2 a3 a4 a5 a6 a7 a8 a9 a10 a11 a12 a13;have HB:Hid ((printB t)=Q):=by show _=_;rw [← HQ.out];simp [goodN]
  go_wp2_with fail;refine (quotI t w1 (by omega)).mono ?_;rintro e w2 ⟨rfl,rfl⟩;go_wp2_with fail;go_ret;exact ⟨ret_bool HB.out,xt X Y⟩
 ·have HB:Hid (false=Q):=by show _=_;rw [← HQ.out];unfold goodN;rw [if_neg (by decide),if_pos rfl,decide_eq_false he];rfl
  go_enter Tryz.func57,Tryz.ntmps57;have CT:=fun W=>toldI 2 t neg d x r c rf cf r2 c2 rf2 cf2 m W;rw [show toldL 2 t neg d x r c rf cf r2 c2 rf2 cf2 m=[.int .i64 2,sV t,.bool false,.int .i64 0,.int .i64 0,.int .i64 0,.int .i64 0,.bool false,.bool false,.int .i64 0,.int .i64 0,.bool false,.bool false,.int .i64 0] by simp [toldL]] at CT;obtain ⟨a0,a1,a2,a3,a4,a5,a6,a7,a8,a9,a10,a11,a12,a13⟩:=VN.e14;have hne:=fun W=>node_neq 2 t neg d x r c rf cf r2 c2 rf2 cf2 m 2 t false 0 0 0 0 false false 0 0 false false 0 W;rw [decide_eq_false (by simpa using he)] at hne;go_wp2_with fail;refine wp_region_quiet_ext rfl (by kernel_rfl) ?_
  repeat (go_big_quiet_step (first | (go_at_call 72;exact quiet_ext (CT _))))
  refine quiet_end fun w1 Y=>?_;obtain ⟨b0,b1,b2,b3,b4,b5,b6,b7,b8,b9,b10,b11,b12,b13⟩:=(VN.later Y).c14;clear CT a0 a1 a2 a3 a4 a5 a6 a7 a8 a9 a10 a11 a12 a13 hne;go_wp2_with fail;go_ret;exact ⟨ret_bool HB.out,xt X Y⟩
set_option maxRecDepth 8000 in
set_option maxHeartbeats 4000000 in
theorem goodNI3 (t:List UInt8) (neg:Bool) (d:Int) (x:Int) (r:Int) (c:Int) (rf:Bool) (cf:Bool) (r2:Int) (c2:Int) (rf2:Bool) (cf2:Bool) (m:Int) (w:World) (hl:t.length≤1048576) (d1 : -9223372036854775808≤d) (d2:d≤9223372036854775807) (hT:Tens w) (hE:ErrTab w) (hO:OpTab w) (LW:LibW w) (IT:ItoaC w) :
  Calls Tryz.prog 57 #[ndV 3 t neg d x r c rf cf r2 c2 rf2 cf2 m] w fun e w'=>e=.returned (.bool (goodN 3 t neg d x r c rf cf r2 c2 rf2 cf2 m))∧Ext w w':=by
 obtain ⟨Q,hQ⟩:∃ Q,goodN 3 t neg d x r c rf cf r2 c2 rf2 cf2 m=Q:=⟨_,rfl⟩;have HQ:Hid _:=hQ;rw [hQ];clear hQ;obtain ⟨wa,ha,X,VN,-⟩:=boxed w [.int .i64 3,sV t,.bool neg,.int .i64 d,.int .i64 x,.int .i64 r,.int .i64 c,.bool rf,.bool cf,.int .i64 r2,.int .i64 c2,.bool rf2,.bool cf2,.int .i64 m] 43;have TA:=hT.later X;have EA:=hE.later X;have OA:=hO.later X;have LA:=LW.later X;have hU:True:=by have _:=IT;have _:=hl;have _:=d1;have _:=d2;have _:=TA;have _:=EA;have _:=OA;have _:=LA;trivial
 clear hT hE hO LW hU;by_cases he:neg=false∧d=0∧x=0∧r=0∧c=0∧rf=false∧cf=false∧r2=0∧c2=0∧rf2=false∧cf2=false∧m=0
 ·obtain ⟨rfl,rfl,rfl,rfl,rfl,rfl,rfl,rfl,rfl,rfl,rfl,rfl⟩:=he;go_enter Tryz.func57,Tryz.ntmps57;have CT:=fun W=>toldI 3 t false 0 0 0 0 false false 0 0 false false 0 W;rw [show toldL 3 t false 0 0 0 0 false false 0 0 false false 0=[.int .i64 3,sV t,.bool false,.int .i64 0,.int .i64 0,.int .i64 0,.int .i64 0,.bool false,.bool false,.int .i64 0,.int .i64 0,.bool false,.bool false,.int .i64 0] by simp [toldL]] at CT;obtain ⟨a0,a1,a2,a3,a4,a5,a6,a7,a8,a9,a10,a11,a12,a13⟩:=VN.e14;go_wp2_with fail;refine wp_region_quiet_ext rfl (by kernel_rfl) ?_
  repeat (go_big_quiet_step (first | (go_at_call 72;exact quiet_ext (CT _))))
  refine quiet_end fun w1 Y=>?_;obtain ⟨b0,b1,b2,b3,b4,b5,b6,b7,b8,b9,b10,b11,b12,b13⟩:=(VN.later Y).c14;clear CT a0 a1 a2 a3 a4 a5 a6 a7 a8 a9 a10 a11 a12 a13;have HB:Hid ((boolB t)=Q):=by show _=_;rw [← HQ.out];simp [goodN]
  go_wp2_with fail;refine (boolI t w1).mono ?_;rintro e w2 ⟨rfl,rfl⟩;go_wp2_with fail;go_ret;exact ⟨ret_bool HB.out,xt X Y⟩
 ·have HB:Hid (false=Q):=by show _=_;rw [← HQ.out];unfold goodN;rw [if_neg (by decide),if_neg (by decide),if_pos rfl,decide_eq_false he];rfl
  go_enter Tryz.func57,Tryz.ntmps57;have CT:=fun W=>toldI 3 t neg d x r c rf cf r2 c2 rf2 cf2 m W;rw [show toldL 3 t neg d x r c rf cf r2 c2 rf2 cf2 m=[.int .i64 3,sV t,.bool false,.int .i64 0,.int .i64 0,.int .i64 0,.int .i64 0,.bool false,.bool false,.int .i64 0,.int .i64 0,.bool false,.bool false,.int .i64 0] by simp [toldL]] at CT;obtain ⟨a0,a1,a2,a3,a4,a5,a6,a7,a8,a9,a10,a11,a12,a13⟩:=VN.e14;have hne:=fun W=>node_neq 3 t neg d x r c rf cf r2 c2 rf2 cf2 m 3 t false 0 0 0 0 false false 0 0 false false 0 W;rw [decide_eq_false (by simpa using he)] at hne;go_wp2_with fail;refine wp_region_quiet_ext rfl (by kernel_rfl) ?_
  repeat (go_big_quiet_step (first | (go_at_call 72;exact quiet_ext (CT _))))
  refine quiet_end fun w1 Y=>?_;obtain ⟨b0,b1,b2,b3,b4,b5,b6,b7,b8,b9,b10,b11,b12,b13⟩:=(VN.later Y).c14;clear CT a0 a1 a2 a3 a4 a5 a6 a7 a8 a9 a10 a11 a12 a13 hne;go_wp2_with fail;go_ret;exact ⟨ret_bool HB.out,xt X Y⟩
set_option maxRecDepth 8000 in
set_option maxHeartbeats 4000000 in
theorem goodNI4 (t:List UInt8) (neg:Bool) (d:Int) (x:Int) (r:Int) (c:Int) (rf:Bool) (cf:Bool) (r2:Int) (c2:Int) (rf2:Bool) (cf2:Bool) (m:Int) (w:World) (hl:t.length≤1048576) (d1 : -9223372036854775808≤d) (d2:d≤9223372036854775807) (hT:Tens w) (hE:ErrTab w) (hO:OpTab w) (LW:LibW w) (IT:ItoaC w) :
  Calls Tryz.prog 57 #[ndV 4 t neg d x r c rf cf r2 c2 rf2 cf2 m] w fun e w'=>e=.returned (.bool (goodN 4 t neg d x r c rf cf r2 c2 rf2 cf2 m))∧Ext w w':=by
 obtain ⟨Q,hQ⟩:∃ Q,goodN 4 t neg d x r c rf cf r2 c2 rf2 cf2 m=Q:=⟨_,rfl⟩;have HQ:Hid _:=hQ;rw [hQ];clear hQ;obtain ⟨wa,ha,X,VN,-⟩:=boxed w [.int .i64 4,sV t,.bool neg,.int .i64 d,.int .i64 x,.int .i64 r,.int .i64 c,.bool rf,.bool cf,.int .i64 r2,.int .i64 c2,.bool rf2,.bool cf2,.int .i64 m] 43;have TA:=hT.later X;have EA:=hE.later X;have OA:=hO.later X;have LA:=LW.later X;have hU:True:=by have _:=IT;have _:=hl;have _:=d1;have _:=d2;have _:=TA;have _:=EA;have _:=OA;have _:=LA;trivial
 clear hT hE hO LW hU;by_cases he:neg=false∧d=0∧x=0∧r=0∧c=0∧rf=false∧cf=false∧r2=0∧c2=0∧rf2=false∧cf2=false∧m=0
 ·obtain ⟨rfl,rfl,rfl,rfl,rfl,rfl,rfl,rfl,rfl,rfl,rfl,rfl⟩:=he;go_enter Tryz.func57,Tryz.ntmps57;have CT:=fun W=>toldI 4 t false 0 0 0 0 false false 0 0 false false 0 W;rw [show toldL 4 t false 0 0 0 0 false false 0 0 false false 0=[.int .i64 4,sV t,.bool false,.int .i64 0,.int .i64 0,.int .i64 0,.int .i64 0,.bool false,.bool false,.int .i64 0,.int .i64 0,.bool false,.bool false,.int .i64 0] by simp [toldL]] at CT;obtain ⟨a0,a1,a2,a3,a4,a5,a6,a7,a8,a9,a10,a11,a12,a13⟩:=VN.e14;go_wp2_with fail;refine wp_region_quiet_ext rfl (by kernel_rfl) ?_
  repeat (go_big_quiet_step (first | (go_at_call 72;exact quiet_ext (CT _))))
  refine quiet_end fun w1 Y=>?_;obtain ⟨b0,b1,b2,b3,b4,b5,b6,b7,b8,b9,b10,b11,b12,b13⟩:=(VN.later Y).c14;clear CT a0 a1 a2 a3 a4 a5 a6 a7 a8 a9 a10 a11 a12 a13;have HB:Hid ((memB errL t)=Q):=by show _=_;rw [← HQ.out];simp [goodN]
  go_wp2_with fail;refine (errI t w1 (EA.later Y)).mono ?_;rintro e w2 ⟨rfl,rfl⟩;go_wp2_with fail;go_ret;exact ⟨ret_bool HB.out,xt X Y⟩
 ·have HB:Hid (false=Q):=by show _=_;rw [← HQ.out];unfold goodN;rw [if_neg (by decide),if_neg (by decide),if_neg (by decide),if_pos rfl,decide_eq_false he];rfl
  go_enter Tryz.func57,Tryz.ntmps57;have CT:=fun W=>toldI 4 t neg d x r c rf cf r2 c2 rf2 cf2 m W;rw [show toldL 4 t neg d x r c rf cf r2 c2 rf2 cf2 m=[.int .i64 4,sV t,.bool false,.int .i64 0,.int .i64 0,.int .i64 0,.int .i64 0,.bool false,.bool false,.int .i64 0,.int .i64 0,.bool false,.bool false,.int .i64 0] by simp [toldL]] at CT;obtain ⟨a0,a1,a2,a3,a4,a5,a6,a7,a8,a9,a10,a11,a12,a13⟩:=VN.e14;have hne:=fun W=>node_neq 4 t neg d x r c rf cf r2 c2 rf2 cf2 m 4 t false 0 0 0 0 false false 0 0 false false 0 W;rw [decide_eq_false (by simpa using he)] at hne;go_wp2_with fail;refine wp_region_quiet_ext rfl (by kernel_rfl) ?_
  repeat (go_big_quiet_step (first | (go_at_call 72;exact quiet_ext (CT _))))
  refine quiet_end fun w1 Y=>?_;obtain ⟨b0,b1,b2,b3,b4,b5,b6,b7,b8,b9,b10,b11,b12,b13⟩:=(VN.later Y).c14;clear CT a0 a1 a2 a3 a4 a5 a6 a7 a8 a9 a10 a11 a12 a13 hne;go_wp2_with fail;go_ret;exact ⟨ret_bool HB.out,xt X Y⟩
set_option maxRecDepth 8000 in
set_option maxHeartbeats 4000000 in
theorem goodNI7 (t:List UInt8) (neg:Bool) (d:Int) (x:Int) (r:Int) (c:Int) (rf:Bool) (cf:Bool) (r2:Int) (c2:Int) (rf2:Bool) (cf2:Bool) (m:Int) (w:World) (hl:t.length≤1048576) (d1 : -9223372036854775808≤d) (d2:d≤9223372036854775807) (hT:Tens w) (hE:ErrTab w) (hO:OpTab w) (LW:LibW w) (IT:ItoaC w) :
  Calls Tryz.prog 57 #[ndV 7 t neg d x r c rf cf r2 c2 rf2 cf2 m] w fun e w'=>e=.returned (.bool (goodN 7 t neg d x r c rf cf r2 c2 rf2 cf2 m))∧Ext w w':=by
 obtain ⟨Q,hQ⟩:∃ Q,goodN 7 t neg d x r c rf cf r2 c2 rf2 cf2 m=Q:=⟨_,rfl⟩;have HQ:Hid _:=hQ;rw [hQ];clear hQ;obtain ⟨wa,ha,X,VN,-⟩:=boxed w [.int .i64 7,sV t,.bool neg,.int .i64 d,.int .i64 x,.int .i64 r,.int .i64 c,.bool rf,.bool cf,.int .i64 r2,.int .i64 c2,.bool rf2,.bool cf2,.int .i64 m] 43;have TA:=hT.later X;have EA:=hE.later X;have OA:=hO.later X;have LA:=LW.later X;have hU:True:=by have _:=IT;have _:=hl;have _:=d1;have _:=d2;have _:=TA;have _:=EA;have _:=OA;have _:=LA;trivial
 clear hT hE hO LW hU;by_cases he:neg=false∧d=0∧x=0∧r=0∧c=0∧rf=false∧cf=false∧r2=0∧c2=0∧rf2=false∧cf2=false∧m=0
 ·obtain ⟨rfl,rfl,rfl,rfl,rfl,rfl,rfl,rfl,rfl,rfl,rfl,rfl⟩:=he;go_enter Tryz.func57,Tryz.ntmps57;have CT:=fun W=>toldI 7 t false 0 0 0 0 false false 0 0 false false 0 W;rw [show toldL 7 t false 0 0 0 0 false false 0 0 false false 0=[.int .i64 7,sV t,.bool false,.int .i64 0,.int .i64 0,.int .i64 0,.int .i64 0,.bool false,.bool false,.int .i64 0,.int .i64 0,.bool false,.bool false,.int .i64 0] by simp [toldL]] at CT;obtain ⟨a0,a1,a2,a3,a4,a5,a6,a7,a8,a9,a10,a11,a12,a13⟩:=VN.e14;go_wp2_with fail;refine wp_region_quiet_ext rfl (by kernel_rfl) ?_
  repeat (go_big_quiet_step (first | (go_at_call 72;exact quiet_ext (CT _))))
  refine quiet_end fun w1 Y=>?_;obtain ⟨b0,b1,b2,b3,b4,b5,b6,b7,b8,b9,b10,b11,b12,b13⟩:=(VN.later Y).c14;clear CT a0 a1 a2 a3 a4 a5 a6 a7 a8 a9 a10 a11 a12 a13;have HB:Hid ((nameB t)=Q):=by show _=_;rw [← HQ.out];simp [goodN]
  go_wp2_with fail;refine (nameI t w1 hl (LA.later Y) IT (xt X Y)).mono ?_;rintro e w2 ⟨rfl,e2⟩;go_wp2_with fail;go_ret;exact ⟨ret_bool HB.out,xt (xt X Y) e2⟩
 ·have HB:Hid (false=Q):=by show _=_;rw [← HQ.out];unfold goodN;rw [if_neg (by decide),if_neg (by decide),if_neg (by decide),if_neg (by decide),if_pos rfl,decide_eq_false he];rfl
  go_enter Tryz.func57,Tryz.ntmps57;have CT:=fun W=>toldI 7 t neg d x r c rf cf r2 c2 rf2 cf2 m W;rw [show toldL 7 t neg d x r c rf cf r2 c2 rf2 cf2 m=[.int .i64 7,sV t,.bool false,.int .i64 0,.int .i64 0,.int .i64 0,.int .i64 0,.bool false,.bool false,.int .i64 0,.int .i64 0,.bool false,.bool false,.int .i64 0] by simp [toldL]] at CT;obtain ⟨a0,a1,a2,a3,a4,a5,a6,a7,a8,a9,a10,a11,a12,a13⟩:=VN.e14;have hne:=fun W=>node_neq 7 t neg d x r c rf cf r2 c2 rf2 cf2 m 7 t false 0 0 0 0 false false 0 0 false false 0 W;rw [decide_eq_false (by simpa using he)] at hne;go_wp2_with fail;refine wp_region_quiet_ext rfl (by kernel_rfl) ?_
  repeat (go_big_quiet_step (first | (go_at_call 72;exact quiet_ext (CT _))))
  refine quiet_end fun w1 Y=>?_;obtain ⟨b0,b1,b2,b3,b4,b5,b6,b7,b8,b9,b10,b11,b12,b13⟩:=(VN.later Y).c14;clear CT a0 a1 a2 a3 a4 a5 a6 a7 a8 a9 a10 a11 a12 a13 hne;go_wp2_with fail;go_ret;exact ⟨ret_bool HB.out,xt X Y⟩
set_option maxRecDepth 8000 in
set_option maxHeartbeats 4000000 in
theorem goodNI5 (t:List UInt8) (neg:Bool) (d:Int) (x:Int) (r:Int) (c:Int) (rf:Bool) (cf:Bool) (r2:Int) (c2:Int) (rf2:Bool) (cf2:Bool) (m:Int) (w:World) (hl:t.length≤1048576) (d1 : -9223372036854775808≤d) (d2:d≤9223372036854775807) (hT:Tens w) (hE:ErrTab w) (hO:OpTab w) (LW:LibW w) (IT:ItoaC w) :
  Calls Tryz.prog 57 #[ndV 5 t neg d x r c rf cf r2 c2 rf2 cf2 m] w fun e w'=>e=.returned (.bool (goodN 5 t neg d x r c rf cf r2 c2 rf2 cf2 m))∧Ext w w':=by
 obtain ⟨Q,hQ⟩:∃ Q,goodN 5 t neg d x r c rf cf r2 c2 rf2 cf2 m=Q:=⟨_,rfl⟩;have HQ:Hid _:=hQ;rw [hQ];clear hQ;obtain ⟨wa,ha,X,VN,-⟩:=boxed w [.int .i64 5,sV t,.bool neg,.int .i64 d,.int .i64 x,.int .i64 r,.int .i64 c,.bool rf,.bool cf,.int .i64 r2,.int .i64 c2,.bool rf2,.bool cf2,.int .i64 m] 43;have TA:=hT.later X;have EA:=hE.later X;have OA:=hO.later X;have LA:=LW.later X;have hU:True:=by have _:=IT;have _:=hl;have _:=d1;have _:=d2;have _:=TA;have _:=EA;have _:=OA;have _:=LA;trivial
 clear hT hE hO LW hU;by_cases he:t=[]∧neg=false∧d=0∧x=0∧r2=0∧c2=0∧rf2=false∧cf2=false∧m=0
 ·obtain ⟨rfl,rfl,rfl,rfl,rfl,rfl,rfl,rfl,rfl⟩:=he;go_enter Tryz.func57,Tryz.ntmps57;have CT:=fun W=>toldI 5 [] false 0 0 r c rf cf 0 0 false false 0 W;rw [show toldL 5 [] false 0 0 r c rf cf 0 0 false false 0=[.int .i64 5,sV [],.bool false,.int .i64 0,.int .i64 0,.int .i64 r,.int .i64 c,.bool rf,.bool cf,.int .i64 0,.int .i64 0,.bool false,.bool false,.int .i64 0] by simp [toldL]] at CT;obtain ⟨a0,a1,a2,a3,a4,a5,a6,a7,a8,a9,a10,a11,a12,a13⟩:=VN.e14;go_wp2_with fail;refine wp_region_quiet_ext rfl (by kernel_rfl) ?_
  repeat (go_big_quiet_step (first | (go_at_call 72;exact quiet_ext (CT _))))
  refine quiet_end fun w1 Y=>?_;obtain ⟨b0,b1,b2,b3,b4,b5,b6,b7,b8,b9,b10,b11,b12,b13⟩:=(VN.later Y).c14;clear CT a0 a1 a2 a3 a4 a5 a6 a7 a8 a9 a10 a11 a12 a13;have HB:Hid ((goodRB r c)=Q):=by show _=_;rw [← HQ.out];simp [goodN]
  go_wp2_with fail;refine (goodRI r c rf cf w1).mono ?_;rintro e w2 ⟨rfl,e2⟩;go_wp2_with fail;go_ret;exact ⟨ret_bool HB.out,xt (xt X Y) e2⟩
 ·have HB:Hid (false=Q):=by show _=_;rw [← HQ.out];unfold goodN;rw [if_neg (by decide),if_neg (by decide),if_neg (by decide),if_neg (by decide),if_neg (by decide),if_pos rfl,decide_eq_false he];rfl
  go_enter Tryz.func57,Tryz.ntmps57;have CT:=fun W=>toldI 5 t neg d x r c rf cf r2 c2 rf2 cf2 m W;rw [show toldL 5 t neg d x r c rf cf r2 c2 rf2 cf2 m=[.int .i64 5,sV [],.bool false,.int .i64 0,.int .i64 0,.int .i64 r,.int .i64 c,.bool rf,.bool cf,.int .i64 0,.int .i64 0,.bool false,.bool false,.int .i64 0] by simp [toldL]] at CT;obtain ⟨a0,a1,a2,a3,a4,a5,a6,a7,a8,a9,a10,a11,a12,a13⟩:=VN.e14;have hne:=fun W=>node_neq 5 t neg d x r c rf cf r2 c2 rf2 cf2 m 5 [] false 0 0 r c rf cf 0 0 false false 0 W;rw [decide_eq_false (by simpa using he)] at hne;go_wp2_with fail;refine wp_region_quiet_ext rfl (by kernel_rfl) ?_
  repeat (go_big_quiet_step (first | (go_at_call 72;exact quiet_ext (CT _))))
  refine quiet_end fun w1 Y=>?_;obtain ⟨b0,b1,b2,b3,b4,b5,b6,b7,b8,b9,b10,b11,b12,b13⟩:=(VN.later Y).c14;clear CT a0 a1 a2 a3 a4 a5 a6 a7 a8 a9 a10 a11 a12 a13 hne;go_wp2_with fail;go_ret;exact ⟨ret_bool HB.out,xt X Y⟩
set_option maxRecDepth 8000 in
set_option maxHeartbeats 4000000 in
theorem goodNI6 (t:List UInt8) (neg:Bool) (d:Int) (x:Int) (r:Int) (c:Int) (rf:Bool) (cf:Bool) (r2:Int) (c2:Int) (rf2:Bool) (cf2:Bool) (m:Int) (w:World) (hl:t.length≤1048576) (d1 : -9223372036854775808≤d) (d2:d≤9223372036854775807) (hT:Tens w) (hE:ErrTab w) (hO:OpTab w) (LW:LibW w) (IT:ItoaC w) :
  Calls Tryz.prog 57 #[ndV 6 t neg d x r c rf cf r2 c2 rf2 cf2 m] w fun e w'=>e=.returned (.bool (goodN 6 t neg d x r c rf cf r2 c2 rf2 cf2 m))∧Ext w w':=by
 obtain ⟨Q,hQ⟩:∃ Q,goodN 6 t neg d x r c rf cf r2 c2 rf2 cf2 m=Q:=⟨_,rfl⟩;have HQ:Hid _:=hQ;rw [hQ];clear hQ;obtain ⟨wa,ha,X,VN,-⟩:=boxed w [.int .i64 6,sV t,.bool neg,.int .i64 d,.int .i64 x,.int .i64 r,.int .i64 c,.bool rf,.bool cf,.int .i64 r2,.int .i64 c2,.bool rf2,.bool cf2,.int .i64 m] 43;have TA:=hT.later X;have EA:=hE.later X;have OA:=hO.later X;have LA:=LW.later X;have hU:True:=by have _:=IT;have _:=hl;have _:=d1;have _:=d2;have _:=TA;have _:=EA;have _:=OA;have _:=LA;trivial
 clear hT hE hO LW hU;by_cases he:t=[]∧neg=false∧d=0∧x=0∧m=0
 ·obtain ⟨rfl,rfl,rfl,rfl,rfl⟩:=he;go_enter Tryz.func57,Tryz.ntmps57;have CT:=fun W=>toldI 6 [] false 0 0 r c rf cf r2 c2 rf2 cf2 0 W;rw [show toldL 6 [] false 0 0 r c rf cf r2 c2 rf2 cf2 0=[.int .i64 6,sV [],.bool false,.int .i64 0,.int .i64 0,.int .i64 r,.int .i64 c,.bool rf,.bool cf,.int .i64 r2,.int .i64 c2,.bool rf2,.bool cf2,.int .i64 0] by simp [toldL]] at CT;obtain ⟨a0,a1,a2,a3,a4,a5,a6,a7,a8,a9,a10,a11,a12,a13⟩:=VN.e14;go_wp2_with fail;refine wp_region_quiet_ext rfl (by kernel_rfl) ?_
  repeat (go_big_quiet_step (first | (go_at_call 72;exact quiet_ext (CT _))))
  refine quiet_end fun w1 Y=>?_;obtain ⟨b0,b1,b2,b3,b4,b5,b6,b7,b8,b9,b10,b11,b12,b13⟩:=(VN.later Y).c14;clear CT a0 a1 a2 a3 a4 a5 a6 a7 a8 a9 a10 a11 a12 a13;go_wp2_with fail;refine (goodRI r c rf cf w1).mono ?_;rintro e w2 ⟨rfl,e2⟩;obtain ⟨g,hg⟩:∃ g,goodRB r c=g:=⟨_,rfl⟩;have HB0:Hid ((g && goodRB r2 c2)=Q):=by show _=_;rw [← HQ.out];simp [goodN,hg]
  rw [hg];clear hg;have z9:=cell_later e2 b9;have z10:=cell_later e2 b10;have z11:=cell_later e2 b11;have z12:=cell_later e2 b12;cases g
  ·have HB:Hid _:=HB0;go_wp2_with fail;go_ret;exact ⟨ret_bool HB.out,xt (xt X Y) e2⟩
  ·have HB:Hid _:=HB0;go_wp2_with fail;refine (goodRI r2 c2 rf2 cf2 w2).mono ?_;rintro e w3 ⟨rfl,e3⟩;go_wp2_with fail;go_ret;exact ⟨ret_bool HB.out,xt (xt (xt X Y) e2) e3⟩
 ·have HB:Hid (false=Q):=by show _=_;rw [← HQ.out];unfold goodN;rw [if_neg (by decide),if_neg (by decide),if_neg (by decide),if_neg (by decide),if_neg (by decide),if_neg (by decide),if_pos rfl,decide_eq_false he];rfl
  go_enter Tryz.func57,Tryz.ntmps57;have CT:=fun W=>toldI 6 t neg d x r c rf cf r2 c2 rf2 cf2 m W;rw [show toldL 6 t neg d x r c rf cf r2 c2 rf2 cf2 m=[.int .i64 6,sV [],.bool false,.int .i64 0,.int .i64 0,.int .i64 r,.int .i64 c,.bool rf,.bool cf,.int .i64 r2,.int .i64 c2,.bool rf2,.bool cf2,.int .i64 0] by simp [toldL]] at CT;obtain ⟨a0,a1,a2,a3,a4,a5,a6,a7,a8,a9,a10,a11,a12,a13⟩:=VN.e14;have hne:=fun W=>node_neq 6 t neg d x r c rf cf r2 c2 rf2 cf2 m 6 [] false 0 0 r c rf cf r2 c2 rf2 cf2 0 W;rw [decide_eq_false (by simpa using he)] at hne;go_wp2_with fail;refine wp_region_quiet_ext rfl (by kernel_rfl) ?_
  repeat (go_big_quiet_step (first | (go_at_call 72;exact quiet_ext (CT _))))
  refine quiet_end fun w1 Y=>?_;obtain ⟨b0,b1,b2,b3,b4,b5,b6,b7,b8,b9,b10,b11,b12,b13⟩:=(VN.later Y).c14;clear CT a0 a1 a2 a3 a4 a5 a6 a7 a8 a9 a10 a11 a12 a13 hne;go_wp2_with fail;go_ret;exact ⟨ret_bool HB.out,xt X Y⟩
set_option maxRecDepth 8000 in
set_option maxHeartbeats 4000000 in
theorem goodNI13 (t:List UInt8) (neg:Bool) (d:Int) (x:Int) (r:Int) (c:Int) (rf:Bool) (cf:Bool) (r2:Int) (c2:Int) (rf2:Bool) (cf2:Bool) (m:Int) (w:World) (hl:t.length≤1048576) (d1 : -9223372036854775808≤d) (d2:d≤9223372036854775807) (hT:Tens w) (hE:ErrTab w) (hO:OpTab w) (LW:LibW w) (IT:ItoaC w) :
  Calls Tryz.prog 57 #[ndV 13 t neg d x r c rf cf r2 c2 rf2 cf2 m] w fun e w'=>e=.returned (.bool (goodN 13 t neg d x r c rf cf r2 c2 rf2 cf2 m))∧Ext w w':=by
 obtain ⟨Q,hQ⟩:∃ Q,goodN 13 t neg d x r c rf cf r2 c2 rf2 cf2 m=Q:=⟨_,rfl⟩;have HQ:Hid _:=hQ;rw [hQ];clear hQ;obtain ⟨wa,ha,X,VN,-⟩:=boxed w [.int .i64 13,sV t,.bool neg,.int .i64 d,.int .i64 x,.int .i64 r,.int .i64 c,.bool rf,.bool cf,.int .i64 r2,.int .i64 c2,.bool rf2,.bool cf2,.int .i64 m] 43;have TA:=hT.later X;have EA:=hE.later X;have OA:=hO.later X;have LA:=LW.later X;have hU:True:=by have _:=IT;have _:=hl;have _:=d1;have _:=d2;have _:=TA;have _:=EA;have _:=OA;have _:=LA;trivial
 clear hT hE hO LW hU;by_cases he:t=[]∧neg=false∧d=0∧x=0∧r=0∧c=0∧rf=false∧cf=false∧r2=0∧c2=0∧rf2=false∧cf2=false∧m=0
 ·obtain ⟨rfl,rfl,rfl,rfl,rfl,rfl,rfl,rfl,rfl,rfl,rfl,rfl,rfl⟩:=he;go_enter Tryz.func57,Tryz.ntmps57;have CT:=fun W=>toldI 13 [] false 0 0 0 0 false false 0 0 false false 0 W;rw [show toldL 13 [] false 0 0 0 0 false false 0 0 false false 0=[.int .i64 13,sV [],.bool false,.int .i64 0,.int .i64 0,.int .i64 0,.int .i64 0,.bool false,.bool false,.int .i64 0,.int .i64 0,.bool false,.bool false,.int .i64 0] by simp [toldL]] at CT;obtain ⟨a0,a1,a2,a3,a4,a5,a6,a7,a8,a9,a10,a11,a12,a13⟩:=VN.e14;go_wp2_with fail;refine wp_region_quiet_ext rfl (by kernel_rfl) ?_
  repeat (go_big_quiet_step (first | (go_at_call 72;exact quiet_ext (CT _))))
  refine quiet_end fun w1 Y=>?_;obtain ⟨b0,b1,b2,b3,b4,b5,b6,b7,b8,b9,b10,b11,b12,b13⟩:=(VN.later Y).c14;clear CT a0 a1 a2 a3 a4 a5 a6 a7 a8 a9 a10 a11 a12 a13;have HB:Hid ((true)=Q):=by show _=_;rw [← HQ.out];simp [goodN]
  go_wp2_with fail;go_ret;exact ⟨ret_bool HB.out,xt X Y⟩
 ·have HB:Hid (false=Q):=by show _=_;rw [← HQ.out];unfold goodN;rw [if_neg (by decide),if_neg (by decide),if_neg (by decide),if_neg (by decide),if_neg (by decide),if_neg (by decide),if_neg (by decide),if_pos rfl,decide_eq_false he];rfl
  go_enter Tryz.func57,Tryz.ntmps57;have CT:=fun W=>toldI 13 t neg d x r c rf cf r2 c2 rf2 cf2 m W;rw [show toldL 13 t neg d x r c rf cf r2 c2 rf2 cf2 m=[.int .i64 13,sV [],.bool false,.int .i64 0,.int .i64 0,.int .i64 0,.int .i64 0,.bool false,.bool false,.int .i64 0,.int .i64 0,.bool false,.bool false,.int .i64 0] by simp [toldL]] at CT;obtain ⟨a0,a1,a2,a3,a4,a5,a6,a7,a8,a9,a10,a11,a12,a13⟩:=VN.e14;have hne:=fun W=>node_neq 13 t neg d x r c rf cf r2 c2 rf2 cf2 m 13 [] false 0 0 0 0 false false 0 0 false false 0 W;rw [decide_eq_false (by simpa using he)] at hne;go_wp2_with fail;refine wp_region_quiet_ext rfl (by kernel_rfl) ?_
  repeat (go_big_quiet_step (first | (go_at_call 72;exact quiet_ext (CT _))))
  refine quiet_end fun w1 Y=>?_;obtain ⟨b0,b1,b2,b3,b4,b5,b6,b7,b8,b9,b10,b11,b12,b13⟩:=(VN.later Y).c14;clear CT a0 a1 a2 a3 a4 a5 a6 a7 a8 a9 a10 a11 a12 a13 hne;go_wp2_with fail;go_ret;exact ⟨ret_bool HB.out,xt X Y⟩
end Go.Proofs.YtogecaajnjcenaaGreatDoor

