/-
  Chapter 12: sums, counts and quotients of numbers, of the program.
-/
import Derived.Test.YtfgohahfppabbaaGreatDoorMg26
import Derived.Test.YtfgohahfppabbaaGreatDoorMg7
import Derived.Test.YtfgohahfppabbaaGreatDoorVq
namespace Go.Proofs.YtfgohahfppabbaaGreatDoor
open Go.RowKit

/-- What is put, as a value. -/
def putT (r : DR) : VT := if r.ok = true then ⟨1, r.neg, r.d, r.e, []⟩ else ⟨4, false, 0, 0, numbT⟩
theorem putT_val (r : DR) : (putT r).val = putV r := by
 unfold putT putV
 split <;> rfl
/-- A number among values. -/
def VT.isN (e : VT) : Prop := e.k = 1 ∧ e.t = [] ∧ goodB e.n e.d e.x = true
/-- A number, or the error of one that is too great. -/
def VT.isS (e : VT) : Prop := e.isN ∨ e = ⟨4, false, 0, 0, numbT⟩ ∨ e = ⟨4, false, 0, 0, divT⟩
theorem putT_isS {r : DR} (h : r.ok = true → goodB r.neg r.d r.e = true) : (putT r).isS := by
 unfold putT
 split
 ·
  next hr => exact Or.inl ⟨rfl, rfl, h hr⟩
 ·
  exact Or.inr (Or.inl rfl)
theorem addR_ok {na : Bool} {da ea : Int} {nb : Bool} {db eb : Int} (h : (addR na da ea nb db eb).ok = true) : goodB (addR na da ea nb db eb).neg (addR na da ea nb db eb).d (addR na da ea nb db eb).e = true := by
 unfold addR at h ⊢
 split
 ·
  next hg =>
  rw [if_pos hg] at h
  unfold sumE sumZ at h ⊢
  exact put_ok h
 ·
  next hg =>
  rw [if_neg hg] at h
  exact absurd h (by decide)
theorem strip_hi (k : Nat) : ∀ (P : Nat) (e : Int), P ≠ 0 → P < 10 ^ k → (strip P e).2 ≤ e + k := by
 induction k with
 | zero => intro P e h0 h; simp at h; omega
 | succ k ih =>
  intro P e h0 h
  by_cases hm : P % 10 = 0
  ·
   rw [strip_ten h0 hm]
   have := ih (P / 10) (e + 1) (by omega) (by rw [Nat.pow_succ] at h; omega)
   omega
  ·
   rw [strip_stop hm]
   show e ≤ _
   omega
theorem count_ok {n : Nat} (h : n ≤ 2000) : (putR false n 0 false).ok = true := by
 unfold putR
 have h4 : n < 10 ^ 4 := by omega
 have hn : ¬ 15 < nd n := by have := nd_le h4; omega
 rw [if_neg hn]
 unfold fitR
 split
 ·
  rfl
 ·
  next h0 =>
  have h1 := strip_hi 4 n 0 h0 h4
  have h2 := (strip_le n 0).2
  rw [if_neg (by omega), if_neg (by omega)]
theorem ofR_count (n : Nat) : ofR (n : Int) 0 = putR false n 0 false := by
 unfold ofR
 rw [if_pos (by omega), decide_eq_false (by omega)]
 rfl
/-- A count as a value. -/
def cntT (n : Nat) : VT := putT (putR false n 0 false)
theorem cntT_isN {n : Nat} (h : n ≤ 2000) : (cntT n).isN := by
 have hk := count_ok h
 unfold cntT putT
 rw [if_pos hk]
 exact ⟨rfl, rfl, put_ok hk⟩
set_option maxHeartbeats 2000000 in
theorem countI (n : Nat) (w : World) (h : n ≤ 2000) (hT : Tens w) :
  Calls Tryz.prog 46 #[.int .i64 n] w fun e w' => e = .returned (cntT n).val ∧ Ext w w' := by
 have X0 := x1 w (.cells #[.int .i64 0, .bool false, .int .i64 0, .int .i64 0, sV []] 27)
 have B0 := vec_made w (valL 0 false 0 0 []) 27
 change Vec (w.alloc (.cells #[.int .i64 0, .bool false, .int .i64 0, .int .i64 0, sV []] 27)) _ _ at B0
 have CO := ofI (n : Int) 0 (w.alloc (.cells #[.int .i64 0, .bool false, .int .i64 0, .int .i64 0, sV []] 27)) (by omega) (by omega) (hT.later X0)
 have HP : Hid (∀ W, Calls Tryz.prog 58 #[resV (ofR (n : Int) 0)] W fun rr w' => rr = .returned (cntT n).val ∧ Ext W w') := fun W => by
  have := putVI (ofR (n : Int) 0) W
  rw [ofR_count, ← putT_val] at this
  rw [ofR_count]
  exact this
 obtain ⟨⟨k2, n2, d2, x2, t2⟩, hc⟩ : ∃ v, cntT n = v := ⟨_, rfl⟩
 rw [hc]
 rw [hc] at HP
 obtain ⟨R, hR⟩ : ∃ R, resV (ofR (n : Int) 0) = R := ⟨_, rfl⟩
 rw [hR] at CO HP
 clear hc hR hT
 go_enter Tryz.func46, Tryz.ntmps46
 go_wp2_with fail
 refine CO.mono ?_
 rintro rr w1 ⟨rfl, e1⟩
 go_wp2_with fail
 refine (HP.out w1).mono ?_
 rintro rr w2 ⟨rfl, e2⟩
 obtain ⟨wy, hy, FX, ⟨b0, b1, b2, b3, b4⟩, ⟨fb0, fb1, fb2, fb3, fb4⟩, fd0, fd1, fd2, fd3, fd4⟩ := fin5 ((B0.later e1).later e2) (xt (xt X0 e1) e2) (by omega) k2 n2 d2 x2 t2
 go_wp2_with fail
 exact bodyPost_ret (v := valV k2 n2 d2 x2 t2) (by simp [results, Tryz.results46, go_sem, fd0, fd1, fd2, fd3, fd4]) rfl ⟨rfl, FX⟩
set_option maxHeartbeats 2000000 in
theorem numNI (n : Bool) (d x : Int) (w : World) (hg : goodB n d x = true) (hT : Tens w) (hE : ErrTab w) :
  Calls Tryz.prog 116 #[valV 1 n d x []] w fun e w' => e = .returned (valV 1 n d x []) ∧ Ext w w' := by
 obtain ⟨u0, u1, h0, h1, s0, s1, B0, B1, X⟩ := mkB2 w [.int .i64 1, .bool n, .int .i64 d, .int .i64 x, sV []] [.int .i64 0, .bool false, .int .i64 0, .int .i64 0, sV []] 27 27
 have gg := good_all hg
 have CG := goodVI 1 n d x [] u1 (by simp) (by omega) (by omega) (hT.later X) (hE.later X)
 rw [show goodV 1 n d x [] = true by simp [goodV, hg]] at CG
 obtain ⟨a0, a1, a2, a3, a4⟩ := Vec.five B0
 clear gg hT hE hg
 go_enter Tryz.func116, Tryz.ntmps116
 go_wp2_with fail
 clear a0 a1 a2 a3 a4 h0 h1 s0 s1
 refine CG.mono ?_
 rintro rr w1 ⟨rfl, e1⟩
 obtain ⟨a0, a1, a2, a3, a4⟩ := Vec.five (B0.later e1)
 obtain ⟨wy, hy, FX, ⟨b0, b1, b2, b3, b4⟩, ⟨fb0, fb1, fb2, fb3, fb4⟩, fd0, fd1, fd2, fd3, fd4⟩ := fin5 (B1.later e1) (xt X e1) (by omega) 1 n d x []
 go_wp2_with fail
 exact bodyPost_ret (v := valV 1 n d x []) (by simp [results, Tryz.results116, go_sem, fd0, fd1, fd2, fd3, fd4]) rfl ⟨rfl, FX⟩
theorem enterF_plus1 : ∀ ar w, (callFunc 85 ar).run Tryz.prog w = .ok (.enter 85 ar) w := fun ar w => by kernel_rfl
theorem enterF_over1 : ∀ ar w, (callFunc 93 ar).run Tryz.prog w = .ok (.enter 93 ar) w := fun ar w => by kernel_rfl
theorem enterF_reck : ∀ ar w, (callFunc 115 ar).run Tryz.prog w = .ok (.enter 115 ar) w := fun ar w => by kernel_rfl
/-- Two numbers reckoned by a step. -/
theorem reckN (f : Nat) (HF : ∀ ar w, (callFunc f ar).run Tryz.prog w = .ok (.enter f ar) w) (n : Bool) (d x : Int) (n' : Bool) (d' x' : Int) (w : World) (ga : goodB n d x = true) (gb : goodB n' d' x' = true) (hT : Tens w) (hE : ErrTab w) (r : VT)
  (H : ∀ w1, Ext w w1 → Calls Tryz.prog f #[decV n d x, decV n' d' x'] w1 fun e w' => e = .returned r.val ∧ Ext w1 w') :
  Calls Tryz.prog 84 #[valV 1 n d x [], valV 1 n' d' x' [], fnV f] w fun e w' => e = .returned r.val ∧ Ext w w' := by
 refine reckW 1 n d x [] 1 n' d' x' [] f w 1 n d x [] 1 n' d' x' [] (fun w1 h => numNI n d x w1 ga (hT.later h) (hE.later h)) (fun w1 h => numNI n' d' x' w1 gb (hT.later h) (hE.later h)) fun w1 p h1 hp => ?_
 refine of_cap _ _ _ _ _ _ _ _ _ _ _ _ enterF_reck (by decide) (by decide) w1 fun w2 h2 => ?_
 exact reck1 _ _ _ _ _ _ _ _ _ _ f p HF w2 (cell_later h2 hp) fun w3 h3 => H w3 (xt (xt h1 h2) h3)
set_option maxHeartbeats 2000000 in
theorem plusN (n : Bool) (d x : Int) (n' : Bool) (d' x' : Int) (w : World) (ga : goodB n d x = true) (gb : goodB n' d' x' = true) (hT : Tens w) (hE : ErrTab w) :
  Calls Tryz.prog 61 #[valV 1 n d x [], valV 1 n' d' x' []] w fun e w' => e = .returned (putT (addR n d x n' d' x')).val ∧ Ext w w' := by
 obtain ⟨u0, u1, u2, h0, h1, h2, s0, s1, s2, B0, B1, B2, X⟩ := mkB3 w [.int .i64 1, .bool n, .int .i64 d, .int .i64 x, sV []] [.int .i64 1, .bool n', .int .i64 d', .int .i64 x', sV []] [.int .i64 0, .bool false, .int .i64 0, .int .i64 0, sV []] 27 27 27
 have a := good_all ga
 have b := good_all gb
 have CR := reckN 85 enterF_plus1 n d x n' d' x' u2 ga gb (hT.later X) (hE.later X) (putT (addR n d x n' d' x')) (fun w1 h => by
  have := plus1I n d x n' d' x' w1 (by omega) (by omega) (by omega) (by omega) ((hT.later X).later h)
  rw [putT_val]
  exact this)
 obtain ⟨⟨k2, n2, d2, x2, t2⟩, hc⟩ : ∃ v, putT (addR n d x n' d' x') = v := ⟨_, rfl⟩
 rw [hc]
 rw [hc] at CR
 obtain ⟨a0, a1, a2, a3, a4⟩ := Vec.five B0
 obtain ⟨c0, c1, c2, c3, c4⟩ := Vec.five B1
 clear a b ga gb hT hE hc
 go_enter Tryz.func61, Tryz.ntmps61
 go_wp2_with fail
 clear a0 a1 a2 a3 a4 c0 c1 c2 c3 c4 h0 h1 h2 s0 s1 s2
 refine CR.mono ?_
 rintro rr w1 ⟨rfl, e1⟩
 obtain ⟨wy, hy, FX, ⟨b0, b1, b2, b3, b4⟩, ⟨fb0, fb1, fb2, fb3, fb4⟩, fd0, fd1, fd2, fd3, fd4⟩ := fin5 (B2.later e1) (xt X e1) (by omega) k2 n2 d2 x2 t2
 go_wp2_with fail
 exact bodyPost_ret (v := valV k2 n2 d2 x2 t2) (by simp [results, Tryz.results61, go_sem, fd0, fd1, fd2, fd3, fd4]) rfl ⟨rfl, FX⟩
/-- What over makes of two numbers. -/
def overT (n : Bool) (d x : Int) (n' : Bool) (d' x' : Int) : VT := if d' = 0 then ⟨4, false, 0, 0, divT⟩ else putT (divR n d x n' d' x')
set_option maxHeartbeats 2000000 in
theorem overN (n : Bool) (d x : Int) (n' : Bool) (d' x' : Int) (w : World) (ga : goodB n d x = true) (gb : goodB n' d' x' = true) (hT : Tens w) (hE : ErrTab w) :
  Calls Tryz.prog 65 #[valV 1 n d x [], valV 1 n' d' x' []] w fun e w' => e = .returned (overT n d x n' d' x').val ∧ Ext w w' := by
 obtain ⟨u0, u1, u2, h0, h1, h2, s0, s1, s2, B0, B1, B2, X⟩ := mkB3 w [.int .i64 1, .bool n, .int .i64 d, .int .i64 x, sV []] [.int .i64 1, .bool n', .int .i64 d', .int .i64 x', sV []] [.int .i64 0, .bool false, .int .i64 0, .int .i64 0, sV []] 27 27 27
 have a := good_all ga
 have b := good_all gb
 have CR := reckN 93 enterF_over1 n d x n' d' x' u2 ga gb (hT.later X) (hE.later X) (overT n d x n' d' x') (fun w1 h => by
  have := over1I n d x n' d' x' w1 (by omega) (by omega) (by omega) (by omega) ((hT.later X).later h) gb
  unfold overT
  split
  ·
   next h0 => rw [if_pos h0] at this; exact this
  ·
   next h0 => rw [if_neg h0] at this; rw [putT_val]; exact this)
 obtain ⟨⟨k2, n2, d2, x2, t2⟩, hc⟩ : ∃ v, overT n d x n' d' x' = v := ⟨_, rfl⟩
 rw [hc]
 rw [hc] at CR
 obtain ⟨a0, a1, a2, a3, a4⟩ := Vec.five B0
 obtain ⟨c0, c1, c2, c3, c4⟩ := Vec.five B1
 clear a b ga gb hT hE hc
 go_enter Tryz.func65, Tryz.ntmps65
 go_wp2_with fail
 clear a0 a1 a2 a3 a4 c0 c1 c2 c3 c4 h0 h1 h2 s0 s1 s2
 refine CR.mono ?_
 rintro rr w1 ⟨rfl, e1⟩
 obtain ⟨wy, hy, FX, ⟨b0, b1, b2, b3, b4⟩, ⟨fb0, fb1, fb2, fb3, fb4⟩, fd0, fd1, fd2, fd3, fd4⟩ := fin5 (B2.later e1) (xt X e1) (by omega) k2 n2 d2 x2 t2
 go_wp2_with fail
 exact bodyPost_ret (v := valV k2 n2 d2 x2 t2) (by simp [results, Tryz.results65, go_sem, fd0, fd1, fd2, fd3, fd4]) rfl ⟨rfl, FX⟩

end Go.Proofs.YtfgohahfppabbaaGreatDoor

