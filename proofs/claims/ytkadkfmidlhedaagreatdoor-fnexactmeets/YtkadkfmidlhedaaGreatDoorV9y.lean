/-
  Chapter 7: Meets, of the program.
-/
import Derived.Test.YtkadkfmidlhedaaGreatDoorMg50
namespace Go.Proofs.YtkadkfmidlhedaaGreatDoor
open Go.RowKit

def eqVB (k : Int) (n : Bool) (d x : Int) (t : List UInt8) (k' : Int) (n' : Bool) (d' x' : Int) (t' : List UInt8) : Bool := decide (k = k' ∧ n = n' ∧ d = d' ∧ x = x' ∧ t = t')
set_option maxHeartbeats 1000000 in
theorem val_eql (k : Int) (n : Bool) (d x : Int) (t : List UInt8) (k' : Int) (n' : Bool) (d' x' : Int) (t' : List UInt8) (W : World) :
  (binOp BinOp.eql 26 (valV k n d x t) (valV k' n' d' x' t')).run Tryz.prog W = .ok (.bool (eqVB k n d x t k' n' d' x' t')) W := by
 unfold eqVB
 by_cases h : k = k' ∧ n = n' ∧ d = d' ∧ x = x' ∧ t = t'
 ·
  obtain ⟨rfl, rfl, rfl, rfl, rfl⟩ := h
  go_simp
 ·
  rw [decide_eq_false h]
  have H : Hid (¬ (k = k' ∧ n = n' ∧ d = d' ∧ x = x' ∧ t = t')) := h
  clear h
  go_simp
  intros
  have := H.out
  simp_all
set_option maxHeartbeats 1000000 in
theorem val_neq (k : Int) (n : Bool) (d x : Int) (t : List UInt8) (k' : Int) (n' : Bool) (d' x' : Int) (t' : List UInt8) (W : World) :
  (binOp BinOp.neq 26 (valV k n d x t) (valV k' n' d' x' t')).run Tryz.prog W = .ok (.bool (!(eqVB k n d x t k' n' d' x' t'))) W := by
 unfold eqVB
 by_cases h : k = k' ∧ n = n' ∧ d = d' ∧ x = x' ∧ t = t'
 ·
  obtain ⟨rfl, rfl, rfl, rfl, rfl⟩ := h
  go_simp
 ·
  rw [decide_eq_false h]
  have H : Hid (¬ (k = k' ∧ n = n' ∧ d = d' ∧ x = x' ∧ t = t')) := h
  clear h
  go_simp
  intros
  have := H.out
  simp_all
def okK (k : Int) : Int := if k = 0 then 2 else k
/-- Whether an operator, a comparison, holds of two. -/
def applyB (op : List UInt8) (k : Int) (n : Bool) (d x : Int) (t : List UInt8) (k' : Int) (n' : Bool) (d' x' : Int) (t' : List UInt8) : Bool :=
 match opN op with
 | none => false
 | some o => decide (6 ≤ o) && ordB o (compareV k n d x t k' n' d' x' t')
/-- What Meets says of two good values, the empty one taken for the empty text. -/
def meetT (op : List UInt8) (k : Int) (n : Bool) (d x : Int) (t : List UInt8) (k' : Int) (n' : Bool) (d' x' : Int) (t' : List UInt8) : Bool :=
 if k = 4 ∧ k' ≠ 4 then false else
 if k = 4 ∨ k ≠ k' then ((op == [61]) && eqVB k n d x t k' n' d' x' t') || ((op == [60, 62]) && !(eqVB k n d x t k' n' d' x' t'))
 else applyB op k n d x t k' n' d' x' t'
def meetB (op : List UInt8) (k : Int) (n : Bool) (d x : Int) (t : List UInt8) (k' : Int) (n' : Bool) (d' x' : Int) (t' : List UInt8) : Bool :=
 goodV k n d x t && goodV k' n' d' x' t' && meetT op (okK k) n d x t (okK k') n' d' x' t'
theorem okK_good {k : Int} {n : Bool} {d x : Int} {t : List UInt8} (h : goodV k n d x t = true) : goodV (okK k) n d x t = true := by
 unfold okK
 split
 ·
  next h0 =>
  subst h0
  obtain ⟨rfl, rfl, rfl⟩ := goodV_zero h (by decide)
  obtain rfl := goodV_empty h
  decide
 ·
  exact h
theorem okK_text {k : Int} {n : Bool} {d x : Int} {t : List UInt8} (h : goodV k n d x t = true) (h0 : k = 0) : valV 2 false 0 0 [] = valV (okK k) n d x t := by
 subst h0
 obtain ⟨rfl, rfl, rfl⟩ := goodV_zero h (by decide)
 obtain rfl := goodV_empty h
 rfl
theorem stepV_kind {o : Nat} {n : Bool} {d e : Int} {n' : Bool} {d' e' : Int} {k2 : Int} {n2 : Bool} {d2 x2 : Int} {t2 : List UInt8} (h : stepV o n d e n' d' e' = valV k2 n2 d2 x2 t2) : k2 ≠ 3 := by
 rintro rfl
 have put : ∀ r : DR, putV r ≠ valV 3 n2 d2 x2 t2 := fun r h => by
  unfold putV at h
  split at h
  ·
   simp at h
  ·
   simp at h
 unfold stepV powerV at h
 repeat' split at h
 all_goals first | exact put _ h | simp at h
theorem apply_true {op : List UInt8} {k : Int} {n : Bool} {d x : Int} {t : List UInt8} {k' : Int} {n' : Bool} {d' x' : Int} {t' : List UInt8} {k2 : Int} {n2 : Bool} {d2 x2 : Int} {t2 : List UInt8} (ga : goodV k n d x t = true) (gb : goodV k' n' d' x' t' = true) (h4 : k ≠ 4) (h4' : k' ≠ 4)
  (h : applyV op k n d x t k' n' d' x' t' = valV k2 n2 d2 x2 t2) : eqVB k2 n2 d2 x2 t2 3 false 0 0 trueT = applyB op k n d x t k' n' d' x' t' := by
 have no : k2 ≠ 3 → eqVB k2 n2 d2 x2 t2 3 false 0 0 trueT = false := fun hk => decide_eq_false fun e => hk e.1
 unfold applyV at h
 unfold applyB
 cases ho : opN op with
 | none =>
  rw [ho] at h
  refine no fun e => ?_
  subst e
  simp at h
 | some o =>
  rw [ho] at h
  show _ = (decide (6 ≤ o) && ordB o (compareV k n d x t k' n' d' x' t'))
  simp only [ga, gb, Bool.and_self, if_true] at h
  unfold workV at h
  rw [if_neg h4, if_neg h4'] at h
  unfold makeV at h
  by_cases h5 : o < 5
  ·
   rw [if_pos h5] at h
   rw [show decide (6 ≤ o) = false by simp; omega, Bool.false_and]
   refine no fun e => ?_
   subst e
   unfold reckV at h
   split at h
   ·
    simp at h
   ·
    split at h
    ·
     simp at h
    ·
     exact stepV_kind h rfl
  ·
   rw [if_neg h5] at h
   by_cases h6 : o = 5
   ·
    rw [if_pos h6] at h
    rw [show decide (6 ≤ o) = false by simp; omega, Bool.false_and]
    refine no fun e => ?_
    subst e
    unfold joinV at h
    split at h
    ·
     simp at h
    ·
     simp at h
   ·
    rw [if_neg h6] at h
    rw [show decide (6 ≤ o) = true by simp; omega, Bool.true_and]
    cases hb : ordB o (compareV k n d x t k' n' d' x' t') with
    | false =>
     rw [hb] at h
     refine decide_eq_false fun e => ?_
     obtain ⟨rfl, rfl, rfl, rfl, rfl⟩ := e
     simp at h
    | true =>
     rw [hb] at h
     have h2 : (3 : Int) = k2 ∧ false = n2 ∧ (0 : Int) = d2 ∧ (0 : Int) = x2 ∧ sV trueT = sV t2 := by simpa using h
     obtain ⟨rfl, rfl, rfl, rfl, h3⟩ := h2
     exact decide_eq_true ⟨rfl, rfl, rfl, rfl, (sV_inj h3).symm⟩
set_option maxRecDepth 8000 in
set_option maxHeartbeats 2000000 in
theorem orTextI (k : Int) (n : Bool) (d x : Int) (t : List UInt8) (w : World) (ga : goodV k n d x t = true) :
  Calls Tryz.prog 82 #[valV k n d x t] w fun e w' => e = .returned (valV (okK k) n d x t) ∧ Ext w w' := by
 obtain ⟨u0, u1, e0, e1, s0, s1, B0, B1, X⟩ := mkB2 w [.int .i64 k, .bool n, .int .i64 d, .int .i64 x, sV t] [.int .i64 0, .bool false, .int .i64 0, .int .i64 0, sV []] 26 26
 obtain ⟨a0, a1, a2, a3, a4⟩ := Vec.five (B0)
 by_cases h0 : k = 0
 ·
  rw [← okK_text ga h0]
  subst h0
  clear ga
  go_enter Tryz.func82, Tryz.ntmps82
  go_wp2_with fail
  clear e0 e1 s0 s1 a0 a1 a2 a3 a4
  refine (textVI [] u1).mono ?_
  rintro e w1 ⟨rfl, f1⟩
  obtain ⟨wy, hy, FX, ⟨b0, b1, b2, b3, b4⟩, ⟨fb0, fb1, fb2, fb3, fb4⟩, fd0, fd1, fd2, fd3, fd4⟩ := fin5 (B1.later f1) (xt X f1) (by omega) 2 false 0 0 []
  go_wp2_with fail
  exact bodyPost_ret (v := valV 2 false 0 0 []) (by simp [results, Tryz.results82, go_sem, fd0, fd1, fd2, fd3, fd4]) rfl ⟨rfl, FX⟩
 ·
  rw [show okK k = k from if_neg h0]
  clear ga
  have hk : (k == 0) = false := by simpa using h0
  go_enter Tryz.func82, Tryz.ntmps82
  obtain ⟨wy, hy, FX, ⟨b0, b1, b2, b3, b4⟩, ⟨fb0, fb1, fb2, fb3, fb4⟩, fd0, fd1, fd2, fd3, fd4⟩ := fin5 (B1) (X) (by omega) k n d x t
  go_wp2_with fail
  exact bodyPost_ret (v := valV k n d x t) (by simp [results, Tryz.results82, go_sem, fd0, fd1, fd2, fd3, fd4]) rfl ⟨rfl, FX⟩
set_option maxRecDepth 8000 in
set_option maxHeartbeats 20000000 in
theorem meetsI (op : List UInt8) (k : Int) (n : Bool) (d x : Int) (t : List UInt8) (k' : Int) (n' : Bool) (d' x' : Int) (t' : List UInt8) (w : World) (ho : op.length ≤ 1048576) (hl : t.length ≤ 1048576) (hl' : t'.length ≤ 1048576) (d1 : -9223372036854775808 ≤ d) (d2 : d ≤ 9223372036854775807) (d1' : -9223372036854775808 ≤ d') (d2' : d' ≤ 9223372036854775807) (hT : Tens w) (hE : ErrTab w) (hI : ItoaC w) :
  Calls Tryz.prog 31 #[valV k n d x t, sV op, valV k' n' d' x' t'] w fun e w' => e = .returned (.bool (meetB op k n d x t k' n' d' x' t')) ∧ Ext w w' := by
 obtain ⟨R, hR⟩ : ∃ R, meetB op k n d x t k' n' d' x' t' = R := ⟨_, rfl⟩
 have HR0 : Hid (meetB op k n d x t k' n' d' x' t' = R) := hR
 rw [hR]
 clear hR
 obtain ⟨u0, u1, h0, h1, s0, s1, B0, B1, X⟩ := mkB2 w [.int .i64 k, .bool n, .int .i64 d, .int .i64 x, sV t] [.int .i64 k', .bool n', .int .i64 d', .int .i64 x', sV t'] 26 26
 obtain ⟨a0, a1, a2, a3, a4⟩ := Vec.five (B0)
 go_enter Tryz.func31, Tryz.ntmps31
 go_wp2_with fail
 clear h0 h1 s0 s1 a0 a1 a2 a3 a4
 refine (goodVI k n d x t u1 (by omega) d1 d2 (hT.later X) (hE.later X)).mono ?_
 rintro e w2 ⟨rfl, e2⟩
 have D0 := B0.later e2
 have D1 := B1.later e2
 have X2 := xt X e2
 clear B0 B1 X
 obtain ⟨g, hg⟩ : ∃ g, goodV k n d x t = g := ⟨_, rfl⟩
 rw [hg]
 cases g
 ·
  have HR : Hid (false = R) := by show _ = _; rw [← HR0.out]; unfold meetB; rw [hg]; rfl
  clear hT hE hI
  go_wp2_with fail
  go_ret
  exact ⟨congrArg (fun z => Ending.returned (.bool z)) HR.out, X2⟩
 ·
  obtain ⟨c0, c1, c2, c3, c4⟩ := Vec.five (D1)
  go_wp2_with fail
  clear c0 c1 c2 c3 c4
  refine (goodVI k' n' d' x' t' w2 (by omega) d1' d2' (hT.later X2) (hE.later X2)).mono ?_
  rintro e w3 ⟨rfl, e3⟩
  have E0 := D0.later e3
  have E1 := D1.later e3
  have X3 := xt X2 e3
  clear D0 D1
  obtain ⟨g', hg'⟩ : ∃ g, goodV k' n' d' x' t' = g := ⟨_, rfl⟩
  rw [hg']
  cases g'
  ·
   have HR : Hid (false = R) := by show _ = _; rw [← HR0.out]; unfold meetB; rw [hg, hg']; rfl
   clear hT hE hI
   go_wp2_with fail
   go_ret
   exact ⟨congrArg (fun z => Ending.returned (.bool z)) HR.out, X3⟩
  ·
   have HR1 : Hid (meetT op (okK k) n d x t (okK k') n' d' x' t' = R) := by show _ = _; rw [← HR0.out]; unfold meetB; rw [hg, hg']; rfl
   have CA : Hid (∀ W, Calls Tryz.prog 82 #[valV k n d x t] W fun e w' => e = .returned (valV (okK k) n d x t) ∧ Ext W w') := fun W => orTextI k n d x t W hg
   have CB : Hid (∀ W, Calls Tryz.prog 82 #[valV k' n' d' x' t'] W fun e w' => e = .returned (valV (okK k') n' d' x' t') ∧ Ext W w') := fun W => orTextI k' n' d' x' t' W hg'
   have GA := okK_good hg
   have GB := okK_good hg'
   obtain ⟨p, hp⟩ : ∃ p, okK k = p := ⟨_, rfl⟩
   obtain ⟨q, hq⟩ : ∃ q, okK k' = q := ⟨_, rfl⟩
   rw [hp] at HR1 CA GA
   rw [hq] at HR1 CB GB
   have HG : Hid (goodV p n d x t = true ∧ goodV q n' d' x' t' = true) := ⟨GA, GB⟩
   clear HR0 hg hg' GA GB hp hq
   go_wp2_with fail
   refine wp_region_letters (fun lx : Nat → Value => { tmps := #[valV k n d x t, sV op, valV k' n' d' x' t', .pointer (some ⟨w.heap.size, 0, none⟩), undef, .pointer (some ⟨w.heap.size + 1, 0, none⟩), .bool false, valV k n d x t, .bool true, .bool false, .bool false, valV k' n' d' x' t', .bool true, .bool false, .bool false, lx 15, lx 16, lx 17, lx 18, undef, undef, undef, undef, undef, undef, undef, undef, undef, undef, undef, undef, undef, undef, undef, undef, undef, undef, undef, undef, undef, undef, undef, undef, undef, undef, undef, undef, undef, undef, undef, undef, undef, undef, undef, undef, undef, undef, undef, undef], defers := [] }) (fun L lx lw => Hid (Ext w lw ∧ (L 0 = true → lx 15 = valV k n d x t) ∧ (L 1 = true → lx 16 = valV p n d x t) ∧ (L 2 = true → lx 17 = valV k' n' d' x' t') ∧ (L 3 = true → lx 18 = valV q n' d' x' t') ∧ (L 4 = false → Vec lw (w.heap.size) [.int .i64 k, .bool n, .int .i64 d, .int .i64 x, sV t]) ∧ (L 4 = true → Vec lw (w.heap.size) [.int .i64 p, .bool n, .int .i64 d, .int .i64 x, sV t]) ∧ (L 4 = true → L 0 = true) ∧ (L 5 = false → Vec lw (w.heap.size + 1) [.int .i64 k', .bool n', .int .i64 d', .int .i64 x', sV t']) ∧ (L 5 = true → Vec lw (w.heap.size + 1) [.int .i64 q, .bool n', .int .i64 d', .int .i64 x', sV t']) ∧ (L 5 = true → L 2 = true))) rfl (by kernel_rfl) (fun jj => undef) rfl ?_ ?_ ?_
   ·
    exact ⟨xd X3, (fun h => by cases h), (fun h => by cases h), (fun h => by cases h), (fun h => by cases h), fun _ => E0.later (xd (xr _)), (fun h => by cases h), (fun h => by cases h), fun _ => E1.later (xd (xr _)), (fun h => by cases h), (fun h => by cases h)⟩
   ·
    intro L lx wl i o K hK ho hL haf hI
    obtain ⟨X, f0, f1, f2, f3, f4, f5, f6, f7, f8, f9⟩ := hI.out
    match i, ho, hL, haf, hK with
    | 0, ho, hL, haf, hK =>
     cases ho
     (try dsimp only)
     have h6 : L 4 = false := by
      cases hh : L 4 with
      | false => rfl
      | true => have := f6 hh; rw [hL] at this; cases this
     have bx := f4 h6
     obtain ⟨a0, a1, a2, a3, a4⟩ := Vec.five (bx)
     go_wp2_with fail
     exact hK (fun jj => if jj = 15 then valV k n d x t else lx jj) _ ⟨X, (fun _ => rfl), f1, f2, f3, f4, f5, (fun _ => rfl), f7, f8, f9⟩
    | 1, ho, hL, haf, hK =>
     cases ho
     (try dsimp only)
     rw [f0 (haf ⟨0, .data⟩ (by simp) rfl)]
     go_wp2_with fail
     refine (CA.out wl).mono ?_
     rintro rr w' ⟨rfl, E⟩
     go_wp2_with fail
     exact hK (fun jj => if jj = 16 then valV p n d x t else if jj = 15 then valV k n d x t else lx jj) _ ⟨xt X E, (fun _ => rfl), (fun _ => rfl), f2, f3, (fun h => (f4 h).later E), (fun h => (f5 h).later E), f6, (fun h => (f7 h).later E), (fun h => (f8 h).later E), f9⟩
    | 2, ho, hL, haf, hK =>
     cases ho
     (try dsimp only)
     have h6 : L 5 = false := by
      cases hh : L 5 with
      | false => rfl
      | true => have := f9 hh; rw [hL] at this; cases this
     have bx := f7 h6
     obtain ⟨a0, a1, a2, a3, a4⟩ := Vec.five (bx)
     go_wp2_with fail
     exact hK (fun jj => if jj = 17 then valV k' n' d' x' t' else lx jj) _ ⟨X, f0, f1, (fun _ => rfl), f3, f4, f5, f6, f7, f8, (fun _ => rfl)⟩
    | 3, ho, hL, haf, hK =>
     cases ho
     (try dsimp only)
     rw [f2 (haf ⟨2, .data⟩ (by simp) rfl)]
     go_wp2_with fail
     refine (CB.out wl).mono ?_
     rintro rr w' ⟨rfl, E⟩
     go_wp2_with fail
     exact hK (fun jj => if jj = 18 then valV q n' d' x' t' else if jj = 17 then valV k' n' d' x' t' else lx jj) _ ⟨xt X E, f0, f1, (fun _ => rfl), (fun _ => rfl), (fun h => (f4 h).later E), (fun h => (f5 h).later E), f6, (fun h => (f7 h).later E), (fun h => (f8 h).later E), f9⟩
    | 4, ho, hL, haf, hK =>
     cases ho
     (try dsimp only)
     have h0 : Hid (L 0 = true) := haf ⟨0, .phase⟩ (by simp) rfl
     rw [f1 (haf ⟨1, .data⟩ (by simp) rfl)]
     have bx := f4 hL
     obtain ⟨b0, b1, b2, b3, b4⟩ := Vec.five (bx)
     obtain ⟨fb0, fb1, fb2, fb3, fb4⟩ := Vec.fiveF (bx)
     have hX := Ext.setL (b := w.heap.size) (by omega) [.int .i64 p, .bool n, .int .i64 d, .int .i64 x, sV t] 0 X
     have hB := bx.put5 (.int .i64 p) (.bool n) (.int .i64 d) (.int .i64 x) (sV t)
     go_wp2_with fail
     exact hK (fun jj => if jj = 16 then valV p n d x t else lx jj) _ ⟨hX, f0, (fun _ => rfl), f2, f3, (fun h => by cases h), (fun _ => hB), (fun _ => h0.out), (fun h => Vec.farL (k := w.heap.size) (by omega) [.int .i64 p, .bool n, .int .i64 d, .int .i64 x, sV t] 0 (f7 h)), (fun h => Vec.farL (k := w.heap.size) (by omega) [.int .i64 p, .bool n, .int .i64 d, .int .i64 x, sV t] 0 (f8 h)), f9⟩
    | 5, ho, hL, haf, hK =>
     cases ho
     (try dsimp only)
     have h2 : Hid (L 2 = true) := haf ⟨2, .phase⟩ (by simp) rfl
     rw [f3 (haf ⟨3, .data⟩ (by simp) rfl)]
     have bx := f7 hL
     obtain ⟨b0, b1, b2, b3, b4⟩ := Vec.five (bx)
     obtain ⟨fb0, fb1, fb2, fb3, fb4⟩ := Vec.fiveF (bx)
     have hX := Ext.setL (b := w.heap.size + 1) (by omega) [.int .i64 q, .bool n', .int .i64 d', .int .i64 x', sV t'] 0 X
     have hB := bx.put5 (.int .i64 q) (.bool n') (.int .i64 d') (.int .i64 x') (sV t')
     go_wp2_with fail
     exact hK (fun jj => if jj = 18 then valV q n' d' x' t' else lx jj) _ ⟨hX, f0, f1, f2, (fun _ => rfl), (fun h => Vec.farL (k := w.heap.size + 1) (by omega) [.int .i64 q, .bool n', .int .i64 d', .int .i64 x', sV t'] 0 (f4 h)), (fun h => Vec.farL (k := w.heap.size + 1) (by omega) [.int .i64 q, .bool n', .int .i64 d', .int .i64 x', sV t'] 0 (f5 h)), f6, (fun h => by cases h), (fun _ => hB), (fun _ => h2.out)⟩
    | k + 6, ho, _, _, _ => simp at ho
   ·
    intro L lx wr hall hI
    obtain ⟨XR, f0, f1, f2, f3, f4, f5, f6, f7, f8, f9⟩ := hI.out
    clear hI
    replace f0 := f0 (hall 0 (by simp))
    replace f1 := f1 (hall 1 (by simp))
    replace f2 := f2 (hall 2 (by simp))
    replace f3 := f3 (hall 3 (by simp))
    have BR4 := f5 (hall 4 (by simp))
    have BR5 := f8 (hall 5 (by simp))
    (try dsimp only)
    rw [f0, f1, f2, f3]
    clear hall f0 f1 f2 f3 f4 f5 f6 f7 f8 f9
    clear E0 E1 CA CB
    obtain ⟨E, hEq⟩ : ∃ E, eqVB p n d x t q n' d' x' t' = E := ⟨_, rfl⟩
    have VE := fun W => val_eql p n d x t q n' d' x' t' W
    have VN := fun W => val_neq p n d x t q n' d' x' t' W
    rw [hEq] at VE VN
    obtain ⟨o1, ho1⟩ : ∃ o, (op == [61]) = o := ⟨_, rfl⟩
    obtain ⟨o2, ho2⟩ : ∃ o, (op == [60, 62]) = o := ⟨_, rfl⟩
    have Q0 := BR4
    have Q1 := BR5
    clear BR4 BR5
    obtain ⟨a0, a1, a2, a3, a4⟩ := Vec.five (Q0)
    obtain ⟨c0, c1, c2, c3, c4⟩ := Vec.five (Q1)
    go_wp2_with fail
    clear a0 a1 a2 a3 a4 c0 c1 c2 c3 c4
    refine (isErrI p n d x t wr).mono ?_
    rintro e w4 ⟨rfl, e4⟩
    have XS := xt XR e4
    have R0 := Q0.later e4
    have R1 := Q1.later e4
    clear Q0 Q1
    obtain ⟨a0, a1, a2, a3, a4⟩ := Vec.five (R0)
    obtain ⟨c0, c1, c2, c3, c4⟩ := Vec.five (R1)
    by_cases p4 : p = 4
    ·
     subst p4
     rw [show decide ((4 : Int) = 4) = true from rfl]
     go_wp2_with fail
     clear a0 a1 a2 a3 a4 c0 c1 c2 c3 c4
     refine (isErrI q n' d' x' t' w4).mono ?_
     rintro e w5 ⟨rfl, e5⟩
     have XT := xt XS e5
     have U0 := R0.later e5
     have U1 := R1.later e5
     clear R0 R1
     by_cases q4 : q = 4
     ·
      subst q4
      rw [show decide ((4 : Int) = 4) = true from rfl]
      have HR2 : Hid (((o1 && E) || (o2 && !E)) = R) := by show _ = _; rw [← HR1.out]; unfold meetT; rw [if_neg (by intro h; exact h.2 rfl), if_pos (by exact Or.inl rfl), hEq, ho1, ho2]
      obtain ⟨a0, a1, a2, a3, a4⟩ := Vec.five (U0)
      obtain ⟨c0, c1, c2, c3, c4⟩ := Vec.five (U1)
      go_wp2_with fail
      clear a0 a1 a2 a3 a4 c0 c1 c2 c3 c4
      refine (isErrI 4 n d x t w5).mono ?_
      rintro e w6 ⟨rfl, e6⟩
      rw [show decide ((4 : Int) = 4) = true from rfl]
      have XU := xt XT e6
      obtain ⟨a0, a1, a2, a3, a4⟩ := Vec.five ((U0.later e6))
      obtain ⟨c0, c1, c2, c3, c4⟩ := Vec.five ((U1.later e6))
      clear HR1 U0 U1
      cases o1 <;> cases E <;> cases o2
      all_goals
       clear hEq
       go_wp2_with fail
       go_ret
       exact ⟨congrArg (fun z => Ending.returned (.bool z)) HR2.out, XU⟩
     ·
      rw [decide_eq_false q4]
      have HR : Hid (false = R) := by show _ = _; rw [← HR1.out]; unfold meetT; rw [if_pos ⟨rfl, q4⟩]
      clear U0 U1
      go_wp2_with fail
      go_ret
      exact ⟨congrArg (fun z => Ending.returned (.bool z)) HR.out, XT⟩
    ·
     rw [decide_eq_false p4]
     go_wp2_with fail
     clear a0 a1 a2 a3 a4 c0 c1 c2 c3 c4
     refine (isErrI p n d x t w4).mono ?_
     rintro e w5 ⟨rfl, e5⟩
     rw [decide_eq_false p4]
     have XT := xt XS e5
     have U0 := R0.later e5
     have U1 := R1.later e5
     clear R0 R1
     obtain ⟨a0, a1, a2, a3, a4⟩ := Vec.five (U0)
     obtain ⟨c0, c1, c2, c3, c4⟩ := Vec.five (U1)
     by_cases pq : p = q
     ·
      subst pq
      have hpq : (p != p) = false := by simp
      have q4 := p4
      obtain ⟨k2, n2, dd2, x2, t2, hv⟩ := applyV_val op p n d x t p n' d' x' t'
      have HR : Hid (eqVB k2 n2 dd2 x2 t2 3 false 0 0 trueT = R) := by show _ = _; rw [apply_true HG.out.1 HG.out.2 p4 q4 hv, ← HR1.out]; unfold meetT; rw [if_neg (fun h => p4 h.1), if_neg (fun h => h.elim p4 fun h => h rfl)]
      have CP : Hid (Calls Tryz.prog 18 #[sV op, valV p n d x t, valV p n' d' x' t'] w5 fun e w' => e = .returned (valV k2 n2 dd2 x2 t2) ∧ Ext w5 w') := by
       show Calls _ _ _ _ _
       rw [← hv]
       exact applyI op p n d x t p n' d' x' t' w5 ho hl hl' d1 d2 d1' d2' (hT.later XT) (hE.later XT) (hI.later XT)
      have CT : Hid (∀ W, Calls Tryz.prog 50 #[.bool true] W fun e w' => e = .returned (valV 3 false 0 0 trueT) ∧ Ext W w') := fun W => boolVI true W
      obtain ⟨tr, htr⟩ : ∃ tr, trueT = tr := ⟨_, rfl⟩
      rw [htr] at CT HR
      have VL := fun W => val_eql k2 n2 dd2 x2 t2 3 false 0 0 tr W
      clear htr hv HR1 U0 U1 VE VN hEq
      go_wp2_with fail
      refine (CP.out).mono ?_
      rintro e w6 ⟨rfl, e6⟩
      go_wp2_with fail
      refine (CT.out w6).mono ?_
      rintro e w7 ⟨rfl, e7⟩
      go_wp2_with fail
      go_ret
      exact ⟨congrArg (fun z => Ending.returned (.bool z)) HR.out, xt (xt XT e6) e7⟩
     ·
      have hpq : (p != q) = true := by simpa using pq
      have HR2 : Hid (((o1 && E) || (o2 && !E)) = R) := by show _ = _; rw [← HR1.out]; unfold meetT; rw [if_neg (by intro h; exact p4 h.1), if_pos (by exact Or.inr pq), hEq, ho1, ho2]
      clear HR1 U0 U1
      cases o1 <;> cases E <;> cases o2
      all_goals
       clear hEq
       go_wp2_with fail
       go_ret
       exact ⟨congrArg (fun z => Ending.returned (.bool z)) HR2.out, XT⟩

end Go.Proofs.YtkadkfmidlhedaaGreatDoor

