/-
  Chapter 10: the program's scan and the specification's reading are one, plain.
-/
import Derived.Test.YthedbjjncnddbaaDoorK3
namespace Go.Proofs.YthedbjjncnddbaaDoor
open Go.RowKit

theorem scan_step {k last p : Nat} {c : BL} {f : KT} (h : nextP last c = some p) : scanK (k + 1) last c f = scanK k p (c.drop (partLen p c)) (takeP p (c.take (partLen p c)) f) := by
  show (match nextP last c with | none => _ | some p => _) = _
  rw [h]
theorem scan_stop {k last : Nat} {c : BL} {f : KT} (h : nextP last c = none) : scanK (k + 1) last c f = (f, c, last) := by
  show (match nextP last c with | none => _ | some p => _) = _
  rw [h]
theorem next0 (c : BL) : nextP 0 c = (cond (decide (0 < partLen 1 c)) (some 1) (cond (decide (0 < partLen 2 c)) (some 2) (cond (decide (0 < partLen 3 c)) (some 3) (cond (decide (0 < partLen 8 c)) (some 8) none)))) := by
  unfold nextP fitP
  rw [show List.range 10 = [0, 1, 2, 3, 4, 5, 6, 7, 8, 9] from rfl]
  simp only [List.find?_cons]
  generalize decide (0 < partLen 0 c) = b0
  generalize decide (0 < partLen 1 c) = b1
  generalize decide (0 < partLen 2 c) = b2
  generalize decide (0 < partLen 3 c) = b3
  generalize decide (0 < partLen 4 c) = b4
  generalize decide (0 < partLen 5 c) = b5
  generalize decide (0 < partLen 6 c) = b6
  generalize decide (0 < partLen 7 c) = b7
  generalize decide (0 < partLen 8 c) = b8
  generalize decide (0 < partLen 9 c) = b9
  cases b1 <;> cases b2 <;> cases b3 <;> cases b8 <;> rfl
theorem next1 (c : BL) : nextP 1 c = (cond (decide (0 < partLen 2 c)) (some 2) (cond (decide (0 < partLen 3 c)) (some 3) (cond (decide (0 < partLen 8 c)) (some 8) none))) := by
  unfold nextP fitP
  rw [show List.range 10 = [0, 1, 2, 3, 4, 5, 6, 7, 8, 9] from rfl]
  simp only [List.find?_cons]
  generalize decide (0 < partLen 0 c) = b0
  generalize decide (0 < partLen 1 c) = b1
  generalize decide (0 < partLen 2 c) = b2
  generalize decide (0 < partLen 3 c) = b3
  generalize decide (0 < partLen 4 c) = b4
  generalize decide (0 < partLen 5 c) = b5
  generalize decide (0 < partLen 6 c) = b6
  generalize decide (0 < partLen 7 c) = b7
  generalize decide (0 < partLen 8 c) = b8
  generalize decide (0 < partLen 9 c) = b9
  cases b2 <;> cases b3 <;> cases b8 <;> rfl
theorem next2 (c : BL) : nextP 2 c = (cond (decide (0 < partLen 3 c)) (some 3) none) := by
  unfold nextP fitP
  rw [show List.range 10 = [0, 1, 2, 3, 4, 5, 6, 7, 8, 9] from rfl]
  simp only [List.find?_cons]
  generalize decide (0 < partLen 0 c) = b0
  generalize decide (0 < partLen 1 c) = b1
  generalize decide (0 < partLen 2 c) = b2
  generalize decide (0 < partLen 3 c) = b3
  generalize decide (0 < partLen 4 c) = b4
  generalize decide (0 < partLen 5 c) = b5
  generalize decide (0 < partLen 6 c) = b6
  generalize decide (0 < partLen 7 c) = b7
  generalize decide (0 < partLen 8 c) = b8
  generalize decide (0 < partLen 9 c) = b9
  cases b3 <;> rfl
theorem next3 (c : BL) : nextP 3 c = (cond (decide (0 < partLen 4 c)) (some 4) (cond (decide (0 < partLen 7 c)) (some 7) (cond (decide (0 < partLen 9 c)) (some 9) none))) := by
  unfold nextP fitP
  rw [show List.range 10 = [0, 1, 2, 3, 4, 5, 6, 7, 8, 9] from rfl]
  simp only [List.find?_cons]
  generalize decide (0 < partLen 0 c) = b0
  generalize decide (0 < partLen 1 c) = b1
  generalize decide (0 < partLen 2 c) = b2
  generalize decide (0 < partLen 3 c) = b3
  generalize decide (0 < partLen 4 c) = b4
  generalize decide (0 < partLen 5 c) = b5
  generalize decide (0 < partLen 6 c) = b6
  generalize decide (0 < partLen 7 c) = b7
  generalize decide (0 < partLen 8 c) = b8
  generalize decide (0 < partLen 9 c) = b9
  cases b4 <;> cases b7 <;> cases b9 <;> rfl
theorem next4 (c : BL) : nextP 4 c = (cond (decide (0 < partLen 5 c)) (some 5) (cond (decide (0 < partLen 6 c)) (some 6) none)) := by
  unfold nextP fitP
  rw [show List.range 10 = [0, 1, 2, 3, 4, 5, 6, 7, 8, 9] from rfl]
  simp only [List.find?_cons]
  generalize decide (0 < partLen 0 c) = b0
  generalize decide (0 < partLen 1 c) = b1
  generalize decide (0 < partLen 2 c) = b2
  generalize decide (0 < partLen 3 c) = b3
  generalize decide (0 < partLen 4 c) = b4
  generalize decide (0 < partLen 5 c) = b5
  generalize decide (0 < partLen 6 c) = b6
  generalize decide (0 < partLen 7 c) = b7
  generalize decide (0 < partLen 8 c) = b8
  generalize decide (0 < partLen 9 c) = b9
  cases b5 <;> cases b6 <;> rfl
theorem next5 (c : BL) : nextP 5 c = (cond (decide (0 < partLen 6 c)) (some 6) (cond (decide (0 < partLen 7 c)) (some 7) (cond (decide (0 < partLen 9 c)) (some 9) none))) := by
  unfold nextP fitP
  rw [show List.range 10 = [0, 1, 2, 3, 4, 5, 6, 7, 8, 9] from rfl]
  simp only [List.find?_cons]
  generalize decide (0 < partLen 0 c) = b0
  generalize decide (0 < partLen 1 c) = b1
  generalize decide (0 < partLen 2 c) = b2
  generalize decide (0 < partLen 3 c) = b3
  generalize decide (0 < partLen 4 c) = b4
  generalize decide (0 < partLen 5 c) = b5
  generalize decide (0 < partLen 6 c) = b6
  generalize decide (0 < partLen 7 c) = b7
  generalize decide (0 < partLen 8 c) = b8
  generalize decide (0 < partLen 9 c) = b9
  cases b6 <;> cases b7 <;> cases b9 <;> rfl
theorem next6 (c : BL) : nextP 6 c = (cond (decide (0 < partLen 7 c)) (some 7) (cond (decide (0 < partLen 9 c)) (some 9) none)) := by
  unfold nextP fitP
  rw [show List.range 10 = [0, 1, 2, 3, 4, 5, 6, 7, 8, 9] from rfl]
  simp only [List.find?_cons]
  generalize decide (0 < partLen 0 c) = b0
  generalize decide (0 < partLen 1 c) = b1
  generalize decide (0 < partLen 2 c) = b2
  generalize decide (0 < partLen 3 c) = b3
  generalize decide (0 < partLen 4 c) = b4
  generalize decide (0 < partLen 5 c) = b5
  generalize decide (0 < partLen 6 c) = b6
  generalize decide (0 < partLen 7 c) = b7
  generalize decide (0 < partLen 8 c) = b8
  generalize decide (0 < partLen 9 c) = b9
  cases b7 <;> cases b9 <;> rfl
theorem next7 (c : BL) : nextP 7 c = (cond (decide (0 < partLen 9 c)) (some 9) none) := by
  unfold nextP fitP
  rw [show List.range 10 = [0, 1, 2, 3, 4, 5, 6, 7, 8, 9] from rfl]
  simp only [List.find?_cons]
  generalize decide (0 < partLen 0 c) = b0
  generalize decide (0 < partLen 1 c) = b1
  generalize decide (0 < partLen 2 c) = b2
  generalize decide (0 < partLen 3 c) = b3
  generalize decide (0 < partLen 4 c) = b4
  generalize decide (0 < partLen 5 c) = b5
  generalize decide (0 < partLen 6 c) = b6
  generalize decide (0 < partLen 7 c) = b7
  generalize decide (0 < partLen 8 c) = b8
  generalize decide (0 < partLen 9 c) = b9
  cases b9 <;> rfl
theorem next8 (c : BL) : nextP 8 c = (cond (decide (0 < partLen 9 c)) (some 9) none) := by
  unfold nextP fitP
  rw [show List.range 10 = [0, 1, 2, 3, 4, 5, 6, 7, 8, 9] from rfl]
  simp only [List.find?_cons]
  generalize decide (0 < partLen 0 c) = b0
  generalize decide (0 < partLen 1 c) = b1
  generalize decide (0 < partLen 2 c) = b2
  generalize decide (0 < partLen 3 c) = b3
  generalize decide (0 < partLen 4 c) = b4
  generalize decide (0 < partLen 5 c) = b5
  generalize decide (0 < partLen 6 c) = b6
  generalize decide (0 < partLen 7 c) = b7
  generalize decide (0 < partLen 8 c) = b8
  generalize decide (0 < partLen 9 c) = b9
  cases b9 <;> rfl
theorem next9 (c : BL) : nextP 9 c = none := by
  unfold nextP fitP
  rw [show List.range 10 = [0, 1, 2, 3, 4, 5, 6, 7, 8, 9] from rfl]
  simp only [List.find?_cons]
  generalize decide (0 < partLen 0 c) = b0
  generalize decide (0 < partLen 1 c) = b1
  generalize decide (0 < partLen 2 c) = b2
  generalize decide (0 < partLen 3 c) = b3
  generalize decide (0 < partLen 4 c) = b4
  generalize decide (0 < partLen 5 c) = b5
  generalize decide (0 < partLen 6 c) = b6
  generalize decide (0 < partLen 7 c) = b7
  generalize decide (0 < partLen 8 c) = b8
  generalize decide (0 < partLen 9 c) = b9
  rfl
theorem scan9 (k : Nat) (c : BL) (f : KT) : scanK k 9 c f = (f, c, 9) := by
  cases k with
  | zero => rfl
  | succ k => exact scan_stop (next9 c)
theorem may10 : mayB 10 0 = false ∧ mayB 10 1 = false ∧ mayB 10 2 = false ∧ mayB 10 3 = true ∧ mayB 10 4 = false ∧ mayB 10 5 = true ∧ mayB 10 6 = true ∧ mayB 10 7 = true ∧ mayB 10 8 = true ∧ mayB 10 9 = true := by decide
def SecRel (o : Option (KT × BL)) (s : KT × BL × Nat) : Prop := match o with
  | some x => s.1 = x.1 ∧ s.2.1 = x.2 ∧ mayB 10 s.2.2 = true
  | none => mayB 10 s.2.2 = false ∨ (s.2.1 ≠ [] ∧ Lib.hasPrefix s.2.1 [59] = false)

theorem mem_tw {P : UInt8 → Bool} {l : BL} {x : UInt8} (h : x ∈ l.takeWhile P) : P x = true := by
  induction l with
  | nil => cases h
  | cons y l ih =>
    cases hy : P y with
    | false => simp [List.takeWhile, hy] at h
    | true =>
      simp [List.takeWhile, hy] at h
      rcases h with h | h
      · rw [h]; exact hy
      · exact ih h
theorem pre_head {c : BL} {x : UInt8} (h : Lib.hasPrefix c [x] = true) : ∃ r, c = x :: r := by
  cases c with
  | nil => simp [Lib.hasPrefix, List.isPrefixOf] at h
  | cons y r =>
    simp [Lib.hasPrefix, List.isPrefixOf] at h
    exact ⟨r, by rw [h]⟩
theorem pre_cons (y : UInt8) (r : BL) (x : UInt8) : Lib.hasPrefix (y :: r) [x] = (x == y) := by
  simp [Lib.hasPrefix, List.isPrefixOf]
theorem qT_parts {c t r : BL} (h : qT c = some (t, r)) : c = 34 :: (t ++ 34 :: r) ∧ (∀ x ∈ t, x ≠ 34) ∧ t ≠ [] := by
  cases c with
  | nil => cases h
  | cons c0 r0 =>
    have h : (if (c0 == 34) = true then (if (r0.dropWhile nq) ≠ [] ∧ (r0.takeWhile nq) ≠ [] ∧ (r0.takeWhile nq).length ≤ 20 ∧ plainB (r0.takeWhile nq) = true then some (r0.takeWhile nq, (r0.dropWhile nq).drop 1) else none) else none) = some (t, r) := h
    split at h
    · rename_i hc
      split at h
      · rename_i hh
        obtain ⟨h1, h2, _, _⟩ := hh
        cases h
        have hc0 : c0 = 34 := by simpa using hc
        obtain ⟨y, q, hq⟩ : ∃ y q, r0.dropWhile nq = y :: q := by
          cases hd : r0.dropWhile nq with
          | nil => exact absurd hd h1
          | cons y q => exact ⟨y, q, rfl⟩
        have hy : y = 34 := by
          have := nq_head r0
          rw [hq] at this
          rw [pre_cons] at this
          simp at this
          exact this.symm
        refine ⟨?_, ?_, h2⟩
        · rw [hc0]
          congr 1
          show r0 = r0.takeWhile nq ++ 34 :: (r0.dropWhile nq).drop 1
          rw [hq]
          show r0 = r0.takeWhile nq ++ 34 :: q
          rw [← hy, ← hq]
          exact (List.takeWhile_append_dropWhile (p := nq) (l := r0)).symm
        · intro x hx
          have := mem_tw hx
          simpa [nq] using this
      · cases h
    · cases h
theorem trim_quotes {t : BL} (h : ∀ x ∈ t, x ≠ 34) (hne : t ≠ []) : Lib.trimS (34 :: (t ++ [34])) [34] = t := by
  have hc : ∀ x, ([(34 : UInt8)].contains x) = (x == 34) := fun x => Lib.contains_one 34 x
  have h1 : Lib.trimRightS (34 :: (t ++ [34])) [34] = 34 :: t := by
    unfold Lib.trimRightS
    have e : (34 :: (t ++ [34])).reverse = 34 :: (t.reverse ++ [34]) := by simp
    rw [e]
    obtain ⟨z, q, hz⟩ : ∃ z q, t.reverse = z :: q := by
      cases hr : t.reverse with
      | nil => exact absurd (List.reverse_eq_nil_iff.1 hr) hne
      | cons z q => exact ⟨z, q, rfl⟩
    have hz34 : z ≠ 34 := h z (by rw [← List.mem_reverse, hz]; simp)
    rw [hz]
    have d1 : ([(34 : UInt8)].contains (34 : UInt8)) = true := by decide
    have d2 : ([(34 : UInt8)].contains z) = false := by rw [hc]; simpa using hz34
    show ((34 :: ((z :: q) ++ [34])).dropWhile (fun x => [(34 : UInt8)].contains x)).reverse = _
    simp only [List.cons_append, List.dropWhile, d1, d2]
    rw [← List.cons_append, ← hz]
    simp
  unfold Lib.trimS
  rw [h1]
  unfold Lib.trimLeftS
  cases t with
  | nil => exact absurd rfl hne
  | cons y q =>
    have d1 : ([(34 : UInt8)].contains (34 : UInt8)) = true := by decide
    have d2 : ([(34 : UInt8)].contains y) = false := by rw [hc]; have := h y (by simp); simpa using this
    show (34 :: y :: q).dropWhile (fun x => [(34 : UInt8)].contains x) = _
    simp only [List.dropWhile, d1, d2]
theorem quo_taken {c t r : BL} (h : qT c = some (t, r)) : quoLen c = t.length + 2 ∧ Lib.trimS (c.take (t.length + 2)) [34] = t ∧ c.drop (t.length + 2) = r := by
  obtain ⟨h1, h2, h3⟩ := qT_parts h
  refine ⟨by unfold quoLen; rw [h], ?_, ?_⟩
  · have : c.take (t.length + 2) = 34 :: (t ++ [34]) := by
      rw [h1, show t.length + 2 = (t.length + 1) + 1 by omega, List.take_succ_cons]
      congr 1
      rw [List.take_append, List.take_of_length_le (by omega)]
      simp
    rw [this]
    exact trim_quotes h2 h3
  · rw [h1, show t.length + 2 = (t.length + 1) + 1 by omega, List.drop_succ_cons]
    rw [List.drop_append]
    simp

theorem aft (k last : Nat) (c b d : BL) (wn pn mn tn : Int) (g : Bool) (hn : nextP last c = cond (decide (0 < partLen 9 c)) (some 9) none) (hl : mayB 10 last = true) :
    SecRel ((quoS c).map fun x => (⟨false, b, x.1, wn, pn, mn, g, tn, d⟩, x.2)) (scanK (k + 1) last c ⟨false, b, [], wn, pn, mn, g, tn, d⟩) := by
  by_cases hq : Lib.hasPrefix c [34] = true
  · have hS : quoS c = qT c := by unfold quoS; rw [if_pos hq]
    rw [hS]
    cases hT : qT c with
    | none =>
      have h0 : partLen 9 c = 0 := by show quoLen c = 0; unfold quoLen; rw [hT]
      rw [h0] at hn
      rw [scan_stop hn]
      obtain ⟨r, hr⟩ := pre_head hq
      right
      refine ⟨by rw [hr]; simp, ?_⟩
      rw [hr, pre_cons]
      decide
    | some x =>
      obtain ⟨t, r⟩ := x
      obtain ⟨h1, h2, h3⟩ := quo_taken hT
      have h0 : partLen 9 c = t.length + 2 := h1
      rw [h0] at hn
      have hn' : nextP last c = some 9 := by rw [hn]; simp
      rw [scan_step hn', scan9, h0, h3]
      refine ⟨?_, rfl, may10.2.2.2.2.2.2.2.2.2⟩
      show takeP 9 (c.take (t.length + 2)) _ = _
      simp only [takeP, h2]
  · have hq' : Lib.hasPrefix c [34] = false := by simpa using hq
    have h0 : partLen 9 c = 0 := quoLen_no hq'
    rw [h0] at hn
    rw [scan_stop hn]
    have hS : quoS c = some ([], c) := by unfold quoS; rw [hq']; rfl
    rw [hS]
    exact ⟨rfl, rfl, hl⟩
theorem take_len {n : Nat} {c : BL} (h : n ≤ c.length) : ((c.take n).length : Int) = (n : Int) := by rw [List.length_take]; omega
theorem tim (k last : Nat) (c b : BL) (wn pn mn : Int) (g : Bool) (hn : nextP last c = cond (decide (0 < partLen 7 c)) (some 7) (cond (decide (0 < partLen 9 c)) (some 9) none)) (hl : mayB 10 last = true) :
    SecRel ((quoS (c.drop (runF 37 3 c))).map fun x => (⟨false, b, x.1, wn, pn, mn, g, runF 37 3 c, []⟩, x.2)) (scanK (k + 2) last c ⟨false, b, [], wn, pn, mn, g, 0, []⟩) := by
  obtain ⟨tn, htn⟩ : ∃ tn, runF 37 3 c = tn := ⟨_, rfl⟩
  have h7 : partLen 7 c = tn := htn
  have hle : tn ≤ c.length := by rw [← htn]; exact run_len _ _ _
  rw [htn]
  rw [h7] at hn
  rcases Nat.eq_zero_or_pos tn with h0 | h0
  · subst h0
    exact aft (k + 1) last c b [] wn pn mn 0 g (by rw [hn]; rfl) hl
  · have hn' : nextP last c = some 7 := by rw [hn, decide_eq_true h0]; rfl
    rw [scan_step hn', h7]
    have := aft k 7 (c.drop tn) b [] wn pn mn tn g (next7 _) may10.2.2.2.2.2.2.2.1
    simp only [takeP, take_len hle]
    exact this
theorem run46 (c : BL) : runF 46 1 c = if Lib.hasPrefix c [46] then 1 else 0 := by
  cases h : Lib.hasPrefix c [46] with
  | true => rw [run_some h (by decide), run_zero]; rfl
  | false => rw [run_none h]; rfl

end Go.Proofs.YthedbjjncnddbaaDoor
