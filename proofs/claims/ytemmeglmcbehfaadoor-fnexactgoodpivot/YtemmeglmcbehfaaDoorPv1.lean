/-
  Chapter 12: columns that are there, each once: plain, and what both sides say of them.
-/
import Derived.Test.YtemmeglmcbehfaaDoorIv
import Derived.Test.YtemmeglmcbehfaaDoorV7d
namespace Go.Proofs.YtemmeglmcbehfaaDoor
open Go.RowKit

/-- Whether a column is there, and not told before. -/
def okAt (c : Int) (l : List Int) (i : Nat) : Bool := !(decide (l.getD i 0 < 1 ∨ c < l.getD i 0)) && !((l.take i).contains (l.getD i 0))
def onceB (c : Int) (l : List Int) : Bool := (List.range l.length).all (okAt c l)
theorem onceB_true {c : Int} {l : List Int} (h : ∀ i, i < l.length → okAt c l i = true) : onceB c l = true := by
  unfold onceB
  rw [List.all_eq_true]
  intro i hi
  exact h i (by simpa using hi)
theorem onceB_false {c : Int} {l : List Int} {i : Nat} (hi : i < l.length) (h : okAt c l i = false) : onceB c l = false := by
  cases hb : onceB c l with
  | false => rfl
  | true =>
    unfold onceB at hb
    rw [List.all_eq_true] at hb
    have := hb i (by simpa using hi)
    rw [h] at this
    cases this
theorem getD_at {l : List Int} {i : Nat} (h : i < l.length) : l[i]? = some (l.getD i 0) := by
  rw [List.getElem?_eq_getElem h]; simp [h]
theorem contains_at {l : List Int} {i j : Nat} {x : Int} (hj : j < i) (hi : i ≤ l.length) (h : l.getD j 0 = x) : (l.take i).contains x = true := by
  rw [List.contains_iff_mem]
  refine List.mem_of_getElem? (i := j) ?_
  rw [List.getElem?_take, if_pos hj, getD_at (by omega), h]
theorem contains_none {l : List Int} {i : Nat} {x : Int} (h : ∀ j, j < i → l.getD j 0 ≠ x) : (l.take i).contains x = false := by
  cases hb : (l.take i).contains x with
  | false => rfl
  | true =>
    rw [List.contains_iff_mem] at hb
    obtain ⟨j, hj, he⟩ := List.getElem_of_mem hb
    rw [List.length_take] at hj
    exfalso
    refine h j (by omega) ?_
    rw [List.getElem_take] at he
    rw [← he]
    simp [show j < l.length by omega]
set_option maxRecDepth 8000 in
set_option maxHeartbeats 2000000 in
theorem colsS (r c : Int) (v u : Value) (l : List Int) (w : World) (h : IntsIn w u l) (hl : l.length ≤ 6) :
    Calls Tryd.prog 16 #[grV r c v, u, .int .i64 6] w fun e w' => e = .returned (.bool (onceB c l)) ∧ Ext w w' := by
  obtain ⟨p, cap, rfl, hcap, hi⟩ := h
  obtain ⟨n, hn⟩ : ∃ n, l.length = n := ⟨_, rfl⟩
  have HN : Hid (l.length = n) := hn
  have HI : Hid (0 < n → ∃ b o, p = some ⟨b, o, none⟩ ∧ ∀ i, i < n → w.cell? ⟨b, o + i, none⟩ = some (.int .i64 (l.getD i 0))) := by rw [← hn]; exact hi
  obtain ⟨R, hR⟩ : ∃ R, onceB c l = R := ⟨_, rfl⟩
  have HR : Hid (onceB c l = R) := hR
  rw [hR]
  rw [hn] at hcap hl ⊢
  have X0 := x1 w (.cells #[.int .i64 r, .int .i64 c, v] 34)
  have B0 := vec_made w [.int .i64 r, .int .i64 c, v] 34
  obtain ⟨u0, hu0⟩ : ∃ u, w.alloc (.cells #[.int .i64 r, .int .i64 c, v] 34) = u := ⟨_, rfl⟩
  change Vec (w.alloc (.cells #[.int .i64 r, .int .i64 c, v] 34)) _ _ at B0
  rw [hu0] at X0 B0
  clear hn hi hR
  go_enter Tryd.func16, Tryd.ntmps16
  go_wp2_with fail
  go_loopw [13] (fun i wr => ∃ k : Nat, k ≤ n ∧ i = .int .i64 k ∧ Hid (Ext u0 wr ∧ ∀ j, j < k → okAt c l j = true)) (fun i _ => n - (intOf i).toNat)
  case atStart => exact ⟨0, by omega, rfl, xr _, fun j hj => absurd hj (by omega)⟩
  case round =>
    obtain ⟨k, hk, rfl, HO⟩ := hrel
    by_cases hlt : k < n
    · have i2 : (k : Int) < (n : Int) := by omega
      obtain ⟨b, o, rfl, hc⟩ := HI.out (by omega)
      have HC : Hid (∀ W, Ext w W → ∀ i, i < n → W.cell? ⟨b, o + i, none⟩ = some (.int .i64 (l.getD i 0))) := fun W hW i hi => cell_later hW (hc i hi)
      have c1 := HC.out wr (xt X0 HO.out.1) k hlt
      have a1 := ((B0.later HO.out.1) 1 _ rfl).1
      obtain ⟨x, hx⟩ : ∃ x, l.getD k 0 = x := ⟨_, rfl⟩
      have HX : Hid (l.getD k 0 = x) := hx
      rw [hx] at c1
      clear hx hc
      by_cases hb : x < 1 ∨ c < x
      · have hr : R = false := by
          rw [← HR.out]
          refine onceB_false (i := k) (by rw [HN.out]; exact hlt) ?_
          unfold okAt
          rw [HX.out, decide_eq_true hb]
          rfl
        have HF : Hid (Ext w wr) := xt X0 HO.out.1
        subst hr
        by_cases h1 : x < 1
        · have f1 : decide (x < 1) = true := decide_eq_true h1
          go_wp2_with fail
          go_ret
          exact ⟨rfl, HF.out⟩
        · have f1 : decide (x < 1) = false := decide_eq_false h1
          have f2 : decide (x > c) = true := decide_eq_true (by omega)
          have f3 : decide (c < x) = true := decide_eq_true (by omega)
          go_wp2_with fail
          go_ret
          exact ⟨rfl, HF.out⟩
      · have f1 : decide (x < 1) = false := decide_eq_false (by omega)
        have f2 : decide (x > c) = false := decide_eq_false (by omega)
        have f3 : decide (c < x) = false := decide_eq_false (by omega)
        have HB : Hid (¬ (x < 1 ∨ c < x)) := hb
        have kc : (k : Int) ≤ (cap : Int) := by omega
        clear hb
        go_wp2_with fail
        go_loopw [30] (fun i wq => ∃ j : Nat, j ≤ k ∧ i = .int .i64 j ∧ Hid (Ext u0 wq ∧ ∀ q, q < j → l.getD q 0 ≠ x)) (fun i _ => k - (intOf i).toNat)
        case atStart => exact ⟨0, by omega, rfl, HO.out.1, fun q hq => absurd hq (by omega)⟩
        case round =>
          obtain ⟨j, hj, rfl, HQ⟩ := hrel
          by_cases hjk : j < k
          · have j2 : (j : Int) < (k : Int) := by omega
            have c2 := HC.out wr (xt X0 HQ.out.1) j (by omega)
            obtain ⟨y, hy⟩ : ∃ y, l.getD j 0 = y := ⟨_, rfl⟩
            have HY : Hid (l.getD j 0 = y) := hy
            rw [hy] at c2
            clear hy
            by_cases hxy : y = x
            · subst hxy
              have hr : R = false := by
                rw [← HR.out]
                refine onceB_false (i := k) (by rw [HN.out]; exact hlt) ?_
                unfold okAt
                rw [HX.out, contains_at hjk (by rw [HN.out]; omega) HY.out]
                simp
              subst hr
              have HF : Hid (Ext w wr) := xt X0 HQ.out.1
              go_wp2_with fail
              go_ret
              exact ⟨rfl, HF.out⟩
            · have HM : Hid (Ext u0 wr ∧ ∀ q, q < j + 1 → l.getD q 0 ≠ x) := ⟨HQ.out.1, fun q hq => by
                by_cases e : q = j
                · subst e; rw [HY.out]; exact hxy
                · exact HQ.out.2 q (by omega)⟩
              go_wp2_with fail
              go_roundw
              case rel => exact ⟨j + 1, by omega, by go_num, HM⟩
              case measure => simp [intOf]; omega
          · obtain rfl : j = k := by omega
            have HM : Hid (Ext u0 wr ∧ ∀ q, q < j + 1 → okAt c l q = true) := ⟨HQ.out.1, fun q hq => by
              by_cases e : q = j
              · subst e
                unfold okAt
                rw [HX.out, contains_none HQ.out.2, decide_eq_false HB.out]
                rfl
              · exact HO.out.2 q (by omega)⟩
            go_wp2_with fail
            go_roundw
            case rel => exact ⟨j + 1, by omega, by go_num, HM⟩
            case measure => simp [intOf]; omega
    · obtain rfl : k = n := by omega
      have hr : R = true := by
        rw [← HR.out]
        exact onceB_true fun i hi => HO.out.2 i (by rw [← HN.out]; exact hi)
      subst hr
      have HF : Hid (Ext w wr) := xt X0 HO.out.1
      have k6 : decide ((k : Int) ≤ 6) = true := decide_eq_true (by omega)
      go_wp2_with fail
      go_ret
      exact ⟨rfl, HF.out⟩

end Go.Proofs.YtemmeglmcbehfaaDoor
