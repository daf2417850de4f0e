/-
  The int that a decimal is: the plain part.
-/
import Derived.Test.YtbebmjiopijheaaDoorGood
import Derived.Test.YtbebmjiopijheaaDoorReadNum
import Derived.Test.YtbebmjiopijheaaDoorZval
namespace Go.Proofs.YtbebmjiopijheaaDoor

def intOk (n : Bool) (d e : Int) : Bool := goodB n d e && decide (0 ≤ e ∧ e ≤ 19 ∧ d * 10 ^ e.toNat ≤ 9223372036854775807)
def intR (n : Bool) (d e : Int) : Int := if intOk n d e then sgn n (d * 10 ^ e.toNat) else 0
theorem intOk_bad {n : Bool} {d e : Int} (h : goodB n d e = false) : intOk n d e = false := by simp [intOk, h]
theorem intOk_out {n : Bool} {d e : Int} (h : ¬ (0 ≤ e ∧ e ≤ 19 ∧ d * 10 ^ e.toNat ≤ 9223372036854775807)) : intOk n d e = false := by
  unfold intOk
  rw [decide_eq_false h, Bool.and_false]
theorem intOk_yes {n : Bool} {d e : Int} (g : goodB n d e = true) (h : 0 ≤ e ∧ e ≤ 19 ∧ d * 10 ^ e.toNat ≤ 9223372036854775807) : intOk n d e = true := by
  unfold intOk
  rw [decide_eq_true h, g]
  rfl
theorem intR_no {n : Bool} {d e : Int} (h : intOk n d e = false) : intR n d e = 0 := by simp [intR, h]
theorem intR_yes {n : Bool} {d e : Int} (h : intOk n d e = true) : intR n d e = sgn n (d * 10 ^ e.toNat) := by simp [intR, h]
theorem good_range {n : Bool} {d e : Int} (h : goodB n d e = true) : 0 ≤ d ∧ d < 1000000000000000 ∧ (d = 0 → e = 0 ∧ n = false) := by
  unfold goodB at h
  split at h
  · rename_i h0
    simp at h
    exact ⟨by omega, by omega, fun _ => ⟨h.2, h.1⟩⟩
  · simp at h
    exact ⟨by omega, by omega, fun hd => absurd hd (by omega)⟩
/-- Twenty noughts are too many. -/
theorem int_twenty {n : Bool} {d e : Int} (g : goodB n d e = true) (he : e = 20) : 9223372036854775807 < d * 10 ^ e.toNat := by
  subst he
  obtain ⟨h0, h1, h2⟩ := good_range g
  have : d ≠ 0 := fun hd => by have := (h2 hd).1; omega
  have e1 : ((20 : Int).toNat) = 20 := rfl
  rw [e1]
  have e2 : (10 : Int) ^ 20 = 100000000000000000000 := by decide
  rw [e2]
  omega
/-- No decimal is the least int's size. -/
theorem int_least {n : Bool} {d e : Int} (g : goodB n d e = true) : d * 10 ^ e.toNat ≠ 9223372036854775808 := by
  obtain ⟨d0, d1, _⟩ := good_range g
  intro he
  cases hk : e.toNat with
  | zero =>
    rw [hk] at he
    simp at he
    omega
  | succ k =>
    rw [hk, Int.pow_succ, ← Int.mul_assoc] at he
    generalize d * 10 ^ k = p at he
    omega

/-- The text of the least int is its alone. -/
theorem back_chr {ds : List Int} (h : D10 ds) : (ds.map chr).map (fun c => (c.toNat : Int) - 48) = ds := by
  rw [List.map_map]
  conv => rhs; rw [← List.map_id ds]
  apply List.map_congr_left
  intro d hd
  have := h d hd
  have := chr_nat (d := d) (by omega) (by omega)
  simp only [Function.comp, id]
  omega
theorem text_least {l : List UInt8} {z : Int} (h : TextOf l z) (hz : z ≠ -9223372036854775808) : l ≠ [45, 57, 50, 50, 51, 51, 55, 50, 48, 51, 54, 56, 53, 52, 55, 55, 53, 56, 48, 56] := by
  rintro rfl
  rcases h with ⟨_, h⟩ | ⟨ds, ⟨h1, h2, _, _⟩, h3⟩
  · cases h
  · by_cases hn : z < 0
    · rw [if_pos hn] at h3
      have h4 : (ds.reverse.map chr) = [57, 50, 50, 51, 51, 55, 50, 48, 51, 54, 56, 53, 52, 55, 55, 53, 56, 48, 56] := by
        simpa using h3.symm
      have h5 := congrArg (fun l => (l.map (fun c : UInt8 => (c.toNat : Int) - 48)).reverse) h4
      simp only [List.map_reverse, List.reverse_reverse] at h5
      rw [back_chr h1] at h5
      have h6 : dv ds = 9223372036854775808 := by rw [h5]; decide
      omega
    · rw [if_neg hn, List.nil_append] at h3
      cases hr : ds.reverse with
      | nil => rw [hr] at h3; cases h3
      | cons d rs =>
        rw [hr] at h3
        have hd : d ∈ ds := List.mem_reverse.1 (by rw [hr]; simp)
        have h4 : (45 : UInt8) = chr d := by simp at h3; exact h3.1
        have h5 := chr_nat (d := d) (by have := h1 d hd; omega) (by have := h1 d hd; omega)
        rw [← h4] at h5
        have := h1 d hd
        have : ((45 : UInt8).toNat : Int) = 45 := by decide
        omega

/-- A text's digits, its sign apart. -/
def Signed (s : ByteArray) (z : Int) (ds : List Int) : Prop := D10 ds ∧ dv ds = (z.natAbs : Int) ∧ s = ⟨((if z < 0 then [45] else []) ++ ds.reverse.map chr).toArray⟩
theorem Digs.len {ds : List Int} {u : Int} (h : Digs ds u) (hu : u ≤ 9223372036854775807) : ds.length ≤ 19 := by
  by_cases hl : ds.length ≤ 19
  · exact hl
  · have h1 := h.ge
    have h2 : (10 : Int) ^ 19 ≤ 10 ^ (ds.length - 1) := by
      have := Nat.pow_le_pow_right (n := 10) (by decide) (show 19 ≤ ds.length - 1 by omega)
      exact_mod_cast this
    have h3 : (10 : Int) ^ 19 = 10000000000000000000 := by decide
    omega
theorem TextOf.signed {l : List UInt8} {z : Int} (h : TextOf l z) (hz : (z.natAbs : Int) ≤ 9223372036854775807) : ∃ ds, Signed ⟨l.toArray⟩ z ds ∧ ds.length ≤ 19 := by
  rcases h with ⟨rfl, rfl⟩ | ⟨ds, h1, rfl⟩
  · exact ⟨[0], ⟨fun x hx => by simp at hx; subst hx; decide, rfl, by decide⟩, by decide⟩
  · exact ⟨ds, ⟨h1.1, h1.2.1, rfl⟩, h1.len hz⟩
def sg (z : Int) : Nat := if z < 0 then 1 else 0
theorem Signed.size {s : ByteArray} {z : Int} {ds : List Int} (h : Signed s z ds) : s.size = sg z + ds.length := by
  rw [h.2.2]
  unfold sg
  split <;> simp [ByteArray.size]
  omega
theorem Signed.minus {s : ByteArray} {z : Int} {ds : List Int} (h : Signed s z ds) (hz : z < 0) (hs : 0 < s.size) : ((s[0]'hs).toNat : Int) = 45 := by
  obtain ⟨_, _, rfl⟩ := h
  simp [ByteArray.getElem_eq_getElem_data, hz]
theorem Signed.at {s : ByteArray} {z : Int} {ds : List Int} (h : Signed s z ds) {p k : Nat} (hp : p + k + 1 = s.size) (hk : k < ds.length) (hs : p < s.size) : ((s[p]'hs).toNat : Int) = 48 + ds.getD k 0 := by
  have hsz := h.size
  have := h.1.getD k
  rw [← chr_nat (d := ds.getD k 0) (by omega) (by omega)]
  by_cases hz : z < 0
  · have hsg : sg z = 1 := if_pos hz
    obtain ⟨q, rfl⟩ : ∃ q, p = q + 1 := ⟨p - 1, by omega⟩
    have hk2 : ds.length - 1 - q = k := by omega
    obtain ⟨_, _, rfl⟩ := h
    simp [ByteArray.getElem_eq_getElem_data, hk, hk2, hz]
  · have hsg : sg z = 0 := if_neg hz
    have hk2 : ds.length - 1 - p = k := by omega
    obtain ⟨_, _, rfl⟩ := h
    simp [ByteArray.getElem_eq_getElem_data, hk, hk2, hz]
theorem dv_drop (ds : List Int) (k : Nat) (h : k < ds.length) : dv (ds.drop k) = dv (ds.drop (k + 1)) * 10 + ds.getD k 0 := by
  have := dv_step ds ds.length k h (Nat.le_refl _)
  rwa [List.take_length] at this
theorem dv_drop_le {ds : List Int} (h : D10 ds) (k : Nat) : 0 ≤ dv (ds.drop k) ∧ dv (ds.drop k) ≤ dv ds := by
  refine ⟨dv_nonneg (h.drop k), ?_⟩
  have h1 := dv_nonneg (h.take k)
  have h2 := dv_nonneg (h.drop k)
  have e : dv ds = dv (ds.take k) + 10 ^ (ds.take k).length * dv (ds.drop k) := by
    conv => lhs; rw [← List.take_append_drop k ds]
    exact dv_app _ _
  have hp : (0 : Int) < 10 ^ (ds.take k).length := Int.pow_pos (by decide)
  have : 1 * dv (ds.drop k) ≤ 10 ^ (ds.take k).length * dv (ds.drop k) := Int.mul_le_mul_of_nonneg_right (by omega) h2
  omega

end Go.Proofs.YtbebmjiopijheaaDoor

