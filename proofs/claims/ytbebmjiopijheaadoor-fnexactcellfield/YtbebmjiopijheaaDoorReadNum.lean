/-
  Reading digits: the plain part.
-/
import Derived.Test.YtbebmjiopijheaaDoorTextNum
namespace Go.Proofs.YtbebmjiopijheaaDoor

theorem dv_step (ds : List Int) (hi k : Nat) (h1 : k < hi) (h2 : hi ≤ ds.length) : dv ((ds.take hi).drop k) = dv ((ds.take hi).drop (k + 1)) * 10 + ds.getD k 0 := by
  have hl : k < (ds.take hi).length := by simp; omega
  rw [List.drop_eq_getElem_cons hl]
  simp only [dv, List.getElem_take]
  simp [show k < ds.length by omega]
  omega
theorem D10.drop {xs : List Int} (h : D10 xs) (n : Nat) : D10 (xs.drop n) := fun y hy => h y (List.mem_of_mem_drop hy)
theorem dv_part {ds : List Int} (h : D10 ds) (hi k : Nat) (hk : hi ≤ k + 9) : 0 ≤ dv ((ds.take hi).drop k) ∧ dv ((ds.take hi).drop k) < 1000000000 := by
  refine ⟨dv_nonneg ((h.take hi).drop k), ?_⟩
  have h1 := dv_lt ((h.take hi).drop k)
  have h2 : ((ds.take hi).drop k).length ≤ 9 := by simp; omega
  have h3 : (10 : Int) ^ ((ds.take hi).drop k).length ≤ 10 ^ 9 := by
    have := Nat.pow_le_pow_right (n := 10) (by decide) h2
    exact_mod_cast this
  have h4 : (10 : Int) ^ 9 = 1000000000 := by decide
  omega
theorem dv_part8 {ds : List Int} (h : D10 ds) (hi k : Nat) (hk : hi ≤ k + 8) : 0 ≤ dv ((ds.take hi).drop k) ∧ dv ((ds.take hi).drop k) < 100000000 := by
  refine ⟨dv_nonneg ((h.take hi).drop k), ?_⟩
  have h1 := dv_lt ((h.take hi).drop k)
  have h2 : ((ds.take hi).drop k).length ≤ 8 := by simp; omega
  have h3 : (10 : Int) ^ ((ds.take hi).drop k).length ≤ 10 ^ 8 := by
    have := Nat.pow_le_pow_right (n := 10) (by decide) h2
    exact_mod_cast this
  have h4 : (10 : Int) ^ 8 = 100000000 := by decide
  omega

/-- So many limbs are read. -/
def ReadAt (ds xs : List Int) (m : Nat) : Prop := xs.length = m ∧ Lim xs ∧ lv xs = dv (ds.take (9 * m))
theorem ReadAt.start (ds : List Int) : ReadAt ds [] 0 := ⟨rfl, Lim.nil, by simp [dv, lv]⟩
theorem ReadAt.step {ds xs : List Int} {m hi : Nat} (h : ReadAt ds xs m) (hd : D10 ds) (hlo : 9 * m < ds.length) (hhi : hi = min (9 * m + 9) ds.length) : ReadAt ds (xs ++ [dv ((ds.take hi).drop (9 * m))]) (m + 1) := by
  obtain ⟨h1, h2, h3⟩ := h
  have hp := dv_part hd hi (9 * m) (by omega)
  refine ⟨by simp [h1], h2.app (Lim.cons hp.1 hp.2 Lim.nil), ?_⟩
  rw [lv_app, h3, h1]
  have e1 : ds.take (9 * (m + 1)) = ds.take hi := by
    rcases Nat.lt_or_ge (9 * m + 9) ds.length with hl | hl
    · rw [show hi = 9 * (m + 1) by omega]
    · rw [show hi = ds.length by omega, List.take_length, List.take_of_length_le (by omega)]
  have e2 : ds.take hi = ds.take (9 * m) ++ (ds.take hi).drop (9 * m) := by
    have := List.take_append_drop (9 * m) (ds.take hi)
    rw [List.take_take, show min (9 * m) hi = 9 * m by omega] at this
    exact this.symm
  have e3 : (ds.take (9 * m)).length = 9 * m := by simp; omega
  have e4 : dv (ds.take hi) = dv (ds.take (9 * m)) + 10 ^ (9 * m) * dv ((ds.take hi).drop (9 * m)) := by
    conv => lhs; rw [e2]
    rw [dv_app, e3]
  rw [e1, e4, pow9]
  simp [lv]
theorem ReadAt.done {ds xs : List Int} {m : Nat} (h : ReadAt ds xs m) (hm : ds.length ≤ 9 * m) : Lim xs ∧ lv xs = dv ds := ⟨h.2.1, by rw [h.2.2, List.take_of_length_le hm]⟩

/-- A text of digits alone. -/
def Plain (s : ByteArray) (ds : List Int) : Prop := s = ⟨(ds.reverse.map chr).toArray⟩
theorem Plain.size {s : ByteArray} {ds : List Int} (h : Plain s ds) : s.size = ds.length := by
  rw [h]
  simp [ByteArray.size]
theorem Plain.at {s : ByteArray} {ds : List Int} (h : Plain s ds) (hd : D10 ds) {p k : Nat} (hp : p + k + 1 = ds.length) (hs : p < s.size) : ((s[p]'hs).toNat : Int) = 48 + ds.getD k 0 := by
  have hk : k < ds.length := by omega
  have := hd.getD k
  rw [← chr_nat (d := ds.getD k 0) (by omega) (by omega)]
  subst h
  have hk2 : ds.length - 1 - p = k := by omega
  simp [ByteArray.getElem_eq_getElem_data, hk, hk2]

end Go.Proofs.YtbebmjiopijheaaDoor

