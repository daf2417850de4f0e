/-
  The plain maths of the second notation.
-/
import Derived.Test.YtifangkifpnnpaaGreatDoorRb
namespace Go.Proofs.YtifangkifpnnpaaGreatDoor
open Go.RowKit

/-- What the program reads of a part. -/
def farI (p : List UInt8) (h : Int) : Int × Bool :=
  if p = [] then (h, false) else if Lib.hasPrefix p [91] = true then (wrap64 (h + whole (Lib.trimSuffix (Lib.trimPrefix p [91]) [93])), false) else (whole p, true)
theorem head_cons {b a : UInt8} {r : List UInt8} : Lib.hasPrefix (a :: r) [b] = (b == a) := by
  show ((b == a) && _) = _
  cases (b == a) <;> rfl
theorem trim_suffix (x : List UInt8) (b : UInt8) : Lib.trimSuffix (x ++ [b]) [b] = x := by
  have h : Lib.hasSuffix (x ++ [b]) [b] = true := by
    unfold Lib.hasSuffix
    rw [List.isSuffixOf_iff_suffix]
    exact ⟨x, rfl⟩
  unfold Lib.trimSuffix
  rw [if_pos h]
  simp
theorem dN_cons (u : Nat) (h : u < 1001) : ∃ a r, dN u = a :: r ∧ isDig a = true := by
  obtain ⟨_, _, _, hd, h1, _⟩ := whole_dN u h
  cases hc : dN u with
  | nil => rw [hc] at h1; simp at h1
  | cons a r =>
    rw [hc] at hd
    simp only [List.all_cons, Bool.and_eq_true] at hd
    exact ⟨a, r, rfl, hd.1⟩
theorem dig_ne {a b : UInt8} (h : isDig a = true) (hb : isDig b = false) : (b == a) = false := by
  rw [beq_eq_false_iff_ne]
  rintro rfl
  rw [h] at hb
  cases hb
theorem farI_farL {a h : Int} (a0 : 1 ≤ a) (a1 : a ≤ 1000) (h0 : 1 ≤ h) (h1 : h ≤ 1000) (fix : Bool) : farI (farL a h fix) h = (a, fix) := by
  cases fix
  · by_cases he : a = h
    · subst he
      simp [farL, farI]
    · have e : farL a h false = 91 :: (intT (a - h) ++ [93]) := by simp [farL, he]
      rw [e, farI, if_neg (by simp), if_pos (by rw [head_cons]; decide)]
      have e2 : Lib.trimPrefix (91 :: (intT (a - h) ++ [93])) [91] = intT (a - h) ++ [93] := by
        unfold Lib.trimPrefix
        rw [if_pos (by rw [head_cons]; decide)]
        rfl
      rw [e2, trim_suffix, whole_intT (by omega) (by omega)]
      have : wrap64 (h + (a - h)) = a := by unfold wrap64; omega
      rw [this]
  · have e : farL a h true = dN a.toNat := by simp [farL, intT_nat (n := a) (by omega)]
    obtain ⟨b, r, hb, hd⟩ := dN_cons a.toNat (by omega)
    rw [e, farI, if_neg (by rw [hb]; simp), if_neg (by rw [hb, head_cons, dig_ne hd (by decide)]; decide), (whole_dN a.toNat (by omega)).1]
    simp
    omega
theorem farL_noC {a h : Int} (a0 : 1 ≤ a) (a1 : a ≤ 1000) (h0 : 1 ≤ h) (h1 : h ≤ 1000) (fix : Bool) : ∀ b ∈ farL a h fix, b ≠ 67 := by
  have hd : ∀ u : Nat, u < 1001 → ∀ b ∈ dN u, b ≠ 67 := fun u hu b hb e => by
    have := List.all_eq_true.1 (whole_dN u hu).2.2.2.1 b hb
    subst e
    exact absurd this (by decide)
  have hi : ∀ n : Int, -1000 ≤ n → n ≤ 1000 → ∀ b ∈ intT n, b ≠ 67 := fun n n0 n1 b hb => by
    unfold intT at hb
    split at hb
    · rcases List.mem_cons.1 hb with rfl | hb
      · decide
      · exact hd _ (by omega) b hb
    · exact hd _ (by omega) b hb
  intro b hb
  unfold farL at hb
  split at hb
  · exact hi a (by omega) (by omega) b hb
  · split at hb
    · cases hb
    · simp only [List.mem_append, List.mem_singleton] at hb
      rcases hb with (rfl | hb) | rfl
      · decide
      · exact hi _ (by omega) (by omega) b hb
      · decide
theorem index_app : ∀ (x y : List UInt8) (c : UInt8), (∀ b ∈ x, b ≠ c) → Lib.indexByte (x ++ c :: y) c = x.length
  | [], y, c, _ => by simp [Lib.indexByte]
  | a :: x, y, c, h => by
    have ih := index_app x y c (fun b hb => h b (by simp [hb]))
    have ha : (a == c) = false := by rw [beq_eq_false_iff_ne]; exact h a (by simp)
    rw [List.cons_append, Lib.indexByte, ha, ih]
    have hz : (((x.length : Int)) == -1) = false := by rw [beq_eq_false_iff_ne]; omega
    rw [if_neg (by simp), hz, if_neg (by simp)]
    simp
theorem cut_app {x y : List UInt8} {c : UInt8} (h : ∀ b ∈ x, b ≠ c) : Lib.cut (x ++ c :: y) [c] = (x, y, true) := by
  unfold Lib.cut
  rw [Lib.index_one, index_app x y c h, if_pos (by omega)]
  simp
/-- What the program reads of a text. -/
theorem parseBy {l : List UInt8} {r c row col : Int} {rf cf : Bool} (hg : GoodR r c) (hh : GoodR row col) (e : byL r c rf cf row col = l) :
    farI (Lib.cut (Lib.trimPrefix l [82]) [67]).1 row = (r, rf) ∧ farI (Lib.cut (Lib.trimPrefix l [82]) [67]).2.1 col = (c, cf) := by
  obtain ⟨⟨r0, r1⟩, c0, c1⟩ := hg
  obtain ⟨⟨t0, t1⟩, d0, d1⟩ := hh
  have e2 : l = 82 :: (farL r row rf ++ 67 :: farL c col cf) := by rw [← e]; simp [byL]
  have e3 : Lib.trimPrefix l [82] = farL r row rf ++ 67 :: farL c col cf := by
    rw [e2]
    unfold Lib.trimPrefix
    rw [if_pos (by rw [head_cons]; decide)]
    rfl
  rw [e3, cut_app (farL_noC r0 r1 t0 t1 rf)]
  exact ⟨farI_farL r0 r1 t0 t1 rf, farI_farL c0 (by omega) d0 (by omega) cf⟩
/-- What ReadRefBy answers. -/
def ByOK (l : List UInt8) (row col : Int) (ok : Bool) (r c : Int) (rf cf : Bool) : Prop :=
  (ok = true ∧ (GoodR r c ∧ GoodR row col) ∧ byL r c rf cf row col = l) ∨ (ok = false ∧ (r = 0 ∧ c = 0 ∧ rf = false ∧ cf = false) ∧ ∀ r' c' rf' cf', GoodR r' c' → GoodR row col → byL r' c' rf' cf' row col ≠ l)
theorem ByOK.one {l : List UInt8} {row col : Int} {ok ok' : Bool} {r c r' c' : Int} {rf cf rf' cf' : Bool} (h : ByOK l row col ok r c rf cf) (h' : ByOK l row col ok' r' c' rf' cf') : ok = ok' ∧ r = r' ∧ c = c' ∧ rf = rf' ∧ cf = cf' := by
  rcases h with ⟨rfl, g, e⟩ | ⟨rfl, ⟨rfl, rfl, rfl, rfl⟩, n⟩ <;> rcases h' with ⟨rfl, g', e'⟩ | ⟨rfl, ⟨rfl, rfl, rfl, rfl⟩, n'⟩
  · obtain ⟨a1, a2⟩ := parseBy g.1 g.2 e
    obtain ⟨b1, b2⟩ := parseBy g'.1 g'.2 e'
    rw [a1] at b1
    rw [a2] at b2
    cases b1
    cases b2
    exact ⟨rfl, rfl, rfl, rfl, rfl⟩
  · exact absurd e (n' _ _ _ _ g.1 g.2)
  · exact absurd e' (n _ _ _ _ g'.1 g'.2)
  · exact ⟨rfl, rfl, rfl, rfl, rfl⟩
theorem ByOK.of_parse {l : List UInt8} {row col r c : Int} {rf cf : Bool} (hp : ∀ r' c' rf' cf', GoodR r' c' → GoodR row col → byL r' c' rf' cf' row col = l → r = r' ∧ c = c' ∧ rf = rf' ∧ cf = cf') (hn : ¬ ((GoodR r c ∧ GoodR row col) ∧ byL r c rf cf row col = l)) : ByOK l row col false 0 0 false false :=
  .inr ⟨rfl, ⟨rfl, rfl, rfl, rfl⟩, fun r' c' rf' cf' g h e => by
    obtain ⟨rfl, rfl, rfl, rfl⟩ := hp r' c' rf' cf' g h e
    exact hn ⟨⟨g, h⟩, e⟩⟩

/-- What the specification reads of a part: the number, whether it is fixed, what is left. -/
def byM (t : List UInt8) (h : Int) : Int × Bool × List UInt8 :=
  if Lib.hasPrefix t [91] = true then
    let t1 := t.drop 1
    let sg : Int := if Lib.hasPrefix t1 [45] = true then -1 else 1
    let t2 := if Lib.hasPrefix t1 [45] = true then t1.drop 1 else t1
    let t3 := t2.dropWhile isDig
    let n := numL (t2.takeWhile isDig)
    if Lib.hasPrefix t3 [93] = true ∧ 0 ≤ n then (h + sg * n, false, t3.drop 1) else (0, false, [])
  else if t.takeWhile isDig = [] then (h, false, t) else (numL (t.takeWhile isDig), true, t.dropWhile isDig)
theorem byM_farL {a h : Int} (a0 : 1 ≤ a) (a1 : a ≤ 1000) (h0 : 1 ≤ h) (h1 : h ≤ 1000) (fix : Bool) (rest : List UInt8) (hr : ∀ b, rest.head? = some b → isDig b = false ∧ b ≠ 91) : byM (farL a h fix ++ rest) h = (a, fix, rest) := by
  cases fix
  · by_cases he : a = h
    · subst he
      have e : farL a a false = [] := by simp [farL]
      rw [e, List.nil_append, byM]
      cases rest with
      | nil => rfl
      | cons b r =>
        obtain ⟨g1, g2⟩ := hr b rfl
        rw [if_neg (by rw [head_cons, beq_eq_false_iff_ne.2 (fun q => g2 q.symm)]; decide), if_pos (by simp [g1])]
    · have e : farL a h false ++ rest = 91 :: (intT (a - h) ++ (93 :: rest)) := by simp [farL, he]
      rw [e, byM, if_pos (by rw [head_cons]; decide)]
      simp only [List.drop_succ_cons, List.drop_zero]
      by_cases hlt : a - h < 0
      · have e2 : intT (a - h) = 45 :: dN (a - h).natAbs := by rw [intT, if_pos hlt]
        obtain ⟨_, _, w3, w4, _⟩ := whole_dN (a - h).natAbs (by omega)
        obtain ⟨k1, k2⟩ := all_take w4 (93 :: rest) (fun b hb => by simp at hb; subst hb; decide)
        rw [e2]
        simp only [List.cons_append]
        rw [if_pos (show Lib.hasPrefix (45 :: (dN (a - h).natAbs ++ 93 :: rest)) [45] = true by rw [head_cons]; decide), if_pos (show Lib.hasPrefix (45 :: (dN (a - h).natAbs ++ 93 :: rest)) [45] = true by rw [head_cons]; decide)]
        simp only [List.drop_succ_cons, List.drop_zero]
        rw [k1, k2, w3, if_pos ⟨by rw [head_cons]; decide, by omega⟩]
        exact Prod.ext (by dsimp only; omega) rfl
      · have e2 : intT (a - h) = dN (a - h).toNat := intT_nat (by omega)
        obtain ⟨_, _, w3, w4, _⟩ := whole_dN (a - h).toNat (by omega)
        obtain ⟨b, r, hb, hd⟩ := dN_cons (a - h).toNat (by omega)
        obtain ⟨k1, k2⟩ := all_take w4 (93 :: rest) (fun b hb => by simp at hb; subst hb; decide)
        rw [e2]
        have hm : Lib.hasPrefix (dN (a - h).toNat ++ 93 :: rest) [45] = false := by rw [hb, List.cons_append, head_cons, dig_ne hd (by decide)]
        simp only [hm, Bool.false_eq_true, if_false]
        rw [k1, k2, w3, if_pos ⟨by rw [head_cons]; decide, by omega⟩]
        exact Prod.ext (by dsimp only; omega) rfl
  · have e : farL a h true = dN a.toNat := by simp [farL, intT_nat (n := a) (by omega)]
    obtain ⟨_, _, w3, w4, w5, _⟩ := whole_dN a.toNat (by omega)
    obtain ⟨b, r, hb, hd⟩ := dN_cons a.toNat (by omega)
    obtain ⟨k1, k2⟩ := all_take w4 rest (fun b hb => (hr b hb).1)
    have hm : Lib.hasPrefix (dN a.toNat ++ rest) [91] = false := by rw [hb, List.cons_append, head_cons, dig_ne hd (by decide)]
    rw [e, byM, if_neg (by rw [hm]; decide), k1, k2, if_neg (by rw [hb]; simp), w3]
    exact Prod.ext (by dsimp only; omega) rfl
/-- What the specification reads of a text. -/
theorem parseByS {l : List UInt8} {r c row col : Int} {rf cf : Bool} (hg : GoodR r c) (hh : GoodR row col) (e : byL r c rf cf row col = l) :
    ∃ y, byM (l.drop 1) row = (r, rf, 67 :: y) ∧ byM y col = (c, cf, []) ∧ ∃ x, l = 82 :: x := by
  obtain ⟨⟨r0, r1⟩, c0, c1⟩ := hg
  obtain ⟨⟨t0, t1⟩, d0, d1⟩ := hh
  have e2 : l = 82 :: (farL r row rf ++ 67 :: farL c col cf) := by rw [← e]; simp [byL]
  refine ⟨farL c col cf, ?_, ?_, _, e2⟩
  · rw [e2, List.drop_succ_cons, List.drop_zero]
    exact byM_farL r0 r1 t0 t1 rf _ (fun b hb => by simp at hb; subst hb; decide)
  · have := byM_farL c0 (by omega) d0 (by omega) cf [] (fun b hb => by cases hb)
    rwa [List.append_nil] at this

end Go.Proofs.YtifangkifpnnpaaGreatDoor
