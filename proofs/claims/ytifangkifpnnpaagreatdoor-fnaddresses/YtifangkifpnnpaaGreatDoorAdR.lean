/-
  The plain maths of addresses: their texts, and what is read of them.
-/
import Derived.Test.YtifangkifpnnpaaGreatDoorAdN
import Derived.Test.YtifangkifpnnpaaGreatDoorL2n
import Derived.Lib.ItoaNum
import Derived.Lib.AtoiAllCases
import Derived.Lib.SlTrimSet
import Derived.Lib.IndexBytes
import Derived.Lib.IndexMore
namespace Go.Proofs.YtifangkifpnnpaaGreatDoor
open Go.RowKit

/-- A ref that is good. -/
def GoodR (r c : Int) : Prop := (1 ≤ r ∧ r ≤ 1000) ∧ (1 ≤ c ∧ c ≤ 200)
instance (r c : Int) : Decidable (GoodR r c) := by unfold GoodR; infer_instance

/-- The digits of a number below ten thousand. -/
def dN (u : Nat) : List UInt8 :=
  if u < 10 then [dig u] else if u < 100 then [dig (u / 10), dig (u % 10)] else if u < 1000 then [dig (u / 100), dig (u / 10 % 10), dig (u % 10)] else [dig (u / 1000), dig (u / 100 % 10), dig (u / 10 % 10), dig (u % 10)]
theorem dec_dN {u : Nat} (h : u < 10000) : Lib.decDigits u = dN u := by
  unfold dN
  by_cases h1 : u < 10
  · rw [if_pos h1, dec1 h1]
  · rw [if_neg h1]
    by_cases h2 : u < 100
    · rw [if_pos h2, dec_step h1, dec1 (by omega)]
      rfl
    · rw [if_neg h2]
      by_cases h3 : u < 1000
      · rw [if_pos h3, dec_step h1, dec_step (by omega), dec1 (by omega), show u / 10 / 10 = u / 100 by omega]
        rfl
      · rw [if_neg h3, dec_step h1, dec_step (by omega), dec_step (by omega), dec1 (by omega), show u / 10 / 10 / 10 = u / 1000 by omega, show u / 10 / 10 % 10 = u / 100 % 10 by omega]
        rfl
/-- What readWhole gives. -/
def whole (l : List UInt8) : Int := match Lib.atoiAll l with
  | .ok v => v
  | _ => 0
theorem whole_dN : ∀ u : Nat, u < 1001 → whole (dN u) = u ∧ whole (45 :: dN u) = -(u : Int) ∧ numL (dN u) = u ∧ (dN u).all isDig = true ∧ 1 ≤ (dN u).length ∧ (dN u).length ≤ 4 := by decide +kernel
/-- A number between -1000 and 1000. -/
def intT (n : Int) : List UInt8 := if n < 0 then 45 :: dN n.natAbs else dN n.toNat
theorem itoa_intT {n : Int} (h1 : -10000 < n) (h2 : n < 10000) : Lib.itoa n = intT n := by
  unfold Lib.itoa intT
  split
  · rw [dec_dN (by omega)]
  · rw [dec_dN (by omega)]
theorem intT_nat {n : Int} (h1 : 0 ≤ n) : intT n = dN n.toNat := by rw [intT, if_neg (by omega)]
theorem whole_intT {n : Int} (h1 : -1000 ≤ n) (h2 : n ≤ 1000) : whole (intT n) = n := by
  unfold intT
  split
  · rw [(whole_dN n.natAbs (by omega)).2.1]
    omega
  · rw [(whole_dN n.toNat (by omega)).1]
    omega

def fixT (b : Bool) : List UInt8 := if b then [36] else []
/-- A ref's text in the first notation. -/
def refL (r c : Int) (rf cf : Bool) : List UInt8 := fixT cf ++ colName c ++ fixT rf ++ intT r
def refT (r c : Int) (rf cf : Bool) : List UInt8 := if GoodR r c then refL r c rf cf else []

theorem all_take {l : List UInt8} {p : UInt8 → Bool} (h : l.all p = true) : ∀ r : List UInt8, (∀ b, r.head? = some b → p b = false) → (l ++ r).dropWhile p = r ∧ (l ++ r).takeWhile p = l := by
  induction l with
  | nil =>
    intro r hr
    cases r with
    | nil => exact ⟨rfl, rfl⟩
    | cons b r => simp [hr b rfl]
  | cons a l ih =>
    intro r hr
    simp only [List.all_cons, Bool.and_eq_true] at h
    obtain ⟨h1, h2⟩ := ih h.2 r hr
    simp [h.1, h1, h2]
theorem head_dN : ∀ u : Nat, u < 1001 → ∀ b, (dN u).head? = some b → isLet b = false ∧ b ≠ 36 ∧ b ≠ 91 ∧ isDig b = true := by
  intro u hu b hb
  have h := (whole_dN u hu).2.2.2.1
  have : b ∈ dN u := List.mem_of_mem_head? hb
  have hd := List.all_eq_true.1 h b this
  have hd' := hd
  simp only [isDig, decide_eq_true_eq] at hd'
  refine ⟨by simp [isLet]; omega, fun e => ?_, fun e => ?_, hd⟩ <;> subst e <;> simp at hd'

/-- What the program reads of a text. -/
def restI (t : List UInt8) : List UInt8 := Lib.trimPrefix t [36]
def nameLen (rest : List UInt8) : Nat := rest.length - (Lib.trimLeftS rest letters).length
theorem trimLeft_eq (l : List UInt8) : Lib.trimLeftS l letters = l.dropWhile isLet := by
  unfold Lib.trimLeftS
  congr 1
  funext c
  exact contains_letter c
theorem prefix36 {b : Bool} {l : List UInt8} (h : ∀ x, l.head? = some x → x ≠ 36) : Lib.hasPrefix (fixT b ++ l) [36] = b ∧ Lib.trimPrefix (fixT b ++ l) [36] = l := by
  cases b with
  | true =>
    have e : Lib.hasPrefix (36 :: l) [36] = true := by simp [Lib.hasPrefix]
    exact ⟨e, by show Lib.trimPrefix (36 :: l) [36] = l; unfold Lib.trimPrefix; rw [e]; rfl⟩
  | false =>
    have e : Lib.hasPrefix l [36] = false := by
      cases l with
      | nil => rfl
      | cons a r =>
        have ha : ¬ (36 : UInt8) = a := fun e => h a rfl e.symm
        show ((36 == a) && _) = false
        rw [beq_eq_false_iff_ne.2 ha]
        rfl
    exact ⟨e, by show Lib.trimPrefix l [36] = l; unfold Lib.trimPrefix; rw [e]; rfl⟩
theorem head_col {c : Int} (h1 : 1 ≤ c) (h2 : c ≤ 200) (l : List UInt8) : ∀ x, (colName c ++ l).head? = some x → x ≠ 36 := by
  obtain ⟨_, b, _, d⟩ := colN_val c.toNat (by omega) (by omega)
  rw [colName, if_pos ⟨h1, h2⟩]
  intro x hx
  cases hc : colN c.toNat with
  | nil => rw [hc] at d; simp at d
  | cons a r =>
    rw [hc] at hx b
    simp at hx
    subst hx
    simp only [List.all_cons, Bool.and_eq_true, isLet, decide_eq_true_eq] at b
    rintro rfl
    simp at b
theorem read_refL {r c : Int} {rf cf : Bool} (h : GoodR r c) : ∃ rest num0, Lib.trimPrefix (refL r c rf cf) [36] = rest ∧ Lib.hasPrefix (refL r c rf cf) [36] = cf ∧ rest.dropWhile isLet = num0 ∧ rest.takeWhile isLet = colName c ∧ rest.length - num0.length = (colName c).length ∧ rest = colName c ++ num0 ∧
    Lib.hasPrefix num0 [36] = rf ∧ Lib.trimPrefix num0 [36] = intT r := by
  obtain ⟨⟨r1, r2⟩, c1, c2⟩ := h
  have e : refL r c rf cf = fixT cf ++ (colName c ++ (fixT rf ++ intT r)) := by simp [refL]
  obtain ⟨p1, p2⟩ := prefix36 (b := cf) (l := colName c ++ (fixT rf ++ intT r)) (head_col c1 c2 _)
  have hd := head_dN r.toNat (by omega)
  have ei := intT_nat (n := r) (by omega)
  have al : (colName c).all isLet = true := by rw [colName, if_pos ⟨c1, c2⟩]; exact (colN_val c.toNat (by omega) (by omega)).2.1
  have nh : ∀ b, (fixT rf ++ intT r).head? = some b → isLet b = false := by
    intro b hb
    cases rf with
    | true => simp [fixT] at hb; subst hb; decide
    | false => rw [ei] at hb; exact (hd b hb).1
  obtain ⟨q1, q2⟩ := all_take al (fixT rf ++ intT r) nh
  obtain ⟨s1, s2⟩ := prefix36 (b := rf) (l := intT r) (fun x hx => (hd x (by rw [ei] at hx; exact hx)).2.1)
  refine ⟨colName c ++ (fixT rf ++ intT r), fixT rf ++ intT r, by rw [e]; exact p2, by rw [e]; exact p1, q1, q2, by simp, rfl, s1, s2⟩

/-- What ReadRef answers. -/
def RefOK (t : List UInt8) (ok : Bool) (r c : Int) (rf cf : Bool) : Prop :=
  (ok = true ∧ GoodR r c ∧ refL r c rf cf = t) ∨ (ok = false ∧ (r = 0 ∧ c = 0 ∧ rf = false ∧ cf = false) ∧ ∀ r' c' rf' cf', GoodR r' c' → refL r' c' rf' cf' ≠ t)
theorem refL_inj {r c r' c' : Int} {rf cf rf' cf' : Bool} (h : GoodR r c) (h' : GoodR r' c') (e : refL r c rf cf = refL r' c' rf' cf') : r = r' ∧ c = c' ∧ rf = rf' ∧ cf = cf' := by
  obtain ⟨rest, num0, a1, a2, a3, a4, a5, a6, a7, a8⟩ := read_refL (rf := rf) (cf := cf) h
  obtain ⟨rest', num0', b1, b2, b3, b4, b5, b6, b7, b8⟩ := read_refL (rf := rf') (cf := cf') h'
  rw [e] at a1 a2
  have er : rest = rest' := a1.symm.trans b1
  subst er
  have en : num0 = num0' := a3.symm.trans b3
  subst en
  have ec : colName c = colName c' := a4.symm.trans b4
  have ei : intT r = intT r' := a8.symm.trans b8
  obtain ⟨⟨r1, r2⟩, c1, c2⟩ := h
  obtain ⟨⟨r1', r2'⟩, c1', c2'⟩ := h'
  refine ⟨?_, ?_, a7.symm.trans b7, a2.symm.trans b2⟩
  · rw [← whole_intT (n := r) (by omega) (by omega), ei, whole_intT (by omega) (by omega)]
  · have k1 := colV_colN c1 c2
    have k2 := colV_colN c1' c2'
    rw [colName, if_pos ⟨c1, c2⟩, colName, if_pos ⟨c1', c2'⟩] at ec
    rw [← k1, ec, k2]
theorem RefOK.one {t : List UInt8} {ok ok' : Bool} {r c r' c' : Int} {rf cf rf' cf' : Bool} (h : RefOK t ok r c rf cf) (h' : RefOK t ok' r' c' rf' cf') : ok = ok' ∧ r = r' ∧ c = c' ∧ rf = rf' ∧ cf = cf' := by
  rcases h with ⟨rfl, g, e⟩ | ⟨rfl, ⟨rfl, rfl, rfl, rfl⟩, n⟩ <;> rcases h' with ⟨rfl, g', e'⟩ | ⟨rfl, ⟨rfl, rfl, rfl, rfl⟩, n'⟩
  · exact ⟨rfl, refL_inj g g' (e.trans e'.symm)⟩
  · exact absurd e (n' _ _ _ _ g)
  · exact absurd e' (n _ _ _ _ g')
  · exact ⟨rfl, rfl, rfl, rfl, rfl⟩
/-- A way of reading that finds what is told just so, and asks whether it is. -/
theorem RefOK.of_parse {t : List UInt8} {r c : Int} {rf cf : Bool} (hp : ∀ r' c' rf' cf', GoodR r' c' → refL r' c' rf' cf' = t → r = r' ∧ c = c' ∧ rf = rf' ∧ cf = cf') (hn : ¬ (GoodR r c ∧ refL r c rf cf = t)) : RefOK t false 0 0 false false :=
  .inr ⟨rfl, ⟨rfl, rfl, rfl, rfl⟩, fun r' c' rf' cf' g e => by
    obtain ⟨rfl, rfl, rfl, rfl⟩ := hp r' c' rf' cf' g e
    exact hn ⟨g, e⟩⟩

end Go.Proofs.YtifangkifpnnpaaGreatDoor
