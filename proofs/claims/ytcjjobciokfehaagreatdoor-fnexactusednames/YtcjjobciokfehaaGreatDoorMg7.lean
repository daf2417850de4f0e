/-
  Several texts in one: AdR, Num, Zval, CmpNum, CmpD, Cmp, AddNum.
-/
import Derived.Test.YtcjjobciokfehaaGreatDoorMg1
import Derived.Test.YtcjjobciokfehaaGreatDoorMg6
import Derived.Lib.ItoaNum
import Derived.Lib.AtoiAllCases
import Derived.Lib.SlTrimSet
import Derived.Lib.IndexBytes
import Derived.Lib.IndexMore
import Derived.Test.YtcjjobciokfehaaGreatDoorBase
import Derived.Deep.QuietTactic
import Derived.BigQuiet
import Derived.Deep.RegionHeld3
namespace Go.Proofs.YtcjjobciokfehaaGreatDoor
open Go.RowKit

/-- A ref that is good. -/
def GoodR (r c : Int) : Prop := (1 ≤ r ∧ r ≤ 1000) ∧ (1 ≤ c ∧ c ≤ 200)
instance (r c : Int) : Decidable (GoodR r c) := by unfold GoodR; infer_instance

/-- The digits of a number below ten thousand. -/
def dN (u : Nat) : List UInt8 :=
 if u < 10 then [dig u] else if u < 100 then [dig (u / 10), dig (u % 10)] else if u < 1000 then [dig (u / 100), dig (u / 10 % 10), dig (u % 10)] else [dig (u / 1000), dig (u / 100 % 10), dig (u / 10 % 10), dig (u % 10)]
theorem dec_dN {u : Nat} (h : u < 10000) : Lib.decDigits u = dN u := by
 unfold dN
 by_cases h1 : u < 10
 ·
  rw [if_pos h1, dec1 h1]
 ·
  rw [if_neg h1]
  by_cases h2 : u < 100
  ·
   rw [if_pos h2, dec_step h1, dec1 (by omega)]
   rfl
  ·
   rw [if_neg h2]
   by_cases h3 : u < 1000
   ·
    rw [if_pos h3, dec_step h1, dec_step (by omega), dec1 (by omega), show u / 10 / 10 = u / 100 by omega]
    rfl
   ·
    rw [if_neg h3, dec_step h1, dec_step (by omega), dec_step (by omega), dec1 (by omega), show u / 10 / 10 / 10 = u / 1000 by omega, show u / 10 / 10 % 10 = u / 100 % 10 by omega]
    rfl
/-- What readWhole gives. -/
def whole (l : List UInt8) : Int := match Lib.atoiAll l with
 | .ok v => v
 | _ => 0
theorem whole_dN : ∀ u : Nat, u < 1001 → whole (dN u) = u ∧ whole (45 :: dN u) = -(u : Int) ∧ numL (dN u) = u ∧ (dN u).all isDig = true ∧ 1 ≤ (dN u).length ∧ (dN u).length ≤ 4 := by decide +kernel
/-- A number between -1000 and 1000. -/
def intT (n : Int) : List UInt8 := if n < 0 then 45 :: dN n.natAbs else dN n.toNat
theorem itoa_intT {n : Int} (h1 : -10000 < n) (h2 : n < 10000) : Lib.itoa n = intT n := by
 unfold Lib.itoa intT
 split
 ·
  rw [dec_dN (by omega)]
 ·
  rw [dec_dN (by omega)]
theorem intT_nat {n : Int} (h1 : 0 ≤ n) : intT n = dN n.toNat := by rw [intT, if_neg (by omega)]
theorem whole_intT {n : Int} (h1 : -1000 ≤ n) (h2 : n ≤ 1000) : whole (intT n) = n := by
 unfold intT
 split
 ·
  rw [(whole_dN n.natAbs (by omega)).2.1]
  omega
 ·
  rw [(whole_dN n.toNat (by omega)).1]
  omega

def fixT (b : Bool) : List UInt8 := if b then [36] else []
/-- A ref's text in the first notation. -/
def refL (r c : Int) (rf cf : Bool) : List UInt8 := fixT cf ++ colName c ++ fixT rf ++ intT r
def refT (r c : Int) (rf cf : Bool) : List UInt8 := if GoodR r c then refL r c rf cf else []

theorem all_take {l : List UInt8} {p : UInt8 → Bool} (h : l.all p = true) : ∀ r : List UInt8, (∀ b, r.head? = some b → p b = false) → (l ++ r).dropWhile p = r ∧ (l ++ r).takeWhile p = l := by
 induction l with
 | nil =>
  intro r hr
  cases r with
  | nil => exact ⟨rfl, rfl⟩
  | cons b r => simp [hr b rfl]
 | cons a l ih =>
  intro r hr
  simp only [List.all_cons, Bool.and_eq_true] at h
  obtain ⟨h1, h2⟩ := ih h.2 r hr
  simp [h.1, h1, h2]
theorem head_dN : ∀ u : Nat, u < 1001 → ∀ b, (dN u).head? = some b → isLet b = false ∧ b ≠ 36 ∧ b ≠ 91 ∧ isDig b = true := by
 intro u hu b hb
 have h := (whole_dN u hu).2.2.2.1
 have : b ∈ dN u := List.mem_of_mem_head? hb
 have hd := List.all_eq_true.1 h b this
 have hd' := hd
 simp only [isDig, decide_eq_true_eq] at hd'
 refine ⟨by simp [isLet]; omega, fun e => ?_, fun e => ?_, hd⟩ <;> subst e <;> simp at hd'

theorem trimLeft_eq (l : List UInt8) : Lib.trimLeftS l letters = l.dropWhile isLet := by
 unfold Lib.trimLeftS
 congr 1
 funext c
 exact contains_letter c
theorem prefix36 {b : Bool} {l : List UInt8} (h : ∀ x, l.head? = some x → x ≠ 36) : Lib.hasPrefix (fixT b ++ l) [36] = b ∧ Lib.trimPrefix (fixT b ++ l) [36] = l := by
 cases b with
 | true =>
  have e : Lib.hasPrefix (36 :: l) [36] = true := by simp [Lib.hasPrefix]
  exact ⟨e, by show Lib.trimPrefix (36 :: l) [36] = l; unfold Lib.trimPrefix; rw [e]; rfl⟩
 | false =>
  have e : Lib.hasPrefix l [36] = false := by
   cases l with
   | nil => rfl
   | cons a r =>
    have ha : ¬ (36 : UInt8) = a := fun e => h a rfl e.symm
    show ((36 == a) && _) = false
    rw [beq_eq_false_iff_ne.2 ha]
    rfl
  exact ⟨e, by show Lib.trimPrefix l [36] = l; unfold Lib.trimPrefix; rw [e]; rfl⟩
theorem head_col {c : Int} (h1 : 1 ≤ c) (h2 : c ≤ 200) (l : List UInt8) : ∀ x, (colName c ++ l).head? = some x → x ≠ 36 := by
 obtain ⟨_, b, _, d⟩ := colN_val c.toNat (by omega) (by omega)
 rw [colName, if_pos ⟨h1, h2⟩]
 intro x hx
 cases hc : colN c.toNat with
 | nil => rw [hc] at d; simp at d
 | cons a r =>
  rw [hc] at hx b
  simp at hx
  subst hx
  simp only [List.all_cons, Bool.and_eq_true, isLet, decide_eq_true_eq] at b
  rintro rfl
  simp at b
theorem read_refL {r c : Int} {rf cf : Bool} (h : GoodR r c) : ∃ rest num0, Lib.trimPrefix (refL r c rf cf) [36] = rest ∧ Lib.hasPrefix (refL r c rf cf) [36] = cf ∧ rest.dropWhile isLet = num0 ∧ rest.takeWhile isLet = colName c ∧ rest.length - num0.length = (colName c).length ∧ rest = colName c ++ num0 ∧
  Lib.hasPrefix num0 [36] = rf ∧ Lib.trimPrefix num0 [36] = intT r := by
 obtain ⟨⟨r1, r2⟩, c1, c2⟩ := h
 have e : refL r c rf cf = fixT cf ++ (colName c ++ (fixT rf ++ intT r)) := by simp [refL]
 obtain ⟨p1, p2⟩ := prefix36 (b := cf) (l := colName c ++ (fixT rf ++ intT r)) (head_col c1 c2 _)
 have hd := head_dN r.toNat (by omega)
 have ei := intT_nat (n := r) (by omega)
 have al : (colName c).all isLet = true := by rw [colName, if_pos ⟨c1, c2⟩]; exact (colN_val c.toNat (by omega) (by omega)).2.1
 have nh : ∀ b, (fixT rf ++ intT r).head? = some b → isLet b = false := by
  intro b hb
  cases rf with
  | true => simp [fixT] at hb; subst hb; decide
  | false => rw [ei] at hb; exact (hd b hb).1
 obtain ⟨q1, q2⟩ := all_take al (fixT rf ++ intT r) nh
 obtain ⟨s1, s2⟩ := prefix36 (b := rf) (l := intT r) (fun x hx => (hd x (by rw [ei] at hx; exact hx)).2.1)
 refine ⟨colName c ++ (fixT rf ++ intT r), fixT rf ++ intT r, by rw [e]; exact p2, by rw [e]; exact p1, q1, q2, by simp, rfl, s1, s2⟩

/-- What ReadRef answers. -/
def RefOK (t : List UInt8) (ok : Bool) (r c : Int) (rf cf : Bool) : Prop :=
 (ok = true ∧ GoodR r c ∧ refL r c rf cf = t) ∨ (ok = false ∧ (r = 0 ∧ c = 0 ∧ rf = false ∧ cf = false) ∧ ∀ r' c' rf' cf', GoodR r' c' → refL r' c' rf' cf' ≠ t)
/-- A way of reading that finds what is told just so, and asks whether it is. -/
theorem RefOK.of_parse {t : List UInt8} {r c : Int} {rf cf : Bool} (hp : ∀ r' c' rf' cf', GoodR r' c' → refL r' c' rf' cf' = t → r = r' ∧ c = c' ∧ rf = rf' ∧ cf = cf') (hn : ¬ (GoodR r c ∧ refL r c rf cf = t)) : RefOK t false 0 0 false false :=
 .inr ⟨rfl, ⟨rfl, rfl, rfl, rfl⟩, fun r' c' rf' cf' g e => by
  obtain ⟨rfl, rfl, rfl, rfl⟩ := hp r' c' rf' cf' g e
  exact hn ⟨g, e⟩⟩

end Go.Proofs.YtcjjobciokfehaaGreatDoor

namespace Go.Proofs.YtcjjobciokfehaaGreatDoor

/-- What limbs say, the lowest first. -/
def lv : List Int → Int
 | [] => 0
 | x :: xs => x + 1000000000 * lv xs

/-- Each limb has at most nine digits. -/
def Lim (xs : List Int) : Prop := ∀ x ∈ xs, 0 ≤ x ∧ x < 1000000000

theorem Lim.nil : Lim [] := fun _ h => by cases h
theorem Lim.cons {x : Int} {xs : List Int} (h0 : 0 ≤ x) (h1 : x < 1000000000) (h : Lim xs) : Lim (x :: xs) := fun y hy => by
 rcases List.mem_cons.1 hy with rfl | hy
 ·
  exact ⟨h0, h1⟩
 ·
  exact h y hy
theorem Lim.head {x : Int} {xs : List Int} (h : Lim (x :: xs)) : 0 ≤ x ∧ x < 1000000000 := h x (by simp)
theorem Lim.tail {x : Int} {xs : List Int} (h : Lim (x :: xs)) : Lim xs := fun y hy => h y (by simp [hy])
theorem Lim.take {xs : List Int} (h : Lim xs) (n : Nat) : Lim (xs.take n) := fun y hy => h y (List.mem_of_mem_take hy)
theorem Lim.drop {xs : List Int} (h : Lim xs) (n : Nat) : Lim (xs.drop n) := fun y hy => h y (List.mem_of_mem_drop hy)
theorem Lim.getD {xs : List Int} (h : Lim xs) (i : Nat) : 0 ≤ xs.getD i 0 ∧ xs.getD i 0 < 1000000000 := by
 by_cases hi : i < xs.length
 ·
  rw [List.getD_eq_getElem?_getD, List.getElem?_eq_getElem hi]
  exact h _ (List.getElem_mem hi)
 ·
  rw [List.getD_eq_getElem?_getD, List.getElem?_eq_none (by omega)]
  simp

theorem lv_nonneg : ∀ {xs : List Int}, Lim xs → 0 ≤ lv xs
 | [], _ => by simp [lv]
 | x :: xs, h => by
  have := lv_nonneg h.tail
  have := h.head
  simp only [lv]; omega

theorem lv_app : ∀ (xs ys : List Int), lv (xs ++ ys) = lv xs + 1000000000 ^ xs.length * lv ys
 | [], ys => by simp [lv]
 | x :: xs, ys => by
  simp only [List.cons_append, lv, lv_app xs ys, List.length_cons, Int.pow_succ]
  rw [Int.mul_add, Int.mul_comm (1000000000 ^ xs.length) 1000000000, ← Int.mul_assoc]
  omega

theorem pos_pow (n : Nat) : (0 : Int) < 1000000000 ^ n := Int.pow_pos (by decide)

/-- Where the highest limb is not nought, so many limbs are wanted. -/
theorem lv_ge {xs : List Int} (h : Lim xs) (hn : 0 < xs.length) (ht : xs.getD (xs.length - 1) 0 ≠ 0) : 1000000000 ^ (xs.length - 1) ≤ lv xs := by
 obtain ⟨ys, y, rfl⟩ : ∃ ys y, xs = ys ++ [y] := ⟨xs.dropLast, xs.getLast (by intro e; simp [e] at hn), (List.dropLast_concat_getLast _).symm⟩
 have h1 : (ys ++ [y]).getD ((ys ++ [y]).length - 1) 0 = y := by simp
 rw [h1] at ht
 have hy := h y (by simp)
 have h0 := lv_nonneg (fun z hz => h z (by simp [hz]) : Lim ys)
 rw [lv_app]
 simp only [List.length_append, List.length_singleton, Nat.add_sub_cancel, lv]
 have hp := pos_pow ys.length
 have : (1000000000 : Int) ^ ys.length * 1 ≤ 1000000000 ^ ys.length * (y + 1000000000 * 0) := Int.mul_le_mul_of_nonneg_left (by omega) (by omega)
 omega

/-- So many limbs, by what they say. -/
theorem len_le {xs : List Int} {k : Nat} (h : Lim xs) (ht : xs.length = 0 ∨ xs.getD (xs.length - 1) 0 ≠ 0) (hk : lv xs < 1000000000 ^ k) : xs.length ≤ k := by
 rcases ht with ht | ht
 ·
  omega
 ·
  by_cases hn : xs.length ≤ k
  ·
   exact hn
  ·
   have h1 := lv_ge h (by omega) ht
   have h2 : (1000000000 : Int) ^ k ≤ 1000000000 ^ (xs.length - 1) := by
    have := Nat.pow_le_pow_right (n := 1000000000) (by decide) (show k ≤ xs.length - 1 by omega)
    have h3 : ((1000000000 ^ k : Nat) : Int) ≤ ((1000000000 ^ (xs.length - 1) : Nat) : Int) := by exact_mod_cast this
    simpa using h3
   omega

theorem lv_take_succ (xs : List Int) (i : Nat) (h : i < xs.length) : lv (xs.take (i + 1)) = lv (xs.take i) + 1000000000 ^ i * xs.getD i 0 := by
 rw [List.take_succ_eq_append_getElem h, lv_app]
 simp [lv, List.length_take, Nat.min_eq_left (Nat.le_of_lt h), h]

theorem lv_set : ∀ (xs : List Int) (i : Nat) (v : Int), i < xs.length → lv (xs.set i v) = lv xs + 1000000000 ^ i * (v - xs.getD i 0)
 | [], _, _, h => by simp at h
 | x :: xs, 0, v, _ => by simp [lv]; omega
 | x :: xs, i + 1, v, h => by
  have := lv_set xs i v (by simpa using h)
  simp only [List.set_cons_succ, lv, this, List.getD_cons_succ, Int.pow_succ]
  rw [Int.mul_add, Int.mul_comm (1000000000 ^ i) 1000000000, Int.mul_assoc]
  omega
theorem getD_set {xs : List Int} {i j : Nat} {v : Int} (h : i < xs.length) : (xs.set i v).getD j 0 = if j = i then v else xs.getD j 0 := by
 simp only [List.getD_eq_getElem?_getD, List.getElem?_set]
 by_cases e : i = j
 ·
  subst e; simp [h]
 ·
  rw [if_neg e, if_neg (fun h => e h.symm)]
theorem Lim.set {xs : List Int} (h : Lim xs) (i : Nat) {v : Int} (h0 : 0 ≤ v) (h1 : v < 1000000000) : Lim (xs.set i v) := fun y hy => by
 rcases List.mem_or_eq_of_mem_set hy with hy | rfl
 ·
  exact h y hy
 ·
  exact ⟨h0, h1⟩
theorem lv_replicate (n : Nat) : lv (List.replicate n 0) = 0 := by
 induction n with
 | zero => rfl
 | succ n ih => simp [List.replicate_succ, lv, ih]
theorem Lim.zeros (n : Nat) : Lim (List.replicate n 0) := fun y hy => by
 rw [List.eq_of_mem_replicate hy]; decide
theorem getD_zeros (n i : Nat) : (List.replicate n (0 : Int)).getD i 0 = 0 := by
 simp only [List.getD_eq_getElem?_getD, List.getElem?_replicate]
 split <;> rfl

end Go.Proofs.YtcjjobciokfehaaGreatDoor

namespace Go.Proofs.YtcjjobciokfehaaGreatDoor
open Go.RowKit

/-- So many cells of uint32 from a place on. -/
def C32 (w : World) (b o : Nat) (xs : List Int) : Prop := ∀ i, i < xs.length → w.cell? ⟨b, o + i, none⟩ = some (.int .u32 (xs.getD i 0))
theorem C32.later {w w1 : World} {b o : Nat} {xs : List Int} (h : C32 w b o xs) (hb : Ext w w1) : C32 w1 b o xs := fun i hi => cell_later hb (h i hi)

/-- A slice of limbs. -/
def Row (w : World) (v : Value) (xs : List Int) : Prop :=
 ∃ (p : Option Addr) (cap : Nat), v = .slice p xs.length cap ∧ xs.length ≤ cap ∧ cap ≤ 9223372036854775807 ∧ ((p = none ∧ cap = 0) ∨ ∃ b o, p = some ⟨b, o, none⟩ ∧ C32 w b o xs)
theorem Row.later {w w1 : World} {v : Value} {xs : List Int} (h : Row w v xs) (hb : Ext w w1) : Row w1 v xs := by
 obtain ⟨p, cap, e, h1, h2, h3⟩ := h
 refine ⟨p, cap, e, h1, h2, ?_⟩
 rcases h3 with h3 | ⟨b, o, e, h3⟩
 ·
  exact .inl h3
 ·
  exact .inr ⟨b, o, e, h3.later hb⟩

/-- The value of a number below 10^18 in size; of another one. -/
abbrev zS (z : Int) : Value := .agg #[.int .i64 z, .bool false, .slice none 0 0]
abbrev zB (neg : Bool) (p : Addr) (n cap : Nat) : Value := .agg #[.int .i64 0, .bool neg, .slice (some p) n cap]
def sgn (neg : Bool) (z : Int) : Int := if neg then -z else z

/-- The limbs are as few as can be. -/
def Top (xs : List Int) : Prop := xs.length = 0 ∨ xs.getD (xs.length - 1) 0 ≠ 0

def ZV (w : World) (v : Value) (z : Int) : Prop :=
 (-1000000000000000000 < z ∧ z < 1000000000000000000 ∧ v = zS z) ∨
 ∃ neg b o cap xs, v = zB neg ⟨b, o, none⟩ xs.length cap ∧ xs.length ≤ cap ∧ cap ≤ 9223372036854775807 ∧ C32 w b o xs ∧ Lim xs ∧ 3 ≤ xs.length ∧ Top xs ∧ z = sgn neg (lv xs)
theorem ZV.later {w w1 : World} {v : Value} {z : Int} (h : ZV w v z) (hb : Ext w w1) : ZV w1 v z := by
 rcases h with h | ⟨neg, b, o, cap, xs, e, h1, h2, h3, h4⟩
 ·
  exact .inl h
 ·
  exact .inr ⟨neg, b, o, cap, xs, e, h1, h2, h3.later hb, h4⟩
theorem ZV.small {w : World} {z : Int} (h1 : -1000000000000000000 < z) (h2 : z < 1000000000000000000) : ZV w (zS z) z := .inl ⟨h1, h2, rfl⟩

/-- A number of three limbs or more is not small. -/
theorem big_ge {xs : List Int} (h : Lim xs) (h3 : 3 ≤ xs.length) (ht : Top xs) : 1000000000000000000 ≤ lv xs := by
 have h1 := lv_ge h (by omega) (ht.resolve_left (by omega))
 have h2 : (1000000000 : Int) ^ 2 ≤ 1000000000 ^ (xs.length - 1) := by
  have := Nat.pow_le_pow_right (n := 1000000000) (by decide) (show 2 ≤ xs.length - 1 by omega)
  have h3 : ((1000000000 ^ 2 : Nat) : Int) ≤ ((1000000000 ^ (xs.length - 1) : Nat) : Int) := by exact_mod_cast this
  simpa using h3
 omega

/-- A number below 10^18 in size. -/
def smallB (z : Int) : Bool := decide (-1000000000000000000 < z ∧ z < 1000000000000000000)
theorem small_big {neg : Bool} {xs : List Int} (h : Lim xs) (h3 : 3 ≤ xs.length) (ht : Top xs) : smallB (sgn neg (lv xs)) = false := by
 have := big_ge h h3 ht
 unfold smallB sgn
 cases neg <;> simp <;> omega
theorem smallB_true {z : Int} (h1 : -1000000000000000000 < z) (h2 : z < 1000000000000000000) : smallB z = true := by simp [smallB, h1, h2]
theorem ZV.small_of {w : World} {v : Value} {z : Int} (h : ZV w v z) (hs : smallB z = true) : -1000000000000000000 < z ∧ z < 1000000000000000000 ∧ v = zS z := by
 rcases h with h | ⟨neg, b, o, cap, xs, rfl, h1, h2, h3, h4, h5, h6, rfl⟩
 ·
  exact h
 ·
  rw [small_big h4 h5 h6] at hs; cases hs

set_option maxHeartbeats 400000 in
theorem isSmall_any {v : Value} {z : Int} (w : World) (h : ZV w v z) :
  Calls Tryz.prog 121 #[v] w fun e w' => e = .returned (.bool (smallB z)) ∧ Ext w w' := by
 rcases h with ⟨h1, h2, rfl⟩ | ⟨neg, b, o, cap, xs, rfl, h1, h2, h3, h4, h5, h6, h7⟩
 ·
  go_enter Tryz.func121, Tryz.ntmps121
  go_wp2
  go_ret
  exact ⟨ret_bool (smallB_true h1 h2).symm, x1 _ _⟩
 ·
  have h9 : (((xs.length : Int) == 0)) = false := by rw [beq_eq_false_iff_ne]; omega
  subst h7
  have H := small_big (neg := neg) h4 h5 h6
  clear h6 h4 h3
  go_enter Tryz.func121, Tryz.ntmps121
  go_wp2
  go_ret
  exact ⟨ret_bool H.symm, x1 _ _⟩

theorem sgn_neg {neg : Bool} {xs : List Int} (h : Lim xs) (h3 : 3 ≤ xs.length) (ht : Top xs) : decide (sgn neg (lv xs) < 0) = neg := by
 have := big_ge h h3 ht
 cases neg <;> simp [sgn] <;> omega

set_option maxHeartbeats 400000 in
theorem neg_any {v : Value} {z : Int} (w : World) (h : ZV w v z) :
  Calls Tryz.prog 120 #[v] w fun e w' => e = .returned (.bool (decide (z < 0))) ∧ Ext w w' := by
 rcases h with ⟨h1, h2, rfl⟩ | ⟨neg, b, o, cap, xs, rfl, h1, h2, h3, h4, h5, h6, h7⟩
 ·
  go_enter Tryz.func120, Tryz.ntmps120
  go_wp2
  go_ret
  exact ⟨rfl, x1 _ _⟩
 ·
  have h9 : (0 : Int) < (xs.length : Int) := by omega
  subst h7
  have H := sgn_neg (neg := neg) h4 h5 h6
  clear h6 h4 h3
  go_enter Tryz.func120, Tryz.ntmps120
  go_wp2
  go_ret
  exact ⟨ret_bool H.symm, x1 _ _⟩

/-- A value that is no uint32. -/
def No32 (u : Value) : Prop := ∀ n, u ≠ .int .u32 n
theorem C32.apart {w : World} {b o : Nat} {xs : List Int} {p : Addr} {u : Value} (h : C32 w b o xs) (hp : w.cell? p = some u) (hu : No32 u) : ∀ i, i < xs.length → (⟨b, o + i, none⟩ : Addr) ≠ p := by
 rintro i hi rfl
 rw [h i hi] at hp
 exact hu _ (Option.some.inj hp).symm
theorem C32.set {w : World} {b o : Nat} {xs : List Int} {p : Addr} {u : Value} (h : C32 w b o xs) (hp : w.cell? p = some u) (hu : No32 u) (a : Value) : C32 (w.setCell p a) b o xs := fun i hi => by
 rw [World.cell?_setCell_other _ _ _ _ (h.apart hp hu i hi).symm]
 exact h i hi
theorem ZV.set {w : World} {v : Value} {z : Int} {p : Addr} {u : Value} (h : ZV w v z) (hp : w.cell? p = some u) (hu : No32 u) (a : Value) : ZV (w.setCell p a) v z := by
 rcases h with h | ⟨neg, b, o, cap, xs, e, h1, h2, h3, h4⟩
 ·
  exact .inl h
 ·
  exact .inr ⟨neg, b, o, cap, xs, e, h1, h2, h3.set hp hu a, h4⟩
theorem ZV.shape {w : World} {v : Value} {z : Int} (h : ZV w v z) : ∃ a0 a1 p n cap, v = .agg #[.int .i64 a0, .bool a1, .slice p n cap] := by
 rcases h with ⟨_, _, rfl⟩ | ⟨neg, b, o, cap, xs, rfl, _⟩
 ·
  exact ⟨_, _, _, _, _, rfl⟩
 ·
  exact ⟨_, _, _, _, _, rfl⟩
theorem no32_i64 (n : Int) : No32 (.int .i64 n) := fun _ h => by cases h
theorem no32_bool (n : Bool) : No32 (.bool n) := fun _ h => by cases h
theorem no32_slice (p : Option Addr) (n c : Nat) : No32 (.slice p n c) := fun _ h => by cases h

/-- A box of a number: its three cells. -/
abbrev ZBox (w : World) (b : Nat) : Prop := ∃ a0 a1 p n cap, Box3 w b (.int .i64 a0) (.bool a1) (.slice p n cap)
/-- Three cells stored. -/
abbrev set3 (w : World) (b : Nat) (a0 a1 a2 : Value) : World := ((w.setCell ⟨b, 0, none⟩ a0).setCell ⟨b, 1, none⟩ a1).setCell ⟨b, 2, none⟩ a2
theorem addr_ne {b i j : Nat} (h : i ≠ j) : (⟨b, i, none⟩ : Addr) ≠ ⟨b, j, none⟩ := fun e => h (by cases e; rfl)

/-- What was a number is one behind a store into a box. -/
theorem ZV.set3 {w : World} {v : Value} {z : Int} {b : Nat} {a0 : Int} {a1 : Bool} {p : Option Addr} {n cap : Nat} (h : ZV w v z) (hb : Box3 w b (.int .i64 a0) (.bool a1) (.slice p n cap)) (c0 c1 c2 : Value) : ZV (set3 w b c0 c1 c2) v z := by
 obtain ⟨⟨q0, q1, q2⟩, _⟩ := hb
 have k1 : (w.setCell ⟨b, 0, none⟩ c0).cell? ⟨b, 1, none⟩ = some (.bool a1) := by rw [World.cell?_setCell_other _ _ _ _ (addr_ne (by decide))]; exact q1
 have k2 : ((w.setCell ⟨b, 0, none⟩ c0).setCell ⟨b, 1, none⟩ c1).cell? ⟨b, 2, none⟩ = some (.slice p n cap) := by
  rw [World.cell?_setCell_other _ _ _ _ (addr_ne (by decide)), World.cell?_setCell_other _ _ _ _ (addr_ne (by decide))]; exact q2
 exact ((h.set q0 (no32_i64 _) _).set k1 (no32_bool _) _).set k2 (no32_slice _ _ _) _
theorem Ext.set3 {w w1 : World} {b : Nat} (h : Ext w w1) (hb : w.heap.size ≤ b) (c0 c1 c2 : Value) : Ext w (set3 w1 b c0 c1 c2) := xset (xset (xset h hb _) hb _) hb _

set_option maxHeartbeats 400000 in
theorem abs64_any (n : Int) (w : World) (h1 : -1000000000000000000 < n) (h2 : n < 1000000000000000000) :
  Calls Tryz.prog 126 #[.int .i64 n] w fun e w' => e = .returned (.int .i64 (n.natAbs : Int)) ∧ w' = w := by
 go_enter Tryz.func126, Tryz.ntmps126
 go_wp2
 all_goals go_ret
 all_goals exact ⟨ret_int (by omega), rfl⟩

theorem abs64_eq (n x : Int) (w : World) (h1 : -1000000000000000000 < n) (h2 : n < 1000000000000000000) (hx : (n.natAbs : Int) = x) :
  Calls Tryz.prog 126 #[.int .i64 n] w fun e w' => e = .returned (.int .i64 x) ∧ w' = w := by
 rw [← hx]; exact abs64_any n w h1 h2

/-- Three limbs of one number. -/
theorem three (u : Int) (h1 : 1000000000000000000 ≤ u) (h2 : u < 9000000000000000000) :
  Lim [u % 1000000000, u / 1000000000 % 1000000000, u / 1000000000 / 1000000000] ∧ Top [u % 1000000000, u / 1000000000 % 1000000000, u / 1000000000 / 1000000000] ∧ lv [u % 1000000000, u / 1000000000 % 1000000000, u / 1000000000 / 1000000000] = u := by
 refine ⟨Lim.cons (by omega) (by omega) (Lim.cons (by omega) (by omega) (Lim.cons (by omega) (by omega) Lim.nil)), .inr ?_, ?_⟩
 ·
  show u / 1000000000 / 1000000000 ≠ 0
  omega
 ·
  simp only [lv]
  omega
theorem C32.three {w : World} {a b c : Int} {t : TypeId} {g : Nat} (hg : g = w.heap.size) : C32 (w.alloc (.cells #[.int .u32 a, .int .u32 b, .int .u32 c] t)) g 0 [a, b, c] := by
 subst hg
 intro i hi
 match i, hi with
 | 0, _ | 1, _ | 2, _ => simp [go_sem]
theorem C32.two {w : World} {a b : Int} {t : TypeId} {g : Nat} (hg : g = w.heap.size) : C32 (w.alloc (.cells #[.int .u32 a, .int .u32 b] t)) g 0 [a, b] := by
 subst hg
 intro i hi
 match i, hi with
 | 0, _ | 1, _ => simp [go_sem]
theorem C32.one {w : World} {a : Int} {t : TypeId} {g : Nat} (hg : g = w.heap.size) : C32 (w.alloc (.cells #[.int .u32 a] t)) g 0 [a] := by
 subst hg
 intro i hi
 match i, hi with
 | 0, _ => simp [go_sem]

set_option maxHeartbeats 400000 in
theorem small_any (z : Int) (w : World) (h1 : -9000000000000000000 < z) (h2 : z < 9000000000000000000) :
  Calls Tryz.prog 105 #[.int .i64 z] w fun e w' => ∃ v', e = .returned v' ∧ ZV w' v' z ∧ Ext w w' := by
 by_cases hs : -1000000000000000000 < z ∧ z < 1000000000000000000
 ·
  obtain ⟨s1, s2⟩ := hs
  go_enter Tryz.func105, Tryz.ntmps105
  go_wp2
  exact bodyPost_ret (v := zS z) (by simp [results, Tryz.results105, go_sem]) rfl ⟨_, rfl, ZV.small s1 s2, x1 _ _⟩
 ·
  by_cases hn : z < 0
  ·
   obtain ⟨u, rfl⟩ : ∃ u, z = -u := ⟨-z, by omega⟩
   have u1 : 1000000000000000000 ≤ u := by omega
   have u2 : u < 9000000000000000000 := by omega
   clear hs h1 h2 hn
   go_enter Tryz.func105, Tryz.ntmps105
   go_wp2
   obtain ⟨t1, t2, t3⟩ := three u u1 u2
   refine bodyPost_ret (v := zB true ⟨w.heap.size + 1, 0, none⟩ 3 3) (by simp [results, Tryz.results105, go_sem]) rfl ⟨_, rfl, .inr ⟨true, w.heap.size + 1, 0, 3, _, rfl, by simp, by decide, C32.three (by simp), t1, by simp, t2, ?_⟩, xa (x1 _ _) _⟩
   rw [t3]; rfl
  ·
   have u1 : 1000000000000000000 ≤ z := by omega
   have hd : decide (z < 0) = false := by simpa using hn
   clear hs hn h1
   go_enter Tryz.func105, Tryz.ntmps105
   go_wp2
   obtain ⟨t1, t2, t3⟩ := three z u1 h2
   refine bodyPost_ret (v := zB false ⟨w.heap.size + 1, 0, none⟩ 3 3) (by simp [results, Tryz.results105, go_sem]) rfl ⟨_, rfl, .inr ⟨false, w.heap.size + 1, 0, 3, _, rfl, by simp, by decide, C32.three (by simp), t1, by simp, t2, ?_⟩, xa (x1 _ _) _⟩
   rw [t3]; rfl

/-- What l1Limbs gives. -/
def Limbs (w : World) (v : Value) (u : Int) : Prop := ∃ xs, Row w v xs ∧ Lim xs ∧ Top xs ∧ lv xs = u
theorem Limbs.later {w w1 : World} {v : Value} {u : Int} (h : Limbs w v u) (hb : Ext w w1) : Limbs w1 v u := by
 obtain ⟨xs, h1, h2⟩ := h
 exact ⟨xs, h1.later hb, h2⟩
theorem Limbs.nil (w : World) : Limbs w (.slice none 0 0) 0 := ⟨[], ⟨none, 0, rfl, Nat.le_refl _, by decide, .inl ⟨rfl, rfl⟩⟩, Lim.nil, .inl rfl, rfl⟩
theorem Limbs.one {w : World} {u : Int} {t : TypeId} {g : Nat} (hg : g = w.heap.size) (h1 : 0 < u) (h2 : u < 1000000000) : Limbs (w.alloc (.cells #[.int .u32 u] t)) (.slice (some ⟨g, 0, none⟩) 1 1) u :=
 ⟨[u], ⟨_, 1, rfl, Nat.le_refl _, by decide, .inr ⟨g, 0, rfl, C32.one hg⟩⟩, Lim.cons (by omega) h2 Lim.nil, .inr (show u ≠ 0 by omega), by simp [lv]⟩
theorem Limbs.two {w : World} {u : Int} {t : TypeId} {g : Nat} (hg : g = w.heap.size) (h1 : 1000000000 ≤ u) (h2 : u < 1000000000000000000) :
  Limbs (w.alloc (.cells #[.int .u32 (u % 1000000000), .int .u32 (u / 1000000000)] t)) (.slice (some ⟨g, 0, none⟩) 2 2) u :=
 ⟨[u % 1000000000, u / 1000000000], ⟨_, 2, rfl, Nat.le_refl _, by decide, .inr ⟨g, 0, rfl, C32.two hg⟩⟩, Lim.cons (by omega) (by omega) (Lim.cons (by omega) (by omega) Lim.nil), .inr (show u / 1000000000 ≠ 0 by omega), by simp only [lv]; omega⟩

set_option maxHeartbeats 400000 in
theorem limbs_any {v : Value} {z : Int} (w : World) (h : ZV w v z) :
  Calls Tryz.prog 119 #[v] w fun e w' => ∃ v', e = .returned v' ∧ Limbs w' v' (z.natAbs : Int) ∧ Ext w w' := by
 rcases h with ⟨h1, h2, rfl⟩ | ⟨neg, b, o, cap, xs, rfl, h1, h2, h3, h4, h5, h6, rfl⟩
 ·
  by_cases hn : z < 0
  ·
   obtain ⟨u, rfl⟩ : ∃ u, z = -u := ⟨-z, by omega⟩
   have u1 : 0 < u := by omega
   have u2 : u < 1000000000000000000 := by omega
   have e1 : ((-u).natAbs : Int) = u := by omega
   rw [e1]
   clear h1 h2 hn e1
   by_cases hb : u < 1000000000
   ·
    go_enter Tryz.func119, Tryz.ntmps119
    go_wp2
    go_ret
    exact ⟨_, rfl, Limbs.one (by simp) u1 hb, xa (x1 _ _) _⟩
   ·
    go_enter Tryz.func119, Tryz.ntmps119
    go_wp2
    go_ret
    exact ⟨_, rfl, Limbs.two (by simp) (by omega) u2, xa (x1 _ _) _⟩
  ·
   have e1 : (z.natAbs : Int) = z := by omega
   rw [e1]
   have u1 : 0 ≤ z := by omega
   clear h1 hn e1
   by_cases hz : z = 0
   ·
    subst hz
    go_enter Tryz.func119, Tryz.ntmps119
    go_wp2
    go_ret
    exact ⟨_, rfl, Limbs.nil _, x1 _ _⟩
   ·
    by_cases hb : z < 1000000000
    ·
     go_enter Tryz.func119, Tryz.ntmps119
     go_wp2
     go_ret
     exact ⟨_, rfl, Limbs.one (by simp) (by omega) hb, xa (x1 _ _) _⟩
    ·
     go_enter Tryz.func119, Tryz.ntmps119
     go_wp2
     go_ret
     exact ⟨_, rfl, Limbs.two (by simp) (by omega) h2, xa (x1 _ _) _⟩
 ·
  have h9 : (0 : Int) < (xs.length : Int) := by omega
  have e1 : ((sgn neg (lv xs)).natAbs : Int) = lv xs := by
   have := lv_nonneg h4
   unfold sgn
   cases neg <;> simp <;> omega
  rw [e1]
  have L : Hid (∀ w1, Ext w w1 → Limbs w1 (.slice (some ⟨b, o, none⟩) xs.length cap) (lv xs)) := fun w1 hx => ⟨xs, ⟨_, cap, rfl, h1, h2, .inr ⟨b, o, rfl, h3.later hx⟩⟩, h4, h6, rfl⟩
  clear h4 h6 h3 e1
  go_enter Tryz.func119, Tryz.ntmps119
  go_wp2
  go_ret
  exact ⟨_, rfl, L.out _ (x1 _ _), x1 _ _⟩

end Go.Proofs.YtcjjobciokfehaaGreatDoor

namespace Go.Proofs.YtcjjobciokfehaaGreatDoor

end Go.Proofs.YtcjjobciokfehaaGreatDoor

namespace Go.Proofs.YtcjjobciokfehaaGreatDoor
open Go.RowKit

end Go.Proofs.YtcjjobciokfehaaGreatDoor

namespace Go.Proofs.YtcjjobciokfehaaGreatDoor

theorem lv_take_getD (xs : List Int) (i : Nat) : lv (xs.take (i + 1)) = lv (xs.take i) + 1000000000 ^ i * xs.getD i 0 := by
 by_cases h : i < xs.length
 ·
  exact lv_take_succ xs i h
 ·
  rw [List.take_of_length_le (by omega), List.take_of_length_le (by omega), List.getD_eq_getElem?_getD, List.getElem?_eq_none (by omega)]
  simp

end Go.Proofs.YtcjjobciokfehaaGreatDoor

