/-
  Chapter 11: the order of rows, plain.
-/
import Derived.Test.YtlofnhhoopefcaaGreatDoorQe
import Derived.Test.YtlofnhhoopefcaaGreatDoorHp
import Derived.Test.YtlofnhhoopefcaaGreatDoorY1a
namespace Go.Proofs.YtlofnhhoopefcaaGreatDoor
open Go.RowKit

theorem bytesQ_swap : ∀ (a b : List UInt8), Lib.compareBytes b a = -Lib.compareBytes a b
 | [], [] => rfl
 | [], _ :: _ => rfl
 | _ :: _, [] => rfl
 | x :: a, y :: b => by
  unfold Lib.compareBytes
  by_cases h1 : x < y
  ·
   have h2 : ¬ y < x := fun h => absurd (UInt8.lt_trans h1 h) (UInt8.lt_irrefl _)
   simp only [h1, h2, if_true, if_false]
   rfl
  ·
   by_cases h2 : y < x
   ·
    simp only [h1, h2, if_true, if_false]
   ·
    simp only [h1, h2, if_false]
    exact bytesQ_swap a b
theorem cmpQI_swap (a b : Int) : cmpI b a = -cmpI a b := by unfold cmpI; split <;> (try split) <;> (try split) <;> (try split) <;> omega
theorem cmpQR_swap (k : Int) (n : Bool) (d x : Int) (t : List UInt8) (k' : Int) (n' : Bool) (d' x' : Int) (t' : List UInt8) : cmpR k' n' d' x' t' k n d x t = -cmpR k n d x t k' n' d' x' t' := by
 unfold cmpR
 by_cases h : k = k'
 ·
  subst h
  simp only [ne_eq, not_true_eq_false, if_false, Int.min_comm x' x]
  by_cases h1 : k = 1
  ·
   rw [if_pos h1, if_pos h1]; exact cmpQI_swap _ _
  ·
   rw [if_neg h1, if_neg h1]
   by_cases h2 : k = 2
   ·
    rw [if_pos h2, if_pos h2]; exact bytesQ_swap _ _
   ·
    rw [if_neg h2, if_neg h2]
    by_cases h3 : k = 3
    ·
     rw [if_pos h3, if_pos h3]; exact bytesQ_swap _ _
    ·
     rw [if_neg h3, if_neg h3]; rfl
 ·
  rw [if_pos h, if_pos (fun e => h e.symm)]
  by_cases h1 : k < k'
  ·
   rw [if_pos h1, if_neg (by omega)]; rfl
  ·
   rw [if_neg h1, if_pos (by omega)]
theorem bytesQ_trans : ∀ (a b c : List UInt8), Lib.compareBytes a b ≤ 0 → Lib.compareBytes b c ≤ 0 → Lib.compareBytes a c ≤ 0
 | [], [], _, _, h => h
 | [], _ :: _, [], _, _ => by decide
 | [], _ :: _, _ :: _, _, _ => (by decide : (-1 : Int) ≤ 0)
 | _ :: _, [], _, h, _ => absurd h (by decide : ¬ (1 : Int) ≤ 0)
 | _ :: _, _ :: _, [], _, h => absurd h (by decide : ¬ (1 : Int) ≤ 0)
 | x :: a, y :: b, z :: c, h, k => by
  unfold Lib.compareBytes at h k ⊢
  by_cases h1 : x < y
  ·
   by_cases k1 : y < z
   ·
    rw [if_pos (UInt8.lt_trans h1 k1)]; decide
   ·
    rw [if_neg k1] at k
    by_cases k2 : z < y
    ·
     rw [if_pos k2] at k; exact absurd k (by decide)
    ·
     have e : y = z := UInt8.le_antisymm (UInt8.not_lt.1 k2) (UInt8.not_lt.1 k1)
     rw [← e, if_pos h1]; decide
  ·
   rw [if_neg h1] at h
   by_cases h2 : y < x
   ·
    rw [if_pos h2] at h; exact absurd h (by decide)
   ·
    rw [if_neg h2] at h
    have e : x = y := UInt8.le_antisymm (UInt8.not_lt.1 h2) (UInt8.not_lt.1 h1)
    subst e
    by_cases k1 : x < z
    ·
     rw [if_pos k1]; decide
    ·
     rw [if_neg k1] at k ⊢
     by_cases k2 : z < x
     ·
      rw [if_pos k2] at k; exact absurd k (by decide)
     ·
      rw [if_neg k2] at k ⊢
      exact bytesQ_trans a b c h k
/-- A number of exponents from -300 on, by one scale. -/
def bigN (n : Bool) (d x : Int) : Int := sgn n d * 10 ^ (x + 300).toNat
theorem cmpI_le (a b : Int) : cmpI a b ≤ 0 ↔ a ≤ b := by unfold cmpI; split <;> (try split) <;> constructor <;> intro <;> omega
theorem pow_pos10 (n : Nat) : (0 : Int) < 10 ^ n := Int.pow_pos (by decide)
theorem scale_le {n n' : Bool} {d x d' x' : Int} (hx : -300 ≤ x) (hx' : -300 ≤ x') : sgn n d * 10 ^ (x - min x x').toNat ≤ sgn n' d' * 10 ^ (x' - min x x').toNat ↔ bigN n d x ≤ bigN n' d' x' := by
 unfold bigN
 have hm : -300 ≤ min x x' := by omega
 have e1 : (x + 300).toNat = (x - min x x').toNat + (min x x' + 300).toNat := by omega
 have e2 : (x' + 300).toNat = (x' - min x x').toNat + (min x x' + 300).toNat := by omega
 rw [e1, e2, Int.pow_add, Int.pow_add, ← Int.mul_assoc, ← Int.mul_assoc]
 exact ⟨fun h => Int.mul_le_mul_of_nonneg_right h (Int.le_of_lt (pow_pos10 _)), fun h => Int.le_of_mul_le_mul_right h (pow_pos10 _)⟩
/-- What stands late: 1 of nothing, 2 of errors. -/
def lateV (e : VT) : Int := if e.k = 0 then 1 else if e.k = 4 then 2 else 0
theorem late_good {e : VT} (hg : e.good = true) (h : lateV e = 0) : e.k = 1 ∨ e.k = 2 ∨ e.k = 3 := by
 have hg' : goodV e.k e.n e.d e.x e.t = true := hg
 unfold lateV at h
 by_cases h0 : e.k = 0
 ·
  rw [if_pos h0] at h; omega
 ·
  by_cases h4 : e.k = 4
  ·
   rw [if_neg h0, if_pos h4] at h; omega
  ·
   by_cases h1 : e.k = 1
   ·
    exact Or.inl h1
   ·
    by_cases h2 : e.k = 2
    ·
     exact Or.inr (Or.inl h2)
    ·
     by_cases h3 : e.k = 3
     ·
      exact Or.inr (Or.inr h3)
     ·
      unfold goodV at hg'
      rw [if_neg h1, if_neg h0, if_neg h2, if_neg h3, if_neg h4] at hg'
      simp at hg'
theorem cmpQ_is {a b : VT} (ga : a.good = true) (gb : b.good = true) (ha : lateV a = 0) (hb : lateV b = 0) : cmpQ a b = cmpR a.k a.n a.d a.x a.t b.k b.n b.d b.x b.t := by
 have ka := late_good ga ha
 have kb := late_good gb hb
 unfold cmpQ compareV
 rw [if_pos ⟨ga, gb, by omega, by omega⟩]
 unfold bk bt
 rw [if_pos (show a.k ≠ 0 by omega), if_pos (show b.k ≠ 0 by omega), if_neg (show ¬ (a.k = 0 ∧ b.k = 3) by omega), if_neg (show ¬ (b.k = 0 ∧ a.k = 3) by omega)]
theorem cmpQ_swap {a b : VT} (ga : a.good = true) (gb : b.good = true) (ha : lateV a = 0) (hb : lateV b = 0) : cmpQ b a = -cmpQ a b := by
 rw [cmpQ_is ga gb ha hb, cmpQ_is gb ga hb ha]
 exact cmpQR_swap _ _ _ _ _ _ _ _ _ _
theorem num_exp {e : VT} (hg : e.good = true) (h : e.k = 1) : -300 ≤ e.x := by
 have hg' : goodV e.k e.n e.d e.x e.t = true := hg
 rw [h] at hg'
 exact (goodB_bd (goodV_num hg').1).2.2.1
theorem cmpR_kind {k : Int} {n : Bool} {d x : Int} {t : List UInt8} {k' : Int} {n' : Bool} {d' x' : Int} {t' : List UInt8} (h : cmpR k n d x t k' n' d' x' t' ≤ 0) : k ≤ k' := by
 by_cases hk : k = k'
 ·
  omega
 ·
  unfold cmpR at h
  rw [if_pos hk] at h
  by_cases h1 : k < k'
  ·
   omega
  ·
   rw [if_neg h1] at h; omega
theorem cmpR_same {k : Int} {n : Bool} {d x : Int} {t : List UInt8} {n' : Bool} {d' x' : Int} {t' : List UInt8} : cmpR k n d x t k n' d' x' t' = if k = 1 then cmpI (sgn n d * 10 ^ (x - min x x').toNat) (sgn n' d' * 10 ^ (x' - min x x').toNat) else
 if k = 2 then Lib.compareBytes (t.map upC) (t'.map upC) else if k = 3 then Lib.compareBytes t t' else 0 := by
 unfold cmpR
 rw [if_neg (fun h => h rfl)]
theorem cmpQ_trans {a b c : VT} (ga : a.good = true) (gb : b.good = true) (gc : c.good = true) (ha : lateV a = 0) (hb : lateV b = 0) (hc : lateV c = 0) (h : cmpQ a b ≤ 0) (k : cmpQ b c ≤ 0) : cmpQ a c ≤ 0 := by
 have ka := late_good ga ha
 have kb := late_good gb hb
 have kc := late_good gc hc
 have na := num_exp ga
 have nb := num_exp gb
 have nc := num_exp gc
 rw [cmpQ_is ga gb ha hb] at h
 rw [cmpQ_is gb gc hb hc] at k
 rw [cmpQ_is ga gc ha hc]
 obtain ⟨k1, n1, d1, x1, t1⟩ := a
 obtain ⟨k2, n2, d2, x2, t2⟩ := b
 obtain ⟨k3, n3, d3, x3, t3⟩ := c
 simp only at h k ka kb kc na nb nc ⊢
 clear ga gb gc ha hb hc
 have o1 := cmpR_kind h
 have o2 := cmpR_kind k
 by_cases h13 : k1 = k3
 ·
  subst h13
  obtain rfl : k1 = k2 := by omega
  rw [cmpR_same] at h k ⊢
  by_cases h1 : k1 = 1
  ·
   rw [if_pos h1] at h k ⊢
   rw [cmpI_le, scale_le (na h1) (nb h1)] at h
   rw [cmpI_le, scale_le (nb h1) (nc h1)] at k
   rw [cmpI_le, scale_le (na h1) (nc h1)]
   exact Int.le_trans h k
  ·
   rw [if_neg h1] at h k ⊢
   by_cases h2 : k1 = 2
   ·
    rw [if_pos h2] at h k ⊢; exact bytesQ_trans _ _ _ h k
   ·
    rw [if_neg h2] at h k ⊢
    by_cases h3 : k1 = 3
    ·
     rw [if_pos h3] at h k ⊢; exact bytesQ_trans _ _ _ h k
    ·
     omega
 ·
  unfold cmpR
  rw [if_pos h13, if_pos (by omega)]
  decide

/-- How two cells stand to each other, up or down. -/
def standB (a b : VT) (s : Int) : Int := if lateV a ≠ lateV b ∨ lateV a ≠ 0 then cmpI (lateV a) (lateV b) else cmpQ a b * s
theorem stand_swap {a b : VT} (ga : a.good = true) (gb : b.good = true) (s : Int) : standB b a s = -standB a b s := by
 unfold standB
 by_cases h : lateV a ≠ lateV b ∨ lateV a ≠ 0
 ·
  rw [if_pos h, if_pos (by omega)]
  exact cmpQI_swap _ _
 ·
  rw [if_neg h, if_neg (by omega), cmpQ_swap ga gb (by omega) (by omega), Int.neg_mul]
theorem stand_trans {a b c : VT} (ga : a.good = true) (gb : b.good = true) (gc : c.good = true) {s : Int} (hs : s = 1 ∨ s = -1) (h : standB a b s ≤ 0) (k : standB b c s ≤ 0) : standB a c s ≤ 0 := by
 have l0 : ∀ e : VT, 0 ≤ lateV e := fun e => by unfold lateV; split <;> (try split) <;> omega
 have la := l0 a
 have lb := l0 b
 have lc := l0 c
 unfold standB at h k ⊢
 by_cases h1 : lateV a ≠ lateV b ∨ lateV a ≠ 0
 ·
  rw [if_pos h1, cmpI_le] at h
  by_cases h2 : lateV b ≠ lateV c ∨ lateV b ≠ 0
  ·
   rw [if_pos h2, cmpI_le] at k
   rw [if_pos (by omega), cmpI_le]
   omega
  ·
   rw [if_pos (by omega), cmpI_le]
   omega
 ·
  rw [if_neg h1] at h
  by_cases h2 : lateV b ≠ lateV c ∨ lateV b ≠ 0
  ·
   rw [if_pos h2, cmpI_le] at k
   rw [if_pos (by omega), cmpI_le]
   omega
  ·
   rw [if_neg h2] at k
   rw [if_neg (by omega)]
   rcases hs with rfl | rfl
   ·
    rw [Int.mul_one] at h k ⊢
    exact cmpQ_trans ga gb gc (by omega) (by omega) (by omega) h k
   ·
    have h' : cmpQ b a ≤ 0 := by rw [cmpQ_swap ga gb (by omega) (by omega)]; omega
    have k' : cmpQ c b ≤ 0 := by rw [cmpQ_swap gb gc (by omega) (by omega)]; omega
    have := cmpQ_trans gc gb ga (by omega) (by omega) (by omega) k' h'
    rw [cmpQ_swap ga gc (by omega) (by omega)] at this
    omega
def sgnK (e : YT) : Int := if e.dn then -1 else 1
theorem sgnK_is (e : YT) : sgnK e = 1 ∨ sgnK e = -1 := by unfold sgnK; split <;> simp
/-- A row's cell by a key. -/
def celK (l : List VT) (c x : Nat) (k : YT) : VT := cel l (x * c + (k.cl.toNat - 1))
/-- The first key that tells two rows apart. -/
def lexK (l : List VT) (c x y : Nat) : List YT → Int
 | [] => 0
 | k :: ks => if standB (celK l c x k) (celK l c y k) (sgnK k) ≠ 0 then standB (celK l c x k) (celK l c y k) (sgnK k) else lexK l c x y ks
theorem cel_good {l : List VT} (h : ∀ e ∈ l, e.good = true) (k : Nat) : (cel l k).good = true := by
 by_cases hk : k < l.length
 ·
  exact h _ (cel_mem hk)
 ·
  have : cel l k = zeroVT := by unfold cel; rw [List.getD_eq_getElem?_getD, List.getElem?_eq_none (by omega)]; rfl
  rw [this]; decide
theorem lex_swap {l : List VT} (h : ∀ e ∈ l, e.good = true) (c x y : Nat) (ks : List YT) : lexK l c y x ks = -lexK l c x y ks := by
 induction ks with
 | nil => rfl
 | cons k ks ih =>
  unfold lexK
  have e := stand_swap (cel_good h (x * c + (k.cl.toNat - 1))) (cel_good h (y * c + (k.cl.toNat - 1))) (sgnK k)
  change standB (celK l c y k) (celK l c x k) (sgnK k) = -standB (celK l c x k) (celK l c y k) (sgnK k) at e
  rw [e, ih]
  by_cases h0 : standB (celK l c x k) (celK l c y k) (sgnK k) = 0
  ·
   rw [if_neg (by omega), if_neg (by omega)]
  ·
   rw [if_pos (by omega), if_pos h0]
theorem lex_trans {l : List VT} (h : ∀ e ∈ l, e.good = true) (c x y z : Nat) (ks : List YT) (h1 : lexK l c x y ks ≤ 0) (h2 : lexK l c y z ks ≤ 0) : lexK l c x z ks ≤ 0 := by
 induction ks with
 | nil => exact Int.le_refl _
 | cons k ks ih =>
  unfold lexK at h1 h2 ⊢
  have gd := fun q => cel_good h (q * c + (k.cl.toNat - 1))
  have sw := fun p q => stand_swap (gd p) (gd q) (sgnK k)
  have tr := fun p q r => stand_trans (gd p) (gd q) (gd r) (sgnK_is k)
  change ∀ p q, standB (celK l c q k) (celK l c p k) (sgnK k) = -standB (celK l c p k) (celK l c q k) (sgnK k) at sw
  change ∀ p q r, standB (celK l c p k) (celK l c q k) (sgnK k) ≤ 0 → standB (celK l c q k) (celK l c r k) (sgnK k) ≤ 0 → standB (celK l c p k) (celK l c r k) (sgnK k) ≤ 0 at tr
  have a1 := sw x y
  have a2 := sw y z
  have a3 := sw x z
  have t1 := tr x y z
  have t2 := tr z x y
  have t3 := tr y z x
  have t4 := tr x z y
  have t5 := tr y x z
  have t6 := tr z y x
  generalize standB (celK l c x k) (celK l c y k) (sgnK k) = A at *
  generalize standB (celK l c y k) (celK l c z k) (sgnK k) = B at *
  generalize standB (celK l c x k) (celK l c z k) (sgnK k) = C at *
  rw [a1] at t3 t5 t6
  rw [a2] at t2 t4 t6
  rw [a3] at t2 t3 t6
  by_cases hA : A = 0
  ·
   by_cases hB : B = 0
   ·
    have hC : C = 0 := by
     have := t1 (by omega) (by omega)
     have := t6 (by omega) (by omega)
     omega
    rw [if_neg (by omega)] at h1 h2
    rw [if_neg (by omega)]
    exact ih h1 h2
   ·
    rw [if_pos hB] at h2
    have := t1 (by omega) h2
    by_cases hC : C = 0
    ·
     exact absurd (t4 (by omega) |> fun _ => t2 (by omega) (by omega)) (by omega)
    ·
     rw [if_pos hC]; exact this
  ·
   rw [if_pos hA] at h1
   by_cases hB : B = 0
   ·
    have := t1 h1 (by omega)
    by_cases hC : C = 0
    ·
     have := t3 (by omega) (by omega); omega
    ·
     rw [if_pos hC]; exact this
   ·
    rw [if_pos hB] at h2
    have := t1 h1 h2
    by_cases hC : C = 0
    ·
     have := t2 (by omega) h1; omega
    ·
     rw [if_pos hC]; exact this
/-- A row stands ahead of another one. -/
def lessR (l : List VT) (c : Nat) (ks : List YT) (x y : Nat) : Bool := decide (lexK l c x y ks < 0) || (decide (lexK l c x y ks = 0) && decide (x < y))
theorem lessR_iff {l : List VT} {c : Nat} {ks : List YT} {x y : Nat} : lessR l c ks x y = true ↔ lexK l c x y ks < 0 ∨ (lexK l c x y ks = 0 ∧ x < y) := by simp [lessR]
theorem lessR_strict {l : List VT} (h : ∀ e ∈ l, e.good = true) (c : Nat) (ks : List YT) : Strict (lessR l c ks) := by
 refine ⟨fun a => ?_, fun a b d h1 h2 => ?_, fun a b hab => ?_⟩
 ·
  cases e : lessR l c ks a a with
  | false => rfl
  | true =>
   have := lessR_iff.1 e
   have s := lex_swap h c a a ks
   omega
 ·
  rw [lessR_iff] at h1 h2 ⊢
  have t1 := lex_trans h c a b d ks
  have t2 := lex_trans h c d a b ks
  have t3 := lex_trans h c b d a ks
  rw [lex_swap h c a d ks] at t2 t3
  rw [lex_swap h c b d ks] at t2
  rw [lex_swap h c a b ks] at t3
  by_cases hl : lexK l c a d ks = 0
  ·
   right
   refine ⟨hl, ?_⟩
   by_cases e1 : lexK l c a b ks = 0
   ·
    by_cases e2 : lexK l c b d ks = 0
    ·
     omega
    ·
     have := t3 (by omega) (by omega); have := t2 (by omega) (by omega); omega
   ·
    have := t2 (by omega) (by omega); have := t3 (by omega) (by omega); omega
  ·
   left
   have := t1 (by omega) (by omega)
   omega
 ·
  rw [lessR_iff, lessR_iff, lex_swap h c a b ks]
  omega
/-- By all keys, and then as they stand. -/
def cmpRow (l : List VT) (c : Nat) (ks : List YT) (x y : Nat) : Int := if lexK l c x y ks ≠ 0 then lexK l c x y ks else cmpI x y
theorem cmpRow_less {l : List VT} {c : Nat} {ks : List YT} {x y : Nat} : decide (cmpRow l c ks x y < 0) = lessR l c ks x y := by
 unfold cmpRow lessR cmpI
 by_cases h : lexK l c x y ks = 0
 ·
  rw [if_neg (fun q => q h), h]
  by_cases h1 : x < y
  ·
   have : (x : Int) < (y : Int) := by omega
   simp [h1]
  ·
   have : ¬ (x : Int) < (y : Int) := by omega
   by_cases h2 : y < x
   ·
    have h3 : (y : Int) < (x : Int) := by omega
    simp [h1, h2]
   ·
    simp [h1, h2]
 ·
  rw [if_pos h]
  simp [h]

end Go.Proofs.YtlofnhhoopefcaaGreatDoor

