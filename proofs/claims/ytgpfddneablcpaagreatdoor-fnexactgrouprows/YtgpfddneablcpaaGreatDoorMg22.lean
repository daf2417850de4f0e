/-
  Several texts in one: Qe, Hp, Big, Y1a, Qk, J1.
-/
import Derived.Test.YtgpfddneablcpaaGreatDoorMg8
import Derived.Test.YtgpfddneablcpaaGreatDoorV6u
import Derived.Test.YtgpfddneablcpaaGreatDoorMg16
import Derived.Test.YtgpfddneablcpaaGreatDoorMg1
import Derived.Laws.MakeOwn
namespace Go.Proofs.YtgpfddneablcpaaGreatDoor
open Go.RowKit

def sameQ (a b : VT) : Bool := decide (a.k = b.k ∧ a.n = b.n ∧ a.d = b.d ∧ a.x = b.x ∧ a.t = b.t)
def cmpQ (a b : VT) : Int := compareV a.k a.n a.d a.x a.t b.k b.n b.d b.x b.t
/-- Two cells are the same: the same kind, and Compare 0, or the same error. -/
def likeB (a b : VT) : Bool := decide (a.k = b.k) && (if a.k = 4 then sameQ a b else decide (cmpQ a b = 0))
set_option maxHeartbeats 1000000 in
theorem valQ_eql (k : Int) (n : Bool) (d x : Int) (t : List UInt8) (k' : Int) (n' : Bool) (d' x' : Int) (t' : List UInt8) (W : World) :
  (binOp BinOp.eql 51 (valV k n d x t) (valV k' n' d' x' t')).run Tryz.prog W = .ok (.bool (sameQ ⟨k, n, d, x, t⟩ ⟨k', n', d', x', t'⟩)) W := by
 unfold sameQ
 by_cases h : k = k' ∧ n = n' ∧ d = d' ∧ x = x' ∧ t = t'
 ·
  obtain ⟨rfl, rfl, rfl, rfl, rfl⟩ := h
  go_simp
 ·
  rw [decide_eq_false h]
  have H : Hid (¬ (k = k' ∧ n = n' ∧ d = d' ∧ x = x' ∧ t = t')) := h
  clear h
  go_simp
  intros
  have := H.out
  simp_all

end Go.Proofs.YtgpfddneablcpaaGreatDoor

namespace Go.Proofs.YtgpfddneablcpaaGreatDoor

structure Strict (less : Nat → Nat → Bool) : Prop where
 irr : ∀ a, less a a = false
 tr : ∀ a b c, less a b = true → less b c = true → less a c = true
 tot : ∀ a b, a ≠ b → less a b = true ∨ less b a = true
/-- a is not behind b. -/
def leB (less : Nat → Nat → Bool) (a b : Nat) : Prop := less b a = false
/-- A number of a list by its place. -/
def nth (h : List Nat) (i : Nat) : Nat := h.getD i 0
/-- Each is not ahead of the one above it. -/
def HeapOK (less : Nat → Nat → Bool) (h : List Nat) : Prop := ∀ i, 0 < i → i < h.length → leB less (nth h ((i - 1) / 2)) (nth h i)
/-- The least of a place and of those below it that were looked at. -/
structure Next (less : Nat → Nat → Bool) (h : List Nat) (p kid nx : Nat) : Prop where
 in1 : nx < h.length
 own : nx = p ∨ ((nx - 1) / 2 = p ∧ 0 < nx ∧ less (nth h nx) (nth h p) = true)
 kids : ∀ i, 0 < i → i < kid → i < h.length → (i - 1) / 2 = p → leB less (nth h nx) (nth h i)
/-- While the least ones are taken. -/
structure Taking (less : Nat → Nat → Bool) (n : Nat) (rows h : List Nat) : Prop where
 heap : HeapOK less h
 all : (rows ++ h).Perm (List.range n)
 up : rows.Pairwise (fun a b => less a b = true)
 far : ∀ a ∈ rows, ∀ b ∈ h, less a b = true
/-- While a row is put in its place. -/
structure Putting (less : Nat → Nat → Bool) (i : Nat) (A B : List Nat) : Prop where
 all : (A ++ B).Perm (List.range i)
 up : (A ++ B).Pairwise (fun a b => less a b = true)
 far : ∀ b ∈ B, less i b = true
end Go.Proofs.YtgpfddneablcpaaGreatDoor

namespace Go.Proofs.YtgpfddneablcpaaGreatDoor
open Go.RowKit

/-- A number of exponents from -300 on, by one scale. -/
def bigN (n : Bool) (d x : Int) : Int := sgn n d * 10 ^ (x + 300).toNat
theorem cmpI_le (a b : Int) : cmpI a b ≤ 0 ↔ a ≤ b := by unfold cmpI; split <;> (try split) <;> constructor <;> intro <;> omega
theorem pow_pos10 (n : Nat) : (0 : Int) < 10 ^ n := Int.pow_pos (by decide)
theorem scale_le {n n' : Bool} {d x d' x' : Int} (hx : -300 ≤ x) (hx' : -300 ≤ x') : sgn n d * 10 ^ (x - min x x').toNat ≤ sgn n' d' * 10 ^ (x' - min x x').toNat ↔ bigN n d x ≤ bigN n' d' x' := by
 unfold bigN
 have hm : -300 ≤ min x x' := by omega
 have e1 : (x + 300).toNat = (x - min x x').toNat + (min x x' + 300).toNat := by omega
 have e2 : (x' + 300).toNat = (x' - min x x').toNat + (min x x' + 300).toNat := by omega
 rw [e1, e2, Int.pow_add, Int.pow_add, ← Int.mul_assoc, ← Int.mul_assoc]
 exact ⟨fun h => Int.mul_le_mul_of_nonneg_right h (Int.le_of_lt (pow_pos10 _)), fun h => Int.le_of_mul_le_mul_right h (pow_pos10 _)⟩
theorem cmpI_zero {a b : Int} : cmpI a b = 0 ↔ a = b := by
 unfold cmpI
 split
 ·
  constructor
  ·
   intro h; omega
  ·
   intro h; omega
 ·
  split <;> constructor <;> intro h <;> omega
theorem ten_dvd {n : Nat} (h : n ≠ 0) : (10 : Int) ∣ 10 ^ n := by
 obtain ⟨m, rfl⟩ : ∃ m, n = m + 1 := ⟨n - 1, by omega⟩
 exact ⟨10 ^ m, by rw [Int.pow_succ, Int.mul_comm]⟩
theorem goodB_parts {n : Bool} {d x : Int} (h : goodB n d x = true) : (d = 0 ∧ n = false ∧ x = 0) ∨ (0 < d ∧ d % 10 ≠ 0) := by
 unfold goodB at h
 split at h
 ·
  left
  rename_i h0
  simp at h
  exact ⟨h0, h.1, h.2⟩
 ·
  right
  have := of_decide_eq_true h
  exact ⟨this.1, this.2.2.1⟩
theorem dec_one_lt {n n' : Bool} {d d' x x' : Int} (g : goodB n d x = true) (hx : x < x') (e : sgn n d = sgn n' d' * 10 ^ (x' - x).toNat) : d = 0 := by
 rcases goodB_parts g with ⟨h, _, _⟩ | ⟨h, hm⟩
 ·
  exact h
 ·
  exfalso
  have hd : (10 : Int) ∣ sgn n d := by
   have hn : (x' - x).toNat ≠ 0 := by omega
   rw [e]
   exact Int.dvd_trans (ten_dvd hn) ⟨sgn n' d', by rw [Int.mul_comm]⟩
  have : (10 : Int) ∣ d := by
   unfold sgn at hd
   split at hd
   ·
    exact (Int.dvd_neg).1 hd
   ·
    exact hd
  omega
theorem pow_ne (k : Nat) : (10 : Int) ^ k ≠ 0 := by
 have : (0 : Int) < 10 ^ k := Int.pow_pos (by omega)
 omega
theorem sgn_zero {n : Bool} {d : Int} : sgn n d = 0 ↔ d = 0 := by unfold sgn; split <;> omega
theorem dec_one {n n' : Bool} {d d' x x' : Int} (g : goodB n d x = true) (g' : goodB n' d' x' = true) (e : sgn n d * 10 ^ (x - min x x').toNat = sgn n' d' * 10 ^ (x' - min x x').toNat) : n = n' ∧ d = d' ∧ x = x' := by
 have zero : d = 0 → d' = 0 → n = n' ∧ d = d' ∧ x = x' := fun h h' => by
  rcases goodB_parts g with ⟨_, a, b⟩ | ⟨a, _⟩
  ·
   rcases goodB_parts g' with ⟨_, a', b'⟩ | ⟨a', _⟩
   ·
    exact ⟨by rw [a, a'], by rw [h, h'], by rw [b, b']⟩
   ·
    omega
  ·
   omega
 rcases Int.lt_trichotomy x x' with hx | hx | hx
 ·
  rw [show min x x' = x by omega, Int.sub_self, show (0 : Int).toNat = 0 from rfl, Int.pow_zero, Int.mul_one] at e
  have d0 := dec_one_lt g hx e
  have : sgn n' d' = 0 := by
   have e0 : sgn n d = 0 := sgn_zero.2 d0
   rw [e0] at e
   rcases Int.mul_eq_zero.1 e.symm with h | h
   ·
    exact h
   ·
    exact absurd h (pow_ne _)
  exact zero d0 (sgn_zero.1 this)
 ·
  subst hx
  rw [show min x x = x by omega, Int.sub_self, show (0 : Int).toNat = 0 from rfl, Int.pow_zero, Int.mul_one, Int.mul_one] at e
  rcases goodB_parts g with ⟨h, a, _⟩ | ⟨h, _⟩
  ·
   have : d' = 0 := sgn_zero.1 (by rw [← e]; exact sgn_zero.2 h)
   exact zero h this
  ·
   rcases goodB_parts g' with ⟨h', _, _⟩ | ⟨h', _⟩
   ·
    have : d = 0 := sgn_zero.1 (by rw [e]; exact sgn_zero.2 h')
    omega
   ·
    unfold sgn at e
    cases n <;> cases n' <;> simp at e <;> first | exact ⟨rfl, by omega, rfl⟩ | omega
 ·
  rw [show min x x' = x' by omega, Int.sub_self, show (0 : Int).toNat = 0 from rfl, Int.pow_zero, Int.mul_one] at e
  have d0 := dec_one_lt g' hx e.symm
  have : sgn n d = 0 := by
   have e0 : sgn n' d' = 0 := sgn_zero.2 d0
   rw [e0] at e
   rcases Int.mul_eq_zero.1 e with h | h
   ·
    exact h
   ·
    exact absurd h (pow_ne _)
  exact zero (sgn_zero.1 this) d0

structure YT where
 cl : Int
 dn : Bool
abbrev YT.cells (e : YT) : List Value := [.int .i64 e.cl, .bool e.dn]
abbrev sortKeyV (cl : Int) (dn : Bool) : Value := .agg #[.int .i64 cl, .bool dn]

theorem bytesQ_swap : ∀ (a b : List UInt8), Lib.compareBytes b a = -Lib.compareBytes a b
 | [], [] => rfl
 | [], _ :: _ => rfl
 | _ :: _, [] => rfl
 | x :: a, y :: b => by
  unfold Lib.compareBytes
  by_cases h1 : x < y
  ·
   have h2 : ¬ y < x := fun h => absurd (UInt8.lt_trans h1 h) (UInt8.lt_irrefl _)
   simp only [h1, h2, if_true, if_false]
   rfl
  ·
   by_cases h2 : y < x
   ·
    simp only [h1, h2, if_true, if_false]
   ·
    simp only [h1, h2, if_false]
    exact bytesQ_swap a b
theorem cmpQI_swap (a b : Int) : cmpI b a = -cmpI a b := by unfold cmpI; split <;> (try split) <;> (try split) <;> (try split) <;> omega
theorem cmpQR_swap (k : Int) (n : Bool) (d x : Int) (t : List UInt8) (k' : Int) (n' : Bool) (d' x' : Int) (t' : List UInt8) : cmpR k' n' d' x' t' k n d x t = -cmpR k n d x t k' n' d' x' t' := by
 unfold cmpR
 by_cases h : k = k'
 ·
  subst h
  simp only [ne_eq, not_true_eq_false, if_false, Int.min_comm x' x]
  by_cases h1 : k = 1
  ·
   rw [if_pos h1, if_pos h1]; exact cmpQI_swap _ _
  ·
   rw [if_neg h1, if_neg h1]
   by_cases h2 : k = 2
   ·
    rw [if_pos h2, if_pos h2]; exact bytesQ_swap _ _
   ·
    rw [if_neg h2, if_neg h2]
    by_cases h3 : k = 3
    ·
     rw [if_pos h3, if_pos h3]; exact bytesQ_swap _ _
    ·
     rw [if_neg h3, if_neg h3]; rfl
 ·
  rw [if_pos h, if_pos (fun e => h e.symm)]
  by_cases h1 : k < k'
  ·
   rw [if_pos h1, if_neg (by omega)]; rfl
  ·
   rw [if_neg h1, if_pos (by omega)]
theorem bytesQ_trans : ∀ (a b c : List UInt8), Lib.compareBytes a b ≤ 0 → Lib.compareBytes b c ≤ 0 → Lib.compareBytes a c ≤ 0
 | [], [], _, _, h => h
 | [], _ :: _, [], _, _ => by decide
 | [], _ :: _, _ :: _, _, _ => (by decide : (-1 : Int) ≤ 0)
 | _ :: _, [], _, h, _ => absurd h (by decide : ¬ (1 : Int) ≤ 0)
 | _ :: _, _ :: _, [], _, h => absurd h (by decide : ¬ (1 : Int) ≤ 0)
 | x :: a, y :: b, z :: c, h, k => by
  unfold Lib.compareBytes at h k ⊢
  by_cases h1 : x < y
  ·
   by_cases k1 : y < z
   ·
    rw [if_pos (UInt8.lt_trans h1 k1)]; decide
   ·
    rw [if_neg k1] at k
    by_cases k2 : z < y
    ·
     rw [if_pos k2] at k; exact absurd k (by decide)
    ·
     have e : y = z := UInt8.le_antisymm (UInt8.not_lt.1 k2) (UInt8.not_lt.1 k1)
     rw [← e, if_pos h1]; decide
  ·
   rw [if_neg h1] at h
   by_cases h2 : y < x
   ·
    rw [if_pos h2] at h; exact absurd h (by decide)
   ·
    rw [if_neg h2] at h
    have e : x = y := UInt8.le_antisymm (UInt8.not_lt.1 h2) (UInt8.not_lt.1 h1)
    subst e
    by_cases k1 : x < z
    ·
     rw [if_pos k1]; decide
    ·
     rw [if_neg k1] at k ⊢
     by_cases k2 : z < x
     ·
      rw [if_pos k2] at k; exact absurd k (by decide)
     ·
      rw [if_neg k2] at k ⊢
      exact bytesQ_trans a b c h k
/-- What stands late: 1 of nothing, 2 of errors. -/
def lateV (e : VT) : Int := if e.k = 0 then 1 else if e.k = 4 then 2 else 0
theorem late_good {e : VT} (hg : e.good = true) (h : lateV e = 0) : e.k = 1 ∨ e.k = 2 ∨ e.k = 3 := by
 have hg' : goodV e.k e.n e.d e.x e.t = true := hg
 unfold lateV at h
 by_cases h0 : e.k = 0
 ·
  rw [if_pos h0] at h; omega
 ·
  by_cases h4 : e.k = 4
  ·
   rw [if_neg h0, if_pos h4] at h; omega
  ·
   by_cases h1 : e.k = 1
   ·
    exact Or.inl h1
   ·
    by_cases h2 : e.k = 2
    ·
     exact Or.inr (Or.inl h2)
    ·
     by_cases h3 : e.k = 3
     ·
      exact Or.inr (Or.inr h3)
     ·
      unfold goodV at hg'
      rw [if_neg h1, if_neg h0, if_neg h2, if_neg h3, if_neg h4] at hg'
      simp at hg'
theorem cmpQ_is {a b : VT} (ga : a.good = true) (gb : b.good = true) (ha : lateV a = 0) (hb : lateV b = 0) : cmpQ a b = cmpR a.k a.n a.d a.x a.t b.k b.n b.d b.x b.t := by
 have ka := late_good ga ha
 have kb := late_good gb hb
 unfold cmpQ compareV
 rw [if_pos ⟨ga, gb, by omega, by omega⟩]
 unfold bk bt
 rw [if_pos (show a.k ≠ 0 by omega), if_pos (show b.k ≠ 0 by omega), if_neg (show ¬ (a.k = 0 ∧ b.k = 3) by omega), if_neg (show ¬ (b.k = 0 ∧ a.k = 3) by omega)]
theorem cmpQ_swap {a b : VT} (ga : a.good = true) (gb : b.good = true) (ha : lateV a = 0) (hb : lateV b = 0) : cmpQ b a = -cmpQ a b := by
 rw [cmpQ_is ga gb ha hb, cmpQ_is gb ga hb ha]
 exact cmpQR_swap _ _ _ _ _ _ _ _ _ _
theorem num_exp {e : VT} (hg : e.good = true) (h : e.k = 1) : -300 ≤ e.x := by
 have hg' : goodV e.k e.n e.d e.x e.t = true := hg
 rw [h] at hg'
 exact (goodB_bd (goodV_num hg').1).2.2.1
theorem cmpR_kind {k : Int} {n : Bool} {d x : Int} {t : List UInt8} {k' : Int} {n' : Bool} {d' x' : Int} {t' : List UInt8} (h : cmpR k n d x t k' n' d' x' t' ≤ 0) : k ≤ k' := by
 by_cases hk : k = k'
 ·
  omega
 ·
  unfold cmpR at h
  rw [if_pos hk] at h
  by_cases h1 : k < k'
  ·
   omega
  ·
   rw [if_neg h1] at h; omega
theorem cmpR_same {k : Int} {n : Bool} {d x : Int} {t : List UInt8} {n' : Bool} {d' x' : Int} {t' : List UInt8} : cmpR k n d x t k n' d' x' t' = if k = 1 then cmpI (sgn n d * 10 ^ (x - min x x').toNat) (sgn n' d' * 10 ^ (x' - min x x').toNat) else
 if k = 2 then Lib.compareBytes (t.map upC) (t'.map upC) else if k = 3 then Lib.compareBytes t t' else 0 := by
 unfold cmpR
 rw [if_neg (fun h => h rfl)]
theorem cmpQ_trans {a b c : VT} (ga : a.good = true) (gb : b.good = true) (gc : c.good = true) (ha : lateV a = 0) (hb : lateV b = 0) (hc : lateV c = 0) (h : cmpQ a b ≤ 0) (k : cmpQ b c ≤ 0) : cmpQ a c ≤ 0 := by
 have ka := late_good ga ha
 have kb := late_good gb hb
 have kc := late_good gc hc
 have na := num_exp ga
 have nb := num_exp gb
 have nc := num_exp gc
 rw [cmpQ_is ga gb ha hb] at h
 rw [cmpQ_is gb gc hb hc] at k
 rw [cmpQ_is ga gc ha hc]
 obtain ⟨k1, n1, d1, x1, t1⟩ := a
 obtain ⟨k2, n2, d2, x2, t2⟩ := b
 obtain ⟨k3, n3, d3, x3, t3⟩ := c
 simp only at h k ka kb kc na nb nc ⊢
 clear ga gb gc ha hb hc
 have o1 := cmpR_kind h
 have o2 := cmpR_kind k
 by_cases h13 : k1 = k3
 ·
  subst h13
  obtain rfl : k1 = k2 := by omega
  rw [cmpR_same] at h k ⊢
  by_cases h1 : k1 = 1
  ·
   rw [if_pos h1] at h k ⊢
   rw [cmpI_le, scale_le (na h1) (nb h1)] at h
   rw [cmpI_le, scale_le (nb h1) (nc h1)] at k
   rw [cmpI_le, scale_le (na h1) (nc h1)]
   exact Int.le_trans h k
  ·
   rw [if_neg h1] at h k ⊢
   by_cases h2 : k1 = 2
   ·
    rw [if_pos h2] at h k ⊢; exact bytesQ_trans _ _ _ h k
   ·
    rw [if_neg h2] at h k ⊢
    by_cases h3 : k1 = 3
    ·
     rw [if_pos h3] at h k ⊢; exact bytesQ_trans _ _ _ h k
    ·
     omega
 ·
  unfold cmpR
  rw [if_pos h13, if_pos (by omega)]
  decide

/-- How two cells stand to each other, up or down. -/
def standB (a b : VT) (s : Int) : Int := if lateV a ≠ lateV b ∨ lateV a ≠ 0 then cmpI (lateV a) (lateV b) else cmpQ a b * s
theorem stand_swap {a b : VT} (ga : a.good = true) (gb : b.good = true) (s : Int) : standB b a s = -standB a b s := by
 unfold standB
 by_cases h : lateV a ≠ lateV b ∨ lateV a ≠ 0
 ·
  rw [if_pos h, if_pos (by omega)]
  exact cmpQI_swap _ _
 ·
  rw [if_neg h, if_neg (by omega), cmpQ_swap ga gb (by omega) (by omega), Int.neg_mul]
theorem stand_trans {a b c : VT} (ga : a.good = true) (gb : b.good = true) (gc : c.good = true) {s : Int} (hs : s = 1 ∨ s = -1) (h : standB a b s ≤ 0) (k : standB b c s ≤ 0) : standB a c s ≤ 0 := by
 have l0 : ∀ e : VT, 0 ≤ lateV e := fun e => by unfold lateV; split <;> (try split) <;> omega
 have la := l0 a
 have lb := l0 b
 have lc := l0 c
 unfold standB at h k ⊢
 by_cases h1 : lateV a ≠ lateV b ∨ lateV a ≠ 0
 ·
  rw [if_pos h1, cmpI_le] at h
  by_cases h2 : lateV b ≠ lateV c ∨ lateV b ≠ 0
  ·
   rw [if_pos h2, cmpI_le] at k
   rw [if_pos (by omega), cmpI_le]
   omega
  ·
   rw [if_pos (by omega), cmpI_le]
   omega
 ·
  rw [if_neg h1] at h
  by_cases h2 : lateV b ≠ lateV c ∨ lateV b ≠ 0
  ·
   rw [if_pos h2, cmpI_le] at k
   rw [if_pos (by omega), cmpI_le]
   omega
  ·
   rw [if_neg h2] at k
   rw [if_neg (by omega)]
   rcases hs with rfl | rfl
   ·
    rw [Int.mul_one] at h k ⊢
    exact cmpQ_trans ga gb gc (by omega) (by omega) (by omega) h k
   ·
    have h' : cmpQ b a ≤ 0 := by rw [cmpQ_swap ga gb (by omega) (by omega)]; omega
    have k' : cmpQ c b ≤ 0 := by rw [cmpQ_swap gb gc (by omega) (by omega)]; omega
    have := cmpQ_trans gc gb ga (by omega) (by omega) (by omega) k' h'
    rw [cmpQ_swap ga gc (by omega) (by omega)] at this
    omega
theorem cel_good {l : List VT} (h : ∀ e ∈ l, e.good = true) (k : Nat) : (cel l k).good = true := by
 by_cases hk : k < l.length
 ·
  exact h _ (cel_mem hk)
 ·
  have : cel l k = zeroVT := by unfold cel; rw [List.getD_eq_getElem?_getD, List.getElem?_eq_none (by omega)]; rfl
  rw [this]; decide

/-- What is the same for values that are the same. -/
def nrm (e : VT) : VT := ⟨e.k, e.n, e.d, e.x, e.t.map upC⟩
theorem bytes_zero : ∀ (a b : List UInt8), Lib.compareBytes a b = 0 ↔ a = b
 | [], [] => by simp [Lib.compareBytes]
 | [], b :: bs => by simp [Lib.compareBytes]
 | a :: ar, [] => by simp [Lib.compareBytes]
 | a :: ar, b :: bs => by
  unfold Lib.compareBytes
  by_cases h1 : a < b
  ·
   rw [if_pos h1]
   constructor
   ·
    intro h; cases h
   ·
    intro h; cases h; exact absurd h1 (by simp)
  ·
   by_cases h2 : b < a
   ·
    rw [if_neg h1, if_pos h2]
    constructor
    ·
     intro h; cases h
    ·
     intro h; cases h; exact absurd h2 (by simp)
   ·
    rw [if_neg h1, if_neg h2, bytes_zero ar bs]
    have : a = b := by
     have e1 : ¬ a.toNat < b.toNat := fun h => h1 h
     have e2 : ¬ b.toNat < a.toNat := fun h => h2 h
     exact UInt8.toNat_inj.1 (by omega)
    simp [this]
theorem upC_err {t : List UInt8} (h : memB errL t = true) : t.map upC = t := by
 have : t ∈ errL := by simpa [memB] using h
 simp only [errL, List.mem_cons, List.not_mem_nil, or_false] at this
 rcases this with rfl | rfl | rfl | rfl | rfl | rfl | rfl | rfl | rfl <;> decide
theorem goodV_kinds {k : Int} {n : Bool} {d x : Int} {t : List UInt8} (h : goodV k n d x t = true) : k = 0 ∨ k = 1 ∨ k = 2 ∨ (k = 3 ∧ boolB t = true) ∨ (k = 4 ∧ memB errL t = true) := by
 unfold goodV at h
 by_cases h1 : k = 1
 ·
  exact Or.inr (Or.inl h1)
 rw [if_neg h1] at h
 have h2 := (Bool.and_eq_true _ _ ▸ h : _ ∧ _).2
 by_cases h0 : k = 0
 ·
  exact Or.inl h0
 rw [if_neg h0] at h2
 by_cases h2' : k = 2
 ·
  exact Or.inr (Or.inr (Or.inl h2'))
 rw [if_neg h2'] at h2
 by_cases h3 : k = 3
 ·
  rw [if_pos h3] at h2
  exact Or.inr (Or.inr (Or.inr (Or.inl ⟨h3, h2⟩)))
 rw [if_neg h3] at h2
 by_cases h4 : k = 4
 ·
  rw [if_pos h4] at h2
  exact Or.inr (Or.inr (Or.inr (Or.inr ⟨h4, h2⟩)))
 rw [if_neg h4] at h2
 cases h2
/-- Values that are the same, and these alone, have one likeness. -/
theorem like_nrm {a b : VT} (ga : a.good = true) (gb : b.good = true) : likeB a b = true ↔ nrm a = nrm b := by
 obtain ⟨k, n, d, x, t⟩ := a
 obtain ⟨k', n', d', x', t'⟩ := b
 have ga' : goodV k n d x t = true := ga
 have gb' : goodV k' n' d' x' t' = true := gb
 unfold likeB nrm
 simp only [VT.mk.injEq]
 by_cases hk : k = k'
 ·
  subst hk
  rw [decide_eq_true rfl, Bool.true_and]
  have hz : k ≠ 1 → n = n' ∧ d = d' ∧ x = x' := fun h => by
   obtain ⟨h1, h2, h3⟩ := goodV_zero ga' h
   obtain ⟨h1', h2', h3'⟩ := goodV_zero gb' h
   exact ⟨by rw [h1, h1'], by rw [h2, h2'], by rw [h3, h3']⟩
  have hc : k ≠ 4 → cmpQ ⟨k, n, d, x, t⟩ ⟨k, n', d', x', t'⟩ = cmpR (bk k k) n d x (bt k t k) (bk k k) n' d' x' (bt k t' k) := fun h => by
   unfold cmpQ compareV
   rw [if_pos ⟨ga', gb', h, h⟩]
  rcases goodV_kinds ga' with rfl | rfl | rfl | ⟨rfl, hb⟩ | ⟨rfl, hb⟩
  ·
   obtain rfl := goodV_empty ga'
   obtain rfl := goodV_empty gb'
   rw [if_neg (by decide), hc (by decide)]
   obtain ⟨rfl, rfl, rfl⟩ := hz (by decide)
   simp [cmpR, bk]
  ·
   obtain ⟨g, rfl⟩ := goodV_num ga'
   obtain ⟨g', rfl⟩ := goodV_num gb'
   rw [if_neg (by decide), hc (by decide)]
   have : cmpR (bk 1 1) n d x (bt 1 [] 1) (bk 1 1) n' d' x' (bt 1 [] 1) = cmpI (sgn n d * 10 ^ (x - min x x').toNat) (sgn n' d' * 10 ^ (x' - min x x').toNat) := by
    have : bk 1 1 = 1 := by decide
    rw [this]
    unfold cmpR
    rw [if_neg (by simp), if_pos rfl]
   rw [this]
   constructor
   ·
    intro h
    obtain ⟨rfl, rfl, rfl⟩ := dec_one g g' (cmpI_zero.1 (of_decide_eq_true h))
    simp
   ·
    rintro ⟨_, rfl, rfl, rfl, _⟩
    exact decide_eq_true (cmpI_zero.2 rfl)
  ·
   rw [if_neg (by decide), hc (by decide)]
   obtain ⟨rfl, rfl, rfl⟩ := hz (by decide)
   have : cmpR (bk 2 2) n d x (bt 2 t 2) (bk 2 2) n d x (bt 2 t' 2) = Lib.compareBytes (t.map upC) (t'.map upC) := by
    have e1 : bk 2 2 = 2 := by decide
    have e2 : ∀ u, bt 2 u 2 = u := fun u => by unfold bt; rw [if_neg (by decide)]
    rw [e1, e2, e2]
    unfold cmpR
    rw [if_neg (by simp), if_neg (by decide), if_pos rfl]
   rw [this]
   constructor
   ·
    intro h
    exact ⟨rfl, rfl, rfl, rfl, (bytes_zero _ _).1 (of_decide_eq_true h)⟩
   ·
    rintro ⟨_, _, _, _, h⟩
    exact decide_eq_true ((bytes_zero _ _).2 h)
  ·
   rw [if_neg (by decide), hc (by decide)]
   obtain ⟨rfl, rfl, rfl⟩ := hz (by decide)
   have hb' : boolB t' = true := by
    rcases goodV_kinds gb' with h | h | h | ⟨_, h⟩ | ⟨h, _⟩
    ·
     exact absurd h (by decide)
    ·
     exact absurd h (by decide)
    ·
     exact absurd h (by decide)
    ·
     exact h
    ·
     exact absurd h (by decide)
   have : cmpR (bk 3 3) n d x (bt 3 t 3) (bk 3 3) n d x (bt 3 t' 3) = Lib.compareBytes t t' := by
    have e1 : bk 3 3 = 3 := by decide
    have e2 : ∀ u, bt 3 u 3 = u := fun u => by unfold bt; rw [if_neg (by decide)]
    rw [e1, e2, e2]
    unfold cmpR
    rw [if_neg (by simp), if_neg (by decide), if_neg (by decide), if_pos rfl]
   rw [this, upC_bool hb, upC_bool hb']
   constructor
   ·
    intro h
    exact ⟨rfl, rfl, rfl, rfl, (bytes_zero _ _).1 (of_decide_eq_true h)⟩
   ·
    rintro ⟨_, _, _, _, h⟩
    exact decide_eq_true ((bytes_zero _ _).2 h)
  ·
   have hb' : memB errL t' = true := by
    rcases goodV_kinds gb' with h | h | h | ⟨h, _⟩ | ⟨_, h⟩
    ·
     exact absurd h (by decide)
    ·
     exact absurd h (by decide)
    ·
     exact absurd h (by decide)
    ·
     exact absurd h (by decide)
    ·
     exact h
   rw [if_pos rfl, upC_err hb, upC_err hb']
   unfold sameQ
   simp
 ·
  simp [hk]

end Go.Proofs.YtgpfddneablcpaaGreatDoor

