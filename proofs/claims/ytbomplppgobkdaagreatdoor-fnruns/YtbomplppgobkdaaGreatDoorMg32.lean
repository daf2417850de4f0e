/-
  Several texts in one: Hp, Big, Y1a, Qk, J1.
-/
import Derived.Test.YtbomplppgobkdaaGreatDoorSized
import Derived.Test.YtbomplppgobkdaaGreatDoorMg10
import Derived.Laws.MakeOwn
import Derived.Test.YtbomplppgobkdaaGreatDoorMg31
namespace Go.Proofs.YtbomplppgobkdaaGreatDoor

structure Strict (less : Nat → Nat → Bool) : Prop where
  irr : ∀ a, less a a = false
  tr : ∀ a b c, less a b = true → less b c = true → less a c = true
  tot : ∀ a b, a ≠ b → less a b = true ∨ less b a = true
theorem Strict.asym {less : Nat → Nat → Bool} (S : Strict less) {a b : Nat} (h : less a b = true) : less b a = false := by
  cases hb : less b a with
  | false => rfl
  | true => have := S.tr _ _ _ h hb; rw [S.irr] at this; cases this
/-- a is not behind b. -/
def leB (less : Nat → Nat → Bool) (a b : Nat) : Prop := less b a = false
theorem Strict.le_cases {less : Nat → Nat → Bool} (S : Strict less) {a b : Nat} : leB less a b ↔ a = b ∨ less a b = true := by
  constructor
  · intro h
    by_cases e : a = b
    · exact Or.inl e
    · rcases S.tot a b e with h' | h'
      · exact Or.inr h'
      · rw [leB, h'] at h; cases h
  · rintro (rfl | h)
    · exact S.irr _
    · exact S.asym h
theorem Strict.le_tr {less : Nat → Nat → Bool} (S : Strict less) {a b c : Nat} (h : leB less a b) (k : leB less b c) : leB less a c := by
  rcases S.le_cases.1 h with rfl | h'
  · exact k
  · rcases S.le_cases.1 k with rfl | k'
    · exact h
    · exact S.asym (S.tr _ _ _ h' k')
theorem Strict.le_of {less : Nat → Nat → Bool} (S : Strict less) {a b : Nat} (h : less a b = true) : leB less a b := S.asym h

/-- A number of a list by its place. -/
def nth (h : List Nat) (i : Nat) : Nat := h.getD i 0
theorem nth_of {h : List Nat} {i x : Nat} (e : h[i]? = some x) : nth h i = x := by simp [nth, e]
theorem nth_get {h : List Nat} {i : Nat} (hi : i < h.length) : h[i]? = some (nth h i) := by
  rw [List.getElem?_eq_getElem hi]; simp [nth, hi]
theorem nth_mem {h : List Nat} {i : Nat} (hi : i < h.length) : nth h i ∈ h := List.mem_of_getElem? (nth_get hi)
def swapL (h : List Nat) (i j : Nat) : List Nat := (h.set i (nth h j)).set j (nth h i)
theorem swap_len (h : List Nat) (i j : Nat) : (swapL h i j).length = h.length := by simp [swapL]
theorem swap_at {h : List Nat} {i j : Nat} (hi : i < h.length) (hj : j < h.length) (k : Nat) :
    nth (swapL h i j) k = if k = j then nth h i else if k = i then nth h j else nth h k := by
  unfold swapL nth
  simp only [List.getD_eq_getElem?_getD, List.getElem?_set, List.length_set]
  by_cases h1 : k = j
  · subst h1; simp [hj]
  · rw [if_neg (fun e => h1 e.symm), if_neg h1]
    by_cases h2 : k = i
    · subst h2; simp [hi]
    · rw [if_neg (fun e => h2 e.symm), if_neg h2]
theorem swap_perm {h : List Nat} {i j : Nat} (hi : i < h.length) (hj : j < h.length) : (swapL h i j).Perm h := by
  have e := Array.swap_perm (xs := h.toArray) (i := i) (j := j) (by simpa using hi) (by simpa using hj)
  rw [Array.perm_iff_toList_perm, List.swap_toArray] at e
  have e2 : swapL h i j = (h.set i h[j]).set j h[i] := by
    unfold swapL nth
    simp [hi, hj]
  rw [e2]
  simpa using e

/-- Each is not ahead of the one above it. -/
def HeapOK (less : Nat → Nat → Bool) (h : List Nat) : Prop := ∀ i, 0 < i → i < h.length → leB less (nth h ((i - 1) / 2)) (nth h i)
def UpOK (less : Nat → Nat → Bool) (h : List Nat) (p : Nat) : Prop :=
  (∀ i, 0 < i → i < h.length → i ≠ p → leB less (nth h ((i - 1) / 2)) (nth h i)) ∧
  (0 < p → ∀ i, 0 < i → i < h.length → (i - 1) / 2 = p → leB less (nth h ((p - 1) / 2)) (nth h i))
theorem nth_app {h : List Nat} {x i : Nat} (hi : i < h.length) : nth (h ++ [x]) i = nth h i := by
  unfold nth
  simp [List.getElem?_append_left hi]
theorem UpOK.start {less : Nat → Nat → Bool} {h : List Nat} (H : HeapOK less h) (x : Nat) : UpOK less (h ++ [x]) h.length := by
  refine ⟨fun i i0 i1 i2 => ?_, fun _ i i0 i1 i2 => ?_⟩
  · rw [List.length_append, List.length_singleton] at i1
    have : i < h.length := by omega
    rw [nth_app this, nth_app (by omega)]
    exact H i i0 this
  · rw [List.length_append, List.length_singleton] at i1
    omega
theorem UpOK.step {less : Nat → Nat → Bool} (S : Strict less) {h : List Nat} {p : Nat} (U : UpOK less h p) (p0 : 0 < p) (p1 : p < h.length) (hl : less (nth h p) (nth h ((p - 1) / 2)) = true) :
    UpOK less (swapL h p ((p - 1) / 2)) ((p - 1) / 2) := by
  have q1 : (p - 1) / 2 < p := by omega
  generalize hq : (p - 1) / 2 = q at hl q1
  have sa := swap_at p1 (show q < h.length by omega)
  refine ⟨fun i i0 i1 i2 => ?_, fun q0 i i0 i1 i2 => ?_⟩
  · rw [swap_len] at i1
    by_cases hip : i = p
    · subst hip
      rw [hq, sa, sa, if_pos rfl, if_neg (by omega), if_pos rfl]
      exact S.asym hl
    · rw [sa i, if_neg i2, if_neg hip, sa]
      by_cases r1 : (i - 1) / 2 = q
      · rw [if_pos r1]
        have := U.1 i i0 i1 hip
        rw [r1] at this
        exact S.le_tr (S.le_of hl) this
      · rw [if_neg r1]
        by_cases r2 : (i - 1) / 2 = p
        · rw [if_pos r2]
          have := U.2 p0 i i0 i1 r2
          rwa [hq] at this
        · rw [if_neg r2]
          exact U.1 i i0 i1 hip
  · rw [swap_len] at i1
    have s1 : (q - 1) / 2 < q := by omega
    rw [sa ((q - 1) / 2), if_neg (by omega), if_neg (by omega), sa i, if_neg (by omega)]
    have hqq := U.1 q q0 (by omega) (by omega)
    by_cases hip : i = p
    · rw [if_pos hip]; exact hqq
    · rw [if_neg hip]
      have := U.1 i i0 i1 hip
      rw [i2] at this
      exact S.le_tr hqq this
theorem UpOK.done {less : Nat → Nat → Bool} {h : List Nat} {p : Nat} (U : UpOK less h p) (hd : p = 0 ∨ less (nth h p) (nth h ((p - 1) / 2)) = false) : HeapOK less h := fun i i0 i1 => by
  by_cases hip : i = p
  · subst hip
    rcases hd with rfl | hd
    · omega
    · exact hd
  · exact U.1 i i0 i1 hip
theorem HeapOK.least {less : Nat → Nat → Bool} (S : Strict less) {h : List Nat} (H : HeapOK less h) : ∀ i, i < h.length → leB less (nth h 0) (nth h i) := by
  intro i
  induction i using Nat.strongRecOn with
  | ind i ih =>
    intro hi
    by_cases h0 : i = 0
    · subst h0; exact S.irr _
    · exact S.le_tr (ih ((i - 1) / 2) (by omega) (by omega)) (H i (by omega) hi)

def DownOK (less : Nat → Nat → Bool) (h : List Nat) (p : Nat) : Prop :=
  (∀ i, 0 < i → i < h.length → (i - 1) / 2 ≠ p → leB less (nth h ((i - 1) / 2)) (nth h i)) ∧
  (0 < p → ∀ i, 0 < i → i < h.length → (i - 1) / 2 = p → leB less (nth h ((p - 1) / 2)) (nth h i))
theorem nth_take {h : List Nat} {m i : Nat} (hi : i < m) : nth (h.take m) i = nth h i := by
  unfold nth
  simp [hi]
/-- The last one is put first, and the first one is gone. -/
theorem DownOK.start {less : Nat → Nat → Bool} {h : List Nat} {m : Nat} (H : HeapOK less h) (hm : h.length = m + 1) : DownOK less ((swapL h 0 m).take m) 0 := by
  have sa := swap_at (show 0 < h.length by omega) (show m < h.length by omega)
  refine ⟨fun i i0 i1 i2 => ?_, fun h0 => absurd h0 (by omega)⟩
  rw [List.length_take, swap_len] at i1
  have im : i < m := by omega
  rw [nth_take im, nth_take (by omega), sa, sa, if_neg (by omega), if_neg (by omega), if_neg (by omega), if_neg (by omega)]
  exact H i i0 (by omega)
theorem take_perm {h : List Nat} {m : Nat} (hm : h.length = m + 1) : h.Perm (nth h 0 :: (swapL h 0 m).take m) := by
  have p := swap_perm (show 0 < h.length by omega) (show m < h.length by omega)
  have sa := swap_at (show 0 < h.length by omega) (show m < h.length by omega) m
  rw [if_pos rfl] at sa
  have e : swapL h 0 m = (swapL h 0 m).take m ++ [nth h 0] := by
    have l : m < (swapL h 0 m).length := by rw [swap_len]; omega
    have h1 : (swapL h 0 m).take (m + 1) = swapL h 0 m := List.take_of_length_le (by rw [swap_len]; omega)
    rw [List.take_add_one, nth_get l, sa] at h1
    simpa using h1.symm
  refine p.symm.trans ?_
  rw [e]
  exact (List.perm_append_singleton _ _).trans (List.Perm.of_eq (by rw [← e]))
theorem DownOK.step {less : Nat → Nat → Bool} (S : Strict less) {h : List Nat} {p nx : Nat} (D : DownOK less h p) (n0 : 0 < nx) (n1 : nx < h.length) (np : (nx - 1) / 2 = p)
    (hl : less (nth h nx) (nth h p) = true) (hk : ∀ i, 0 < i → i < h.length → (i - 1) / 2 = p → leB less (nth h nx) (nth h i)) : DownOK less (swapL h p nx) nx := by
  have sa := swap_at (show p < h.length by omega) n1
  refine ⟨fun i i0 i1 i2 => ?_, fun _ i i0 i1 i2 => ?_⟩
  · rw [swap_len] at i1
    rw [sa ((i - 1) / 2), if_neg i2, sa i]
    by_cases r1 : (i - 1) / 2 = p
    · rw [if_pos r1]
      by_cases hin : i = nx
      · rw [if_pos hin]; exact S.le_of hl
      · rw [if_neg hin, if_neg (by omega)]; exact hk i i0 i1 r1
    · rw [if_neg r1, if_neg (fun e => r1 (by rw [e]; exact np))]
      by_cases hip : i = p
      · subst hip
        rw [if_pos rfl]
        exact D.2 i0 nx n0 n1 np
      · rw [if_neg hip]; exact D.1 i i0 i1 r1
  · rw [swap_len] at i1
    rw [np, sa p, if_neg (by omega), if_pos rfl, sa i, if_neg (by omega), if_neg (by omega)]
    have := D.1 i i0 i1 (by omega)
    rwa [i2] at this
theorem DownOK.done {less : Nat → Nat → Bool} {h : List Nat} {p : Nat} (D : DownOK less h p) (hk : ∀ i, 0 < i → i < h.length → (i - 1) / 2 = p → leB less (nth h p) (nth h i)) : HeapOK less h := fun i i0 i1 => by
  by_cases hr : (i - 1) / 2 = p
  · rw [hr]; exact hk i i0 i1 hr
  · exact D.1 i i0 i1 hr
/-- The least of a place and of those below it that were looked at. -/
structure Next (less : Nat → Nat → Bool) (h : List Nat) (p kid nx : Nat) : Prop where
  in1 : nx < h.length
  own : nx = p ∨ ((nx - 1) / 2 = p ∧ 0 < nx ∧ less (nth h nx) (nth h p) = true)
  kids : ∀ i, 0 < i → i < kid → i < h.length → (i - 1) / 2 = p → leB less (nth h nx) (nth h i)
theorem Next.start {less : Nat → Nat → Bool} {h : List Nat} {p : Nat} (hp : p < h.length) : Next less h p (2 * p + 1) p := ⟨hp, Or.inl rfl, fun i _ _ _ _ => by omega⟩
theorem Next.skip {less : Nat → Nat → Bool} {h : List Nat} {p kid nx : Nat} (N : Next less h p kid nx) (hl : less (nth h kid) (nth h nx) = false) : Next less h p (kid + 1) nx :=
  ⟨N.in1, N.own, fun i i0 i1 i2 i3 => by
    by_cases e : i = kid
    · subst e; exact hl
    · exact N.kids i i0 (by omega) i2 i3⟩
theorem Next.take {less : Nat → Nat → Bool} (S : Strict less) {h : List Nat} {p kid nx : Nat} (N : Next less h p kid nx) (k0 : 0 < kid) (k1 : kid < h.length) (kp : (kid - 1) / 2 = p) (hl : less (nth h kid) (nth h nx) = true) : Next less h p (kid + 1) kid :=
  ⟨k1, Or.inr ⟨kp, k0, by
    rcases N.own with e | ⟨_, _, h2⟩
    · rw [e] at hl; exact hl
    · exact S.tr _ _ _ hl h2⟩, fun i i0 i1 i2 i3 => by
    by_cases e : i = kid
    · subst e; exact S.irr _
    · exact S.le_tr (S.le_of hl) (N.kids i i0 (by omega) i2 i3)⟩
theorem Next.all {less : Nat → Nat → Bool} {h : List Nat} {p kid nx : Nat} (N : Next less h p kid nx) (hk : 2 * p + 2 < kid ∨ h.length ≤ kid) : ∀ i, 0 < i → i < h.length → (i - 1) / 2 = p → leB less (nth h nx) (nth h i) := fun i i0 i1 i2 => N.kids i i0 (by omega) i1 i2

/-- All rows in order. -/
def InOrder (less : Nat → Nat → Bool) (n : Nat) (l : List Nat) : Prop := l.Pairwise (fun a b => less a b = true) ∧ l.Perm (List.range n)
theorem InOrder.len {less : Nat → Nat → Bool} {n : Nat} {l : List Nat} (h : InOrder less n l) : l.length = n := by rw [h.2.length_eq, List.length_range]
/-- While the least ones are taken. -/
structure Taking (less : Nat → Nat → Bool) (n : Nat) (rows h : List Nat) : Prop where
  heap : HeapOK less h
  all : (rows ++ h).Perm (List.range n)
  up : rows.Pairwise (fun a b => less a b = true)
  far : ∀ a ∈ rows, ∀ b ∈ h, less a b = true
theorem Taking.start {less : Nat → Nat → Bool} {n : Nat} {h : List Nat} (H : HeapOK less h) (p : h.Perm (List.range n)) : Taking less n [] h := ⟨H, by simpa using p, List.Pairwise.nil, fun a ha => by cases ha⟩
theorem Taking.next {less : Nat → Nat → Bool} (S : Strict less) {n : Nat} {rows h h' : List Nat} (T : Taking less n rows h) (h0 : 0 < h.length) (H : HeapOK less h') (p : h.Perm (nth h 0 :: h')) : Taking less n (rows ++ [nth h 0]) h' := by
  have all' : (rows ++ [nth h 0] ++ h').Perm (List.range n) := by
    refine List.Perm.trans ?_ T.all
    rw [List.append_assoc]
    exact List.Perm.append_left _ p.symm
  have nd : (nth h 0 :: h').Nodup := by
    have : (rows ++ h).Nodup := T.all.nodup_iff.2 List.nodup_range
    exact p.nodup_iff.1 (List.nodup_append.1 this).2.1
  refine ⟨H, all', ?_, ?_⟩
  · refine List.pairwise_append.2 ⟨T.up, List.pairwise_singleton _ _, fun a ha b hb => ?_⟩
    have : b = nth h 0 := by simpa using hb
    subst this
    exact T.far a ha _ (nth_mem h0)
  · intro a ha b hb
    rcases List.mem_append.1 ha with ha | ha
    · exact T.far a ha b (p.symm.subset (List.mem_cons_of_mem _ hb))
    · have : a = nth h 0 := by simpa using ha
      subst this
      have hb' : b ∈ h := p.symm.subset (List.mem_cons_of_mem _ hb)
      obtain ⟨i, hi, rfl⟩ := List.getElem_of_mem hb'
      have l0 := T.heap.least S i hi
      have e : nth h i = h[i] := nth_of (List.getElem?_eq_getElem hi)
      rw [e] at l0
      rcases S.le_cases.1 l0 with e2 | h2
      · rw [← e2] at hb
        exact absurd hb (List.nodup_cons.1 nd).1
      · exact h2
theorem Taking.done {less : Nat → Nat → Bool} {n : Nat} {rows : List Nat} (T : Taking less n rows []) : InOrder less n rows := ⟨T.up, by simpa using T.all⟩

/-- While a row is put in its place. -/
structure Putting (less : Nat → Nat → Bool) (i : Nat) (A B : List Nat) : Prop where
  all : (A ++ B).Perm (List.range i)
  up : (A ++ B).Pairwise (fun a b => less a b = true)
  far : ∀ b ∈ B, less i b = true
end Go.Proofs.YtbomplppgobkdaaGreatDoor

namespace Go.Proofs.YtbomplppgobkdaaGreatDoor
open Go.RowKit

/-- A number of exponents from -300 on, by one scale. -/
def bigN (n : Bool) (d x : Int) : Int := sgn n d * 10 ^ (x + 300).toNat
theorem cmpI_le (a b : Int) : cmpI a b ≤ 0 ↔ a ≤ b := by unfold cmpI; split <;> (try split) <;> constructor <;> intro <;> omega
theorem pow_pos10 (n : Nat) : (0 : Int) < 10 ^ n := Int.pow_pos (by decide)
theorem scale_le {n n' : Bool} {d x d' x' : Int} (hx : -300 ≤ x) (hx' : -300 ≤ x') : sgn n d * 10 ^ (x - min x x').toNat ≤ sgn n' d' * 10 ^ (x' - min x x').toNat ↔ bigN n d x ≤ bigN n' d' x' := by
  unfold bigN
  have hm : -300 ≤ min x x' := by omega
  have e1 : (x + 300).toNat = (x - min x x').toNat + (min x x' + 300).toNat := by omega
  have e2 : (x' + 300).toNat = (x' - min x x').toNat + (min x x' + 300).toNat := by omega
  rw [e1, e2, Int.pow_add, Int.pow_add, ← Int.mul_assoc, ← Int.mul_assoc]
  exact ⟨fun h => Int.mul_le_mul_of_nonneg_right h (Int.le_of_lt (pow_pos10 _)), fun h => Int.le_of_mul_le_mul_right h (pow_pos10 _)⟩
theorem cmpI_zero {a b : Int} : cmpI a b = 0 ↔ a = b := by
  unfold cmpI
  split
  · constructor
    · intro h; omega
    · intro h; omega
  · split <;> constructor <;> intro h <;> omega
theorem ten_dvd {n : Nat} (h : n ≠ 0) : (10 : Int) ∣ 10 ^ n := by
  obtain ⟨m, rfl⟩ : ∃ m, n = m + 1 := ⟨n - 1, by omega⟩
  exact ⟨10 ^ m, by rw [Int.pow_succ, Int.mul_comm]⟩
theorem goodB_parts {n : Bool} {d x : Int} (h : goodB n d x = true) : (d = 0 ∧ n = false ∧ x = 0) ∨ (0 < d ∧ d % 10 ≠ 0) := by
  unfold goodB at h
  split at h
  · left
    rename_i h0
    simp at h
    exact ⟨h0, h.1, h.2⟩
  · right
    have := of_decide_eq_true h
    exact ⟨this.1, this.2.2.1⟩
theorem dec_one_lt {n n' : Bool} {d d' x x' : Int} (g : goodB n d x = true) (hx : x < x') (e : sgn n d = sgn n' d' * 10 ^ (x' - x).toNat) : d = 0 := by
  rcases goodB_parts g with ⟨h, _, _⟩ | ⟨h, hm⟩
  · exact h
  · exfalso
    have hd : (10 : Int) ∣ sgn n d := by
      have hn : (x' - x).toNat ≠ 0 := by omega
      rw [e]
      exact Int.dvd_trans (ten_dvd hn) ⟨sgn n' d', by rw [Int.mul_comm]⟩
    have : (10 : Int) ∣ d := by
      unfold sgn at hd
      split at hd
      · exact (Int.dvd_neg).1 hd
      · exact hd
    omega
theorem pow_ne (k : Nat) : (10 : Int) ^ k ≠ 0 := by
  have : (0 : Int) < 10 ^ k := Int.pow_pos (by omega)
  omega
theorem sgn_zero {n : Bool} {d : Int} : sgn n d = 0 ↔ d = 0 := by unfold sgn; split <;> omega
theorem dec_one {n n' : Bool} {d d' x x' : Int} (g : goodB n d x = true) (g' : goodB n' d' x' = true) (e : sgn n d * 10 ^ (x - min x x').toNat = sgn n' d' * 10 ^ (x' - min x x').toNat) : n = n' ∧ d = d' ∧ x = x' := by
  have zero : d = 0 → d' = 0 → n = n' ∧ d = d' ∧ x = x' := fun h h' => by
    rcases goodB_parts g with ⟨_, a, b⟩ | ⟨a, _⟩
    · rcases goodB_parts g' with ⟨_, a', b'⟩ | ⟨a', _⟩
      · exact ⟨by rw [a, a'], by rw [h, h'], by rw [b, b']⟩
      · omega
    · omega
  rcases Int.lt_trichotomy x x' with hx | hx | hx
  · rw [show min x x' = x by omega, Int.sub_self, show (0 : Int).toNat = 0 from rfl, Int.pow_zero, Int.mul_one] at e
    have d0 := dec_one_lt g hx e
    have : sgn n' d' = 0 := by
      have e0 : sgn n d = 0 := sgn_zero.2 d0
      rw [e0] at e
      rcases Int.mul_eq_zero.1 e.symm with h | h
      · exact h
      · exact absurd h (pow_ne _)
    exact zero d0 (sgn_zero.1 this)
  · subst hx
    rw [show min x x = x by omega, Int.sub_self, show (0 : Int).toNat = 0 from rfl, Int.pow_zero, Int.mul_one, Int.mul_one] at e
    rcases goodB_parts g with ⟨h, a, _⟩ | ⟨h, _⟩
    · have : d' = 0 := sgn_zero.1 (by rw [← e]; exact sgn_zero.2 h)
      exact zero h this
    · rcases goodB_parts g' with ⟨h', _, _⟩ | ⟨h', _⟩
      · have : d = 0 := sgn_zero.1 (by rw [e]; exact sgn_zero.2 h')
        omega
      · unfold sgn at e
        cases n <;> cases n' <;> simp at e <;> first | exact ⟨rfl, by omega, rfl⟩ | omega
  · rw [show min x x' = x' by omega, Int.sub_self, show (0 : Int).toNat = 0 from rfl, Int.pow_zero, Int.mul_one] at e
    have d0 := dec_one_lt g' hx e.symm
    have : sgn n d = 0 := by
      have e0 : sgn n' d' = 0 := sgn_zero.2 d0
      rw [e0] at e
      rcases Int.mul_eq_zero.1 e with h | h
      · exact h
      · exact absurd h (pow_ne _)
    exact zero (sgn_zero.1 this) d0

structure YT where
  cl : Int
  dn : Bool
abbrev YT.cells (e : YT) : List Value := [.int .i64 e.cl, .bool e.dn]
abbrev sortKeyV (cl : Int) (dn : Bool) : Value := .agg #[.int .i64 cl, .bool dn]
/-- A row of them from a place on. -/
def RowY (w : World) (b o : Nat) (l : List YT) : Prop := ∀ (i : Nat) (e : YT), l[i]? = some e → ∀ (c : Nat) (u : Value), e.cells[c]? = some u → w.cell? ⟨b, o + i * 2 + c, none⟩ = some u
theorem RowY.later {w w' : World} {b o : Nat} {l : List YT} (h : RowY w b o l) (x : Ext w w') : RowY w' b o l := fun i e hi c u hc => cell_later x (h i e hi c u hc)
theorem RowY.all {w : World} {b o : Nat} {l : List YT} (h : RowY w b o l) {k : Nat} {e : YT} (he : l[k]? = some e) :
    w.cell? ⟨b, o + k * 2, none⟩ = some (.int .i64 e.cl) ∧ w.cell? ⟨b, o + k * 2 + 1, none⟩ = some (.bool e.dn) :=
  ⟨h k e he 0 _ rfl, h k e he 1 _ rfl⟩
/-- A slice of them that lies somewhere. -/
def SortKeysIn (w : World) (v : Value) (l : List YT) : Prop :=
  ∃ p cap, v = .slice p l.length cap ∧ l.length ≤ cap ∧ (0 < l.length → ∃ b o, p = some ⟨b, o, none⟩ ∧ RowY w b o l)
theorem SortKeysIn.later {w w' : World} {v : Value} {l : List YT} (h : SortKeysIn w v l) (x : Ext w w') : SortKeysIn w' v l := by
  obtain ⟨p, cap, h1, h2, h3⟩ := h
  refine ⟨p, cap, h1, h2, fun h0 => ?_⟩
  obtain ⟨b, o, h4, h5⟩ := h3 h0
  exact ⟨b, o, h4, h5.later x⟩

theorem bytesQ_swap : ∀ (a b : List UInt8), Lib.compareBytes b a = -Lib.compareBytes a b
  | [], [] => rfl
  | [], _ :: _ => rfl
  | _ :: _, [] => rfl
  | x :: a, y :: b => by
    unfold Lib.compareBytes
    by_cases h1 : x < y
    · have h2 : ¬ y < x := fun h => absurd (UInt8.lt_trans h1 h) (UInt8.lt_irrefl _)
      simp only [h1, h2, if_true, if_false]
      rfl
    · by_cases h2 : y < x
      · simp only [h1, h2, if_true, if_false]
      · simp only [h1, h2, if_false]
        exact bytesQ_swap a b
theorem cmpQI_swap (a b : Int) : cmpI b a = -cmpI a b := by unfold cmpI; split <;> (try split) <;> (try split) <;> (try split) <;> omega
theorem cmpQR_swap (k : Int) (n : Bool) (d x : Int) (t : List UInt8) (k' : Int) (n' : Bool) (d' x' : Int) (t' : List UInt8) : cmpR k' n' d' x' t' k n d x t = -cmpR k n d x t k' n' d' x' t' := by
  unfold cmpR
  by_cases h : k = k'
  · subst h
    simp only [ne_eq, not_true_eq_false, if_false, Int.min_comm x' x]
    by_cases h1 : k = 1
    · rw [if_pos h1, if_pos h1]; exact cmpQI_swap _ _
    · rw [if_neg h1, if_neg h1]
      by_cases h2 : k = 2
      · rw [if_pos h2, if_pos h2]; exact bytesQ_swap _ _
      · rw [if_neg h2, if_neg h2]
        by_cases h3 : k = 3
        · rw [if_pos h3, if_pos h3]; exact bytesQ_swap _ _
        · rw [if_neg h3, if_neg h3]; rfl
  · rw [if_pos h, if_pos (fun e => h e.symm)]
    by_cases h1 : k < k'
    · rw [if_pos h1, if_neg (by omega)]; rfl
    · rw [if_neg h1, if_pos (by omega)]
theorem bytesQ_trans : ∀ (a b c : List UInt8), Lib.compareBytes a b ≤ 0 → Lib.compareBytes b c ≤ 0 → Lib.compareBytes a c ≤ 0
  | [], [], _, _, h => h
  | [], _ :: _, [], _, _ => by decide
  | [], _ :: _, _ :: _, _, _ => (by decide : (-1 : Int) ≤ 0)
  | _ :: _, [], _, h, _ => absurd h (by decide : ¬ (1 : Int) ≤ 0)
  | _ :: _, _ :: _, [], _, h => absurd h (by decide : ¬ (1 : Int) ≤ 0)
  | x :: a, y :: b, z :: c, h, k => by
    unfold Lib.compareBytes at h k ⊢
    by_cases h1 : x < y
    · by_cases k1 : y < z
      · rw [if_pos (UInt8.lt_trans h1 k1)]; decide
      · rw [if_neg k1] at k
        by_cases k2 : z < y
        · rw [if_pos k2] at k; exact absurd k (by decide)
        · have e : y = z := UInt8.le_antisymm (UInt8.not_lt.1 k2) (UInt8.not_lt.1 k1)
          rw [← e, if_pos h1]; decide
    · rw [if_neg h1] at h
      by_cases h2 : y < x
      · rw [if_pos h2] at h; exact absurd h (by decide)
      · rw [if_neg h2] at h
        have e : x = y := UInt8.le_antisymm (UInt8.not_lt.1 h2) (UInt8.not_lt.1 h1)
        subst e
        by_cases k1 : x < z
        · rw [if_pos k1]; decide
        · rw [if_neg k1] at k ⊢
          by_cases k2 : z < x
          · rw [if_pos k2] at k; exact absurd k (by decide)
          · rw [if_neg k2] at k ⊢
            exact bytesQ_trans a b c h k
/-- What stands late: 1 of nothing, 2 of errors. -/
def lateV (e : VT) : Int := if e.k = 0 then 1 else if e.k = 4 then 2 else 0
theorem late_good {e : VT} (hg : e.good = true) (h : lateV e = 0) : e.k = 1 ∨ e.k = 2 ∨ e.k = 3 := by
  have hg' : goodV e.k e.n e.d e.x e.t = true := hg
  unfold lateV at h
  by_cases h0 : e.k = 0
  · rw [if_pos h0] at h; omega
  · by_cases h4 : e.k = 4
    · rw [if_neg h0, if_pos h4] at h; omega
    · by_cases h1 : e.k = 1
      · exact Or.inl h1
      · by_cases h2 : e.k = 2
        · exact Or.inr (Or.inl h2)
        · by_cases h3 : e.k = 3
          · exact Or.inr (Or.inr h3)
          · unfold goodV at hg'
            rw [if_neg h1, if_neg h0, if_neg h2, if_neg h3, if_neg h4] at hg'
            simp at hg'
theorem cmpQ_is {a b : VT} (ga : a.good = true) (gb : b.good = true) (ha : lateV a = 0) (hb : lateV b = 0) : cmpQ a b = cmpR a.k a.n a.d a.x a.t b.k b.n b.d b.x b.t := by
  have ka := late_good ga ha
  have kb := late_good gb hb
  unfold cmpQ compareV
  rw [if_pos ⟨ga, gb, by omega, by omega⟩]
  unfold bk bt
  rw [if_pos (show a.k ≠ 0 by omega), if_pos (show b.k ≠ 0 by omega), if_neg (show ¬ (a.k = 0 ∧ b.k = 3) by omega), if_neg (show ¬ (b.k = 0 ∧ a.k = 3) by omega)]
theorem cmpQ_swap {a b : VT} (ga : a.good = true) (gb : b.good = true) (ha : lateV a = 0) (hb : lateV b = 0) : cmpQ b a = -cmpQ a b := by
  rw [cmpQ_is ga gb ha hb, cmpQ_is gb ga hb ha]
  exact cmpQR_swap _ _ _ _ _ _ _ _ _ _
theorem num_exp {e : VT} (hg : e.good = true) (h : e.k = 1) : -300 ≤ e.x := by
  have hg' : goodV e.k e.n e.d e.x e.t = true := hg
  rw [h] at hg'
  exact (goodB_bd (goodV_num hg').1).2.2.1
theorem cmpR_kind {k : Int} {n : Bool} {d x : Int} {t : List UInt8} {k' : Int} {n' : Bool} {d' x' : Int} {t' : List UInt8} (h : cmpR k n d x t k' n' d' x' t' ≤ 0) : k ≤ k' := by
  by_cases hk : k = k'
  · omega
  · unfold cmpR at h
    rw [if_pos hk] at h
    by_cases h1 : k < k'
    · omega
    · rw [if_neg h1] at h; omega
theorem cmpR_same {k : Int} {n : Bool} {d x : Int} {t : List UInt8} {n' : Bool} {d' x' : Int} {t' : List UInt8} : cmpR k n d x t k n' d' x' t' = if k = 1 then cmpI (sgn n d * 10 ^ (x - min x x').toNat) (sgn n' d' * 10 ^ (x' - min x x').toNat) else
  if k = 2 then Lib.compareBytes (t.map upC) (t'.map upC) else if k = 3 then Lib.compareBytes t t' else 0 := by
  unfold cmpR
  rw [if_neg (fun h => h rfl)]
theorem cmpQ_trans {a b c : VT} (ga : a.good = true) (gb : b.good = true) (gc : c.good = true) (ha : lateV a = 0) (hb : lateV b = 0) (hc : lateV c = 0) (h : cmpQ a b ≤ 0) (k : cmpQ b c ≤ 0) : cmpQ a c ≤ 0 := by
  have ka := late_good ga ha
  have kb := late_good gb hb
  have kc := late_good gc hc
  have na := num_exp ga
  have nb := num_exp gb
  have nc := num_exp gc
  rw [cmpQ_is ga gb ha hb] at h
  rw [cmpQ_is gb gc hb hc] at k
  rw [cmpQ_is ga gc ha hc]
  obtain ⟨k1, n1, d1, x1, t1⟩ := a
  obtain ⟨k2, n2, d2, x2, t2⟩ := b
  obtain ⟨k3, n3, d3, x3, t3⟩ := c
  simp only at h k ka kb kc na nb nc ⊢
  clear ga gb gc ha hb hc
  have o1 := cmpR_kind h
  have o2 := cmpR_kind k
  by_cases h13 : k1 = k3
  · subst h13
    obtain rfl : k1 = k2 := by omega
    rw [cmpR_same] at h k ⊢
    by_cases h1 : k1 = 1
    · rw [if_pos h1] at h k ⊢
      rw [cmpI_le, scale_le (na h1) (nb h1)] at h
      rw [cmpI_le, scale_le (nb h1) (nc h1)] at k
      rw [cmpI_le, scale_le (na h1) (nc h1)]
      exact Int.le_trans h k
    · rw [if_neg h1] at h k ⊢
      by_cases h2 : k1 = 2
      · rw [if_pos h2] at h k ⊢; exact bytesQ_trans _ _ _ h k
      · rw [if_neg h2] at h k ⊢
        by_cases h3 : k1 = 3
        · rw [if_pos h3] at h k ⊢; exact bytesQ_trans _ _ _ h k
        · omega
  · unfold cmpR
    rw [if_pos h13, if_pos (by omega)]
    decide

/-- How two cells stand to each other, up or down. -/
def standB (a b : VT) (s : Int) : Int := if lateV a ≠ lateV b ∨ lateV a ≠ 0 then cmpI (lateV a) (lateV b) else cmpQ a b * s
theorem stand_swap {a b : VT} (ga : a.good = true) (gb : b.good = true) (s : Int) : standB b a s = -standB a b s := by
  unfold standB
  by_cases h : lateV a ≠ lateV b ∨ lateV a ≠ 0
  · rw [if_pos h, if_pos (by omega)]
    exact cmpQI_swap _ _
  · rw [if_neg h, if_neg (by omega), cmpQ_swap ga gb (by omega) (by omega), Int.neg_mul]
theorem stand_trans {a b c : VT} (ga : a.good = true) (gb : b.good = true) (gc : c.good = true) {s : Int} (hs : s = 1 ∨ s = -1) (h : standB a b s ≤ 0) (k : standB b c s ≤ 0) : standB a c s ≤ 0 := by
  have l0 : ∀ e : VT, 0 ≤ lateV e := fun e => by unfold lateV; split <;> (try split) <;> omega
  have la := l0 a
  have lb := l0 b
  have lc := l0 c
  unfold standB at h k ⊢
  by_cases h1 : lateV a ≠ lateV b ∨ lateV a ≠ 0
  · rw [if_pos h1, cmpI_le] at h
    by_cases h2 : lateV b ≠ lateV c ∨ lateV b ≠ 0
    · rw [if_pos h2, cmpI_le] at k
      rw [if_pos (by omega), cmpI_le]
      omega
    · rw [if_pos (by omega), cmpI_le]
      omega
  · rw [if_neg h1] at h
    by_cases h2 : lateV b ≠ lateV c ∨ lateV b ≠ 0
    · rw [if_pos h2, cmpI_le] at k
      rw [if_pos (by omega), cmpI_le]
      omega
    · rw [if_neg h2] at k
      rw [if_neg (by omega)]
      rcases hs with rfl | rfl
      · rw [Int.mul_one] at h k ⊢
        exact cmpQ_trans ga gb gc (by omega) (by omega) (by omega) h k
      · have h' : cmpQ b a ≤ 0 := by rw [cmpQ_swap ga gb (by omega) (by omega)]; omega
        have k' : cmpQ c b ≤ 0 := by rw [cmpQ_swap gb gc (by omega) (by omega)]; omega
        have := cmpQ_trans gc gb ga (by omega) (by omega) (by omega) k' h'
        rw [cmpQ_swap ga gc (by omega) (by omega)] at this
        omega
def sgnK (e : YT) : Int := if e.dn then -1 else 1
theorem sgnK_is (e : YT) : sgnK e = 1 ∨ sgnK e = -1 := by unfold sgnK; split <;> simp
/-- A row's cell by a key. -/
def celK (l : List VT) (c x : Nat) (k : YT) : VT := cel l (x * c + (k.cl.toNat - 1))
/-- The first key that tells two rows apart. -/
def lexK (l : List VT) (c x y : Nat) : List YT → Int
  | [] => 0
  | k :: ks => if standB (celK l c x k) (celK l c y k) (sgnK k) ≠ 0 then standB (celK l c x k) (celK l c y k) (sgnK k) else lexK l c x y ks
theorem cel_good {l : List VT} (h : ∀ e ∈ l, e.good = true) (k : Nat) : (cel l k).good = true := by
  by_cases hk : k < l.length
  · exact h _ (cel_mem hk)
  · have : cel l k = zeroVT := by unfold cel; rw [List.getD_eq_getElem?_getD, List.getElem?_eq_none (by omega)]; rfl
    rw [this]; decide
theorem lex_swap {l : List VT} (h : ∀ e ∈ l, e.good = true) (c x y : Nat) (ks : List YT) : lexK l c y x ks = -lexK l c x y ks := by
  induction ks with
  | nil => rfl
  | cons k ks ih =>
    unfold lexK
    have e := stand_swap (cel_good h (x * c + (k.cl.toNat - 1))) (cel_good h (y * c + (k.cl.toNat - 1))) (sgnK k)
    change standB (celK l c y k) (celK l c x k) (sgnK k) = -standB (celK l c x k) (celK l c y k) (sgnK k) at e
    rw [e, ih]
    by_cases h0 : standB (celK l c x k) (celK l c y k) (sgnK k) = 0
    · rw [if_neg (by omega), if_neg (by omega)]
    · rw [if_pos (by omega), if_pos h0]
theorem lex_trans {l : List VT} (h : ∀ e ∈ l, e.good = true) (c x y z : Nat) (ks : List YT) (h1 : lexK l c x y ks ≤ 0) (h2 : lexK l c y z ks ≤ 0) : lexK l c x z ks ≤ 0 := by
  induction ks with
  | nil => exact Int.le_refl _
  | cons k ks ih =>
    unfold lexK at h1 h2 ⊢
    have gd := fun q => cel_good h (q * c + (k.cl.toNat - 1))
    have sw := fun p q => stand_swap (gd p) (gd q) (sgnK k)
    have tr := fun p q r => stand_trans (gd p) (gd q) (gd r) (sgnK_is k)
    change ∀ p q, standB (celK l c q k) (celK l c p k) (sgnK k) = -standB (celK l c p k) (celK l c q k) (sgnK k) at sw
    change ∀ p q r, standB (celK l c p k) (celK l c q k) (sgnK k) ≤ 0 → standB (celK l c q k) (celK l c r k) (sgnK k) ≤ 0 → standB (celK l c p k) (celK l c r k) (sgnK k) ≤ 0 at tr
    have a1 := sw x y
    have a2 := sw y z
    have a3 := sw x z
    have t1 := tr x y z
    have t2 := tr z x y
    have t3 := tr y z x
    have t4 := tr x z y
    have t5 := tr y x z
    have t6 := tr z y x
    generalize standB (celK l c x k) (celK l c y k) (sgnK k) = A at *
    generalize standB (celK l c y k) (celK l c z k) (sgnK k) = B at *
    generalize standB (celK l c x k) (celK l c z k) (sgnK k) = C at *
    rw [a1] at t3 t5 t6
    rw [a2] at t2 t4 t6
    rw [a3] at t2 t3 t6
    by_cases hA : A = 0
    · by_cases hB : B = 0
      · have hC : C = 0 := by
          have := t1 (by omega) (by omega)
          have := t6 (by omega) (by omega)
          omega
        rw [if_neg (by omega)] at h1 h2
        rw [if_neg (by omega)]
        exact ih h1 h2
      · rw [if_pos hB] at h2
        have := t1 (by omega) h2
        by_cases hC : C = 0
        · exact absurd (t4 (by omega) |> fun _ => t2 (by omega) (by omega)) (by omega)
        · rw [if_pos hC]; exact this
    · rw [if_pos hA] at h1
      by_cases hB : B = 0
      · have := t1 h1 (by omega)
        by_cases hC : C = 0
        · have := t3 (by omega) (by omega); omega
        · rw [if_pos hC]; exact this
      · rw [if_pos hB] at h2
        have := t1 h1 h2
        by_cases hC : C = 0
        · have := t2 (by omega) h1; omega
        · rw [if_pos hC]; exact this
/-- A row stands ahead of another one. -/
def lessR (l : List VT) (c : Nat) (ks : List YT) (x y : Nat) : Bool := decide (lexK l c x y ks < 0) || (decide (lexK l c x y ks = 0) && decide (x < y))
theorem lessR_iff {l : List VT} {c : Nat} {ks : List YT} {x y : Nat} : lessR l c ks x y = true ↔ lexK l c x y ks < 0 ∨ (lexK l c x y ks = 0 ∧ x < y) := by simp [lessR]
theorem lessR_strict {l : List VT} (h : ∀ e ∈ l, e.good = true) (c : Nat) (ks : List YT) : Strict (lessR l c ks) := by
  refine ⟨fun a => ?_, fun a b d h1 h2 => ?_, fun a b hab => ?_⟩
  · cases e : lessR l c ks a a with
    | false => rfl
    | true =>
      have := lessR_iff.1 e
      have s := lex_swap h c a a ks
      omega
  · rw [lessR_iff] at h1 h2 ⊢
    have t1 := lex_trans h c a b d ks
    have t2 := lex_trans h c d a b ks
    have t3 := lex_trans h c b d a ks
    rw [lex_swap h c a d ks] at t2 t3
    rw [lex_swap h c b d ks] at t2
    rw [lex_swap h c a b ks] at t3
    by_cases hl : lexK l c a d ks = 0
    · right
      refine ⟨hl, ?_⟩
      by_cases e1 : lexK l c a b ks = 0
      · by_cases e2 : lexK l c b d ks = 0
        · omega
        · have := t3 (by omega) (by omega); have := t2 (by omega) (by omega); omega
      · have := t2 (by omega) (by omega); have := t3 (by omega) (by omega); omega
    · left
      have := t1 (by omega) (by omega)
      omega
  · rw [lessR_iff, lessR_iff, lex_swap h c a b ks]
    omega
/-- By all keys, and then as they stand. -/
def cmpRow (l : List VT) (c : Nat) (ks : List YT) (x y : Nat) : Int := if lexK l c x y ks ≠ 0 then lexK l c x y ks else cmpI x y
theorem cmpRow_less {l : List VT} {c : Nat} {ks : List YT} {x y : Nat} : decide (cmpRow l c ks x y < 0) = lessR l c ks x y := by
  unfold cmpRow lessR cmpI
  by_cases h : lexK l c x y ks = 0
  · rw [if_neg (fun q => q h), h]
    by_cases h1 : x < y
    · have : (x : Int) < (y : Int) := by omega
      simp [h1]
    · have : ¬ (x : Int) < (y : Int) := by omega
      by_cases h2 : y < x
      · have h3 : (y : Int) < (x : Int) := by omega
        simp [h1, h2]
      · simp [h1, h2]
  · rw [if_pos h]
    simp [h]

/-- What is the same for values that are the same. -/
def nrm (e : VT) : VT := ⟨e.k, e.n, e.d, e.x, e.t.map upC⟩
theorem bytes_zero : ∀ (a b : List UInt8), Lib.compareBytes a b = 0 ↔ a = b
  | [], [] => by simp [Lib.compareBytes]
  | [], b :: bs => by simp [Lib.compareBytes]
  | a :: ar, [] => by simp [Lib.compareBytes]
  | a :: ar, b :: bs => by
    unfold Lib.compareBytes
    by_cases h1 : a < b
    · rw [if_pos h1]
      constructor
      · intro h; cases h
      · intro h; cases h; exact absurd h1 (by simp)
    · by_cases h2 : b < a
      · rw [if_neg h1, if_pos h2]
        constructor
        · intro h; cases h
        · intro h; cases h; exact absurd h2 (by simp)
      · rw [if_neg h1, if_neg h2, bytes_zero ar bs]
        have : a = b := by
          have e1 : ¬ a.toNat < b.toNat := fun h => h1 h
          have e2 : ¬ b.toNat < a.toNat := fun h => h2 h
          exact UInt8.toNat_inj.1 (by omega)
        simp [this]
theorem upC_err {t : List UInt8} (h : memB errL t = true) : t.map upC = t := by
  have : t ∈ errL := by simpa [memB] using h
  simp only [errL, List.mem_cons, List.not_mem_nil, or_false] at this
  rcases this with rfl | rfl | rfl | rfl | rfl | rfl | rfl | rfl | rfl <;> decide
theorem goodV_kinds {k : Int} {n : Bool} {d x : Int} {t : List UInt8} (h : goodV k n d x t = true) : k = 0 ∨ k = 1 ∨ k = 2 ∨ (k = 3 ∧ boolB t = true) ∨ (k = 4 ∧ memB errL t = true) := by
  unfold goodV at h
  by_cases h1 : k = 1
  · exact Or.inr (Or.inl h1)
  rw [if_neg h1] at h
  have h2 := (Bool.and_eq_true _ _ ▸ h : _ ∧ _).2
  by_cases h0 : k = 0
  · exact Or.inl h0
  rw [if_neg h0] at h2
  by_cases h2' : k = 2
  · exact Or.inr (Or.inr (Or.inl h2'))
  rw [if_neg h2'] at h2
  by_cases h3 : k = 3
  · rw [if_pos h3] at h2
    exact Or.inr (Or.inr (Or.inr (Or.inl ⟨h3, h2⟩)))
  rw [if_neg h3] at h2
  by_cases h4 : k = 4
  · rw [if_pos h4] at h2
    exact Or.inr (Or.inr (Or.inr (Or.inr ⟨h4, h2⟩)))
  rw [if_neg h4] at h2
  cases h2
/-- Values that are the same, and these alone, have one likeness. -/
theorem like_nrm {a b : VT} (ga : a.good = true) (gb : b.good = true) : likeB a b = true ↔ nrm a = nrm b := by
  obtain ⟨k, n, d, x, t⟩ := a
  obtain ⟨k', n', d', x', t'⟩ := b
  have ga' : goodV k n d x t = true := ga
  have gb' : goodV k' n' d' x' t' = true := gb
  unfold likeB nrm
  simp only [VT.mk.injEq]
  by_cases hk : k = k'
  · subst hk
    rw [decide_eq_true rfl, Bool.true_and]
    have hz : k ≠ 1 → n = n' ∧ d = d' ∧ x = x' := fun h => by
      obtain ⟨h1, h2, h3⟩ := goodV_zero ga' h
      obtain ⟨h1', h2', h3'⟩ := goodV_zero gb' h
      exact ⟨by rw [h1, h1'], by rw [h2, h2'], by rw [h3, h3']⟩
    have hc : k ≠ 4 → cmpQ ⟨k, n, d, x, t⟩ ⟨k, n', d', x', t'⟩ = cmpR (bk k k) n d x (bt k t k) (bk k k) n' d' x' (bt k t' k) := fun h => by
      unfold cmpQ compareV
      rw [if_pos ⟨ga', gb', h, h⟩]
    rcases goodV_kinds ga' with rfl | rfl | rfl | ⟨rfl, hb⟩ | ⟨rfl, hb⟩
    · obtain rfl := goodV_empty ga'
      obtain rfl := goodV_empty gb'
      rw [if_neg (by decide), hc (by decide)]
      obtain ⟨rfl, rfl, rfl⟩ := hz (by decide)
      simp [cmpR, bk]
    · obtain ⟨g, rfl⟩ := goodV_num ga'
      obtain ⟨g', rfl⟩ := goodV_num gb'
      rw [if_neg (by decide), hc (by decide)]
      have : cmpR (bk 1 1) n d x (bt 1 [] 1) (bk 1 1) n' d' x' (bt 1 [] 1) = cmpI (sgn n d * 10 ^ (x - min x x').toNat) (sgn n' d' * 10 ^ (x' - min x x').toNat) := by
        have : bk 1 1 = 1 := by decide
        rw [this]
        unfold cmpR
        rw [if_neg (by simp), if_pos rfl]
      rw [this]
      constructor
      · intro h
        obtain ⟨rfl, rfl, rfl⟩ := dec_one g g' (cmpI_zero.1 (of_decide_eq_true h))
        simp
      · rintro ⟨_, rfl, rfl, rfl, _⟩
        exact decide_eq_true (cmpI_zero.2 rfl)
    · rw [if_neg (by decide), hc (by decide)]
      obtain ⟨rfl, rfl, rfl⟩ := hz (by decide)
      have : cmpR (bk 2 2) n d x (bt 2 t 2) (bk 2 2) n d x (bt 2 t' 2) = Lib.compareBytes (t.map upC) (t'.map upC) := by
        have e1 : bk 2 2 = 2 := by decide
        have e2 : ∀ u, bt 2 u 2 = u := fun u => by unfold bt; rw [if_neg (by decide)]
        rw [e1, e2, e2]
        unfold cmpR
        rw [if_neg (by simp), if_neg (by decide), if_pos rfl]
      rw [this]
      constructor
      · intro h
        exact ⟨rfl, rfl, rfl, rfl, (bytes_zero _ _).1 (of_decide_eq_true h)⟩
      · rintro ⟨_, _, _, _, h⟩
        exact decide_eq_true ((bytes_zero _ _).2 h)
    · rw [if_neg (by decide), hc (by decide)]
      obtain ⟨rfl, rfl, rfl⟩ := hz (by decide)
      have hb' : boolB t' = true := by
        rcases goodV_kinds gb' with h | h | h | ⟨_, h⟩ | ⟨h, _⟩
        · exact absurd h (by decide)
        · exact absurd h (by decide)
        · exact absurd h (by decide)
        · exact h
        · exact absurd h (by decide)
      have : cmpR (bk 3 3) n d x (bt 3 t 3) (bk 3 3) n d x (bt 3 t' 3) = Lib.compareBytes t t' := by
        have e1 : bk 3 3 = 3 := by decide
        have e2 : ∀ u, bt 3 u 3 = u := fun u => by unfold bt; rw [if_neg (by decide)]
        rw [e1, e2, e2]
        unfold cmpR
        rw [if_neg (by simp), if_neg (by decide), if_neg (by decide), if_pos rfl]
      rw [this, upC_bool hb, upC_bool hb']
      constructor
      · intro h
        exact ⟨rfl, rfl, rfl, rfl, (bytes_zero _ _).1 (of_decide_eq_true h)⟩
      · rintro ⟨_, _, _, _, h⟩
        exact decide_eq_true ((bytes_zero _ _).2 h)
    · have hb' : memB errL t' = true := by
        rcases goodV_kinds gb' with h | h | h | ⟨h, _⟩ | ⟨_, h⟩
        · exact absurd h (by decide)
        · exact absurd h (by decide)
        · exact absurd h (by decide)
        · exact absurd h (by decide)
        · exact h
      rw [if_pos rfl, upC_err hb, upC_err hb']
      unfold sameQ
      simp
  · simp [hk]

end Go.Proofs.YtbomplppgobkdaaGreatDoor

