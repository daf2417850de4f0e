/-
  Chapter 11: rows put in order by a heap, and by putting each in its place: plain.
-/
namespace Go.Proofs.YtlofnhhoopefcaaGreatDoor

structure Strict (less : Nat → Nat → Bool) : Prop where
 irr : ∀ a, less a a = false
 tr : ∀ a b c, less a b = true → less b c = true → less a c = true
 tot : ∀ a b, a ≠ b → less a b = true ∨ less b a = true
theorem Strict.asym {less : Nat → Nat → Bool} (S : Strict less) {a b : Nat} (h : less a b = true) : less b a = false := by
 cases hb : less b a with
 | false => rfl
 | true => have := S.tr _ _ _ h hb; rw [S.irr] at this; cases this
/-- a is not behind b. -/
def leB (less : Nat → Nat → Bool) (a b : Nat) : Prop := less b a = false
theorem Strict.le_cases {less : Nat → Nat → Bool} (S : Strict less) {a b : Nat} : leB less a b ↔ a = b ∨ less a b = true := by
 constructor
 ·
  intro h
  by_cases e : a = b
  ·
   exact Or.inl e
  ·
   rcases S.tot a b e with h' | h'
   ·
    exact Or.inr h'
   ·
    rw [leB, h'] at h; cases h
 ·
  rintro (rfl | h)
  ·
   exact S.irr _
  ·
   exact S.asym h
theorem Strict.le_tr {less : Nat → Nat → Bool} (S : Strict less) {a b c : Nat} (h : leB less a b) (k : leB less b c) : leB less a c := by
 rcases S.le_cases.1 h with rfl | h'
 ·
  exact k
 ·
  rcases S.le_cases.1 k with rfl | k'
  ·
   exact h
  ·
   exact S.asym (S.tr _ _ _ h' k')
theorem Strict.le_of {less : Nat → Nat → Bool} (S : Strict less) {a b : Nat} (h : less a b = true) : leB less a b := S.asym h

/-- A number of a list by its place. -/
def nth (h : List Nat) (i : Nat) : Nat := h.getD i 0
theorem nth_of {h : List Nat} {i x : Nat} (e : h[i]? = some x) : nth h i = x := by simp [nth, e]
theorem nth_get {h : List Nat} {i : Nat} (hi : i < h.length) : h[i]? = some (nth h i) := by
 rw [List.getElem?_eq_getElem hi]; simp [nth, hi]
theorem nth_mem {h : List Nat} {i : Nat} (hi : i < h.length) : nth h i ∈ h := List.mem_of_getElem? (nth_get hi)
def swapL (h : List Nat) (i j : Nat) : List Nat := (h.set i (nth h j)).set j (nth h i)
theorem swap_len (h : List Nat) (i j : Nat) : (swapL h i j).length = h.length := by simp [swapL]
theorem swap_at {h : List Nat} {i j : Nat} (hi : i < h.length) (hj : j < h.length) (k : Nat) :
  nth (swapL h i j) k = if k = j then nth h i else if k = i then nth h j else nth h k := by
 unfold swapL nth
 simp only [List.getD_eq_getElem?_getD, List.getElem?_set, List.length_set]
 by_cases h1 : k = j
 ·
  subst h1; simp [hj]
 ·
  rw [if_neg (fun e => h1 e.symm), if_neg h1]
  by_cases h2 : k = i
  ·
   subst h2; simp [hi]
  ·
   rw [if_neg (fun e => h2 e.symm), if_neg h2]
theorem swap_perm {h : List Nat} {i j : Nat} (hi : i < h.length) (hj : j < h.length) : (swapL h i j).Perm h := by
 have e := Array.swap_perm (xs := h.toArray) (i := i) (j := j) (by simpa using hi) (by simpa using hj)
 rw [Array.perm_iff_toList_perm, List.swap_toArray] at e
 have e2 : swapL h i j = (h.set i h[j]).set j h[i] := by
  unfold swapL nth
  simp [hi, hj]
 rw [e2]
 simpa using e

/-- Each is not ahead of the one above it. -/
def HeapOK (less : Nat → Nat → Bool) (h : List Nat) : Prop := ∀ i, 0 < i → i < h.length → leB less (nth h ((i - 1) / 2)) (nth h i)
def UpOK (less : Nat → Nat → Bool) (h : List Nat) (p : Nat) : Prop :=
 (∀ i, 0 < i → i < h.length → i ≠ p → leB less (nth h ((i - 1) / 2)) (nth h i)) ∧
 (0 < p → ∀ i, 0 < i → i < h.length → (i - 1) / 2 = p → leB less (nth h ((p - 1) / 2)) (nth h i))
theorem nth_app {h : List Nat} {x i : Nat} (hi : i < h.length) : nth (h ++ [x]) i = nth h i := by
 unfold nth
 simp [List.getElem?_append_left hi]
theorem UpOK.start {less : Nat → Nat → Bool} {h : List Nat} (H : HeapOK less h) (x : Nat) : UpOK less (h ++ [x]) h.length := by
 refine ⟨fun i i0 i1 i2 => ?_, fun _ i i0 i1 i2 => ?_⟩
 ·
  rw [List.length_append, List.length_singleton] at i1
  have : i < h.length := by omega
  rw [nth_app this, nth_app (by omega)]
  exact H i i0 this
 ·
  rw [List.length_append, List.length_singleton] at i1
  omega
theorem UpOK.step {less : Nat → Nat → Bool} (S : Strict less) {h : List Nat} {p : Nat} (U : UpOK less h p) (p0 : 0 < p) (p1 : p < h.length) (hl : less (nth h p) (nth h ((p - 1) / 2)) = true) :
  UpOK less (swapL h p ((p - 1) / 2)) ((p - 1) / 2) := by
 have q1 : (p - 1) / 2 < p := by omega
 generalize hq : (p - 1) / 2 = q at hl q1
 have sa := swap_at p1 (show q < h.length by omega)
 refine ⟨fun i i0 i1 i2 => ?_, fun q0 i i0 i1 i2 => ?_⟩
 ·
  rw [swap_len] at i1
  by_cases hip : i = p
  ·
   subst hip
   rw [hq, sa, sa, if_pos rfl, if_neg (by omega), if_pos rfl]
   exact S.asym hl
  ·
   rw [sa i, if_neg i2, if_neg hip, sa]
   by_cases r1 : (i - 1) / 2 = q
   ·
    rw [if_pos r1]
    have := U.1 i i0 i1 hip
    rw [r1] at this
    exact S.le_tr (S.le_of hl) this
   ·
    rw [if_neg r1]
    by_cases r2 : (i - 1) / 2 = p
    ·
     rw [if_pos r2]
     have := U.2 p0 i i0 i1 r2
     rwa [hq] at this
    ·
     rw [if_neg r2]
     exact U.1 i i0 i1 hip
 ·
  rw [swap_len] at i1
  have s1 : (q - 1) / 2 < q := by omega
  rw [sa ((q - 1) / 2), if_neg (by omega), if_neg (by omega), sa i, if_neg (by omega)]
  have hqq := U.1 q q0 (by omega) (by omega)
  by_cases hip : i = p
  ·
   rw [if_pos hip]; exact hqq
  ·
   rw [if_neg hip]
   have := U.1 i i0 i1 hip
   rw [i2] at this
   exact S.le_tr hqq this
theorem UpOK.done {less : Nat → Nat → Bool} {h : List Nat} {p : Nat} (U : UpOK less h p) (hd : p = 0 ∨ less (nth h p) (nth h ((p - 1) / 2)) = false) : HeapOK less h := fun i i0 i1 => by
 by_cases hip : i = p
 ·
  subst hip
  rcases hd with rfl | hd
  ·
   omega
  ·
   exact hd
 ·
  exact U.1 i i0 i1 hip
theorem HeapOK.least {less : Nat → Nat → Bool} (S : Strict less) {h : List Nat} (H : HeapOK less h) : ∀ i, i < h.length → leB less (nth h 0) (nth h i) := by
 intro i
 induction i using Nat.strongRecOn with
 | ind i ih =>
  intro hi
  by_cases h0 : i = 0
  ·
   subst h0; exact S.irr _
  ·
   exact S.le_tr (ih ((i - 1) / 2) (by omega) (by omega)) (H i (by omega) hi)

def DownOK (less : Nat → Nat → Bool) (h : List Nat) (p : Nat) : Prop :=
 (∀ i, 0 < i → i < h.length → (i - 1) / 2 ≠ p → leB less (nth h ((i - 1) / 2)) (nth h i)) ∧
 (0 < p → ∀ i, 0 < i → i < h.length → (i - 1) / 2 = p → leB less (nth h ((p - 1) / 2)) (nth h i))
theorem nth_take {h : List Nat} {m i : Nat} (hi : i < m) : nth (h.take m) i = nth h i := by
 unfold nth
 simp [hi]
/-- The last one is put first, and the first one is gone. -/
theorem DownOK.start {less : Nat → Nat → Bool} {h : List Nat} {m : Nat} (H : HeapOK less h) (hm : h.length = m + 1) : DownOK less ((swapL h 0 m).take m) 0 := by
 have sa := swap_at (show 0 < h.length by omega) (show m < h.length by omega)
 refine ⟨fun i i0 i1 i2 => ?_, fun h0 => absurd h0 (by omega)⟩
 rw [List.length_take, swap_len] at i1
 have im : i < m := by omega
 rw [nth_take im, nth_take (by omega), sa, sa, if_neg (by omega), if_neg (by omega), if_neg (by omega), if_neg (by omega)]
 exact H i i0 (by omega)
theorem take_perm {h : List Nat} {m : Nat} (hm : h.length = m + 1) : h.Perm (nth h 0 :: (swapL h 0 m).take m) := by
 have p := swap_perm (show 0 < h.length by omega) (show m < h.length by omega)
 have sa := swap_at (show 0 < h.length by omega) (show m < h.length by omega) m
 rw [if_pos rfl] at sa
 have e : swapL h 0 m = (swapL h 0 m).take m ++ [nth h 0] := by
  have l : m < (swapL h 0 m).length := by rw [swap_len]; omega
  have h1 : (swapL h 0 m).take (m + 1) = swapL h 0 m := List.take_of_length_le (by rw [swap_len]; omega)
  rw [List.take_add_one, nth_get l, sa] at h1
  simpa using h1.symm
 refine p.symm.trans ?_
 rw [e]
 exact (List.perm_append_singleton _ _).trans (List.Perm.of_eq (by rw [← e]))
theorem DownOK.step {less : Nat → Nat → Bool} (S : Strict less) {h : List Nat} {p nx : Nat} (D : DownOK less h p) (n0 : 0 < nx) (n1 : nx < h.length) (np : (nx - 1) / 2 = p)
  (hl : less (nth h nx) (nth h p) = true) (hk : ∀ i, 0 < i → i < h.length → (i - 1) / 2 = p → leB less (nth h nx) (nth h i)) : DownOK less (swapL h p nx) nx := by
 have sa := swap_at (show p < h.length by omega) n1
 refine ⟨fun i i0 i1 i2 => ?_, fun _ i i0 i1 i2 => ?_⟩
 ·
  rw [swap_len] at i1
  rw [sa ((i - 1) / 2), if_neg i2, sa i]
  by_cases r1 : (i - 1) / 2 = p
  ·
   rw [if_pos r1]
   by_cases hin : i = nx
   ·
    rw [if_pos hin]; exact S.le_of hl
   ·
    rw [if_neg hin, if_neg (by omega)]; exact hk i i0 i1 r1
  ·
   rw [if_neg r1, if_neg (fun e => r1 (by rw [e]; exact np))]
   by_cases hip : i = p
   ·
    subst hip
    rw [if_pos rfl]
    exact D.2 i0 nx n0 n1 np
   ·
    rw [if_neg hip]; exact D.1 i i0 i1 r1
 ·
  rw [swap_len] at i1
  rw [np, sa p, if_neg (by omega), if_pos rfl, sa i, if_neg (by omega), if_neg (by omega)]
  have := D.1 i i0 i1 (by omega)
  rwa [i2] at this
theorem DownOK.done {less : Nat → Nat → Bool} {h : List Nat} {p : Nat} (D : DownOK less h p) (hk : ∀ i, 0 < i → i < h.length → (i - 1) / 2 = p → leB less (nth h p) (nth h i)) : HeapOK less h := fun i i0 i1 => by
 by_cases hr : (i - 1) / 2 = p
 ·
  rw [hr]; exact hk i i0 i1 hr
 ·
  exact D.1 i i0 i1 hr
/-- The least of a place and of those below it that were looked at. -/
structure Next (less : Nat → Nat → Bool) (h : List Nat) (p kid nx : Nat) : Prop where
 in1 : nx < h.length
 own : nx = p ∨ ((nx - 1) / 2 = p ∧ 0 < nx ∧ less (nth h nx) (nth h p) = true)
 kids : ∀ i, 0 < i → i < kid → i < h.length → (i - 1) / 2 = p → leB less (nth h nx) (nth h i)
theorem Next.start {less : Nat → Nat → Bool} {h : List Nat} {p : Nat} (hp : p < h.length) : Next less h p (2 * p + 1) p := ⟨hp, Or.inl rfl, fun i _ _ _ _ => by omega⟩
theorem Next.skip {less : Nat → Nat → Bool} {h : List Nat} {p kid nx : Nat} (N : Next less h p kid nx) (hl : less (nth h kid) (nth h nx) = false) : Next less h p (kid + 1) nx :=
 ⟨N.in1, N.own, fun i i0 i1 i2 i3 => by
  by_cases e : i = kid
  ·
   subst e; exact hl
  ·
   exact N.kids i i0 (by omega) i2 i3⟩
theorem Next.take {less : Nat → Nat → Bool} (S : Strict less) {h : List Nat} {p kid nx : Nat} (N : Next less h p kid nx) (k0 : 0 < kid) (k1 : kid < h.length) (kp : (kid - 1) / 2 = p) (hl : less (nth h kid) (nth h nx) = true) : Next less h p (kid + 1) kid :=
 ⟨k1, Or.inr ⟨kp, k0, by
  rcases N.own with e | ⟨_, _, h2⟩
  ·
   rw [e] at hl; exact hl
  ·
   exact S.tr _ _ _ hl h2⟩, fun i i0 i1 i2 i3 => by
  by_cases e : i = kid
  ·
   subst e; exact S.irr _
  ·
   exact S.le_tr (S.le_of hl) (N.kids i i0 (by omega) i2 i3)⟩
theorem Next.all {less : Nat → Nat → Bool} {h : List Nat} {p kid nx : Nat} (N : Next less h p kid nx) (hk : 2 * p + 2 < kid ∨ h.length ≤ kid) : ∀ i, 0 < i → i < h.length → (i - 1) / 2 = p → leB less (nth h nx) (nth h i) := fun i i0 i1 i2 => N.kids i i0 (by omega) i1 i2

/-- All rows in order. -/
def InOrder (less : Nat → Nat → Bool) (n : Nat) (l : List Nat) : Prop := l.Pairwise (fun a b => less a b = true) ∧ l.Perm (List.range n)
theorem InOrder.one {less : Nat → Nat → Bool} (S : Strict less) {n : Nat} {l m : List Nat} (h : InOrder less n l) (k : InOrder less n m) : l = m :=
 List.Perm.eq_of_pairwise (fun a b _ _ h1 h2 => by rw [S.asym h1] at h2; cases h2) h.1 k.1 (h.2.trans k.2.symm)
theorem InOrder.len {less : Nat → Nat → Bool} {n : Nat} {l : List Nat} (h : InOrder less n l) : l.length = n := by rw [h.2.length_eq, List.length_range]
/-- While the least ones are taken. -/
structure Taking (less : Nat → Nat → Bool) (n : Nat) (rows h : List Nat) : Prop where
 heap : HeapOK less h
 all : (rows ++ h).Perm (List.range n)
 up : rows.Pairwise (fun a b => less a b = true)
 far : ∀ a ∈ rows, ∀ b ∈ h, less a b = true
theorem Taking.start {less : Nat → Nat → Bool} {n : Nat} {h : List Nat} (H : HeapOK less h) (p : h.Perm (List.range n)) : Taking less n [] h := ⟨H, by simpa using p, List.Pairwise.nil, fun a ha => by cases ha⟩
theorem Taking.next {less : Nat → Nat → Bool} (S : Strict less) {n : Nat} {rows h h' : List Nat} (T : Taking less n rows h) (h0 : 0 < h.length) (H : HeapOK less h') (p : h.Perm (nth h 0 :: h')) : Taking less n (rows ++ [nth h 0]) h' := by
 have all' : (rows ++ [nth h 0] ++ h').Perm (List.range n) := by
  refine List.Perm.trans ?_ T.all
  rw [List.append_assoc]
  exact List.Perm.append_left _ p.symm
 have nd : (nth h 0 :: h').Nodup := by
  have : (rows ++ h).Nodup := T.all.nodup_iff.2 List.nodup_range
  exact p.nodup_iff.1 (List.nodup_append.1 this).2.1
 refine ⟨H, all', ?_, ?_⟩
 ·
  refine List.pairwise_append.2 ⟨T.up, List.pairwise_singleton _ _, fun a ha b hb => ?_⟩
  have : b = nth h 0 := by simpa using hb
  subst this
  exact T.far a ha _ (nth_mem h0)
 ·
  intro a ha b hb
  rcases List.mem_append.1 ha with ha | ha
  ·
   exact T.far a ha b (p.symm.subset (List.mem_cons_of_mem _ hb))
  ·
   have : a = nth h 0 := by simpa using ha
   subst this
   have hb' : b ∈ h := p.symm.subset (List.mem_cons_of_mem _ hb)
   obtain ⟨i, hi, rfl⟩ := List.getElem_of_mem hb'
   have l0 := T.heap.least S i hi
   have e : nth h i = h[i] := nth_of (List.getElem?_eq_getElem hi)
   rw [e] at l0
   rcases S.le_cases.1 l0 with e2 | h2
   ·
    rw [← e2] at hb
    exact absurd hb (List.nodup_cons.1 nd).1
   ·
    exact h2
theorem Taking.done {less : Nat → Nat → Bool} {n : Nat} {rows : List Nat} (T : Taking less n rows []) : InOrder less n rows := ⟨T.up, by simpa using T.all⟩

/-- While a row is put in its place. -/
structure Putting (less : Nat → Nat → Bool) (i : Nat) (A B : List Nat) : Prop where
 all : (A ++ B).Perm (List.range i)
 up : (A ++ B).Pairwise (fun a b => less a b = true)
 far : ∀ b ∈ B, less i b = true
theorem Putting.start {less : Nat → Nat → Bool} {i : Nat} {l : List Nat} (h : InOrder less i l) : Putting less i l [] := ⟨by simpa using h.2, by simpa using h.1, fun b hb => by cases hb⟩
theorem Putting.step {less : Nat → Nat → Bool} {i a : Nat} {A B : List Nat} (P : Putting less i (A ++ [a]) B) (hl : less i a = true) : Putting less i A (a :: B) :=
 ⟨by simpa using P.all, by simpa using P.up, fun b hb => by
  rcases List.mem_cons.1 hb with rfl | hb
  ·
   exact hl
  ·
   exact P.far b hb⟩
theorem Putting.done {less : Nat → Nat → Bool} (S : Strict less) {i : Nat} {A B : List Nat} (P : Putting less i A B) (hd : ∀ A' a, A = A' ++ [a] → less i a = false) : InOrder less (i + 1) (A ++ i :: B) := by
 have pw := List.pairwise_append.1 P.up
 have hA : ∀ a ∈ A, less a i = true := by
  intro a ha
  rcases List.eq_nil_or_concat A with rfl | ⟨A', z, e⟩
  ·
   cases ha
  ·
   have e' : A = A' ++ [z] := by simpa using e
   have hz : less z i = true := by
    have h1 := hd A' z e'
    have ne : i ≠ z := by
     intro e3
     have : z ∈ List.range i := P.all.subset (by rw [e']; simp)
     rw [← e3] at this
     simp at this
    rcases S.tot i z ne with h2 | h2
    ·
     rw [h1] at h2; cases h2
    ·
     exact h2
   rw [e'] at ha pw
   rcases List.mem_append.1 ha with ha | ha
   ·
    exact S.tr _ _ _ ((List.pairwise_append.1 pw.1).2.2 a ha z (by simp)) hz
   ·
    have : a = z := by simpa using ha
    rw [this]; exact hz
 refine ⟨?_, ?_⟩
 ·
  refine List.pairwise_append.2 ⟨pw.1, List.pairwise_cons.2 ⟨P.far, pw.2.1⟩, fun a ha b hb => ?_⟩
  rcases List.mem_cons.1 hb with rfl | hb
  ·
   exact hA a ha
  ·
   exact pw.2.2 a ha b hb
 ·
  rw [List.range_succ]
  refine List.Perm.trans List.perm_middle ?_
  refine List.Perm.trans ?_ (List.perm_append_singleton _ _).symm
  exact List.Perm.cons _ P.all
theorem InOrder.nil (less : Nat → Nat → Bool) : InOrder less 0 [] := ⟨List.Pairwise.nil, by simp⟩

end Go.Proofs.YtlofnhhoopefcaaGreatDoor

