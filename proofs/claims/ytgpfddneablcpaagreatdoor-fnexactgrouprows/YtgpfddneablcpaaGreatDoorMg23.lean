/-
  Several texts in one: E1, E2, J2, As0, J3.
-/
import Derived.Test.YtgpfddneablcpaaGreatDoorMg22
import Derived.Test.YtgpfddneablcpaaGreatDoorMg8
import Derived.DeepKeys4
import Derived.MapKept
import Derived.Maps.Own
import Derived.Maps.OwnSet
import Derived.Deep.AppendSrc
import Derived.Deep.Upon
import Derived.OwnWalk
import Derived.Laws.OwnMore
import Derived.Test.YtgpfddneablcpaaGreatDoorMg1
import Derived.Test.YtgpfddneablcpaaGreatDoorMg7
namespace Go.Proofs.YtgpfddneablcpaaGreatDoor
open Go.RowKit

/-- How two cells stand to each other, errors told apart. -/
def rankB (a b : VT) : Int := if a.k = 4 ∧ b.k = 4 then Lib.compareBytes a.t b.t else standB a b 1
theorem rank_swap {a b : VT} (ga : a.good = true) (gb : b.good = true) : rankB b a = -rankB a b := by
 unfold rankB
 by_cases h : a.k = 4 ∧ b.k = 4
 ·
  rw [if_pos h, if_pos ⟨h.2, h.1⟩]
  exact bytesQ_swap _ _
 ·
  rw [if_neg h, if_neg (fun q => h ⟨q.2, q.1⟩)]
  exact stand_swap ga gb 1
theorem late_err {e : VT} : lateV e = 2 ↔ e.k = 4 := by
 unfold lateV
 by_cases h0 : e.k = 0
 ·
  rw [if_pos h0]
  omega
 ·
  rw [if_neg h0]
  by_cases h4 : e.k = 4
  ·
   simp [h4]
  ·
   simp [h4]
theorem late_none {e : VT} : lateV e = 1 ↔ e.k = 0 := by
 unfold lateV
 by_cases h0 : e.k = 0
 ·
  simp [h0]
 ·
  rw [if_neg h0]
  by_cases h4 : e.k = 4
  ·
   simp [h4]
  ·
   simp [h4, h0]
theorem late_le (e : VT) : 0 ≤ lateV e ∧ lateV e ≤ 2 := by unfold lateV; split <;> (try split) <;> omega
theorem stand_late {a b : VT} (h : standB a b 1 ≤ 0) : lateV a ≤ lateV b := by
 unfold standB at h
 by_cases q : lateV a ≠ lateV b ∨ lateV a ≠ 0
 ·
  rw [if_pos q, cmpI_le] at h
  exact h
 ·
  omega
theorem rank_late {a b : VT} (h : rankB a b ≤ 0) : lateV a ≤ lateV b := by
 unfold rankB at h
 by_cases q : a.k = 4 ∧ b.k = 4
 ·
  rw [late_err.2 q.1, late_err.2 q.2]
  omega
 ·
  rw [if_neg q] at h
  exact stand_late h
theorem rank_trans {a b c : VT} (ga : a.good = true) (gb : b.good = true) (gc : c.good = true) (h : rankB a b ≤ 0) (k : rankB b c ≤ 0) : rankB a c ≤ 0 := by
 have l1 := rank_late h
 have l2 := rank_late k
 have la := late_le a
 have lb := late_le b
 have lc := late_le c
 unfold rankB at h k ⊢
 by_cases q : a.k = 4 ∧ c.k = 4
 ·
  have qb : b.k = 4 := late_err.1 (by have := late_err.2 q.1; omega)
  rw [if_pos ⟨q.1, qb⟩] at h
  rw [if_pos ⟨qb, q.2⟩] at k
  rw [if_pos q]
  exact bytesQ_trans _ _ _ h k
 ·
  rw [if_neg q]
  have na : a.k ≠ 4 := fun e => q ⟨e, late_err.1 (by have := late_err.2 e; omega)⟩
  rw [if_neg (fun z => na z.1)] at h
  by_cases q2 : b.k = 4 ∧ c.k = 4
  ·
   have h2 := late_err.2 q2.2
   have h3 : lateV a ≠ 2 := fun e => na (late_err.1 e)
   unfold standB
   rw [if_pos (Or.inl (by omega)), cmpI_le]
   omega
  ·
   rw [if_neg q2] at k
   exact stand_trans ga gb gc (Or.inl rfl) h k
theorem cmpR_zero {k : Int} {n : Bool} {d x : Int} {t : List UInt8} {k' : Int} {n' : Bool} {d' x' : Int} {t' : List UInt8} (h : cmpR k n d x t k' n' d' x' t' = 0) : k = k' := by
 by_cases hk : k = k'
 ·
  exact hk
 ·
  unfold cmpR at h
  rw [if_pos hk] at h
  by_cases h1 : k < k'
  ·
   rw [if_pos h1] at h; omega
  ·
   rw [if_neg h1] at h; omega
/-- Cells that stand nowhere are the same. -/
theorem rank_zero {a b : VT} (ga : a.good = true) (gb : b.good = true) : rankB a b = 0 ↔ nrm a = nrm b := by
 have ga' : goodV a.k a.n a.d a.x a.t = true := ga
 have gb' : goodV b.k b.n b.d b.x b.t = true := gb
 have LN := like_nrm ga gb
 unfold rankB
 by_cases q : a.k = 4 ∧ b.k = 4
 ·
  rw [if_pos q, bytes_zero, ← LN]
  unfold likeB sameQ
  rw [if_pos q.1]
  obtain ⟨z1, z2, z3⟩ := goodV_zero ga' (by omega)
  obtain ⟨y1, y2, y3⟩ := goodV_zero gb' (by omega)
  rw [z1, z2, z3, y1, y2, y3, q.1, q.2]
  simp
 ·
  rw [if_neg q]
  constructor
  ·
   intro h
   unfold standB at h
   by_cases hl : lateV a ≠ lateV b ∨ lateV a ≠ 0
   ·
    rw [if_pos hl, cmpI_zero] at h
    have la := late_le a
    have h1 : lateV a = 1 := by
     rcases (by omega : lateV a = 1 ∨ lateV a = 2) with e | e
     ·
      exact e
     ·
      exact absurd ⟨late_err.1 e, late_err.1 (h ▸ e)⟩ q
    have ka := late_none.1 h1
    have kb := late_none.1 (h ▸ h1)
    obtain ⟨k, n, d, x, t⟩ := a
    obtain ⟨k', n', d', x', t'⟩ := b
    simp only at ka kb ga' gb'
    subst ka kb
    obtain ⟨rfl, rfl, rfl⟩ := goodV_zero ga' (by decide)
    obtain ⟨rfl, rfl, rfl⟩ := goodV_zero gb' (by decide)
    obtain rfl := goodV_empty ga'
    obtain rfl := goodV_empty gb'
    rfl
   ·
    rw [if_neg hl, Int.mul_one] at h
    have e := h
    rw [cmpQ_is ga gb (by omega) (by omega)] at e
    refine LN.1 ?_
    unfold likeB
    rw [if_neg (fun e4 => by have := late_err.2 e4; omega), cmpR_zero e, h]
    simp
  ·
   intro h
   have hk : a.k = b.k := by
    have e := congrArg VT.k h
    exact e
   have n4 : a.k ≠ 4 := fun e => q ⟨e, hk ▸ e⟩
   have hll : lateV a = lateV b := by unfold lateV; rw [hk]
   unfold standB
   by_cases hl : lateV a ≠ lateV b ∨ lateV a ≠ 0
   ·
    rw [if_pos hl, cmpI_zero]
    exact hll
   ·
    rw [if_neg hl]
    have := LN.2 h
    unfold likeB at this
    rw [if_neg n4] at this
    have h2 : cmpQ a b = 0 := by
     rw [Bool.and_eq_true] at this
     exact of_decide_eq_true this.2
    rw [h2]
    rfl
/-- How two lists of cells stand to each other. -/
def lexG : List VT → List VT → Int
 | [], [] => 0
 | [], _ :: _ => -1
 | _ :: _, [] => 1
 | a :: x, b :: y => if rankB a b ≠ 0 then rankB a b else lexG x y
theorem lexG_swap : ∀ (a b : List VT), (∀ e ∈ a, e.good = true) → (∀ e ∈ b, e.good = true) → lexG b a = -lexG a b
 | [], [], _, _ => rfl
 | [], _ :: _, _, _ => rfl
 | _ :: _, [], _, _ => rfl
 | x :: a, y :: b, ha, hb => by
  unfold lexG
  rw [rank_swap (ha x (by simp)) (hb y (by simp)), lexG_swap a b (fun e h => ha e (by simp [h])) (fun e h => hb e (by simp [h]))]
  by_cases h0 : rankB x y = 0
  ·
   rw [if_neg (by omega), if_neg (by omega)]
  ·
   rw [if_pos (by omega), if_pos h0]
theorem lexG_trans : ∀ (a b c : List VT), (∀ e ∈ a, e.good = true) → (∀ e ∈ b, e.good = true) → (∀ e ∈ c, e.good = true) → lexG a b ≤ 0 → lexG b c ≤ 0 → lexG a c ≤ 0
 | [], _, [], _, _, _, _, _ => Int.le_refl _
 | [], _, _ :: _, _, _, _, _, _ => (by decide : (-1 : Int) ≤ 0)
 | _ :: _, [], _, _, _, _, h, _ => absurd h (by decide : ¬ (1 : Int) ≤ 0)
 | _ :: _, _ :: _, [], _, _, _, _, h => absurd h (by decide : ¬ (1 : Int) ≤ 0)
 | x :: a, y :: b, z :: c, ga, gb, gc, h1, h2 => by
  have gx := ga x (by simp)
  have gy := gb y (by simp)
  have gz := gc z (by simp)
  have ih := lexG_trans a b c (fun e h => ga e (by simp [h])) (fun e h => gb e (by simp [h])) (fun e h => gc e (by simp [h]))
  unfold lexG at h1 h2 ⊢
  have a1 := rank_swap gx gy
  have a2 := rank_swap gy gz
  have a3 := rank_swap gx gz
  have t1 := rank_trans gx gy gz
  have t2 := rank_trans gz gx gy
  have t3 := rank_trans gy gz gx
  have t6 := rank_trans gz gy gx
  rw [a3] at t2 t3
  rw [a2] at t2 t6
  rw [a1] at t3 t6
  rw [a3] at t6
  generalize rankB x y = A at *
  generalize rankB y z = B at *
  generalize rankB x z = C at *
  by_cases hA : A = 0
  ·
   rw [if_neg (by omega)] at h1
   by_cases hB : B = 0
   ·
    rw [if_neg (by omega)] at h2
    have c1 := t1 (by omega) (by omega)
    have c2 := t6 (by omega) (by omega)
    rw [if_neg (by omega)]
    exact ih h1 h2
   ·
    rw [if_pos hB] at h2
    have c1 := t1 (by omega) h2
    by_cases hC : C = 0
    ·
     have := t2 (by omega) (by omega)
     omega
    ·
     rw [if_pos hC]
     exact c1
  ·
   rw [if_pos hA] at h1
   have h2' : B ≤ 0 := by
    by_cases hB : B = 0
    ·
     omega
    ·
     rw [if_pos hB] at h2
     exact h2
   have c1 := t1 h1 h2'
   by_cases hC : C = 0
   ·
    have := t3 h2' (by omega)
    omega
   ·
    rw [if_pos hC]
    exact c1
theorem lexG_zero : ∀ (a b : List VT), (∀ e ∈ a, e.good = true) → (∀ e ∈ b, e.good = true) → (lexG a b = 0 ↔ a.map nrm = b.map nrm)
 | [], [], _, _ => by simp [lexG]
 | [], _ :: _, _, _ => by simp [lexG]
 | _ :: _, [], _, _ => by simp [lexG]
 | x :: a, y :: b, ga, gb => by
  have R := rank_zero (ga x (by simp)) (gb y (by simp))
  have ih := lexG_zero a b (fun e h => ga e (by simp [h])) (fun e h => gb e (by simp [h]))
  unfold lexG
  simp only [List.map_cons, List.cons.injEq]
  by_cases h0 : rankB x y = 0
  ·
   rw [if_neg (by omega), ih]
   exact ⟨fun h => ⟨R.1 h0, h⟩, fun h => h.2⟩
  ·
   rw [if_pos h0]
   exact ⟨fun h => absurd h h0, fun h => absurd (R.2 h.1) h0⟩

instance decVT : DecidableEq VT := fun a b =>
 decidable_of_iff (a.k = b.k ∧ a.n = b.n ∧ a.d = b.d ∧ a.x = b.x ∧ a.t = b.t) (by cases a; cases b; simp)
/-- The rows whose key no row ahead of them has. -/
def firstsG (κ : Nat → List VT) (n : Nat) : List Nat := (List.range n).filter fun i => (List.range i).all fun j => decide (κ j ≠ κ i)
/-- The rows of one key. -/
def rowsG (κ : Nat → List VT) (n f : Nat) : List Nat := (List.range n).filter fun j => decide (κ j = κ f)
theorem firstsG_mem {κ : Nat → List VT} {n f : Nat} : f ∈ firstsG κ n ↔ f < n ∧ ∀ j, j < f → κ j ≠ κ f := by
 unfold firstsG
 simp [List.mem_filter]
theorem firstsG_succ (κ : Nat → List VT) (n : Nat) : firstsG κ (n + 1) = firstsG κ n ++ (if ∀ j, j < n → κ j ≠ κ n then [n] else []) := by
 unfold firstsG
 rw [List.range_succ, List.filter_append]
 congr 1
 by_cases h : ∀ j, j < n → κ j ≠ κ n
 ·
  rw [if_pos h]
  have : ((List.range n).all fun j => decide (κ j ≠ κ n)) = true := by simpa using h
  rw [List.filter_cons, if_pos this]
  rfl
 ·
  rw [if_neg h]
  have : ¬ ((List.range n).all fun j => decide (κ j ≠ κ n)) = true := by simpa using h
  rw [List.filter_cons, if_neg this]
  rfl
theorem rowsG_succ (κ : Nat → List VT) (n f : Nat) : rowsG κ (n + 1) f = rowsG κ n f ++ (if κ n = κ f then [n] else []) := by
 unfold rowsG
 rw [List.range_succ, List.filter_append]
 congr 1
 by_cases h : κ n = κ f
 ·
  rw [if_pos h, List.filter_cons, if_pos (decide_eq_true h)]
  rfl
 ·
  rw [if_neg h, List.filter_cons, if_neg (by simpa using h)]
  rfl
theorem rowsG_length (κ : Nat → List VT) (n f : Nat) : (rowsG κ n f).length ≤ n := by
 have := List.length_filter_le (fun j => decide (κ j = κ f)) (List.range n)
 rw [List.length_range] at this
 exact this
theorem firstsG_length (κ : Nat → List VT) (n : Nat) : (firstsG κ n).length ≤ n := by
 have := List.length_filter_le (fun i => (List.range i).all fun j => decide (κ j ≠ κ i)) (List.range n)
 rw [List.length_range] at this
 exact this
theorem firstsG_nodup (κ : Nat → List VT) (n : Nat) : (firstsG κ n).Nodup := List.Nodup.sublist List.filter_sublist List.nodup_range
theorem firstsG_one {κ : Nat → List VT} {n f g : Nat} (hf : f ∈ firstsG κ n) (hg : g ∈ firstsG κ n) (h : κ f = κ g) : f = g := by
 rw [firstsG_mem] at hf hg
 rcases Nat.lt_trichotomy f g with q | q | q
 ·
  exact absurd h (hg.2 f q)
 ·
  exact q
 ·
  exact absurd h.symm (hf.2 g q)
theorem firstsG_has {κ : Nat → List VT} : ∀ i n, i < n → ∃ f ∈ firstsG κ n, κ f = κ i ∧ f ≤ i := by
 intro i
 induction i using Nat.strongRecOn with
 | ind i ih =>
  intro n hi
  by_cases h : ∀ j, j < i → κ j ≠ κ i
  ·
   exact ⟨i, firstsG_mem.2 ⟨hi, h⟩, rfl, Nat.le_refl _⟩
  ·
   obtain ⟨j, hj⟩ := Classical.not_forall.1 h
   obtain ⟨hj, he⟩ := Classical.not_imp.1 hj
   obtain ⟨f, h1, h2, h3⟩ := ih j hj n (by omega)
   exact ⟨f, h1, h2.trans (Classical.not_not.1 he), by omega⟩
theorem rowsG_none {κ : Nat → List VT} {n f : Nat} (h : ∀ j, j < n → κ j ≠ κ f) : rowsG κ n f = [] := by
 unfold rowsG
 rw [List.filter_eq_nil_iff]
 intro j hj
 have := h j (by simpa using hj)
 simpa using this
/-- A group's first row is the one that it is told by. -/
theorem rowsG_head {κ : Nat → List VT} {f : Nat} (h : ∀ j, j < f → κ j ≠ κ f) : ∀ n, f < n → ∃ r, rowsG κ n f = f :: r := by
 intro n
 induction n with
 | zero => intro hf; omega
 | succ n ih =>
  intro hf
  rw [rowsG_succ]
  by_cases e : f = n
  ·
   subst e
   rw [rowsG_none h, if_pos rfl]
   exact ⟨[], rfl⟩
  ·
   obtain ⟨r, hr⟩ := ih (by omega)
   rw [hr]
   exact ⟨_, rfl⟩
theorem rowsG_start {κ : Nat → List VT} {n : Nat} (h : ∀ j, j < n → κ j ≠ κ n) : rowsG κ (n + 1) n = [n] := by
 rw [rowsG_succ, rowsG_none h, if_pos rfl]
 rfl
theorem firstsG_old {κ : Nat → List VT} {n f : Nat} (hf : f ∈ firstsG κ n) (h : κ f = κ n) : firstsG κ (n + 1) = firstsG κ n := by
 have := (firstsG_mem.1 hf).1
 rw [firstsG_succ, if_neg (fun q => q f this h), List.append_nil]
theorem firstsG_new {κ : Nat → List VT} {n : Nat} (h : ∀ f ∈ firstsG κ n, κ f ≠ κ n) : firstsG κ (n + 1) = firstsG κ n ++ [n] ∧ ∀ j, j < n → κ j ≠ κ n := by
 have h2 : ∀ j, j < n → κ j ≠ κ n := fun j hj e => by
  obtain ⟨f, h1, h2, h3⟩ := firstsG_has (κ := κ) j n hj
  exact h f h1 (h2.trans e)
 rw [firstsG_succ, if_pos h2]
 exact ⟨rfl, h2⟩

theorem order_one {α : Type} {less : α → α → Bool} (asym : ∀ a b, less a b = true → less b a = true → False) {l m : List α} (hl : l.Pairwise fun a b => less a b = true) (hm : m.Pairwise fun a b => less a b = true) (p : l.Perm m) : l = m :=
 List.Perm.eq_of_pairwise (fun a b _ _ h1 h2 => (asym a b h1 h2).elim) hl hm p

/-- The cells of a row in some columns. -/
def keyG (l : List VT) (c : Nat) (cols : List Nat) (row : Nat) : List VT := cols.map fun j => cel l (row * c + (j - 1))
theorem keyG_length (l : List VT) (c : Nat) (cols : List Nat) (row : Nat) : (keyG l c cols row).length = cols.length := by simp [keyG]
theorem keyG_good {l : List VT} (h : ∀ e ∈ l, e.good = true) (c : Nat) (cols : List Nat) (row : Nat) : ∀ e ∈ keyG l c cols row, e.good = true := by
 intro e he
 unfold keyG at he
 obtain ⟨j, _, rfl⟩ := List.mem_map.1 he
 exact cel_good h _
/-- A row's key: what is the same for rows of one group. -/
def kapG (l : List VT) (c : Nat) (cols : List Nat) (row : Nat) : List VT := (keyG l c cols row).map nrm
/-- The order of groups, told by their first rows. -/
def lessG (l : List VT) (c : Nat) (cols : List Nat) (x y : Nat) : Bool := decide (lexG (keyG l c cols x) (keyG l c cols y) < 0)
theorem lessG_asym {l : List VT} (h : ∀ e ∈ l, e.good = true) (c : Nat) (cols : List Nat) (x y : Nat) (h1 : lessG l c cols x y = true) (h2 : lessG l c cols y x = true) : False := by
 unfold lessG at *
 have h1 := of_decide_eq_true h1
 have h2 := of_decide_eq_true h2
 have s := lexG_swap _ _ (keyG_good h c cols x) (keyG_good h c cols y)
 omega
theorem lessG_tot {l : List VT} (h : ∀ e ∈ l, e.good = true) (c : Nat) (cols : List Nat) (x y : Nat) (hk : kapG l c cols x ≠ kapG l c cols y) : lessG l c cols x y = true ∨ lessG l c cols y x = true := by
 have gx := keyG_good h c cols x
 have gy := keyG_good h c cols y
 have s := lexG_swap _ _ gx gy
 have z : lexG (keyG l c cols x) (keyG l c cols y) ≠ 0 := fun e => hk ((lexG_zero _ _ gx gy).1 e)
 unfold lessG
 by_cases q : lexG (keyG l c cols x) (keyG l c cols y) < 0
 ·
  exact Or.inl (decide_eq_true q)
 ·
  exact Or.inr (decide_eq_true (by omega))
/-- All groups in order, told by their first rows. -/
def OrdG (l : List VT) (c : Nat) (cols : List Nat) (n : Nat) (L : List Nat) : Prop := L.Perm (firstsG (kapG l c cols) n) ∧ L.Pairwise fun a b => lessG l c cols a b = true
theorem OrdG.one {l : List VT} (h : ∀ e ∈ l, e.good = true) {c : Nat} {cols : List Nat} {n : Nat} {L M : List Nat} (hL : OrdG l c cols n L) (hM : OrdG l c cols n M) : L = M :=
 order_one (fun a b => lessG_asym h c cols a b) hL.2 hM.2 (hL.1.trans hM.1.symm)

/-- What a number of the machine is. -/
abbrev InJ (a : Int) : Prop := -9223372036854775808 ≤ a ∧ a ≤ 9223372036854775807
/-- A value that can be a key. -/
def InK (e : VT) : Prop := InJ e.k ∧ InJ e.d ∧ InJ e.x ∧ e.t.length ≤ 2000000
/-- A group: where its row of numbers lies, and what it holds. -/
structure GE where
 g : Nat
 cp : Nat
 ns : List Nat
abbrev GE.sl (e : GE) : Value := .slice (some ⟨e.g, 0, none⟩) e.ns.length e.cp
def glR (v : Value) : Option (DataW Unit × List MemPlace) := match v with
 | .slice none 0 0 => some (.nil, [])
 | .slice (some ⟨g, 0, none⟩) n c => some (.agg [.lit (.int .i64 g), .lit (.int .i64 n), .lit (.int .i64 c)], [])
 | _ => none
def GE.d (e : GE) : DataW Unit := .agg [.lit (.int .i64 e.g), .lit (.int .i64 e.ns.length), .lit (.int .i64 e.cp)]
theorem glR_of (e : GE) : glR e.sl = some (e.d, []) := rfl
theorem glR_inv {v : Value} {y : DataW Unit × List MemPlace} (h : glR v = some y) : (v = .slice none 0 0 ∧ y = (.nil, [])) ∨ ∃ g n c, v = .slice (some ⟨g, 0, none⟩) n c ∧ y = (.agg [.lit (.int .i64 (g : Nat)), .lit (.int .i64 (n : Nat)), .lit (.int .i64 (c : Nat))], []) := by
 unfold glR at h
 split at h
 ·
  cases h; exact Or.inl ⟨rfl, rfl⟩
 ·
  cases h; exact Or.inr ⟨_, _, _, rfl, rfl⟩
 ·
  cases h
set_option maxRecDepth 20000 in
theorem zero_ints (w : World) : (zeroValue 25).run Tryz.prog w = .ok (.slice none 0 0) w := by
 first | rfl | kernel_rfl | (simp [zeroValue, Tryz.underlying25, go_sem])
theorem inK_nrm {e : VT} (hg : e.good = true) (hr : e.room) : InK (nrm e) := by
 obtain ⟨k, n, d, x, t⟩ := e
 obtain ⟨h1, h2, h3⟩ := hr
 have hg' : goodV k n d x t = true := hg
 simp only at h1 h2 h3
 refine ⟨?_, ⟨h2, h3⟩, ?_, ?_⟩
 ·
  show InJ k
  rcases goodV_kinds hg' with h | h | h | ⟨h, _⟩ | ⟨h, _⟩ <;> (subst h; exact ⟨by omega, by omega⟩)
 ·
  show InJ x
  by_cases hk : k = 1
  ·
   subst hk
   obtain ⟨g, _⟩ := goodV_num hg'
   unfold goodB at g
   split at g
   ·
    simp at g; rw [g.2]; exact ⟨by omega, by omega⟩
   ·
    have := of_decide_eq_true g
    exact ⟨by omega, by omega⟩
  ·
   obtain ⟨_, _, h⟩ := goodV_zero hg' hk
   rw [h]; exact ⟨by omega, by omega⟩
 ·
  show (t.map upC).length ≤ 2000000
  rw [List.length_map]; exact h1

theorem app_srcG {P : Program} (w : World) (base : Nat) (t tx ty e : TypeId) (i : TypeInfo) (z : Value) (ht : P.underlying t = some (.slice e)) (hi : P.info? e = some i) (hz : i.zero = some z)
  (sz : Nat) (hsize : i.size = sz) (hby : i.bytes ≤ 64) (hzs : z.cells.size = sz) (v : Value) (n : Nat) (xs : List Value) (hown : w.ownsRow base e sz v n xs) (x : Value) (m : Nat) (news : List Value) (hs : Src P sz tx x m news w)
  (hnm : n + m ≤ 1000000000) (hbase : base ≤ w.heap.size) :
  ∃ v' w', (Builtin.append_ #[t, tx] ty #[v, x]).run P w = .ok v' w' ∧ w'.ownsRow base e sz v' (n + m) (xs ++ news) ∧ w.grownBy w' v.ownBlock ∧ (v'.ownBlock = v.ownBlock ∨ v'.ownBlock = some w.heap.size) := by
 have hs' : Src P i.size tx x m news w := by rw [hsize]; exact hs
 have hml : n + m ≤ maxLen := by simp only [maxLen]; omega
 have hlen : (xs ++ news).length = (n + m) * sz := by rw [List.length_append, hown.1, hs.newsLen, Nat.add_mul]
 have grown : ∀ (old : Nat) (row : Option Nat),
   (w.drew.alloc (.cells ((xs ++ news).toArray ++ Builtin.zeroCells z.cells (grownCap w (n + m) old e - (n + m))) e)).ownsRow base e sz (.slice (some ⟨w.heap.size, 0, none⟩) (n + m) (grownCap w (n + m) old e)) (n + m) (xs ++ news) ∧
   w.grownBy (w.drew.alloc (.cells ((xs ++ news).toArray ++ Builtin.zeroCells z.cells (grownCap w (n + m) old e - (n + m))) e)) row := by
  intro old row
  have hge := grownCap_ge w (n + m) old e
  refine ⟨⟨hlen, .inr ⟨w.heap.size, _, _, rfl, hbase, heap_alloc_new w.drew _, hge, grownCap_le_maxLen w (n + m) old e hml, ?_, ?_⟩⟩, ⟨rfl, rfl, rfl, by simp, fun k hk _ => heap_alloc_old w.drew _ hk⟩⟩
  ·
   rw [Array.size_append, List.size_toArray, size_zeroCells, hzs, hlen, ← Nat.add_mul]
   congr 1
   omega
  ·
   rw [Array.toList_append, ← hlen]
   exact List.take_left
 rcases hown.2 with ⟨rfl, rfl⟩ | ⟨g, cap, cur, rfl, hbg, hg, hnc, hcm, hcs, htake⟩
 ·
  have hx : xs = [] := List.eq_nil_of_length_eq_zero (by have := hown.1; rw [Nat.zero_mul] at this; exact this)
  subst hx
  by_cases hm : m = 0
  ·
   subst hm
   have hn : news = [] := List.eq_nil_of_length_eq_zero (by have := hs.newsLen; rw [Nat.zero_mul] at this; exact this)
   subst hn
   exact ⟨_, _, run_append_nothing w t tx ty e i ht hi none 0 0 (Nat.le_refl _) x hs', World.ownsRow_nil w base e sz, ⟨rfl, rfl, rfl, Nat.le_refl _, fun _ _ _ => rfl⟩, Or.inl rfl⟩
  ·
   have hr := run_append_grow_src (P := P) w t tx ty e i z ht hi hz none 0 0 [] (run_firstCells_none w.drew i.size 0 0 0) x m news hs' (by omega) (by omega) (growslice_fits (by omega) (by have := Nat.mul_le_mul hnm hby; omega))
   have hgr := grown 0 (Value.ownBlock (.slice none 0 0))
   exact ⟨_, _, hr, hgr.1, hgr.2, Or.inr rfl⟩
 ·
  by_cases hroom : n + m ≤ cap
  ·
   have hfit : n * i.size + news.length ≤ cur.size := by rw [hs'.newsLen, hcs, hsize, ← Nat.add_mul]; exact Nat.mul_le_mul_right _ hroom
   have hst := run_storeCells_at P g (n * i.size) e news 0 cur w hg (by simpa using hfit) hs.one
   simp only [Nat.add_zero] at hst
   have hr : (Builtin.append_ #[t, tx] ty #[.slice (some ⟨g, 0, none⟩) n cap, x]).run P w = .ok (.slice (some ⟨g, 0, none⟩) (n + m) cap) (w.setRow g (cur.toList.take (n * i.size) ++ news ++ cur.toList.drop (n * i.size + news.length)).toArray) := by
    rcases hs'.kind with ⟨e', hk⟩ | hk <;> simp [Builtin.append_, run_underlying ht, run_underlying hk, sizeOf, typeInfo, hi, hs'.len, hroom, hs'.cells, Addr.add_lit, hst]
   refine ⟨_, _, hr, ⟨hlen, .inr ⟨g, cap, _, rfl, hbg, setRow_heap w g cur _ e _ hg, hroom, hcm, ?_, ?_⟩⟩, ⟨rfl, rfl, rfl, by simp, fun k _ hk => setRow_other w g k _ (fun e => hk (by simp [Value.ownBlock, e]))⟩, Or.inl rfl⟩
   ·
    simp only [List.size_toArray, List.length_append, List.length_take, List.length_drop, Array.length_toList]
    omega
   ·
    rw [hsize, htake, ← hlen]
    exact List.take_left
  ·
   have holds : ∀ j u, xs[j]? = some u → w.cell? ((⟨g, 0, none⟩ : Addr).add j) = some u := hown.cells (g := g) rfl
   have hr := run_append_grow_src (P := P) w t tx ty e i z ht hi hz (some ⟨g, 0, none⟩) n cap xs (run_firstCells_some (P := P) w.drew i.size n ⟨g, 0, none⟩ n cap xs (by rw [hsize]; exact hown.1) (by simpa using holds)) x m news hs' (by omega) (by omega) (growslice_fits (by omega) (by have := Nat.mul_le_mul hnm hby; omega))
   have hgr := grown cap (Value.ownBlock (.slice (some ⟨g, 0, none⟩) n cap))
   exact ⟨_, _, hr, hgr.1, hgr.2, Or.inr rfl⟩

theorem ownI_far {w w' : World} {base : Nat} {v : Value} {l : List Nat} {row : Option Nat} (h : OwnI w base v l) (hg : w.grownBy w' row) (hr : ∀ k, v.ownBlock = some k → some k ≠ row) : OwnI w' base v l := by
 refine ⟨h.1, h.2.imp id ?_⟩
 rintro ⟨g, cap, cur, h1, h2, h3, h4⟩
 have hlt : g < w.heap.size := by
  rcases Nat.lt_or_ge g w.heap.size with h' | h'
  ·
   exact h'
  ·
   rw [Array.getElem?_eq_none h'] at h3; cases h3
 exact ⟨g, cap, cur, h1, h2, by rw [hg.block g hlt (hr g (by rw [h1]; rfl))]; exact h3, h4⟩
end Go.Proofs.YtgpfddneablcpaaGreatDoor

