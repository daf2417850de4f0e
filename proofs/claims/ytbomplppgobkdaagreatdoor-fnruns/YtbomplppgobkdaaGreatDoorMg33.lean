/-
  Several texts in one: E1, E2, Qf, Qg, Ru0.
-/
import Derived.Test.YtbomplppgobkdaaGreatDoorMg32
import Derived.Test.YtbomplppgobkdaaGreatDoorMg31
namespace Go.Proofs.YtbomplppgobkdaaGreatDoor
open Go.RowKit

/-- How two cells stand to each other, errors told apart. -/
def rankB (a b : VT) : Int := if a.k = 4 ∧ b.k = 4 then Lib.compareBytes a.t b.t else standB a b 1
theorem rank_swap {a b : VT} (ga : a.good = true) (gb : b.good = true) : rankB b a = -rankB a b := by
  unfold rankB
  by_cases h : a.k = 4 ∧ b.k = 4
  · rw [if_pos h, if_pos ⟨h.2, h.1⟩]
    exact bytesQ_swap _ _
  · rw [if_neg h, if_neg (fun q => h ⟨q.2, q.1⟩)]
    exact stand_swap ga gb 1
theorem late_err {e : VT} : lateV e = 2 ↔ e.k = 4 := by
  unfold lateV
  by_cases h0 : e.k = 0
  · rw [if_pos h0]
    omega
  · rw [if_neg h0]
    by_cases h4 : e.k = 4
    · simp [h4]
    · simp [h4]
theorem late_none {e : VT} : lateV e = 1 ↔ e.k = 0 := by
  unfold lateV
  by_cases h0 : e.k = 0
  · simp [h0]
  · rw [if_neg h0]
    by_cases h4 : e.k = 4
    · simp [h4]
    · simp [h4, h0]
theorem late_le (e : VT) : 0 ≤ lateV e ∧ lateV e ≤ 2 := by unfold lateV; split <;> (try split) <;> omega
theorem stand_late {a b : VT} (h : standB a b 1 ≤ 0) : lateV a ≤ lateV b := by
  unfold standB at h
  by_cases q : lateV a ≠ lateV b ∨ lateV a ≠ 0
  · rw [if_pos q, cmpI_le] at h
    exact h
  · omega
theorem rank_late {a b : VT} (h : rankB a b ≤ 0) : lateV a ≤ lateV b := by
  unfold rankB at h
  by_cases q : a.k = 4 ∧ b.k = 4
  · rw [late_err.2 q.1, late_err.2 q.2]
    omega
  · rw [if_neg q] at h
    exact stand_late h
theorem rank_trans {a b c : VT} (ga : a.good = true) (gb : b.good = true) (gc : c.good = true) (h : rankB a b ≤ 0) (k : rankB b c ≤ 0) : rankB a c ≤ 0 := by
  have l1 := rank_late h
  have l2 := rank_late k
  have la := late_le a
  have lb := late_le b
  have lc := late_le c
  unfold rankB at h k ⊢
  by_cases q : a.k = 4 ∧ c.k = 4
  · have qb : b.k = 4 := late_err.1 (by have := late_err.2 q.1; omega)
    rw [if_pos ⟨q.1, qb⟩] at h
    rw [if_pos ⟨qb, q.2⟩] at k
    rw [if_pos q]
    exact bytesQ_trans _ _ _ h k
  · rw [if_neg q]
    have na : a.k ≠ 4 := fun e => q ⟨e, late_err.1 (by have := late_err.2 e; omega)⟩
    rw [if_neg (fun z => na z.1)] at h
    by_cases q2 : b.k = 4 ∧ c.k = 4
    · have h2 := late_err.2 q2.2
      have h3 : lateV a ≠ 2 := fun e => na (late_err.1 e)
      unfold standB
      rw [if_pos (Or.inl (by omega)), cmpI_le]
      omega
    · rw [if_neg q2] at k
      exact stand_trans ga gb gc (Or.inl rfl) h k
theorem cmpR_zero {k : Int} {n : Bool} {d x : Int} {t : List UInt8} {k' : Int} {n' : Bool} {d' x' : Int} {t' : List UInt8} (h : cmpR k n d x t k' n' d' x' t' = 0) : k = k' := by
  by_cases hk : k = k'
  · exact hk
  · unfold cmpR at h
    rw [if_pos hk] at h
    by_cases h1 : k < k'
    · rw [if_pos h1] at h; omega
    · rw [if_neg h1] at h; omega
/-- Cells that stand nowhere are the same. -/
theorem rank_zero {a b : VT} (ga : a.good = true) (gb : b.good = true) : rankB a b = 0 ↔ nrm a = nrm b := by
  have ga' : goodV a.k a.n a.d a.x a.t = true := ga
  have gb' : goodV b.k b.n b.d b.x b.t = true := gb
  have LN := like_nrm ga gb
  unfold rankB
  by_cases q : a.k = 4 ∧ b.k = 4
  · rw [if_pos q, bytes_zero, ← LN]
    unfold likeB sameQ
    rw [if_pos q.1]
    obtain ⟨z1, z2, z3⟩ := goodV_zero ga' (by omega)
    obtain ⟨y1, y2, y3⟩ := goodV_zero gb' (by omega)
    rw [z1, z2, z3, y1, y2, y3, q.1, q.2]
    simp
  · rw [if_neg q]
    constructor
    · intro h
      unfold standB at h
      by_cases hl : lateV a ≠ lateV b ∨ lateV a ≠ 0
      · rw [if_pos hl, cmpI_zero] at h
        have la := late_le a
        have h1 : lateV a = 1 := by
          rcases (by omega : lateV a = 1 ∨ lateV a = 2) with e | e
          · exact e
          · exact absurd ⟨late_err.1 e, late_err.1 (h ▸ e)⟩ q
        have ka := late_none.1 h1
        have kb := late_none.1 (h ▸ h1)
        obtain ⟨k, n, d, x, t⟩ := a
        obtain ⟨k', n', d', x', t'⟩ := b
        simp only at ka kb ga' gb'
        subst ka kb
        obtain ⟨rfl, rfl, rfl⟩ := goodV_zero ga' (by decide)
        obtain ⟨rfl, rfl, rfl⟩ := goodV_zero gb' (by decide)
        obtain rfl := goodV_empty ga'
        obtain rfl := goodV_empty gb'
        rfl
      · rw [if_neg hl, Int.mul_one] at h
        have e := h
        rw [cmpQ_is ga gb (by omega) (by omega)] at e
        refine LN.1 ?_
        unfold likeB
        rw [if_neg (fun e4 => by have := late_err.2 e4; omega), cmpR_zero e, h]
        simp
    · intro h
      have hk : a.k = b.k := by
        have e := congrArg VT.k h
        exact e
      have n4 : a.k ≠ 4 := fun e => q ⟨e, hk ▸ e⟩
      have hll : lateV a = lateV b := by unfold lateV; rw [hk]
      unfold standB
      by_cases hl : lateV a ≠ lateV b ∨ lateV a ≠ 0
      · rw [if_pos hl, cmpI_zero]
        exact hll
      · rw [if_neg hl]
        have := LN.2 h
        unfold likeB at this
        rw [if_neg n4] at this
        have h2 : cmpQ a b = 0 := by
          rw [Bool.and_eq_true] at this
          exact of_decide_eq_true this.2
        rw [h2]
        rfl
/-- How two lists of cells stand to each other. -/
def lexG : List VT → List VT → Int
  | [], [] => 0
  | [], _ :: _ => -1
  | _ :: _, [] => 1
  | a :: x, b :: y => if rankB a b ≠ 0 then rankB a b else lexG x y
theorem lexG_swap : ∀ (a b : List VT), (∀ e ∈ a, e.good = true) → (∀ e ∈ b, e.good = true) → lexG b a = -lexG a b
  | [], [], _, _ => rfl
  | [], _ :: _, _, _ => rfl
  | _ :: _, [], _, _ => rfl
  | x :: a, y :: b, ha, hb => by
    unfold lexG
    rw [rank_swap (ha x (by simp)) (hb y (by simp)), lexG_swap a b (fun e h => ha e (by simp [h])) (fun e h => hb e (by simp [h]))]
    by_cases h0 : rankB x y = 0
    · rw [if_neg (by omega), if_neg (by omega)]
    · rw [if_pos (by omega), if_pos h0]
theorem lexG_trans : ∀ (a b c : List VT), (∀ e ∈ a, e.good = true) → (∀ e ∈ b, e.good = true) → (∀ e ∈ c, e.good = true) → lexG a b ≤ 0 → lexG b c ≤ 0 → lexG a c ≤ 0
  | [], _, [], _, _, _, _, _ => Int.le_refl _
  | [], _, _ :: _, _, _, _, _, _ => (by decide : (-1 : Int) ≤ 0)
  | _ :: _, [], _, _, _, _, h, _ => absurd h (by decide : ¬ (1 : Int) ≤ 0)
  | _ :: _, _ :: _, [], _, _, _, _, h => absurd h (by decide : ¬ (1 : Int) ≤ 0)
  | x :: a, y :: b, z :: c, ga, gb, gc, h1, h2 => by
    have gx := ga x (by simp)
    have gy := gb y (by simp)
    have gz := gc z (by simp)
    have ih := lexG_trans a b c (fun e h => ga e (by simp [h])) (fun e h => gb e (by simp [h])) (fun e h => gc e (by simp [h]))
    unfold lexG at h1 h2 ⊢
    have a1 := rank_swap gx gy
    have a2 := rank_swap gy gz
    have a3 := rank_swap gx gz
    have t1 := rank_trans gx gy gz
    have t2 := rank_trans gz gx gy
    have t3 := rank_trans gy gz gx
    have t6 := rank_trans gz gy gx
    rw [a3] at t2 t3
    rw [a2] at t2 t6
    rw [a1] at t3 t6
    rw [a3] at t6
    generalize rankB x y = A at *
    generalize rankB y z = B at *
    generalize rankB x z = C at *
    by_cases hA : A = 0
    · rw [if_neg (by omega)] at h1
      by_cases hB : B = 0
      · rw [if_neg (by omega)] at h2
        have c1 := t1 (by omega) (by omega)
        have c2 := t6 (by omega) (by omega)
        rw [if_neg (by omega)]
        exact ih h1 h2
      · rw [if_pos hB] at h2
        have c1 := t1 (by omega) h2
        by_cases hC : C = 0
        · have := t2 (by omega) (by omega)
          omega
        · rw [if_pos hC]
          exact c1
    · rw [if_pos hA] at h1
      have h2' : B ≤ 0 := by
        by_cases hB : B = 0
        · omega
        · rw [if_pos hB] at h2
          exact h2
      have c1 := t1 h1 h2'
      by_cases hC : C = 0
      · have := t3 h2' (by omega)
        omega
      · rw [if_pos hC]
        exact c1
theorem lexG_zero : ∀ (a b : List VT), (∀ e ∈ a, e.good = true) → (∀ e ∈ b, e.good = true) → (lexG a b = 0 ↔ a.map nrm = b.map nrm)
  | [], [], _, _ => by simp [lexG]
  | [], _ :: _, _, _ => by simp [lexG]
  | _ :: _, [], _, _ => by simp [lexG]
  | x :: a, y :: b, ga, gb => by
    have R := rank_zero (ga x (by simp)) (gb y (by simp))
    have ih := lexG_zero a b (fun e h => ga e (by simp [h])) (fun e h => gb e (by simp [h]))
    unfold lexG
    simp only [List.map_cons, List.cons.injEq]
    by_cases h0 : rankB x y = 0
    · rw [if_neg (by omega), ih]
      exact ⟨fun h => ⟨R.1 h0, h⟩, fun h => h.2⟩
    · rw [if_pos h0]
      exact ⟨fun h => absurd h h0, fun h => absurd (R.2 h.1) h0⟩

instance decVT : DecidableEq VT := fun a b =>
  decidable_of_iff (a.k = b.k ∧ a.n = b.n ∧ a.d = b.d ∧ a.x = b.x ∧ a.t = b.t) (by cases a; cases b; simp)
/-- The rows whose key no row ahead of them has. -/
def firstsG (κ : Nat → List VT) (n : Nat) : List Nat := (List.range n).filter fun i => (List.range i).all fun j => decide (κ j ≠ κ i)
/-- The rows of one key. -/
def rowsG (κ : Nat → List VT) (n f : Nat) : List Nat := (List.range n).filter fun j => decide (κ j = κ f)
theorem firstsG_mem {κ : Nat → List VT} {n f : Nat} : f ∈ firstsG κ n ↔ f < n ∧ ∀ j, j < f → κ j ≠ κ f := by
  unfold firstsG
  simp [List.mem_filter]
theorem firstsG_succ (κ : Nat → List VT) (n : Nat) : firstsG κ (n + 1) = firstsG κ n ++ (if ∀ j, j < n → κ j ≠ κ n then [n] else []) := by
  unfold firstsG
  rw [List.range_succ, List.filter_append]
  congr 1
  by_cases h : ∀ j, j < n → κ j ≠ κ n
  · rw [if_pos h]
    have : ((List.range n).all fun j => decide (κ j ≠ κ n)) = true := by simpa using h
    rw [List.filter_cons, if_pos this]
    rfl
  · rw [if_neg h]
    have : ¬ ((List.range n).all fun j => decide (κ j ≠ κ n)) = true := by simpa using h
    rw [List.filter_cons, if_neg this]
    rfl
theorem rowsG_succ (κ : Nat → List VT) (n f : Nat) : rowsG κ (n + 1) f = rowsG κ n f ++ (if κ n = κ f then [n] else []) := by
  unfold rowsG
  rw [List.range_succ, List.filter_append]
  congr 1
  by_cases h : κ n = κ f
  · rw [if_pos h, List.filter_cons, if_pos (decide_eq_true h)]
    rfl
  · rw [if_neg h, List.filter_cons, if_neg (by simpa using h)]
    rfl
theorem rowsG_length (κ : Nat → List VT) (n f : Nat) : (rowsG κ n f).length ≤ n := by
  have := List.length_filter_le (fun j => decide (κ j = κ f)) (List.range n)
  rw [List.length_range] at this
  exact this
theorem firstsG_length (κ : Nat → List VT) (n : Nat) : (firstsG κ n).length ≤ n := by
  have := List.length_filter_le (fun i => (List.range i).all fun j => decide (κ j ≠ κ i)) (List.range n)
  rw [List.length_range] at this
  exact this
theorem firstsG_nodup (κ : Nat → List VT) (n : Nat) : (firstsG κ n).Nodup := List.Nodup.sublist List.filter_sublist List.nodup_range
theorem firstsG_one {κ : Nat → List VT} {n f g : Nat} (hf : f ∈ firstsG κ n) (hg : g ∈ firstsG κ n) (h : κ f = κ g) : f = g := by
  rw [firstsG_mem] at hf hg
  rcases Nat.lt_trichotomy f g with q | q | q
  · exact absurd h (hg.2 f q)
  · exact q
  · exact absurd h.symm (hf.2 g q)
theorem firstsG_has {κ : Nat → List VT} : ∀ i n, i < n → ∃ f ∈ firstsG κ n, κ f = κ i ∧ f ≤ i := by
  intro i
  induction i using Nat.strongRecOn with
  | ind i ih =>
    intro n hi
    by_cases h : ∀ j, j < i → κ j ≠ κ i
    · exact ⟨i, firstsG_mem.2 ⟨hi, h⟩, rfl, Nat.le_refl _⟩
    · obtain ⟨j, hj⟩ := Classical.not_forall.1 h
      obtain ⟨hj, he⟩ := Classical.not_imp.1 hj
      obtain ⟨f, h1, h2, h3⟩ := ih j hj n (by omega)
      exact ⟨f, h1, h2.trans (Classical.not_not.1 he), by omega⟩
theorem rowsG_none {κ : Nat → List VT} {n f : Nat} (h : ∀ j, j < n → κ j ≠ κ f) : rowsG κ n f = [] := by
  unfold rowsG
  rw [List.filter_eq_nil_iff]
  intro j hj
  have := h j (by simpa using hj)
  simpa using this
/-- A group's first row is the one that it is told by. -/
theorem rowsG_head {κ : Nat → List VT} {f : Nat} (h : ∀ j, j < f → κ j ≠ κ f) : ∀ n, f < n → ∃ r, rowsG κ n f = f :: r := by
  intro n
  induction n with
  | zero => intro hf; omega
  | succ n ih =>
    intro hf
    rw [rowsG_succ]
    by_cases e : f = n
    · subst e
      rw [rowsG_none h, if_pos rfl]
      exact ⟨[], rfl⟩
    · obtain ⟨r, hr⟩ := ih (by omega)
      rw [hr]
      exact ⟨_, rfl⟩
theorem rowsG_start {κ : Nat → List VT} {n : Nat} (h : ∀ j, j < n → κ j ≠ κ n) : rowsG κ (n + 1) n = [n] := by
  rw [rowsG_succ, rowsG_none h, if_pos rfl]
  rfl
theorem firstsG_old {κ : Nat → List VT} {n f : Nat} (hf : f ∈ firstsG κ n) (h : κ f = κ n) : firstsG κ (n + 1) = firstsG κ n := by
  have := (firstsG_mem.1 hf).1
  rw [firstsG_succ, if_neg (fun q => q f this h), List.append_nil]
theorem firstsG_new {κ : Nat → List VT} {n : Nat} (h : ∀ f ∈ firstsG κ n, κ f ≠ κ n) : firstsG κ (n + 1) = firstsG κ n ++ [n] ∧ ∀ j, j < n → κ j ≠ κ n := by
  have h2 : ∀ j, j < n → κ j ≠ κ n := fun j hj e => by
    obtain ⟨f, h1, h2, h3⟩ := firstsG_has (κ := κ) j n hj
    exact h f h1 (h2.trans e)
  rw [firstsG_succ, if_pos h2]
  exact ⟨rfl, h2⟩

theorem order_one {α : Type} {less : α → α → Bool} (asym : ∀ a b, less a b = true → less b a = true → False) {l m : List α} (hl : l.Pairwise fun a b => less a b = true) (hm : m.Pairwise fun a b => less a b = true) (p : l.Perm m) : l = m :=
  List.Perm.eq_of_pairwise (fun a b _ _ h1 h2 => (asym a b h1 h2).elim) hl hm p

/-- The cells of a row in some columns. -/
def keyG (l : List VT) (c : Nat) (cols : List Nat) (row : Nat) : List VT := cols.map fun j => cel l (row * c + (j - 1))
theorem keyG_length (l : List VT) (c : Nat) (cols : List Nat) (row : Nat) : (keyG l c cols row).length = cols.length := by simp [keyG]
theorem keyG_good {l : List VT} (h : ∀ e ∈ l, e.good = true) (c : Nat) (cols : List Nat) (row : Nat) : ∀ e ∈ keyG l c cols row, e.good = true := by
  intro e he
  unfold keyG at he
  obtain ⟨j, _, rfl⟩ := List.mem_map.1 he
  exact cel_good h _
/-- A row's key: what is the same for rows of one group. -/
def kapG (l : List VT) (c : Nat) (cols : List Nat) (row : Nat) : List VT := (keyG l c cols row).map nrm
/-- The order of groups, told by their first rows. -/
def lessG (l : List VT) (c : Nat) (cols : List Nat) (x y : Nat) : Bool := decide (lexG (keyG l c cols x) (keyG l c cols y) < 0)
theorem lessG_asym {l : List VT} (h : ∀ e ∈ l, e.good = true) (c : Nat) (cols : List Nat) (x y : Nat) (h1 : lessG l c cols x y = true) (h2 : lessG l c cols y x = true) : False := by
  unfold lessG at *
  have h1 := of_decide_eq_true h1
  have h2 := of_decide_eq_true h2
  have s := lexG_swap _ _ (keyG_good h c cols x) (keyG_good h c cols y)
  omega
theorem lessG_tot {l : List VT} (h : ∀ e ∈ l, e.good = true) (c : Nat) (cols : List Nat) (x y : Nat) (hk : kapG l c cols x ≠ kapG l c cols y) : lessG l c cols x y = true ∨ lessG l c cols y x = true := by
  have gx := keyG_good h c cols x
  have gy := keyG_good h c cols y
  have s := lexG_swap _ _ gx gy
  have z : lexG (keyG l c cols x) (keyG l c cols y) ≠ 0 := fun e => hk ((lexG_zero _ _ gx gy).1 e)
  unfold lessG
  by_cases q : lexG (keyG l c cols x) (keyG l c cols y) < 0
  · exact Or.inl (decide_eq_true q)
  · exact Or.inr (decide_eq_true (by omega))
/-- All groups in order, told by their first rows. -/
def OrdG (l : List VT) (c : Nat) (cols : List Nat) (n : Nat) (L : List Nat) : Prop := L.Perm (firstsG (kapG l c cols) n) ∧ L.Pairwise fun a b => lessG l c cols a b = true
theorem OrdG.one {l : List VT} (h : ∀ e ∈ l, e.good = true) {c : Nat} {cols : List Nat} {n : Nat} {L M : List Nat} (hL : OrdG l c cols n L) (hM : OrdG l c cols n M) : L = M :=
  order_one (fun a b => lessG_asym h c cols a b) hL.2 hM.2 (hL.1.trans hM.1.symm)

/-- What a function value says of a column's rows. -/
structure Takes (w : World) (fi : Nat) (li : Array Value) (L : List VT) (q : Nat → Bool) : Prop where
  ent : ∀ args w, (callFunc fi args).run Tryz.prog w = .ok (.enter fi args) w
  says : ∀ W sv i, Ext w W → ValsIn W sv L → i < L.length → Calls Tryz.prog fi (#[sv, numV i] ++ li) W fun e w' => e = .returned (.bool (q i)) ∧ Ext W w'
set_option maxRecDepth 8000 in
set_option maxHeartbeats 2000000 in
theorem by1I (w : World) (fi : Nat) (li : Array Value) (L : List VT) (q : Nat → Bool) (T : Takes w fi li L q) (bi bc : Nat) (sv : Value) (W : World) (i : Nat) (X : Ext w W) (hV : ValsIn W sv L) (hi : i < L.length)
    (Bi : Vec W bi [.func (.func fi) #[] li]) (Bc : Vec W bc [sv]) :
    Calls Tryz.prog 44 #[numV i, .pointer (some ⟨bi, 0, none⟩), .pointer (some ⟨bc, 0, none⟩)] W fun e w' => e = .returned (.bool (!(q i))) ∧ Ext W w' := by
  have ent := T.ent
  have C0 := T.says W sv i X hV hi
  obtain ⟨R, hR⟩ : ∃ R, q i = R := ⟨_, rfl⟩
  rw [hR] at C0 ⊢
  have a0 := (Bi 0 _ rfl).1
  have b0 := (Bc 0 _ rfl).1
  obtain ⟨p, n, rfl⟩ : ∃ p n, sv = .slice p L.length n := by obtain ⟨p, n, h, _⟩ := hV; exact ⟨p, n, h⟩
  clear hR T hV Bi Bc
  go_enter Tryz.func44, Tryz.ntmps44
  go_wp2_with (go_at_fn fi; refine C0.mono ?_; rintro e w1 ⟨rfl, e1⟩)
  go_ret
  exact ⟨rfl, e1⟩

/-- The rows that are taken. -/
def rowsR (g : Bool) (r c x : Int) (q : Nat → Bool) : List Nat := if g && !decide (x < 1 ∨ c < x) then (List.range r.toNat).filter q else []
theorem rowsR_le {r c x : Int} {l : List VT} {q : Nat → Bool} : (rowsR (goodG r c l) r c x q).length ≤ 2000 := by
  unfold rowsR
  split
  · next h =>
    rw [Bool.and_eq_true] at h
    have := (goodG_all h.1).2.2.1
    have h2 := List.length_filter_le q (List.range r.toNat)
    rw [List.length_range] at h2
    omega
  · exact Nat.zero_le _
/-- An answer of numbers in memory of its own. -/
def AnsI (w w' : World) (v : Value) (l : List Nat) : Prop := NumsAt w' v l ∧ (0 < l.length → ∀ g, v.ownBlock = some g → w.heap.size ≤ g) ∧ Ext w w'
set_option maxRecDepth 8000 in
set_option maxHeartbeats 4000000 in
theorem rowsByI (r c : Int) (v : Value) (l : List VT) (x : Int) (fi : Nat) (li : Array Value) (q : Nat → Bool) (w : World) (h : ValsIn w v l) (hl : l.length ≤ 1048576) (hr : ∀ e ∈ l, e.room) (hT : Tens w) (hE : ErrTab w)
    (x1' : -9223372036854775808 ≤ x) (x2' : x ≤ 9223372036854775807) (T : goodG r c l = true → 1 ≤ x → x ≤ c → Takes w fi li (colL l c.toNat (x.toNat - 1) r.toNat) q) :
    Calls Tryz.prog 15 #[grV r c v, .int .i64 x, .func (.func fi) #[] li] w fun e w' => ∃ ans, e = .returned ans ∧ AnsI w w' ans (rowsR (goodG r c l) r c x q) := by
  obtain ⟨u0, u1, h0, h1, s0, s1, B0, B1, X⟩ := mkB2 w [.int .i64 r, .int .i64 c, v] [.func (.func fi) #[] li] 25 52
  have CG : Hid (∀ W, Ext w W → Calls Tryz.prog 23 #[grV r c v] W fun e w' => e = .returned (.bool (goodG r c l)) ∧ Ext W w') := fun W hW => goodGI r c v l W (h.later hW) (by omega) (fun e he => (hr e he).1) (fun e he => (hr e he).2) (hT.later hW) (hE.later hW)
  have CL := fun W => lacksI r c v x W
  have HV : Hid (ValsIn w v l) := h
  have HT : Hid (goodG r c l = true → 1 ≤ x → x ≤ c → Takes w fi li (colL l c.toNat (x.toNat - 1) r.toNat) q) := T
  have HR : Hid (rowsR (goodG r c l) r c x q = if goodG r c l && !decide (x < 1 ∨ c < x) then (List.range r.toNat).filter q else []) := rfl
  obtain ⟨RR, hRR⟩ : ∃ RR, rowsR (goodG r c l) r c x q = RR := ⟨_, rfl⟩
  rw [hRR] at HR ⊢
  have HG : Hid (goodG r c l = true → gsidesB r c l.length = true ∧ (1 ≤ r ∧ r ≤ 2000) ∧ 1 ≤ c ∧ c ≤ 2000) := fun h => ⟨(goodG_all h).1, (goodG_all h).2.2⟩
  obtain ⟨a0, a1, a2⟩ := Vec.three B0
  obtain ⟨G, hG⟩ : ∃ G, goodG r c l = G := ⟨_, rfl⟩
  rw [hG] at CG HT HR HG
  have C0 := CG.out u1 X
  clear hRR hG T h hT hE CG
  obtain ⟨pv, nv, rfl⟩ : ∃ p n, v = .slice p l.length n := by obtain ⟨p, n, h, _⟩ := HV.out; exact ⟨p, n, h⟩
  cases G
  · have HF : Hid ([] = RR) := by show _ = _; rw [HR.out]; rfl
    go_enter Tryz.func15, Tryz.ntmps15
    go_wp2_with (go_at_call 23; refine C0.mono ?_; rintro e w1 ⟨rfl, e1⟩)
    go_ret
    exact ⟨_, rfl, by rw [← HF.out]; exact ⟨nums_nil _, fun h => absurd h (by simp), xt X e1⟩⟩
  · by_cases hx : x < 1 ∨ c < x
    · have HF : Hid ([] = RR) := by show _ = _; rw [HR.out, decide_eq_true hx]; rfl
      rw [decide_eq_true hx] at CL
      go_enter Tryz.func15, Tryz.ntmps15
      go_wp2_with (first
        | (go_at_call 23; refine C0.mono ?_; rintro e w1 ⟨rfl, e1⟩; obtain ⟨a0, a1, a2⟩ := Vec.three (B0.later e1))
        | (go_at_call 22; refine (CL w1).mono ?_; rintro e w2 ⟨rfl, e2⟩))
      go_ret
      exact ⟨_, rfl, by rw [← HF.out]; exact ⟨nums_nil _, fun h => absurd h (by simp), xt X (xt e1 e2)⟩⟩
    · rw [decide_eq_false hx] at CL
      have hG := HG.out rfl
      have hs : 1 ≤ r ∧ 1 ≤ c ∧ r * c ≤ 2000 ∧ (l.length : Int) = r * c := of_decide_eq_true hG.1
      obtain ⟨r, rfl⟩ := Int.eq_ofNat_of_zero_le (show 0 ≤ r by omega)
      obtain ⟨c, rfl⟩ := Int.eq_ofNat_of_zero_le (show 0 ≤ c by omega)
      obtain ⟨x, rfl⟩ := Int.eq_ofNat_of_zero_le (show 0 ≤ x by omega)
      have hrc : l.length = r * c := by
        have h4 := hs.2.2.2
        have e : ((r * c : Nat) : Int) = (r : Int) * (c : Int) := by simp
        omega
      have hrc2 : l.length ≤ 2000 := by have := hs.2.2.1; omega
      have HF : Hid ((List.range r).filter q = RR) := by show _ = _; rw [HR.out, decide_eq_false hx]; rfl
      have TK := HT.out rfl (by omega) (by omega)
      rw [Int.toNat_natCast, Int.toNat_natCast, Int.toNat_natCast] at TK
      have HK : Hid (Takes w fi li (colL l c (x - 1) r) q) := TK
      have hx1 : ((x : Int) - 1) = ((x - 1 : Nat) : Int) := by omega
      obtain ⟨j, hj⟩ : ∃ j, x - 1 = j := ⟨_, rfl⟩
      rw [hj] at hx1 HK
      have j1 : j < c := by omega
      have r1 : r ≤ 2000 := by omega
      have r0 : 1 ≤ r := by omega
      have CC : Hid (∀ W, Ext w W → Calls Tryz.prog 41 #[grV r c (.slice pv l.length nv), .int .i64 j] W fun e w' => ∃ sv, e = .returned sv ∧ OwnW w' W.heap.size sv (colL l c j r) ∧ Ext W w') := fun W hW => columnI r c _ l j W (HV.out.later hW) hrc hrc2 j1 r1
      clear HT HR HG hG hs hrc hrc2 hl hr
      obtain ⟨N, hN⟩ : ∃ N, l.length = N := ⟨_, rfl⟩
      rw [hN] at CC C0 CL B0 a2 h0 ⊢
      have HVn : Hid (ValsIn w (.slice pv N nv) l) := by rw [← hN]; exact HV.out
      clear HV hN
      go_enter Tryz.func15, Tryz.ntmps15
      go_wp2_with (first
        | (go_at_call 23; refine C0.mono ?_; rintro e w1 ⟨rfl, e1⟩; obtain ⟨a0, a1, a2⟩ := Vec.three (B0.later e1))
        | (go_at_call 22; refine (CL w1).mono ?_; rintro e w2 ⟨rfl, e2⟩; obtain ⟨a0, a1, a2⟩ := Vec.three (B0.later (xt e1 e2)))
        | (go_at_call 41; refine (CC.out w2 (xt X (xt e1 e2))).mono ?_; rintro e w3 ⟨sv, rfl, OW, e3⟩; obtain ⟨ps, ns, cs, rfl⟩ := ownW_slice OW; have c0 := (((B0.later (xt e1 (xt e2 e3))).later (x1 w3 (.cells #[.slice ps ns cs] 23))) 0 _ rfl).1))
      have B3 := vec_made w3 [.slice ps ns cs] 23
      change Vec (w3.alloc (.cells #[.slice ps ns cs] 23)) _ _ at B3
      have X3 := x1 w3 (.cells #[.slice ps ns cs] 23)
      have S3 : (w3.alloc (.cells #[.slice ps ns cs] 23)).heap.size = w3.heap.size + 1 := by rw [World.size_alloc]
      obtain ⟨u3, hu3⟩ : ∃ u, w3.alloc (.cells #[.slice ps ns cs] 23) = u := ⟨_, rfl⟩
      rw [hu3] at B3 X3 S3 ⊢
      clear c0 hu3
      refine (fromI r u3 r1).mono ?_
      rintro e w4 ⟨sw, rfl, OI, e4⟩
      obtain ⟨pr, hpr⟩ : ∃ pr cr, sw = .slice pr r cr := by obtain ⟨p, n, h, _⟩ := ownI_slice OI; rw [List.length_range] at h; exact ⟨p, n, h⟩
      obtain ⟨cr, rfl⟩ := hpr
      obtain ⟨p', cap', hsl, hca, hvv⟩ := ownI_nums OI
      rw [List.length_range] at hsl hca hvv
      cases hsl
      obtain ⟨g, rfl, VG⟩ := hvv (by omega)
      have gb := ownI_block OI g rfl
      have X4 := xt X (xt e1 (xt e2 (xt e3 (xt X3 e4))))
      have sz3 : w3.heap.size ≤ u3.heap.size := by omega
      have RA : RowAt w4 (.slice ps ns cs) r (flatV (colL l c j r)) := by have := RowAt.of_row (ownW_later OW (xt X3 e4)); rwa [colL_length] at this
      have ltS : ∀ z, (Value.slice ps ns cs).ownBlock = some z → z < w3.heap.size := ownW_lt OW
      have Bi4 := B1.later (xt e1 (xt e2 (xt e3 (xt X3 e4))))
      have Bc4 := B3.later e4
      have lw : w.heap.size + 1 < w3.heap.size := by have := (xt e1 (xt e2 e3)).size; omega
      have CD : Hid (Calls Tryz.prog 42 #[.slice (some ⟨g, 0, none⟩) r cr, .func (.func 44) #[] #[.pointer (some ⟨w.heap.size + 1, 0, none⟩), .pointer (some ⟨w3.heap.size, 0, none⟩)]] w4 fun e w' =>
          ∃ m, e = .returned (.slice (some ⟨g, 0, none⟩) m cr) ∧ m = ((List.range r).filter fun x => !!(q x)).length ∧ Vec w' g (((List.range r).filter fun x => !!(q x)).map numV) ∧ w4.grownBy w' (some g)) := by
        have := deleteFI 44 #[.pointer (some ⟨w.heap.size + 1, 0, none⟩), .pointer (some ⟨w3.heap.size, 0, none⟩)] (List.range r) (fun x => !(q x))
          (fun W => Ext w W ∧ RowAt W (.slice ps ns cs) r (flatV (colL l c j r)) ∧ Vec W (w.heap.size + 1) [.func (.func fi) #[] li] ∧ Vec W w3.heap.size [.slice ps ns cs])
          ⟨enters_of Tryz.func44 (by kernel_rfl) rfl, fun W y hW hy => by
            have hyr : y < r := List.mem_range.1 hy
            exact by1I w fi li (colL l c j r) q HK.out _ _ _ W y hW.1 (by have := hW.2.1; rw [show r = (colL l c j r).length by rw [colL_length]] at this; exact RowAt.vals (by simpa [colL_length] using this)) (by rw [colL_length]; exact hyr) hW.2.2.1 hW.2.2.2,
           fun W W' hW hx => ⟨xt hW.1 hx, hW.2.1.later hx, hW.2.2.1.later hx, hW.2.2.2.later hx⟩⟩ g cr w4 VG (by rw [List.length_range]; exact hca) (by rw [List.length_range]; exact r1) ⟨X4, RA, Bi4, Bc4⟩
          (fun W k u hW => ⟨xset hW.1 (p := ⟨g, k, none⟩) (by show _ ≤ g; omega) u, hW.2.1.keep (grown_set (grown_refl W (some g)) u) (fun z _ hz => by have := ltS z hz; intro e; cases e; omega), hW.2.2.1.far (p := ⟨g, k, none⟩) (by show g ≠ _; omega) u, hW.2.2.2.far (p := ⟨g, k, none⟩) (by show g ≠ _; omega) u⟩)
        rw [List.length_range] at this
        exact this
      have HE : Hid (Ext w w4 ∧ w.heap.size ≤ g) := ⟨X4, by omega⟩
      clear VG RA Bi4 Bc4 B3 OI OW
      go_wp2_with fail
      refine CD.out.mono ?_
      rintro e w5 ⟨m, rfl, hm, VM, gM⟩
      have e2' : ((List.range r).filter fun x => !!(q x)) = (List.range r).filter q := by simp
      rw [e2'] at hm VM
      have HA : Hid (AnsI w w5 (.slice (some ⟨g, 0, none⟩) m cr) RR) := by
        have h5 := List.length_filter_le q (List.range r)
        rw [List.length_range] at h5
        refine ⟨⟨_, cr, by rw [← HF.out, hm], by rw [← HF.out]; omega, fun _ => ⟨g, rfl, by rw [← HF.out]; exact VM⟩⟩, fun _ z hz => ?_, HE.out.1.grown gM HE.out.1.size (fun z hz => ?_)⟩
        · cases hz; exact HE.out.2
        · cases hz; exact HE.out.2
      clear VM gM hm
      go_wp2_with fail
      go_ret
      exact ⟨_, rfl, HA.out⟩

/-- A run begins at a row of a column. -/
def runB (L : List VT) (i : Nat) : Bool := decide (i = 0) || !likeB (cel L i) (cel L (i - 1))
set_option maxRecDepth 8000 in
set_option maxHeartbeats 4000000 in
theorem runs1I (v : Value) (L : List VT) (i : Nat) (w : World) (h : ValsIn w v L) (hi : i < L.length) (hl : L.length ≤ 2000) (hr : ∀ e ∈ L, e.room) (hT : Tens w) (hE : ErrTab w) :
    Calls Tryz.prog 16 #[v, numV i] w fun e w' => e = .returned (.bool (runB L i)) ∧ Ext w w' := by
  have h' := h
  obtain ⟨p, cap, rfl, hcap, hrow⟩ := h'
  obtain ⟨b, o, rfl, RW⟩ := hrow (by omega)
  obtain ⟨n, hn⟩ : ∃ n, L.length = n := ⟨_, rfl⟩
  by_cases h0 : i = 0
  · subst h0
    have e : runB L 0 = true := by simp [runB]
    rw [e]
    rw [hn] at hi hl ⊢
    clear h hr hT hE hcap RW hrow
    go_enter Tryz.func16, Tryz.ntmps16
    go_wp2_with fail
    go_quiet (fail)
    go_wp2_with fail
    go_ret
    exact ⟨rfl, ⟨rfl, rfl, rfl, Nat.le_refl _, fun _ _ => rfl⟩⟩
  · obtain ⟨y, hy⟩ : ∃ y, i - 1 = y := ⟨_, rfl⟩
    have e1 := cel_at hi
    have e0 := cel_at (show y < L.length by omega)
    have CL : Hid (∀ W, Ext w W → Calls Tryz.prog 17 #[(cel L i).val, (cel L y).val] W fun e w' => e = .returned (.bool (likeB (cel L i) (cel L y))) ∧ Ext W w') := fun W hW => likeI _ _ W (hr _ (cel_mem hi)) (hr _ (cel_mem (by omega))) (hT.later hW) (hE.later hW)
    have er : runB L i = !likeB (cel L i) (cel L y) := by simp [runB, h0, hy]
    rw [er]
    obtain ⟨R, hR⟩ : ∃ R, likeB (cel L i) (cel L y) = R := ⟨_, rfl⟩
    rw [hR] at CL ⊢
    obtain ⟨⟨k, m, d, x, t⟩, hA⟩ : ∃ A, cel L i = A := ⟨_, rfl⟩
    obtain ⟨⟨k', m', d', x', t'⟩, hB⟩ : ∃ B, cel L y = B := ⟨_, rfl⟩
    rw [hA] at e1 CL
    rw [hB] at e0 CL
    obtain ⟨c0, c1, c2, c3, c4⟩ := RW.five e1
    obtain ⟨d0, d1, d2, d3, d4⟩ := RW.five e0
    rw [hn] at hi hl ⊢
    have i2 : (i : Int) < (n : Int) := by omega
    have i4 : (y : Int) < (n : Int) := by omega
    have iw : IntKind.i64.wrap ((i : Int) - 1) = (y : Int) := by rw [IntKind.wrap_i64]; omega
    have i5 : ((i : Int) == 0) = false := beq_eq_false_iff_ne.2 (by omega)
    clear h hr hT hE hcap RW hrow hR hA hB er e0 e1 h0 hn hy
    go_enter Tryz.func16, Tryz.ntmps16
    go_wp2_with fail
    go_region_held3 (fun w' => w'.cell? ⟨b, o + i * 5, none⟩ = some (.int .i64 k) ∧ w'.cell? ⟨b, o + i * 5 + 1, none⟩ = some (.bool m) ∧ w'.cell? ⟨b, o + i * 5 + 2, none⟩ = some (.int .i64 d) ∧ w'.cell? ⟨b, o + i * 5 + 3, none⟩ = some (.int .i64 x) ∧ w'.cell? ⟨b, o + i * 5 + 4, none⟩ = some (sV t) ∧ w'.cell? ⟨b, o + y * 5, none⟩ = some (.int .i64 k') ∧ w'.cell? ⟨b, o + y * 5 + 1, none⟩ = some (.bool m') ∧ w'.cell? ⟨b, o + y * 5 + 2, none⟩ = some (.int .i64 d') ∧ w'.cell? ⟨b, o + y * 5 + 3, none⟩ = some (.int .i64 x') ∧ w'.cell? ⟨b, o + y * 5 + 4, none⟩ = some (sV t')) (go_keep)
      (first
        | (go_at_call 17; refine (CL.out _ (xd (xr _))).mono ?_; rintro e w' ⟨rfl, E⟩; have Y := xt (xd (xr _)) E; have rc0 := cell_later Y c0; have rc1 := cell_later Y c1; have rc2 := cell_later Y c2; have rc3 := cell_later Y c3; have rc4 := cell_later Y c4; have rd0 := cell_later Y d0; have rd1 := cell_later Y d1; have rd2 := cell_later Y d2; have rd3 := cell_later Y d3; have rd4 := cell_later Y d4))
    all_goals
      go_wp2_with fail
      go_ret
      exact ⟨rfl, Y⟩

theorem colL_room {l : List VT} {c j n : Nat} (h : ∀ e ∈ l, e.room) (hn : ∀ i, i < n → i * c + j < l.length) : ∀ e ∈ colL l c j n, e.room := by
  intro e he
  obtain ⟨i, hi, rfl⟩ := List.getElem_of_mem he
  rw [colL_length] at hi
  have e2 := colL_at l c j n hi
  rw [List.getElem?_eq_getElem (by rw [colL_length]; exact hi)] at e2
  have e3 := Option.some.inj e2
  rw [e3]
  exact h _ (cel_mem (hn i hi))
/-- The rows at which runs begin. -/
def runsR (r c : Int) (l : List VT) (x : Int) : List Nat := rowsR (goodG r c l) r c x (runB (colL l c.toNat (x.toNat - 1) r.toNat))
theorem good_dims {r c : Int} {l : List VT} (h : goodG r c l = true) : ∃ R C : Nat, r = R ∧ c = C ∧ l.length = R * C ∧ R * C ≤ 2000 ∧ 1 ≤ R ∧ 1 ≤ C ∧ R ≤ 2000 ∧ C ≤ 2000 := by
  have hg := goodG_all h
  have hs : 1 ≤ r ∧ 1 ≤ c ∧ r * c ≤ 2000 ∧ (l.length : Int) = r * c := of_decide_eq_true hg.1
  obtain ⟨R, rfl⟩ := Int.eq_ofNat_of_zero_le (show 0 ≤ r by omega)
  obtain ⟨C, rfl⟩ := Int.eq_ofNat_of_zero_le (show 0 ≤ c by omega)
  have e : ((R * C : Nat) : Int) = (R : Int) * (C : Int) := by simp
  refine ⟨R, C, rfl, rfl, ?_, ?_, ?_, ?_, ?_, ?_⟩ <;> omega
set_option maxRecDepth 8000 in
set_option maxHeartbeats 2000000 in
theorem runsI (r c : Int) (v : Value) (l : List VT) (x : Int) (w : World) (h : ValsIn w v l) (hl : l.length ≤ 1048576) (hr : ∀ e ∈ l, e.room) (hT : Tens w) (hE : ErrTab w)
    (x1' : -9223372036854775808 ≤ x) (x2' : x ≤ 9223372036854775807) :
    Calls Tryz.prog 5 #[grV r c v, .int .i64 x] w fun e w' => ∃ ans, e = .returned ans ∧ AnsI w w' ans (runsR r c l x) := by
  have X0 := x1 w (.cells #[.int .i64 r, .int .i64 c, v] 25)
  have B0 := vec_made w [.int .i64 r, .int .i64 c, v] 25
  change Vec (w.alloc (.cells #[.int .i64 r, .int .i64 c, v] 25)) _ _ at B0
  have C0 : Hid (∀ W, Ext w W → Calls Tryz.prog 15 #[grV r c v, .int .i64 x, .func (.func 16) #[] #[]] W fun e w' => ∃ ans, e = .returned ans ∧ AnsI W w' ans (runsR r c l x)) := fun W hW => by
    refine rowsByI r c v l x 16 #[] _ W (h.later hW) hl hr (hT.later hW) (hE.later hW) x1' x2' (fun hg h1 h2 => ⟨enters_of Tryz.func16 (by kernel_rfl) rfl, fun W' sv i hX hV hi => ?_⟩)
    obtain ⟨R, C, rfl, rfl, hlen, h3, h4, h5, h6, h7⟩ := good_dims hg
    rw [Int.toNat_natCast, Int.toNat_natCast] at hV hi ⊢
    exact runs1I sv _ i W' hV hi (by rw [colL_length]; exact h6) (colL_room hr (fun i hi => by rw [hlen]; exact place_lt hi (by omega))) (hT.later (xt hW hX)) (hE.later (xt hW hX))
  obtain ⟨RR, hRR⟩ : ∃ RR, runsR r c l x = RR := ⟨_, rfl⟩
  rw [hRR] at C0 ⊢
  obtain ⟨p, n, rfl⟩ : ∃ p n, v = .slice p l.length n := by obtain ⟨p, n, h, _⟩ := h; exact ⟨p, n, h⟩
  obtain ⟨N, hN⟩ : ∃ N, l.length = N := ⟨_, rfl⟩
  rw [hN] at C0 B0 X0 ⊢
  obtain ⟨a0, a1, a2⟩ := Vec.three B0
  clear h hl hr hT hE hRR hN
  go_enter Tryz.func5, Tryz.ntmps5
  go_wp2_with fail
  refine (C0.out _ X0).mono ?_
  rintro e w1 ⟨ans, rfl, A1, A2, A3⟩
  have HA : Hid (AnsI w w1 ans RR) := ⟨A1, fun h0 g hg => Nat.le_trans X0.size (A2 h0 g hg), xt X0 A3⟩
  obtain ⟨p1, n1, rfl⟩ : ∃ p n, ans = .slice p RR.length n := by obtain ⟨p, n, h, _⟩ := A1; exact ⟨p, n, h⟩
  clear A1 A2 A3 a0 a1 a2
  go_wp2_with fail
  go_ret
  exact ⟨_, rfl, HA.out⟩

/-- Where runs of one class begin. -/
def startsR {γ : Type} [DecidableEq γ] (c : Nat → γ) (n : Nat) : List Nat := (List.range n).filter fun j => decide (j = 0) || !decide (c j = c (j - 1))
theorem starts_mem {γ : Type} [DecidableEq γ] {c : Nat → γ} {n j : Nat} : j ∈ startsR c n ↔ j < n ∧ (j = 0 ∨ c j ≠ c (j - 1)) := by
  unfold startsR
  simp [List.mem_filter]
theorem starts_apart {γ : Type} [DecidableEq γ] {c : Nat → γ} {n : Nat} (h : ∀ i j k, i ≤ j → j ≤ k → k < n → c i = c k → c j = c i) : ((startsR c n).map c).Nodup := by
  have pw : (startsR c n).Pairwise fun a b => a < b := List.Pairwise.filter _ List.pairwise_lt_range
  refine List.pairwise_map.2 (List.Pairwise.imp_of_mem (fun {a b} ha hb hab e => ?_) pw)
  obtain ⟨_, h1⟩ := starts_mem.1 ha
  obtain ⟨h2, h3⟩ := starts_mem.1 hb
  rcases h3 with h3 | h3
  · omega
  · have := h a (b - 1) b (by omega) (by omega) h2 e
    exact h3 (e.symm.trans this.symm)
theorem starts_all {γ : Type} [DecidableEq γ] (c : Nat → γ) (n : Nat) : ∀ i, i < n → ∃ j ∈ startsR c n, c j = c i := by
  intro i
  induction i with
  | zero => intro h; exact ⟨0, starts_mem.2 ⟨h, .inl rfl⟩, rfl⟩
  | succ i ih =>
    intro h
    by_cases e : c (i + 1) = c i
    · obtain ⟨j, h1, h2⟩ := ih (by omega)
      exact ⟨j, h1, h2.trans e.symm⟩
    · exact ⟨i + 1, starts_mem.2 ⟨h, .inr (by rw [Nat.add_sub_cancel]; exact e)⟩, rfl⟩
/-- As many runs as classes, in whatever order the rows stood before. -/
theorem starts_firsts {κ : Nat → List VT} {n : Nat} {S : List Nat} (hS : S.Perm (List.range n)) (h : ∀ i j k, i ≤ j → j ≤ k → k < n → κ (S.getD i 0) = κ (S.getD k 0) → κ (S.getD j 0) = κ (S.getD i 0)) :
    (startsR (fun j => κ (S.getD j 0)) n).length = (firstsG κ n).length := by
  have hl : S.length = n := by rw [hS.length_eq, List.length_range]
  have n1 := starts_apart h
  have n2 : ((firstsG κ n).map κ).Nodup := by
    refine List.pairwise_map.2 (List.Pairwise.imp_of_mem (fun {a b} ha hb hab e => hab ?_) (firstsG_nodup κ n))
    exact firstsG_one ha hb e
  have inS : ∀ j, j < n → S.getD j 0 < n := fun j hj => by
    have : S.getD j 0 ∈ S := by rw [List.getD_eq_getElem?_getD, List.getElem?_eq_getElem (by omega)]; exact List.getElem_mem _
    simpa using hS.mem_iff.1 this
  have p : ((startsR (fun j => κ (S.getD j 0)) n).map fun j => κ (S.getD j 0)).Perm ((firstsG κ n).map κ) := by
    rw [List.perm_ext_iff_of_nodup n1 n2]
    intro q
    constructor
    · intro hq
      obtain ⟨j, hj, rfl⟩ := List.mem_map.1 hq
      obtain ⟨hj, _⟩ := starts_mem.1 hj
      obtain ⟨f, hf, he, _⟩ := firstsG_has (κ := κ) (S.getD j 0) n (inS j hj)
      exact List.mem_map.2 ⟨f, hf, he⟩
    · intro hq
      obtain ⟨f, hf, rfl⟩ := List.mem_map.1 hq
      have hfn := (firstsG_mem.1 hf).1
      obtain ⟨j, hj⟩ := List.mem_iff_getElem?.1 (hS.mem_iff.2 (by simpa using hfn))
      have hjn : j < n := by rw [← hl]; exact (List.getElem?_eq_some_iff.1 hj).1
      have e : S.getD j 0 = f := by rw [List.getD_eq_getElem?_getD, hj]; rfl
      obtain ⟨i, hi, he⟩ := starts_all (fun j => κ (S.getD j 0)) n j hjn
      exact List.mem_map.2 ⟨i, hi, by rw [he, e]⟩
  have := p.length_eq
  rw [List.length_map, List.length_map] at this
  exact this
/-- Runs of rows put in order by a column in which no error stands: as many as groups. -/
theorem runs_groups {l l' : List VT} {R C x : Nat} {S : List Nat} (hg : ∀ e ∈ l, e.good = true) (hS : S.Perm (List.range R)) (hc : ∀ j, j < R → cel l' (j * C + (x - 1)) = cel l (S.getD j 0 * C + (x - 1)))
    (hn : ∀ i, i < R → (cel l (i * C + (x - 1))).k ≠ 4) (hs : S.Pairwise fun a b => standB (cel l (a * C + (x - 1))) (cel l (b * C + (x - 1))) 1 ≤ 0) :
    ((List.range R).filter (runB (colL l' C (x - 1) R))).length = (firstsG (kapG l C [x]) R).length := by
  have hl : S.length = R := by rw [hS.length_eq, List.length_range]
  obtain ⟨V, hV⟩ : ∃ V : Nat → VT, (fun i => cel l (i * C + (x - 1))) = V := ⟨_, rfl⟩
  have hV' : ∀ i, cel l (i * C + (x - 1)) = V i := fun i => by rw [← hV]
  have gV : ∀ i, (V i).good = true := fun i => by rw [← hV']; exact cel_good hg _
  have kap : ∀ i, kapG l C [x] i = [nrm (V i)] := fun i => by unfold kapG keyG; simp [hV']
  have inS : ∀ j, j < R → S.getD j 0 < R := fun j hj => by
    have : S.getD j 0 ∈ S := by rw [List.getD_eq_getElem?_getD, List.getElem?_eq_getElem (by omega)]; exact List.getElem_mem _
    simpa using hS.mem_iff.1 this
  have rk : ∀ i j, i < R → rankB (V i) (V j) = standB (V i) (V j) 1 := fun i j hi => by
    unfold rankB
    rw [if_neg (fun q => hn i hi (by rw [hV']; exact q.1))]
  have le : ∀ i j, i ≤ j → j < R → rankB (V (S.getD i 0)) (V (S.getD j 0)) ≤ 0 := fun i j hij hj => by
    rcases Nat.lt_or_ge i j with q | q
    · have := List.pairwise_iff_getElem.1 hs i j (by omega) (by omega) q
      rw [rk _ _ (inS i (by omega)), List.getD_eq_getElem?_getD, List.getD_eq_getElem?_getD, List.getElem?_eq_getElem (by omega), List.getElem?_eq_getElem (by omega)]
      simp only [Option.getD_some]
      rw [← hV', ← hV']
      exact this
    · have : i = j := by omega
      subst this
      have := (rank_zero (gV (S.getD i 0)) (gV (S.getD i 0))).2 rfl
      omega
  have cont : ∀ i j k, i ≤ j → j ≤ k → k < R → kapG l C [x] (S.getD i 0) = kapG l C [x] (S.getD k 0) → kapG l C [x] (S.getD j 0) = kapG l C [x] (S.getD i 0) := fun i j k hij hjk hk e => by
    rw [kap, kap] at e ⊢
    have e1 : nrm (V (S.getD i 0)) = nrm (V (S.getD k 0)) := by simpa using e
    have r1 := le i j hij (by omega)
    have r2 := le j k hjk hk
    have z := (rank_zero (gV (S.getD k 0)) (gV (S.getD i 0))).2 e1.symm
    have r3 := rank_trans (gV (S.getD j 0)) (gV (S.getD k 0)) (gV (S.getD i 0)) r2 (by omega)
    have sw := rank_swap (gV (S.getD i 0)) (gV (S.getD j 0))
    have z2 : rankB (V (S.getD j 0)) (V (S.getD i 0)) = 0 := by omega
    rw [(rank_zero (gV (S.getD j 0)) (gV (S.getD i 0))).1 z2]
  rw [← starts_firsts hS cont]
  unfold startsR
  congr 1
  apply List.filter_congr
  intro j hj
  have hjR : j < R := by simpa using hj
  unfold runB
  have c1 : ∀ i, i < R → cel (colL l' C (x - 1) R) i = V (S.getD i 0) := fun i hi => by
    have := colL_at l' C (x - 1) R hi
    unfold cel
    rw [List.getD_eq_getElem?_getD, this]
    show cel l' (i * C + (x - 1)) = _
    rw [hc i hi, hV']
  by_cases j0 : j = 0
  · subst j0; simp
  · rw [c1 j hjR, c1 (j - 1) (by omega)]
    show (_ || !likeB _ _) = (_ || !decide (kapG l C [x] (S.getD j 0) = kapG l C [x] (S.getD (j - 1) 0)))
    rw [kap, kap]
    have lk := like_nrm (gV (S.getD j 0)) (gV (S.getD (j - 1) 0))
    have e : likeB (V (S.getD j 0)) (V (S.getD (j - 1) 0)) = decide ([nrm (V (S.getD j 0))] = [nrm (V (S.getD (j - 1) 0))]) := by
      rw [Bool.eq_iff_iff, lk, decide_eq_true_eq, List.cons.injEq]
      exact ⟨fun h => ⟨h, rfl⟩, fun h => h.1⟩
    rw [e]

end Go.Proofs.YtbomplppgobkdaaGreatDoor

