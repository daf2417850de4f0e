/-
  Chapter 9: two lists of what is shown, held against each other: what comes of it, plain.
-/
import Derived.Test.YtbipmeldmgpknaaS8a
namespace Go.Proofs.Ytbipmeldmgpknaa

def aheadB (r c r' c' : Int) : Bool := decide (r < r') || (decide (r = r') && decide (c < c'))
def ST.lt (e f : ST) : Bool := aheadB e.r e.c f.r f.c
def ST.hit (e : ST) (r c : Int) : Bool := decide (e.r = r) && decide (e.c = c)
def ST.like (e f : ST) : Bool := decide (e.k = f.k) && decide (e.n = f.n) && decide (e.d = f.d) && decide (e.x = f.x) && decide (e.t = f.t) && decide (e.q = f.q)
def nullAt (r c : Int) : ST := ⟨r, c, 0, false, 0, 0, [], false⟩
def lookAt (l : List ST) (r c : Int) : ST := (l.find? (fun e => e.hit r c)).getD zeroST
def keepS (x y : ST) : List ST := if x.like y then [] else [y]

theorem lt_iff {e f : ST} : e.lt f = true ↔ e.r < f.r ∨ e.r = f.r ∧ e.c < f.c := by simp [ST.lt, aheadB]
theorem lt_false {e f : ST} : e.lt f = false ↔ ¬ (e.r < f.r ∨ e.r = f.r ∧ e.c < f.c) := by rw [← lt_iff]; simp
theorem hit_iff {e : ST} {r c : Int} : e.hit r c = true ↔ e.r = r ∧ e.c = c := by simp [ST.hit]
theorem hit_false {e : ST} {r c : Int} : e.hit r c = false ↔ ¬ (e.r = r ∧ e.c = c) := by rw [← hit_iff]; simp
theorem like_symm (e f : ST) : e.like f = f.like e := by simp only [ST.like, eq_comm]
theorem like_place {e f g : ST} (h : f.k = g.k ∧ f.n = g.n ∧ f.d = g.d ∧ f.x = g.x ∧ f.t = g.t ∧ f.q = g.q) : e.like f = e.like g := by
  obtain ⟨h1, h2, h3, h4, h5, h6⟩ := h
  simp only [ST.like, h1, h2, h3, h4, h5, h6]

/-- Rising by places, each once. -/
def risB (l : List ST) : Bool := (List.range (l.length - 1)).all fun j => (l.getD j zeroST).lt (l.getD (j + 1) zeroST)
abbrev RisL (l : List ST) : Prop := l.Pairwise fun a b => a.lt b = true
theorem risB_true {l : List ST} (h : ∀ j, j + 1 < l.length → (l.getD j zeroST).lt (l.getD (j + 1) zeroST) = true) : risB l = true := by
  unfold risB
  rw [List.all_eq_true]
  intro j hj
  exact h j (by have := List.mem_range.1 hj; omega)
theorem risB_false {l : List ST} {j : Nat} (hj : j + 1 < l.length) (h : (l.getD j zeroST).lt (l.getD (j + 1) zeroST) = false) : risB l = false := by
  unfold risB
  rw [List.all_eq_false]
  exact ⟨j, List.mem_range.2 (by omega), by rw [h]; simp⟩
theorem lt_trans {a b c : ST} (h1 : a.lt b = true) (h2 : b.lt c = true) : a.lt c = true := by
  rw [lt_iff] at *
  omega
theorem risB_pair {l : List ST} (h : risB l = true) : RisL l := by
  have hs : ∀ j, j + 1 < l.length → (l.getD j zeroST).lt (l.getD (j + 1) zeroST) = true := fun j hj => by
    unfold risB at h
    rw [List.all_eq_true] at h
    exact h j (List.mem_range.2 (by omega))
  have hd : ∀ d i, i + d + 1 < l.length → (l.getD i zeroST).lt (l.getD (i + d + 1) zeroST) = true := by
    intro d
    induction d with
    | zero => intro i hi; exact hs i hi
    | succ d ih => intro i hi; exact lt_trans (ih i (by omega)) (hs (i + d + 1) (by omega))
  rw [RisL, List.pairwise_iff_getElem]
  intro i j hi hj hij
  have := hd (j - i - 1) i (by omega)
  rw [show i + (j - i - 1) + 1 = j by omega] at this
  simpa [List.getD_eq_getElem?_getD, List.getElem?_eq_getElem hi, List.getElem?_eq_getElem hj] using this

/-- The two lists gone through side by side. -/
def diffS : List ST → List ST → List ST
  | [], [] => []
  | a :: az, [] => keepS a (nullAt a.r a.c) ++ diffS az []
  | [], b :: bs => keepS (nullAt b.r b.c) b ++ diffS [] bs
  | a :: az, b :: bs =>
    if b.lt a then keepS (nullAt b.r b.c) b ++ diffS (a :: az) bs
    else if a.lt b then keepS a (nullAt a.r a.c) ++ diffS az (b :: bs)
    else keepS a b ++ diffS az bs
  termination_by a b => a.length + b.length

/-- What the second has otherwise; what is gone of the first. -/
def diffB (a b : List ST) : List ST := b.filter fun n => !n.like (lookAt a n.r n.c)
def leftA (a b : List ST) : List ST := a.filter fun o => !b.any fun n => n.hit o.r o.c
def goneS (l : List ST) : List ST := (l.filter fun o => !(nullAt o.r o.c).like o).map fun o => nullAt o.r o.c

theorem goneS_cons (o : ST) (l : List ST) : goneS (o :: l) = keepS o (nullAt o.r o.c) ++ goneS l := by
  unfold goneS keepS
  rw [List.filter_cons, like_symm]
  cases h : o.like (nullAt o.r o.c) <;> simp
theorem goneS_append (l m : List ST) : goneS (l ++ m) = goneS l ++ goneS m := by simp [goneS]
theorem goneS_perm {l m : List ST} (h : l.Perm m) : (goneS l).Perm (goneS m) := (h.filter _).map _

theorem lookAt_cons (o : ST) (l : List ST) (r c : Int) : lookAt (o :: l) r c = if o.hit r c then o else lookAt l r c := by
  unfold lookAt
  rw [List.find?_cons]
  cases o.hit r c <;> simp
theorem lookAt_none {l : List ST} {r c : Int} (h : ∀ o ∈ l, o.hit r c = false) : lookAt l r c = zeroST := by
  unfold lookAt
  rw [List.find?_eq_none.2 (fun o ho => by rw [h o ho]; simp)]
  rfl
theorem like_zero (e : ST) (r c : Int) : e.like zeroST = e.like (nullAt r c) := like_place ⟨rfl, rfl, rfl, rfl, rfl, rfl⟩
theorem diffB_first {a b : List ST} {n : ST} : diffB a (n :: b) = (if n.like (lookAt a n.r n.c) then [] else [n]) ++ diffB a b := by
  unfold diffB
  rw [List.filter_cons]
  cases n.like (lookAt a n.r n.c) <;> simp
/-- One of the first list that none of the second stands at counts for nothing there. -/
theorem diffB_skip {a b : List ST} {o : ST} (h : ∀ n ∈ b, o.hit n.r n.c = false) : diffB (o :: a) b = diffB a b := by
  unfold diffB
  apply List.filter_congr
  intro n hn
  rw [lookAt_cons, h n hn]
  simp
theorem leftA_skip {a b : List ST} {n : ST} (h : ∀ o ∈ a, n.hit o.r o.c = false) : leftA a (n :: b) = leftA a b := by
  unfold leftA
  apply List.filter_congr
  intro o ho
  rw [List.any_cons, h o ho]
  simp
theorem leftA_cons (o : ST) (a b : List ST) : leftA (o :: a) b = (if b.any fun n => n.hit o.r o.c then [] else [o]) ++ leftA a b := by
  unfold leftA
  rw [List.filter_cons]
  cases b.any fun n => n.hit o.r o.c <;> simp
theorem not_hit_of_lt {a b : ST} (h : a.lt b = true) : a.hit b.r b.c = false ∧ b.hit a.r a.c = false := by
  rw [lt_iff] at h
  constructor <;> rw [hit_false] <;> omega
theorem diffS_nil_left (b : List ST) : diffS [] b = diffB [] b ∧ leftA [] b = [] := by
  refine ⟨?_, rfl⟩
  induction b with
  | nil => rw [diffS]; rfl
  | cons n b ih =>
    rw [diffS, ih, diffB_first, keepS, lookAt_none (by simp), like_zero n n.r n.c, like_symm]
theorem diffS_nil_right (a : List ST) : diffS a [] = goneS a := by
  induction a with
  | nil => rw [diffS]; rfl
  | cons o a ih => rw [diffS, ih, goneS_cons]

theorem diffS_perm : ∀ (a b : List ST), RisL a → RisL b → (diffS a b).Perm (diffB a b ++ goneS (leftA a b))
  | [], b, _, _ => by rw [(diffS_nil_left b).1, (diffS_nil_left b).2]; simp [goneS]
  | a, [], _, _ => by
    rw [diffS_nil_right]
    have : leftA a [] = a := by simp [leftA]
    rw [this]
    simp [diffB]
  | a :: az, b :: bs, ha, hb => by
    obtain ⟨ha1, ha2⟩ := List.pairwise_cons.1 ha
    obtain ⟨hb1, hb2⟩ := List.pairwise_cons.1 hb
    rw [diffS]
    by_cases h1 : b.lt a = true
    · rw [if_pos h1]
      have ih := diffS_perm (a :: az) bs ha hb2
      have hn : ∀ o ∈ a :: az, b.lt o = true := fun o ho => by
        rcases List.mem_cons.1 ho with rfl | ho
        · exact h1
        · exact lt_trans h1 (ha1 o ho)
      rw [diffB_first, lookAt_none (fun o ho => (not_hit_of_lt (hn o ho)).2), leftA_skip (fun o ho => (not_hit_of_lt (hn o ho)).1)]
      unfold keepS
      rw [like_zero b b.r b.c, like_symm (nullAt b.r b.c) b, List.append_assoc]
      exact ih.append_left _
    · rw [if_neg h1]
      by_cases h2 : a.lt b = true
      · rw [if_pos h2]
        have ih := diffS_perm az (b :: bs) ha2 hb
        have hn : ∀ o ∈ b :: bs, a.lt o = true := fun o ho => by
          rcases List.mem_cons.1 ho with rfl | ho
          · exact h2
          · exact lt_trans h2 (hb1 o ho)
        rw [diffB_skip (fun o ho => (not_hit_of_lt (hn o ho)).1), leftA_cons]
        have : ((b :: bs).any fun n => n.hit a.r a.c) = false := by
          rw [List.any_eq_false]
          intro n hn'
          rw [(not_hit_of_lt (hn n hn')).2]
          simp
        rw [this]
        simp only [Bool.false_eq_true, if_false, List.singleton_append]
        rw [goneS_cons]
        refine (ih.append_left _).trans ?_
        rw [← List.append_assoc, ← List.append_assoc]
        exact List.perm_append_comm.append_right _
      · rw [if_neg h2]
        have h1 := lt_false.1 (Bool.eq_false_iff.2 h1)
        have h2 := lt_false.1 (Bool.eq_false_iff.2 h2)
        have er : a.r = b.r := by omega
        have ec : a.c = b.c := by omega
        have hit : a.hit b.r b.c = true := hit_iff.2 ⟨er, ec⟩
        have hit' : b.hit a.r a.c = true := hit_iff.2 ⟨er.symm, ec.symm⟩
        have ih := diffS_perm az bs ha2 hb2
        have n1 : ∀ n ∈ bs, a.hit n.r n.c = false := fun n hn => by
          have := lt_iff.1 (hb1 n hn)
          rw [hit_false]
          omega
        have n2 : ∀ o ∈ az, b.hit o.r o.c = false := fun o ho => by
          have := lt_iff.1 (ha1 o ho)
          rw [hit_false]
          omega
        rw [diffB_first, lookAt_cons, hit, leftA_cons, diffB_skip n1, leftA_skip n2, List.any_cons, hit']
        simp only [if_true, Bool.true_or, List.nil_append]
        unfold keepS
        rw [like_symm a b, List.append_assoc]
        exact ih.append_left _
  termination_by a b => a.length + b.length

theorem keepS_mem {x y e : ST} (h : e ∈ keepS x y) : e = y := by
  unfold keepS at h
  split at h
  · cases h
  · simpa using h
theorem diffS_low : ∀ (a b : List ST) (e : ST), e ∈ diffS a b → ∃ f, (f ∈ a ∨ f ∈ b) ∧ e.r = f.r ∧ e.c = f.c
  | [], [], e, h => by rw [diffS] at h; cases h
  | a :: az, [], e, h => by
    rw [diffS] at h
    rcases List.mem_append.1 h with h | h
    · obtain rfl := keepS_mem h; exact ⟨a, .inl (by simp), rfl, rfl⟩
    · obtain ⟨f, hf, h1⟩ := diffS_low az [] e h; exact ⟨f, by simpa using .inr (by simpa using hf), h1⟩
  | [], b :: bs, e, h => by
    rw [diffS] at h
    rcases List.mem_append.1 h with h | h
    · obtain rfl := keepS_mem h; exact ⟨e, .inr (by simp), rfl, rfl⟩
    · obtain ⟨f, hf, h1⟩ := diffS_low [] bs e h; exact ⟨f, by simpa using .inr (by simpa using hf), h1⟩
  | a :: az, b :: bs, e, h => by
    rw [diffS] at h
    split at h
    · rcases List.mem_append.1 h with h | h
      · obtain rfl := keepS_mem h; exact ⟨e, .inr (by simp), rfl, rfl⟩
      · obtain ⟨f, hf, h1⟩ := diffS_low (a :: az) bs e h
        exact ⟨f, hf.imp id (fun h => by simp [h]), h1⟩
    · split at h
      · rcases List.mem_append.1 h with h | h
        · obtain rfl := keepS_mem h; exact ⟨a, .inl (by simp), rfl, rfl⟩
        · obtain ⟨f, hf, h1⟩ := diffS_low az (b :: bs) e h
          exact ⟨f, hf.imp (fun h => by simp [h]) id, h1⟩
      · rcases List.mem_append.1 h with h | h
        · obtain rfl := keepS_mem h; exact ⟨e, .inr (by simp), rfl, rfl⟩
        · obtain ⟨f, hf, h1⟩ := diffS_low az bs e h
          exact ⟨f, hf.imp (fun h => by simp [h]) (fun h => by simp [h]), h1⟩
  termination_by a b => a.length + b.length
theorem ris_keep {x y : ST} {l : List ST} (h : RisL l) (hy : ∀ e ∈ l, y.lt e = true) : RisL (keepS x y ++ l) := by
  unfold keepS
  split
  · exact h
  · exact List.pairwise_cons.2 ⟨hy, h⟩
theorem lt_of_place {y e f : ST} (h : y.lt f = true) (h1 : e.r = f.r) (h2 : e.c = f.c) : y.lt e = true := by
  rw [lt_iff] at *
  omega
theorem diffS_rises : ∀ (a b : List ST), RisL a → RisL b → RisL (diffS a b)
  | [], [], _, _ => by rw [diffS]; exact .nil
  | a :: az, [], ha, hb => by
    obtain ⟨ha1, ha2⟩ := List.pairwise_cons.1 ha
    rw [diffS]
    refine ris_keep (diffS_rises az [] ha2 hb) fun e he => ?_
    obtain ⟨f, hf, h1, h2⟩ := diffS_low _ _ e he
    exact lt_of_place (f := f) (by simpa [ST.lt, nullAt] using ha1 f (by simpa using hf)) h1 h2
  | [], b :: bs, ha, hb => by
    obtain ⟨hb1, hb2⟩ := List.pairwise_cons.1 hb
    rw [diffS]
    refine ris_keep (diffS_rises [] bs ha hb2) fun e he => ?_
    obtain ⟨f, hf, h1, h2⟩ := diffS_low _ _ e he
    exact lt_of_place (f := f) (hb1 f (by simpa using hf)) h1 h2
  | a :: az, b :: bs, ha, hb => by
    obtain ⟨ha1, ha2⟩ := List.pairwise_cons.1 ha
    obtain ⟨hb1, hb2⟩ := List.pairwise_cons.1 hb
    rw [diffS]
    by_cases h1 : b.lt a = true
    · rw [if_pos h1]
      refine ris_keep (diffS_rises _ _ ha hb2) fun e he => ?_
      obtain ⟨f, hf, p1, p2⟩ := diffS_low _ _ e he
      refine lt_of_place (f := f) ?_ p1 p2
      rcases hf with hf | hf
      · rcases List.mem_cons.1 hf with rfl | hf
        · exact h1
        · exact lt_trans h1 (ha1 f hf)
      · exact hb1 f hf
    · rw [if_neg h1]
      by_cases h2 : a.lt b = true
      · rw [if_pos h2]
        refine ris_keep (diffS_rises _ _ ha2 hb) fun e he => ?_
        obtain ⟨f, hf, p1, p2⟩ := diffS_low _ _ e he
        refine lt_of_place (f := f) ?_ p1 p2
        have : a.lt f = true := by
          rcases hf with hf | hf
          · exact ha1 f hf
          · rcases List.mem_cons.1 hf with rfl | hf
            · exact h2
            · exact lt_trans h2 (hb1 f hf)
        simpa [ST.lt, nullAt] using this
      · rw [if_neg h2]
        have h1 := lt_false.1 (Bool.eq_false_iff.2 h1)
        have h2 := lt_false.1 (Bool.eq_false_iff.2 h2)
        refine ris_keep (diffS_rises _ _ ha2 hb2) fun e he => ?_
        obtain ⟨f, hf, p1, p2⟩ := diffS_low _ _ e he
        refine lt_of_place (f := f) ?_ p1 p2
        rcases hf with hf | hf
        · have := lt_iff.1 (ha1 f hf)
          rw [lt_iff]
          omega
        · exact hb1 f hf
  termination_by a b => a.length + b.length

/-- Put in order, it is the same. -/
theorem diff_sorted {a b l X : List ST} (ha : RisL a) (hb : RisL b) (hX : X.Perm (goneS (leftA a b))) (hl : l.Perm (diffB a b ++ X)) (hs : l.Pairwise fun x y => y.lt x = false) : l = diffS a b := by
  have hr := diffS_rises a b ha hb
  have hp : l.Perm (diffS a b) := hl.trans ((hX.append_left _).trans (diffS_perm a b ha hb).symm)
  have hr' : (diffS a b).Pairwise fun x y => y.lt x = false := hr.imp fun {x y} h => by
    rw [lt_false]
    have := lt_iff.1 h
    omega
  refine hp.eq_of_pairwise (fun x y hx hy h1 h2 => ?_) hs hr'
  have hx' := hp.mem_iff.1 hx
  rw [lt_false] at h1 h2
  obtain ⟨i, hi, rfl⟩ := List.mem_iff_getElem.1 hx'
  obtain ⟨j, hj, rfl⟩ := List.mem_iff_getElem.1 hy
  rw [RisL, List.pairwise_iff_getElem] at hr
  rcases Nat.lt_trichotomy i j with h | h | h
  · exact absurd (lt_iff.1 (hr i j hi hj h)) h2
  · subst h; rfl
  · exact absurd (lt_iff.1 (hr j i hj hi h)) h1

end Go.Proofs.Ytbipmeldmgpknaa
