/-
  A region that draws its order, met once: a frame as it stands at the end, and for each operation one step in that frame, whichever have come up ahead of it.
-/
import Derived.Test.YtjoalcnedehfgaaBase
import Derived.Orders
namespace Go.Proofs.Ytjoalcnedehfgaa
open Go.RowKit

section
variable {P : Program} {ops : Array Oper} {Q : Exit → Act → World → Prop} {md : Region.Mode}

/-- Each operation waits for all that leave a value where it looks, waits for earlier ones alone, and is not guarded. -/
def rfOk (md : Region.Mode) (ops : Array Oper) : Bool :=
  (List.range ops.size).all fun i =>
    match ops[i]? with
    | none => true
    | some o => o.guard.isNone && (o.after.all fun e => !Region.binds md e || decide (e.on < i)) &&
        o.op.operands.all fun x => match x with
          | .tmp d => (List.range ops.size).all fun j => !((ops[j]?).bind (·.dst) == some d) || o.after.any fun e => Region.binds md e && e.on == j
          | _ => true

theorem rfOk_spec (h : rfOk md ops = true) {i : Nat} {o : Oper} (hi : ops[i]? = some o) :
    o.guard = none ∧ (∀ e ∈ o.after, Region.binds md e = true → e.on < i) ∧
    ∀ d, .tmp d ∈ o.op.operands → ∀ j oj, ops[j]? = some oj → oj.dst = some d → ∃ e ∈ o.after, Region.binds md e = true ∧ e.on = j := by
  have hlt : i < ops.size := by
    rcases Nat.lt_or_ge i ops.size with h' | h'
    · exact h'
    · rw [Array.getElem?_eq_none h'] at hi; cases hi
  have h1 := (List.all_eq_true.1 h) i (List.mem_range.2 hlt)
  rw [hi] at h1
  simp only [Bool.and_eq_true] at h1
  obtain ⟨⟨hg, ha⟩, hx⟩ := h1
  refine ⟨by cases hgo : o.guard <;> simp_all, fun e he hb => ?_, fun d hd j oj hj hdj => ?_⟩
  · have := (Array.all_eq_true_iff_forall_mem.1 ha) e he
    simpa [hb] using this
  · have h2 := (Array.all_eq_true_iff_forall_mem.1 hx) _ hd
    have hjlt : j < ops.size := by
      rcases Nat.lt_or_ge j ops.size with h' | h'
      · exact h'
      · rw [Array.getElem?_eq_none h'] at hj; cases hj
    have h3 := (List.all_eq_true.1 h2) j (List.mem_range.2 hjlt)
    rw [hj] at h3
    simp only [Option.bind_some, hdj, beq_self_eq_true, Bool.not_true, Bool.false_or] at h3
    obtain ⟨e, he, hee⟩ : ∃ e ∈ o.after, (Region.binds md e && e.on == j) = true := by
      rw [Array.any_eq_true'] at h3
      exact h3
    simp only [Bool.and_eq_true, beq_iff_eq] at hee
    exact ⟨e, he, hee.1, hee.2⟩

/-- How a frame on the way stands to the frame at the end. -/
structure RS (ops : Array Oper) (md : Region.Mode) (A : Act) (listed : Array Bool) (a : Act) : Prop where
  size : listed.size = ops.size
  defers : a.defers = A.defers
  tsize : a.tmps.size = A.tmps.size
  vals : ∀ d, (∀ i o, ops[i]? = some o → o.dst = some d → listed.getD i false = true) → a.tmps[d]? = A.tmps[d]?
  closed : ∀ i o, ops[i]? = some o → listed.getD i false = true → ∀ e ∈ o.after, Region.binds md e = true → listed.getD e.on false = true

theorem put_same {A : Act} {d : Nat} {v : Value} (h : A.put (some d) v = A) (hd : d < A.tmps.size) : A.tmps[d]? = some v := by
  have h1 : (A.tmps.setIfInBounds d v) = A.tmps := congrArg Act.tmps h
  rw [← h1]
  simp [hd]

theorem RS.put {A : Act} {listed : Array Bool} {a : Act} (h : RS ops md A listed a) {i : Nat} {o : Oper} (ho : ops[i]? = some o) (hi : i ∈ Region.ready md ops listed) {v : Value}
    (hv : A.put o.dst v = A) : RS ops md A (listed.setIfInBounds i true) (a.put o.dst v) := by
  obtain ⟨hun, o', ho', hall⟩ := mem_ready.1 hi
  have : o' = o := by rw [ho] at ho'; exact (Option.some.inj ho').symm
  subst this
  have hback : ∀ j, j ≠ i → (listed.setIfInBounds i true).getD j false = true → listed.getD j false = true := fun j hj hh => by
    rw [getD_set_ne false (Ne.symm hj)] at hh; exact hh
  refine ⟨by simp [h.size], ?_, ?_, ?_, ?_⟩
  · cases o'.dst <;> exact h.defers
  · cases hd : o'.dst <;> simp [Act.put, h.tsize]
  · intro d' hpre
    cases hd : o'.dst with
    | none =>
      refine h.vals d' fun j oj hj hdj => hback j (fun e => ?_) (hpre j oj hj hdj)
      subst e; rw [ho] at hj; cases hj; rw [hd] at hdj; cases hdj
    | some d =>
      rw [hd] at hv
      show (a.tmps.setIfInBounds d v)[d']? = _
      by_cases e : d = d'
      · subst e
        rcases Nat.lt_or_ge d A.tmps.size with hlt | hge
        · rw [put_same hv hlt]; simp [h.tsize, hlt]
        · rw [Array.getElem?_eq_none hge, Array.getElem?_eq_none (by simp [h.tsize, hge])]
      · rw [Array.getElem?_setIfInBounds_ne e]
        refine h.vals d' fun j oj hj hdj => hback j (fun e' => ?_) (hpre j oj hj hdj)
        subst e'; rw [ho] at hj; cases hj; rw [hd] at hdj; exact e (Option.some.inj hdj)
  · intro j oj hj hl e he hb
    by_cases hji : j = i
    · subst hji; rw [ho] at hj; cases hj; exact getD_set_true (hall e he hb)
    · exact getD_set_true (h.closed j oj hj (hback j hji hl) e he hb)

/-- One operation: what it does in the frame at the end, it does on the way. -/
theorem RS.step {A : Act} {listed : Array Bool} {a : Act} {w : World} (h : RS ops md A listed a) (hc : rfOk md ops = true) (hs : Region.noSelect ops = true)
    {i : Nat} {o : Oper} (ho : ops[i]? = some o) (hi : i ∈ Region.ready md ops listed) {J : World → Prop}
    (hw : o.wp P A w (fun a' w' => a' = A ∧ J w') (fun _ _ _ => False)) :
    wpOp P ops Q i (fun a' w' => RS ops md A (listed.setIfInBounds i true) a' ∧ J w') a w := by
  obtain ⟨hun, o', ho', hall⟩ := mem_ready.1 hi
  have : o' = o := by rw [ho] at ho'; exact (Option.some.inj ho').symm
  subst this
  obtain ⟨hg, _, hdat⟩ := rfOk_spec hc ho
  have hev : execOp a.eval o' = execOp A.eval o' := execOp_congr o' (fun cs b => Region.noSelect_spec hs i o' cs b ho) fun x hx => by
    cases x with
    | tmp d =>
      show a.tmps.getD d undef = A.tmps.getD d undef
      have := h.vals d fun j oj hj hdj => by
        obtain ⟨e, he, hb, hon⟩ := hdat d hx j oj hj hdj
        rw [← hon]; exact hall e he hb
      simp only [Array.getD_eq_getD_getElem?, this]
    | _ => rfl
  unfold wpOp
  simp only [ho, Region.wanted, hg, if_true]
  refine .inl ?_
  unfold Oper.wp at *
  rw [hev]
  generalize (execOp A.eval o').run P w = r at *
  have hp : ∀ v w', A.put o'.dst v = A ∧ J w' → RS ops md A (listed.setIfInBounds i true) (a.put o'.dst v) ∧ J w' := fun v w' hh => ⟨h.put ho hi hh.1, hh.2⟩
  cases r with
  | ok n w' =>
    cases n <;> simp only [Oper.upon] at hw ⊢
    case value u => exact hp _ _ hw
    case skip => exact hp _ _ hw
    case defer d =>
      exfalso
      have := congrArg Act.defers hw.1
      cases hd : o'.dst <;> simp [Act.put, hd] at this
    case enter f args =>
      refine Calls.mono hw fun e w'' he => ?_
      cases e with
      | returned u => exact hp _ _ he
      | panicked c => exact he.elim
      | outgrown => obtain ⟨_, _, hh⟩ := he; exact hh.elim
    case row row args => exact Rows.mono hw fun u w'' he => hp _ _ he
  | halt x w' => cases x <;> simp only [Oper.upon] at hw ⊢

theorem all_listed (hc : rfOk md ops = true) {listed : Array Bool} (hsz : listed.size = ops.size) (hr : Region.ready md ops listed = []) : ∀ i, i < ops.size → listed.getD i false = true := by
  intro i
  induction i using Nat.strongRecOn with
  | ind i ih =>
    intro hi
    cases hl : listed.getD i false with
    | true => rfl
    | false =>
      exfalso
      have hlt : i < listed.size := by omega
      have h1 : listed.getD i true = false := by
        rw [Array.getD_eq_getD_getElem?, Array.getElem?_eq_getElem hlt] at hl ⊢
        exact hl
      have ho : ops[i]? = some ops[i] := Array.getElem?_eq_getElem hi
      obtain ⟨_, hlow, _⟩ := rfOk_spec hc ho
      have : i ∈ Region.ready md ops listed := mem_ready.2 ⟨h1, _, ho, fun e he hb => ih e.on (hlow e he hb) (Nat.lt_trans (hlow e he hb) hi)⟩
      rw [hr] at this
      cases this

theorem RS.done {A : Act} {listed : Array Bool} {a : Act} (h : RS ops md A listed a) (hall : ∀ i, i < ops.size → listed.getD i false = true) : a = A := by
  obtain ⟨at', ad⟩ := a
  obtain ⟨At, Ad⟩ := A
  have h1 : at' = At := Array.ext_getElem? fun d => h.vals d fun i o ho _ => hall i (by
    rcases Nat.lt_or_ge i ops.size with h' | h'
    · exact h'
    · rw [Array.getElem?_eq_none h'] at ho; cases ho)
  have h2 : ad = Ad := h.defers
  rw [h1, h2]

/-- How many have not come up yet. -/
theorem count_set {listed : Array Bool} {i : Nat} (h : listed.getD i true = false) : (listed.setIfInBounds i true).toList.count false + 1 = listed.toList.count false := by
  have hlt : i < listed.size := by
    rcases Nat.lt_or_ge i listed.size with h' | h'
    · exact h'
    · rw [Array.getD_eq_getD_getElem?, Array.getElem?_eq_none h'] at h; cases h
  have hv : listed[i] = false := by
    rw [Array.getD_eq_getD_getElem?, Array.getElem?_eq_getElem hlt] at h; exact h
  rw [Array.toList_setIfInBounds, List.count_set (by simpa using hlt)]
  have hv' : listed.toList[i]'(by simpa using hlt) = false := by simpa using hv
  have hpos : 0 < listed.toList.count false := List.count_pos_iff.2 (by rw [← hv']; exact List.getElem_mem _)
  simp only [hv', beq_self_eq_true, if_true]
  rw [if_neg (by decide)]
  omega

theorem wpAny_final {M : Type} (A : M → Act) (J : M → Array Bool → World → Prop) (hc : rfOk md ops = true) (hs : Region.noSelect ops = true)
    (step : ∀ m listed a w i o, RS ops md (A m) listed a → J m listed w → i ∈ Region.ready md ops listed → ops[i]? = some o →
      ∃ m', RS ops md (A m') listed a ∧ o.wp P (A m') w (fun a' w' => a' = A m' ∧ J m' (listed.setIfInBounds i true) w') (fun _ _ _ => False))
    (fin : ∀ m listed w, (∀ i, i < ops.size → listed.getD i false = true) → J m listed w → Q .normal (A m) w) :
    ∀ (fuel : Nat) (m : M) (listed : Array Bool) (a : Act) (w : World), listed.toList.count false ≤ fuel → RS ops md (A m) listed a → J m listed w → wpAny P md ops Q fuel listed a w := by
  intro fuel
  induction fuel with
  | zero =>
    intro m listed a w hf h hJ
    have hr : Region.ready md ops listed = [] := by
      cases hr : Region.ready md ops listed with
      | nil => rfl
      | cons x xs =>
        have := count_set (mem_ready.1 (hr ▸ List.mem_cons_self : x ∈ Region.ready md ops listed)).1
        omega
    refine ⟨hr, ?_⟩
    have hall := all_listed hc h.size hr
    rw [h.done hall]
    exact fin m listed w hall hJ
  | succ fuel ih =>
    intro m listed a w hf h hJ
    refine ⟨fun hr => ?_, fun i hi => ?_⟩
    · have hall := all_listed hc h.size hr
      rw [h.done hall]
      exact fin m listed w hall hJ
    · obtain ⟨hun, o, ho, _⟩ := mem_ready.1 hi
      obtain ⟨m', h', hw⟩ := step m listed a w i o h hJ hi ho
      refine wpOp_mono (fun a' w' hh => ih m' _ a' w' ?_ hh.1 hh.2) (h'.step hc hs ho hi hw)
      have := count_set hun
      omega

theorem RS.start {A a : Act} (hd : a.defers = A.defers) (ht : a.tmps.size = A.tmps.size) (hv : ∀ d, (∀ (i : Nat) (o : Oper), ops[i]? = some o → o.dst ≠ some d) → a.tmps[d]? = A.tmps[d]?) :
    RS ops md A (Array.replicate ops.size false) a := by
  have hno : ∀ i, (Array.replicate ops.size false).getD i false ≠ true := fun i => by
    rw [Array.getD_eq_getD_getElem?]
    rcases Nat.lt_or_ge i ops.size with h' | h'
    · rw [Array.getElem?_eq_getElem (by simpa using h')]; simp
    · rw [Array.getElem?_eq_none (by simpa using h')]; simp
  refine ⟨by simp, hd, ht, fun d hpre => hv d fun i o ho hdo => hno i (hpre i o ho hdo), fun i o _ hl => absurd hl (hno i)⟩

/-- THE REGION. -/
theorem wp_region_final {id : Nat} {a : Act} {w : World} {M : Type} (A : M → Act) (J : M → Array Bool → World → Prop) (hm : P.follows .mixedOrders = true) (hc : rfOk .any ops = true) (hs : Region.noSelect ops = true)
    (m0 : M) (h0 : RS ops .any (A m0) (Array.replicate ops.size false) a) (hJ : J m0 (Array.replicate ops.size false) { w with drawn := w.drawn + 1 })
    (step : ∀ m listed a w i o, RS ops .any (A m) listed a → J m listed w → i ∈ Region.ready .any ops listed → ops[i]? = some o →
      ∃ m', RS ops .any (A m') listed a ∧ o.wp P (A m') w (fun a' w' => a' = A m' ∧ J m' (listed.setIfInBounds i true) w') (fun _ _ _ => False))
    (fin : ∀ m listed w, (∀ i, i < ops.size → listed.getD i false = true) → J m listed w → Q .normal (A m) w) : (Code.region id ops true).wp P Q a w :=
  wp_region_any hm (wpAny_final A J hc hs step fin ops.size m0 _ a _ (by
    simp) h0 hJ)

/-! One operation in the frame at the end, by its run. -/
theorem put_get {A : Act} {d : Nat} {v : Value} (h : A.tmps[d]? = some v) : A.put (some d) v = A := by
  obtain ⟨t, df⟩ := A
  have : t.setIfInBounds d v = t := Array.ext_getElem? fun i => by
    by_cases e : d = i
    · subst e
      have hlt : d < t.size := by
        rcases Nat.lt_or_ge d t.size with h' | h'
        · exact h'
        · rw [show t[d]? = none from Array.getElem?_eq_none h'] at h; cases h
      rw [Array.getElem?_setIfInBounds_self_of_lt hlt]; exact h.symm
    · rw [Array.getElem?_setIfInBounds_ne e]
  show Act.mk (t.setIfInBounds d v) df = _
  rw [this]
theorem wp_yields {o : Oper} {A : Act} {w w' : World} {J : World → Prop} {d : Nat} {v : Value} {F : Exit → Act → World → Prop} (hd : o.dst = some d) (hv : A.tmps[d]? = some v) (hr : (execOp A.eval o).run P w = .ok (.value v) w') (hJ : J w') :
    o.wp P A w (fun a' w' => a' = A ∧ J w') F := by
  unfold Oper.wp
  rw [hr]
  show _ ∧ _
  rw [hd]
  exact ⟨put_get hv, hJ⟩
theorem wp_enters {o : Oper} {A : Act} {w : World} {J : World → Prop} {d : Nat} {v : Value} {F : Exit → Act → World → Prop} {f : FuncId} {args : Array Value} (hd : o.dst = some d) (hv : A.tmps[d]? = some v) (hr : (execOp A.eval o).run P w = .ok (.enter f args) w)
    (hc : Calls P f args w fun e w' => e = .returned v ∧ J w') : o.wp P A w (fun a' w' => a' = A ∧ J w') F := by
  unfold Oper.wp
  rw [hr]
  refine Calls.mono hc fun e w' he => ?_
  obtain ⟨rfl, hJ⟩ := he
  show _ ∧ _
  rw [hd]
  exact ⟨put_get hv, hJ⟩
section
variable {ρ : Operand → Value} {o : Oper} {w w' : World} {v : Value}
theorem run_fieldAddr {t : TypeId} {x : Operand} {k : Nat} {p : Value} (ho : o.op = .fieldAddr t x k) (he : ρ x = p) (hr : (Instr.fieldAt t p k).run P w = .ok v w') : (execOp ρ o).run P w = .ok (.value v) w' := by
  unfold execOp
  simp only [ho, he, Sem.run_bind, hr, Result.andThen_ok, Sem.run_pure]
theorem run_load {t : TypeId} {x : Operand} {p : Value} (ho : o.op = .load t x) (he : ρ x = p) (hr : (Instr.loadAt t p).run P w = .ok v w') : (execOp ρ o).run P w = .ok (.value v) w' := by
  unfold execOp
  simp only [ho, he, Sem.run_bind, hr, Result.andThen_ok, Sem.run_pure]
theorem run_build2 {t : TypeId} {x y : Operand} {i j : Nat} {p q : Value} (ho : o.op = .build t #[(i, x), (j, y)]) (hx : ρ x = p) (hy : ρ y = q) (hr : (Instr.build t #[(i, p), (j, q)]).run P w = .ok v w') : (execOp ρ o).run P w = .ok (.value v) w' := by
  unfold execOp
  simp only [ho, List.map_toArray, List.map_cons, List.map_nil, hx, hy, Sem.run_bind, hr, Result.andThen_ok, Sem.run_pure]
theorem run_moves {x : Operand} (ho : o.op = .move x) (he : ρ x = v) : (execOp ρ o).run P w = .ok (.value v) w := by
  unfold execOp
  simp only [ho, he, Sem.run_pure]
theorem run_assigns {x : Operand} (ho : o.op = .assign x) (he : ρ x = v) : (execOp ρ o).run P w = .ok (.value v) w := by
  unfold execOp
  simp only [ho, he, Sem.run_pure]
theorem run_makes {t : TypeId} (ho : o.op = .makeMap t none) : (execOp ρ o).run P w = .ok (.value (.map (some w.heap.size))) (w.alloc (.map #[] 0)) := by
  unfold execOp
  simp [ho, Instr.makeMap, go_sem]
theorem run_call2 {f : FuncId} {x y : Operand} {ts : Array TypeId} {p q : Value} (ho : o.op = .call { callee := .value (.func f), args := #[x, y], argTypes := ts }) (hf : ρ (.func f) = .func (.func f) #[] #[]) (hx : ρ x = p) (hy : ρ y = q) (hc : (callFunc f #[p, q]).run P w = .ok (.enter f #[p, q]) w) : (execOp ρ o).run P w = .ok (.enter f #[p, q]) w := by
  unfold execOp
  simp [ho, hf, hx, hy, resolve, invoke, go_sem, hc]
end

end
end Go.Proofs.Ytjoalcnedehfgaa
