/-
  A region that draws its order, some of its operations guarded, each met once: as Rg's, the guard decided by the letters.
-/
import Derived.Test.YtjoalcnedehfgaaRg
namespace Go.Proofs.Ytjoalcnedehfgaa
open Go.RowKit

section
variable {P : Program} {ops : Array Oper} {Q : Exit → Act → World → Prop}

/-- The edges go back. -/
def rhOk (md : Region.Mode) (ops : Array Oper) : Bool :=
  (List.range ops.size).all fun i =>
    match ops[i]? with
    | none => true
    | some o => o.after.all fun e => !Region.binds md e || decide (e.on < i)
theorem rhOk_spec {md : Region.Mode} (h : rhOk md ops = true) {i : Nat} {o : Oper} (hi : ops[i]? = some o) : ∀ e ∈ o.after, Region.binds md e = true → e.on < i := by
  have hlt : i < ops.size := by
    rcases Nat.lt_or_ge i ops.size with h' | h'
    · exact h'
    · rw [Array.getElem?_eq_none h'] at hi; cases hi
  have := (List.all_eq_true.1 h) i (List.mem_range.2 hlt)
  rw [hi] at this
  intro e he hb
  have h2 := (Array.all_eq_true_iff_forall_mem.1 this) e he
  rw [hb] at h2
  simpa using h2
theorem wpOp_of_ops_g {i : Nat} {o : Oper} {K : Act → World → Prop} {a : Act} {w : World} (ho : ops[i]? = some o)
    (h : if Region.wanted o (yielded ops a.tmps) = true then wpList P #[{ o with guard := none }] (Exit.then K Q) [{ o with guard := none }] a w else K (a.put o.dst undef) w) : wpOp P ops Q i K a w := by
  unfold wpOp
  simp only [ho]
  split
  · next hw =>
    rw [if_pos hw] at h
    simp only [wpList, Region.wanted, if_true] at h
    rcases h with h | ⟨h1, h2⟩
    · left
      unfold Oper.wp at *
      have e : execOp a.eval { o with guard := none } = execOp a.eval o := rfl
      rw [e] at h
      generalize (execOp a.eval o).run P w = r at *
      cases r with
      | ok n w' =>
        cases n
        case enter f args =>
          refine Calls.mono h fun e w'' he => ?_
          cases e <;> exact he
        all_goals exact h
      | halt x w' => cases x <;> exact h
    · exact .inr ⟨h1, h2⟩
  · next hw =>
    rw [if_neg hw] at h
    exact h

theorem all_listed_g {md : Region.Mode} (hc : rhOk md ops = true) {listed : Array Bool} (hsz : listed.size = ops.size) (hr : Region.ready md ops listed = []) : ∀ i, i < ops.size → listed.getD i false = true := by
  intro i
  induction i using Nat.strongRecOn with
  | ind i ih =>
    intro hi
    cases hl : listed.getD i false with
    | true => rfl
    | false =>
      exfalso
      have hlt : i < listed.size := by omega
      have h1 : listed.getD i true = false := by
        rw [Array.getD_eq_getD_getElem?, Array.getElem?_eq_getElem hlt] at hl ⊢
        exact hl
      have ho : ops[i]? = some ops[i] := Array.getElem?_eq_getElem hi
      have hlow := rhOk_spec hc ho
      have : i ∈ Region.ready md ops listed := mem_ready.2 ⟨h1, _, ho, fun e he hb => ih e.on (hlow e he hb) (Nat.lt_trans (hlow e he hb) hi)⟩
      rw [hr] at this
      cases this

/-- THE REGION. -/
theorem wp_region_letters_g {X : Type} {id : Nat} {a : Act} {w : World} (F : X → Act) (I : (Nat → Bool) → X → World → Prop) (hm : P.follows .mixedOrders = true) (hc : rhOk .any ops = true)
    (x0 : X) (h0 : a = F x0) (hI : I (fun _ => false) x0 { w with drawn := w.drawn + 1 })
    (step : ∀ L x w i o (K : Act → World → Prop), (∀ x' w', I (fun j => if j = i then true else L j) x' w' → K (F x') w') → ops[i]? = some o → L i = false → (∀ e ∈ o.after, Region.binds .any e = true → L e.on = true) → I L x w →
      if Region.wanted o (yielded ops (F x).tmps) = true then wpList P #[{ o with guard := none }] (Exit.then K Q) [{ o with guard := none }] (F x) w else K ((F x).put o.dst undef) w)
    (fin : ∀ L x w, (∀ j, j < ops.size → L j = true) → I L x w → Q .normal (F x) w) : (Code.region id ops true).wp P Q a w := by
  refine wp_region_inv (fun listed a w => listed.size = ops.size ∧ ∃ x, a = F x ∧ I (fun j => listed.getD j false) x w) hm ?_ ?_ ?_
  · refine ⟨by simp, x0, h0, ?_⟩
    have e : (fun j => (Array.replicate ops.size false).getD j false) = fun _ => false := by
      funext j
      rw [Array.getD_eq_getD_getElem?]
      rcases Nat.lt_or_ge j ops.size with h' | h'
      · rw [Array.getElem?_eq_getElem (by simpa using h')]; simp
      · rw [Array.getElem?_eq_none (by simpa using h')]; simp
    rw [e]
    exact hI
  · rintro listed a w i o ⟨hs, x, rfl, hx⟩ hi ho
    obtain ⟨hun, o', ho', hall⟩ := mem_ready.1 hi
    have : o' = o := by rw [ho] at ho'; exact (Option.some.inj ho').symm
    subst this
    have hlt : i < listed.size := by
      rcases Nat.lt_or_ge i listed.size with h' | h'
      · exact h'
      · rw [Array.getD_eq_getD_getElem?, Array.getElem?_eq_none h'] at hun; cases hun
    have hun' : listed.getD i false = false := by
      rw [Array.getD_eq_getD_getElem?, Array.getElem?_eq_getElem hlt] at hun ⊢
      exact hun
    refine wpOp_mono ?_ (wpOp_of_ops_g ho (step _ x w i o' (fun a' w' => ∃ x', a' = F x' ∧ I (fun j => if j = i then true else listed.getD j false) x' w') (fun x' w' h => ⟨x', rfl, h⟩) ho hun' hall hx))
    rintro a' w' ⟨x', rfl, hx'⟩
    refine ⟨by simp [hs], x', rfl, ?_⟩
    have e : (fun j => (listed.setIfInBounds i true).getD j false) = fun j => if j = i then true else listed.getD j false := by
      funext j
      by_cases hj : j = i
      · subst hj
        rw [if_pos rfl, Array.getD_eq_getD_getElem?, Array.getElem?_setIfInBounds_self_of_lt hlt]
        rfl
      · rw [if_neg hj, getD_set_ne false (fun e => hj e.symm)]
    rw [e]
    exact hx'
  · rintro listed a w hr ⟨hs, x, rfl, hx⟩
    exact fin _ x w (all_listed_g hc hs hr) hx

end

end Go.Proofs.Ytjoalcnedehfgaa
