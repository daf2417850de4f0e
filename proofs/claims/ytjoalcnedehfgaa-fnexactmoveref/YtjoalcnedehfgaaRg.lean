/-
  A region that draws its order, each operation met once: the frame over letters, and what holds of the letters and of memory by what has come up.
-/
import Derived.Test.YtjoalcnedehfgaaRi
namespace Go.Proofs.Ytjoalcnedehfgaa
open Go.RowKit

section
variable {P : Program} {ops : Array Oper} {Q : Exit → Act → World → Prop}

theorem wpOp_of_ops {i : Nat} {o : Oper} {K : Act → World → Prop} {a : Act} {w : World} (ho : ops[i]? = some o) (hg : o.guard = none)
    (h : wpList P #[o] (Exit.then K Q) [o] a w) : wpOp P ops Q i K a w := by
  unfold wpOp
  simp only [ho, Region.wanted, hg, if_true]
  simp only [wpList, Region.wanted, hg, if_true] at h
  rcases h with h | ⟨h1, h2⟩
  · left
    unfold Oper.wp at *
    generalize (execOp a.eval o).run P w = r at *
    cases r with
    | ok n w' =>
      cases n
      case enter f args =>
        refine Calls.mono h fun e w'' he => ?_
        cases e <;> exact he
      all_goals exact h
    | halt x w' => cases x <;> exact h
  · exact .inr ⟨h1, h2⟩

/-- THE REGION. -/
theorem wp_region_letters {X : Type} {id : Nat} {a : Act} {w : World} (F : X → Act) (I : (Nat → Bool) → X → World → Prop) (hm : P.follows .mixedOrders = true) (hc : rfOk .any ops = true)
    (x0 : X) (h0 : a = F x0) (hI : I (fun _ => false) x0 { w with drawn := w.drawn + 1 })
    (step : ∀ L x w i o (K : Act → World → Prop), (∀ x' w', I (fun j => if j = i then true else L j) x' w' → K (F x') w') → ops[i]? = some o → L i = false → (∀ e ∈ o.after, Region.binds .any e = true → L e.on = true) → I L x w →
      wpList P #[o] (Exit.then K Q) [o] (F x) w)
    (fin : ∀ L x w, (∀ j, j < ops.size → L j = true) → I L x w → Q .normal (F x) w) : (Code.region id ops true).wp P Q a w := by
  refine wp_region_inv (fun listed a w => listed.size = ops.size ∧ ∃ x, a = F x ∧ I (fun j => listed.getD j false) x w) hm ?_ ?_ ?_
  · refine ⟨by simp, x0, h0, ?_⟩
    have e : (fun j => (Array.replicate ops.size false).getD j false) = fun _ => false := by
      funext j
      rw [Array.getD_eq_getD_getElem?]
      rcases Nat.lt_or_ge j ops.size with h' | h'
      · rw [Array.getElem?_eq_getElem (by simpa using h')]; simp
      · rw [Array.getElem?_eq_none (by simpa using h')]; simp
    rw [e]
    exact hI
  · rintro listed a w i o ⟨hs, x, rfl, hx⟩ hi ho
    obtain ⟨hun, o', ho', hall⟩ := mem_ready.1 hi
    have : o' = o := by rw [ho] at ho'; exact (Option.some.inj ho').symm
    subst this
    obtain ⟨hg, _, _⟩ := rfOk_spec hc ho
    have hlt : i < listed.size := by
      rcases Nat.lt_or_ge i listed.size with h' | h'
      · exact h'
      · rw [Array.getD_eq_getD_getElem?, Array.getElem?_eq_none h'] at hun; cases hun
    have hun' : listed.getD i false = false := by
      rw [Array.getD_eq_getD_getElem?, Array.getElem?_eq_getElem hlt] at hun ⊢
      exact hun
    refine wpOp_mono ?_ (wpOp_of_ops ho hg (step _ x w i o' (fun a' w' => ∃ x', a' = F x' ∧ I (fun j => if j = i then true else listed.getD j false) x' w') (fun x' w' h => ⟨x', rfl, h⟩) ho hun' hall hx))
    rintro a' w' ⟨x', rfl, hx'⟩
    refine ⟨by simp [hs], x', rfl, ?_⟩
    have e : (fun j => (listed.setIfInBounds i true).getD j false) = fun j => if j = i then true else listed.getD j false := by
      funext j
      by_cases hj : j = i
      · subst hj
        rw [if_pos rfl, Array.getD_eq_getD_getElem?, Array.getElem?_setIfInBounds_self_of_lt hlt]
        rfl
      · rw [if_neg hj, getD_set_ne false (fun e => hj e.symm)]
    rw [e]
    exact hx'
  · rintro listed a w hr ⟨hs, x, rfl, hx⟩
    exact fin _ x w (all_listed hc hs hr) hx
end

end Go.Proofs.Ytjoalcnedehfgaa
