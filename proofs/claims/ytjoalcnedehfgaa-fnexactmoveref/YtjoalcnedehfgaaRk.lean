/-
  A region that draws its order, each operation met once (Rh), and what has been listed is closed under what must come ahead.
-/
import Derived.Test.YtjoalcnedehfgaaRh
namespace Go.Proofs.Ytjoalcnedehfgaa
open Go.RowKit

section
variable {P : Program} {ops : Array Oper} {Q : Exit → Act → World → Prop}

/-- What is listed has all listed that must come ahead of it. -/
def ClosedL (ops : Array Oper) (L : Nat → Bool) : Prop := ∀ i o, ops[i]? = some o → L i = true → ∀ e ∈ o.after, Region.binds .any e = true → L e.on = true
/-- A way back along edges. -/
def pathB (ops : Array Oper) : Nat → List Nat → Bool
  | _, [] => true
  | i, j :: l => (match ops[i]? with
    | none => false
    | some o => o.after.any fun e => Region.binds .any e && e.on == j) && pathB ops j l
theorem ClosedL.path {L : Nat → Bool} (h : ClosedL ops L) : ∀ (l : List Nat) (i : Nat), L i = true → pathB ops i l = true → L ((i :: l).getLast (by simp)) = true
  | [], _, hi, _ => hi
  | j :: l, i, hi, hp => by
    simp only [pathB, Bool.and_eq_true] at hp
    obtain ⟨h1, h2⟩ := hp
    have hj : L j = true := by
      cases ho : ops[i]? with
      | none => rw [ho] at h1; cases h1
      | some o =>
        rw [ho] at h1
        obtain ⟨e, he, hb⟩ := Array.any_eq_true'.1 h1
        simp only [Bool.and_eq_true, beq_iff_eq] at hb
        rw [← hb.2]
        exact h i o ho hi e he hb.1
    have := ClosedL.path h l j hj h2
    rwa [List.getLast_cons (by simp)]
/-- One that is not listed bars all that come behind it. -/
theorem ClosedL.bars {L : Nat → Bool} (h : ClosedL ops L) {i j : Nat} (l : List Nat) (hj : L j = false) (hp : pathB ops i l = true) (e : (i :: l).getLast (by simp) = j) : L i = false := by
  cases hi : L i with
  | false => rfl
  | true =>
    have := h.path l i hi hp
    rw [e, hj] at this
    cases this

/-- THE REGION. -/
theorem wp_region_letters_c {X : Type} {id : Nat} {a : Act} {w : World} (F : X → Act) (I : (Nat → Bool) → X → World → Prop) (hm : P.follows .mixedOrders = true) (hc : rhOk .any ops = true)
    (x0 : X) (h0 : a = F x0) (hI : I (fun _ => false) x0 { w with drawn := w.drawn + 1 })
    (step : ∀ L x w i o (K : Act → World → Prop), (∀ x' w', I (fun j => if j = i then true else L j) x' w' → K (F x') w') → ops[i]? = some o → L i = false → (∀ e ∈ o.after, Region.binds .any e = true → L e.on = true) → I L x w → ClosedL ops L →
      if Region.wanted o (yielded ops (F x).tmps) = true then wpList P #[{ o with guard := none }] (Exit.then K Q) [{ o with guard := none }] (F x) w else K ((F x).put o.dst undef) w)
    (fin : ∀ L x w, (∀ j, j < ops.size → L j = true) → I L x w → Q .normal (F x) w) : (Code.region id ops true).wp P Q a w := by
  refine wp_region_letters_g F (fun L x w => I L x w ∧ ClosedL ops L) hm hc x0 h0 ⟨hI, fun i o _ h => by cases h⟩ ?_ (fun L x w h hi => fin L x w h hi.1)
  intro L x w i o K hK ho hL haf hi
  refine step L x w i o K (fun x' w' h => hK x' w' ⟨h, ?_⟩) ho hL haf hi.1 hi.2
  intro j oj hj hLj e he hb
  show (if e.on = i then true else L e.on) = true
  split
  · rfl
  · by_cases hji : j = i
    · subst hji
      rw [ho] at hj
      cases hj
      exact haf e he hb
    · have : L j = true := by simpa [hji] using hLj
      exact hi.2 j oj hj this e he hb

end

end Go.Proofs.Ytjoalcnedehfgaa
