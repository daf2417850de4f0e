/-
  Chapter 6: what operators make of values, in plain words.
-/
import Derived.Test.YtkadkfmidlhedaaGreatDoorMg26
import Derived.Test.YtkadkfmidlhedaaGreatDoorV9c
import Derived.Test.YtkadkfmidlhedaaGreatDoorSuM
import Derived.Test.YtkadkfmidlhedaaGreatDoorPwM
import Derived.Test.YtkadkfmidlhedaaGreatDoorSqM
import Derived.Test.YtkadkfmidlhedaaGreatDoorMg42
namespace Go.Proofs.YtkadkfmidlhedaaGreatDoor
open Go.RowKit

abbrev nameT : List UInt8 := [35, 78, 65, 77, 69, 63]
abbrev numbT : List UInt8 := [35, 78, 85, 77, 33]
abbrev divT : List UInt8 := [35, 68, 73, 86, 47, 48, 33]
abbrev evV (l : List UInt8) : Value := valV 4 false 0 0 l
def putV (r : DR) : Value := if r.ok = true then valV 1 r.neg r.d r.e [] else evV numbT

noncomputable def sqrtR (n : Bool) (d e : Int) : DR :=
 if h : -9223372036854775808 ≤ d ∧ d ≤ 9223372036854775807 then Classical.choose (sqrt_both n d e h.1 h.2) else badR
theorem sqrtSV (n : Bool) (d e : Int) (a1 : -9223372036854775808 ≤ d) (a2 : d ≤ 9223372036854775807) (w : World) :
  Calls Tryz.prog 213 #[.agg #[.bool n, .int .i64 d, .int .i64 e]] w fun r w' => r = .returned (resV (sqrtR n d e)) ∧ Ext w w' := by
 unfold sqrtR
 rw [dif_pos ⟨a1, a2⟩]
 exact (Classical.choose_spec (sqrt_both n d e a1 a2)).1 w
theorem sqrtIV (n : Bool) (d e : Int) (a1 : -9223372036854775808 ≤ d) (a2 : d ≤ 9223372036854775807) (w : World) (hT : Tens w) :
  Calls Tryz.prog 207 #[.agg #[.bool n, .int .i64 d, .int .i64 e]] w fun r w' => r = .returned (resV (sqrtR n d e)) ∧ Ext w w' := by
 unfold sqrtR
 rw [dif_pos ⟨a1, a2⟩]
 exact (Classical.choose_spec (sqrt_both n d e a1 a2)).2 w hT

def halfB (n : Bool) (d e : Int) : Bool := !n && decide (d = 5) && decide (e = -1)
noncomputable def powerV (n : Bool) (d e : Int) (n' : Bool) (d' e' : Int) : Value :=
 if d = 0 ∧ d' = 0 then evV numbT else if d = 0 ∧ n' = true then evV divT else
 if intOk n' d' e' = true then putV (powR n d e (intR n' d' e')) else if halfB n' d' e' = true then putV (sqrtR n d e) else evV numbT
/-- What the five operators on numbers make of two: plus, minus, times, over, power. -/
noncomputable def stepV (o : Nat) (n : Bool) (d e : Int) (n' : Bool) (d' e' : Int) : Value :=
 if o = 0 then putV (addR n d e n' d' e') else if o = 1 then putV (subR n d e n' d' e') else if o = 2 then putV (mulR n d e n' d' e') else
 if o = 3 then (if d' = 0 then evV divT else putV (divR n d e n' d' e')) else powerV n d e n' d' e'
theorem putV_val (r : DR) : ∃ k2 n2 d2 x2 t2, putV r = valV k2 n2 d2 x2 t2 := by
 unfold putV
 split
 ·
  exact ⟨_, _, _, _, _, rfl⟩
 ·
  exact ⟨_, _, _, _, _, rfl⟩
theorem powerV_val (n : Bool) (d e : Int) (n' : Bool) (d' e' : Int) : ∃ k2 n2 d2 x2 t2, powerV n d e n' d' e' = valV k2 n2 d2 x2 t2 := by
 unfold powerV
 repeat' split
 all_goals first | exact putV_val _ | exact ⟨_, _, _, _, _, rfl⟩
theorem stepV_val (o : Nat) (n : Bool) (d e : Int) (n' : Bool) (d' e' : Int) : ∃ k2 n2 d2 x2 t2, stepV o n d e n' d' e' = valV k2 n2 d2 x2 t2 := by
 unfold stepV
 repeat' split
 all_goals first | exact putV_val _ | exact powerV_val _ _ _ _ _ _ | exact ⟨_, _, _, _, _, rfl⟩

/-- The number that a value is, where it is one. -/
def numD (k : Int) (n : Bool) (d x : Int) (t : List UInt8) : Option (Bool × Int × Int) :=
 if k = 0 then some (false, 0, 0) else
 if k = 2 then (if (readR (trimB t)).ok = true then some ((readR (trimB t)).neg, (readR (trimB t)).d, (readR (trimB t)).e) else none) else
 if k = 3 then (if (t == trueT) = true then some (false, 1, 0) else some (false, 0, 0)) else some (n, d, x)
theorem numOf_none {k : Int} {n : Bool} {d x : Int} {t : List UInt8} (h : numD k n d x t = none) : numOf k n d x t = errW := by
 unfold numD at h
 unfold numOf
 split at h
 ·
  cases h
 ·
  next h0 =>
  rw [if_neg h0]
  split at h
  ·
   next h2 =>
   rw [if_pos h2]
   split at h
   ·
    cases h
   ·
    next hr => unfold numR; rw [if_neg hr]
  ·
   split at h
   ·
    split at h
    ·
     cases h
    ·
     cases h
   ·
    cases h
theorem read_good {l : List UInt8} (h : (readR l).ok = true) : goodB (readR l).neg (readR l).d (readR l).e = true := by
 unfold readR mantR at h ⊢
 repeat' split at h
 all_goals first | exact absurd h (by decide) | skip
 all_goals (repeat' split)
 all_goals first | exact put_ok h | contradiction | skip
theorem numOf_some {k : Int} {n : Bool} {d x : Int} {t : List UInt8} (hg : goodV k n d x t = true) (h4 : k ≠ 4) {a : Bool} {b c : Int} (h : numD k n d x t = some (a, b, c)) :
  numOf k n d x t = valV 1 a b c [] ∧ goodB a b c = true := by
 unfold numD at h
 unfold numOf
 split at h
 ·
  next h0 =>
  obtain ⟨rfl, rfl, rfl⟩ : false = a ∧ 0 = b ∧ 0 = c := by simpa using h
  rw [if_pos h0]
  exact ⟨rfl, by decide⟩
 ·
  next h0 =>
  rw [if_neg h0]
  split at h
  ·
   next h2 =>
   rw [if_pos h2]
   split at h
   ·
    next hr =>
    obtain ⟨rfl, rfl, rfl⟩ : (readR (trimB t)).neg = a ∧ (readR (trimB t)).d = b ∧ (readR (trimB t)).e = c := by simpa using h
    exact ⟨by unfold numR; rw [if_pos hr], read_good hr⟩
   ·
    cases h
  ·
   next h2 =>
   rw [if_neg h2]
   split at h
   ·
    next h3 =>
    rw [if_pos h3]
    split at h
    ·
     next ht =>
     obtain ⟨rfl, rfl, rfl⟩ : false = a ∧ 1 = b ∧ 0 = c := by simpa using h
     rw [if_pos ht]
     exact ⟨rfl, by decide⟩
    ·
     next ht =>
     obtain ⟨rfl, rfl, rfl⟩ : false = a ∧ 0 = b ∧ 0 = c := by simpa using h
     rw [if_neg ht]
     exact ⟨rfl, by decide⟩
   ·
    next h3 =>
    rw [if_neg h3]
    obtain ⟨rfl, rfl, rfl⟩ : n = a ∧ d = b ∧ x = c := by simpa using h
    have h1 : k = 1 := by
     rcases Classical.em (k = 1) with h1 | h1
     ·
      exact h1
     ·
      exfalso
      simp [goodV, h0, h1, h2, h3, h4] at hg
    subst h1
    obtain ⟨g1, rfl⟩ := goodV_num hg
    exact ⟨rfl, g1⟩

/-- Both taken for numbers, and then the step. -/
noncomputable def reckV (o : Nat) (k : Int) (n : Bool) (d x : Int) (t : List UInt8) (k' : Int) (n' : Bool) (d' x' : Int) (t' : List UInt8) : Value :=
 match numD k n d x t with
 | none => errW
 | some a => match numD k' n' d' x' t' with
  | none => errW
  | some b => stepV o a.1 a.2.1 a.2.2 b.1 b.2.1 b.2.2
def joinV (k : Int) (n : Bool) (d x : Int) (t : List UInt8) (k' : Int) (n' : Bool) (d' x' : Int) (t' : List UInt8) : Value :=
 if (showT k n d x t ++ showT k' n' d' x' t').length ≤ 1000 then valV 2 false 0 0 (showT k n d x t ++ showT k' n' d' x' t') else errW
/-- What an operator makes of two values that are no errors. -/
noncomputable def makeV (o : Nat) (k : Int) (n : Bool) (d x : Int) (t : List UInt8) (k' : Int) (n' : Bool) (d' x' : Int) (t' : List UInt8) : Value :=
 if o < 5 then reckV o k n d x t k' n' d' x' t' else if o = 5 then joinV k n d x t k' n' d' x' t' else boolW (ordB o (compareV k n d x t k' n' d' x' t'))
noncomputable def workV (o : Nat) (k : Int) (n : Bool) (d x : Int) (t : List UInt8) (k' : Int) (n' : Bool) (d' x' : Int) (t' : List UInt8) : Value :=
 if k = 4 then valV k n d x t else if k' = 4 then valV k' n' d' x' t' else makeV o k n d x t k' n' d' x' t'
def signL : List (List UInt8) := [[43], [45], [42], [47], [94], [38], [61], [60, 62], [60], [62], [60, 61], [62, 61]]
def opN (l : List UInt8) : Option Nat := signL.findIdx? fun s => s == l
noncomputable def applyV (op : List UInt8) (k : Int) (n : Bool) (d x : Int) (t : List UInt8) (k' : Int) (n' : Bool) (d' x' : Int) (t' : List UInt8) : Value :=
 match opN op with
 | none => evV nameT
 | some o => if (goodV k n d x t && goodV k' n' d' x' t') = true then workV o k n d x t k' n' d' x' t' else errW
theorem reckV_val (o : Nat) (k : Int) (n : Bool) (d x : Int) (t : List UInt8) (k' : Int) (n' : Bool) (d' x' : Int) (t' : List UInt8) : ∃ k2 n2 d2 x2 t2, reckV o k n d x t k' n' d' x' t' = valV k2 n2 d2 x2 t2 := by
 unfold reckV
 repeat' split
 all_goals first | exact stepV_val _ _ _ _ _ _ _ | exact ⟨_, _, _, _, _, rfl⟩
theorem makeV_val (o : Nat) (k : Int) (n : Bool) (d x : Int) (t : List UInt8) (k' : Int) (n' : Bool) (d' x' : Int) (t' : List UInt8) : ∃ k2 n2 d2 x2 t2, makeV o k n d x t k' n' d' x' t' = valV k2 n2 d2 x2 t2 := by
 unfold makeV joinV
 repeat' split
 all_goals first | exact reckV_val _ _ _ _ _ _ _ _ _ _ _ | exact ⟨_, _, _, _, _, rfl⟩
theorem workV_val (o : Nat) (k : Int) (n : Bool) (d x : Int) (t : List UInt8) (k' : Int) (n' : Bool) (d' x' : Int) (t' : List UInt8) : ∃ k2 n2 d2 x2 t2, workV o k n d x t k' n' d' x' t' = valV k2 n2 d2 x2 t2 := by
 unfold workV
 repeat' split
 all_goals first | exact makeV_val _ _ _ _ _ _ _ _ _ _ _ | exact ⟨_, _, _, _, _, rfl⟩
theorem applyV_val (op : List UInt8) (k : Int) (n : Bool) (d x : Int) (t : List UInt8) (k' : Int) (n' : Bool) (d' x' : Int) (t' : List UInt8) : ∃ k2 n2 d2 x2 t2, applyV op k n d x t k' n' d' x' t' = valV k2 n2 d2 x2 t2 := by
 unfold applyV
 repeat' split
 all_goals first | exact workV_val _ _ _ _ _ _ _ _ _ _ _ | exact ⟨_, _, _, _, _, rfl⟩

end Go.Proofs.YtkadkfmidlhedaaGreatDoor

