/-
  Chapter 14: separated texts read, plain.
-/
import Derived.Test.YtkjbeciiecljgaaDoorSs1
namespace Go.Proofs.YtkjbeciiecljgaaDoor
open Go.RowKit

/-- Behind an opening quote: the text up to the closing one, and how many bytes that takes. -/
def quoU : List UInt8 → Option (List UInt8 × Nat)
  | [] => none
  | [b] => if b = 34 then some ([], 1) else none
  | b :: c :: r => if b = 34 then (if c = 34 then (quoU r).map (fun p => (34 :: p.1, p.2 + 2)) else some ([], 1)) else (quoU (c :: r)).map (fun p => (b :: p.1, p.2 + 1))
/-- How many bytes a row's end has here; 0: there is none. -/
def endU : List UInt8 → Nat
  | 10 :: _ => 1
  | 13 :: 10 :: _ => 2
  | _ => 0
/-- Whether a field may end here. -/
def stopU (m : UInt8) (s : List UInt8) : Bool := s.isEmpty || s.head? == some m || decide (endU s ≠ 0)
/-- A field without quotes: how long it is, and whether a quote stands in its way. -/
def plnU (m : UInt8) : List UInt8 → Nat × Bool
  | [] => (0, false)
  | b :: r => if stopU m (b :: r) = true then (0, false) else if b = 34 then (0, true) else ((plnU m r).1 + 1, (plnU m r).2)
/-- A field, or why there is none and where. -/
inductive FU where
  | ok (f : List UInt8) (n : Nat)
  | bad (e n : Nat)
def fieldU (m : UInt8) (s : List UInt8) : FU :=
  match s with
  | 34 :: r => match quoU r with
    | none => .bad 1 (r.length + 1)
    | some (f, n) => if stopU m (r.drop n) = true then .ok f (n + 1) else .bad 2 (n + 1)
  | s => if (plnU m s).2 = true then .bad 2 (plnU m s).1 else .ok (s.take (plnU m s).1) (plnU m s).1
theorem quoU_le : ∀ (s f : List UInt8) (n : Nat), quoU s = some (f, n) → n ≤ s.length ∧ 1 ≤ n ∧ f.length + 1 ≤ n
  | [], _, _, h => by simp [quoU] at h
  | [b], f, n, h => by
    unfold quoU at h
    split at h
    · cases h; simp
    · cases h
  | b :: c :: r, f, n, h => by
    unfold quoU at h
    split at h
    · split at h
      · obtain ⟨⟨f', n'⟩, h1, h2⟩ := Option.map_eq_some_iff.1 h
        cases h2
        have := quoU_le r f' n' h1
        simp
        omega
      · cases h
        simp
    · obtain ⟨⟨f', n'⟩, h1, h2⟩ := Option.map_eq_some_iff.1 h
      cases h2
      have := quoU_le (c :: r) f' n' h1
      simp at this ⊢
      omega
theorem plnU_le (m : UInt8) : ∀ s : List UInt8, (plnU m s).1 ≤ s.length
  | [] => by simp [plnU]
  | b :: r => by
    unfold plnU
    split
    · simp
    · split
      · simp
      · have := plnU_le m r
        simp
        omega
theorem endU_le (s : List UInt8) : endU s ≤ s.length ∧ endU s ≤ 2 := by
  unfold endU
  split <;> simp
theorem fieldU_le {m : UInt8} {s f : List UInt8} {n : Nat} (h : fieldU m s = .ok f n) : n ≤ s.length ∧ f.length ≤ s.length := by
  unfold fieldU at h
  split at h
  · split at h
    · cases h
    · next f' n' hq =>
      have := quoU_le _ _ _ hq
      split at h
      · cases h; simp; omega
      · cases h
  · split at h
    · cases h
    · cases h
      have := plnU_le m s
      simp
      omega
/-- What is read: the rows, or why there are none and where. -/
structure RU where
  e : Nat
  at' : Nat
  rows : List (List (List UInt8))
/-- The reading of what is left, with the rows that are read, the row that is being read, from a place on: 'inrow': a field is to come. -/
def readU (m : UInt8) : Nat → List UInt8 → Nat → List (List (List UInt8)) → List (List UInt8) → Bool → RU
  | 0, _, _, rows, _, _ => ⟨0, 0, rows⟩
  | k + 1, s, i, rows, row, true => match fieldU m s with
    | .bad e n => ⟨e, i + n, []⟩
    | .ok f n => if (s.drop n).head? = some m then readU m k (s.drop (n + 1)) (i + n + 1) rows (row ++ [f]) true
      else readU m k (s.drop (n + endU (s.drop n))) (i + n + endU (s.drop n)) (rows ++ [row ++ [f]]) [] false
  | k + 1, s, i, rows, _, false => if s.isEmpty = true then ⟨0, 0, rows⟩ else readU m k s i rows [] true

end Go.Proofs.YtkjbeciiecljgaaDoor
