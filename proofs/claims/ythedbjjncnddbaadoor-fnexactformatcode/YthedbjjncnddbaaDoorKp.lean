/-
  Chapter 10: codes of formats, plain: what a section is as the specification reads it, and as the program scans it.
-/
import Derived.Test.YthedbjjncnddbaaDoorFe
import Derived.Test.YthedbjjncnddbaaDoorKa
import Derived.Lib.Strings
import Derived.Lib.SlTrimSet
namespace Go.Proofs.YthedbjjncnddbaaDoor
open Go.RowKit

abbrev BL := List UInt8
def runF (c : UInt8) (m : Nat) (l : BL) : Nat := min (l.takeWhile (· == c)).length m
/-- A text in quotes ahead: the text, and what is left. -/
def qT : BL → Option (BL × BL)
  | [] => none
  | c :: r =>
    if c == 34 then
      if (r.dropWhile (· != 34)) ≠ [] ∧ (r.takeWhile (· != 34)) ≠ [] ∧ (r.takeWhile (· != 34)).length ≤ 20 ∧ plainB (r.takeWhile (· != 34)) = true then some (r.takeWhile (· != 34), (r.dropWhile (· != 34)).drop 1) else none
    else none
def quoLen (l : BL) : Nat := match qT l with
  | some x => x.1.length + 2
  | none => 0
def wordsT : List BL := [[121, 121, 121, 121], [121, 121], [109, 109], [109], [100, 100], [100], [104, 104], [110, 110], [115, 115], [45], [47], [58], [46], [32]]
def wordF (l : BL) : BL := (wordsT.find? fun o => Lib.hasPrefix l o).getD []
def dateN : Nat → BL → Nat
  | 0, _ => 0
  | k + 1, l => (wordF l).length + dateN k (l.drop (wordF l).length)
def letF (c : UInt8) : Bool := decide (97 ≤ c.toNat ∧ c.toNat ≤ 122 ∨ 65 ≤ c.toNat ∧ c.toNat ≤ 90)
def dateLen : BL → Nat
  | [] => 0
  | c :: r => if letF c then dateN 12 (c :: r) else 0
/-- The words of a date's row, as the specification reads them. -/
def partsF : Nat → BL → Option (List BL)
  | 0, l => if l = [] then some [] else none
  | k + 1, l => if l = [] then some [] else if wordF l = [] then none else (partsF k (l.drop (wordF l).length)).map (wordF l :: ·)
def partsOK (d : BL) : Bool := match partsF d.length d with
  | some ps => decide (1 ≤ ps.length ∧ ps.length ≤ 12) && letF (d.getD 0 0)
  | none => false
def sepC (c : UInt8) : Bool := c != 34 && c != 59

/-- What the specification's quoted gives. -/
def quoS (l : BL) : Option (BL × BL) := if Lib.hasPrefix l [34] then qT l else some ([], l)
def numS (b : BL) (l : BL) : Option (KT × BL) :=
  let g := Lib.hasPrefix l [35, 44]
  let l2 := if g then l.drop 2 else l
  let w := runF 48 9 l2
  if w = 0 then none else
  let l3 := l2.drop w
  let pt := Lib.hasPrefix l3 [46]
  let l4 := if pt then l3.drop 1 else l3
  let p := if pt then runF 48 9 l4 else 0
  let l5 := l4.drop p
  let m := if pt then runF 35 9 l5 else 0
  if pt = true ∧ p + m = 0 then none else
  let l6 := l5.drop m
  let t := runF 37 3 l6
  (quoS (l6.drop t)).map fun x => (⟨false, b, x.1, w, p, m, g, t, []⟩, x.2)
def dateS (b : BL) (l : BL) : Option (KT × BL) :=
  let d := l.takeWhile sepC
  if partsOK d then (quoS (l.drop d.length)).map fun x => (⟨false, b, x.1, 0, 0, 0, false, 0, d⟩, x.2) else none
def secS (l : BL) : Option (KT × BL) :=
  match quoS l with
  | none => none
  | some x => if Lib.hasPrefix x.2 [35, 44] || Lib.hasPrefix x.2 [48] then numS x.1 x.2 else dateS x.1 x.2

/-- The program's table. -/
def aheadT : List Nat := [0, 1, 3, 7, 8, 16, 48, 104, 3, 488, 1000]
def mayB (part last : Nat) : Bool := (aheadT.getD part 0) / 2 ^ last % 2 == 1
def partLen (part : Nat) (l : BL) : Nat := match part with
  | 1 => quoLen l
  | 2 => if Lib.hasPrefix l [35, 44] then 2 else 0
  | 3 => runF 48 9 l
  | 4 => runF 46 1 l
  | 5 => runF 48 9 l
  | 6 => runF 35 9 l
  | 7 => runF 37 3 l
  | 8 => dateLen l
  | 9 => quoLen l
  | _ => 0
def takeP (part : Nat) (x : BL) (f : KT) : KT := match part with
  | 1 => { f with bf := Lib.trimS x [34] }
  | 2 => { f with gr := true }
  | 3 => { f with wh := x.length }
  | 5 => { f with pl := x.length }
  | 6 => { f with mb := x.length }
  | 7 => { f with tm := x.length }
  | 8 => { f with dt := x }
  | 9 => { f with af := Lib.trimS x [34] }
  | _ => f
def fitP (last : Nat) (l : BL) (p : Nat) : Bool := mayB p last && decide (0 < partLen p l)
def nextP (last : Nat) (l : BL) : Option Nat := (List.range 10).find? (fitP last l)
def scanK : Nat → Nat → BL → KT → KT × BL × Nat
  | 0, last, l, f => (f, l, last)
  | k + 1, last, l, f => match nextP last l with
    | none => (f, l, last)
    | some p => scanK k p (l.drop (partLen p l)) (takeP p (l.take (partLen p l)) f)
def secI (l : BL) : KT × BL × Nat := scanK 10 0 l zeroKT

theorem may_lt : ∀ p, p < 11 → ∀ last, last < 11 → mayB p last = true → last < p := by decide

/-- What is read, as both do it: at most so many sections. -/
def readL : Nat → BL → List KT → List KT
  | 0, _, _ => []
  | k + 1, l, acc => match secS l with
    | none => []
    | some x => if acc.length = 3 then [] else if x.2 = [] then acc ++ [x.1] else if Lib.hasPrefix x.2 [59] then readL k (x.2.drop 1) (acc ++ [x.1]) else []
def readF (l : BL) : List KT := if 100 < l.length then [] else readL 4 l []

end Go.Proofs.YthedbjjncnddbaaDoor
