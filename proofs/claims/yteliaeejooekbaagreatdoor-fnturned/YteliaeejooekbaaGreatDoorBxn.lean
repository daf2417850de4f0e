/-
  A block of cells as one fact.
-/
import Derived.RangeFuncNested
import Derived.RangeFuncBound
import Derived.RangeFuncCalls
import Derived.RangeFuncLeaves
import Derived.Shelf.Abstract
import Derived.WalkKit
import Derived.OwnWalkIn
import Derived.Test.YteliaeejooekbaaGreatDoorMg1
set_option maxRecDepth 8000
namespace Go.Proofs.YteliaeejooekbaaGreatDoor
open Go.RowKit Go.Shelf
def BoxN (W:World) (B:Nat) (t:TypeId) (l:List Value):Prop:=W.heap[B]?=some (.cells l.toArray t (0,0))
theorem BoxN.lt {W:World} {B:Nat} {t:TypeId} {l:List Value} (h:BoxN W B t l):B<W.heap.size:=(Array.getElem?_eq_some_iff.1 h).1
theorem BoxN.vec {W:World} {B:Nat} {t:TypeId} {l:List Value} (h:BoxN W B t l):Vec W B l:=by
 intro i v hi;have hb:W.heap[B]?=_:=h;refine ⟨?_,?_⟩
 ·unfold World.cell?;simp only [hb];simpa using hi
 ·unfold World.frozen?;simp only [hb];simp
theorem BoxN.kept {W W':World} {B:Nat} {t:TypeId} {l:List Value} {row:Option Nat} (h:BoxN W B t l) (hg:W.grownBy W' row) (hr:some B ≠ row):BoxN W' B t l:=(hg.block B h.lt hr).trans h
theorem BoxN.alloc {W:World} {B:Nat} {t:TypeId} {l:List Value} (h:BoxN W B t l) (o:Obj):BoxN (W.alloc o) B t l:=h.kept (World.grownBy_alloc W o none) (by simp)
theorem BoxN.new (W:World) (t:TypeId) (l:List Value):BoxN (W.alloc (.cells l.toArray t)) W.heap.size t l:=World.alloc_heap_new W _
theorem BoxN.ext {W W':World} {B:Nat} {t:TypeId} {l:List Value} (h:BoxN W B t l) (x:Ext W W'):BoxN W' B t l:=(x.block B h.lt).trans h
theorem zLN {β:Type} (B:Nat) (t:TypeId) (f:β->List Value):Own (fun s W=>BoxN W B t (f s)):=fun s X Y row hs hg hrow =>
 hs.kept hg (fun e'=>by obtain ⟨o,ho,hc⟩:=hrow B e'.symm;rw [show X.heap[B]?=_ from hs] at ho;cases ho;cases hc)
end Go.Proofs.YteliaeejooekbaaGreatDoor

