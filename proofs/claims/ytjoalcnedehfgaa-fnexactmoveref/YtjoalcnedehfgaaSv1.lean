/-
  Texts as values; a row made.
-/
import Derived.Test.YtjoalcnedehfgaaVek
namespace Go.Proofs.Ytjoalcnedehfgaa
open Go.RowKit

abbrev sV (l : List UInt8) : Value := .string ⟨l.toArray⟩
theorem vec_made (w : World) (l : List Value) (t : TypeId) : Vec (w.alloc (.cells l.toArray t)) w.heap.size l := by
  intro i v hi
  have hb := heap_alloc_new w (.cells l.toArray t)
  refine ⟨?_, ?_⟩
  · unfold World.cell?
    simp only [hb]
    simpa using hi
  · unfold World.frozen?
    simp only [hb]
    simp

end Go.Proofs.Ytjoalcnedehfgaa
