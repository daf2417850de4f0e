/-
  A row of cells written in a block, at once.
-/
import Derived.Test.YtjoalcnedehfgaaSv1
import Derived.Deep.MidRow
namespace Go.Proofs.Ytjoalcnedehfgaa
open Go.RowKit


theorem Ext.setCells {a : World} {b : Nat} (hb : a.heap.size ≤ b) : ∀ (vs : List Value) (o : Nat) (w : World), Ext a w → Ext a (w.setCells b o vs)
  | [], _, _, h => h
  | v :: vs, o, _, h => Ext.setCells hb vs (o + 1) _ (xset (p := ⟨b, o, none⟩) h hb v)
def setsN (M : List Value) : Nat → List Value → List Value
  | _, [] => M
  | o, u :: us => setsN (M.set o u) (o + 1) us
theorem vec_setCellsN {g : Nat} : ∀ (us : List Value) (o : Nat) (w : World) (M : List Value), Vec w g M → o + us.length ≤ M.length → Vec (w.setCells g o us) g (setsN M o us)
  | [], _, _, _, V, _ => V
  | u :: us, o, w, M, V, h => by
    rw [List.length_cons] at h
    exact vec_setCellsN us (o + 1) _ (M.set o u) (V.put o (by omega) u) (by rw [List.length_set]; omega)
theorem vec_thereN {w : World} {g o k : Nat} {M : List Value} (V : Vec w g M) (h : o + k ≤ M.length) : w.there g o k := fun j hj => by
  obtain ⟨u, hu⟩ : ∃ u, M[o + j]? = some u := ⟨_, List.getElem?_eq_getElem (by omega)⟩
  exact ⟨by rw [(V _ u hu).1]; rfl, (V _ u hu).2⟩
theorem grown_setCells (g : Nat) : ∀ (us : List Value) (o : Nat) (w : World), w.grownBy (w.setCells g o us) (some g)
  | [], _, w => ⟨rfl, rfl, rfl, Nat.le_refl _, fun _ _ _ => rfl⟩
  | u :: us, o, w => by
    have ih := grown_setCells g us (o + 1) (w.setCell ⟨g, o, none⟩ u)
    refine ⟨ih.os, ih.tape, ih.output, ?_, fun k hk hne => ?_⟩
    · have := ih.size
      rw [World.size_setCell] at this
      exact this
    · exact (ih.block k (by rw [World.size_setCell]; exact hk) hne).trans (Below.heap_setCell _ _ _ _ (fun e => hne (by rw [e])))

end Go.Proofs.Ytjoalcnedehfgaa
