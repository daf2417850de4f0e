/-
  What has turned lies between two blocks.
-/
import Derived.Test.YtkjbeciiecljgaaDoorVek
namespace Go.Proofs.YtkjbeciiecljgaaDoor
open Go.RowKit

/-- Only blocks between two have turned. -/
structure TurnedIn (lo hi : Nat) (w w' : World) : Prop where
  ext : ∀ a, Ext a w → a.heap.size ≤ lo → Ext a w'
  vec : ∀ b L, (b < lo ∨ hi ≤ b) → Vec w b L → Vec w' b L
  size : w.heap.size ≤ w'.heap.size
  cell : ∀ (a : Addr) (u : Value), (a.block < lo ∨ hi ≤ a.block) → w.cell? a = some u → w'.cell? a = some u
  froz : ∀ (a : Addr) (u : Value), (a.block < lo ∨ hi ≤ a.block) → w.cell? a = some u → w.frozen? a = false → w'.frozen? a = false
theorem TurnedIn.refl (lo hi : Nat) (w : World) : TurnedIn lo hi w w := ⟨fun _ h _ => h, fun _ _ _ h => h, Nat.le_refl _, fun _ _ _ h => h, fun _ _ _ _ h => h⟩
theorem TurnedIn.step {lo hi : Nat} {w w1 w2 : World} (h : TurnedIn lo hi w w1) (x : Ext w1 w2) : TurnedIn lo hi w w2 := ⟨fun a ha hg => xt (h.ext a ha hg) x, fun b L hb hL => (h.vec b L hb hL).later x, Nat.le_trans h.size x.size, fun a u ha hu => cell_later x (h.cell a u ha hu), fun a u ha hu hf => frozen_later x (h.cell a u ha hu) (h.froz a u ha hu hf)⟩
theorem TurnedIn.put {lo hi : Nat} {w w1 : World} (h : TurnedIn lo hi w w1) (g j : Nat) (hg : lo ≤ g ∧ g < hi) (u : Value) : TurnedIn lo hi w (w1.setCell ⟨g, j, none⟩ u) :=
  ⟨fun a ha hl => xset (h.ext a ha hl) (p := ⟨g, j, none⟩) (Nat.le_trans hl hg.1) u, fun b L hb hL => (h.vec b L hb hL).far (p := ⟨g, j, none⟩) (fun e => by have : g = b := e; omega) u, Nat.le_trans h.size (by simp [World.setCell]),
    fun a v ha hv => by rw [World.cell?_setCell_other _ _ _ _ (fun e => by rw [← e] at ha; simp at ha; omega)]; exact h.cell a v ha hv, fun a v ha hv hf => by rw [World.frozen?_setCell]; exact h.froz a v ha hv hf⟩
theorem TurnedIn.trans {lo hi : Nat} {w w1 w2 : World} (h : TurnedIn lo hi w w1) (k : TurnedIn lo hi w1 w2) : TurnedIn lo hi w w2 := ⟨fun a ha hg => k.ext a (h.ext a ha hg) hg, fun b L hb hL => k.vec b L hb (h.vec b L hb hL), Nat.le_trans h.size k.size, fun a u ha hu => k.cell a u ha (h.cell a u ha hu), fun a u ha hu hf => k.froz a u ha (h.cell a u ha hu) (h.froz a u ha hu hf)⟩
theorem TurnedIn.mono {lo hi lo' hi' : Nat} {w w1 : World} (h : TurnedIn lo hi w w1) (h1 : lo' ≤ lo) (h2 : hi ≤ hi') : TurnedIn lo' hi' w w1 := ⟨fun a ha hg => h.ext a ha (by omega), fun b L hb hL => h.vec b L (by omega) hL, h.size, fun a u ha hu => h.cell a u (by omega) hu, fun a u ha hu hf => h.froz a u (by omega) hu hf⟩

end Go.Proofs.YtkjbeciiecljgaaDoor
