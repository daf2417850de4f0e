/-
  Chapter 10: codes told by the program.
-/
import Derived.Test.YthedbjjncnddbaaDoorL6
import Derived.Test.YthedbjjncnddbaaDoorK5
namespace Go.Proofs.YthedbjjncnddbaaDoor
open Go.RowKit

theorem extraJ : Builder.Extra Tryd.prog layJoin_ren := {
  sizeBuilder := by kernel_rfl
  liesBuilder := by kernel_rfl
  t5 := layRepeat.t5
  a5 := layRepeat.a5
  z5 := layRepeat.z5
  v5 := layRepeat.v5
  infoByte := by kernel_rfl
  cellsByte := by kernel_rfl
  sizeByte := by kernel_rfl
  neB5 := by decide }
theorem fJoinK : layJoin_ren.f 156 = 24 := by kernel_rfl
theorem joinI (v : Value) (l : List BL) (base : Nat) (w : World) (h : OwnT w base v l) (hn : l.length ≤ 1000) (hlen : (Lib.join l [59]).length ≤ 100000000) :
    Calls Tryd.prog 24 #[v, sV [59]] w fun e w' => e = .returned (sV (Lib.join l [59])) ∧ Ext w w' := by
  rcases h.2 with ⟨rfl, h0⟩ | ⟨g, cap, cur, rfl, hb, hg, hc, _⟩
  · have hl : l = [] := List.length_eq_zero_iff.1 h0
    subst hl
    have q := Any.strings_Join_none layJoin extraJ none 0 ⟨#[59]⟩ w
    rw [fJoinK] at q
    exact q.mono fun e w' ⟨he, hw⟩ => ⟨he, hw ▸ xr _⟩
  · have hlt : g < w.heap.size := by
      rcases Nat.lt_or_ge g w.heap.size with h' | h'
      · exact h'
      · rw [Array.getElem?_eq_none h'] at hg; cases hg
    have hm : (l.map fun x => (⟨x.toArray⟩ : ByteArray)).map (·.data.toList) = l := by rw [List.map_map]; simp [Function.comp_def]
    have q := Any.strings_Join layJoin extraJ g 0 cap (l.map fun x => (⟨x.toArray⟩ : ByteArray)) ⟨#[59]⟩ w (fun j x hx => ?_) hlt (by rw [List.length_map]; omega) (by rw [List.length_map]; exact hc) (by rw [hm]; show (Lib.join l [59]).length ≤ _; omega)
    · rw [fJoinK, hm, List.length_map] at q
      exact q
    · rw [List.getElem?_map] at hx
      obtain ⟨y, hy, rfl⟩ := Option.map_eq_some_iff.1 hx
      have := h.cells (g := g) rfl j (sV y) (by rw [List.getElem?_map, hy]; rfl)
      rw [show (⟨g, 0, none⟩ : Addr).add j = ⟨g, 0 + j, none⟩ by unfold Addr.add; split <;> simp_all] at this
      exact this
def toldP (l : List KT) : BL := if 3 < l.length then [] else if l.any (fun f => !cntB f) then [] else if readF (Lib.join (l.map codeP) [59]) = l then Lib.join (l.map codeP) [59] else []

end Go.Proofs.YthedbjjncnddbaaDoor
