/-
  What the library's functions give that addresses call: out of the kit's contracts, laid at this dump.
-/
import Derived.Test.YtifangkifpnnpaaGreatDoorLibP
import Derived.Test.YtifangkifpnnpaaGreatDoorShelf
import Derived.WalkSmall
import Derived.Lib.LaidTab
import Derived.Lib.AtoiErrMem
namespace Go.Proofs.YtifangkifpnnpaaGreatDoor
open Go.RowKit

theorem fItoa : layItoa_ren.f 171 = 19 := by kernel_rfl
theorem gPow10 : Tryz.prog.globalNamed "internal/strconv.uint64pow10" = some 1 := by kernel_rfl
theorem grow_ext (w : World) (k : Nat) (os : Array Obj) : Ext w (Sort.grow (w.drewN k) os) :=
  ⟨rfl, rfl, rfl, by simp [Sort.grow, World.drewN], fun i hi => by simp [Sort.grow, World.drewN, Array.getElem?_append_left hi]⟩

theorem itoaC {w0 : World} (h0 : Lib.TabIs Tryz.prog w0 "internal/strconv.uint64pow10" .u64 Lib.pow10Tab) : ItoaC w0 := by
  intro n w b0 b1 X
  have hlt : 1 < w0.heap.size := by
    have h := h0
    unfold Lib.TabIs World.var? at h
    simp only [gPow10, Option.bind_some] at h
    by_cases hk : 1 < w0.heap.size
    · exact hk
    · rw [Array.getElem?_eq_none (by omega)] at h
      cases h
  have h := Any.strconv_Itoa layItoa n (by omega) (by omega) w (var?_below X gPow10 hlt h0)
  rw [fItoa] at h
  refine h.mono fun e w' ⟨he, k, os, hw⟩ => ⟨_, he, rfl, ?_⟩
  subst hw
  exact grow_ext w k os

end Go.Proofs.YtifangkifpnnpaaGreatDoor
