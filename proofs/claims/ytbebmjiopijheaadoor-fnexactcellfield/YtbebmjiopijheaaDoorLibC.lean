/-
  What strings.Repeat and strconv.Itoa give: out of the kit's contracts, laid at this dump.
-/
import Derived.Test.YtbebmjiopijheaaDoorLibD
import Derived.Test.YtbebmjiopijheaaDoorShelf
import Derived.WalkSmall
import Derived.Lib.LaidTab
namespace Go.Proofs.YtbebmjiopijheaaDoor
open Go.RowKit

theorem shelfExtra : Builder.Extra Tryd.prog layRepeat_ren := {
  sizeBuilder := by kernel_rfl
  liesBuilder := by kernel_rfl
  t5 := layRepeat.t5
  a5 := layRepeat.a5
  z5 := layRepeat.z5
  v5 := layRepeat.v5
  infoByte := by kernel_rfl
  cellsByte := by kernel_rfl
  sizeByte := by kernel_rfl
  neB5 := by decide }
theorem fRepeat : layRepeat_ren.f 105 = 13 := by kernel_rfl
theorem fItoa : layItoa_ren.f 171 = 48 := by kernel_rfl

theorem repC : RepC := by
  intro c w h0 h1
  obtain ⟨n, rfl⟩ : ∃ n : Nat, c = (n : Int) := ⟨c.toNat, by omega⟩
  have h := Any.strings_Repeat layRepeat shelfExtra ⟨#[48]⟩ n w (by omega) (by show 1 * n ≤ _; omega)
  rw [fRepeat] at h
  refine h.mono fun e w' ⟨he, hw⟩ => ⟨_, he, ?_, hw⟩
  have e := Lib.repeatL_replicate 48 1 n
  simp only [Nat.mul_one] at e
  show Lib.repeatL [48] n = List.replicate ((n : Int)).toNat 48
  rw [Int.toNat_natCast, ← e]
  rfl

theorem gPow10 : Tryd.prog.globalNamed "internal/strconv.uint64pow10" = some 3 := by kernel_rfl
theorem grow_ext (w : World) (k : Nat) (os : Array Obj) : Ext w (Sort.grow (w.drewN k) os) :=
  ⟨rfl, rfl, rfl, by simp [Sort.grow, World.drewN], fun i hi => by simp [Sort.grow, World.drewN, Array.getElem?_append_left hi]⟩

theorem itoaC {w0 : World} (h0 : Lib.TabIs Tryd.prog w0 "internal/strconv.uint64pow10" .u64 Lib.pow10Tab) : ItoaC w0 := by
  intro n w b0 b1 X
  have hlt : 3 < w0.heap.size := by
    have h := h0
    unfold Lib.TabIs World.var? at h
    simp only [gPow10, Option.bind_some] at h
    by_cases hk : 3 < w0.heap.size
    · exact hk
    · rw [Array.getElem?_eq_none (by omega)] at h
      cases h
  have h := Any.strconv_Itoa layItoa n (by omega) (by omega) w (var?_below X gPow10 hlt h0)
  rw [fItoa] at h
  refine h.mono fun e w' ⟨he, k, os, hw⟩ => ⟨_, he, rfl, ?_⟩
  subst hw
  exact grow_ext w k os

end Go.Proofs.YtbebmjiopijheaaDoor

