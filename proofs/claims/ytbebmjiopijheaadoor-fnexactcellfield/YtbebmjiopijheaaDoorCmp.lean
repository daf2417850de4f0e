/-
  l1Cmp: two numbers compared.
-/
import Derived.Test.YtbebmjiopijheaaDoorCmpD
import Derived.Deep.RegionHeld3
namespace Go.Proofs.YtbebmjiopijheaaDoor
open Go.RowKit

theorem cmp_abs_neg {a b : Int} (ha : a < 0) (hb : b < 0) : -cmpI (a.natAbs : Int) (b.natAbs : Int) = cmpI a b := by
  have e1 : (a.natAbs : Int) = -a := by omega
  have e2 : (b.natAbs : Int) = -b := by omega
  rw [e1, e2, cmpI_neg]; simp
theorem cmp_abs_pos {a b : Int} (ha : ¬ a < 0) (hb : ¬ b < 0) : cmpI (a.natAbs : Int) (b.natAbs : Int) = cmpI a b := by
  have e1 : (a.natAbs : Int) = a := by omega
  have e2 : (b.natAbs : Int) = b := by omega
  rw [e1, e2]

theorem neg_is {v : Value} {z : Int} (c : Bool) (w : World) (hc : decide (z < 0) = c) (h : ZV w v z) :
    Calls Tryd.prog 62 #[v] w fun e w' => e = .returned (.bool c) ∧ Ext w w' := by
  rw [← hc]; exact neg_any w h
theorem cmpI_bd (a b : Int) : -1 ≤ cmpI a b ∧ cmpI a b ≤ 1 := by unfold cmpI; split <;> (try split) <;> omega
theorem cmpL_any {va vb : Value} {a b : Int} (w : World) (ha : Limbs w va a) (hb : Limbs w vb b) :
    Calls Tryd.prog 66 #[va, vb] w fun e w' => e = .returned (.int .i64 (cmpI a b)) ∧ Ext w w' := by
  obtain ⟨xs, h1, h2, h3, rfl⟩ := ha
  obtain ⟨ys, k1, k2, k3, rfl⟩ := hb
  exact cmpD_any w h1 k1 h2 k2 h3 k3

end Go.Proofs.YtbebmjiopijheaaDoor

