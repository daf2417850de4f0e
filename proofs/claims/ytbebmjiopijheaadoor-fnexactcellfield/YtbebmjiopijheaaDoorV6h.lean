/-
  Chapter 6: ShowValue, on both sides; the law.
-/
import Derived.Test.YtbebmjiopijheaaDoorV9e
import Derived.Test.YtbebmjiopijheaaDoorV6g
namespace Go.Proofs.YtbebmjiopijheaaDoor
open Go.RowKit

/-- What a value shows. -/
def showT (k : Int) (n : Bool) (d x : Int) (t : List UInt8) : List UInt8 := if k = 0 then [] else if k = 1 then textT n d x else t
def showV (k : Int) (n : Bool) (d x : Int) (t : List UInt8) : List UInt8 := if goodV k n d x t then showT k n d x t else []
theorem field_text (k : Int) (n : Bool) (d x : Int) (t : List UInt8) (W : World) : (Instr.field 30 (valV k n d x t) 2).run Tryd.prog W = .ok (sV t) W := by kernel_rfl
theorem textOf_show (k : Int) (n : Bool) (d x : Int) (t : List UInt8) : ∃ k2 n2 d2 x2, textOf k n d x t = valV k2 n2 d2 x2 (showT k n d x t) := by
  unfold textOf showT
  split
  · exact ⟨_, _, _, _, rfl⟩
  · split
    · exact ⟨_, _, _, _, rfl⟩
    · split
      · exact ⟨_, _, _, _, rfl⟩
      · exact ⟨_, _, _, _, rfl⟩
set_option maxRecDepth 8000 in
set_option maxHeartbeats 2000000 in
theorem showI (k : Int) (n : Bool) (d x : Int) (t : List UInt8) (w : World) (hl : t.length ≤ 2000000) (d1 : -9223372036854775808 ≤ d) (d2 : d ≤ 9223372036854775807) (hT : Tens w) (hE : ErrTab w) (hI : ItoaC w) :
    Calls Tryd.prog 12 #[valV k n d x t] w fun e w' => e = .returned (sV (showV k n d x t)) ∧ Ext w w' := by
  obtain ⟨R, hR⟩ : ∃ R, showV k n d x t = R := ⟨_, rfl⟩
  have HR0 : Hid (showV k n d x t = R) := hR
  rw [hR]
  clear hR
  have X := x1 w (.cells #[.int .i64 k, .bool n, .int .i64 d, .int .i64 x, sV t] 30)
  have B1 := vec_made w (valL k n d x t) 30
  obtain ⟨wa, ha⟩ : ∃ wa, w.alloc (.cells #[.int .i64 k, .bool n, .int .i64 d, .int .i64 x, sV t] 30) = wa := ⟨_, rfl⟩
  change Vec (w.alloc (.cells #[.int .i64 k, .bool n, .int .i64 d, .int .i64 x, sV t] 30)) _ _ at B1
  rw [ha] at X B1
  obtain ⟨a0, a1, a2, a3, a4⟩ := Vec.five B1
  go_enter Tryd.func12, Tryd.ntmps12
  go_wp2_with fail
  clear ha a0 a1 a2 a3 a4
  refine (goodVI k n d x t wa hl d1 d2 (hT.later X) (hE.later X)).mono ?_
  rintro e w1 ⟨rfl, e1⟩
  have C1 := B1.later e1
  have X1 := xt X e1
  clear B1
  obtain ⟨g, hg⟩ : ∃ g, goodV k n d x t = g := ⟨_, rfl⟩
  rw [hg]
  cases g
  · have HR : Hid ([] = R) := by show _ = _; rw [← HR0.out]; simp [showV, hg]
    clear hg
    go_wp2_with fail
    go_ret
    exact ⟨congrArg (fun l => Ending.returned (sV l)) HR.out, X1⟩
  · have HR : Hid (showT k n d x t = R) := by show _ = _; rw [← HR0.out]; simp [showV, hg]
    obtain ⟨a0, a1, a2, a3, a4⟩ := Vec.five C1
    go_wp2_with fail
    clear a0 a1 a2 a3 a4
    refine (textOfI k n d x t w1 hl d1 d2 (hT.later X1) (hE.later X1) (hI.later X1)).mono ?_
    rintro e w2 ⟨rfl, e2⟩
    obtain ⟨k2, n2, d2, x2, hv⟩ := textOf_show k n d x t
    rw [show textOfV k n d x t = textOf k n d x t by simp [textOfV, hg], hv]
    obtain ⟨u, hu⟩ : ∃ u, showT k n d x t = u := ⟨_, rfl⟩
    rw [hu] at HR ⊢
    clear hv hu hg
    have hf := fun W => field_text k2 n2 d2 x2 u W
    go_wp2_with fail
    go_ret
    exact ⟨congrArg (fun l => Ending.returned (sV l)) HR.out, xt X1 e2⟩
set_option maxRecDepth 8000 in
set_option maxHeartbeats 2000000 in
theorem showS (k : Int) (n : Bool) (d x : Int) (t : List UInt8) (w : World) (hl : t.length ≤ 2000000) :
    Calls Tryd.prog 20 #[valV k n d x t] w fun e w' => e = .returned (sV (showV k n d x t)) ∧ Ext w w' := by
  obtain ⟨R, hR⟩ : ∃ R, showV k n d x t = R := ⟨_, rfl⟩
  have HR0 : Hid (showV k n d x t = R) := hR
  rw [hR]
  clear hR
  have X := x1 w (.cells #[.int .i64 k, .bool n, .int .i64 d, .int .i64 x, sV t] 30)
  have B1 := vec_made w (valL k n d x t) 30
  obtain ⟨wa, ha⟩ : ∃ wa, w.alloc (.cells #[.int .i64 k, .bool n, .int .i64 d, .int .i64 x, sV t] 30) = wa := ⟨_, rfl⟩
  change Vec (w.alloc (.cells #[.int .i64 k, .bool n, .int .i64 d, .int .i64 x, sV t] 30)) _ _ at B1
  rw [ha] at X B1
  obtain ⟨a0, a1, a2, a3, a4⟩ := Vec.five B1
  go_enter Tryd.func20, Tryd.ntmps20
  go_wp2_with fail
  clear ha a0 a1 a2 a3 a4
  refine (goodVS k n d x t wa hl).mono ?_
  rintro e w1 ⟨rfl, e1⟩
  have C1 := B1.later e1
  have X1 := xt X e1
  clear B1
  obtain ⟨g, hg⟩ : ∃ g, goodV k n d x t = g := ⟨_, rfl⟩
  rw [hg]
  cases g
  · have HR : Hid ([] = R) := by show _ = _; rw [← HR0.out]; simp [showV, hg]
    clear hg
    go_wp2_with fail
    go_ret
    exact ⟨congrArg (fun l => Ending.returned (sV l)) HR.out, X1⟩
  · have HR : Hid (showT k n d x t = R) := by show _ = _; rw [← HR0.out]; simp [showV, hg]
    obtain ⟨a0, a1, a2, a3, a4⟩ := Vec.five C1
    go_wp2_with fail
    clear a0 a1 a2 a3 a4
    refine (asTextS k n d x t w1).mono ?_
    rintro e w2 ⟨rfl, e2⟩
    obtain ⟨k2, n2, d2, x2, hv⟩ := textOf_show k n d x t
    rw [hv]
    obtain ⟨u, hu⟩ : ∃ u, showT k n d x t = u := ⟨_, rfl⟩
    rw [hu] at HR ⊢
    clear hv hu hg
    have hf := fun W => field_text k2 n2 d2 x2 u W
    go_wp2_with fail
    go_ret
    exact ⟨congrArg (fun l => Ending.returned (sV l)) HR.out, xt X1 e2⟩

end Go.Proofs.YtbebmjiopijheaaDoor

