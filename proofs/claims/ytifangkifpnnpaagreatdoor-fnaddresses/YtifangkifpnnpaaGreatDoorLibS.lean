/-
  What the library's functions give that the readers of addresses call: out of the kit's contracts, laid at this dump.
-/
import Derived.Test.YtifangkifpnnpaaGreatDoorLibR
import Derived.Test.YtifangkifpnnpaaGreatDoorAdR
import Derived.Test.YtifangkifpnnpaaGreatDoorRt
namespace Go.Proofs.YtifangkifpnnpaaGreatDoor
open Go.RowKit

/-- What the library's functions read of the world. -/
def LibW (w : World) : Prop := (∃ m, w.cell? ⟨0, 0, none⟩ = some (.int .i64 m)) ∧ (∃ tp p, w.var? Tryz.prog "strconv.ErrSyntax" = some #[.iface tp p]) ∧ ∃ tp p, w.var? Tryz.prog "strconv.ErrRange" = some #[.iface tp p]
theorem gSyntax : Tryz.prog.globalNamed "strconv.ErrSyntax" = some 4 := by kernel_rfl
theorem gRange : Tryz.prog.globalNamed "strconv.ErrRange" = some 5 := by kernel_rfl
theorem var_lt {w : World} {n : String} {g : Nat} {cs : Array Value} (hg : Tryz.prog.globalNamed n = some g) (h : w.var? Tryz.prog n = some cs) : g < w.heap.size := by
  unfold World.var? at h
  simp only [hg, Option.bind_some] at h
  by_cases hk : g < w.heap.size
  · exact hk
  · rw [Array.getElem?_eq_none (by omega)] at h
    cases h
theorem LibW.later {w w' : World} (h : LibW w) (x : Ext w w') : LibW w' := by
  obtain ⟨⟨m, a⟩, ⟨t1, p1, b⟩, t2, p2, c⟩ := h
  exact ⟨⟨m, cell_later x a⟩, ⟨t1, p1, var?_below x gSyntax (var_lt gSyntax b) b⟩, t2, p2, var?_below x gRange (var_lt gRange c) c⟩

theorem fCutPrefix : layCutPrefix_ren.f 103 = 29 := by kernel_rfl
theorem fAtoi : layAtoi_ren.f 172 = 54 := by kernel_rfl
theorem fTrimLeft : layTrimLeft_ren.f 161 = 30 := by kernel_rfl
theorem fCut : layCut_ren.f 145 = 34 := by kernel_rfl
theorem gMaxLen : layCut_ren.g 1 = 0 := by kernel_rfl
theorem fTrimPrefix : layTrimPrefix_ren.f 101 = 35 := by kernel_rfl
theorem fTrimSuffix : layTrimSuffix_ren.f 102 = 58 := by kernel_rfl

theorem cutPrefixC (l : List UInt8) (b : UInt8) (w : World) :
    Calls Tryz.prog 29 #[.string (bs l), .string ⟨#[b]⟩] w fun e w' => e = .returned (.tuple #[.string (bs (Lib.trimPrefix l [b])), .bool (Lib.hasPrefix l [b])]) ∧ w' = w := by
  have h := Any.strings_CutPrefix layCutPrefix (bs l) ⟨#[b]⟩ w
  rw [fCutPrefix] at h
  exact h
theorem trimLeftC (l : List UInt8) (w : World) :
    Calls Tryz.prog 30 #[.string (bs l), .string ⟨#[65, 66, 67, 68, 69, 70, 71, 72, 73, 74, 75, 76, 77, 78, 79, 80, 81, 82, 83, 84, 85, 86, 87, 88, 89, 90]⟩] w fun e w' => e = .returned (.string (bs (l.dropWhile isLet))) ∧ Ext w w' := by
  have h := Any.strings_TrimLeft_laid layTrimLeft (by kernel_rfl) (bs l) ⟨#[65, 66, 67, 68, 69, 70, 71, 72, 73, 74, 75, 76, 77, 78, 79, 80, 81, 82, 83, 84, 85, 86, 87, 88, 89, 90]⟩ w (by decide) (ascii_of_all (by decide))
  rw [fTrimLeft] at h
  rw [← trimLeft_eq]
  exact h
theorem cutC (l : List UInt8) (b : UInt8) (w : World) (hl : l.length ≤ 1048576) (LW : LibW w) :
    Calls Tryz.prog 34 #[.string (bs l), .string ⟨#[b]⟩] w fun e w' => e = .returned (.tuple #[.string (bs (Lib.cut l [b]).1), .string (bs (Lib.cut l [b]).2.1), .bool (Lib.cut l [b]).2.2]) ∧ Ext w w' := by
  obtain ⟨⟨m, hm⟩, _, _⟩ := LW
  have h := Any.strings_Cut layCut (bs l) ⟨#[b]⟩ m w (by rw [bs_size]; omega) (by rw [gMaxLen]; exact hm)
  rw [fCut] at h
  exact h.mono fun e w' ⟨he, n, hw⟩ => ⟨he, by rw [hw]; exact ⟨rfl, rfl, rfl, Nat.le_refl _, fun _ _ => rfl⟩⟩
theorem trimPrefixC (l : List UInt8) (b : UInt8) (w : World) :
    Calls Tryz.prog 35 #[.string (bs l), .string ⟨#[b]⟩] w fun e w' => e = .returned (.string (bs (Lib.trimPrefix l [b]))) ∧ w' = w := by
  have h := Any.strings_TrimPrefix layTrimPrefix (bs l) ⟨#[b]⟩ w
  rw [fTrimPrefix] at h
  exact h
theorem trimSuffixC (l : List UInt8) (b : UInt8) (w : World) (hl : l.length ≤ 1048576) :
    Calls Tryz.prog 58 #[.string (bs l), .string ⟨#[b]⟩] w fun e w' => e = .returned (.string (bs (Lib.trimSuffix l [b]))) ∧ w' = w := by
  have h := Any.strings_TrimSuffix layTrimSuffix (bs l) ⟨#[b]⟩ w (by rw [bs_size]; omega)
  rw [fTrimSuffix] at h
  exact h
theorem atoiC (l : List UInt8) (w : World) (hl : l.length ≤ 1048576) (LW : LibW w) :
    Calls Tryz.prog 54 #[.string (bs l)] w fun e w' => ∃ v ev, e = .returned (.tuple #[.int .i64 v, ev]) ∧ ((ev = .nilIface ∧ Lib.atoiAll l = .ok v) ∨ ((∃ T p, ev = .iface T p) ∧ ∀ u, Lib.atoiAll l ≠ .ok u)) ∧ Ext w w' := by
  obtain ⟨_, ⟨t1, p1, b⟩, t2, p2, c⟩ := LW
  have hs : (bs l).size ≤ 1048576 := by rw [bs_size]; exact hl
  have e0 : (bs l).data.toList = l := rfl
  cases ha : Lib.atoiAll l with
  | ok v =>
    have h := Any.strconv_Atoi_ok layAtoi (bs l) (by omega) v (by rw [e0]; exact ha) w
    rw [fAtoi] at h
    refine h.mono fun e w' ⟨he, hw⟩ => ⟨v, .nilIface, he, .inl ⟨rfl, rfl⟩, ?_⟩
    rcases hw with rfl | ⟨t, rfl⟩
    · exact xr _
    · exact Lib.bytesWorld_below _ _ _
  | «syntax» =>
    have h := Any.strconv_Atoi_syntax_var layAtoi (bs l) (by omega) (by rw [e0]; exact ha) t1 p1 w b
    rw [fAtoi] at h
    exact h.mono fun e w' ⟨N, he, _, _, hb⟩ => ⟨0, _, he, .inr ⟨⟨_, _, rfl⟩, fun u q => by cases q⟩, hb⟩
  | range =>
    have h := Any.strconv_Atoi_range_var layAtoi (bs l) (by omega) (by rw [e0]; exact ha) t2 p2 w c
    rw [fAtoi] at h
    exact h.mono fun e w' ⟨N, he, _, _, hb⟩ => ⟨_, _, he, .inr ⟨⟨_, _, rfl⟩, fun u q => by cases q⟩, hb⟩

set_option maxHeartbeats 1000000 in
theorem wholeC (l : List UInt8) (w : World) (hl : l.length ≤ 1048576) (LW : LibW w) :
    Calls Tryz.prog 31 #[.string (bs l)] w fun e w' => e = .returned (.int .i64 (whole l)) ∧ Ext w w' := by
  have AT := atoiC l w hl LW
  clear LW hl
  go_enter Tryz.func31, Tryz.ntmps31
  go_wp2_with fail
  refine AT.mono ?_
  rintro e w1 ⟨v, ev, rfl, h | h, e1⟩
  · obtain ⟨rfl, ha⟩ := h
    have hw : Hid (whole l = v) := by show _ = _; unfold whole; rw [ha]
    clear AT ha
    go_wp2_with fail
    go_ret
    exact ⟨ret_int hw.out.symm, e1⟩
  · obtain ⟨⟨T, p, rfl⟩, ha⟩ := h
    have hw : Hid (whole l = 0) := by
      show _ = _
      unfold whole
      split
      · rename_i v' h'
        exact absurd h' (ha v')
      · rfl
    clear AT ha
    go_wp2_with fail
    go_ret
    exact ⟨ret_int hw.out.symm, e1⟩

end Go.Proofs.YtifangkifpnnpaaGreatDoor
