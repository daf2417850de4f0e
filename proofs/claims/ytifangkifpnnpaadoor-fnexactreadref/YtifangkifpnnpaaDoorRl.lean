/-
  FnExactReadRef, walked.
-/
import Derived.Test.YtifangkifpnnpaaDoorRs
namespace Go.Proofs.YtifangkifpnnpaaDoor
open Go.RowKit

set_option maxRecDepth 8000 in
set_option maxHeartbeats 1000000 in
theorem lawReadRef (s : ByteArray) (w : World) (LW : LibW w) (IT : ItoaC w) :
    Calls Tryd.prog 5 #[.string s] w fun e w' => e = .returned (.bool true) ∧ Ext w w' := by
  obtain ⟨l, hl⟩ : ∃ l, s.data.toList = l := ⟨_, rfl⟩
  obtain rfl : s = bs l := bs_of hl
  obtain ⟨L, hL⟩ : ∃ k, l.length = k := ⟨_, rfl⟩
  have zL : (bs l).size = L := by rw [bs_size, hL]
  clear hl
  by_cases h20 : (L : Int) > 1048576
  · have f : decide ((L : Int) > 1048576) = true := decide_eq_true h20
    go_enter Tryd.func5, Tryd.ntmps5
    go_wp2_with fail
    go_ret
    exact ⟨rfl, xr _⟩
  · have f : decide ((L : Int) > 1048576) = false := decide_eq_false h20
    have RS := readRefS l w (by omega)
    have RI := fun (w' : World) (x : Ext w w') => readRefI l w' (by omega) (LW.later x) IT x
    clear LW IT
    go_enter Tryd.func5, Tryd.ntmps5
    go_wp2_with fail
    refine RS.mono ?_
    rintro e w1 ⟨ok, r, c, rf, cf, rfl, HO, e1⟩
    have P := Box4.made w1 (.int .i64 r) (.int .i64 c) (.bool rf) (.bool cf) 24
    have X2 := xa e1 (.cells #[.int .i64 r, .int .i64 c, .bool rf, .bool cf] 24)
    clear RS e1
    go_wp2_with fail
    refine (RI _ X2).mono ?_
    rintro e w3 ⟨ok', r', c', rf', cf', rfl, HO', e3⟩
    obtain ⟨rfl, rfl, rfl, rfl, rfl⟩ := HO.one HO'
    have P := P.later (xa e3 (.cells #[.int .i64 r, .int .i64 c, .bool rf, .bool cf] 24))
    have X3 := xa (xt X2 e3) (.cells #[.int .i64 r, .int .i64 c, .bool rf, .bool cf] 24)
    obtain ⟨⟨a0, a1, a2, a3⟩, _⟩ := P
    clear RI X2 e3 HO HO'
    go_wp2_with fail
    refine (eqRef_same _ _ _ _ _).mono ?_
    rintro e w4 ⟨rfl, e4⟩
    go_wp2_with fail
    all_goals go_ret
    all_goals exact ⟨rfl, xt X3 e4⟩

end Go.Proofs.YtifangkifpnnpaaDoor
