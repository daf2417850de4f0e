/-
  DateText on both sides, whatever the date.
-/
import Derived.Test.YtmcmohooodpfeaaGreatDoorDgJ
import Derived.Test.YtmcmohooodpfeaaGreatDoorLibC
namespace Go.Proofs.YtmcmohooodpfeaaGreatDoor
open Go.RowKit

/-- What DateText answers. -/
theorem dtext_any (y m d : Int) : ∃ s : ByteArray, ((DText y m d ∧ s = dateB y m d) ∨ (¬ DText y m d ∧ s = ⟨#[]⟩)) ∧ (∀ w : World, Calls Tryz.prog 48 #[.agg #[.int .i64 y, .int .i64 m, .int .i64 d]] w fun e w' => e = .returned (.string s) ∧ Ext w w') ∧
    (∀ w : World, ItoaC w → Calls Tryz.prog 14 #[.agg #[.int .i64 y, .int .i64 m, .int .i64 d]] w fun e w' => e = .returned (.string s) ∧ Ext w w') := by
  by_cases h : DText y m d
  · refine ⟨dateB y m d, .inl ⟨h, rfl⟩, fun w => dtextS_ok y m d w h, fun w IT => ?_⟩
    by_cases hn : y < 0
    · exact dtextI_neg repC y m d w w IT (xr _) h hn
    · exact dtextI_pos repC y m d w w IT (xr _) h (by omega)
  · exact ⟨⟨#[]⟩, .inr ⟨h, rfl⟩, fun w => dtextS_no y m d w h, fun w _ => dtextI_no y m d w h⟩

end Go.Proofs.YtmcmohooodpfeaaGreatDoor
