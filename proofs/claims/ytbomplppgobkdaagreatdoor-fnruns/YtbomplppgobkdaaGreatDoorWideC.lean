/-
  The program's numbers of two words, the calls on them: how many digits.
-/
import Derived.Test.YtbomplppgobkdaaGreatDoorWideB
namespace Go.Proofs.YtbomplppgobkdaaGreatDoor
open Go.RowKit

/-- So many digits. -/
def Dig (a k : Nat) : Prop := a < 10 ^ k ∧ (k = 0 ∨ 10 ^ (k - 1) ≤ a)

set_option maxHeartbeats 2000000 in
theorem length_any {v : Value} {a : Nat} (w : World) (hv : WV v a) (hT : Tens w) :
    Calls Tryz.prog 146 #[v] w fun e w' => ∃ k : Nat, e = .returned (.int .i64 k) ∧ Dig a k ∧ k ≤ 39 ∧ Ext w w' := by
  have hv' := hv
  obtain ⟨h, l, rfl, h1, h2, e1⟩ := hv
  have ha : a < 1000000000000000000000000000000000000000 := by omega
  clear e1
  go_enter Tryz.func146, Tryz.ntmps146
  go_wp2_with fail
  go_loopw [3] (fun n wr => ∃ k : Nat, k ≤ 39 ∧ n = .int .i64 k ∧ (k = 0 ∨ 10 ^ (k - 1) ≤ a) ∧ Ext (w.alloc (.cells #[.int .u64 h, .int .u64 l] 164)) wr) (fun n _ => 40 - (intOf n).toNat)
  case atStart => exact ⟨0, by omega, rfl, .inl rfl, xr _⟩
  case round =>
    obtain ⟨k, hk, rfl, hlo, X⟩ := hrel
    have HL : Hid (k = 0 ∨ 10 ^ (k - 1) ≤ a) := hlo
    clear hlo
    by_cases h38 : k ≤ 38
    · have g1 : (k : Int) ≤ 38 := by omega
      have B := (Box2.made w (.int .u64 h) (.int .u64 l) 164).later X
      have T := (hT.later (x1 _ _)).later X
      have B' := B
      obtain ⟨⟨q0, q1⟩, _⟩ := B'
      obtain ⟨c, hc⟩ : ∃ c : Bool, decide (a < 10 ^ k) = c := ⟨_, rfl⟩
      have LS : Hid (∀ (w : World) (u : Value), WV u (10 ^ k) → Calls Tryz.prog 158 #[.agg #[.int .u64 h, .int .u64 l], u] w fun e w' => e = .returned (.bool c) ∧ Ext w w') := fun w u hu => by rw [← hc]; exact less_any w hv' hu
      have HC : Hid (decide (a < 10 ^ k) = c) := hc
      clear hc
      cases c
      · go_wp2_with fail
        go_region_with (first
          | (go_at_call 159; refine (wideTen_any k h38 _ (T.later (xd (xr _)))).mono ?_; rintro e w1 ⟨u, rfl, hu, e1⟩; obtain ⟨⟨q0', q1'⟩, _⟩ := B.later (xt (xd (xr _)) e1))
          | (go_at_call 158; refine (LS.out _ _ (by assumption)).mono ?_; rintro e w2 ⟨rfl, e2⟩))
        all_goals
          go_wp2
          go_roundw
          case rel => exact ⟨k + 1, by omega, by go_num, .inr (by have := HC.out; simp at this; simpa using this), xt (xt (xd X) (by assumption)) (by assumption)⟩
          case measure => simp [intOf]; omega
      · go_wp2_with fail
        go_region_with (first
          | (go_at_call 159; refine (wideTen_any k h38 _ (T.later (xd (xr _)))).mono ?_; rintro e w1 ⟨u, rfl, hu, e1⟩; obtain ⟨⟨q0', q1'⟩, _⟩ := B.later (xt (xd (xr _)) e1))
          | (go_at_call 158; refine (LS.out _ _ (by assumption)).mono ?_; rintro e w2 ⟨rfl, e2⟩))
        all_goals
          go_wp2
          go_ret
          exact ⟨k, rfl, ⟨by simpa using HC.out, HL.out⟩, by omega, xt (xt (xt (x1 _ _) (xd X)) (by assumption)) (by assumption)⟩
    · obtain rfl : k = 39 := by omega
      go_wp2_with fail
      go_region
      all_goals
        go_wp2
        go_ret
        exact ⟨39, rfl, ⟨by simpa using ha, HL.out⟩, by omega, xt (x1 _ _) (xd X)⟩

end Go.Proofs.YtbomplppgobkdaaGreatDoor

