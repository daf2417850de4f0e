/-
  Several texts in one: MulAll, NumT.
-/
import Derived.Test.YthkamjoogfeilaaGreatDoorMulA
import Derived.Test.YthkamjoogfeilaaGreatDoorMulB
import Derived.Test.YthkamjoogfeilaaGreatDoorMulC
import Derived.Test.YthkamjoogfeilaaGreatDoorText
namespace Go.Proofs.YthkamjoogfeilaaGreatDoor
open Go.RowKit

theorem mul_any {va vb : Value} {a b : Int} (w : World) (ha : ZV w va a) (hb : ZV w vb b) (k : Nat) (hk : k ≤ 1000000000) (ka : (a.natAbs : Int) < 1000000000 ^ k) (kb : (b.natAbs : Int) < 1000000000 ^ k) :
    Calls Tryz.prog 104 #[va, vb] w fun e w' => ∃ v', e = .returned v' ∧ ZV w' v' (a * b) ∧ Ext w w' := by
  cases sa : smallB a
  · exact mul_bigA w ha hb sa k hk ka kb
  · cases sb : smallB b
    · exact mul_bigB w ha hb sa sb k hk ka kb
    · by_cases hp : (a.natAbs : Int) = 0 ∨ (b.natAbs : Int) ≤ 999999999999999999 / (a.natAbs : Int)
      · exact mul_fast w ha hb sa sb hp
      · have h1 : ¬ (a.natAbs : Int) = 0 := fun h => hp (.inl h)
        have h2 : ¬ (b.natAbs : Int) ≤ 999999999999999999 / (a.natAbs : Int) := fun h => hp (.inr h)
        exact mul_bigAB w ha hb sa sb (by rw [beq_eq_false_iff_ne]; exact h1) (by omega) k hk ka kb

end Go.Proofs.YthkamjoogfeilaaGreatDoor

namespace Go.Proofs.YthkamjoogfeilaaGreatDoor
open Go.RowKit

set_option maxRecDepth 4000 in
set_option maxHeartbeats 1000000 in
theorem add_small (a b : Int) (w : World) (a1 : -1000000000000000000 < a) (a2 : a < 1000000000000000000) (b1 : -1000000000000000000 < b) (b2 : b < 1000000000000000000) :
    Calls Tryz.prog 69 #[zS a, zS b] w fun e w' => ∃ v', e = .returned v' ∧ ZV w' v' (a + b) ∧ Ext w w' := by
  have sa : Hid (∀ w2 : World, Calls Tryz.prog 61 #[zS a] w2 fun e w' => e = .returned (.bool true) ∧ Ext w2 w') := fun w2 => by
    have := isSmall_any w2 (ZV.small a1 a2)
    rwa [smallB_true a1 a2] at this
  have sb : Hid (∀ w2 : World, Calls Tryz.prog 61 #[zS b] w2 fun e w' => e = .returned (.bool true) ∧ Ext w2 w') := fun w2 => by
    have := isSmall_any w2 (ZV.small b1 b2)
    rwa [smallB_true b1 b2] at this
  have Ba := (Box3.made w (.int .i64 a) (.bool false) (.slice none 0 0) 57).later (xa (x1 _ (.cells #[.int .i64 b, .bool false, .slice none 0 0] 57)) (.cells #[.int .i64 0, .bool false, .slice none 0 0] 57))
  have Bb := (Box3.made (w.alloc (.cells #[.int .i64 a, .bool false, .slice none 0 0] 57)) (.int .i64 b) (.bool false) (.slice none 0 0) 57).later (x1 _ (.cells #[.int .i64 0, .bool false, .slice none 0 0] 57))
  have Br := Box3.made ((w.alloc (.cells #[.int .i64 a, .bool false, .slice none 0 0] 57)).alloc (.cells #[.int .i64 b, .bool false, .slice none 0 0] 57)) (.int .i64 0) (.bool false) (.slice none 0 0) 57
  simp only [World.size_alloc] at Bb Br
  go_enter Tryz.func69, Tryz.ntmps69
  go_wp2_with fail
  refine (sa.out _).mono ?_
  rintro e w1 ⟨rfl, e1⟩
  obtain ⟨⟨q0, q1, q2⟩, _⟩ := Bb.later e1
  go_wp2_with fail
  refine (sb.out _).mono ?_
  rintro e w2 ⟨rfl, e2⟩
  clear q0 q1 q2
  have X2 := xt e1 e2
  obtain ⟨⟨q0, q1, q2⟩, _⟩ := Bb.later X2
  obtain ⟨⟨p0, p1, p2⟩, _⟩ := Ba.later X2
  go_wp2_with fail
  refine (small_any (a + b) _ (by omega) (by omega)).mono ?_
  rintro e w3 ⟨v', rfl, hz, e3⟩
  obtain ⟨a0', a1', p', n', cap', rfl⟩ := hz.shape
  have X3 := xt X2 e3
  have B4 := Br.later X3
  have Hz := hz.set3 B4 (.int .i64 a0') (.bool a1') (.slice p' n' cap')
  have Hx := Ext.set3 (b := w.heap.size + 1 + 1) (xt (xa (xa (x1 _ _) _) _) X3) (by omega) (.int .i64 a0') (.bool a1') (.slice p' n' cap')
  obtain ⟨⟨r0, r1, r2⟩, s0, s1, s2⟩ := B4
  clear p0 p1 p2 q0 q1 q2
  go_wp2
  exact bodyPost_ret (v := .agg #[.int .i64 a0', .bool a1', .slice p' n' cap']) (by simp [results, Tryz.results69, go_sem, r0, r1, r2]) rfl ⟨_, rfl, Hz, Hx⟩

theorem add_smallZ {va vb : Value} {a b : Int} (w : World) (ha : ZV w va a) (hb : ZV w vb b) (sa : smallB a = true) (sb : smallB b = true) :
    Calls Tryz.prog 69 #[va, vb] w fun e w' => ∃ v', e = .returned v' ∧ ZV w' v' (a + b) ∧ Ext w w' := by
  obtain ⟨a1, a2, rfl⟩ := ha.small_of sa
  obtain ⟨b1, b2, rfl⟩ := hb.small_of sb
  exact add_small a b w a1 a2 b1 b2


end Go.Proofs.YthkamjoogfeilaaGreatDoor

