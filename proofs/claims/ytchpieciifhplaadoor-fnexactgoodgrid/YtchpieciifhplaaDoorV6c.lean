/-
  Chapter 6: values compared; the law of GoodValue.
-/
import Derived.Test.YtchpieciifhplaaDoorV6b
namespace Go.Proofs.YtchpieciifhplaaDoor
open Go.RowKit

set_option maxHeartbeats 1000000 in
theorem eqDecV_same (n : Bool) (d x : Int) (w : World) :
    Calls Tryd.prog 41 #[decV n d x, decV n d x] w fun e w' => e = .returned (.bool true) ∧ Ext w w' := by
  go_enter Tryd.func41, Tryd.ntmps41
  go_wp2
  all_goals go_ret
  all_goals first | exact ⟨rfl, xa (x1 _ _) _⟩ | simp_all
set_option maxRecDepth 8000 in
set_option maxHeartbeats 1000000 in
theorem eqValue_same (k : Int) (n : Bool) (d x : Int) (t : List UInt8) (w : World) :
    Calls Tryd.prog 19 #[valV k n d x t, valV k n d x t] w fun e w' => e = .returned (.bool true) ∧ Ext w w' := by
  have B1 := vec_made w (valL k n d x t) 30
  have B2 := vec_made (w.alloc (.cells (valL k n d x t).toArray 30)) (valL k n d x t) 30
  have X := xa (x1 w (.cells #[.int .i64 k, .bool n, .int .i64 d, .int .i64 x, sV t] 30)) (.cells #[.int .i64 k, .bool n, .int .i64 d, .int .i64 x, sV t] 30)
  have B1 := B1.later (x1 _ (.cells #[.int .i64 k, .bool n, .int .i64 d, .int .i64 x, sV t] 30))
  rw [World.size_alloc] at B2
  have hp : (t == t) = true := by simp
  go_enter Tryd.func19, Tryd.ntmps19
  go_wp2_with fail
  refine (eqDecV_same _ _ _ _).mono ?_
  rintro e w1 ⟨rfl, e1⟩
  have a4 := ((B1.later e1) 4 _ rfl).1
  have b4 := ((B2.later e1) 4 _ rfl).1
  go_wp2_with fail
  go_ret
  exact ⟨rfl, xt X e1⟩

set_option maxRecDepth 8000 in
set_option maxHeartbeats 1000000 in
theorem lawGoodV (k : Int) (n : Bool) (d x : Int) (t : List UInt8) (w : World) (hl : t.length ≤ 9223372036854775807) (d1 : -9223372036854775808 ≤ d) (d2 : d ≤ 9223372036854775807) (hT : Tens w) (hE : ErrTab w) :
    Calls Tryd.prog 3 #[valV k n d x t] w fun e w' => e = .returned (.bool true) ∧ Ext w w' := by
  have B := vec_made w (valL k n d x t) 25
  have X0 := x1 w (.cells #[.int .i64 k, .bool n, .int .i64 d, .int .i64 x, sV t] 25)
  go_enter Tryd.func3, Tryd.ntmps3
  go_wp2_with fail
  refine (szValue k n d x t 1048576 _ (by omega) (by omega) (by omega)).mono ?_
  rintro e w1 ⟨rfl, e1⟩
  have X1 := xt X0 e1
  by_cases hs : (1048576 : Int) < t.length
  · rw [if_pos hs]
    clear B hT hE hl d1 d2
    go_wp2_with fail
    go_ret
    exact ⟨rfl, X1⟩
  · rw [if_neg hs]
    have hl2 : t.length ≤ 2000000 := by omega
    obtain ⟨m, hm⟩ : ∃ m : Int, (1048576 : Int) - t.length = m := ⟨_, rfl⟩
    have hm0 : 0 ≤ m := by omega
    rw [hm]
    clear hm hs hl
    have B1 := B.later e1
    have a0 := (B1 0 _ rfl).1
    have a1 := (B1 1 _ rfl).1
    have a2 := (B1 2 _ rfl).1
    have a3 := (B1 3 _ rfl).1
    have a4 := (B1 4 _ rfl).1
    go_wp2_with fail
    clear a0 a1 a2 a3 a4
    refine (toValue k n d x t _).mono ?_
    rintro e w2 ⟨rfl, e2⟩
    go_wp2_with fail
    refine (goodVS k n d x t _ hl2).mono ?_
    rintro e w3 ⟨rfl, e3⟩
    have B3 := (B1.later e2).later e3
    have X3 := xt (xt X1 e2) e3
    have a0 := (B3 0 _ rfl).1
    have a1 := (B3 1 _ rfl).1
    have a2 := (B3 2 _ rfl).1
    have a3 := (B3 3 _ rfl).1
    have a4 := (B3 4 _ rfl).1
    go_wp2_with fail
    clear a0 a1 a2 a3 a4
    refine (toValue k n d x t _).mono ?_
    rintro e w4 ⟨rfl, e4⟩
    have X4 := xt X3 e4
    go_wp2_with fail
    refine (goodVI k n d x t _ hl2 d1 d2 (hT.later X4) (hE.later X4)).mono ?_
    rintro e w5 ⟨rfl, e5⟩
    have X5 := xt X4 e5
    clear B B1 B3 hT hE e1 e2 e3 e4 e5
    go_wp2
    all_goals go_ret
    all_goals first | exact ⟨rfl, X5⟩ | simp_all

end Go.Proofs.YtchpieciifhplaaDoor

