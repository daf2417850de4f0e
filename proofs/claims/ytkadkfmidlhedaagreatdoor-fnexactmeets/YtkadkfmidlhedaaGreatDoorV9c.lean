/-
  Chapter 6: the six comparisons.
-/
import Derived.Test.YtkadkfmidlhedaaGreatDoorMg27
import Derived.Test.YtkadkfmidlhedaaGreatDoorV6u
namespace Go.Proofs.YtkadkfmidlhedaaGreatDoor
open Go.RowKit

/-- What the comparisons say of an order: = <> < > <= >=. -/
def ordB (o : Nat) (c : Int) : Bool :=
 if o = 6 then c == 0 else if o = 7 then c != 0 else if o = 8 then decide (c < 0) else if o = 9 then decide (0 < c) else if o = 10 then decide (c ≤ 0) else decide (0 ≤ c)
set_option maxRecDepth 8000 in
set_option maxHeartbeats 2000000 in
theorem sameI (k : Int) (n : Bool) (d x : Int) (t : List UInt8) (k' : Int) (n' : Bool) (d' x' : Int) (t' : List UInt8) (w : World) (hl : t.length ≤ 2000000) (hl' : t'.length ≤ 2000000) (d1 : -9223372036854775808 ≤ d) (d2 : d ≤ 9223372036854775807) (d1' : -9223372036854775808 ≤ d') (d2' : d' ≤ 9223372036854775807) (hT : Tens w) (hE : ErrTab w) :
  Calls Tryz.prog 112 #[valV k n d x t, valV k' n' d' x' t'] w fun e w' => e = .returned (boolW (ordB 6 (compareV k n d x t k' n' d' x' t'))) ∧ Ext w w' := by
 obtain ⟨c, hc⟩ : ∃ c, compareV k n d x t k' n' d' x' t' = c := ⟨_, rfl⟩
 have HC : Hid (compareV k n d x t k' n' d' x' t' = c) := hc
 rw [hc]
 clear hc
 obtain ⟨u0, u1, u2, h0, h1, h2, s0, s1, s2, B0, B1, B2, X⟩ := mkB3 w [.int .i64 k, .bool n, .int .i64 d, .int .i64 x, sV t] [.int .i64 k', .bool n', .int .i64 d', .int .i64 x', sV t'] [.int .i64 0, .bool false, .int .i64 0, .int .i64 0, sV []] 26 26 26
 obtain ⟨a0, a1, a2, a3, a4⟩ := Vec.five (B0)
 obtain ⟨c0, c1, c2, c3, c4⟩ := Vec.five (B1)
 change Calls _ _ _ _ fun e w' => e = .returned (valV 3 false 0 0 (if (c == 0) = true then trueT else falseT)) ∧ _
 obtain ⟨tt, htt⟩ : ∃ tt, (if (c == 0) = true then trueT else falseT) = tt := ⟨_, rfl⟩
 have CB : Hid (∀ W, Calls Tryz.prog 50 #[.bool (c == 0)] W fun e w' => e = .returned (valV 3 false 0 0 tt) ∧ Ext W w') := fun W => by rw [← htt]; exact boolVI _ W
 rw [htt]
 clear htt
 go_enter Tryz.func112, Tryz.ntmps112
 go_wp2_with fail
 clear h0 s0 h1 s1 h2 s2 a0 a1 a2 a3 a4 c0 c1 c2 c3 c4
 refine (compareI k n d x t k' n' d' x' t' u2 hl hl' d1 d2 d1' d2' (hT.later X) (hE.later X)).mono ?_
 rintro e w1 ⟨rfl, e1⟩
 rw [HC.out]
 have Xw := xt X e1
 have C2 := B2.later e1
 clear B0 B1 B2 hT hE d1 d2 d1' d2' hl hl' HC
 go_wp2_with fail
 refine (CB.out w1).mono ?_
 rintro e w2 ⟨rfl, e2⟩
 obtain ⟨wy, hy, FX, ⟨b0, b1, b2, b3, b4⟩, ⟨fb0, fb1, fb2, fb3, fb4⟩, fd0, fd1, fd2, fd3, fd4⟩ := fin5 (C2.later e2) (xt Xw e2) (by omega) 3 false 0 0 tt
 go_wp2_with fail
 exact bodyPost_ret (v := valV 3 false 0 0 tt) (by simp [results, Tryz.results112, go_sem, fd0, fd1, fd2, fd3, fd4]) rfl ⟨rfl, FX⟩
set_option maxRecDepth 8000 in
set_option maxHeartbeats 2000000 in
theorem unlikeI (k : Int) (n : Bool) (d x : Int) (t : List UInt8) (k' : Int) (n' : Bool) (d' x' : Int) (t' : List UInt8) (w : World) (hl : t.length ≤ 2000000) (hl' : t'.length ≤ 2000000) (d1 : -9223372036854775808 ≤ d) (d2 : d ≤ 9223372036854775807) (d1' : -9223372036854775808 ≤ d') (d2' : d' ≤ 9223372036854775807) (hT : Tens w) (hE : ErrTab w) :
  Calls Tryz.prog 113 #[valV k n d x t, valV k' n' d' x' t'] w fun e w' => e = .returned (boolW (ordB 7 (compareV k n d x t k' n' d' x' t'))) ∧ Ext w w' := by
 obtain ⟨c, hc⟩ : ∃ c, compareV k n d x t k' n' d' x' t' = c := ⟨_, rfl⟩
 have HC : Hid (compareV k n d x t k' n' d' x' t' = c) := hc
 rw [hc]
 clear hc
 obtain ⟨u0, u1, u2, h0, h1, h2, s0, s1, s2, B0, B1, B2, X⟩ := mkB3 w [.int .i64 k, .bool n, .int .i64 d, .int .i64 x, sV t] [.int .i64 k', .bool n', .int .i64 d', .int .i64 x', sV t'] [.int .i64 0, .bool false, .int .i64 0, .int .i64 0, sV []] 26 26 26
 obtain ⟨a0, a1, a2, a3, a4⟩ := Vec.five (B0)
 obtain ⟨c0, c1, c2, c3, c4⟩ := Vec.five (B1)
 change Calls _ _ _ _ fun e w' => e = .returned (valV 3 false 0 0 (if (c != 0) = true then trueT else falseT)) ∧ _
 obtain ⟨tt, htt⟩ : ∃ tt, (if (c != 0) = true then trueT else falseT) = tt := ⟨_, rfl⟩
 have CB : Hid (∀ W, Calls Tryz.prog 50 #[.bool (c != 0)] W fun e w' => e = .returned (valV 3 false 0 0 tt) ∧ Ext W w') := fun W => by rw [← htt]; exact boolVI _ W
 rw [htt]
 clear htt
 go_enter Tryz.func113, Tryz.ntmps113
 go_wp2_with fail
 clear h0 s0 h1 s1 h2 s2 a0 a1 a2 a3 a4 c0 c1 c2 c3 c4
 refine (compareI k n d x t k' n' d' x' t' u2 hl hl' d1 d2 d1' d2' (hT.later X) (hE.later X)).mono ?_
 rintro e w1 ⟨rfl, e1⟩
 rw [HC.out]
 have Xw := xt X e1
 have C2 := B2.later e1
 clear B0 B1 B2 hT hE d1 d2 d1' d2' hl hl' HC
 go_wp2_with fail
 refine (CB.out w1).mono ?_
 rintro e w2 ⟨rfl, e2⟩
 obtain ⟨wy, hy, FX, ⟨b0, b1, b2, b3, b4⟩, ⟨fb0, fb1, fb2, fb3, fb4⟩, fd0, fd1, fd2, fd3, fd4⟩ := fin5 (C2.later e2) (xt Xw e2) (by omega) 3 false 0 0 tt
 go_wp2_with fail
 exact bodyPost_ret (v := valV 3 false 0 0 tt) (by simp [results, Tryz.results113, go_sem, fd0, fd1, fd2, fd3, fd4]) rfl ⟨rfl, FX⟩
set_option maxRecDepth 8000 in
set_option maxHeartbeats 2000000 in
theorem belowI (k : Int) (n : Bool) (d x : Int) (t : List UInt8) (k' : Int) (n' : Bool) (d' x' : Int) (t' : List UInt8) (w : World) (hl : t.length ≤ 2000000) (hl' : t'.length ≤ 2000000) (d1 : -9223372036854775808 ≤ d) (d2 : d ≤ 9223372036854775807) (d1' : -9223372036854775808 ≤ d') (d2' : d' ≤ 9223372036854775807) (hT : Tens w) (hE : ErrTab w) :
  Calls Tryz.prog 114 #[valV k n d x t, valV k' n' d' x' t'] w fun e w' => e = .returned (boolW (ordB 8 (compareV k n d x t k' n' d' x' t'))) ∧ Ext w w' := by
 obtain ⟨c, hc⟩ : ∃ c, compareV k n d x t k' n' d' x' t' = c := ⟨_, rfl⟩
 have HC : Hid (compareV k n d x t k' n' d' x' t' = c) := hc
 rw [hc]
 clear hc
 obtain ⟨u0, u1, u2, h0, h1, h2, s0, s1, s2, B0, B1, B2, X⟩ := mkB3 w [.int .i64 k, .bool n, .int .i64 d, .int .i64 x, sV t] [.int .i64 k', .bool n', .int .i64 d', .int .i64 x', sV t'] [.int .i64 0, .bool false, .int .i64 0, .int .i64 0, sV []] 26 26 26
 obtain ⟨a0, a1, a2, a3, a4⟩ := Vec.five (B0)
 obtain ⟨c0, c1, c2, c3, c4⟩ := Vec.five (B1)
 change Calls _ _ _ _ fun e w' => e = .returned (valV 3 false 0 0 (if (decide (c < 0)) = true then trueT else falseT)) ∧ _
 obtain ⟨tt, htt⟩ : ∃ tt, (if (decide (c < 0)) = true then trueT else falseT) = tt := ⟨_, rfl⟩
 have CB : Hid (∀ W, Calls Tryz.prog 50 #[.bool (decide (c < 0))] W fun e w' => e = .returned (valV 3 false 0 0 tt) ∧ Ext W w') := fun W => by rw [← htt]; exact boolVI _ W
 rw [htt]
 clear htt
 go_enter Tryz.func114, Tryz.ntmps114
 go_wp2_with fail
 clear h0 s0 h1 s1 h2 s2 a0 a1 a2 a3 a4 c0 c1 c2 c3 c4
 refine (compareI k n d x t k' n' d' x' t' u2 hl hl' d1 d2 d1' d2' (hT.later X) (hE.later X)).mono ?_
 rintro e w1 ⟨rfl, e1⟩
 rw [HC.out]
 have Xw := xt X e1
 have C2 := B2.later e1
 clear B0 B1 B2 hT hE d1 d2 d1' d2' hl hl' HC
 go_wp2_with fail
 refine (CB.out w1).mono ?_
 rintro e w2 ⟨rfl, e2⟩
 obtain ⟨wy, hy, FX, ⟨b0, b1, b2, b3, b4⟩, ⟨fb0, fb1, fb2, fb3, fb4⟩, fd0, fd1, fd2, fd3, fd4⟩ := fin5 (C2.later e2) (xt Xw e2) (by omega) 3 false 0 0 tt
 go_wp2_with fail
 exact bodyPost_ret (v := valV 3 false 0 0 tt) (by simp [results, Tryz.results114, go_sem, fd0, fd1, fd2, fd3, fd4]) rfl ⟨rfl, FX⟩
set_option maxRecDepth 8000 in
set_option maxHeartbeats 2000000 in
theorem aboveI (k : Int) (n : Bool) (d x : Int) (t : List UInt8) (k' : Int) (n' : Bool) (d' x' : Int) (t' : List UInt8) (w : World) (hl : t.length ≤ 2000000) (hl' : t'.length ≤ 2000000) (d1 : -9223372036854775808 ≤ d) (d2 : d ≤ 9223372036854775807) (d1' : -9223372036854775808 ≤ d') (d2' : d' ≤ 9223372036854775807) (hT : Tens w) (hE : ErrTab w) :
  Calls Tryz.prog 115 #[valV k n d x t, valV k' n' d' x' t'] w fun e w' => e = .returned (boolW (ordB 9 (compareV k n d x t k' n' d' x' t'))) ∧ Ext w w' := by
 obtain ⟨c, hc⟩ : ∃ c, compareV k n d x t k' n' d' x' t' = c := ⟨_, rfl⟩
 have HC : Hid (compareV k n d x t k' n' d' x' t' = c) := hc
 rw [hc]
 clear hc
 obtain ⟨u0, u1, u2, h0, h1, h2, s0, s1, s2, B0, B1, B2, X⟩ := mkB3 w [.int .i64 k, .bool n, .int .i64 d, .int .i64 x, sV t] [.int .i64 k', .bool n', .int .i64 d', .int .i64 x', sV t'] [.int .i64 0, .bool false, .int .i64 0, .int .i64 0, sV []] 26 26 26
 obtain ⟨a0, a1, a2, a3, a4⟩ := Vec.five (B0)
 obtain ⟨c0, c1, c2, c3, c4⟩ := Vec.five (B1)
 change Calls _ _ _ _ fun e w' => e = .returned (valV 3 false 0 0 (if (decide (0 < c)) = true then trueT else falseT)) ∧ _
 obtain ⟨tt, htt⟩ : ∃ tt, (if (decide (0 < c)) = true then trueT else falseT) = tt := ⟨_, rfl⟩
 have CB : Hid (∀ W, Calls Tryz.prog 50 #[.bool (decide (0 < c))] W fun e w' => e = .returned (valV 3 false 0 0 tt) ∧ Ext W w') := fun W => by rw [← htt]; exact boolVI _ W
 rw [htt]
 clear htt
 go_enter Tryz.func115, Tryz.ntmps115
 go_wp2_with fail
 clear h0 s0 h1 s1 h2 s2 a0 a1 a2 a3 a4 c0 c1 c2 c3 c4
 refine (compareI k n d x t k' n' d' x' t' u2 hl hl' d1 d2 d1' d2' (hT.later X) (hE.later X)).mono ?_
 rintro e w1 ⟨rfl, e1⟩
 rw [HC.out]
 have Xw := xt X e1
 have C2 := B2.later e1
 clear B0 B1 B2 hT hE d1 d2 d1' d2' hl hl' HC
 go_wp2_with fail
 refine (CB.out w1).mono ?_
 rintro e w2 ⟨rfl, e2⟩
 obtain ⟨wy, hy, FX, ⟨b0, b1, b2, b3, b4⟩, ⟨fb0, fb1, fb2, fb3, fb4⟩, fd0, fd1, fd2, fd3, fd4⟩ := fin5 (C2.later e2) (xt Xw e2) (by omega) 3 false 0 0 tt
 go_wp2_with fail
 exact bodyPost_ret (v := valV 3 false 0 0 tt) (by simp [results, Tryz.results115, go_sem, fd0, fd1, fd2, fd3, fd4]) rfl ⟨rfl, FX⟩
set_option maxRecDepth 8000 in
set_option maxHeartbeats 2000000 in
theorem notAboveI (k : Int) (n : Bool) (d x : Int) (t : List UInt8) (k' : Int) (n' : Bool) (d' x' : Int) (t' : List UInt8) (w : World) (hl : t.length ≤ 2000000) (hl' : t'.length ≤ 2000000) (d1 : -9223372036854775808 ≤ d) (d2 : d ≤ 9223372036854775807) (d1' : -9223372036854775808 ≤ d') (d2' : d' ≤ 9223372036854775807) (hT : Tens w) (hE : ErrTab w) :
  Calls Tryz.prog 116 #[valV k n d x t, valV k' n' d' x' t'] w fun e w' => e = .returned (boolW (ordB 10 (compareV k n d x t k' n' d' x' t'))) ∧ Ext w w' := by
 obtain ⟨c, hc⟩ : ∃ c, compareV k n d x t k' n' d' x' t' = c := ⟨_, rfl⟩
 have HC : Hid (compareV k n d x t k' n' d' x' t' = c) := hc
 rw [hc]
 clear hc
 obtain ⟨u0, u1, u2, h0, h1, h2, s0, s1, s2, B0, B1, B2, X⟩ := mkB3 w [.int .i64 k, .bool n, .int .i64 d, .int .i64 x, sV t] [.int .i64 k', .bool n', .int .i64 d', .int .i64 x', sV t'] [.int .i64 0, .bool false, .int .i64 0, .int .i64 0, sV []] 26 26 26
 obtain ⟨a0, a1, a2, a3, a4⟩ := Vec.five (B0)
 obtain ⟨c0, c1, c2, c3, c4⟩ := Vec.five (B1)
 change Calls _ _ _ _ fun e w' => e = .returned (valV 3 false 0 0 (if (decide (c ≤ 0)) = true then trueT else falseT)) ∧ _
 obtain ⟨tt, htt⟩ : ∃ tt, (if (decide (c ≤ 0)) = true then trueT else falseT) = tt := ⟨_, rfl⟩
 have CB : Hid (∀ W, Calls Tryz.prog 50 #[.bool (decide (c ≤ 0))] W fun e w' => e = .returned (valV 3 false 0 0 tt) ∧ Ext W w') := fun W => by rw [← htt]; exact boolVI _ W
 rw [htt]
 clear htt
 go_enter Tryz.func116, Tryz.ntmps116
 go_wp2_with fail
 clear h0 s0 h1 s1 h2 s2 a0 a1 a2 a3 a4 c0 c1 c2 c3 c4
 refine (compareI k n d x t k' n' d' x' t' u2 hl hl' d1 d2 d1' d2' (hT.later X) (hE.later X)).mono ?_
 rintro e w1 ⟨rfl, e1⟩
 rw [HC.out]
 have Xw := xt X e1
 have C2 := B2.later e1
 clear B0 B1 B2 hT hE d1 d2 d1' d2' hl hl' HC
 go_wp2_with fail
 refine (CB.out w1).mono ?_
 rintro e w2 ⟨rfl, e2⟩
 obtain ⟨wy, hy, FX, ⟨b0, b1, b2, b3, b4⟩, ⟨fb0, fb1, fb2, fb3, fb4⟩, fd0, fd1, fd2, fd3, fd4⟩ := fin5 (C2.later e2) (xt Xw e2) (by omega) 3 false 0 0 tt
 go_wp2_with fail
 exact bodyPost_ret (v := valV 3 false 0 0 tt) (by simp [results, Tryz.results116, go_sem, fd0, fd1, fd2, fd3, fd4]) rfl ⟨rfl, FX⟩
set_option maxRecDepth 8000 in
set_option maxHeartbeats 2000000 in
theorem notBelowI (k : Int) (n : Bool) (d x : Int) (t : List UInt8) (k' : Int) (n' : Bool) (d' x' : Int) (t' : List UInt8) (w : World) (hl : t.length ≤ 2000000) (hl' : t'.length ≤ 2000000) (d1 : -9223372036854775808 ≤ d) (d2 : d ≤ 9223372036854775807) (d1' : -9223372036854775808 ≤ d') (d2' : d' ≤ 9223372036854775807) (hT : Tens w) (hE : ErrTab w) :
  Calls Tryz.prog 117 #[valV k n d x t, valV k' n' d' x' t'] w fun e w' => e = .returned (boolW (ordB 11 (compareV k n d x t k' n' d' x' t'))) ∧ Ext w w' := by
 obtain ⟨c, hc⟩ : ∃ c, compareV k n d x t k' n' d' x' t' = c := ⟨_, rfl⟩
 have HC : Hid (compareV k n d x t k' n' d' x' t' = c) := hc
 rw [hc]
 clear hc
 obtain ⟨u0, u1, u2, h0, h1, h2, s0, s1, s2, B0, B1, B2, X⟩ := mkB3 w [.int .i64 k, .bool n, .int .i64 d, .int .i64 x, sV t] [.int .i64 k', .bool n', .int .i64 d', .int .i64 x', sV t'] [.int .i64 0, .bool false, .int .i64 0, .int .i64 0, sV []] 26 26 26
 obtain ⟨a0, a1, a2, a3, a4⟩ := Vec.five (B0)
 obtain ⟨c0, c1, c2, c3, c4⟩ := Vec.five (B1)
 change Calls _ _ _ _ fun e w' => e = .returned (valV 3 false 0 0 (if (decide (0 ≤ c)) = true then trueT else falseT)) ∧ _
 obtain ⟨tt, htt⟩ : ∃ tt, (if (decide (0 ≤ c)) = true then trueT else falseT) = tt := ⟨_, rfl⟩
 have CB : Hid (∀ W, Calls Tryz.prog 50 #[.bool (decide (0 ≤ c))] W fun e w' => e = .returned (valV 3 false 0 0 tt) ∧ Ext W w') := fun W => by rw [← htt]; exact boolVI _ W
 rw [htt]
 clear htt
 go_enter Tryz.func117, Tryz.ntmps117
 go_wp2_with fail
 clear h0 s0 h1 s1 h2 s2 a0 a1 a2 a3 a4 c0 c1 c2 c3 c4
 refine (compareI k n d x t k' n' d' x' t' u2 hl hl' d1 d2 d1' d2' (hT.later X) (hE.later X)).mono ?_
 rintro e w1 ⟨rfl, e1⟩
 rw [HC.out]
 have Xw := xt X e1
 have C2 := B2.later e1
 clear B0 B1 B2 hT hE d1 d2 d1' d2' hl hl' HC
 go_wp2_with fail
 refine (CB.out w1).mono ?_
 rintro e w2 ⟨rfl, e2⟩
 obtain ⟨wy, hy, FX, ⟨b0, b1, b2, b3, b4⟩, ⟨fb0, fb1, fb2, fb3, fb4⟩, fd0, fd1, fd2, fd3, fd4⟩ := fin5 (C2.later e2) (xt Xw e2) (by omega) 3 false 0 0 tt
 go_wp2_with fail
 exact bodyPost_ret (v := valV 3 false 0 0 tt) (by simp [results, Tryz.results117, go_sem, fd0, fd1, fd2, fd3, fd4]) rfl ⟨rfl, FX⟩

end Go.Proofs.YtkadkfmidlhedaaGreatDoor

