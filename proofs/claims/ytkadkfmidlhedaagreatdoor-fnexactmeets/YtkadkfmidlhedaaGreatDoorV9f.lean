/-
  Chapter 7: the law of Meets.
-/
import Derived.Test.YtkadkfmidlhedaaGreatDoorV9z
namespace Go.Proofs.YtkadkfmidlhedaaGreatDoor
open Go.RowKit

set_option maxRecDepth 8000 in
set_option maxHeartbeats 2000000 in
theorem lawMeets (op : List UInt8) (k : Int) (n : Bool) (d x : Int) (t : List UInt8) (k' : Int) (n' : Bool) (d' x' : Int) (t' : List UInt8) (w : World) (ho : op.length ≤ 9223372036854775807) (hl : t.length ≤ 9223372036854775807) (hl' : t'.length ≤ 9223372036854775807) (d1 : -9223372036854775808 ≤ d) (d2 : d ≤ 9223372036854775807) (d1' : -9223372036854775808 ≤ d') (d2' : d' ≤ 9223372036854775807) (hT : Tens w) (hE : ErrTab w) (hI : ItoaC w) :
  Calls Tryz.prog 7 #[valV k n d x t, sV op, valV k' n' d' x' t'] w fun e w' => e = .returned (.bool true) ∧ Ext w w' := by
 obtain ⟨NN, hL⟩ : ∃ NN, op.length = NN := ⟨_, rfl⟩
 have hsz : (⟨op.toArray⟩ : ByteArray).size = NN := hL
 have HLn : Hid (op.length = NN) := hL
 rw [hL] at ho
 clear hL
 obtain ⟨u0, u1, h0, h1, s0, s1, B0, B1, X⟩ := mkB2 w [.int .i64 k, .bool n, .int .i64 d, .int .i64 x, sV t] [.int .i64 k', .bool n', .int .i64 d', .int .i64 x', sV t'] 44 44
 obtain ⟨a0, a1, a2, a3, a4⟩ := Vec.five (B0)
 by_cases hb : (1048576 : Int) < NN
 ·
  clear hT hE hI
  go_enter Tryz.func7, Tryz.ntmps7
  go_wp2_with fail
  go_ret
  exact ⟨rfl, X⟩
 ·
  have ho2 : op.length ≤ 1048576 := by rw [HLn.out]; omega
  have hb1 : ¬ (1048576 : Int) < NN := hb
  go_enter Tryz.func7, Tryz.ntmps7
  go_wp2_with fail
  clear h0 s0 h1 s1 a0 a1 a2 a3 a4
  refine (szValue k n d x t 1048576 u1 (by omega) (by omega) (by omega)).mono ?_
  rintro e w1 ⟨rfl, e1⟩
  have X1 := xt X e1
  by_cases hs : (1048576 : Int) < t.length
  ·
   rw [if_pos hs]
   clear B0 B1 hT hE hI
   go_wp2_with fail
   go_ret
   exact ⟨rfl, X1⟩
  ·
   rw [if_neg hs]
   obtain ⟨m, hm⟩ : ∃ m : Int, (1048576 : Int) - t.length = m := ⟨_, rfl⟩
   have hm0 : 0 ≤ m := by omega
   have hm1 : m ≤ 1048576 := by omega
   have hm9 : decide (m < 0) = false := by simp; omega
   have hl2 : t.length ≤ 1048576 := by omega
   rw [hm]
   clear hm hs hl
   have C0 := B0.later e1
   have C1 := B1.later e1
   clear B0 B1
   obtain ⟨c0, c1, c2, c3, c4⟩ := Vec.five (C1)
   go_wp2_with fail
   clear c0 c1 c2 c3 c4
   refine (szValue k' n' d' x' t' m w1 hm0 hm1 (by omega)).mono ?_
   rintro e w2 ⟨rfl, e2⟩
   have X2 := xt X1 e2
   by_cases hs' : m < t'.length
   ·
    rw [if_pos hs']
    clear C0 C1 hT hE hI
    go_wp2_with fail
    go_ret
    exact ⟨rfl, X2⟩
   ·
    rw [if_neg hs']
    obtain ⟨m', hm'⟩ : ∃ m' : Int, m - t'.length = m' := ⟨_, rfl⟩
    have hm2 : 0 ≤ m' := by omega
    have hm8 : decide (m' < 0) = false := by simp; omega
    have hl2' : t'.length ≤ 1048576 := by omega
    rw [hm']
    clear hm' hs' hl'
    have D0 := C0.later e2
    have D1 := C1.later e2
    clear C0 C1
    obtain ⟨R, hR⟩ : ∃ R, meetB op k n d x t k' n' d' x' t' = R := ⟨_, rfl⟩
    have CS : Hid (∀ W, Calls Tryz.prog 30 #[valV k n d x t, sV op, valV k' n' d' x' t'] W fun e w' => e = .returned (.bool R) ∧ Ext W w') := fun W => by rw [← hR]; exact meetsS op k n d x t k' n' d' x' t' W hl2 hl2'
    have CI : Hid (∀ W, Ext w W → Calls Tryz.prog 31 #[valV k n d x t, sV op, valV k' n' d' x' t'] W fun e w' => e = .returned (.bool R) ∧ Ext W w') := fun W hW => by rw [← hR]; exact meetsI op k n d x t k' n' d' x' t' W ho2 hl2 hl2' d1 d2 d1' d2' (hT.later hW) (hE.later hW) (hI.later hW)
    clear hR hT hE hI d1 d2 d1' d2' hl2 hl2' ho2
    go_wp2_with fail
    refine wp_region_letters (fun lx : Nat → Value => { tmps := #[valV k n d x t, sV op, valV k' n' d' x' t', .pointer (some ⟨w.heap.size, 0, none⟩), undef, .pointer (some ⟨w.heap.size + 1, 0, none⟩), .bool false, .int .i64 m', lx 8, undef, sV op, .int .i64 (NN : Int), .bool false, valV k n d x t, .int .i64 1048576, .int .i64 m, .int .i64 m, .bool false, valV k' n' d' x' t', .int .i64 m, .int .i64 m', .int .i64 m', .bool false, lx 23, lx 24, lx 25, lx 26, lx 27, lx 28, undef, undef, undef, undef, undef, undef, undef, undef, undef], defers := [] }) (fun L lx lw => Hid (Ext w lw ∧ Vec lw (w.heap.size) [.int .i64 k, .bool n, .int .i64 d, .int .i64 x, sV t] ∧ Vec lw (w.heap.size + 1) [.int .i64 k', .bool n', .int .i64 d', .int .i64 x', sV t'] ∧ (L 0 = true → lx 23 = valV k n d x t) ∧ (L 1 = true → lx 24 = valV k n d x t) ∧ (L 2 = true → lx 25 = sV op) ∧ (L 3 = true → lx 26 = valV k' n' d' x' t') ∧ (L 4 = true → lx 27 = valV k' n' d' x' t') ∧ (L 5 = true → lx 28 = Value.bool R) ∧ (L 6 = true → lx 8 = Value.bool R))) rfl (by kernel_rfl) (fun jj => undef) rfl ?_ ?_ ?_
    ·
     exact ⟨xd X2, D0.later (xd (xr _)), D1.later (xd (xr _)), (fun h => by cases h), (fun h => by cases h), (fun h => by cases h), (fun h => by cases h), (fun h => by cases h), (fun h => by cases h), (fun h => by cases h)⟩
    ·
     intro L lx wl i o K hK ho hL haf hI
     obtain ⟨X, f0, f1, f2, f3, f4, f5, f6, f7, f8⟩ := hI.out
     match i, ho, hL, haf, hK with
     | 0, ho, hL, haf, hK =>
      cases ho
      (try dsimp only)
      obtain ⟨a0, a1, a2, a3, a4⟩ := Vec.five (f0)
      go_wp2_with fail
      exact hK (fun jj => if jj = 23 then valV k n d x t else lx jj) _ ⟨X, f0, f1, (fun _ => rfl), f3, f4, f5, f6, f7, f8⟩
     | 1, ho, hL, haf, hK =>
      cases ho
      (try dsimp only)
      rw [f2 (haf ⟨0, .data⟩ (by simp) rfl)]
      go_wp2_with fail
      refine (toValue k n d x t wl).mono ?_
      rintro rr w' ⟨rfl, E⟩
      go_wp2_with fail
      exact hK (fun jj => if jj = 24 then valV k n d x t else if jj = 23 then valV k n d x t else lx jj) _ ⟨xt X E, (f0.later E), (f1.later E), (fun _ => rfl), (fun _ => rfl), f4, f5, f6, f7, f8⟩
     | 2, ho, hL, haf, hK =>
      cases ho
      (try dsimp only)
      go_wp2_with fail
      exact hK (fun jj => if jj = 25 then sV op else lx jj) _ ⟨X, f0, f1, f2, f3, (fun _ => rfl), f5, f6, f7, f8⟩
     | 3, ho, hL, haf, hK =>
      cases ho
      (try dsimp only)
      obtain ⟨a0, a1, a2, a3, a4⟩ := Vec.five (f1)
      go_wp2_with fail
      exact hK (fun jj => if jj = 26 then valV k' n' d' x' t' else lx jj) _ ⟨X, f0, f1, f2, f3, f4, (fun _ => rfl), f6, f7, f8⟩
     | 4, ho, hL, haf, hK =>
      cases ho
      (try dsimp only)
      rw [f5 (haf ⟨3, .data⟩ (by simp) rfl)]
      go_wp2_with fail
      refine (toValue k' n' d' x' t' wl).mono ?_
      rintro rr w' ⟨rfl, E⟩
      go_wp2_with fail
      exact hK (fun jj => if jj = 27 then valV k' n' d' x' t' else if jj = 26 then valV k' n' d' x' t' else lx jj) _ ⟨xt X E, (f0.later E), (f1.later E), f2, f3, f4, (fun _ => rfl), (fun _ => rfl), f7, f8⟩
     | 5, ho, hL, haf, hK =>
      cases ho
      (try dsimp only)
      rw [f3 (haf ⟨1, .data⟩ (by simp) rfl), f4 (haf ⟨2, .data⟩ (by simp) rfl), f6 (haf ⟨4, .data⟩ (by simp) rfl)]
      go_wp2_with fail
      refine (CS.out wl).mono ?_
      rintro rr w' ⟨rfl, E⟩
      go_wp2_with fail
      exact hK (fun jj => if jj = 28 then Value.bool R else if jj = 24 then valV k n d x t else if jj = 25 then sV op else if jj = 27 then valV k' n' d' x' t' else lx jj) _ ⟨xt X E, (f0.later E), (f1.later E), f2, (fun _ => rfl), (fun _ => rfl), f5, (fun _ => rfl), (fun _ => rfl), f8⟩
     | 6, ho, hL, haf, hK =>
      cases ho
      (try dsimp only)
      rw [f7 (haf ⟨5, .data⟩ (by simp) rfl)]
      go_wp2_with fail
      exact hK (fun jj => if jj = 8 then Value.bool R else if jj = 28 then Value.bool R else lx jj) _ ⟨X, f0, f1, f2, f3, f4, f5, f6, (fun _ => rfl), (fun _ => rfl)⟩
     | k + 7, ho, _, _, _ => simp at ho
    ·
     intro L lx wr hall hI
     obtain ⟨XR, f0, f1, f2, f3, f4, f5, f6, f7, f8⟩ := hI.out
     clear hI
     have G0 := f0
     have G1 := f1
     replace f2 := f2 (hall 0 (by simp))
     replace f3 := f3 (hall 1 (by simp))
     replace f4 := f4 (hall 2 (by simp))
     replace f5 := f5 (hall 3 (by simp))
     replace f6 := f6 (hall 4 (by simp))
     replace f7 := f7 (hall 5 (by simp))
     replace f8 := f8 (hall 6 (by simp))
     (try dsimp only)
     rw [f2, f3, f4, f5, f6, f7, f8]
     clear hall f0 f1 f2 f3 f4 f5 f6 f7 f8
     obtain ⟨wm, hwm⟩ : ∃ wm, wr = wm := ⟨_, rfl⟩
     rw [hwm] at XR G0 G1 ⊢
     clear hwm
     have XM := XR
     have M0 := G0
     have M1 := G1
     clear XR G0 G1 D0 D1
     go_wp2_with fail
     refine wp_region_letters (fun lx : Nat → Value => { tmps := #[valV k n d x t, sV op, valV k' n' d' x' t', .pointer (some ⟨w.heap.size, 0, none⟩), undef, .pointer (some ⟨w.heap.size + 1, 0, none⟩), .bool false, .int .i64 m', Value.bool R, lx 9, sV op, .int .i64 (NN : Int), .bool false, valV k n d x t, .int .i64 1048576, .int .i64 m, .int .i64 m, .bool false, valV k' n' d' x' t', .int .i64 m, .int .i64 m', .int .i64 m', .bool false, valV k n d x t, valV k n d x t, sV op, valV k' n' d' x' t', valV k' n' d' x' t', Value.bool R, lx 29, lx 30, lx 31, lx 32, lx 33, lx 34, undef, undef, undef], defers := [] }) (fun L lx lw => Hid (Ext w lw ∧ Vec lw (w.heap.size) [.int .i64 k, .bool n, .int .i64 d, .int .i64 x, sV t] ∧ Vec lw (w.heap.size + 1) [.int .i64 k', .bool n', .int .i64 d', .int .i64 x', sV t'] ∧ (L 0 = true → lx 29 = valV k n d x t) ∧ (L 1 = true → lx 30 = valV k n d x t) ∧ (L 2 = true → lx 31 = sV op) ∧ (L 3 = true → lx 32 = valV k' n' d' x' t') ∧ (L 4 = true → lx 33 = valV k' n' d' x' t') ∧ (L 5 = true → lx 34 = Value.bool R) ∧ (L 6 = true → lx 9 = Value.bool R))) rfl (by kernel_rfl) (fun jj => undef) rfl ?_ ?_ ?_
     ·
      exact ⟨xd XM, M0.later (xd (xr _)), M1.later (xd (xr _)), (fun h => by cases h), (fun h => by cases h), (fun h => by cases h), (fun h => by cases h), (fun h => by cases h), (fun h => by cases h), (fun h => by cases h)⟩
     ·
      intro L lx wl i o K hK ho hL haf hI
      obtain ⟨X, f0, f1, f2, f3, f4, f5, f6, f7, f8⟩ := hI.out
      match i, ho, hL, haf, hK with
      | 0, ho, hL, haf, hK =>
       cases ho
       (try dsimp only)
       obtain ⟨a0, a1, a2, a3, a4⟩ := Vec.five (f0)
       go_wp2_with fail
       exact hK (fun jj => if jj = 29 then valV k n d x t else lx jj) _ ⟨X, f0, f1, (fun _ => rfl), f3, f4, f5, f6, f7, f8⟩
      | 1, ho, hL, haf, hK =>
       cases ho
       (try dsimp only)
       rw [f2 (haf ⟨0, .data⟩ (by simp) rfl)]
       go_wp2_with fail
       refine (toValue k n d x t wl).mono ?_
       rintro rr w' ⟨rfl, E⟩
       go_wp2_with fail
       exact hK (fun jj => if jj = 30 then valV k n d x t else if jj = 29 then valV k n d x t else lx jj) _ ⟨xt X E, (f0.later E), (f1.later E), (fun _ => rfl), (fun _ => rfl), f4, f5, f6, f7, f8⟩
      | 2, ho, hL, haf, hK =>
       cases ho
       (try dsimp only)
       go_wp2_with fail
       exact hK (fun jj => if jj = 31 then sV op else lx jj) _ ⟨X, f0, f1, f2, f3, (fun _ => rfl), f5, f6, f7, f8⟩
      | 3, ho, hL, haf, hK =>
       cases ho
       (try dsimp only)
       obtain ⟨a0, a1, a2, a3, a4⟩ := Vec.five (f1)
       go_wp2_with fail
       exact hK (fun jj => if jj = 32 then valV k' n' d' x' t' else lx jj) _ ⟨X, f0, f1, f2, f3, f4, (fun _ => rfl), f6, f7, f8⟩
      | 4, ho, hL, haf, hK =>
       cases ho
       (try dsimp only)
       rw [f5 (haf ⟨3, .data⟩ (by simp) rfl)]
       go_wp2_with fail
       refine (toValue k' n' d' x' t' wl).mono ?_
       rintro rr w' ⟨rfl, E⟩
       go_wp2_with fail
       exact hK (fun jj => if jj = 33 then valV k' n' d' x' t' else if jj = 32 then valV k' n' d' x' t' else lx jj) _ ⟨xt X E, (f0.later E), (f1.later E), f2, f3, f4, (fun _ => rfl), (fun _ => rfl), f7, f8⟩
      | 5, ho, hL, haf, hK =>
       cases ho
       (try dsimp only)
       rw [f3 (haf ⟨1, .data⟩ (by simp) rfl), f4 (haf ⟨2, .data⟩ (by simp) rfl), f6 (haf ⟨4, .data⟩ (by simp) rfl)]
       go_wp2_with fail
       refine (CI.out wl X).mono ?_
       rintro rr w' ⟨rfl, E⟩
       go_wp2_with fail
       exact hK (fun jj => if jj = 34 then Value.bool R else if jj = 30 then valV k n d x t else if jj = 31 then sV op else if jj = 33 then valV k' n' d' x' t' else lx jj) _ ⟨xt X E, (f0.later E), (f1.later E), f2, (fun _ => rfl), (fun _ => rfl), f5, (fun _ => rfl), (fun _ => rfl), f8⟩
      | 6, ho, hL, haf, hK =>
       cases ho
       (try dsimp only)
       rw [f7 (haf ⟨5, .data⟩ (by simp) rfl)]
       go_wp2_with fail
       exact hK (fun jj => if jj = 9 then Value.bool R else if jj = 34 then Value.bool R else lx jj) _ ⟨X, f0, f1, f2, f3, f4, f5, f6, (fun _ => rfl), (fun _ => rfl)⟩
      | k + 7, ho, _, _, _ => simp at ho
     ·
      intro L lx wr hall hI
      obtain ⟨XR, f0, f1, f2, f3, f4, f5, f6, f7, f8⟩ := hI.out
      clear hI
      have G0 := f0
      have G1 := f1
      replace f2 := f2 (hall 0 (by simp))
      replace f3 := f3 (hall 1 (by simp))
      replace f4 := f4 (hall 2 (by simp))
      replace f5 := f5 (hall 3 (by simp))
      replace f6 := f6 (hall 4 (by simp))
      replace f7 := f7 (hall 5 (by simp))
      replace f8 := f8 (hall 6 (by simp))
      (try dsimp only)
      rw [f2, f3, f4, f5, f6, f7, f8]
      clear hall f0 f1 f2 f3 f4 f5 f6 f7 f8
      clear G0 G1 CI CS
      cases R
      all_goals
       go_wp2_with fail
       go_ret
       exact ⟨rfl, XR⟩

end Go.Proofs.YtkadkfmidlhedaaGreatDoor

