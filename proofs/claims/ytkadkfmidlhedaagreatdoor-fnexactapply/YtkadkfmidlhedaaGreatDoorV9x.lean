/-
  Chapter 6: the law of Apply.
-/
import Derived.Test.YtkadkfmidlhedaaGreatDoorMg50
namespace Go.Proofs.YtkadkfmidlhedaaGreatDoor
open Go.RowKit

set_option maxRecDepth 8000 in
set_option maxHeartbeats 2000000 in
theorem lawApply (op : List UInt8) (k : Int) (n : Bool) (d x : Int) (t : List UInt8) (k' : Int) (n' : Bool) (d' x' : Int) (t' : List UInt8) (w : World) (ho : op.length ≤ 9223372036854775807) (hl : t.length ≤ 9223372036854775807) (hl' : t'.length ≤ 9223372036854775807) (d1 : -9223372036854775808 ≤ d) (d2 : d ≤ 9223372036854775807) (d1' : -9223372036854775808 ≤ d') (d2' : d' ≤ 9223372036854775807) (hT : Tens w) (hE : ErrTab w) (hI : ItoaC w) :
  Calls Tryz.prog 4 #[sV op, valV k n d x t, valV k' n' d' x' t'] w fun e w' => e = .returned (.bool true) ∧ Ext w w' := by
 obtain ⟨NN, hL⟩ : ∃ NN, op.length = NN := ⟨_, rfl⟩
 have hsz : (⟨op.toArray⟩ : ByteArray).size = NN := hL
 have HLn : Hid (op.length = NN) := hL
 rw [hL] at ho
 clear hL
 obtain ⟨u0, u1, h0, h1, s0, s1, B0, B1, X⟩ := mkB2 w [.int .i64 k, .bool n, .int .i64 d, .int .i64 x, sV t] [.int .i64 k', .bool n', .int .i64 d', .int .i64 x', sV t'] 44 44
 obtain ⟨a0, a1, a2, a3, a4⟩ := Vec.five (B0)
 by_cases hb : (1048576 : Int) < NN
 ·
  clear hT hE hI
  go_enter Tryz.func4, Tryz.ntmps4
  go_wp2_with fail
  go_ret
  exact ⟨rfl, X⟩
 ·
  have ho2 : op.length ≤ 1048576 := by rw [HLn.out]; omega
  have hb1 : ¬ (1048576 : Int) < NN := hb
  go_enter Tryz.func4, Tryz.ntmps4
  go_wp2_with fail
  clear h0 s0 h1 s1 a0 a1 a2 a3 a4
  refine (szValue k n d x t 1048576 u1 (by omega) (by omega) (by omega)).mono ?_
  rintro e w1 ⟨rfl, e1⟩
  have X1 := xt X e1
  by_cases hs : (1048576 : Int) < t.length
  ·
   rw [if_pos hs]
   clear B0 B1 hT hE hI
   go_wp2_with fail
   go_ret
   exact ⟨rfl, X1⟩
  ·
   rw [if_neg hs]
   obtain ⟨m, hm⟩ : ∃ m : Int, (1048576 : Int) - t.length = m := ⟨_, rfl⟩
   have hm0 : 0 ≤ m := by omega
   have hm1 : m ≤ 1048576 := by omega
   have hm9 : decide (m < 0) = false := by simp; omega
   have hl2 : t.length ≤ 1048576 := by omega
   rw [hm]
   clear hm hs hl
   have C0 := B0.later e1
   have C1 := B1.later e1
   clear B0 B1
   obtain ⟨c0, c1, c2, c3, c4⟩ := Vec.five (C1)
   go_wp2_with fail
   clear c0 c1 c2 c3 c4
   refine (szValue k' n' d' x' t' m w1 hm0 hm1 (by omega)).mono ?_
   rintro e w2 ⟨rfl, e2⟩
   have X2 := xt X1 e2
   by_cases hs' : m < t'.length
   ·
    rw [if_pos hs']
    clear C0 C1 hT hE hI
    go_wp2_with fail
    go_ret
    exact ⟨rfl, X2⟩
   ·
    rw [if_neg hs']
    obtain ⟨m', hm'⟩ : ∃ m' : Int, m - t'.length = m' := ⟨_, rfl⟩
    have hm2 : 0 ≤ m' := by omega
    have hm8 : decide (m' < 0) = false := by simp; omega
    have hl2' : t'.length ≤ 1048576 := by omega
    rw [hm']
    clear hm' hs' hl'
    have D0 := C0.later e2
    have D1 := C1.later e2
    clear C0 C1
    obtain ⟨k2, n2, dd2, x2, t2, hv⟩ := applyV_val op k n d x t k' n' d' x' t'
    have CS : Hid (∀ W, Calls Tryz.prog 19 #[sV op, valV k n d x t, valV k' n' d' x' t'] W fun e w' => e = .returned (valV k2 n2 dd2 x2 t2) ∧ Ext W w') := fun W => by rw [← hv]; exact applyS op k n d x t k' n' d' x' t' W hl2 hl2'
    have CI : Hid (∀ W, Ext w W → Calls Tryz.prog 18 #[sV op, valV k n d x t, valV k' n' d' x' t'] W fun e w' => e = .returned (valV k2 n2 dd2 x2 t2) ∧ Ext W w') := fun W hW => by rw [← hv]; exact applyI op k n d x t k' n' d' x' t' W ho2 hl2 hl2' d1 d2 d1' d2' (hT.later hW) (hE.later hW) (hI.later hW)
    clear hv hT hE hI d1 d2 d1' d2' hl2 hl2' ho2
    go_wp2_with fail
    refine wp_region_letters (fun lx : Nat → Value => { tmps := #[sV op, valV k n d x t, valV k' n' d' x' t', undef, Value.pointer (some ⟨w.heap.size, 0, none⟩), Value.pointer (some ⟨w.heap.size + 1, 0, none⟩), Value.bool false, Value.int .i64 m', lx 8, undef, sV op, Value.int .i64 (NN : Int), Value.bool false, valV k n d x t, Value.int .i64 1048576, Value.int .i64 m, Value.int .i64 m, Value.bool false, valV k' n' d' x' t', Value.int .i64 m, Value.int .i64 m', Value.int .i64 m', Value.bool false, lx 23, lx 24, lx 25, lx 26, lx 27, lx 28, undef, undef, undef, undef, undef, undef, undef, undef, undef, undef], defers := [] }) (fun L lx lw => Hid (Ext w lw ∧ Vec lw (w.heap.size) [.int .i64 k, .bool n, .int .i64 d, .int .i64 x, sV t] ∧ Vec lw (w.heap.size + 1) [.int .i64 k', .bool n', .int .i64 d', .int .i64 x', sV t'] ∧ (L 0 = true → lx 23 = sV op) ∧ (L 1 = true → lx 24 = valV k n d x t) ∧ (L 2 = true → lx 25 = valV k n d x t) ∧ (L 3 = true → lx 26 = valV k' n' d' x' t') ∧ (L 4 = true → lx 27 = valV k' n' d' x' t') ∧ (L 5 = true → lx 28 = valV k2 n2 dd2 x2 t2) ∧ (L 6 = true → ∃ b, lx 8 = .pointer (some ⟨b, 0, none⟩) ∧ w.heap.size + 1 + 1 ≤ b ∧ (L 7 = false → Vec lw b [.int .i64 0, .bool false, .int .i64 0, .int .i64 0, sV []]) ∧ (L 7 = true → Vec lw b [.int .i64 k2, .bool n2, .int .i64 dd2, .int .i64 x2, sV t2])) ∧ (L 7 = true → L 6 = true))) rfl (by kernel_rfl) (fun jj => undef) rfl ?_ ?_ ?_
    ·
     exact ⟨xd X2, D0.later (xd (xr _)), D1.later (xd (xr _)), (fun h => by cases h), (fun h => by cases h), (fun h => by cases h), (fun h => by cases h), (fun h => by cases h), (fun h => by cases h), (fun h => by cases h), (fun h => by cases h)⟩
    ·
     intro L lx wl i o K hK ho hL haf hI
     obtain ⟨X, f0, f1, f2, f3, f4, f5, f6, f7, f8, f9⟩ := hI.out
     match i, ho, hL, haf, hK with
     | 0, ho, hL, haf, hK =>
      simp only [List.getElem?_toArray, List.getElem?_cons_zero, Option.some.injEq] at ho
      subst ho
      (try dsimp only)
      go_wp2_with fail
      exact hK (fun jj => if jj = 23 then sV op else lx jj) _ ⟨X, f0, f1, (fun _ => rfl), f3, f4, f5, f6, f7, f8, f9⟩
     | 1, ho, hL, haf, hK =>
      simp only [List.getElem?_toArray, List.getElem?_cons_zero, List.getElem?_cons_succ, Option.some.injEq] at ho
      subst ho
      (try dsimp only)
      obtain ⟨a0, a1, a2, a3, a4⟩ := Vec.five (f0)
      go_wp2_with fail
      exact hK (fun jj => if jj = 24 then valV k n d x t else lx jj) _ ⟨X, f0, f1, f2, (fun _ => rfl), f4, f5, f6, f7, f8, f9⟩
     | 2, ho, hL, haf, hK =>
      simp only [List.getElem?_toArray, List.getElem?_cons_zero, List.getElem?_cons_succ, Option.some.injEq] at ho
      subst ho
      (try dsimp only)
      rw [f3 (haf ⟨1, .data⟩ (by simp) rfl)]
      go_wp2_with fail
      refine (toValue k n d x t wl).mono ?_
      rintro rr w' ⟨rfl, E⟩
      go_wp2_with fail
      exact hK (fun jj => if jj = 25 then valV k n d x t else if jj = 24 then valV k n d x t else lx jj) _ ⟨xt X E, (f0.later E), (f1.later E), f2, (fun _ => rfl), (fun _ => rfl), f5, f6, f7, (fun h => by obtain ⟨b, h1, h2, h3, h4⟩ := f8 h; exact ⟨b, h1, h2, fun h => (h3 h).later E, fun h => (h4 h).later E⟩), f9⟩
     | 3, ho, hL, haf, hK =>
      simp only [List.getElem?_toArray, List.getElem?_cons_zero, List.getElem?_cons_succ, Option.some.injEq] at ho
      subst ho
      (try dsimp only)
      obtain ⟨a0, a1, a2, a3, a4⟩ := Vec.five (f1)
      go_wp2_with fail
      exact hK (fun jj => if jj = 26 then valV k' n' d' x' t' else lx jj) _ ⟨X, f0, f1, f2, f3, f4, (fun _ => rfl), f6, f7, f8, f9⟩
     | 4, ho, hL, haf, hK =>
      simp only [List.getElem?_toArray, List.getElem?_cons_zero, List.getElem?_cons_succ, Option.some.injEq] at ho
      subst ho
      (try dsimp only)
      rw [f5 (haf ⟨3, .data⟩ (by simp) rfl)]
      go_wp2_with fail
      refine (toValue k' n' d' x' t' wl).mono ?_
      rintro rr w' ⟨rfl, E⟩
      go_wp2_with fail
      exact hK (fun jj => if jj = 27 then valV k' n' d' x' t' else if jj = 26 then valV k' n' d' x' t' else lx jj) _ ⟨xt X E, (f0.later E), (f1.later E), f2, f3, f4, (fun _ => rfl), (fun _ => rfl), f7, (fun h => by obtain ⟨b, h1, h2, h3, h4⟩ := f8 h; exact ⟨b, h1, h2, fun h => (h3 h).later E, fun h => (h4 h).later E⟩), f9⟩
     | 5, ho, hL, haf, hK =>
      simp only [List.getElem?_toArray, List.getElem?_cons_zero, List.getElem?_cons_succ, Option.some.injEq] at ho
      subst ho
      (try dsimp only)
      rw [f2 (haf ⟨0, .data⟩ (by simp) rfl), f4 (haf ⟨2, .data⟩ (by simp) rfl), f6 (haf ⟨4, .data⟩ (by simp) rfl)]
      go_wp2_with fail
      refine (CS.out wl).mono ?_
      rintro rr w' ⟨rfl, E⟩
      go_wp2_with fail
      exact hK (fun jj => if jj = 28 then valV k2 n2 dd2 x2 t2 else if jj = 23 then sV op else if jj = 25 then valV k n d x t else if jj = 27 then valV k' n' d' x' t' else lx jj) _ ⟨xt X E, (f0.later E), (f1.later E), (fun _ => rfl), f3, (fun _ => rfl), f5, (fun _ => rfl), (fun _ => rfl), (fun h => by obtain ⟨b, h1, h2, h3, h4⟩ := f8 h; exact ⟨b, h1, h2, fun h => (h3 h).later E, fun h => (h4 h).later E⟩), f9⟩
     | 6, ho, hL, haf, hK =>
      simp only [List.getElem?_toArray, List.getElem?_cons_zero, List.getElem?_cons_succ, Option.some.injEq] at ho
      subst ho
      (try dsimp only)
      have hst : L 7 = true → False := fun h => by have := f9 h; rw [hL] at this; cases this
      have E := x1 wl (.cells #[.int .i64 0, .bool false, .int .i64 0, .int .i64 0, sV []] 26)
      go_wp2_with fail
      exact hK (fun jj => if jj = 8 then .pointer (some ⟨wl.heap.size, 0, none⟩) else lx jj) _ ⟨xt X E, (f0.later E), (f1.later E), f2, f3, f4, f5, f6, f7, (fun _ => ⟨wl.heap.size, rfl, by have := show w.heap.size + 1 < wl.heap.size from World.block_lt_of_cell? _ _ (f1 0 _ rfl).1; omega, fun _ => vec_made wl [.int .i64 0, .bool false, .int .i64 0, .int .i64 0, sV []] _, fun h => (hst h).elim⟩), (fun _ => rfl)⟩
     | 7, ho, hL, haf, hK =>
      simp only [List.getElem?_toArray, List.getElem?_cons_zero, List.getElem?_cons_succ, Option.some.injEq] at ho
      subst ho
      (try dsimp only)
      have hmk : L 6 = true := haf ⟨6, .data⟩ (by simp) rfl
      obtain ⟨b, eb', hb, hz, _⟩ := f8 hmk
      have bx := hz hL
      rw [eb', f7 (haf ⟨5, .data⟩ (by simp) rfl)]
      obtain ⟨b0, b1, b2, b3, b4⟩ := Vec.five (bx)
      obtain ⟨fb0, fb1, fb2, fb3, fb4⟩ := Vec.fiveF (bx)
      have hX := Ext.setL (b := b) (by omega) [.int .i64 k2, .bool n2, .int .i64 dd2, .int .i64 x2, sV t2] 0 X
      have hB := bx.put5 (.int .i64 k2) (.bool n2) (.int .i64 dd2) (.int .i64 x2) (sV t2)
      go_wp2_with fail
      exact hK (fun jj => if jj = 8 then .pointer (some ⟨b, 0, none⟩) else if jj = 28 then valV k2 n2 dd2 x2 t2 else lx jj) _ ⟨hX, (Vec.farL (k := b) (by omega) [.int .i64 k2, .bool n2, .int .i64 dd2, .int .i64 x2, sV t2] 0 f0), (Vec.farL (k := b) (by omega) [.int .i64 k2, .bool n2, .int .i64 dd2, .int .i64 x2, sV t2] 0 f1), f2, f3, f4, f5, f6, (fun _ => rfl), (fun _ => ⟨b, rfl, hb, (fun h => by cases h), fun _ => hB⟩), (fun _ => hmk)⟩
     | k + 8, ho, _, _, _ => simp at ho
    ·
     intro L lx wr hall hI
     obtain ⟨XR, f0, f1, f2, f3, f4, f5, f6, f7, f8, f9⟩ := hI.out
     clear hI
     have G0 := f0
     have G1 := f1
     replace f2 := f2 (hall 0 (by simp))
     replace f3 := f3 (hall 1 (by simp))
     replace f4 := f4 (hall 2 (by simp))
     replace f5 := f5 (hall 3 (by simp))
     replace f6 := f6 (hall 4 (by simp))
     replace f7 := f7 (hall 5 (by simp))
     obtain ⟨bb, eb, lb, _, hz⟩ := f8 (hall 6 (by simp))
     have BN := hz (hall 7 (by simp))
     (try dsimp only)
     rw [eb]
     rw [f2, f3, f4, f5, f6, f7]
     clear hall hz f0 f1 f2 f3 f4 f5 f6 f7 f8 f9
     obtain ⟨ba, hba⟩ : ∃ ba, bb = ba := ⟨_, rfl⟩
     rw [hba] at lb BN ⊢
     obtain ⟨wm, hwm⟩ : ∃ wm, wr = wm := ⟨_, rfl⟩
     rw [hwm] at XR G0 G1 BN ⊢
     clear hba hwm eb
     have XM := XR
     have M0 := G0
     have M1 := G1
     have M2 := BN
     have lt1 : w.heap.size + 1 < wm.heap.size := World.block_lt_of_cell? _ _ (M1 0 _ rfl).1
     have lt2 : ba < wm.heap.size := World.block_lt_of_cell? _ _ (M2 0 _ rfl).1
     clear XR G0 G1 BN D0 D1
     go_wp2_with fail
     refine wp_region_letters (fun lx : Nat → Value => { tmps := #[sV op, valV k n d x t, valV k' n' d' x' t', undef, Value.pointer (some ⟨w.heap.size, 0, none⟩), Value.pointer (some ⟨w.heap.size + 1, 0, none⟩), Value.bool false, Value.int .i64 m', Value.pointer (some ⟨ba, 0, none⟩), lx 9, sV op, Value.int .i64 (NN : Int), Value.bool false, valV k n d x t, Value.int .i64 1048576, Value.int .i64 m, Value.int .i64 m, Value.bool false, valV k' n' d' x' t', Value.int .i64 m, Value.int .i64 m', Value.int .i64 m', Value.bool false, sV op, valV k n d x t, valV k n d x t, valV k' n' d' x' t', valV k' n' d' x' t', valV k2 n2 dd2 x2 t2, lx 29, lx 30, lx 31, lx 32, lx 33, lx 34, undef, undef, undef, undef], defers := [] }) (fun L lx lw => Hid (Ext wm lw ∧ Vec lw (w.heap.size) [.int .i64 k, .bool n, .int .i64 d, .int .i64 x, sV t] ∧ Vec lw (w.heap.size + 1) [.int .i64 k', .bool n', .int .i64 d', .int .i64 x', sV t'] ∧ Vec lw (ba) [.int .i64 k2, .bool n2, .int .i64 dd2, .int .i64 x2, sV t2] ∧ (L 0 = true → lx 29 = sV op) ∧ (L 1 = true → lx 30 = valV k n d x t) ∧ (L 2 = true → lx 31 = valV k n d x t) ∧ (L 3 = true → lx 32 = valV k' n' d' x' t') ∧ (L 4 = true → lx 33 = valV k' n' d' x' t') ∧ (L 5 = true → lx 34 = valV k2 n2 dd2 x2 t2) ∧ (L 6 = true → ∃ b, lx 9 = .pointer (some ⟨b, 0, none⟩) ∧ wm.heap.size ≤ b ∧ (L 7 = false → Vec lw b [.int .i64 0, .bool false, .int .i64 0, .int .i64 0, sV []]) ∧ (L 7 = true → Vec lw b [.int .i64 k2, .bool n2, .int .i64 dd2, .int .i64 x2, sV t2])) ∧ (L 7 = true → L 6 = true))) rfl (by kernel_rfl) (fun jj => undef) rfl ?_ ?_ ?_
     ·
      exact ⟨xd (xr wm), M0.later (xd (xr _)), M1.later (xd (xr _)), M2.later (xd (xr _)), (fun h => by cases h), (fun h => by cases h), (fun h => by cases h), (fun h => by cases h), (fun h => by cases h), (fun h => by cases h), (fun h => by cases h), (fun h => by cases h)⟩
     ·
      intro L lx wl i o K hK ho hL haf hI
      obtain ⟨X, f0, f1, f2, f3, f4, f5, f6, f7, f8, f9, f10⟩ := hI.out
      match i, ho, hL, haf, hK with
      | 0, ho, hL, haf, hK =>
       simp only [List.getElem?_toArray, List.getElem?_cons_zero, Option.some.injEq] at ho
       subst ho
       (try dsimp only)
       go_wp2_with fail
       exact hK (fun jj => if jj = 29 then sV op else lx jj) _ ⟨X, f0, f1, f2, (fun _ => rfl), f4, f5, f6, f7, f8, f9, f10⟩
      | 1, ho, hL, haf, hK =>
       simp only [List.getElem?_toArray, List.getElem?_cons_zero, List.getElem?_cons_succ, Option.some.injEq] at ho
       subst ho
       (try dsimp only)
       obtain ⟨a0, a1, a2, a3, a4⟩ := Vec.five (f0)
       go_wp2_with fail
       exact hK (fun jj => if jj = 30 then valV k n d x t else lx jj) _ ⟨X, f0, f1, f2, f3, (fun _ => rfl), f5, f6, f7, f8, f9, f10⟩
      | 2, ho, hL, haf, hK =>
       simp only [List.getElem?_toArray, List.getElem?_cons_zero, List.getElem?_cons_succ, Option.some.injEq] at ho
       subst ho
       (try dsimp only)
       rw [f4 (haf ⟨1, .data⟩ (by simp) rfl)]
       go_wp2_with fail
       refine (toValue k n d x t wl).mono ?_
       rintro rr w' ⟨rfl, E⟩
       go_wp2_with fail
       exact hK (fun jj => if jj = 31 then valV k n d x t else if jj = 30 then valV k n d x t else lx jj) _ ⟨xt X E, (f0.later E), (f1.later E), (f2.later E), f3, (fun _ => rfl), (fun _ => rfl), f6, f7, f8, (fun h => by obtain ⟨b, h1, h2, h3, h4⟩ := f9 h; exact ⟨b, h1, h2, fun h => (h3 h).later E, fun h => (h4 h).later E⟩), f10⟩
      | 3, ho, hL, haf, hK =>
       simp only [List.getElem?_toArray, List.getElem?_cons_zero, List.getElem?_cons_succ, Option.some.injEq] at ho
       subst ho
       (try dsimp only)
       obtain ⟨a0, a1, a2, a3, a4⟩ := Vec.five (f1)
       go_wp2_with fail
       exact hK (fun jj => if jj = 32 then valV k' n' d' x' t' else lx jj) _ ⟨X, f0, f1, f2, f3, f4, f5, (fun _ => rfl), f7, f8, f9, f10⟩
      | 4, ho, hL, haf, hK =>
       simp only [List.getElem?_toArray, List.getElem?_cons_zero, List.getElem?_cons_succ, Option.some.injEq] at ho
       subst ho
       (try dsimp only)
       rw [f6 (haf ⟨3, .data⟩ (by simp) rfl)]
       go_wp2_with fail
       refine (toValue k' n' d' x' t' wl).mono ?_
       rintro rr w' ⟨rfl, E⟩
       go_wp2_with fail
       exact hK (fun jj => if jj = 33 then valV k' n' d' x' t' else if jj = 32 then valV k' n' d' x' t' else lx jj) _ ⟨xt X E, (f0.later E), (f1.later E), (f2.later E), f3, f4, f5, (fun _ => rfl), (fun _ => rfl), f8, (fun h => by obtain ⟨b, h1, h2, h3, h4⟩ := f9 h; exact ⟨b, h1, h2, fun h => (h3 h).later E, fun h => (h4 h).later E⟩), f10⟩
      | 5, ho, hL, haf, hK =>
       simp only [List.getElem?_toArray, List.getElem?_cons_zero, List.getElem?_cons_succ, Option.some.injEq] at ho
       subst ho
       (try dsimp only)
       rw [f3 (haf ⟨0, .data⟩ (by simp) rfl), f5 (haf ⟨2, .data⟩ (by simp) rfl), f7 (haf ⟨4, .data⟩ (by simp) rfl)]
       go_wp2_with fail
       refine (CI.out wl (xt XM X)).mono ?_
       rintro rr w' ⟨rfl, E⟩
       go_wp2_with fail
       exact hK (fun jj => if jj = 34 then valV k2 n2 dd2 x2 t2 else if jj = 29 then sV op else if jj = 31 then valV k n d x t else if jj = 33 then valV k' n' d' x' t' else lx jj) _ ⟨xt X E, (f0.later E), (f1.later E), (f2.later E), (fun _ => rfl), f4, (fun _ => rfl), f6, (fun _ => rfl), (fun _ => rfl), (fun h => by obtain ⟨b, h1, h2, h3, h4⟩ := f9 h; exact ⟨b, h1, h2, fun h => (h3 h).later E, fun h => (h4 h).later E⟩), f10⟩
      | 6, ho, hL, haf, hK =>
       simp only [List.getElem?_toArray, List.getElem?_cons_zero, List.getElem?_cons_succ, Option.some.injEq] at ho
       subst ho
       (try dsimp only)
       have hst : L 7 = true → False := fun h => by have := f10 h; rw [hL] at this; cases this
       have E := x1 wl (.cells #[.int .i64 0, .bool false, .int .i64 0, .int .i64 0, sV []] 26)
       go_wp2_with fail
       exact hK (fun jj => if jj = 9 then .pointer (some ⟨wl.heap.size, 0, none⟩) else lx jj) _ ⟨xt X E, (f0.later E), (f1.later E), (f2.later E), f3, f4, f5, f6, f7, f8, (fun _ => ⟨wl.heap.size, rfl, by have := X.size; omega, fun _ => vec_made wl [.int .i64 0, .bool false, .int .i64 0, .int .i64 0, sV []] _, fun h => (hst h).elim⟩), (fun _ => rfl)⟩
      | 7, ho, hL, haf, hK =>
       simp only [List.getElem?_toArray, List.getElem?_cons_zero, List.getElem?_cons_succ, Option.some.injEq] at ho
       subst ho
       (try dsimp only)
       have hmk : L 6 = true := haf ⟨6, .data⟩ (by simp) rfl
       obtain ⟨b, eb', hb, hz, _⟩ := f9 hmk
       have bx := hz hL
       rw [eb', f8 (haf ⟨5, .data⟩ (by simp) rfl)]
       obtain ⟨b0, b1, b2, b3, b4⟩ := Vec.five (bx)
       obtain ⟨fb0, fb1, fb2, fb3, fb4⟩ := Vec.fiveF (bx)
       have hX := Ext.setL (b := b) (by omega) [.int .i64 k2, .bool n2, .int .i64 dd2, .int .i64 x2, sV t2] 0 X
       have hB := bx.put5 (.int .i64 k2) (.bool n2) (.int .i64 dd2) (.int .i64 x2) (sV t2)
       go_wp2_with fail
       exact hK (fun jj => if jj = 9 then .pointer (some ⟨b, 0, none⟩) else if jj = 34 then valV k2 n2 dd2 x2 t2 else lx jj) _ ⟨hX, (Vec.farL (k := b) (by omega) [.int .i64 k2, .bool n2, .int .i64 dd2, .int .i64 x2, sV t2] 0 f0), (Vec.farL (k := b) (by omega) [.int .i64 k2, .bool n2, .int .i64 dd2, .int .i64 x2, sV t2] 0 f1), (Vec.farL (k := b) (by omega) [.int .i64 k2, .bool n2, .int .i64 dd2, .int .i64 x2, sV t2] 0 f2), f3, f4, f5, f6, f7, (fun _ => rfl), (fun _ => ⟨b, rfl, hb, (fun h => by cases h), fun _ => hB⟩), (fun _ => hmk)⟩
      | k + 8, ho, _, _, _ => simp at ho
     ·
      intro L lx wr hall hI
      obtain ⟨XR, f0, f1, f2, f3, f4, f5, f6, f7, f8, f9, f10⟩ := hI.out
      clear hI
      have G0 := f0
      have G1 := f1
      have G2 := f2
      replace f3 := f3 (hall 0 (by simp))
      replace f4 := f4 (hall 1 (by simp))
      replace f5 := f5 (hall 2 (by simp))
      replace f6 := f6 (hall 3 (by simp))
      replace f7 := f7 (hall 4 (by simp))
      replace f8 := f8 (hall 5 (by simp))
      obtain ⟨bb, eb, lb, _, hz⟩ := f9 (hall 6 (by simp))
      have BN := hz (hall 7 (by simp))
      (try dsimp only)
      rw [eb]
      rw [f3, f4, f5, f6, f7, f8]
      clear hall hz f0 f1 f2 f3 f4 f5 f6 f7 f8 f9 f10
      have Bv := G2
      obtain ⟨a0, a1, a2, a3, a4⟩ := Vec.five (BN)
      obtain ⟨c0, c1, c2, c3, c4⟩ := Vec.five (Bv)
      clear BN Bv G0 G1 G2 CI CS
      go_wp2_with fail
      refine (eqValue_same k2 n2 dd2 x2 t2 _).mono ?_
      rintro e w6 ⟨rfl, e6⟩
      go_wp2_with fail
      go_ret
      exact ⟨rfl, xt (xt XM XR) e6⟩

end Go.Proofs.YtkadkfmidlhedaaGreatDoor

