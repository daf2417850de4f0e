/-
  Several texts in one: V9j, V9t.
-/
import Derived.Test.YtkadkfmidlhedaaGreatDoorV9a
import Derived.Test.YtkadkfmidlhedaaGreatDoorMg27
import Derived.Test.YtkadkfmidlhedaaGreatDoorMg30
import Derived.Test.YtkadkfmidlhedaaGreatDoorV9s
namespace Go.Proofs.YtkadkfmidlhedaaGreatDoor
open Go.RowKit

theorem textOf_shown {k : Int} {n : Bool} {d x : Int} {t : List UInt8} (hg : goodV k n d x t = true) : ∃ k2 n2 d2 x2, textOfV k n d x t = valV k2 n2 d2 x2 (showT k n d x t) := by
 unfold textOfV
 rw [if_pos hg]
 exact textOf_show k n d x t
theorem join_good {a b : List UInt8} (ha : a.all shownC = true) (hb : b.all shownC = true) : goodV 2 false 0 0 (a ++ b) = decide ((a ++ b).length ≤ 1000) := by
 simp [goodV, zeroD, printN, ha, hb]
theorem bytes_app (a b : List UInt8) : (⟨a.toArray⟩ : ByteArray) ++ ⟨b.toArray⟩ = ⟨(a ++ b).toArray⟩ := by
 apply ByteArray.ext
 rw [ByteArray.data_append]
 simp
set_option maxRecDepth 8000 in
set_option maxHeartbeats 2000000 in
theorem joinedI (k : Int) (n : Bool) (d x : Int) (t : List UInt8) (k' : Int) (n' : Bool) (d' x' : Int) (t' : List UInt8) (w : World) (hl : t.length ≤ 2000000) (hl' : t'.length ≤ 2000000) (d1 : -9223372036854775808 ≤ d) (d2 : d ≤ 9223372036854775807) (d1' : -9223372036854775808 ≤ d') (d2' : d' ≤ 9223372036854775807) (hT : Tens w) (hE : ErrTab w) (hI : ItoaC w) (ga : goodV k n d x t = true) (gb : goodV k' n' d' x' t' = true) :
  Calls Tryz.prog 111 #[valV k n d x t, valV k' n' d' x' t'] w fun e w' => e = .returned (joinV k n d x t k' n' d' x' t') ∧ Ext w w' := by
 obtain ⟨ka, na, da, xa, hva⟩ := textOf_shown ga
 obtain ⟨kb, nb, db, xb, hvb⟩ := textOf_shown gb
 have SA := showT_plain ga
 have SB := showT_plain gb
 obtain ⟨R, hR⟩ : ∃ R, joinV k n d x t k' n' d' x' t' = R := ⟨_, rfl⟩
 have HR0 : Hid (joinV k n d x t k' n' d' x' t' = R) := hR
 rw [hR]
 clear hR
 unfold joinV at HR0
 obtain ⟨ta, hta⟩ : ∃ ta, showT k n d x t = ta := ⟨_, rfl⟩
 obtain ⟨tb, htb⟩ : ∃ tb, showT k' n' d' x' t' = tb := ⟨_, rfl⟩
 rw [hta] at HR0 SA hva
 rw [htb] at HR0 SB hvb
 have GJ := join_good SA.1 SB.1
 have AJ := bytes_app ta tb
 have LJ : (ta ++ tb).length ≤ 4000 := by rw [List.length_append]; omega
 obtain ⟨J, hJ⟩ : ∃ J, ta ++ tb = J := ⟨_, rfl⟩
 rw [hJ] at HR0 GJ AJ LJ
 have HM : Hid (¬ maxLen < (⟨ta.toArray⟩ : ByteArray).size + (⟨tb.toArray⟩ : ByteArray).size) := by
  show ¬ maxLen < ta.length + tb.length
  unfold maxLen
  omega
 have CA : Hid (∀ W, Ext w W → Calls Tryz.prog 55 #[valV k n d x t] W fun e w' => e = .returned (valV ka na da xa ta) ∧ Ext W w') := fun W hW => by rw [← hva]; exact textOfI k n d x t W hl d1 d2 (hT.later hW) (hE.later hW) (hI.later hW)
 have CB : Hid (∀ W, Ext w W → Calls Tryz.prog 55 #[valV k' n' d' x' t'] W fun e w' => e = .returned (valV kb nb db xb tb) ∧ Ext W w') := fun W hW => by rw [← hvb]; exact textOfI k' n' d' x' t' W hl' d1' d2' (hT.later hW) (hE.later hW) (hI.later hW)
 have CG : Hid (∀ W, Ext w W → Calls Tryz.prog 34 #[valV 2 false 0 0 J] W fun e w' => e = .returned (.bool (decide (J.length ≤ 1000))) ∧ Ext W w') := fun W hW => by rw [← GJ]; exact goodVI 2 false 0 0 J W (by omega) (by decide) (by decide) (hT.later hW) (hE.later hW)
 clear hva hvb SA SB GJ LJ hJ hta htb hT hE hI hl hl' d1 d2 d1' d2' ga gb
 obtain ⟨u0, u1, u2, h0, h1, h2, s0, s1, s2, B0, B1, B2, X⟩ := mkB3 w [.int .i64 k, .bool n, .int .i64 d, .int .i64 x, sV t] [.int .i64 k', .bool n', .int .i64 d', .int .i64 x', sV t'] [.int .i64 0, .bool false, .int .i64 0, .int .i64 0, sV []] 26 26 26
 obtain ⟨a0, a1, a2, a3, a4⟩ := Vec.five (B0)
 obtain ⟨c0, c1, c2, c3, c4⟩ := Vec.five (B1)
 go_enter Tryz.func111, Tryz.ntmps111
 go_wp2_with fail
 clear h0 s0 h1 s1 h2 s2 a0 a1 a2 a3 a4 c0 c1 c2 c3 c4
 refine wp_region_letters (fun lx : Nat → Value => { tmps := #[valV k n d x t, valV k' n' d' x' t', Value.pointer (some ⟨w.heap.size, 0, none⟩), Value.pointer (some ⟨w.heap.size + 1, 0, none⟩), Value.pointer (some ⟨w.heap.size + 1 + 1, 0, none⟩), lx 5, lx 6, lx 7, lx 8, lx 9, lx 10, lx 11, lx 12, lx 13, undef, undef, undef, undef, undef], defers := [] }) (fun L lx lw => Hid (Ext w lw ∧ Vec lw (w.heap.size) [.int .i64 k, .bool n, .int .i64 d, .int .i64 x, sV t] ∧ Vec lw (w.heap.size + 1) [.int .i64 k', .bool n', .int .i64 d', .int .i64 x', sV t'] ∧ Vec lw (w.heap.size + 1 + 1) [.int .i64 0, .bool false, .int .i64 0, .int .i64 0, sV []] ∧ (L 0 = true → lx 6 = valV k n d x t) ∧ (L 1 = true → lx 7 = valV ka na da xa ta) ∧ (L 2 = true → lx 8 = sV ta) ∧ (L 3 = true → lx 9 = valV k' n' d' x' t') ∧ (L 4 = true → lx 10 = valV kb nb db xb tb) ∧ (L 5 = true → lx 11 = sV tb) ∧ (L 6 = true → lx 12 = sV J) ∧ (L 7 = true → lx 13 = valV 2 false 0 0 J) ∧ (L 8 = true → ∃ b, lx 5 = .pointer (some ⟨b, 0, none⟩) ∧ w.heap.size + 1 + 1 + 1 ≤ b ∧ (L 9 = false → Vec lw b [.int .i64 0, .bool false, .int .i64 0, .int .i64 0, sV []]) ∧ (L 9 = true → Vec lw b [.int .i64 2, .bool false, .int .i64 0, .int .i64 0, sV J])) ∧ (L 9 = true → L 8 = true))) rfl (by kernel_rfl) (fun jj => undef) rfl ?_ ?_ ?_
 ·
  exact ⟨xd X, B0.later (xd (xr _)), B1.later (xd (xr _)), B2.later (xd (xr _)), (fun h => by cases h), (fun h => by cases h), (fun h => by cases h), (fun h => by cases h), (fun h => by cases h), (fun h => by cases h), (fun h => by cases h), (fun h => by cases h), (fun h => by cases h), (fun h => by cases h)⟩
 ·
  intro L lx wl i o K hK ho hL haf hI
  obtain ⟨X, f0, f1, f2, f3, f4, f5, f6, f7, f8, f9, f10, f11, f12⟩ := hI.out
  match i, ho, hL, haf, hK with
  | 0, ho, hL, haf, hK =>
   simp only [List.getElem?_toArray, List.getElem?_cons_zero, Option.some.injEq] at ho
   subst ho
   (try dsimp only)
   obtain ⟨a0, a1, a2, a3, a4⟩ := Vec.five (f0)
   go_wp2_with fail
   exact hK (fun jj => if jj = 6 then valV k n d x t else lx jj) _ ⟨X, f0, f1, f2, (fun _ => rfl), f4, f5, f6, f7, f8, f9, f10, f11, f12⟩
  | 1, ho, hL, haf, hK =>
   simp only [List.getElem?_toArray, List.getElem?_cons_zero, List.getElem?_cons_succ, Option.some.injEq] at ho
   subst ho
   (try dsimp only)
   rw [f3 (haf ⟨0, .data⟩ (by simp) rfl)]
   go_wp2_with fail
   refine (CA.out wl X).mono ?_
   rintro rr w' ⟨rfl, E⟩
   go_wp2_with fail
   exact hK (fun jj => if jj = 7 then valV ka na da xa ta else if jj = 6 then valV k n d x t else lx jj) _ ⟨xt X E, (f0.later E), (f1.later E), (f2.later E), (fun _ => rfl), (fun _ => rfl), f5, f6, f7, f8, f9, f10, (fun h => by obtain ⟨b, h1, h2, h3, h4⟩ := f11 h; exact ⟨b, h1, h2, fun h => (h3 h).later E, fun h => (h4 h).later E⟩), f12⟩
  | 2, ho, hL, haf, hK =>
   simp only [List.getElem?_toArray, List.getElem?_cons_zero, List.getElem?_cons_succ, Option.some.injEq] at ho
   subst ho
   (try dsimp only)
   rw [f4 (haf ⟨1, .data⟩ (by simp) rfl)]
   have FT := field_text ka na da xa ta wl
   go_wp2_with fail
   exact hK (fun jj => if jj = 8 then sV ta else if jj = 7 then valV ka na da xa ta else lx jj) _ ⟨X, f0, f1, f2, f3, (fun _ => rfl), (fun _ => rfl), f6, f7, f8, f9, f10, f11, f12⟩
  | 3, ho, hL, haf, hK =>
   simp only [List.getElem?_toArray, List.getElem?_cons_zero, List.getElem?_cons_succ, Option.some.injEq] at ho
   subst ho
   (try dsimp only)
   obtain ⟨a0, a1, a2, a3, a4⟩ := Vec.five (f1)
   go_wp2_with fail
   exact hK (fun jj => if jj = 9 then valV k' n' d' x' t' else lx jj) _ ⟨X, f0, f1, f2, f3, f4, f5, (fun _ => rfl), f7, f8, f9, f10, f11, f12⟩
  | 4, ho, hL, haf, hK =>
   simp only [List.getElem?_toArray, List.getElem?_cons_zero, List.getElem?_cons_succ, Option.some.injEq] at ho
   subst ho
   (try dsimp only)
   rw [f6 (haf ⟨3, .data⟩ (by simp) rfl)]
   go_wp2_with fail
   refine (CB.out wl X).mono ?_
   rintro rr w' ⟨rfl, E⟩
   go_wp2_with fail
   exact hK (fun jj => if jj = 10 then valV kb nb db xb tb else if jj = 9 then valV k' n' d' x' t' else lx jj) _ ⟨xt X E, (f0.later E), (f1.later E), (f2.later E), f3, f4, f5, (fun _ => rfl), (fun _ => rfl), f8, f9, f10, (fun h => by obtain ⟨b, h1, h2, h3, h4⟩ := f11 h; exact ⟨b, h1, h2, fun h => (h3 h).later E, fun h => (h4 h).later E⟩), f12⟩
  | 5, ho, hL, haf, hK =>
   simp only [List.getElem?_toArray, List.getElem?_cons_zero, List.getElem?_cons_succ, Option.some.injEq] at ho
   subst ho
   (try dsimp only)
   rw [f7 (haf ⟨4, .data⟩ (by simp) rfl)]
   have FT := field_text kb nb db xb tb wl
   go_wp2_with fail
   exact hK (fun jj => if jj = 11 then sV tb else if jj = 10 then valV kb nb db xb tb else lx jj) _ ⟨X, f0, f1, f2, f3, f4, f5, f6, (fun _ => rfl), (fun _ => rfl), f9, f10, f11, f12⟩
  | 6, ho, hL, haf, hK =>
   simp only [List.getElem?_toArray, List.getElem?_cons_zero, List.getElem?_cons_succ, Option.some.injEq] at ho
   subst ho
   (try dsimp only)
   rw [f5 (haf ⟨2, .data⟩ (by simp) rfl), f8 (haf ⟨5, .data⟩ (by simp) rfl)]
   have i1 : ¬ maxLen < (⟨ta.toArray⟩ : ByteArray).size + (⟨tb.toArray⟩ : ByteArray).size := HM.out
   go_wp2_with fail
   exact hK (fun jj => if jj = 12 then sV J else if jj = 8 then sV ta else if jj = 11 then sV tb else lx jj) _ ⟨X, f0, f1, f2, f3, f4, (fun _ => rfl), f6, f7, (fun _ => rfl), (fun _ => rfl), f10, f11, f12⟩
  | 7, ho, hL, haf, hK =>
   simp only [List.getElem?_toArray, List.getElem?_cons_zero, List.getElem?_cons_succ, Option.some.injEq] at ho
   subst ho
   (try dsimp only)
   rw [f9 (haf ⟨6, .data⟩ (by simp) rfl)]
   go_wp2_with fail
   refine (textVI J wl).mono ?_
   rintro rr w' ⟨rfl, E⟩
   go_wp2_with fail
   exact hK (fun jj => if jj = 13 then valV 2 false 0 0 J else if jj = 12 then sV J else lx jj) _ ⟨xt X E, (f0.later E), (f1.later E), (f2.later E), f3, f4, f5, f6, f7, f8, (fun _ => rfl), (fun _ => rfl), (fun h => by obtain ⟨b, h1, h2, h3, h4⟩ := f11 h; exact ⟨b, h1, h2, fun h => (h3 h).later E, fun h => (h4 h).later E⟩), f12⟩
  | 8, ho, hL, haf, hK =>
   simp only [List.getElem?_toArray, List.getElem?_cons_zero, List.getElem?_cons_succ, Option.some.injEq] at ho
   subst ho
   (try dsimp only)
   have hst : L 9 = true → False := fun h => by have := f12 h; rw [hL] at this; cases this
   have E := x1 wl (.cells #[.int .i64 0, .bool false, .int .i64 0, .int .i64 0, sV []] 26)
   go_wp2_with fail
   exact hK (fun jj => if jj = 5 then .pointer (some ⟨wl.heap.size, 0, none⟩) else lx jj) _ ⟨xt X E, (f0.later E), (f1.later E), (f2.later E), f3, f4, f5, f6, f7, f8, f9, f10, (fun _ => ⟨wl.heap.size, rfl, by have := show w.heap.size + 1 + 1 < wl.heap.size from World.block_lt_of_cell? _ _ (f2 0 _ rfl).1; omega, fun _ => vec_made wl [.int .i64 0, .bool false, .int .i64 0, .int .i64 0, sV []] _, fun h => (hst h).elim⟩), (fun _ => rfl)⟩
  | 9, ho, hL, haf, hK =>
   simp only [List.getElem?_toArray, List.getElem?_cons_zero, List.getElem?_cons_succ, Option.some.injEq] at ho
   subst ho
   (try dsimp only)
   have hmk : L 8 = true := haf ⟨8, .data⟩ (by simp) rfl
   obtain ⟨b, eb', hb, hz, _⟩ := f11 hmk
   have bx := hz hL
   rw [eb', f10 (haf ⟨7, .data⟩ (by simp) rfl)]
   obtain ⟨b0, b1, b2, b3, b4⟩ := Vec.five (bx)
   obtain ⟨fb0, fb1, fb2, fb3, fb4⟩ := Vec.fiveF (bx)
   have hX := Ext.setL (b := b) (by omega) [.int .i64 2, .bool false, .int .i64 0, .int .i64 0, sV J] 0 X
   have hB := bx.put5 (.int .i64 2) (.bool false) (.int .i64 0) (.int .i64 0) (sV J)
   go_wp2_with fail
   exact hK (fun jj => if jj = 5 then .pointer (some ⟨b, 0, none⟩) else if jj = 13 then valV 2 false 0 0 J else lx jj) _ ⟨hX, (Vec.farL (k := b) (by omega) [.int .i64 2, .bool false, .int .i64 0, .int .i64 0, sV J] 0 f0), (Vec.farL (k := b) (by omega) [.int .i64 2, .bool false, .int .i64 0, .int .i64 0, sV J] 0 f1), (Vec.farL (k := b) (by omega) [.int .i64 2, .bool false, .int .i64 0, .int .i64 0, sV J] 0 f2), f3, f4, f5, f6, f7, f8, f9, (fun _ => rfl), (fun _ => ⟨b, rfl, hb, (fun h => by cases h), fun _ => hB⟩), (fun _ => hmk)⟩
  | k + 10, ho, _, _, _ => simp at ho
 ·
  intro L lx wr hall hI
  obtain ⟨XR, f0, f1, f2, f3, f4, f5, f6, f7, f8, f9, f10, f11, f12⟩ := hI.out
  clear hI
  have G0 := f0
  have G1 := f1
  have G2 := f2
  replace f3 := f3 (hall 0 (by simp))
  replace f4 := f4 (hall 1 (by simp))
  replace f5 := f5 (hall 2 (by simp))
  replace f6 := f6 (hall 3 (by simp))
  replace f7 := f7 (hall 4 (by simp))
  replace f8 := f8 (hall 5 (by simp))
  replace f9 := f9 (hall 6 (by simp))
  replace f10 := f10 (hall 7 (by simp))
  obtain ⟨bb, eb, lb, _, hz⟩ := f11 (hall 8 (by simp))
  have BN := hz (hall 9 (by simp))
  (try dsimp only)
  rw [eb]
  rw [f3, f4, f5, f6, f7, f8, f9, f10]
  clear hall hz f0 f1 f2 f3 f4 f5 f6 f7 f8 f9 f10 f11 f12
  have g0 := (BN 0 _ rfl).1
  have g1 := (BN 1 _ rfl).1
  have g2 := (BN 2 _ rfl).1
  have g3 := (BN 3 _ rfl).1
  have g4 := (BN 4 _ rfl).1
  clear B0 B1 B2 CA CB G0 G1
  go_wp2_with fail
  clear g0 g1 g2 g3 g4
  refine (CG.out wr XR).mono ?_
  rintro e w1 ⟨rfl, e1⟩
  have X1 := xt XR e1
  by_cases hJL : J.length ≤ 1000
  ·
   rw [decide_eq_true hJL]
   have HR : Hid (valV 2 false 0 0 J = R) := by show _ = _; rw [← HR0.out, if_pos hJL]
   clear HR0 hJL
   have BN := BN.later e1
   obtain ⟨g0, g1, g2, g3, g4⟩ := Vec.five (BN)
   obtain ⟨wy, hy, FX, ⟨b0, b1, b2, b3, b4⟩, ⟨fb0, fb1, fb2, fb3, fb4⟩, fd0, fd1, fd2, fd3, fd4⟩ := fin5 (G2.later e1) (X1) (by omega) 2 false 0 0 J
   go_wp2_with fail
   exact bodyPost_ret (v := valV 2 false 0 0 J) (by simp [results, Tryz.results111, go_sem, fd0, fd1, fd2, fd3, fd4]) rfl ⟨congrArg Ending.returned HR.out, FX⟩
  ·
   rw [decide_eq_false hJL]
   have HR : Hid (errW = R) := by show _ = _; rw [← HR0.out, if_neg hJL]
   clear HR0 hJL
   go_wp2_with fail
   refine (errVI errT w1).mono ?_
   rintro e w2 ⟨rfl, e2⟩
   obtain ⟨wy, hy, FX, ⟨b0, b1, b2, b3, b4⟩, ⟨fb0, fb1, fb2, fb3, fb4⟩, fd0, fd1, fd2, fd3, fd4⟩ := fin5 ((G2.later e1).later e2) (xt X1 e2) (by omega) 4 false 0 0 errT
   go_wp2_with fail
   exact bodyPost_ret (v := valV 4 false 0 0 errT) (by simp [results, Tryz.results111, go_sem, fd0, fd1, fd2, fd3, fd4]) rfl ⟨congrArg Ending.returned HR.out, FX⟩

theorem level_0 (w : World) : Calls Tryz.prog 119 #[sV [43]] w fun e w' => e = .returned (.int .i64 3) ∧ w' = w := by
 go_enter Tryz.func119, Tryz.ntmps119
 go_wp2_with fail
 go_ret
 exact ⟨rfl, rfl⟩
theorem level_1 (w : World) : Calls Tryz.prog 119 #[sV [45]] w fun e w' => e = .returned (.int .i64 3) ∧ w' = w := by
 go_enter Tryz.func119, Tryz.ntmps119
 go_wp2_with fail
 go_ret
 exact ⟨rfl, rfl⟩
theorem level_2 (w : World) : Calls Tryz.prog 119 #[sV [42]] w fun e w' => e = .returned (.int .i64 4) ∧ w' = w := by
 go_enter Tryz.func119, Tryz.ntmps119
 go_wp2_with fail
 go_ret
 exact ⟨rfl, rfl⟩
theorem level_3 (w : World) : Calls Tryz.prog 119 #[sV [47]] w fun e w' => e = .returned (.int .i64 4) ∧ w' = w := by
 go_enter Tryz.func119, Tryz.ntmps119
 go_wp2_with fail
 go_ret
 exact ⟨rfl, rfl⟩
theorem level_4 (w : World) : Calls Tryz.prog 119 #[sV [94]] w fun e w' => e = .returned (.int .i64 5) ∧ w' = w := by
 go_enter Tryz.func119, Tryz.ntmps119
 go_wp2_with fail
 go_ret
 exact ⟨rfl, rfl⟩
theorem level_6 (w : World) : Calls Tryz.prog 119 #[sV [61]] w fun e w' => e = .returned (.int .i64 1) ∧ w' = w := by
 go_enter Tryz.func119, Tryz.ntmps119
 go_wp2_with fail
 go_ret
 exact ⟨rfl, rfl⟩
theorem level_7 (w : World) : Calls Tryz.prog 119 #[sV [60, 62]] w fun e w' => e = .returned (.int .i64 1) ∧ w' = w := by
 go_enter Tryz.func119, Tryz.ntmps119
 go_wp2_with fail
 go_ret
 exact ⟨rfl, rfl⟩
theorem level_8 (w : World) : Calls Tryz.prog 119 #[sV [60]] w fun e w' => e = .returned (.int .i64 1) ∧ w' = w := by
 go_enter Tryz.func119, Tryz.ntmps119
 go_wp2_with fail
 go_ret
 exact ⟨rfl, rfl⟩
theorem level_9 (w : World) : Calls Tryz.prog 119 #[sV [62]] w fun e w' => e = .returned (.int .i64 1) ∧ w' = w := by
 go_enter Tryz.func119, Tryz.ntmps119
 go_wp2_with fail
 go_ret
 exact ⟨rfl, rfl⟩
theorem level_10 (w : World) : Calls Tryz.prog 119 #[sV [60, 61]] w fun e w' => e = .returned (.int .i64 1) ∧ w' = w := by
 go_enter Tryz.func119, Tryz.ntmps119
 go_wp2_with fail
 go_ret
 exact ⟨rfl, rfl⟩
theorem level_11 (w : World) : Calls Tryz.prog 119 #[sV [62, 61]] w fun e w' => e = .returned (.int .i64 1) ∧ w' = w := by
 go_enter Tryz.func119, Tryz.ntmps119
 go_wp2_with fail
 go_ret
 exact ⟨rfl, rfl⟩
theorem cmpSV (k : Int) (n : Bool) (d x : Int) (t : List UInt8) (k' : Int) (n' : Bool) (d' x' : Int) (t' : List UInt8) (w : World) (hl : t.length ≤ 2000000) (hl' : t'.length ≤ 2000000) (ga : goodV k n d x t = true) (gb : goodV k' n' d' x' t' = true) (h4 : k ≠ 4) (h4' : k' ≠ 4) :
  Calls Tryz.prog 42 #[valV k n d x t, valV k' n' d' x' t'] w fun e w' => e = .returned (.int .i64 (compareV k n d x t k' n' d' x' t')) ∧ Ext w w' := by
 obtain ⟨v1, z1⟩ := beside_eq ga k'
 obtain ⟨v2, z2⟩ := beside_eq gb k
 have HR : cmpR (bk k k') n d x (bt k t k') (bk k' k) n' d' x' (bt k' t' k) = compareV k n d x t k' n' d' x' t' := by simp [compareV, ga, gb, h4, h4']
 rw [← HR]
 exact cmpS6 k n d x t k' n' d' x' t' w _ _ _ _ _ v1 z1 (bt_len k k' hl) _ _ _ _ _ v2 z2 (bt_len k' k hl')
set_option maxRecDepth 8000 in
set_option maxHeartbeats 2000000 in
theorem l6left (op : List UInt8) (n : Bool) (d x : Int) (t : List UInt8) (k' : Int) (n' : Bool) (d' x' : Int) (t' : List UInt8) (w : World) :
  Calls Tryz.prog 70 #[sV op, valV 4 n d x t, valV k' n' d' x' t'] w fun e w' => e = .returned (valV 4 n d x t) ∧ Ext w w' := by
 obtain ⟨u0, u1, u2, h0, h1, h2, s0, s1, s2, B0, B1, B2, X⟩ := mkB3 w [.int .i64 4, .bool n, .int .i64 d, .int .i64 x, sV t] [.int .i64 k', .bool n', .int .i64 d', .int .i64 x', sV t'] [.int .i64 0, .bool false, .int .i64 0, .int .i64 0, sV []] 26 26 26
 obtain ⟨a0, a1, a2, a3, a4⟩ := Vec.five (B0)
 obtain ⟨c0, c1, c2, c3, c4⟩ := Vec.five (B1)
 go_enter Tryz.func70, Tryz.ntmps70
 obtain ⟨wy, hy, FX, ⟨b0, b1, b2, b3, b4⟩, ⟨fb0, fb1, fb2, fb3, fb4⟩, fd0, fd1, fd2, fd3, fd4⟩ := fin5 (B2) (X) (by omega) 4 n d x t
 go_wp2_with fail
 exact bodyPost_ret (v := valV 4 n d x t) (by simp [results, Tryz.results70, go_sem, fd0, fd1, fd2, fd3, fd4]) rfl ⟨rfl, FX⟩
set_option maxRecDepth 8000 in
set_option maxHeartbeats 2000000 in
theorem l6right (op : List UInt8) (k : Int) (n : Bool) (d x : Int) (t : List UInt8) (n' : Bool) (d' x' : Int) (t' : List UInt8) (w : World) (h4 : k ≠ 4) :
  Calls Tryz.prog 70 #[sV op, valV k n d x t, valV 4 n' d' x' t'] w fun e w' => e = .returned (valV 4 n' d' x' t') ∧ Ext w w' := by
 have hk4 : (k == 4) = false := by simpa using h4
 obtain ⟨u0, u1, u2, h0, h1, h2, s0, s1, s2, B0, B1, B2, X⟩ := mkB3 w [.int .i64 k, .bool n, .int .i64 d, .int .i64 x, sV t] [.int .i64 4, .bool n', .int .i64 d', .int .i64 x', sV t'] [.int .i64 0, .bool false, .int .i64 0, .int .i64 0, sV []] 26 26 26
 obtain ⟨a0, a1, a2, a3, a4⟩ := Vec.five (B0)
 obtain ⟨c0, c1, c2, c3, c4⟩ := Vec.five (B1)
 go_enter Tryz.func70, Tryz.ntmps70
 obtain ⟨wy, hy, FX, ⟨b0, b1, b2, b3, b4⟩, ⟨fb0, fb1, fb2, fb3, fb4⟩, fd0, fd1, fd2, fd3, fd4⟩ := fin5 (B2) (X) (by omega) 4 n' d' x' t'
 go_wp2_with fail
 exact bodyPost_ret (v := valV 4 n' d' x' t') (by simp [results, Tryz.results70, go_sem, fd0, fd1, fd2, fd3, fd4]) rfl ⟨rfl, FX⟩
set_option maxRecDepth 8000 in
set_option maxHeartbeats 2000000 in
theorem l6join (k : Int) (n : Bool) (d x : Int) (t : List UInt8) (k' : Int) (n' : Bool) (d' x' : Int) (t' : List UInt8) (w : World) (ga : goodV k n d x t = true) (gb : goodV k' n' d' x' t' = true) (h4 : k ≠ 4) (h4' : k' ≠ 4) :
  Calls Tryz.prog 70 #[sV [38], valV k n d x t, valV k' n' d' x' t'] w fun e w' => e = .returned (joinV k n d x t k' n' d' x' t') ∧ Ext w w' := by
 have hk4 : (k == 4) = false := by simpa using h4
 have hk4' : (k' == 4) = false := by simpa using h4'
 have ea : ∃ ka na da xa, textOf k n d x t = valV ka na da xa (showT k n d x t) := textOf_show k n d x t
 have eb : ∃ ka na da xa, textOf k' n' d' x' t' = valV ka na da xa (showT k' n' d' x' t') := textOf_show k' n' d' x' t'
 obtain ⟨ka, na, da, xa, hva⟩ := ea
 obtain ⟨kb, nb, db, xb, hvb⟩ := eb
 have SA := showT_plain ga
 have SB := showT_plain gb
 obtain ⟨R, hR⟩ : ∃ R, joinV k n d x t k' n' d' x' t' = R := ⟨_, rfl⟩
 have HR0 : Hid (joinV k n d x t k' n' d' x' t' = R) := hR
 rw [hR]
 clear hR
 unfold joinV at HR0
 obtain ⟨ta, hta⟩ : ∃ ta, showT k n d x t = ta := ⟨_, rfl⟩
 obtain ⟨tb, htb⟩ : ∃ tb, showT k' n' d' x' t' = tb := ⟨_, rfl⟩
 rw [hta] at HR0 SA hva
 rw [htb] at HR0 SB hvb
 have AJ := bytes_app ta tb
 have HM : Hid (¬ maxLen < (⟨ta.toArray⟩ : ByteArray).size + (⟨tb.toArray⟩ : ByteArray).size) := by
  show ¬ maxLen < ta.length + tb.length
  unfold maxLen
  omega
 have LJ : (ta ++ tb).length ≤ 4000 := by rw [List.length_append]; omega
 obtain ⟨J, hJ⟩ : ∃ J, ta ++ tb = J := ⟨_, rfl⟩
 rw [hJ] at HR0 AJ LJ
 have CA : Hid (∀ W, Calls Tryz.prog 118 #[valV k n d x t] W fun e w' => e = .returned (valV ka na da xa ta) ∧ Ext W w') := fun W => by rw [← hva]; exact asTextS k n d x t W
 have CB : Hid (∀ W, Calls Tryz.prog 118 #[valV k' n' d' x' t'] W fun e w' => e = .returned (valV kb nb db xb tb) ∧ Ext W w') := fun W => by rw [← hvb]; exact asTextS k' n' d' x' t' W
 clear hva hvb SA SB hJ hta htb ga gb h4 h4'
 obtain ⟨u0, u1, u2, h0, h1, h2, s0, s1, s2, B0, B1, B2, X⟩ := mkB3 w [.int .i64 k, .bool n, .int .i64 d, .int .i64 x, sV t] [.int .i64 k', .bool n', .int .i64 d', .int .i64 x', sV t'] [.int .i64 0, .bool false, .int .i64 0, .int .i64 0, sV []] 26 26 26
 obtain ⟨a0, a1, a2, a3, a4⟩ := Vec.five (B0)
 obtain ⟨c0, c1, c2, c3, c4⟩ := Vec.five (B1)
 go_enter Tryz.func70, Tryz.ntmps70
 go_wp2_with fail
 clear h0 s0 h1 s1 h2 s2 a0 a1 a2 a3 a4 c0 c1 c2 c3 c4 hk4 hk4'
 refine wp_region_letters (fun lx : Nat → Value => { tmps := #[sV [38], valV k n d x t, valV k' n' d' x' t', undef, Value.pointer (some ⟨w.heap.size, 0, none⟩), Value.pointer (some ⟨w.heap.size + 1, 0, none⟩), Value.pointer (some ⟨w.heap.size + 1 + 1, 0, none⟩), lx 7, undef, undef, undef, Value.pointer (some ⟨w.heap.size, 0, none⟩), Value.int .i64 k, Value.bool false, undef, Value.pointer (some ⟨w.heap.size + 1, 0, none⟩), Value.int .i64 k', Value.bool false, undef, sV [38], Value.bool true, lx 21, lx 22, lx 23, lx 24, lx 25, lx 26, lx 27, undef, undef, undef, undef, undef, undef, undef, undef, undef, undef, undef, undef, undef, undef, undef, undef, undef, undef, undef, undef, undef, undef, undef, undef, undef, undef, undef, undef, undef, undef, undef, undef, undef, undef, undef, undef, undef, undef, undef, undef, undef, undef, undef, undef, undef, undef, undef, undef, undef, undef, undef, undef, undef, undef, undef, undef, undef, undef, undef], defers := [] }) (fun L lx lw => Hid (Ext w lw ∧ Vec lw (w.heap.size) [.int .i64 k, .bool n, .int .i64 d, .int .i64 x, sV t] ∧ Vec lw (w.heap.size + 1) [.int .i64 k', .bool n', .int .i64 d', .int .i64 x', sV t'] ∧ Vec lw (w.heap.size + 1 + 1) [.int .i64 0, .bool false, .int .i64 0, .int .i64 0, sV []] ∧ (L 0 = true → lx 21 = valV k n d x t) ∧ (L 1 = true → lx 22 = valV ka na da xa ta) ∧ (L 2 = true → lx 23 = sV ta) ∧ (L 3 = true → lx 24 = valV k' n' d' x' t') ∧ (L 4 = true → lx 25 = valV kb nb db xb tb) ∧ (L 5 = true → lx 26 = sV tb) ∧ (L 6 = true → lx 27 = sV J) ∧ (L 7 = true → lx 7 = sV J))) rfl (by kernel_rfl) (fun jj => undef) rfl ?_ ?_ ?_
 ·
  exact ⟨xd X, B0.later (xd (xr _)), B1.later (xd (xr _)), B2.later (xd (xr _)), (fun h => by cases h), (fun h => by cases h), (fun h => by cases h), (fun h => by cases h), (fun h => by cases h), (fun h => by cases h), (fun h => by cases h), (fun h => by cases h)⟩
 ·
  intro L lx wl i o K hK ho hL haf hI
  obtain ⟨X, f0, f1, f2, f3, f4, f5, f6, f7, f8, f9, f10⟩ := hI.out
  match i, ho, hL, haf, hK with
  | 0, ho, hL, haf, hK =>
   simp only [List.getElem?_toArray, List.getElem?_cons_zero, Option.some.injEq] at ho
   subst ho
   (try dsimp only)
   obtain ⟨a0, a1, a2, a3, a4⟩ := Vec.five (f0)
   go_wp2_with fail
   exact hK (fun jj => if jj = 21 then valV k n d x t else lx jj) _ ⟨X, f0, f1, f2, (fun _ => rfl), f4, f5, f6, f7, f8, f9, f10⟩
  | 1, ho, hL, haf, hK =>
   simp only [List.getElem?_toArray, List.getElem?_cons_zero, List.getElem?_cons_succ, Option.some.injEq] at ho
   subst ho
   (try dsimp only)
   rw [f3 (haf ⟨0, .data⟩ (by simp) rfl)]
   go_wp2_with fail
   refine (CA.out wl).mono ?_
   rintro rr w' ⟨rfl, E⟩
   go_wp2_with fail
   exact hK (fun jj => if jj = 22 then valV ka na da xa ta else if jj = 21 then valV k n d x t else lx jj) _ ⟨xt X E, (f0.later E), (f1.later E), (f2.later E), (fun _ => rfl), (fun _ => rfl), f5, f6, f7, f8, f9, f10⟩
  | 2, ho, hL, haf, hK =>
   simp only [List.getElem?_toArray, List.getElem?_cons_zero, List.getElem?_cons_succ, Option.some.injEq] at ho
   subst ho
   (try dsimp only)
   rw [f4 (haf ⟨1, .data⟩ (by simp) rfl)]
   have FT := field_text ka na da xa ta wl
   go_wp2_with fail
   exact hK (fun jj => if jj = 23 then sV ta else if jj = 22 then valV ka na da xa ta else lx jj) _ ⟨X, f0, f1, f2, f3, (fun _ => rfl), (fun _ => rfl), f6, f7, f8, f9, f10⟩
  | 3, ho, hL, haf, hK =>
   simp only [List.getElem?_toArray, List.getElem?_cons_zero, List.getElem?_cons_succ, Option.some.injEq] at ho
   subst ho
   (try dsimp only)
   obtain ⟨a0, a1, a2, a3, a4⟩ := Vec.five (f1)
   go_wp2_with fail
   exact hK (fun jj => if jj = 24 then valV k' n' d' x' t' else lx jj) _ ⟨X, f0, f1, f2, f3, f4, f5, (fun _ => rfl), f7, f8, f9, f10⟩
  | 4, ho, hL, haf, hK =>
   simp only [List.getElem?_toArray, List.getElem?_cons_zero, List.getElem?_cons_succ, Option.some.injEq] at ho
   subst ho
   (try dsimp only)
   rw [f6 (haf ⟨3, .data⟩ (by simp) rfl)]
   go_wp2_with fail
   refine (CB.out wl).mono ?_
   rintro rr w' ⟨rfl, E⟩
   go_wp2_with fail
   exact hK (fun jj => if jj = 25 then valV kb nb db xb tb else if jj = 24 then valV k' n' d' x' t' else lx jj) _ ⟨xt X E, (f0.later E), (f1.later E), (f2.later E), f3, f4, f5, (fun _ => rfl), (fun _ => rfl), f8, f9, f10⟩
  | 5, ho, hL, haf, hK =>
   simp only [List.getElem?_toArray, List.getElem?_cons_zero, List.getElem?_cons_succ, Option.some.injEq] at ho
   subst ho
   (try dsimp only)
   rw [f7 (haf ⟨4, .data⟩ (by simp) rfl)]
   have FT := field_text kb nb db xb tb wl
   go_wp2_with fail
   exact hK (fun jj => if jj = 26 then sV tb else if jj = 25 then valV kb nb db xb tb else lx jj) _ ⟨X, f0, f1, f2, f3, f4, f5, f6, (fun _ => rfl), (fun _ => rfl), f9, f10⟩
  | 6, ho, hL, haf, hK =>
   simp only [List.getElem?_toArray, List.getElem?_cons_zero, List.getElem?_cons_succ, Option.some.injEq] at ho
   subst ho
   (try dsimp only)
   rw [f5 (haf ⟨2, .data⟩ (by simp) rfl), f8 (haf ⟨5, .data⟩ (by simp) rfl)]
   have i1 : ¬ maxLen < (⟨ta.toArray⟩ : ByteArray).size + (⟨tb.toArray⟩ : ByteArray).size := HM.out
   go_wp2_with fail
   exact hK (fun jj => if jj = 27 then sV J else if jj = 23 then sV ta else if jj = 26 then sV tb else lx jj) _ ⟨X, f0, f1, f2, f3, f4, (fun _ => rfl), f6, f7, (fun _ => rfl), (fun _ => rfl), f10⟩
  | 7, ho, hL, haf, hK =>
   simp only [List.getElem?_toArray, List.getElem?_cons_zero, List.getElem?_cons_succ, Option.some.injEq] at ho
   subst ho
   (try dsimp only)
   rw [f9 (haf ⟨6, .data⟩ (by simp) rfl)]
   go_wp2_with fail
   exact hK (fun jj => if jj = 7 then sV J else if jj = 27 then sV J else lx jj) _ ⟨X, f0, f1, f2, f3, f4, f5, f6, f7, f8, (fun _ => rfl), (fun _ => rfl)⟩
  | k + 8, ho, _, _, _ => simp at ho
 ·
  intro L lx wr hall hI
  obtain ⟨XR, f0, f1, f2, f3, f4, f5, f6, f7, f8, f9, f10⟩ := hI.out
  clear hI
  have G0 := f0
  have G1 := f1
  have G2 := f2
  replace f3 := f3 (hall 0 (by simp))
  replace f4 := f4 (hall 1 (by simp))
  replace f5 := f5 (hall 2 (by simp))
  replace f6 := f6 (hall 3 (by simp))
  replace f7 := f7 (hall 4 (by simp))
  replace f8 := f8 (hall 5 (by simp))
  replace f9 := f9 (hall 6 (by simp))
  replace f10 := f10 (hall 7 (by simp))
  (try dsimp only)
  rw [f3, f4, f5, f6, f7, f8, f9, f10]
  clear hall f0 f1 f2 f3 f4 f5 f6 f7 f8 f9 f10
  clear B0 B1 B2 CA CB G0 G1 HM AJ
  have hz : (⟨J.toArray⟩ : ByteArray).size = J.length := rfl
  by_cases hJL : J.length ≤ 1000
  ·
   have HR : Hid (valV 2 false 0 0 J = R) := by show _ = _; rw [← HR0.out, if_pos hJL]
   clear HR0
   have i1 : ¬ (1000 : Int) < (J.length : Int) := by omega
   go_wp2_with fail
   refine (textVS J wr).mono ?_
   rintro e w2 ⟨rfl, e2⟩
   obtain ⟨wy, hy, FX, ⟨b0, b1, b2, b3, b4⟩, ⟨fb0, fb1, fb2, fb3, fb4⟩, fd0, fd1, fd2, fd3, fd4⟩ := fin5 (G2.later e2) (xt XR e2) (by omega) 2 false 0 0 J
   go_wp2_with fail
   exact bodyPost_ret (v := valV 2 false 0 0 J) (by simp [results, Tryz.results70, go_sem, fd0, fd1, fd2, fd3, fd4]) rfl ⟨congrArg Ending.returned HR.out, FX⟩
  ·
   have HR : Hid (errW = R) := by show _ = _; rw [← HR0.out, if_neg hJL]
   clear HR0
   have i1 : (1000 : Int) < (J.length : Int) := by omega
   go_wp2_with fail
   refine (errVS errT wr).mono ?_
   rintro e w2 ⟨rfl, e2⟩
   obtain ⟨wy, hy, FX, ⟨b0, b1, b2, b3, b4⟩, ⟨fb0, fb1, fb2, fb3, fb4⟩, fd0, fd1, fd2, fd3, fd4⟩ := fin5 (G2.later e2) (xt XR e2) (by omega) 4 false 0 0 errT
   go_wp2_with fail
   exact bodyPost_ret (v := valV 4 false 0 0 errT) (by simp [results, Tryz.results70, go_sem, fd0, fd1, fd2, fd3, fd4]) rfl ⟨congrArg Ending.returned HR.out, FX⟩

end Go.Proofs.YtkadkfmidlhedaaGreatDoor

