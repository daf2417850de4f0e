/-
  Chapter 6: BoolOf of the specification; the law.
-/
import Derived.Test.YtchpieciifhplaaDoorV6e
namespace Go.Proofs.YtchpieciifhplaaDoor
open Go.RowKit

theorem goodV_num {n : Bool} {d x : Int} {t : List UInt8} (h : goodV 1 n d x t = true) : goodB n d x = true ∧ t = [] := by simpa [goodV] using h
theorem goodV_zero {k : Int} {n : Bool} {d x : Int} {t : List UInt8} (h : goodV k n d x t = true) (h1 : k ≠ 1) : n = false ∧ d = 0 ∧ x = 0 := by
  simp only [goodV, h1, if_false, Bool.and_eq_true] at h
  have := h.1
  simpa [zeroD, and_assoc] using this
theorem goodV_empty {n : Bool} {d x : Int} {t : List UInt8} (h : goodV 0 n d x t = true) : t = [] := by simpa [goodV] using (show _ ∧ _ by simpa [goodV] using h).2
theorem goodB_zero {n : Bool} {d x : Int} (h : goodB n d x = true) : zeroD n d x = decide (d = 0) := by
  by_cases hd : d = 0
  · have : n = false ∧ x = 0 := by simpa [goodB, hd] using h
    simp [zeroD, hd, this.1, this.2]
  · simp [zeroD, hd]
theorem boolOf_val (k : Int) (n : Bool) (d x : Int) (t : List UInt8) : ∃ k2 n2 d2 x2 t2, boolOf k n d x t = valV k2 n2 d2 x2 t2 := by
  unfold boolOf
  split
  · exact ⟨_, _, _, _, _, rfl⟩
  · split
    · exact ⟨_, _, _, _, _, rfl⟩
    · split
      · split
        · exact ⟨_, _, _, _, _, rfl⟩
        · exact ⟨_, _, _, _, _, rfl⟩
      · exact ⟨_, _, _, _, _, rfl⟩
theorem ofV_val {f : Value} (g : Bool) (h : ∃ k2 n2 d2 x2 t2, f = valV k2 n2 d2 x2 t2) : ∃ k2 n2 d2 x2 t2, (if g then f else errW) = valV k2 n2 d2 x2 t2 := by
  cases g
  · exact ⟨_, _, _, _, _, rfl⟩
  · exact h
set_option maxRecDepth 8000 in
set_option maxHeartbeats 2000000 in
theorem asBoolS (k : Int) (n : Bool) (d x : Int) (t : List UInt8) (w : World) (hl : t.length ≤ 2000000) (hz1 : k = 1 → zeroD n d x = decide (d = 0)) :
    Calls Tryd.prog 42 #[valV k n d x t] w fun e w' => e = .returned (boolOf k n d x t) ∧ Ext w w' := by
  obtain ⟨R, hR⟩ : ∃ R, boolOf k n d x t = R := ⟨_, rfl⟩
  have HR0 : Hid (boolOf k n d x t = R) := hR
  rw [hR]
  clear hR
  have X1 := x1 w (.cells #[.int .i64 k, .bool n, .int .i64 d, .int .i64 x, sV t] 30)
  have B1 := vec_made w (valL k n d x t) 30
  obtain ⟨wa, ha⟩ : ∃ wa, w.alloc (.cells #[.int .i64 k, .bool n, .int .i64 d, .int .i64 x, sV t] 30) = wa := ⟨_, rfl⟩
  have B2 := vec_made wa (valL 0 false 0 0 []) 30
  have X2 := x1 wa (.cells #[.int .i64 0, .bool false, .int .i64 0, .int .i64 0, sV []] 30)
  obtain ⟨wb, hb⟩ : ∃ wb, wa.alloc (.cells #[.int .i64 0, .bool false, .int .i64 0, .int .i64 0, sV []] 30) = wb := ⟨_, rfl⟩
  have sa : wa.heap.size = w.heap.size + 1 := by rw [← ha, World.size_alloc]
  change Vec (w.alloc (.cells #[.int .i64 k, .bool n, .int .i64 d, .int .i64 x, sV t] 30)) _ _ at B1
  change Vec (wa.alloc (.cells #[.int .i64 0, .bool false, .int .i64 0, .int .i64 0, sV []] 30)) _ _ at B2
  rw [ha] at X1 B1
  rw [hb] at X2 B2
  rw [sa] at B2
  have X := xt X1 X2
  have B1 := B1.later X2
  clear X1 X2
  have a0 := (B1 0 _ rfl).1
  have a1 := (B1 1 _ rfl).1
  have a2 := (B1 2 _ rfl).1
  have a3 := (B1 3 _ rfl).1
  have a4 := (B1 4 _ rfl).1
  go_enter Tryd.func42, Tryd.ntmps42
  by_cases h0 : k = 0
  · subst h0
    have HR : Hid (boolW false = R) := by show _ = _; rw [← HR0.out]; simp [boolOf]
    go_wp2_with fail
    clear ha hb sa a0 a1 a2 a3 a4
    refine (boolVS false wb).mono ?_
    rintro e w2 ⟨rfl, e2⟩
    have FV := B2.later e2
    have FG := FV.put5 (.int .i64 3) (.bool false) (.int .i64 0) (.int .i64 0) (sV falseT)
    have FX := Ext.setL (b := w.heap.size + 1) (by omega) [.int .i64 3, .bool false, .int .i64 0, .int .i64 0, sV falseT] 0 (xt X e2)
    obtain ⟨wy, hy⟩ : ∃ wy, setL w2 (w.heap.size + 1) 0 [.int .i64 3, .bool false, .int .i64 0, .int .i64 0, sV falseT] = wy := ⟨_, rfl⟩
    rw [hy] at FG FX
    have hy : (((((w2.setCell ⟨w.heap.size + 1, 0, none⟩ (.int .i64 3)).setCell ⟨w.heap.size + 1, 1, none⟩ (.bool false)).setCell ⟨w.heap.size + 1, 2, none⟩ (.int .i64 0)).setCell ⟨w.heap.size + 1, 3, none⟩ (.int .i64 0)).setCell ⟨w.heap.size + 1, 4, none⟩ (sV falseT)) = wy := hy
    have b0 := (FV 0 _ rfl).1
    have b1 := (FV 1 _ rfl).1
    have b2 := (FV 2 _ rfl).1
    have b3 := (FV 3 _ rfl).1
    have b4 := (FV 4 _ rfl).1
    have fb0 := (FV 0 _ rfl).2
    have fb1 := (FV 1 _ rfl).2
    have fb2 := (FV 2 _ rfl).2
    have fb3 := (FV 3 _ rfl).2
    have fb4 := (FV 4 _ rfl).2
    have fd0 := (FG 0 _ rfl).1
    have fd1 := (FG 1 _ rfl).1
    have fd2 := (FG 2 _ rfl).1
    have fd3 := (FG 3 _ rfl).1
    have fd4 := (FG 4 _ rfl).1
    clear FV FG 
    go_wp2_with fail
    exact bodyPost_ret (v := boolW false) (by simp [results, Tryd.results42, go_sem, fd0, fd1, fd2, fd3, fd4]) rfl ⟨congrArg Ending.returned HR.out, FX⟩
  · by_cases h1 : k = 1
    · subst h1
      have hz2 := hz1 rfl
      by_cases hd : d = 0
      · have hz3 : zeroD n d x = true := by rw [hz2]; simp [hd]
        have HR : Hid (boolW false = R) := by show _ = _; rw [← HR0.out]; simp [boolOf, hz3]
        clear hz1 hz2 hz3 h0
        subst hd
        go_wp2_with fail
        clear ha hb sa a0 a1 a2 a3 a4
        refine (boolVS false wb).mono ?_
        rintro e w2 ⟨rfl, e2⟩
        have FV := B2.later e2
        have FG := FV.put5 (.int .i64 3) (.bool false) (.int .i64 0) (.int .i64 0) (sV falseT)
        have FX := Ext.setL (b := w.heap.size + 1) (by omega) [.int .i64 3, .bool false, .int .i64 0, .int .i64 0, sV falseT] 0 (xt X e2)
        obtain ⟨wy, hy⟩ : ∃ wy, setL w2 (w.heap.size + 1) 0 [.int .i64 3, .bool false, .int .i64 0, .int .i64 0, sV falseT] = wy := ⟨_, rfl⟩
        rw [hy] at FG FX
        have hy : (((((w2.setCell ⟨w.heap.size + 1, 0, none⟩ (.int .i64 3)).setCell ⟨w.heap.size + 1, 1, none⟩ (.bool false)).setCell ⟨w.heap.size + 1, 2, none⟩ (.int .i64 0)).setCell ⟨w.heap.size + 1, 3, none⟩ (.int .i64 0)).setCell ⟨w.heap.size + 1, 4, none⟩ (sV falseT)) = wy := hy
        have b0 := (FV 0 _ rfl).1
        have b1 := (FV 1 _ rfl).1
        have b2 := (FV 2 _ rfl).1
        have b3 := (FV 3 _ rfl).1
        have b4 := (FV 4 _ rfl).1
        have fb0 := (FV 0 _ rfl).2
        have fb1 := (FV 1 _ rfl).2
        have fb2 := (FV 2 _ rfl).2
        have fb3 := (FV 3 _ rfl).2
        have fb4 := (FV 4 _ rfl).2
        have fd0 := (FG 0 _ rfl).1
        have fd1 := (FG 1 _ rfl).1
        have fd2 := (FG 2 _ rfl).1
        have fd3 := (FG 3 _ rfl).1
        have fd4 := (FG 4 _ rfl).1
        clear FV FG 
        go_wp2_with fail
        exact bodyPost_ret (v := boolW false) (by simp [results, Tryd.results42, go_sem, fd0, fd1, fd2, fd3, fd4]) rfl ⟨congrArg Ending.returned HR.out, FX⟩
      · have hz3 : zeroD n d x = false := by rw [hz2]; simp [hd]
        have HR : Hid (boolW true = R) := by show _ = _; rw [← HR0.out]; simp [boolOf, hz3]
        clear hz1 hz2 hz3 h0
        have hb1 : (d != 0) = true := by simpa using hd
        go_wp2_with fail
        clear ha hb sa a0 a1 a2 a3 a4
        refine (boolVS true wb).mono ?_
        rintro e w2 ⟨rfl, e2⟩
        have FV := B2.later e2
        have FG := FV.put5 (.int .i64 3) (.bool false) (.int .i64 0) (.int .i64 0) (sV trueT)
        have FX := Ext.setL (b := w.heap.size + 1) (by omega) [.int .i64 3, .bool false, .int .i64 0, .int .i64 0, sV trueT] 0 (xt X e2)
        obtain ⟨wy, hy⟩ : ∃ wy, setL w2 (w.heap.size + 1) 0 [.int .i64 3, .bool false, .int .i64 0, .int .i64 0, sV trueT] = wy := ⟨_, rfl⟩
        rw [hy] at FG FX
        have hy : (((((w2.setCell ⟨w.heap.size + 1, 0, none⟩ (.int .i64 3)).setCell ⟨w.heap.size + 1, 1, none⟩ (.bool false)).setCell ⟨w.heap.size + 1, 2, none⟩ (.int .i64 0)).setCell ⟨w.heap.size + 1, 3, none⟩ (.int .i64 0)).setCell ⟨w.heap.size + 1, 4, none⟩ (sV trueT)) = wy := hy
        have b0 := (FV 0 _ rfl).1
        have b1 := (FV 1 _ rfl).1
        have b2 := (FV 2 _ rfl).1
        have b3 := (FV 3 _ rfl).1
        have b4 := (FV 4 _ rfl).1
        have fb0 := (FV 0 _ rfl).2
        have fb1 := (FV 1 _ rfl).2
        have fb2 := (FV 2 _ rfl).2
        have fb3 := (FV 3 _ rfl).2
        have fb4 := (FV 4 _ rfl).2
        have fd0 := (FG 0 _ rfl).1
        have fd1 := (FG 1 _ rfl).1
        have fd2 := (FG 2 _ rfl).1
        have fd3 := (FG 3 _ rfl).1
        have fd4 := (FG 4 _ rfl).1
        clear FV FG 
        go_wp2_with fail
        exact bodyPost_ret (v := boolW true) (by simp [results, Tryd.results42, go_sem, fd0, fd1, fd2, fd3, fd4]) rfl ⟨congrArg Ending.returned HR.out, FX⟩
    · by_cases h2 : k = 2
      · subst h2
        go_wp2_with fail
        clear ha hb sa a0 a1 a2 a3 a4 hz1 h0 h1
        refine (capsS t wb hl).mono ?_
        rintro e w2 ⟨rfl, e2⟩
        have D2 := B2.later e2
        have X2 := xt X e2
        obtain ⟨u, hu⟩ : ∃ u, t.map upC = u := ⟨_, rfl⟩
        have HR2 : Hid ((if boolB u then boolW (u == trueT) else errW) = R) := by show _ = _; rw [← HR0.out, ← hu]; simp [boolOf]
        rw [hu]
        clear B1 B2 e2 hu HR0
        obtain ⟨p, hp⟩ : ∃ p, (u == [84, 82, 85, 69]) = p := ⟨_, rfl⟩
        obtain ⟨q, hq⟩ : ∃ q, (u == [70, 65, 76, 83, 69]) = q := ⟨_, rfl⟩
        cases p
        · cases q
          · have HR : Hid (errW = R) := by show _ = _; rw [← HR2.out]; simp only [boolB, hp, hq]; rfl
            go_wp2_with fail
            clear hp hq
            refine (errVS errT w2).mono ?_
            rintro e w4 ⟨rfl, e4⟩
            have FV := D2.later e4
            have FG := FV.put5 (.int .i64 4) (.bool false) (.int .i64 0) (.int .i64 0) (sV errT)
            have FX := Ext.setL (b := w.heap.size + 1) (by omega) [.int .i64 4, .bool false, .int .i64 0, .int .i64 0, sV errT] 0 (xt X2 e4)
            obtain ⟨wy, hy⟩ : ∃ wy, setL w4 (w.heap.size + 1) 0 [.int .i64 4, .bool false, .int .i64 0, .int .i64 0, sV errT] = wy := ⟨_, rfl⟩
            rw [hy] at FG FX
            have hy : (((((w4.setCell ⟨w.heap.size + 1, 0, none⟩ (.int .i64 4)).setCell ⟨w.heap.size + 1, 1, none⟩ (.bool false)).setCell ⟨w.heap.size + 1, 2, none⟩ (.int .i64 0)).setCell ⟨w.heap.size + 1, 3, none⟩ (.int .i64 0)).setCell ⟨w.heap.size + 1, 4, none⟩ (sV errT)) = wy := hy
            have b0 := (FV 0 _ rfl).1
            have b1 := (FV 1 _ rfl).1
            have b2 := (FV 2 _ rfl).1
            have b3 := (FV 3 _ rfl).1
            have b4 := (FV 4 _ rfl).1
            have fb0 := (FV 0 _ rfl).2
            have fb1 := (FV 1 _ rfl).2
            have fb2 := (FV 2 _ rfl).2
            have fb3 := (FV 3 _ rfl).2
            have fb4 := (FV 4 _ rfl).2
            have fd0 := (FG 0 _ rfl).1
            have fd1 := (FG 1 _ rfl).1
            have fd2 := (FG 2 _ rfl).1
            have fd3 := (FG 3 _ rfl).1
            have fd4 := (FG 4 _ rfl).1
            clear FV FG 
            go_wp2_with fail
            exact bodyPost_ret (v := errW) (by simp [results, Tryd.results42, go_sem, fd0, fd1, fd2, fd3, fd4]) rfl ⟨congrArg Ending.returned HR.out, FX⟩
          · have HR : Hid (boolW false = R) := by show _ = _; rw [← HR2.out]; simp only [boolB, hp, hq]; rfl
            go_wp2_with fail
            clear hp hq
            refine (boolVS false w2).mono ?_
            rintro e w4 ⟨rfl, e4⟩
            have FV := D2.later e4
            have FG := FV.put5 (.int .i64 3) (.bool false) (.int .i64 0) (.int .i64 0) (sV falseT)
            have FX := Ext.setL (b := w.heap.size + 1) (by omega) [.int .i64 3, .bool false, .int .i64 0, .int .i64 0, sV falseT] 0 (xt X2 e4)
            obtain ⟨wy, hy⟩ : ∃ wy, setL w4 (w.heap.size + 1) 0 [.int .i64 3, .bool false, .int .i64 0, .int .i64 0, sV falseT] = wy := ⟨_, rfl⟩
            rw [hy] at FG FX
            have hy : (((((w4.setCell ⟨w.heap.size + 1, 0, none⟩ (.int .i64 3)).setCell ⟨w.heap.size + 1, 1, none⟩ (.bool false)).setCell ⟨w.heap.size + 1, 2, none⟩ (.int .i64 0)).setCell ⟨w.heap.size + 1, 3, none⟩ (.int .i64 0)).setCell ⟨w.heap.size + 1, 4, none⟩ (sV falseT)) = wy := hy
            have b0 := (FV 0 _ rfl).1
            have b1 := (FV 1 _ rfl).1
            have b2 := (FV 2 _ rfl).1
            have b3 := (FV 3 _ rfl).1
            have b4 := (FV 4 _ rfl).1
            have fb0 := (FV 0 _ rfl).2
            have fb1 := (FV 1 _ rfl).2
            have fb2 := (FV 2 _ rfl).2
            have fb3 := (FV 3 _ rfl).2
            have fb4 := (FV 4 _ rfl).2
            have fd0 := (FG 0 _ rfl).1
            have fd1 := (FG 1 _ rfl).1
            have fd2 := (FG 2 _ rfl).1
            have fd3 := (FG 3 _ rfl).1
            have fd4 := (FG 4 _ rfl).1
            clear FV FG 
            go_wp2_with fail
            exact bodyPost_ret (v := boolW false) (by simp [results, Tryd.results42, go_sem, fd0, fd1, fd2, fd3, fd4]) rfl ⟨congrArg Ending.returned HR.out, FX⟩
        · have HR : Hid (boolW true = R) := by show _ = _; rw [← HR2.out]; simp only [boolB, hp, hq]; rfl
          go_wp2_with fail
          clear hp hq
          refine (boolVS true w2).mono ?_
          rintro e w4 ⟨rfl, e4⟩
          have FV := D2.later e4
          have FG := FV.put5 (.int .i64 3) (.bool false) (.int .i64 0) (.int .i64 0) (sV trueT)
          have FX := Ext.setL (b := w.heap.size + 1) (by omega) [.int .i64 3, .bool false, .int .i64 0, .int .i64 0, sV trueT] 0 (xt X2 e4)
          obtain ⟨wy, hy⟩ : ∃ wy, setL w4 (w.heap.size + 1) 0 [.int .i64 3, .bool false, .int .i64 0, .int .i64 0, sV trueT] = wy := ⟨_, rfl⟩
          rw [hy] at FG FX
          have hy : (((((w4.setCell ⟨w.heap.size + 1, 0, none⟩ (.int .i64 3)).setCell ⟨w.heap.size + 1, 1, none⟩ (.bool false)).setCell ⟨w.heap.size + 1, 2, none⟩ (.int .i64 0)).setCell ⟨w.heap.size + 1, 3, none⟩ (.int .i64 0)).setCell ⟨w.heap.size + 1, 4, none⟩ (sV trueT)) = wy := hy
          have b0 := (FV 0 _ rfl).1
          have b1 := (FV 1 _ rfl).1
          have b2 := (FV 2 _ rfl).1
          have b3 := (FV 3 _ rfl).1
          have b4 := (FV 4 _ rfl).1
          have fb0 := (FV 0 _ rfl).2
          have fb1 := (FV 1 _ rfl).2
          have fb2 := (FV 2 _ rfl).2
          have fb3 := (FV 3 _ rfl).2
          have fb4 := (FV 4 _ rfl).2
          have fd0 := (FG 0 _ rfl).1
          have fd1 := (FG 1 _ rfl).1
          have fd2 := (FG 2 _ rfl).1
          have fd3 := (FG 3 _ rfl).1
          have fd4 := (FG 4 _ rfl).1
          clear FV FG 
          go_wp2_with fail
          exact bodyPost_ret (v := boolW true) (by simp [results, Tryd.results42, go_sem, fd0, fd1, fd2, fd3, fd4]) rfl ⟨congrArg Ending.returned HR.out, FX⟩
      · have HR : Hid (valV k n d x t = R) := by show _ = _; rw [← HR0.out]; simp [boolOf, h0, h1, h2]
        have FV := B2
        have FG := FV.put5 (.int .i64 k) (.bool n) (.int .i64 d) (.int .i64 x) (sV t)
        have FX := Ext.setL (b := w.heap.size + 1) (by omega) [.int .i64 k, .bool n, .int .i64 d, .int .i64 x, sV t] 0 (X)
        obtain ⟨wy, hy⟩ : ∃ wy, setL wb (w.heap.size + 1) 0 [.int .i64 k, .bool n, .int .i64 d, .int .i64 x, sV t] = wy := ⟨_, rfl⟩
        rw [hy] at FG FX
        have hy : (((((wb.setCell ⟨w.heap.size + 1, 0, none⟩ (.int .i64 k)).setCell ⟨w.heap.size + 1, 1, none⟩ (.bool n)).setCell ⟨w.heap.size + 1, 2, none⟩ (.int .i64 d)).setCell ⟨w.heap.size + 1, 3, none⟩ (.int .i64 x)).setCell ⟨w.heap.size + 1, 4, none⟩ (sV t)) = wy := hy
        have b0 := (FV 0 _ rfl).1
        have b1 := (FV 1 _ rfl).1
        have b2 := (FV 2 _ rfl).1
        have b3 := (FV 3 _ rfl).1
        have b4 := (FV 4 _ rfl).1
        have fb0 := (FV 0 _ rfl).2
        have fb1 := (FV 1 _ rfl).2
        have fb2 := (FV 2 _ rfl).2
        have fb3 := (FV 3 _ rfl).2
        have fb4 := (FV 4 _ rfl).2
        have fd0 := (FG 0 _ rfl).1
        have fd1 := (FG 1 _ rfl).1
        have fd2 := (FG 2 _ rfl).1
        have fd3 := (FG 3 _ rfl).1
        have fd4 := (FG 4 _ rfl).1
        clear FV FG 
        go_wp2_with fail
        exact bodyPost_ret (v := valV k n d x t) (by simp [results, Tryd.results42, go_sem, fd0, fd1, fd2, fd3, fd4]) rfl ⟨congrArg Ending.returned HR.out, FX⟩
set_option maxRecDepth 8000 in
set_option maxHeartbeats 2000000 in
theorem boolOfS (k : Int) (n : Bool) (d x : Int) (t : List UInt8) (w : World) (hl : t.length ≤ 2000000) :
    Calls Tryd.prog 20 #[valV k n d x t] w fun e w' => e = .returned (boolOfV k n d x t) ∧ Ext w w' := by
  obtain ⟨R, hR⟩ : ∃ R, boolOfV k n d x t = R := ⟨_, rfl⟩
  have HR0 : Hid (boolOfV k n d x t = R) := hR
  rw [hR]
  clear hR
  have X1 := x1 w (.cells #[.int .i64 k, .bool n, .int .i64 d, .int .i64 x, sV t] 30)
  have B1 := vec_made w (valL k n d x t) 30
  obtain ⟨wa, ha⟩ : ∃ wa, w.alloc (.cells #[.int .i64 k, .bool n, .int .i64 d, .int .i64 x, sV t] 30) = wa := ⟨_, rfl⟩
  have B2 := vec_made wa (valL 0 false 0 0 []) 30
  have X2 := x1 wa (.cells #[.int .i64 0, .bool false, .int .i64 0, .int .i64 0, sV []] 30)
  obtain ⟨wb, hb⟩ : ∃ wb, wa.alloc (.cells #[.int .i64 0, .bool false, .int .i64 0, .int .i64 0, sV []] 30) = wb := ⟨_, rfl⟩
  have sa : wa.heap.size = w.heap.size + 1 := by rw [← ha, World.size_alloc]
  change Vec (w.alloc (.cells #[.int .i64 k, .bool n, .int .i64 d, .int .i64 x, sV t] 30)) _ _ at B1
  change Vec (wa.alloc (.cells #[.int .i64 0, .bool false, .int .i64 0, .int .i64 0, sV []] 30)) _ _ at B2
  rw [ha] at X1 B1
  rw [hb] at X2 B2
  rw [sa] at B2
  have X := xt X1 X2
  have B1 := B1.later X2
  clear X1 X2
  have a0 := (B1 0 _ rfl).1
  have a1 := (B1 1 _ rfl).1
  have a2 := (B1 2 _ rfl).1
  have a3 := (B1 3 _ rfl).1
  have a4 := (B1 4 _ rfl).1
  go_enter Tryd.func20, Tryd.ntmps20
  go_wp2_with fail
  clear ha hb sa a0 a1 a2 a3 a4
  refine (goodVS k n d x t wb hl).mono ?_
  rintro e w1 ⟨rfl, e1⟩
  have C1 := B1.later e1
  have C2 := B2.later e1
  have X1 := xt X e1
  clear B1 B2
  obtain ⟨g, hg⟩ : ∃ g, goodV k n d x t = g := ⟨_, rfl⟩
  rw [hg]
  cases g
  · have HR : Hid (errW = R) := by show _ = _; rw [← HR0.out]; simp [boolOfV, hg]
    clear hg
    go_wp2_with fail
    refine (errVS errT w1).mono ?_
    rintro e w2 ⟨rfl, e2⟩
    have FV := C2.later e2
    have FG := FV.put5 (.int .i64 4) (.bool false) (.int .i64 0) (.int .i64 0) (sV errT)
    have FX := Ext.setL (b := w.heap.size + 1) (by omega) [.int .i64 4, .bool false, .int .i64 0, .int .i64 0, sV errT] 0 (xt X1 e2)
    obtain ⟨wy, hy⟩ : ∃ wy, setL w2 (w.heap.size + 1) 0 [.int .i64 4, .bool false, .int .i64 0, .int .i64 0, sV errT] = wy := ⟨_, rfl⟩
    rw [hy] at FG FX
    have hy : (((((w2.setCell ⟨w.heap.size + 1, 0, none⟩ (.int .i64 4)).setCell ⟨w.heap.size + 1, 1, none⟩ (.bool false)).setCell ⟨w.heap.size + 1, 2, none⟩ (.int .i64 0)).setCell ⟨w.heap.size + 1, 3, none⟩ (.int .i64 0)).setCell ⟨w.heap.size + 1, 4, none⟩ (sV errT)) = wy := hy
    have b0 := (FV 0 _ rfl).1
    have b1 := (FV 1 _ rfl).1
    have b2 := (FV 2 _ rfl).1
    have b3 := (FV 3 _ rfl).1
    have b4 := (FV 4 _ rfl).1
    have fb0 := (FV 0 _ rfl).2
    have fb1 := (FV 1 _ rfl).2
    have fb2 := (FV 2 _ rfl).2
    have fb3 := (FV 3 _ rfl).2
    have fb4 := (FV 4 _ rfl).2
    have fd0 := (FG 0 _ rfl).1
    have fd1 := (FG 1 _ rfl).1
    have fd2 := (FG 2 _ rfl).1
    have fd3 := (FG 3 _ rfl).1
    have fd4 := (FG 4 _ rfl).1
    clear FV FG 
    go_wp2_with fail
    exact bodyPost_ret (v := errW) (by simp [results, Tryd.results20, go_sem, fd0, fd1, fd2, fd3, fd4]) rfl ⟨congrArg Ending.returned HR.out, FX⟩
  · have HR1 : Hid (boolOf k n d x t = R) := by show _ = _; rw [← HR0.out]; simp [boolOfV, hg]
    have a0 := (C1 0 _ rfl).1
    have a1 := (C1 1 _ rfl).1
    have a2 := (C1 2 _ rfl).1
    have a3 := (C1 3 _ rfl).1
    have a4 := (C1 4 _ rfl).1
    go_wp2_with fail
    clear a0 a1 a2 a3 a4
    refine (asBoolS k n d x t w1 hl (fun h => by subst h; exact goodB_zero (goodV_num hg).1)).mono ?_
    rintro e w2 ⟨rfl, e2⟩
    obtain ⟨k2, n2, d2, x2, t2, hv⟩ := boolOf_val k n d x t
    have HR : Hid (valV k2 n2 d2 x2 t2 = R) := by show _ = _; rw [← HR1.out, hv]
    rw [hv]
    clear hv
    have FV := C2.later e2
    have FG := FV.put5 (.int .i64 k2) (.bool n2) (.int .i64 d2) (.int .i64 x2) (sV t2)
    have FX := Ext.setL (b := w.heap.size + 1) (by omega) [.int .i64 k2, .bool n2, .int .i64 d2, .int .i64 x2, sV t2] 0 (xt X1 e2)
    obtain ⟨wy, hy⟩ : ∃ wy, setL w2 (w.heap.size + 1) 0 [.int .i64 k2, .bool n2, .int .i64 d2, .int .i64 x2, sV t2] = wy := ⟨_, rfl⟩
    rw [hy] at FG FX
    have hy : (((((w2.setCell ⟨w.heap.size + 1, 0, none⟩ (.int .i64 k2)).setCell ⟨w.heap.size + 1, 1, none⟩ (.bool n2)).setCell ⟨w.heap.size + 1, 2, none⟩ (.int .i64 d2)).setCell ⟨w.heap.size + 1, 3, none⟩ (.int .i64 x2)).setCell ⟨w.heap.size + 1, 4, none⟩ (sV t2)) = wy := hy
    have b0 := (FV 0 _ rfl).1
    have b1 := (FV 1 _ rfl).1
    have b2 := (FV 2 _ rfl).1
    have b3 := (FV 3 _ rfl).1
    have b4 := (FV 4 _ rfl).1
    have fb0 := (FV 0 _ rfl).2
    have fb1 := (FV 1 _ rfl).2
    have fb2 := (FV 2 _ rfl).2
    have fb3 := (FV 3 _ rfl).2
    have fb4 := (FV 4 _ rfl).2
    have fd0 := (FG 0 _ rfl).1
    have fd1 := (FG 1 _ rfl).1
    have fd2 := (FG 2 _ rfl).1
    have fd3 := (FG 3 _ rfl).1
    have fd4 := (FG 4 _ rfl).1
    clear FV FG 
    go_wp2_with fail
    exact bodyPost_ret (v := valV k2 n2 d2 x2 t2) (by simp [results, Tryd.results20, go_sem, fd0, fd1, fd2, fd3, fd4]) rfl ⟨congrArg Ending.returned HR.out, FX⟩
set_option maxRecDepth 8000 in
set_option maxHeartbeats 2000000 in
theorem lawBoolOf (k : Int) (n : Bool) (d x : Int) (t : List UInt8) (w : World) (hl : t.length ≤ 9223372036854775807) (d1 : -9223372036854775808 ≤ d) (d2 : d ≤ 9223372036854775807) (hT : Tens w) (hE : ErrTab w) :
    Calls Tryd.prog 6 #[valV k n d x t] w fun e w' => e = .returned (.bool true) ∧ Ext w w' := by
  have B := vec_made w (valL k n d x t) 25
  have X0 := x1 w (.cells #[.int .i64 k, .bool n, .int .i64 d, .int .i64 x, sV t] 25)
  go_enter Tryd.func6, Tryd.ntmps6
  go_wp2_with fail
  refine (szValue k n d x t 1048576 _ (by omega) (by omega) (by omega)).mono ?_
  rintro e w1 ⟨rfl, e1⟩
  have X1 := xt X0 e1
  by_cases hs : (1048576 : Int) < t.length
  · rw [if_pos hs]
    clear B hT hE hl d1 d2
    go_wp2_with fail
    go_ret
    exact ⟨rfl, X1⟩
  · rw [if_neg hs]
    have hl2 : t.length ≤ 2000000 := by omega
    obtain ⟨m, hm⟩ : ∃ m : Int, (1048576 : Int) - t.length = m := ⟨_, rfl⟩
    have hm0 : 0 ≤ m := by omega
    rw [hm]
    clear hm hs hl
    have B1 := B.later e1
    have a0 := (B1 0 _ rfl).1
    have a1 := (B1 1 _ rfl).1
    have a2 := (B1 2 _ rfl).1
    have a3 := (B1 3 _ rfl).1
    have a4 := (B1 4 _ rfl).1
    go_wp2_with fail
    clear a0 a1 a2 a3 a4
    refine (toValue k n d x t _).mono ?_
    rintro e w2 ⟨rfl, e2⟩
    go_wp2_with fail
    refine (boolOfS k n d x t _ hl2).mono ?_
    rintro e w3 ⟨rfl, e3⟩
    have B3 := (B1.later e2).later e3
    have X3 := xt (xt X1 e2) e3
    obtain ⟨k2, n2, d2', x2, t2, hv⟩ : ∃ k2 n2 d2 x2 t2, boolOfV k n d x t = valV k2 n2 d2 x2 t2 := ofV_val _ (boolOf_val k n d x t)
    have HV : Hid (boolOfV k n d x t = valV k2 n2 d2' x2 t2) := hv
    rw [hv]
    clear hv
    obtain ⟨wz, hz⟩ : ∃ wz, w3.alloc (.cells #[.int .i64 k2, .bool n2, .int .i64 d2', .int .i64 x2, sV t2] 30) = wz := ⟨_, rfl⟩
    have Y := x1 w3 (.cells #[.int .i64 k2, .bool n2, .int .i64 d2', .int .i64 x2, sV t2] 30)
    have Bw := vec_made w3 (valL k2 n2 d2' x2 t2) 30
    change Vec (w3.alloc (.cells #[.int .i64 k2, .bool n2, .int .i64 d2', .int .i64 x2, sV t2] 30)) _ _ at Bw
    rw [hz] at Y Bw
    have B4 := B3.later Y
    have a0 := (B4 0 _ rfl).1
    have a1 := (B4 1 _ rfl).1
    have a2 := (B4 2 _ rfl).1
    have a3 := (B4 3 _ rfl).1
    have a4 := (B4 4 _ rfl).1
    go_wp2_with fail
    clear a0 a1 a2 a3 a4 hz
    refine (toValue k n d x t wz).mono ?_
    rintro e w4 ⟨rfl, e4⟩
    have X4 := xt (xt X3 Y) e4
    go_wp2_with fail
    refine (boolOfI k n d x t _ hl2 d1 d2 (hT.later X4) (hE.later X4)).mono ?_
    rintro e w5 ⟨rfl, e5⟩
    rw [HV.out]
    have X5 := xt X4 e5
    obtain ⟨wu, hu⟩ : ∃ wu, w5.alloc (.cells #[.int .i64 k2, .bool n2, .int .i64 d2', .int .i64 x2, sV t2] 30) = wu := ⟨_, rfl⟩
    have Y2 := x1 w5 (.cells #[.int .i64 k2, .bool n2, .int .i64 d2', .int .i64 x2, sV t2] 30)
    have Bg := vec_made w5 (valL k2 n2 d2' x2 t2) 30
    change Vec (w5.alloc (.cells #[.int .i64 k2, .bool n2, .int .i64 d2', .int .i64 x2, sV t2] 30)) _ _ at Bg
    rw [hu] at Y2 Bg
    have Bv := ((Bw.later e4).later e5).later Y2
    have X6 := xt X5 Y2
    have a0 := (Bg 0 _ rfl).1
    have a1 := (Bg 1 _ rfl).1
    have a2 := (Bg 2 _ rfl).1
    have a3 := (Bg 3 _ rfl).1
    have a4 := (Bg 4 _ rfl).1
    have b0 := (Bv 0 _ rfl).1
    have b1 := (Bv 1 _ rfl).1
    have b2 := (Bv 2 _ rfl).1
    have b3 := (Bv 3 _ rfl).1
    have b4 := (Bv 4 _ rfl).1
    clear B B1 B3 B4 Bw Bg Bv hT hE e1 e2 e3 e4 e5 HV Y Y2
    go_wp2_with fail
    refine (eqValue_same k2 n2 d2' x2 t2 _).mono ?_
    rintro e w6 ⟨rfl, e6⟩
    go_wp2_with fail
    go_ret
    exact ⟨rfl, xt X6 e6⟩

end Go.Proofs.YtchpieciifhplaaDoor
