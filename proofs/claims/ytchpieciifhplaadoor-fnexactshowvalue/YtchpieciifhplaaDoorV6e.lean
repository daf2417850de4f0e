/-
  Chapter 6: BoolOf, on both sides.
-/
import Derived.Test.YtchpieciifhplaaDoorV6d
import Derived.Test.YtchpieciifhplaaDoorFb
namespace Go.Proofs.YtchpieciifhplaaDoor
open Go.RowKit

/-- The bool that a value is. -/
def boolOf (k : Int) (n : Bool) (d x : Int) (t : List UInt8) : Value :=
  if k = 0 then boolW false else if k = 1 then boolW (!(zeroD n d x)) else
  if k = 2 then (if boolB (t.map upC) then boolW (t.map upC == trueT) else errW) else valV k n d x t
def boolOfV (k : Int) (n : Bool) (d x : Int) (t : List UInt8) : Value := if goodV k n d x t then boolOf k n d x t else errW

set_option maxRecDepth 8000 in
set_option maxHeartbeats 2000000 in
theorem boolOfI (k : Int) (n : Bool) (d x : Int) (t : List UInt8) (w : World) (hl : t.length ≤ 2000000) (d1 : -9223372036854775808 ≤ d) (d2 : d ≤ 9223372036854775807) (hT : Tens w) (hE : ErrTab w) :
    Calls Tryd.prog 21 #[valV k n d x t] w fun e w' => e = .returned (boolOfV k n d x t) ∧ Ext w w' := by
  obtain ⟨R, hR⟩ : ∃ R, boolOfV k n d x t = R := ⟨_, rfl⟩
  have HR0 : Hid (boolOfV k n d x t = R) := hR
  rw [hR]
  clear hR
  have X1 := x1 w (.cells #[.int .i64 k, .bool n, .int .i64 d, .int .i64 x, sV t] 30)
  have B1 := vec_made w (valL k n d x t) 30
  obtain ⟨wa, ha⟩ : ∃ wa, w.alloc (.cells #[.int .i64 k, .bool n, .int .i64 d, .int .i64 x, sV t] 30) = wa := ⟨_, rfl⟩
  have B2 := vec_made wa (valL 0 false 0 0 []) 30
  have X2 := x1 wa (.cells #[.int .i64 0, .bool false, .int .i64 0, .int .i64 0, sV []] 30)
  obtain ⟨wb, hb⟩ : ∃ wb, wa.alloc (.cells #[.int .i64 0, .bool false, .int .i64 0, .int .i64 0, sV []] 30) = wb := ⟨_, rfl⟩
  have sa : wa.heap.size = w.heap.size + 1 := by rw [← ha, World.size_alloc]
  change Vec (w.alloc (.cells #[.int .i64 k, .bool n, .int .i64 d, .int .i64 x, sV t] 30)) _ _ at B1
  change Vec (wa.alloc (.cells #[.int .i64 0, .bool false, .int .i64 0, .int .i64 0, sV []] 30)) _ _ at B2
  rw [ha] at X1 B1
  rw [hb] at X2 B2
  rw [sa] at B2
  have X := xt X1 X2
  have B1 := B1.later X2
  clear X1 X2
  have a0 := (B1 0 _ rfl).1
  have a1 := (B1 1 _ rfl).1
  have a2 := (B1 2 _ rfl).1
  have a3 := (B1 3 _ rfl).1
  have a4 := (B1 4 _ rfl).1
  go_enter Tryd.func21, Tryd.ntmps21
  go_wp2_with fail
  clear ha hb sa a0 a1 a2 a3 a4
  refine (goodVI k n d x t wb hl d1 d2 (hT.later X) (hE.later X)).mono ?_
  rintro e w1 ⟨rfl, e1⟩
  have C1 := B1.later e1
  have C2 := B2.later e1
  have X1 := xt X e1
  clear B1 B2 hT hE d1 d2
  obtain ⟨g, hg⟩ : ∃ g, goodV k n d x t = g := ⟨_, rfl⟩
  rw [hg]
  cases g
  · have HR : Hid (errW = R) := by show _ = _; rw [← HR0.out]; simp [boolOfV, hg]
    clear hg
    go_wp2_with fail
    refine (errVI errT _).mono ?_
    rintro e w2 ⟨rfl, e2⟩
    have FV := C2.later e2
    have FG := FV.put5 (.int .i64 4) (.bool false) (.int .i64 0) (.int .i64 0) (sV errT)
    have FX := Ext.setL (b := w.heap.size + 1) (by omega) [.int .i64 4, .bool false, .int .i64 0, .int .i64 0, sV errT] 0 (xt X1 e2)
    obtain ⟨wy, hy⟩ : ∃ wy, setL w2 (w.heap.size + 1) 0 [.int .i64 4, .bool false, .int .i64 0, .int .i64 0, sV errT] = wy := ⟨_, rfl⟩
    rw [hy] at FG FX
    have hy : (((((w2.setCell ⟨w.heap.size + 1, 0, none⟩ (.int .i64 4)).setCell ⟨w.heap.size + 1, 1, none⟩ (.bool false)).setCell ⟨w.heap.size + 1, 2, none⟩ (.int .i64 0)).setCell ⟨w.heap.size + 1, 3, none⟩ (.int .i64 0)).setCell ⟨w.heap.size + 1, 4, none⟩ (sV errT)) = wy := hy
    have b0 := (FV 0 _ rfl).1
    have b1 := (FV 1 _ rfl).1
    have b2 := (FV 2 _ rfl).1
    have b3 := (FV 3 _ rfl).1
    have b4 := (FV 4 _ rfl).1
    have fb0 := (FV 0 _ rfl).2
    have fb1 := (FV 1 _ rfl).2
    have fb2 := (FV 2 _ rfl).2
    have fb3 := (FV 3 _ rfl).2
    have fb4 := (FV 4 _ rfl).2
    have fd0 := (FG 0 _ rfl).1
    have fd1 := (FG 1 _ rfl).1
    have fd2 := (FG 2 _ rfl).1
    have fd3 := (FG 3 _ rfl).1
    have fd4 := (FG 4 _ rfl).1
    clear FV FG 
    go_wp2_with fail
    exact bodyPost_ret (v := errW) (by simp [results, Tryd.results21, go_sem, fd0, fd1, fd2, fd3, fd4]) rfl ⟨congrArg Ending.returned HR.out, FX⟩
  · have HR1 : Hid (boolOf k n d x t = R) := by show _ = _; rw [← HR0.out]; simp [boolOfV, hg]
    clear hg
    have a0 := (C1 0 _ rfl).1
    have a1 := (C1 1 _ rfl).1
    have a2 := (C1 2 _ rfl).1
    have a3 := (C1 3 _ rfl).1
    have a4 := (C1 4 _ rfl).1
    by_cases h0 : k = 0
    · subst h0
      have HR : Hid (boolW false = R) := by show _ = _; rw [← HR1.out]; simp [boolOf]
      go_wp2_with fail
      clear a0 a1 a2 a3 a4
      refine (boolVI false _).mono ?_
      rintro e w2 ⟨rfl, e2⟩
      have FV := C2.later e2
      have FG := FV.put5 (.int .i64 3) (.bool false) (.int .i64 0) (.int .i64 0) (sV falseT)
      have FX := Ext.setL (b := w.heap.size + 1) (by omega) [.int .i64 3, .bool false, .int .i64 0, .int .i64 0, sV falseT] 0 (xt X1 e2)
      obtain ⟨wy, hy⟩ : ∃ wy, setL w2 (w.heap.size + 1) 0 [.int .i64 3, .bool false, .int .i64 0, .int .i64 0, sV falseT] = wy := ⟨_, rfl⟩
      rw [hy] at FG FX
      have hy : (((((w2.setCell ⟨w.heap.size + 1, 0, none⟩ (.int .i64 3)).setCell ⟨w.heap.size + 1, 1, none⟩ (.bool false)).setCell ⟨w.heap.size + 1, 2, none⟩ (.int .i64 0)).setCell ⟨w.heap.size + 1, 3, none⟩ (.int .i64 0)).setCell ⟨w.heap.size + 1, 4, none⟩ (sV falseT)) = wy := hy
      have b0 := (FV 0 _ rfl).1
      have b1 := (FV 1 _ rfl).1
      have b2 := (FV 2 _ rfl).1
      have b3 := (FV 3 _ rfl).1
      have b4 := (FV 4 _ rfl).1
      have fb0 := (FV 0 _ rfl).2
      have fb1 := (FV 1 _ rfl).2
      have fb2 := (FV 2 _ rfl).2
      have fb3 := (FV 3 _ rfl).2
      have fb4 := (FV 4 _ rfl).2
      have fd0 := (FG 0 _ rfl).1
      have fd1 := (FG 1 _ rfl).1
      have fd2 := (FG 2 _ rfl).1
      have fd3 := (FG 3 _ rfl).1
      have fd4 := (FG 4 _ rfl).1
      clear FV FG 
      go_wp2_with fail
      exact bodyPost_ret (v := boolW false) (by simp [results, Tryd.results21, go_sem, fd0, fd1, fd2, fd3, fd4]) rfl ⟨congrArg Ending.returned HR.out, FX⟩
    · by_cases h1 : k = 1
      · subst h1
        have HR2 : Hid (boolW (!(zeroD n d x)) = R) := by show _ = _; rw [← HR1.out]; simp [boolOf]
        cases hz : zeroD n d x
        · have HR : Hid (boolW true = R) := by show _ = _; rw [← HR2.out, hz]; rfl
          have hz' : n = true ∨ (n = false ∧ (d ≠ 0 ∨ (d = 0 ∧ x ≠ 0))) := by
            cases n
            · right
              refine ⟨rfl, ?_⟩
              by_cases hd : d = 0
              · right
                refine ⟨hd, fun hx => ?_⟩
                simp [zeroD, hd, hx] at hz
              · exact Or.inl hd
            · exact Or.inl rfl
          clear hz h0
          rcases hz' with rfl | ⟨rfl, hd | ⟨rfl, hx⟩⟩
          all_goals
            go_wp2_with fail
            clear a0 a1 a2 a3 a4
            refine (boolVI true _).mono ?_
            rintro e w2 ⟨rfl, e2⟩
            have FV := C2.later e2
            have FG := FV.put5 (.int .i64 3) (.bool false) (.int .i64 0) (.int .i64 0) (sV trueT)
            have FX := Ext.setL (b := w.heap.size + 1) (by omega) [.int .i64 3, .bool false, .int .i64 0, .int .i64 0, sV trueT] 0 (xt X1 e2)
            obtain ⟨wy, hy⟩ : ∃ wy, setL w2 (w.heap.size + 1) 0 [.int .i64 3, .bool false, .int .i64 0, .int .i64 0, sV trueT] = wy := ⟨_, rfl⟩
            rw [hy] at FG FX
            have hy : (((((w2.setCell ⟨w.heap.size + 1, 0, none⟩ (.int .i64 3)).setCell ⟨w.heap.size + 1, 1, none⟩ (.bool false)).setCell ⟨w.heap.size + 1, 2, none⟩ (.int .i64 0)).setCell ⟨w.heap.size + 1, 3, none⟩ (.int .i64 0)).setCell ⟨w.heap.size + 1, 4, none⟩ (sV trueT)) = wy := hy
            have b0 := (FV 0 _ rfl).1
            have b1 := (FV 1 _ rfl).1
            have b2 := (FV 2 _ rfl).1
            have b3 := (FV 3 _ rfl).1
            have b4 := (FV 4 _ rfl).1
            have fb0 := (FV 0 _ rfl).2
            have fb1 := (FV 1 _ rfl).2
            have fb2 := (FV 2 _ rfl).2
            have fb3 := (FV 3 _ rfl).2
            have fb4 := (FV 4 _ rfl).2
            have fd0 := (FG 0 _ rfl).1
            have fd1 := (FG 1 _ rfl).1
            have fd2 := (FG 2 _ rfl).1
            have fd3 := (FG 3 _ rfl).1
            have fd4 := (FG 4 _ rfl).1
            clear FV FG 
            go_wp2_with fail
            exact bodyPost_ret (v := boolW true) (by simp [results, Tryd.results21, go_sem, fd0, fd1, fd2, fd3, fd4]) rfl ⟨congrArg Ending.returned HR.out, FX⟩
        · have HR : Hid (boolW false = R) := by show _ = _; rw [← HR2.out, hz]; rfl
          obtain ⟨rfl, rfl, rfl⟩ : n = false ∧ d = 0 ∧ x = 0 := by simpa [zeroD, and_assoc] using hz
          clear hz h0
          go_wp2_with fail
          clear a0 a1 a2 a3 a4
          refine (boolVI false _).mono ?_
          rintro e w2 ⟨rfl, e2⟩
          have FV := C2.later e2
          have FG := FV.put5 (.int .i64 3) (.bool false) (.int .i64 0) (.int .i64 0) (sV falseT)
          have FX := Ext.setL (b := w.heap.size + 1) (by omega) [.int .i64 3, .bool false, .int .i64 0, .int .i64 0, sV falseT] 0 (xt X1 e2)
          obtain ⟨wy, hy⟩ : ∃ wy, setL w2 (w.heap.size + 1) 0 [.int .i64 3, .bool false, .int .i64 0, .int .i64 0, sV falseT] = wy := ⟨_, rfl⟩
          rw [hy] at FG FX
          have hy : (((((w2.setCell ⟨w.heap.size + 1, 0, none⟩ (.int .i64 3)).setCell ⟨w.heap.size + 1, 1, none⟩ (.bool false)).setCell ⟨w.heap.size + 1, 2, none⟩ (.int .i64 0)).setCell ⟨w.heap.size + 1, 3, none⟩ (.int .i64 0)).setCell ⟨w.heap.size + 1, 4, none⟩ (sV falseT)) = wy := hy
          have b0 := (FV 0 _ rfl).1
          have b1 := (FV 1 _ rfl).1
          have b2 := (FV 2 _ rfl).1
          have b3 := (FV 3 _ rfl).1
          have b4 := (FV 4 _ rfl).1
          have fb0 := (FV 0 _ rfl).2
          have fb1 := (FV 1 _ rfl).2
          have fb2 := (FV 2 _ rfl).2
          have fb3 := (FV 3 _ rfl).2
          have fb4 := (FV 4 _ rfl).2
          have fd0 := (FG 0 _ rfl).1
          have fd1 := (FG 1 _ rfl).1
          have fd2 := (FG 2 _ rfl).1
          have fd3 := (FG 3 _ rfl).1
          have fd4 := (FG 4 _ rfl).1
          clear FV FG 
          go_wp2_with fail
          exact bodyPost_ret (v := boolW false) (by simp [results, Tryd.results21, go_sem, fd0, fd1, fd2, fd3, fd4]) rfl ⟨congrArg Ending.returned HR.out, FX⟩
      · by_cases h2 : k = 2
        · subst h2
          have HR2 : Hid ((if boolB (t.map upC) then boolW (t.map upC == trueT) else errW) = R) := by show _ = _; rw [← HR1.out]; simp [boolOf]
          go_wp2_with fail
          clear a0 a1 a2 a3 a4
          refine (capsI t _ hl).mono ?_
          rintro e w2 ⟨rfl, e2⟩
          have D2 := C2.later e2
          have X2 := xt X1 e2
          go_wp2_with fail
          refine (boolI (t.map upC) _).mono ?_
          rintro e w3 ⟨rfl, rfl⟩
          clear C1 C2 e1 e2 h0 h1
          obtain ⟨p, hp⟩ : ∃ p, (t.map upC == trueT) = p := ⟨_, rfl⟩
          cases hq : boolB (t.map upC)
          · have HR : Hid (errW = R) := by show _ = _; rw [← HR2.out, hq]; rfl
            clear hq hp
            go_wp2_with fail
            refine (errVI errT _).mono ?_
            rintro e w4 ⟨rfl, e4⟩
            have FV := D2.later e4
            have FG := FV.put5 (.int .i64 4) (.bool false) (.int .i64 0) (.int .i64 0) (sV errT)
            have FX := Ext.setL (b := w.heap.size + 1) (by omega) [.int .i64 4, .bool false, .int .i64 0, .int .i64 0, sV errT] 0 (xt X2 e4)
            obtain ⟨wy, hy⟩ : ∃ wy, setL w4 (w.heap.size + 1) 0 [.int .i64 4, .bool false, .int .i64 0, .int .i64 0, sV errT] = wy := ⟨_, rfl⟩
            rw [hy] at FG FX
            have hy : (((((w4.setCell ⟨w.heap.size + 1, 0, none⟩ (.int .i64 4)).setCell ⟨w.heap.size + 1, 1, none⟩ (.bool false)).setCell ⟨w.heap.size + 1, 2, none⟩ (.int .i64 0)).setCell ⟨w.heap.size + 1, 3, none⟩ (.int .i64 0)).setCell ⟨w.heap.size + 1, 4, none⟩ (sV errT)) = wy := hy
            have b0 := (FV 0 _ rfl).1
            have b1 := (FV 1 _ rfl).1
            have b2 := (FV 2 _ rfl).1
            have b3 := (FV 3 _ rfl).1
            have b4 := (FV 4 _ rfl).1
            have fb0 := (FV 0 _ rfl).2
            have fb1 := (FV 1 _ rfl).2
            have fb2 := (FV 2 _ rfl).2
            have fb3 := (FV 3 _ rfl).2
            have fb4 := (FV 4 _ rfl).2
            have fd0 := (FG 0 _ rfl).1
            have fd1 := (FG 1 _ rfl).1
            have fd2 := (FG 2 _ rfl).1
            have fd3 := (FG 3 _ rfl).1
            have fd4 := (FG 4 _ rfl).1
            clear FV FG 
            go_wp2_with fail
            exact bodyPost_ret (v := errW) (by simp [results, Tryd.results21, go_sem, fd0, fd1, fd2, fd3, fd4]) rfl ⟨congrArg Ending.returned HR.out, FX⟩
          · have HR3 : Hid (boolW p = R) := by show _ = _; rw [← HR2.out, hq, hp]; rfl
            clear hq
            cases p
            · have HR := HR3
              go_wp2_with fail
              clear hp
              refine (boolVI false _).mono ?_
              rintro e w4 ⟨rfl, e4⟩
              have FV := D2.later e4
              have FG := FV.put5 (.int .i64 3) (.bool false) (.int .i64 0) (.int .i64 0) (sV falseT)
              have FX := Ext.setL (b := w.heap.size + 1) (by omega) [.int .i64 3, .bool false, .int .i64 0, .int .i64 0, sV falseT] 0 (xt X2 e4)
              obtain ⟨wy, hy⟩ : ∃ wy, setL w4 (w.heap.size + 1) 0 [.int .i64 3, .bool false, .int .i64 0, .int .i64 0, sV falseT] = wy := ⟨_, rfl⟩
              rw [hy] at FG FX
              have hy : (((((w4.setCell ⟨w.heap.size + 1, 0, none⟩ (.int .i64 3)).setCell ⟨w.heap.size + 1, 1, none⟩ (.bool false)).setCell ⟨w.heap.size + 1, 2, none⟩ (.int .i64 0)).setCell ⟨w.heap.size + 1, 3, none⟩ (.int .i64 0)).setCell ⟨w.heap.size + 1, 4, none⟩ (sV falseT)) = wy := hy
              have b0 := (FV 0 _ rfl).1
              have b1 := (FV 1 _ rfl).1
              have b2 := (FV 2 _ rfl).1
              have b3 := (FV 3 _ rfl).1
              have b4 := (FV 4 _ rfl).1
              have fb0 := (FV 0 _ rfl).2
              have fb1 := (FV 1 _ rfl).2
              have fb2 := (FV 2 _ rfl).2
              have fb3 := (FV 3 _ rfl).2
              have fb4 := (FV 4 _ rfl).2
              have fd0 := (FG 0 _ rfl).1
              have fd1 := (FG 1 _ rfl).1
              have fd2 := (FG 2 _ rfl).1
              have fd3 := (FG 3 _ rfl).1
              have fd4 := (FG 4 _ rfl).1
              clear FV FG 
              go_wp2_with fail
              exact bodyPost_ret (v := boolW false) (by simp [results, Tryd.results21, go_sem, fd0, fd1, fd2, fd3, fd4]) rfl ⟨congrArg Ending.returned HR.out, FX⟩
            · have HR := HR3
              go_wp2_with fail
              clear hp
              refine (boolVI true _).mono ?_
              rintro e w4 ⟨rfl, e4⟩
              have FV := D2.later e4
              have FG := FV.put5 (.int .i64 3) (.bool false) (.int .i64 0) (.int .i64 0) (sV trueT)
              have FX := Ext.setL (b := w.heap.size + 1) (by omega) [.int .i64 3, .bool false, .int .i64 0, .int .i64 0, sV trueT] 0 (xt X2 e4)
              obtain ⟨wy, hy⟩ : ∃ wy, setL w4 (w.heap.size + 1) 0 [.int .i64 3, .bool false, .int .i64 0, .int .i64 0, sV trueT] = wy := ⟨_, rfl⟩
              rw [hy] at FG FX
              have hy : (((((w4.setCell ⟨w.heap.size + 1, 0, none⟩ (.int .i64 3)).setCell ⟨w.heap.size + 1, 1, none⟩ (.bool false)).setCell ⟨w.heap.size + 1, 2, none⟩ (.int .i64 0)).setCell ⟨w.heap.size + 1, 3, none⟩ (.int .i64 0)).setCell ⟨w.heap.size + 1, 4, none⟩ (sV trueT)) = wy := hy
              have b0 := (FV 0 _ rfl).1
              have b1 := (FV 1 _ rfl).1
              have b2 := (FV 2 _ rfl).1
              have b3 := (FV 3 _ rfl).1
              have b4 := (FV 4 _ rfl).1
              have fb0 := (FV 0 _ rfl).2
              have fb1 := (FV 1 _ rfl).2
              have fb2 := (FV 2 _ rfl).2
              have fb3 := (FV 3 _ rfl).2
              have fb4 := (FV 4 _ rfl).2
              have fd0 := (FG 0 _ rfl).1
              have fd1 := (FG 1 _ rfl).1
              have fd2 := (FG 2 _ rfl).1
              have fd3 := (FG 3 _ rfl).1
              have fd4 := (FG 4 _ rfl).1
              clear FV FG 
              go_wp2_with fail
              exact bodyPost_ret (v := boolW true) (by simp [results, Tryd.results21, go_sem, fd0, fd1, fd2, fd3, fd4]) rfl ⟨congrArg Ending.returned HR.out, FX⟩
        · have HR : Hid (valV k n d x t = R) := by show _ = _; rw [← HR1.out]; simp [boolOf, h0, h1, h2]
          have FV := C2
          have FG := FV.put5 (.int .i64 k) (.bool n) (.int .i64 d) (.int .i64 x) (sV t)
          have FX := Ext.setL (b := w.heap.size + 1) (by omega) [.int .i64 k, .bool n, .int .i64 d, .int .i64 x, sV t] 0 (X1)
          obtain ⟨wy, hy⟩ : ∃ wy, setL w1 (w.heap.size + 1) 0 [.int .i64 k, .bool n, .int .i64 d, .int .i64 x, sV t] = wy := ⟨_, rfl⟩
          rw [hy] at FG FX
          have hy : (((((w1.setCell ⟨w.heap.size + 1, 0, none⟩ (.int .i64 k)).setCell ⟨w.heap.size + 1, 1, none⟩ (.bool n)).setCell ⟨w.heap.size + 1, 2, none⟩ (.int .i64 d)).setCell ⟨w.heap.size + 1, 3, none⟩ (.int .i64 x)).setCell ⟨w.heap.size + 1, 4, none⟩ (sV t)) = wy := hy
          have b0 := (FV 0 _ rfl).1
          have b1 := (FV 1 _ rfl).1
          have b2 := (FV 2 _ rfl).1
          have b3 := (FV 3 _ rfl).1
          have b4 := (FV 4 _ rfl).1
          have fb0 := (FV 0 _ rfl).2
          have fb1 := (FV 1 _ rfl).2
          have fb2 := (FV 2 _ rfl).2
          have fb3 := (FV 3 _ rfl).2
          have fb4 := (FV 4 _ rfl).2
          have fd0 := (FG 0 _ rfl).1
          have fd1 := (FG 1 _ rfl).1
          have fd2 := (FG 2 _ rfl).1
          have fd3 := (FG 3 _ rfl).1
          have fd4 := (FG 4 _ rfl).1
          clear FV FG 
          go_wp2_with fail
          exact bodyPost_ret (v := valV k n d x t) (by simp [results, Tryd.results21, go_sem, fd0, fd1, fd2, fd3, fd4]) rfl ⟨congrArg Ending.returned HR.out, FX⟩

end Go.Proofs.YtchpieciifhplaaDoor
