/-
  Chapter 6: TextOf, ShowValue, on both sides; the laws.
-/
import Derived.Test.YtchpieciifhplaaDoorV6f
import Derived.Test.YtchpieciifhplaaDoorTxLaw
namespace Go.Proofs.YtchpieciifhplaaDoor
open Go.RowKit

/-- The text that a value is. -/
def textOf (k : Int) (n : Bool) (d x : Int) (t : List UInt8) : Value :=
  if k = 0 then valV 2 false 0 0 [] else if k = 1 then valV 2 false 0 0 (textT n d x) else if k = 3 then valV 2 false 0 0 t else valV k n d x t
def textOfV (k : Int) (n : Bool) (d x : Int) (t : List UInt8) : Value := if goodV k n d x t then textOf k n d x t else errW
theorem textOf_val (k : Int) (n : Bool) (d x : Int) (t : List UInt8) : ∃ k2 n2 d2 x2 t2, textOf k n d x t = valV k2 n2 d2 x2 t2 := by
  unfold textOf
  split
  · exact ⟨_, _, _, _, _, rfl⟩
  · split
    · exact ⟨_, _, _, _, _, rfl⟩
    · split
      · exact ⟨_, _, _, _, _, rfl⟩
      · exact ⟨_, _, _, _, _, rfl⟩
theorem sV_of {s : ByteArray} {l : List UInt8} (h : s.data.toList = l) : (.string s : Value) = sV l := by
  subst h
  rfl
set_option maxRecDepth 8000 in
set_option maxHeartbeats 2000000 in
theorem textOfI (k : Int) (n : Bool) (d x : Int) (t : List UInt8) (w : World) (hl : t.length ≤ 2000000) (d1 : -9223372036854775808 ≤ d) (d2 : d ≤ 9223372036854775807) (hT : Tens w) (hE : ErrTab w) (hI : ItoaC w) :
    Calls Tryd.prog 18 #[valV k n d x t] w fun e w' => e = .returned (textOfV k n d x t) ∧ Ext w w' := by
  obtain ⟨R, hR⟩ : ∃ R, textOfV k n d x t = R := ⟨_, rfl⟩
  have HR0 : Hid (textOfV k n d x t = R) := hR
  rw [hR]
  clear hR
  have X1 := x1 w (.cells #[.int .i64 k, .bool n, .int .i64 d, .int .i64 x, sV t] 30)
  have B1 := vec_made w (valL k n d x t) 30
  obtain ⟨wa, ha⟩ : ∃ wa, w.alloc (.cells #[.int .i64 k, .bool n, .int .i64 d, .int .i64 x, sV t] 30) = wa := ⟨_, rfl⟩
  have B2 := vec_made wa (valL 0 false 0 0 []) 30
  have X2 := x1 wa (.cells #[.int .i64 0, .bool false, .int .i64 0, .int .i64 0, sV []] 30)
  obtain ⟨wb, hb⟩ : ∃ wb, wa.alloc (.cells #[.int .i64 0, .bool false, .int .i64 0, .int .i64 0, sV []] 30) = wb := ⟨_, rfl⟩
  have sa : wa.heap.size = w.heap.size + 1 := by rw [← ha, World.size_alloc]
  change Vec (w.alloc (.cells #[.int .i64 k, .bool n, .int .i64 d, .int .i64 x, sV t] 30)) _ _ at B1
  change Vec (wa.alloc (.cells #[.int .i64 0, .bool false, .int .i64 0, .int .i64 0, sV []] 30)) _ _ at B2
  rw [ha] at X1 B1
  rw [hb] at X2 B2
  rw [sa] at B2
  have X := xt X1 X2
  have B1 := B1.later X2
  clear X1 X2
  have a0 := (B1 0 _ rfl).1
  have a1 := (B1 1 _ rfl).1
  have a2 := (B1 2 _ rfl).1
  have a3 := (B1 3 _ rfl).1
  have a4 := (B1 4 _ rfl).1
  go_enter Tryd.func18, Tryd.ntmps18
  go_wp2_with fail
  clear ha hb sa a0 a1 a2 a3 a4
  refine (goodVI k n d x t wb hl d1 d2 (hT.later X) (hE.later X)).mono ?_
  rintro e w1 ⟨rfl, e1⟩
  have C1 := B1.later e1
  have C2 := B2.later e1
  have X1 := xt X e1
  clear B1 B2 hE
  obtain ⟨g, hg⟩ : ∃ g, goodV k n d x t = g := ⟨_, rfl⟩
  rw [hg]
  cases g
  · have HR : Hid (errW = R) := by show _ = _; rw [← HR0.out]; simp [textOfV, hg]
    clear hg hT hI d1 d2
    go_wp2_with fail
    refine (errVI errT _).mono ?_
    rintro e w2 ⟨rfl, e2⟩
    have FV := C2.later e2
    have FG := FV.put5 (.int .i64 4) (.bool false) (.int .i64 0) (.int .i64 0) (sV errT)
    have FX := Ext.setL (b := w.heap.size + 1) (by omega) [.int .i64 4, .bool false, .int .i64 0, .int .i64 0, sV errT] 0 (xt X1 e2)
    obtain ⟨wy, hy⟩ : ∃ wy, setL w2 (w.heap.size + 1) 0 [.int .i64 4, .bool false, .int .i64 0, .int .i64 0, sV errT] = wy := ⟨_, rfl⟩
    rw [hy] at FG FX
    have hy : (((((w2.setCell ⟨w.heap.size + 1, 0, none⟩ (.int .i64 4)).setCell ⟨w.heap.size + 1, 1, none⟩ (.bool false)).setCell ⟨w.heap.size + 1, 2, none⟩ (.int .i64 0)).setCell ⟨w.heap.size + 1, 3, none⟩ (.int .i64 0)).setCell ⟨w.heap.size + 1, 4, none⟩ (sV errT)) = wy := hy
    have b0 := (FV 0 _ rfl).1
    have b1 := (FV 1 _ rfl).1
    have b2 := (FV 2 _ rfl).1
    have b3 := (FV 3 _ rfl).1
    have b4 := (FV 4 _ rfl).1
    have fb0 := (FV 0 _ rfl).2
    have fb1 := (FV 1 _ rfl).2
    have fb2 := (FV 2 _ rfl).2
    have fb3 := (FV 3 _ rfl).2
    have fb4 := (FV 4 _ rfl).2
    have fd0 := (FG 0 _ rfl).1
    have fd1 := (FG 1 _ rfl).1
    have fd2 := (FG 2 _ rfl).1
    have fd3 := (FG 3 _ rfl).1
    have fd4 := (FG 4 _ rfl).1
    clear FV FG 
    go_wp2_with fail
    exact bodyPost_ret (v := errW) (by simp [results, Tryd.results18, go_sem, fd0, fd1, fd2, fd3, fd4]) rfl ⟨congrArg Ending.returned HR.out, FX⟩
  · have HR1 : Hid (textOf k n d x t = R) := by show _ = _; rw [← HR0.out]; simp [textOfV, hg]
    have a0 := (C1 0 _ rfl).1
    have a1 := (C1 1 _ rfl).1
    have a2 := (C1 2 _ rfl).1
    have a3 := (C1 3 _ rfl).1
    have a4 := (C1 4 _ rfl).1
    by_cases h1 : k = 1
    · subst h1
      clear hg
      go_wp2_with fail
      clear a0 a1 a2 a3 a4
      refine (textI repC n d x w1 (hI.later X1) d1 d2 (hT.later X1)).mono ?_
      rintro e w2 ⟨s, rfl, hs, e2⟩
      have es := sV_of hs
      rw [es]
      clear hs es hT hI d1 d2 s
      have HR : Hid (valV 2 false 0 0 (textT n d x) = R) := by show _ = _; rw [← HR1.out]; simp [textOf]
      obtain ⟨u, hu⟩ : ∃ u, textT n d x = u := ⟨_, rfl⟩
      rw [hu] at HR ⊢
      clear hu
      go_wp2_with fail
      refine (textVI u _).mono ?_
      rintro e w3 ⟨rfl, e3⟩
      have FV := (C2.later e2).later e3
      have FG := FV.put5 (.int .i64 2) (.bool false) (.int .i64 0) (.int .i64 0) (sV u)
      have FX := Ext.setL (b := w.heap.size + 1) (by omega) [.int .i64 2, .bool false, .int .i64 0, .int .i64 0, sV u] 0 (xt (xt X1 e2) e3)
      obtain ⟨wy, hy⟩ : ∃ wy, setL w3 (w.heap.size + 1) 0 [.int .i64 2, .bool false, .int .i64 0, .int .i64 0, sV u] = wy := ⟨_, rfl⟩
      rw [hy] at FG FX
      have hy : (((((w3.setCell ⟨w.heap.size + 1, 0, none⟩ (.int .i64 2)).setCell ⟨w.heap.size + 1, 1, none⟩ (.bool false)).setCell ⟨w.heap.size + 1, 2, none⟩ (.int .i64 0)).setCell ⟨w.heap.size + 1, 3, none⟩ (.int .i64 0)).setCell ⟨w.heap.size + 1, 4, none⟩ (sV u)) = wy := hy
      have b0 := (FV 0 _ rfl).1
      have b1 := (FV 1 _ rfl).1
      have b2 := (FV 2 _ rfl).1
      have b3 := (FV 3 _ rfl).1
      have b4 := (FV 4 _ rfl).1
      have fb0 := (FV 0 _ rfl).2
      have fb1 := (FV 1 _ rfl).2
      have fb2 := (FV 2 _ rfl).2
      have fb3 := (FV 3 _ rfl).2
      have fb4 := (FV 4 _ rfl).2
      have fd0 := (FG 0 _ rfl).1
      have fd1 := (FG 1 _ rfl).1
      have fd2 := (FG 2 _ rfl).1
      have fd3 := (FG 3 _ rfl).1
      have fd4 := (FG 4 _ rfl).1
      clear FV FG 
      go_wp2_with fail
      exact bodyPost_ret (v := valV 2 false 0 0 u) (by simp [results, Tryd.results18, go_sem, fd0, fd1, fd2, fd3, fd4]) rfl ⟨congrArg Ending.returned HR.out, FX⟩
    · obtain ⟨rfl, rfl, rfl⟩ := goodV_zero hg h1
      clear hT hI d1 d2
      by_cases h4 : k = 4
      · subst h4
        clear hg
        have HR : Hid (valV 4 false 0 0 t = R) := by show _ = _; rw [← HR1.out]; simp [textOf]
        have FV := C2
        have FG := FV.put5 (.int .i64 4) (.bool false) (.int .i64 0) (.int .i64 0) (sV t)
        have FX := Ext.setL (b := w.heap.size + 1) (by omega) [.int .i64 4, .bool false, .int .i64 0, .int .i64 0, sV t] 0 (X1)
        obtain ⟨wy, hy⟩ : ∃ wy, setL w1 (w.heap.size + 1) 0 [.int .i64 4, .bool false, .int .i64 0, .int .i64 0, sV t] = wy := ⟨_, rfl⟩
        rw [hy] at FG FX
        have hy : (((((w1.setCell ⟨w.heap.size + 1, 0, none⟩ (.int .i64 4)).setCell ⟨w.heap.size + 1, 1, none⟩ (.bool false)).setCell ⟨w.heap.size + 1, 2, none⟩ (.int .i64 0)).setCell ⟨w.heap.size + 1, 3, none⟩ (.int .i64 0)).setCell ⟨w.heap.size + 1, 4, none⟩ (sV t)) = wy := hy
        have b0 := (FV 0 _ rfl).1
        have b1 := (FV 1 _ rfl).1
        have b2 := (FV 2 _ rfl).1
        have b3 := (FV 3 _ rfl).1
        have b4 := (FV 4 _ rfl).1
        have fb0 := (FV 0 _ rfl).2
        have fb1 := (FV 1 _ rfl).2
        have fb2 := (FV 2 _ rfl).2
        have fb3 := (FV 3 _ rfl).2
        have fb4 := (FV 4 _ rfl).2
        have fd0 := (FG 0 _ rfl).1
        have fd1 := (FG 1 _ rfl).1
        have fd2 := (FG 2 _ rfl).1
        have fd3 := (FG 3 _ rfl).1
        have fd4 := (FG 4 _ rfl).1
        clear FV FG 
        go_wp2_with fail
        exact bodyPost_ret (v := valV 4 false 0 0 t) (by simp [results, Tryd.results18, go_sem, fd0, fd1, fd2, fd3, fd4]) rfl ⟨congrArg Ending.returned HR.out, FX⟩
      · have HR : Hid (valV 2 false 0 0 t = R) := by
          show _ = _
          rw [← HR1.out]
          by_cases h0 : k = 0
          · subst h0
            rw [goodV_empty hg]
            simp [textOf]
          · by_cases h3 : k = 3
            · simp [textOf, h3]
            · have h2 : k = 2 := by
                simp only [goodV, h1, if_false, h0, h3, h4] at hg
                by_cases h2 : k = 2
                · exact h2
                · simp [h2] at hg
              simp [textOf, h2]
        clear hg
        go_wp2_with fail
        clear a0 a1 a2 a3 a4
        refine (textVI t _).mono ?_
        rintro e w3 ⟨rfl, e3⟩
        have FV := C2.later e3
        have FG := FV.put5 (.int .i64 2) (.bool false) (.int .i64 0) (.int .i64 0) (sV t)
        have FX := Ext.setL (b := w.heap.size + 1) (by omega) [.int .i64 2, .bool false, .int .i64 0, .int .i64 0, sV t] 0 (xt X1 e3)
        obtain ⟨wy, hy⟩ : ∃ wy, setL w3 (w.heap.size + 1) 0 [.int .i64 2, .bool false, .int .i64 0, .int .i64 0, sV t] = wy := ⟨_, rfl⟩
        rw [hy] at FG FX
        have hy : (((((w3.setCell ⟨w.heap.size + 1, 0, none⟩ (.int .i64 2)).setCell ⟨w.heap.size + 1, 1, none⟩ (.bool false)).setCell ⟨w.heap.size + 1, 2, none⟩ (.int .i64 0)).setCell ⟨w.heap.size + 1, 3, none⟩ (.int .i64 0)).setCell ⟨w.heap.size + 1, 4, none⟩ (sV t)) = wy := hy
        have b0 := (FV 0 _ rfl).1
        have b1 := (FV 1 _ rfl).1
        have b2 := (FV 2 _ rfl).1
        have b3 := (FV 3 _ rfl).1
        have b4 := (FV 4 _ rfl).1
        have fb0 := (FV 0 _ rfl).2
        have fb1 := (FV 1 _ rfl).2
        have fb2 := (FV 2 _ rfl).2
        have fb3 := (FV 3 _ rfl).2
        have fb4 := (FV 4 _ rfl).2
        have fd0 := (FG 0 _ rfl).1
        have fd1 := (FG 1 _ rfl).1
        have fd2 := (FG 2 _ rfl).1
        have fd3 := (FG 3 _ rfl).1
        have fd4 := (FG 4 _ rfl).1
        clear FV FG 
        go_wp2_with fail
        exact bodyPost_ret (v := valV 2 false 0 0 t) (by simp [results, Tryd.results18, go_sem, fd0, fd1, fd2, fd3, fd4]) rfl ⟨congrArg Ending.returned HR.out, FX⟩
set_option maxRecDepth 8000 in
set_option maxHeartbeats 2000000 in
theorem asTextS (k : Int) (n : Bool) (d x : Int) (t : List UInt8) (w : World)  :
    Calls Tryd.prog 37 #[valV k n d x t] w fun e w' => e = .returned (textOf k n d x t) ∧ Ext w w' := by
  obtain ⟨R, hR⟩ : ∃ R, textOf k n d x t = R := ⟨_, rfl⟩
  have HR0 : Hid (textOf k n d x t = R) := hR
  rw [hR]
  clear hR
  have X1 := x1 w (.cells #[.int .i64 k, .bool n, .int .i64 d, .int .i64 x, sV t] 30)
  have B1 := vec_made w (valL k n d x t) 30
  obtain ⟨wa, ha⟩ : ∃ wa, w.alloc (.cells #[.int .i64 k, .bool n, .int .i64 d, .int .i64 x, sV t] 30) = wa := ⟨_, rfl⟩
  have B2 := vec_made wa (valL 0 false 0 0 []) 30
  have X2 := x1 wa (.cells #[.int .i64 0, .bool false, .int .i64 0, .int .i64 0, sV []] 30)
  obtain ⟨wb, hb⟩ : ∃ wb, wa.alloc (.cells #[.int .i64 0, .bool false, .int .i64 0, .int .i64 0, sV []] 30) = wb := ⟨_, rfl⟩
  have sa : wa.heap.size = w.heap.size + 1 := by rw [← ha, World.size_alloc]
  change Vec (w.alloc (.cells #[.int .i64 k, .bool n, .int .i64 d, .int .i64 x, sV t] 30)) _ _ at B1
  change Vec (wa.alloc (.cells #[.int .i64 0, .bool false, .int .i64 0, .int .i64 0, sV []] 30)) _ _ at B2
  rw [ha] at X1 B1
  rw [hb] at X2 B2
  rw [sa] at B2
  have X := xt X1 X2
  have B1 := B1.later X2
  clear X1 X2
  have a0 := (B1 0 _ rfl).1
  have a1 := (B1 1 _ rfl).1
  have a2 := (B1 2 _ rfl).1
  have a3 := (B1 3 _ rfl).1
  have a4 := (B1 4 _ rfl).1
  go_enter Tryd.func37, Tryd.ntmps37
  by_cases h0 : k = 0
  · subst h0
    have HR : Hid (valV 2 false 0 0 [] = R) := by show _ = _; rw [← HR0.out]; simp [textOf]
    go_wp2_with fail
    clear ha hb sa a0 a1 a2 a3 a4
    refine (textVS [] wb).mono ?_
    rintro e w2 ⟨rfl, e2⟩
    have FV := B2.later e2
    have FG := FV.put5 (.int .i64 2) (.bool false) (.int .i64 0) (.int .i64 0) (sV [])
    have FX := Ext.setL (b := w.heap.size + 1) (by omega) [.int .i64 2, .bool false, .int .i64 0, .int .i64 0, sV []] 0 (xt X e2)
    obtain ⟨wy, hy⟩ : ∃ wy, setL w2 (w.heap.size + 1) 0 [.int .i64 2, .bool false, .int .i64 0, .int .i64 0, sV []] = wy := ⟨_, rfl⟩
    rw [hy] at FG FX
    have hy : (((((w2.setCell ⟨w.heap.size + 1, 0, none⟩ (.int .i64 2)).setCell ⟨w.heap.size + 1, 1, none⟩ (.bool false)).setCell ⟨w.heap.size + 1, 2, none⟩ (.int .i64 0)).setCell ⟨w.heap.size + 1, 3, none⟩ (.int .i64 0)).setCell ⟨w.heap.size + 1, 4, none⟩ (sV [])) = wy := hy
    have b0 := (FV 0 _ rfl).1
    have b1 := (FV 1 _ rfl).1
    have b2 := (FV 2 _ rfl).1
    have b3 := (FV 3 _ rfl).1
    have b4 := (FV 4 _ rfl).1
    have fb0 := (FV 0 _ rfl).2
    have fb1 := (FV 1 _ rfl).2
    have fb2 := (FV 2 _ rfl).2
    have fb3 := (FV 3 _ rfl).2
    have fb4 := (FV 4 _ rfl).2
    have fd0 := (FG 0 _ rfl).1
    have fd1 := (FG 1 _ rfl).1
    have fd2 := (FG 2 _ rfl).1
    have fd3 := (FG 3 _ rfl).1
    have fd4 := (FG 4 _ rfl).1
    clear FV FG 
    go_wp2_with fail
    exact bodyPost_ret (v := valV 2 false 0 0 []) (by simp [results, Tryd.results37, go_sem, fd0, fd1, fd2, fd3, fd4]) rfl ⟨congrArg Ending.returned HR.out, FX⟩
  · by_cases h1 : k = 1
    · subst h1
      go_wp2_with fail
      clear ha hb sa a0 a1 a2 a3 a4
      refine (textS n d x wb).mono ?_
      rintro e w2 ⟨s, rfl, hs, e2⟩
      have es := sV_of hs
      rw [es]
      clear hs es s
      have HR : Hid (valV 2 false 0 0 (textT n d x) = R) := by show _ = _; rw [← HR0.out]; simp [textOf]
      obtain ⟨u, hu⟩ : ∃ u, textT n d x = u := ⟨_, rfl⟩
      rw [hu] at HR ⊢
      clear hu
      go_wp2_with fail
      refine (textVS u w2).mono ?_
      rintro e w3 ⟨rfl, e3⟩
      have FV := (B2.later e2).later e3
      have FG := FV.put5 (.int .i64 2) (.bool false) (.int .i64 0) (.int .i64 0) (sV u)
      have FX := Ext.setL (b := w.heap.size + 1) (by omega) [.int .i64 2, .bool false, .int .i64 0, .int .i64 0, sV u] 0 (xt (xt X e2) e3)
      obtain ⟨wy, hy⟩ : ∃ wy, setL w3 (w.heap.size + 1) 0 [.int .i64 2, .bool false, .int .i64 0, .int .i64 0, sV u] = wy := ⟨_, rfl⟩
      rw [hy] at FG FX
      have hy : (((((w3.setCell ⟨w.heap.size + 1, 0, none⟩ (.int .i64 2)).setCell ⟨w.heap.size + 1, 1, none⟩ (.bool false)).setCell ⟨w.heap.size + 1, 2, none⟩ (.int .i64 0)).setCell ⟨w.heap.size + 1, 3, none⟩ (.int .i64 0)).setCell ⟨w.heap.size + 1, 4, none⟩ (sV u)) = wy := hy
      have b0 := (FV 0 _ rfl).1
      have b1 := (FV 1 _ rfl).1
      have b2 := (FV 2 _ rfl).1
      have b3 := (FV 3 _ rfl).1
      have b4 := (FV 4 _ rfl).1
      have fb0 := (FV 0 _ rfl).2
      have fb1 := (FV 1 _ rfl).2
      have fb2 := (FV 2 _ rfl).2
      have fb3 := (FV 3 _ rfl).2
      have fb4 := (FV 4 _ rfl).2
      have fd0 := (FG 0 _ rfl).1
      have fd1 := (FG 1 _ rfl).1
      have fd2 := (FG 2 _ rfl).1
      have fd3 := (FG 3 _ rfl).1
      have fd4 := (FG 4 _ rfl).1
      clear FV FG 
      go_wp2_with fail
      exact bodyPost_ret (v := valV 2 false 0 0 u) (by simp [results, Tryd.results37, go_sem, fd0, fd1, fd2, fd3, fd4]) rfl ⟨congrArg Ending.returned HR.out, FX⟩
    · by_cases h3 : k = 3
      · subst h3
        have HR : Hid (valV 2 false 0 0 t = R) := by show _ = _; rw [← HR0.out]; simp [textOf]
        go_wp2_with fail
        clear ha hb sa a0 a1 a2 a3 a4
        refine (textVS t wb).mono ?_
        rintro e w2 ⟨rfl, e2⟩
        have FV := B2.later e2
        have FG := FV.put5 (.int .i64 2) (.bool false) (.int .i64 0) (.int .i64 0) (sV t)
        have FX := Ext.setL (b := w.heap.size + 1) (by omega) [.int .i64 2, .bool false, .int .i64 0, .int .i64 0, sV t] 0 (xt X e2)
        obtain ⟨wy, hy⟩ : ∃ wy, setL w2 (w.heap.size + 1) 0 [.int .i64 2, .bool false, .int .i64 0, .int .i64 0, sV t] = wy := ⟨_, rfl⟩
        rw [hy] at FG FX
        have hy : (((((w2.setCell ⟨w.heap.size + 1, 0, none⟩ (.int .i64 2)).setCell ⟨w.heap.size + 1, 1, none⟩ (.bool false)).setCell ⟨w.heap.size + 1, 2, none⟩ (.int .i64 0)).setCell ⟨w.heap.size + 1, 3, none⟩ (.int .i64 0)).setCell ⟨w.heap.size + 1, 4, none⟩ (sV t)) = wy := hy
        have b0 := (FV 0 _ rfl).1
        have b1 := (FV 1 _ rfl).1
        have b2 := (FV 2 _ rfl).1
        have b3 := (FV 3 _ rfl).1
        have b4 := (FV 4 _ rfl).1
        have fb0 := (FV 0 _ rfl).2
        have fb1 := (FV 1 _ rfl).2
        have fb2 := (FV 2 _ rfl).2
        have fb3 := (FV 3 _ rfl).2
        have fb4 := (FV 4 _ rfl).2
        have fd0 := (FG 0 _ rfl).1
        have fd1 := (FG 1 _ rfl).1
        have fd2 := (FG 2 _ rfl).1
        have fd3 := (FG 3 _ rfl).1
        have fd4 := (FG 4 _ rfl).1
        clear FV FG 
        go_wp2_with fail
        exact bodyPost_ret (v := valV 2 false 0 0 t) (by simp [results, Tryd.results37, go_sem, fd0, fd1, fd2, fd3, fd4]) rfl ⟨congrArg Ending.returned HR.out, FX⟩
      · have HR : Hid (valV k n d x t = R) := by show _ = _; rw [← HR0.out]; simp [textOf, h0, h1, h3]
        have FV := B2
        have FG := FV.put5 (.int .i64 k) (.bool n) (.int .i64 d) (.int .i64 x) (sV t)
        have FX := Ext.setL (b := w.heap.size + 1) (by omega) [.int .i64 k, .bool n, .int .i64 d, .int .i64 x, sV t] 0 (X)
        obtain ⟨wy, hy⟩ : ∃ wy, setL wb (w.heap.size + 1) 0 [.int .i64 k, .bool n, .int .i64 d, .int .i64 x, sV t] = wy := ⟨_, rfl⟩
        rw [hy] at FG FX
        have hy : (((((wb.setCell ⟨w.heap.size + 1, 0, none⟩ (.int .i64 k)).setCell ⟨w.heap.size + 1, 1, none⟩ (.bool n)).setCell ⟨w.heap.size + 1, 2, none⟩ (.int .i64 d)).setCell ⟨w.heap.size + 1, 3, none⟩ (.int .i64 x)).setCell ⟨w.heap.size + 1, 4, none⟩ (sV t)) = wy := hy
        have b0 := (FV 0 _ rfl).1
        have b1 := (FV 1 _ rfl).1
        have b2 := (FV 2 _ rfl).1
        have b3 := (FV 3 _ rfl).1
        have b4 := (FV 4 _ rfl).1
        have fb0 := (FV 0 _ rfl).2
        have fb1 := (FV 1 _ rfl).2
        have fb2 := (FV 2 _ rfl).2
        have fb3 := (FV 3 _ rfl).2
        have fb4 := (FV 4 _ rfl).2
        have fd0 := (FG 0 _ rfl).1
        have fd1 := (FG 1 _ rfl).1
        have fd2 := (FG 2 _ rfl).1
        have fd3 := (FG 3 _ rfl).1
        have fd4 := (FG 4 _ rfl).1
        clear FV FG 
        go_wp2_with fail
        exact bodyPost_ret (v := valV k n d x t) (by simp [results, Tryd.results37, go_sem, fd0, fd1, fd2, fd3, fd4]) rfl ⟨congrArg Ending.returned HR.out, FX⟩
set_option maxRecDepth 8000 in
set_option maxHeartbeats 2000000 in
theorem textOfS (k : Int) (n : Bool) (d x : Int) (t : List UInt8) (w : World) (hl : t.length ≤ 2000000) :
    Calls Tryd.prog 17 #[valV k n d x t] w fun e w' => e = .returned (textOfV k n d x t) ∧ Ext w w' := by
  obtain ⟨R, hR⟩ : ∃ R, textOfV k n d x t = R := ⟨_, rfl⟩
  have HR0 : Hid (textOfV k n d x t = R) := hR
  rw [hR]
  clear hR
  have X1 := x1 w (.cells #[.int .i64 k, .bool n, .int .i64 d, .int .i64 x, sV t] 30)
  have B1 := vec_made w (valL k n d x t) 30
  obtain ⟨wa, ha⟩ : ∃ wa, w.alloc (.cells #[.int .i64 k, .bool n, .int .i64 d, .int .i64 x, sV t] 30) = wa := ⟨_, rfl⟩
  have B2 := vec_made wa (valL 0 false 0 0 []) 30
  have X2 := x1 wa (.cells #[.int .i64 0, .bool false, .int .i64 0, .int .i64 0, sV []] 30)
  obtain ⟨wb, hb⟩ : ∃ wb, wa.alloc (.cells #[.int .i64 0, .bool false, .int .i64 0, .int .i64 0, sV []] 30) = wb := ⟨_, rfl⟩
  have sa : wa.heap.size = w.heap.size + 1 := by rw [← ha, World.size_alloc]
  change Vec (w.alloc (.cells #[.int .i64 k, .bool n, .int .i64 d, .int .i64 x, sV t] 30)) _ _ at B1
  change Vec (wa.alloc (.cells #[.int .i64 0, .bool false, .int .i64 0, .int .i64 0, sV []] 30)) _ _ at B2
  rw [ha] at X1 B1
  rw [hb] at X2 B2
  rw [sa] at B2
  have X := xt X1 X2
  have B1 := B1.later X2
  clear X1 X2
  have a0 := (B1 0 _ rfl).1
  have a1 := (B1 1 _ rfl).1
  have a2 := (B1 2 _ rfl).1
  have a3 := (B1 3 _ rfl).1
  have a4 := (B1 4 _ rfl).1
  go_enter Tryd.func17, Tryd.ntmps17
  go_wp2_with fail
  clear ha hb sa a0 a1 a2 a3 a4
  refine (goodVS k n d x t wb hl).mono ?_
  rintro e w1 ⟨rfl, e1⟩
  have C1 := B1.later e1
  have C2 := B2.later e1
  have X1 := xt X e1
  clear B1 B2
  obtain ⟨g, hg⟩ : ∃ g, goodV k n d x t = g := ⟨_, rfl⟩
  rw [hg]
  cases g
  · have HR : Hid (errW = R) := by show _ = _; rw [← HR0.out]; simp [textOfV, hg]
    clear hg
    go_wp2_with fail
    refine (errVS errT w1).mono ?_
    rintro e w2 ⟨rfl, e2⟩
    have FV := C2.later e2
    have FG := FV.put5 (.int .i64 4) (.bool false) (.int .i64 0) (.int .i64 0) (sV errT)
    have FX := Ext.setL (b := w.heap.size + 1) (by omega) [.int .i64 4, .bool false, .int .i64 0, .int .i64 0, sV errT] 0 (xt X1 e2)
    obtain ⟨wy, hy⟩ : ∃ wy, setL w2 (w.heap.size + 1) 0 [.int .i64 4, .bool false, .int .i64 0, .int .i64 0, sV errT] = wy := ⟨_, rfl⟩
    rw [hy] at FG FX
    have hy : (((((w2.setCell ⟨w.heap.size + 1, 0, none⟩ (.int .i64 4)).setCell ⟨w.heap.size + 1, 1, none⟩ (.bool false)).setCell ⟨w.heap.size + 1, 2, none⟩ (.int .i64 0)).setCell ⟨w.heap.size + 1, 3, none⟩ (.int .i64 0)).setCell ⟨w.heap.size + 1, 4, none⟩ (sV errT)) = wy := hy
    have b0 := (FV 0 _ rfl).1
    have b1 := (FV 1 _ rfl).1
    have b2 := (FV 2 _ rfl).1
    have b3 := (FV 3 _ rfl).1
    have b4 := (FV 4 _ rfl).1
    have fb0 := (FV 0 _ rfl).2
    have fb1 := (FV 1 _ rfl).2
    have fb2 := (FV 2 _ rfl).2
    have fb3 := (FV 3 _ rfl).2
    have fb4 := (FV 4 _ rfl).2
    have fd0 := (FG 0 _ rfl).1
    have fd1 := (FG 1 _ rfl).1
    have fd2 := (FG 2 _ rfl).1
    have fd3 := (FG 3 _ rfl).1
    have fd4 := (FG 4 _ rfl).1
    clear FV FG 
    go_wp2_with fail
    exact bodyPost_ret (v := errW) (by simp [results, Tryd.results17, go_sem, fd0, fd1, fd2, fd3, fd4]) rfl ⟨congrArg Ending.returned HR.out, FX⟩
  · have HR1 : Hid (textOf k n d x t = R) := by show _ = _; rw [← HR0.out]; simp [textOfV, hg]
    have a0 := (C1 0 _ rfl).1
    have a1 := (C1 1 _ rfl).1
    have a2 := (C1 2 _ rfl).1
    have a3 := (C1 3 _ rfl).1
    have a4 := (C1 4 _ rfl).1
    go_wp2_with fail
    clear a0 a1 a2 a3 a4
    refine (asTextS k n d x t w1).mono ?_
    rintro e w2 ⟨rfl, e2⟩
    obtain ⟨k2, n2, d2, x2, t2, hv⟩ := textOf_val k n d x t
    have HR : Hid (valV k2 n2 d2 x2 t2 = R) := by show _ = _; rw [← HR1.out, hv]
    rw [hv]
    clear hv
    have FV := C2.later e2
    have FG := FV.put5 (.int .i64 k2) (.bool n2) (.int .i64 d2) (.int .i64 x2) (sV t2)
    have FX := Ext.setL (b := w.heap.size + 1) (by omega) [.int .i64 k2, .bool n2, .int .i64 d2, .int .i64 x2, sV t2] 0 (xt X1 e2)
    obtain ⟨wy, hy⟩ : ∃ wy, setL w2 (w.heap.size + 1) 0 [.int .i64 k2, .bool n2, .int .i64 d2, .int .i64 x2, sV t2] = wy := ⟨_, rfl⟩
    rw [hy] at FG FX
    have hy : (((((w2.setCell ⟨w.heap.size + 1, 0, none⟩ (.int .i64 k2)).setCell ⟨w.heap.size + 1, 1, none⟩ (.bool n2)).setCell ⟨w.heap.size + 1, 2, none⟩ (.int .i64 d2)).setCell ⟨w.heap.size + 1, 3, none⟩ (.int .i64 x2)).setCell ⟨w.heap.size + 1, 4, none⟩ (sV t2)) = wy := hy
    have b0 := (FV 0 _ rfl).1
    have b1 := (FV 1 _ rfl).1
    have b2 := (FV 2 _ rfl).1
    have b3 := (FV 3 _ rfl).1
    have b4 := (FV 4 _ rfl).1
    have fb0 := (FV 0 _ rfl).2
    have fb1 := (FV 1 _ rfl).2
    have fb2 := (FV 2 _ rfl).2
    have fb3 := (FV 3 _ rfl).2
    have fb4 := (FV 4 _ rfl).2
    have fd0 := (FG 0 _ rfl).1
    have fd1 := (FG 1 _ rfl).1
    have fd2 := (FG 2 _ rfl).1
    have fd3 := (FG 3 _ rfl).1
    have fd4 := (FG 4 _ rfl).1
    clear FV FG 
    go_wp2_with fail
    exact bodyPost_ret (v := valV k2 n2 d2 x2 t2) (by simp [results, Tryd.results17, go_sem, fd0, fd1, fd2, fd3, fd4]) rfl ⟨congrArg Ending.returned HR.out, FX⟩
set_option maxRecDepth 8000 in
set_option maxHeartbeats 2000000 in
theorem lawTextOf (k : Int) (n : Bool) (d x : Int) (t : List UInt8) (w : World) (hl : t.length ≤ 9223372036854775807) (d1 : -9223372036854775808 ≤ d) (d2 : d ≤ 9223372036854775807) (hT : Tens w) (hE : ErrTab w) (hI : ItoaC w) :
    Calls Tryd.prog 5 #[valV k n d x t] w fun e w' => e = .returned (.bool true) ∧ Ext w w' := by
  have B := vec_made w (valL k n d x t) 25
  have X0 := x1 w (.cells #[.int .i64 k, .bool n, .int .i64 d, .int .i64 x, sV t] 25)
  go_enter Tryd.func5, Tryd.ntmps5
  go_wp2_with fail
  refine (szValue k n d x t 1048576 _ (by omega) (by omega) (by omega)).mono ?_
  rintro e w1 ⟨rfl, e1⟩
  have X1 := xt X0 e1
  by_cases hs : (1048576 : Int) < t.length
  · rw [if_pos hs]
    clear B hT hE hl d1 d2
    go_wp2_with fail
    go_ret
    exact ⟨rfl, X1⟩
  · rw [if_neg hs]
    have hl2 : t.length ≤ 2000000 := by omega
    obtain ⟨m, hm⟩ : ∃ m : Int, (1048576 : Int) - t.length = m := ⟨_, rfl⟩
    have hm0 : 0 ≤ m := by omega
    rw [hm]
    clear hm hs hl
    have B1 := B.later e1
    have a0 := (B1 0 _ rfl).1
    have a1 := (B1 1 _ rfl).1
    have a2 := (B1 2 _ rfl).1
    have a3 := (B1 3 _ rfl).1
    have a4 := (B1 4 _ rfl).1
    go_wp2_with fail
    clear a0 a1 a2 a3 a4
    refine (toValue k n d x t _).mono ?_
    rintro e w2 ⟨rfl, e2⟩
    go_wp2_with fail
    refine (textOfS k n d x t _ hl2).mono ?_
    rintro e w3 ⟨rfl, e3⟩
    have B3 := (B1.later e2).later e3
    have X3 := xt (xt X1 e2) e3
    obtain ⟨k2, n2, d2', x2, t2, hv⟩ : ∃ k2 n2 d2 x2 t2, textOfV k n d x t = valV k2 n2 d2 x2 t2 := ofV_val _ (textOf_val k n d x t)
    have HV : Hid (textOfV k n d x t = valV k2 n2 d2' x2 t2) := hv
    rw [hv]
    clear hv
    obtain ⟨wz, hz⟩ : ∃ wz, w3.alloc (.cells #[.int .i64 k2, .bool n2, .int .i64 d2', .int .i64 x2, sV t2] 30) = wz := ⟨_, rfl⟩
    have Y := x1 w3 (.cells #[.int .i64 k2, .bool n2, .int .i64 d2', .int .i64 x2, sV t2] 30)
    have Bw := vec_made w3 (valL k2 n2 d2' x2 t2) 30
    change Vec (w3.alloc (.cells #[.int .i64 k2, .bool n2, .int .i64 d2', .int .i64 x2, sV t2] 30)) _ _ at Bw
    rw [hz] at Y Bw
    have B4 := B3.later Y
    have a0 := (B4 0 _ rfl).1
    have a1 := (B4 1 _ rfl).1
    have a2 := (B4 2 _ rfl).1
    have a3 := (B4 3 _ rfl).1
    have a4 := (B4 4 _ rfl).1
    go_wp2_with fail
    clear a0 a1 a2 a3 a4 hz
    refine (toValue k n d x t wz).mono ?_
    rintro e w4 ⟨rfl, e4⟩
    have X4 := xt (xt X3 Y) e4
    go_wp2_with fail
    refine (textOfI k n d x t _ hl2 d1 d2 (hT.later X4) (hE.later X4) (hI.later X4)).mono ?_
    rintro e w5 ⟨rfl, e5⟩
    rw [HV.out]
    have X5 := xt X4 e5
    obtain ⟨wu, hu⟩ : ∃ wu, w5.alloc (.cells #[.int .i64 k2, .bool n2, .int .i64 d2', .int .i64 x2, sV t2] 30) = wu := ⟨_, rfl⟩
    have Y2 := x1 w5 (.cells #[.int .i64 k2, .bool n2, .int .i64 d2', .int .i64 x2, sV t2] 30)
    have Bg := vec_made w5 (valL k2 n2 d2' x2 t2) 30
    change Vec (w5.alloc (.cells #[.int .i64 k2, .bool n2, .int .i64 d2', .int .i64 x2, sV t2] 30)) _ _ at Bg
    rw [hu] at Y2 Bg
    have Bv := ((Bw.later e4).later e5).later Y2
    have X6 := xt X5 Y2
    have a0 := (Bg 0 _ rfl).1
    have a1 := (Bg 1 _ rfl).1
    have a2 := (Bg 2 _ rfl).1
    have a3 := (Bg 3 _ rfl).1
    have a4 := (Bg 4 _ rfl).1
    have b0 := (Bv 0 _ rfl).1
    have b1 := (Bv 1 _ rfl).1
    have b2 := (Bv 2 _ rfl).1
    have b3 := (Bv 3 _ rfl).1
    have b4 := (Bv 4 _ rfl).1
    clear B B1 B3 B4 Bw Bg Bv hT hE e1 e2 e3 e4 e5 HV Y Y2
    go_wp2_with fail
    refine (eqValue_same k2 n2 d2' x2 t2 _).mono ?_
    rintro e w6 ⟨rfl, e6⟩
    go_wp2_with fail
    go_ret
    exact ⟨rfl, xt X6 e6⟩

end Go.Proofs.YtchpieciifhplaaDoor
