/-
  Chapter 6: NumberOf, on both sides; the law.
-/
import Derived.Test.YtkadkfmidlhedaaGreatDoorMg1
import Derived.Test.YtkadkfmidlhedaaGreatDoorReN
namespace Go.Proofs.YtkadkfmidlhedaaGreatDoor
open Go.RowKit

/-- The number that a value is. -/
def numR (r : DR) : Value := if r.ok then valV 1 r.neg r.d r.e [] else errW
def numOf (k : Int) (n : Bool) (d x : Int) (t : List UInt8) : Value :=
  if k = 0 then valV 1 false 0 0 [] else if k = 2 then numR (readR (trimB t)) else
  if k = 3 then (if t == trueT then valV 1 false 1 0 [] else valV 1 false 0 0 []) else valV k n d x t
def numOfV (k : Int) (n : Bool) (d x : Int) (t : List UInt8) : Value := if goodV k n d x t then numOf k n d x t else errW
theorem numR_val (r : DR) : ∃ k2 n2 d2 x2 t2, numR r = valV k2 n2 d2 x2 t2 := by
  unfold numR
  split
  · exact ⟨_, _, _, _, _, rfl⟩
  · exact ⟨_, _, _, _, _, rfl⟩
theorem numOf_val (k : Int) (n : Bool) (d x : Int) (t : List UInt8) : ∃ k2 n2 d2 x2 t2, numOf k n d x t = valV k2 n2 d2 x2 t2 := by
  unfold numOf
  split
  · exact ⟨_, _, _, _, _, rfl⟩
  · split
    · exact numR_val _
    · split
      · split
        · exact ⟨_, _, _, _, _, rfl⟩
        · exact ⟨_, _, _, _, _, rfl⟩
      · exact ⟨_, _, _, _, _, rfl⟩
theorem trimI (l : List UInt8) (w : World) (hl : l.length ≤ 2000000) :
    Calls Tryz.prog 143 #[sV l, .string ⟨#[32]⟩] w fun e w' => e = .returned (sV (trimB l)) ∧ Ext w w' := by
  have h := Any.strings_Trim_laid layTrim (by kernel_rfl) (bs l) ⟨#[32]⟩ w (by rw [bs_size]; omega) (by decide) (ascii_of_all (by decide))
  rw [fTrimD] at h
  rw [← trimS_blank]
  exact h
set_option maxHeartbeats 1000000 in
theorem oneS (w : World) : Calls Tryz.prog 162 #[] w fun e w' => e = .returned (decV false 1 0) ∧ Ext w w' := by
  go_enter Tryz.func162, Tryz.ntmps162
  go_wp2
  exact bodyPost_ret (v := decV false 1 0) (by simp [results, Tryz.results162, go_sem]) rfl ⟨rfl, x1 _ _⟩
set_option maxRecDepth 8000 in
set_option maxHeartbeats 2000000 in
theorem readVI (k : Int) (n : Bool) (d x : Int) (t : List UInt8) (w : World) (hl : t.length ≤ 1048576) (hT : Tens w) :
    Calls Tryz.prog 129 #[valV k n d x t] w fun e w' => e = .returned (numR (readR (trimB t))) ∧ Ext w w' := by
  obtain ⟨R, hR⟩ : ∃ R, numR (readR (trimB t)) = R := ⟨_, rfl⟩
  have HRN : Hid (numR (readR (trimB t)) = R) := hR
  rw [hR]
  clear hR
  have X1 := x1 w (.cells #[.int .i64 k, .bool n, .int .i64 d, .int .i64 x, sV t] 26)
  have B1 := vec_made w (valL k n d x t) 26
  obtain ⟨wa, ha⟩ : ∃ wa, w.alloc (.cells #[.int .i64 k, .bool n, .int .i64 d, .int .i64 x, sV t] 26) = wa := ⟨_, rfl⟩
  have B2 := vec_made wa (valL 0 false 0 0 []) 26
  have X2 := x1 wa (.cells #[.int .i64 0, .bool false, .int .i64 0, .int .i64 0, sV []] 26)
  obtain ⟨wb, hb⟩ : ∃ wb, wa.alloc (.cells #[.int .i64 0, .bool false, .int .i64 0, .int .i64 0, sV []] 26) = wb := ⟨_, rfl⟩
  have sa : wa.heap.size = w.heap.size + 1 := by rw [← ha, World.size_alloc]
  change Vec (w.alloc (.cells #[.int .i64 k, .bool n, .int .i64 d, .int .i64 x, sV t] 26)) _ _ at B1
  change Vec (wa.alloc (.cells #[.int .i64 0, .bool false, .int .i64 0, .int .i64 0, sV []] 26)) _ _ at B2
  rw [ha] at X1 B1
  rw [hb] at X2 B2
  rw [sa] at B2
  have X := xt X1 X2
  have B1 := B1.later X2
  clear X1 X2
  have a0 := (B1 0 _ rfl).1
  have a1 := (B1 1 _ rfl).1
  have a2 := (B1 2 _ rfl).1
  have a3 := (B1 3 _ rfl).1
  have a4 := (B1 4 _ rfl).1
  go_enter Tryz.func129, Tryz.ntmps129
  go_wp2_with fail
  clear ha hb sa a0 a1 a2 a3 a4
  refine (trimI t wb (by omega)).mono ?_
  rintro e w1 ⟨rfl, e1⟩
  have hlt := trimB_le t
  obtain ⟨u, hu⟩ : ∃ u, trimB t = u := ⟨_, rfl⟩
  rw [hu] at HRN hlt ⊢
  clear hu
  go_wp2_with fail
  refine (readI u w1 (by omega) (hT.later (xt X e1))).mono ?_
  rintro e w2 ⟨rfl, e2⟩
  have C2 := (B2.later e1).later e2
  have X2 := xt (xt X e1) e2
  clear B1 B2 e1 e2 hT hlt hl
  obtain ⟨ok, rn, rd, re, hq⟩ : ∃ ok rn rd re, readR u = (⟨ok, rn, rd, re⟩ : DR) := ⟨_, _, _, _, rfl⟩
  have HRR : Hid (numR ⟨ok, rn, rd, re⟩ = R) := by show _ = _; rw [← hq]; exact HRN.out
  rw [hq]
  clear hq HRN
  have Y0 := x1 w2 (.cells #[.bool ok, .bool rn, .int .i64 rd, .int .i64 re] 79)
  obtain ⟨wz, hz⟩ : ∃ wz, w2.alloc (.cells #[.bool ok, .bool rn, .int .i64 rd, .int .i64 re] 79) = wz := ⟨_, rfl⟩
  have Br := vec_made w2 [.bool ok, .bool rn, .int .i64 rd, .int .i64 re] 79
  change Vec (w2.alloc (.cells #[.bool ok, .bool rn, .int .i64 rd, .int .i64 re] 79)) _ _ at Br
  rw [hz] at Y0 Br
  have r0 := (Br 0 _ rfl).1
  have r1 := (Br 1 _ rfl).1
  have r2 := (Br 2 _ rfl).1
  have r3 := (Br 3 _ rfl).1
  have D2 := (C2).later Y0
  have XD := xt (X2) Y0
  cases ok
  · have HR : Hid (errW = R) := HRR
    go_wp2_with fail
    clear r0 r1 r2 r3 hz Br
    refine (errVI errT wz).mono ?_
    rintro e w8 ⟨rfl, e8⟩
    have FV := D2.later e8
    have FG := FV.put5 (.int .i64 4) (.bool false) (.int .i64 0) (.int .i64 0) (sV errT)
    have FX := Ext.setL (b := w.heap.size + 1) (by omega) [.int .i64 4, .bool false, .int .i64 0, .int .i64 0, sV errT] 0 (xt XD e8)
    obtain ⟨wy, hy⟩ : ∃ wy, setL w8 (w.heap.size + 1) 0 [.int .i64 4, .bool false, .int .i64 0, .int .i64 0, sV errT] = wy := ⟨_, rfl⟩
    rw [hy] at FG FX
    have hy : (((((w8.setCell ⟨w.heap.size + 1, 0, none⟩ (.int .i64 4)).setCell ⟨w.heap.size + 1, 1, none⟩ (.bool false)).setCell ⟨w.heap.size + 1, 2, none⟩ (.int .i64 0)).setCell ⟨w.heap.size + 1, 3, none⟩ (.int .i64 0)).setCell ⟨w.heap.size + 1, 4, none⟩ (sV errT)) = wy := hy
    have b0 := (FV 0 _ rfl).1
    have b1 := (FV 1 _ rfl).1
    have b2 := (FV 2 _ rfl).1
    have b3 := (FV 3 _ rfl).1
    have b4 := (FV 4 _ rfl).1
    have fb0 := (FV 0 _ rfl).2
    have fb1 := (FV 1 _ rfl).2
    have fb2 := (FV 2 _ rfl).2
    have fb3 := (FV 3 _ rfl).2
    have fb4 := (FV 4 _ rfl).2
    have fd0 := (FG 0 _ rfl).1
    have fd1 := (FG 1 _ rfl).1
    have fd2 := (FG 2 _ rfl).1
    have fd3 := (FG 3 _ rfl).1
    have fd4 := (FG 4 _ rfl).1
    clear FV FG 
    go_wp2_with fail
    exact bodyPost_ret (v := errW) (by simp [results, Tryz.results129, go_sem, fd0, fd1, fd2, fd3, fd4]) rfl ⟨congrArg Ending.returned HR.out, FX⟩
  · have HR : Hid (valV 1 rn rd re [] = R) := HRR
    go_wp2_with fail
    clear r0 r1 r2 r3 hz Br
    refine (numVI rn rd re wz).mono ?_
    rintro e w8 ⟨rfl, e8⟩
    have FV := D2.later e8
    have FG := FV.put5 (.int .i64 1) (.bool rn) (.int .i64 rd) (.int .i64 re) (sV [])
    have FX := Ext.setL (b := w.heap.size + 1) (by omega) [.int .i64 1, .bool rn, .int .i64 rd, .int .i64 re, sV []] 0 (xt XD e8)
    obtain ⟨wy, hy⟩ : ∃ wy, setL w8 (w.heap.size + 1) 0 [.int .i64 1, .bool rn, .int .i64 rd, .int .i64 re, sV []] = wy := ⟨_, rfl⟩
    rw [hy] at FG FX
    have hy : (((((w8.setCell ⟨w.heap.size + 1, 0, none⟩ (.int .i64 1)).setCell ⟨w.heap.size + 1, 1, none⟩ (.bool rn)).setCell ⟨w.heap.size + 1, 2, none⟩ (.int .i64 rd)).setCell ⟨w.heap.size + 1, 3, none⟩ (.int .i64 re)).setCell ⟨w.heap.size + 1, 4, none⟩ (sV [])) = wy := hy
    have b0 := (FV 0 _ rfl).1
    have b1 := (FV 1 _ rfl).1
    have b2 := (FV 2 _ rfl).1
    have b3 := (FV 3 _ rfl).1
    have b4 := (FV 4 _ rfl).1
    have fb0 := (FV 0 _ rfl).2
    have fb1 := (FV 1 _ rfl).2
    have fb2 := (FV 2 _ rfl).2
    have fb3 := (FV 3 _ rfl).2
    have fb4 := (FV 4 _ rfl).2
    have fd0 := (FG 0 _ rfl).1
    have fd1 := (FG 1 _ rfl).1
    have fd2 := (FG 2 _ rfl).1
    have fd3 := (FG 3 _ rfl).1
    have fd4 := (FG 4 _ rfl).1
    clear FV FG 
    go_wp2_with fail
    exact bodyPost_ret (v := valV 1 rn rd re []) (by simp [results, Tryz.results129, go_sem, fd0, fd1, fd2, fd3, fd4]) rfl ⟨congrArg Ending.returned HR.out, FX⟩
set_option maxRecDepth 8000 in
set_option maxHeartbeats 2000000 in
theorem numOfI (k : Int) (n : Bool) (d x : Int) (t : List UInt8) (w : World) (hl : t.length ≤ 1048576) (d1 : -9223372036854775808 ≤ d) (d2 : d ≤ 9223372036854775807) (hT : Tens w) (hE : ErrTab w) :
    Calls Tryz.prog 89 #[valV k n d x t] w fun e w' => e = .returned (numOfV k n d x t) ∧ Ext w w' := by
  obtain ⟨R, hR⟩ : ∃ R, numOfV k n d x t = R := ⟨_, rfl⟩
  have HR0 : Hid (numOfV k n d x t = R) := hR
  rw [hR]
  clear hR
  have X1 := x1 w (.cells #[.int .i64 k, .bool n, .int .i64 d, .int .i64 x, sV t] 26)
  have B1 := vec_made w (valL k n d x t) 26
  obtain ⟨wa, ha⟩ : ∃ wa, w.alloc (.cells #[.int .i64 k, .bool n, .int .i64 d, .int .i64 x, sV t] 26) = wa := ⟨_, rfl⟩
  have B2 := vec_made wa (valL 0 false 0 0 []) 26
  have X2 := x1 wa (.cells #[.int .i64 0, .bool false, .int .i64 0, .int .i64 0, sV []] 26)
  obtain ⟨wb, hb⟩ : ∃ wb, wa.alloc (.cells #[.int .i64 0, .bool false, .int .i64 0, .int .i64 0, sV []] 26) = wb := ⟨_, rfl⟩
  have sa : wa.heap.size = w.heap.size + 1 := by rw [← ha, World.size_alloc]
  change Vec (w.alloc (.cells #[.int .i64 k, .bool n, .int .i64 d, .int .i64 x, sV t] 26)) _ _ at B1
  change Vec (wa.alloc (.cells #[.int .i64 0, .bool false, .int .i64 0, .int .i64 0, sV []] 26)) _ _ at B2
  rw [ha] at X1 B1
  rw [hb] at X2 B2
  rw [sa] at B2
  have X := xt X1 X2
  have B1 := B1.later X2
  clear X1 X2
  have a0 := (B1 0 _ rfl).1
  have a1 := (B1 1 _ rfl).1
  have a2 := (B1 2 _ rfl).1
  have a3 := (B1 3 _ rfl).1
  have a4 := (B1 4 _ rfl).1
  go_enter Tryz.func89, Tryz.ntmps89
  go_wp2_with fail
  clear ha hb sa a0 a1 a2 a3 a4
  refine (goodVI k n d x t wb (by omega) d1 d2 (hT.later X) (hE.later X)).mono ?_
  rintro e w1 ⟨rfl, e1⟩
  have C1 := B1.later e1
  have C2 := B2.later e1
  have X1 := xt X e1
  have T1 := hT.later X1
  clear B1 B2 hE hT d1 d2
  obtain ⟨g, hg⟩ : ∃ g, goodV k n d x t = g := ⟨_, rfl⟩
  rw [hg]
  cases g
  · have HR : Hid (errW = R) := by show _ = _; rw [← HR0.out]; simp [numOfV, hg]
    clear hg T1
    go_wp2_with fail
    refine (errVI errT _).mono ?_
    rintro e w2 ⟨rfl, e2⟩
    have FV := C2.later e2
    have FG := FV.put5 (.int .i64 4) (.bool false) (.int .i64 0) (.int .i64 0) (sV errT)
    have FX := Ext.setL (b := w.heap.size + 1) (by omega) [.int .i64 4, .bool false, .int .i64 0, .int .i64 0, sV errT] 0 (xt X1 e2)
    obtain ⟨wy, hy⟩ : ∃ wy, setL w2 (w.heap.size + 1) 0 [.int .i64 4, .bool false, .int .i64 0, .int .i64 0, sV errT] = wy := ⟨_, rfl⟩
    rw [hy] at FG FX
    have hy : (((((w2.setCell ⟨w.heap.size + 1, 0, none⟩ (.int .i64 4)).setCell ⟨w.heap.size + 1, 1, none⟩ (.bool false)).setCell ⟨w.heap.size + 1, 2, none⟩ (.int .i64 0)).setCell ⟨w.heap.size + 1, 3, none⟩ (.int .i64 0)).setCell ⟨w.heap.size + 1, 4, none⟩ (sV errT)) = wy := hy
    have b0 := (FV 0 _ rfl).1
    have b1 := (FV 1 _ rfl).1
    have b2 := (FV 2 _ rfl).1
    have b3 := (FV 3 _ rfl).1
    have b4 := (FV 4 _ rfl).1
    have fb0 := (FV 0 _ rfl).2
    have fb1 := (FV 1 _ rfl).2
    have fb2 := (FV 2 _ rfl).2
    have fb3 := (FV 3 _ rfl).2
    have fb4 := (FV 4 _ rfl).2
    have fd0 := (FG 0 _ rfl).1
    have fd1 := (FG 1 _ rfl).1
    have fd2 := (FG 2 _ rfl).1
    have fd3 := (FG 3 _ rfl).1
    have fd4 := (FG 4 _ rfl).1
    clear FV FG 
    go_wp2_with fail
    exact bodyPost_ret (v := errW) (by simp [results, Tryz.results89, go_sem, fd0, fd1, fd2, fd3, fd4]) rfl ⟨congrArg Ending.returned HR.out, FX⟩
  · have HR1 : Hid (numOf k n d x t = R) := by show _ = _; rw [← HR0.out]; simp [numOfV, hg]
    have a0 := (C1 0 _ rfl).1
    have a1 := (C1 1 _ rfl).1
    have a2 := (C1 2 _ rfl).1
    have a3 := (C1 3 _ rfl).1
    have a4 := (C1 4 _ rfl).1
    by_cases h0 : k = 0
    · subst h0
      have HR : Hid (valV 1 false 0 0 [] = R) := by show _ = _; rw [← HR1.out]; simp [numOf]
      clear hg T1
      go_wp2_with fail
      clear a0 a1 a2 a3 a4
      refine (numVI false 0 0 _).mono ?_
      rintro e w2 ⟨rfl, e2⟩
      have FV := C2.later e2
      have FG := FV.put5 (.int .i64 1) (.bool false) (.int .i64 0) (.int .i64 0) (sV [])
      have FX := Ext.setL (b := w.heap.size + 1) (by omega) [.int .i64 1, .bool false, .int .i64 0, .int .i64 0, sV []] 0 (xt X1 e2)
      obtain ⟨wy, hy⟩ : ∃ wy, setL w2 (w.heap.size + 1) 0 [.int .i64 1, .bool false, .int .i64 0, .int .i64 0, sV []] = wy := ⟨_, rfl⟩
      rw [hy] at FG FX
      have hy : (((((w2.setCell ⟨w.heap.size + 1, 0, none⟩ (.int .i64 1)).setCell ⟨w.heap.size + 1, 1, none⟩ (.bool false)).setCell ⟨w.heap.size + 1, 2, none⟩ (.int .i64 0)).setCell ⟨w.heap.size + 1, 3, none⟩ (.int .i64 0)).setCell ⟨w.heap.size + 1, 4, none⟩ (sV [])) = wy := hy
      have b0 := (FV 0 _ rfl).1
      have b1 := (FV 1 _ rfl).1
      have b2 := (FV 2 _ rfl).1
      have b3 := (FV 3 _ rfl).1
      have b4 := (FV 4 _ rfl).1
      have fb0 := (FV 0 _ rfl).2
      have fb1 := (FV 1 _ rfl).2
      have fb2 := (FV 2 _ rfl).2
      have fb3 := (FV 3 _ rfl).2
      have fb4 := (FV 4 _ rfl).2
      have fd0 := (FG 0 _ rfl).1
      have fd1 := (FG 1 _ rfl).1
      have fd2 := (FG 2 _ rfl).1
      have fd3 := (FG 3 _ rfl).1
      have fd4 := (FG 4 _ rfl).1
      clear FV FG 
      go_wp2_with fail
      exact bodyPost_ret (v := valV 1 false 0 0 []) (by simp [results, Tryz.results89, go_sem, fd0, fd1, fd2, fd3, fd4]) rfl ⟨congrArg Ending.returned HR.out, FX⟩
    · by_cases h2 : k = 2
      · subst h2
        clear hg
        have HR2 : Hid (numR (readR (trimB t)) = R) := by show _ = _; rw [← HR1.out]; simp [numOf]
        go_wp2_with fail
        clear a0 a1 a2 a3 a4
        refine (readVI 2 n d x t _ hl T1).mono ?_
        rintro e w2 ⟨rfl, e2⟩
        obtain ⟨k2, n2, d2, x2, t2, hv⟩ := numR_val (readR (trimB t))
        have HR : Hid (valV k2 n2 d2 x2 t2 = R) := by show _ = _; rw [← HR2.out, hv]
        rw [hv]
        clear hv T1
        have FV := C2.later e2
        have FG := FV.put5 (.int .i64 k2) (.bool n2) (.int .i64 d2) (.int .i64 x2) (sV t2)
        have FX := Ext.setL (b := w.heap.size + 1) (by omega) [.int .i64 k2, .bool n2, .int .i64 d2, .int .i64 x2, sV t2] 0 (xt X1 e2)
        obtain ⟨wy, hy⟩ : ∃ wy, setL w2 (w.heap.size + 1) 0 [.int .i64 k2, .bool n2, .int .i64 d2, .int .i64 x2, sV t2] = wy := ⟨_, rfl⟩
        rw [hy] at FG FX
        have hy : (((((w2.setCell ⟨w.heap.size + 1, 0, none⟩ (.int .i64 k2)).setCell ⟨w.heap.size + 1, 1, none⟩ (.bool n2)).setCell ⟨w.heap.size + 1, 2, none⟩ (.int .i64 d2)).setCell ⟨w.heap.size + 1, 3, none⟩ (.int .i64 x2)).setCell ⟨w.heap.size + 1, 4, none⟩ (sV t2)) = wy := hy
        have b0 := (FV 0 _ rfl).1
        have b1 := (FV 1 _ rfl).1
        have b2 := (FV 2 _ rfl).1
        have b3 := (FV 3 _ rfl).1
        have b4 := (FV 4 _ rfl).1
        have fb0 := (FV 0 _ rfl).2
        have fb1 := (FV 1 _ rfl).2
        have fb2 := (FV 2 _ rfl).2
        have fb3 := (FV 3 _ rfl).2
        have fb4 := (FV 4 _ rfl).2
        have fd0 := (FG 0 _ rfl).1
        have fd1 := (FG 1 _ rfl).1
        have fd2 := (FG 2 _ rfl).1
        have fd3 := (FG 3 _ rfl).1
        have fd4 := (FG 4 _ rfl).1
        clear FV FG 
        go_wp2_with fail
        exact bodyPost_ret (v := valV k2 n2 d2 x2 t2) (by simp [results, Tryz.results89, go_sem, fd0, fd1, fd2, fd3, fd4]) rfl ⟨congrArg Ending.returned HR.out, FX⟩
      · by_cases h3 : k = 3
        · subst h3
          obtain ⟨rfl, rfl, rfl⟩ := goodV_zero hg (by decide)
          clear hg T1 h0 h2
          obtain ⟨p, hp⟩ : ∃ p, (t == trueT) = p := ⟨_, rfl⟩
          have HR2 : Hid ((if p then valV 1 false 1 0 [] else valV 1 false 0 0 []) = R) := by show _ = _; rw [← HR1.out]; simp [numOf, hp]
          cases p
          · have HR : Hid (valV 1 false 0 0 [] = R) := by show _ = _; rw [← HR2.out]; rfl
            go_wp2_with fail
            go_region_with (go_at_call 50; refine (boolVI true _).mono ?_; rintro e w2 ⟨rfl, e2⟩; have C3 := C1.later (xt (xd (xr _)) e2); have c0 := (C3 0 _ rfl).1; have c1 := (C3 1 _ rfl).1; have c2 := (C3 2 _ rfl).1; have c3 := (C3 3 _ rfl).1; have c4 := (C3 4 _ rfl).1)
            all_goals
              go_wp2_with fail
              clear hp
              refine (numVI false 0 0 _).mono ?_
              rintro e w3 ⟨rfl, e3⟩
              have FV := (C2.later (xt (xd (xr _)) e2)).later e3
              have FG := FV.put5 (.int .i64 1) (.bool false) (.int .i64 0) (.int .i64 0) (sV [])
              have FX := Ext.setL (b := w.heap.size + 1) (by omega) [.int .i64 1, .bool false, .int .i64 0, .int .i64 0, sV []] 0 (xt (xt X1 (xt (xd (xr _)) e2)) e3)
              obtain ⟨wy, hy⟩ : ∃ wy, setL w3 (w.heap.size + 1) 0 [.int .i64 1, .bool false, .int .i64 0, .int .i64 0, sV []] = wy := ⟨_, rfl⟩
              rw [hy] at FG FX
              have hy : (((((w3.setCell ⟨w.heap.size + 1, 0, none⟩ (.int .i64 1)).setCell ⟨w.heap.size + 1, 1, none⟩ (.bool false)).setCell ⟨w.heap.size + 1, 2, none⟩ (.int .i64 0)).setCell ⟨w.heap.size + 1, 3, none⟩ (.int .i64 0)).setCell ⟨w.heap.size + 1, 4, none⟩ (sV [])) = wy := hy
              have b0 := (FV 0 _ rfl).1
              have b1 := (FV 1 _ rfl).1
              have b2 := (FV 2 _ rfl).1
              have b3 := (FV 3 _ rfl).1
              have b4 := (FV 4 _ rfl).1
              have fb0 := (FV 0 _ rfl).2
              have fb1 := (FV 1 _ rfl).2
              have fb2 := (FV 2 _ rfl).2
              have fb3 := (FV 3 _ rfl).2
              have fb4 := (FV 4 _ rfl).2
              have fd0 := (FG 0 _ rfl).1
              have fd1 := (FG 1 _ rfl).1
              have fd2 := (FG 2 _ rfl).1
              have fd3 := (FG 3 _ rfl).1
              have fd4 := (FG 4 _ rfl).1
              clear FV FG 
              go_wp2_with fail
              exact bodyPost_ret (v := valV 1 false 0 0 []) (by simp [results, Tryz.results89, go_sem, fd0, fd1, fd2, fd3, fd4]) rfl ⟨congrArg Ending.returned HR.out, FX⟩
          · have HR : Hid (valV 1 false 1 0 [] = R) := by show _ = _; rw [← HR2.out]; rfl
            go_wp2_with fail
            go_region_with (go_at_call 50; refine (boolVI true _).mono ?_; rintro e w2 ⟨rfl, e2⟩; have C3 := C1.later (xt (xd (xr _)) e2); have c0 := (C3 0 _ rfl).1; have c1 := (C3 1 _ rfl).1; have c2 := (C3 2 _ rfl).1; have c3 := (C3 3 _ rfl).1; have c4 := (C3 4 _ rfl).1)
            all_goals
              go_wp2_with fail
              clear hp
              refine (numVI false 1 0 _).mono ?_
              rintro e w3 ⟨rfl, e3⟩
              have FV := (C2.later (xt (xd (xr _)) e2)).later e3
              have FG := FV.put5 (.int .i64 1) (.bool false) (.int .i64 1) (.int .i64 0) (sV [])
              have FX := Ext.setL (b := w.heap.size + 1) (by omega) [.int .i64 1, .bool false, .int .i64 1, .int .i64 0, sV []] 0 (xt (xt X1 (xt (xd (xr _)) e2)) e3)
              obtain ⟨wy, hy⟩ : ∃ wy, setL w3 (w.heap.size + 1) 0 [.int .i64 1, .bool false, .int .i64 1, .int .i64 0, sV []] = wy := ⟨_, rfl⟩
              rw [hy] at FG FX
              have hy : (((((w3.setCell ⟨w.heap.size + 1, 0, none⟩ (.int .i64 1)).setCell ⟨w.heap.size + 1, 1, none⟩ (.bool false)).setCell ⟨w.heap.size + 1, 2, none⟩ (.int .i64 1)).setCell ⟨w.heap.size + 1, 3, none⟩ (.int .i64 0)).setCell ⟨w.heap.size + 1, 4, none⟩ (sV [])) = wy := hy
              have b0 := (FV 0 _ rfl).1
              have b1 := (FV 1 _ rfl).1
              have b2 := (FV 2 _ rfl).1
              have b3 := (FV 3 _ rfl).1
              have b4 := (FV 4 _ rfl).1
              have fb0 := (FV 0 _ rfl).2
              have fb1 := (FV 1 _ rfl).2
              have fb2 := (FV 2 _ rfl).2
              have fb3 := (FV 3 _ rfl).2
              have fb4 := (FV 4 _ rfl).2
              have fd0 := (FG 0 _ rfl).1
              have fd1 := (FG 1 _ rfl).1
              have fd2 := (FG 2 _ rfl).1
              have fd3 := (FG 3 _ rfl).1
              have fd4 := (FG 4 _ rfl).1
              clear FV FG 
              go_wp2_with fail
              exact bodyPost_ret (v := valV 1 false 1 0 []) (by simp [results, Tryz.results89, go_sem, fd0, fd1, fd2, fd3, fd4]) rfl ⟨congrArg Ending.returned HR.out, FX⟩
        · have HR : Hid (valV k n d x t = R) := by show _ = _; rw [← HR1.out]; simp [numOf, h0, h2, h3]
          have FV := C2
          have FG := FV.put5 (.int .i64 k) (.bool n) (.int .i64 d) (.int .i64 x) (sV t)
          have FX := Ext.setL (b := w.heap.size + 1) (by omega) [.int .i64 k, .bool n, .int .i64 d, .int .i64 x, sV t] 0 (X1)
          obtain ⟨wy, hy⟩ : ∃ wy, setL w1 (w.heap.size + 1) 0 [.int .i64 k, .bool n, .int .i64 d, .int .i64 x, sV t] = wy := ⟨_, rfl⟩
          rw [hy] at FG FX
          have hy : (((((w1.setCell ⟨w.heap.size + 1, 0, none⟩ (.int .i64 k)).setCell ⟨w.heap.size + 1, 1, none⟩ (.bool n)).setCell ⟨w.heap.size + 1, 2, none⟩ (.int .i64 d)).setCell ⟨w.heap.size + 1, 3, none⟩ (.int .i64 x)).setCell ⟨w.heap.size + 1, 4, none⟩ (sV t)) = wy := hy
          have b0 := (FV 0 _ rfl).1
          have b1 := (FV 1 _ rfl).1
          have b2 := (FV 2 _ rfl).1
          have b3 := (FV 3 _ rfl).1
          have b4 := (FV 4 _ rfl).1
          have fb0 := (FV 0 _ rfl).2
          have fb1 := (FV 1 _ rfl).2
          have fb2 := (FV 2 _ rfl).2
          have fb3 := (FV 3 _ rfl).2
          have fb4 := (FV 4 _ rfl).2
          have fd0 := (FG 0 _ rfl).1
          have fd1 := (FG 1 _ rfl).1
          have fd2 := (FG 2 _ rfl).1
          have fd3 := (FG 3 _ rfl).1
          have fd4 := (FG 4 _ rfl).1
          clear FV FG 
          go_wp2_with fail
          exact bodyPost_ret (v := valV k n d x t) (by simp [results, Tryz.results89, go_sem, fd0, fd1, fd2, fd3, fd4]) rfl ⟨congrArg Ending.returned HR.out, FX⟩
set_option maxRecDepth 8000 in
set_option maxHeartbeats 2000000 in
theorem asNumS (k : Int) (n : Bool) (d x : Int) (t : List UInt8) (w : World) (hl : t.length ≤ 1048576) :
    Calls Tryz.prog 120 #[valV k n d x t] w fun e w' => e = .returned (numOf k n d x t) ∧ Ext w w' := by
  obtain ⟨R, hR⟩ : ∃ R, numOf k n d x t = R := ⟨_, rfl⟩
  have HR0 : Hid (numOf k n d x t = R) := hR
  rw [hR]
  clear hR
  have X1 := x1 w (.cells #[.int .i64 k, .bool n, .int .i64 d, .int .i64 x, sV t] 26)
  have B1 := vec_made w (valL k n d x t) 26
  obtain ⟨wa, ha⟩ : ∃ wa, w.alloc (.cells #[.int .i64 k, .bool n, .int .i64 d, .int .i64 x, sV t] 26) = wa := ⟨_, rfl⟩
  have B2 := vec_made wa (valL 0 false 0 0 []) 26
  have X2 := x1 wa (.cells #[.int .i64 0, .bool false, .int .i64 0, .int .i64 0, sV []] 26)
  obtain ⟨wb, hb⟩ : ∃ wb, wa.alloc (.cells #[.int .i64 0, .bool false, .int .i64 0, .int .i64 0, sV []] 26) = wb := ⟨_, rfl⟩
  have sa : wa.heap.size = w.heap.size + 1 := by rw [← ha, World.size_alloc]
  change Vec (w.alloc (.cells #[.int .i64 k, .bool n, .int .i64 d, .int .i64 x, sV t] 26)) _ _ at B1
  change Vec (wa.alloc (.cells #[.int .i64 0, .bool false, .int .i64 0, .int .i64 0, sV []] 26)) _ _ at B2
  rw [ha] at X1 B1
  rw [hb] at X2 B2
  rw [sa] at B2
  have X := xt X1 X2
  have B1 := B1.later X2
  clear X1 X2
  have a0 := (B1 0 _ rfl).1
  have a1 := (B1 1 _ rfl).1
  have a2 := (B1 2 _ rfl).1
  have a3 := (B1 3 _ rfl).1
  have a4 := (B1 4 _ rfl).1
  go_enter Tryz.func120, Tryz.ntmps120
  by_cases h0 : k = 0
  · subst h0
    have HR : Hid (valV 1 false 0 0 [] = R) := by show _ = _; rw [← HR0.out]; simp [numOf]
    go_wp2_with fail
    clear ha hb sa a0 a1 a2 a3 a4
    refine (numVS false 0 0 wb).mono ?_
    rintro e w2 ⟨rfl, e2⟩
    have FV := B2.later e2
    have FG := FV.put5 (.int .i64 1) (.bool false) (.int .i64 0) (.int .i64 0) (sV [])
    have FX := Ext.setL (b := w.heap.size + 1) (by omega) [.int .i64 1, .bool false, .int .i64 0, .int .i64 0, sV []] 0 (xt X e2)
    obtain ⟨wy, hy⟩ : ∃ wy, setL w2 (w.heap.size + 1) 0 [.int .i64 1, .bool false, .int .i64 0, .int .i64 0, sV []] = wy := ⟨_, rfl⟩
    rw [hy] at FG FX
    have hy : (((((w2.setCell ⟨w.heap.size + 1, 0, none⟩ (.int .i64 1)).setCell ⟨w.heap.size + 1, 1, none⟩ (.bool false)).setCell ⟨w.heap.size + 1, 2, none⟩ (.int .i64 0)).setCell ⟨w.heap.size + 1, 3, none⟩ (.int .i64 0)).setCell ⟨w.heap.size + 1, 4, none⟩ (sV [])) = wy := hy
    have b0 := (FV 0 _ rfl).1
    have b1 := (FV 1 _ rfl).1
    have b2 := (FV 2 _ rfl).1
    have b3 := (FV 3 _ rfl).1
    have b4 := (FV 4 _ rfl).1
    have fb0 := (FV 0 _ rfl).2
    have fb1 := (FV 1 _ rfl).2
    have fb2 := (FV 2 _ rfl).2
    have fb3 := (FV 3 _ rfl).2
    have fb4 := (FV 4 _ rfl).2
    have fd0 := (FG 0 _ rfl).1
    have fd1 := (FG 1 _ rfl).1
    have fd2 := (FG 2 _ rfl).1
    have fd3 := (FG 3 _ rfl).1
    have fd4 := (FG 4 _ rfl).1
    clear FV FG 
    go_wp2_with fail
    exact bodyPost_ret (v := valV 1 false 0 0 []) (by simp [results, Tryz.results120, go_sem, fd0, fd1, fd2, fd3, fd4]) rfl ⟨congrArg Ending.returned HR.out, FX⟩
  · by_cases h3 : k = 3
    · subst h3
      obtain ⟨p, hp⟩ : ∃ p, (t == [84, 82, 85, 69]) = p := ⟨_, rfl⟩
      have HR2 : Hid ((if p then valV 1 false 1 0 [] else valV 1 false 0 0 []) = R) := by show _ = _; rw [← HR0.out]; simp [numOf, hp]
      cases p
      · have HR : Hid (valV 1 false 0 0 [] = R) := by show _ = _; rw [← HR2.out]; rfl
        go_wp2_with fail
        clear ha hb sa a0 a1 a2 a3 a4 hp
        refine (numVS false 0 0 wb).mono ?_
        rintro e w2 ⟨rfl, e2⟩
        have FV := B2.later e2
        have FG := FV.put5 (.int .i64 1) (.bool false) (.int .i64 0) (.int .i64 0) (sV [])
        have FX := Ext.setL (b := w.heap.size + 1) (by omega) [.int .i64 1, .bool false, .int .i64 0, .int .i64 0, sV []] 0 (xt X e2)
        obtain ⟨wy, hy⟩ : ∃ wy, setL w2 (w.heap.size + 1) 0 [.int .i64 1, .bool false, .int .i64 0, .int .i64 0, sV []] = wy := ⟨_, rfl⟩
        rw [hy] at FG FX
        have hy : (((((w2.setCell ⟨w.heap.size + 1, 0, none⟩ (.int .i64 1)).setCell ⟨w.heap.size + 1, 1, none⟩ (.bool false)).setCell ⟨w.heap.size + 1, 2, none⟩ (.int .i64 0)).setCell ⟨w.heap.size + 1, 3, none⟩ (.int .i64 0)).setCell ⟨w.heap.size + 1, 4, none⟩ (sV [])) = wy := hy
        have b0 := (FV 0 _ rfl).1
        have b1 := (FV 1 _ rfl).1
        have b2 := (FV 2 _ rfl).1
        have b3 := (FV 3 _ rfl).1
        have b4 := (FV 4 _ rfl).1
        have fb0 := (FV 0 _ rfl).2
        have fb1 := (FV 1 _ rfl).2
        have fb2 := (FV 2 _ rfl).2
        have fb3 := (FV 3 _ rfl).2
        have fb4 := (FV 4 _ rfl).2
        have fd0 := (FG 0 _ rfl).1
        have fd1 := (FG 1 _ rfl).1
        have fd2 := (FG 2 _ rfl).1
        have fd3 := (FG 3 _ rfl).1
        have fd4 := (FG 4 _ rfl).1
        clear FV FG 
        go_wp2_with fail
        exact bodyPost_ret (v := valV 1 false 0 0 []) (by simp [results, Tryz.results120, go_sem, fd0, fd1, fd2, fd3, fd4]) rfl ⟨congrArg Ending.returned HR.out, FX⟩
      · have HR : Hid (valV 1 false 1 0 [] = R) := by show _ = _; rw [← HR2.out]; rfl
        go_wp2_with fail
        clear ha hb sa a0 a1 a2 a3 a4 hp
        refine (oneS wb).mono ?_
        rintro e w2 ⟨rfl, e2⟩
        go_wp2_with fail
        refine (numVS false 1 0 w2).mono ?_
        rintro e w3 ⟨rfl, e3⟩
        have FV := (B2.later e2).later e3
        have FG := FV.put5 (.int .i64 1) (.bool false) (.int .i64 1) (.int .i64 0) (sV [])
        have FX := Ext.setL (b := w.heap.size + 1) (by omega) [.int .i64 1, .bool false, .int .i64 1, .int .i64 0, sV []] 0 (xt (xt X e2) e3)
        obtain ⟨wy, hy⟩ : ∃ wy, setL w3 (w.heap.size + 1) 0 [.int .i64 1, .bool false, .int .i64 1, .int .i64 0, sV []] = wy := ⟨_, rfl⟩
        rw [hy] at FG FX
        have hy : (((((w3.setCell ⟨w.heap.size + 1, 0, none⟩ (.int .i64 1)).setCell ⟨w.heap.size + 1, 1, none⟩ (.bool false)).setCell ⟨w.heap.size + 1, 2, none⟩ (.int .i64 1)).setCell ⟨w.heap.size + 1, 3, none⟩ (.int .i64 0)).setCell ⟨w.heap.size + 1, 4, none⟩ (sV [])) = wy := hy
        have b0 := (FV 0 _ rfl).1
        have b1 := (FV 1 _ rfl).1
        have b2 := (FV 2 _ rfl).1
        have b3 := (FV 3 _ rfl).1
        have b4 := (FV 4 _ rfl).1
        have fb0 := (FV 0 _ rfl).2
        have fb1 := (FV 1 _ rfl).2
        have fb2 := (FV 2 _ rfl).2
        have fb3 := (FV 3 _ rfl).2
        have fb4 := (FV 4 _ rfl).2
        have fd0 := (FG 0 _ rfl).1
        have fd1 := (FG 1 _ rfl).1
        have fd2 := (FG 2 _ rfl).1
        have fd3 := (FG 3 _ rfl).1
        have fd4 := (FG 4 _ rfl).1
        clear FV FG 
        go_wp2_with fail
        exact bodyPost_ret (v := valV 1 false 1 0 []) (by simp [results, Tryz.results120, go_sem, fd0, fd1, fd2, fd3, fd4]) rfl ⟨congrArg Ending.returned HR.out, FX⟩
    · by_cases h2 : k = 2
      · subst h2
        have HRN : Hid (numR (readR (trimB t)) = R) := by show _ = _; rw [← HR0.out]; simp [numOf]
        go_wp2_with fail
        clear ha hb sa a0 a1 a2 a3 a4
        refine (trimSp t wb (by omega)).mono ?_
        rintro e w9 ⟨rfl, rfl⟩
        have hlt := trimB_le t
        obtain ⟨u, hu⟩ : ∃ u, trimB t = u := ⟨_, rfl⟩
        rw [hu] at HRN hlt ⊢
        clear hu
        go_wp2_with fail
        refine (readS u w9 (by omega)).mono ?_
        rintro e w2 ⟨rfl, e2⟩
        have C2 := B2.later e2
        have X2 := xt X e2
        clear B1 B2 e2 hlt hl h0 h3 HR0
        obtain ⟨ok, rn, rd, re, hq⟩ : ∃ ok rn rd re, readR u = (⟨ok, rn, rd, re⟩ : DR) := ⟨_, _, _, _, rfl⟩
        have HRR : Hid (numR ⟨ok, rn, rd, re⟩ = R) := by show _ = _; rw [← hq]; exact HRN.out
        rw [hq]
        clear hq HRN
        have Y0 := x1 w2 (.cells #[.bool ok, .bool rn, .int .i64 rd, .int .i64 re] 79)
        obtain ⟨wz, hz⟩ : ∃ wz, w2.alloc (.cells #[.bool ok, .bool rn, .int .i64 rd, .int .i64 re] 79) = wz := ⟨_, rfl⟩
        have Br := vec_made w2 [.bool ok, .bool rn, .int .i64 rd, .int .i64 re] 79
        change Vec (w2.alloc (.cells #[.bool ok, .bool rn, .int .i64 rd, .int .i64 re] 79)) _ _ at Br
        rw [hz] at Y0 Br
        have r0 := (Br 0 _ rfl).1
        have r1 := (Br 1 _ rfl).1
        have r2 := (Br 2 _ rfl).1
        have r3 := (Br 3 _ rfl).1
        have D2 := (C2).later Y0
        have XD := xt (X2) Y0
        cases ok
        · have HR : Hid (errW = R) := HRR
          go_wp2_with fail
          clear r0 r1 r2 r3 hz Br
          refine (errVS errT wz).mono ?_
          rintro e w8 ⟨rfl, e8⟩
          have FV := D2.later e8
          have FG := FV.put5 (.int .i64 4) (.bool false) (.int .i64 0) (.int .i64 0) (sV errT)
          have FX := Ext.setL (b := w.heap.size + 1) (by omega) [.int .i64 4, .bool false, .int .i64 0, .int .i64 0, sV errT] 0 (xt XD e8)
          obtain ⟨wy, hy⟩ : ∃ wy, setL w8 (w.heap.size + 1) 0 [.int .i64 4, .bool false, .int .i64 0, .int .i64 0, sV errT] = wy := ⟨_, rfl⟩
          rw [hy] at FG FX
          have hy : (((((w8.setCell ⟨w.heap.size + 1, 0, none⟩ (.int .i64 4)).setCell ⟨w.heap.size + 1, 1, none⟩ (.bool false)).setCell ⟨w.heap.size + 1, 2, none⟩ (.int .i64 0)).setCell ⟨w.heap.size + 1, 3, none⟩ (.int .i64 0)).setCell ⟨w.heap.size + 1, 4, none⟩ (sV errT)) = wy := hy
          have b0 := (FV 0 _ rfl).1
          have b1 := (FV 1 _ rfl).1
          have b2 := (FV 2 _ rfl).1
          have b3 := (FV 3 _ rfl).1
          have b4 := (FV 4 _ rfl).1
          have fb0 := (FV 0 _ rfl).2
          have fb1 := (FV 1 _ rfl).2
          have fb2 := (FV 2 _ rfl).2
          have fb3 := (FV 3 _ rfl).2
          have fb4 := (FV 4 _ rfl).2
          have fd0 := (FG 0 _ rfl).1
          have fd1 := (FG 1 _ rfl).1
          have fd2 := (FG 2 _ rfl).1
          have fd3 := (FG 3 _ rfl).1
          have fd4 := (FG 4 _ rfl).1
          clear FV FG 
          go_wp2_with fail
          exact bodyPost_ret (v := errW) (by simp [results, Tryz.results120, go_sem, fd0, fd1, fd2, fd3, fd4]) rfl ⟨congrArg Ending.returned HR.out, FX⟩
        · have HR : Hid (valV 1 rn rd re [] = R) := HRR
          go_wp2_with fail
          clear r0 r1 r2 r3 hz Br
          refine (numVS rn rd re wz).mono ?_
          rintro e w8 ⟨rfl, e8⟩
          have FV := D2.later e8
          have FG := FV.put5 (.int .i64 1) (.bool rn) (.int .i64 rd) (.int .i64 re) (sV [])
          have FX := Ext.setL (b := w.heap.size + 1) (by omega) [.int .i64 1, .bool rn, .int .i64 rd, .int .i64 re, sV []] 0 (xt XD e8)
          obtain ⟨wy, hy⟩ : ∃ wy, setL w8 (w.heap.size + 1) 0 [.int .i64 1, .bool rn, .int .i64 rd, .int .i64 re, sV []] = wy := ⟨_, rfl⟩
          rw [hy] at FG FX
          have hy : (((((w8.setCell ⟨w.heap.size + 1, 0, none⟩ (.int .i64 1)).setCell ⟨w.heap.size + 1, 1, none⟩ (.bool rn)).setCell ⟨w.heap.size + 1, 2, none⟩ (.int .i64 rd)).setCell ⟨w.heap.size + 1, 3, none⟩ (.int .i64 re)).setCell ⟨w.heap.size + 1, 4, none⟩ (sV [])) = wy := hy
          have b0 := (FV 0 _ rfl).1
          have b1 := (FV 1 _ rfl).1
          have b2 := (FV 2 _ rfl).1
          have b3 := (FV 3 _ rfl).1
          have b4 := (FV 4 _ rfl).1
          have fb0 := (FV 0 _ rfl).2
          have fb1 := (FV 1 _ rfl).2
          have fb2 := (FV 2 _ rfl).2
          have fb3 := (FV 3 _ rfl).2
          have fb4 := (FV 4 _ rfl).2
          have fd0 := (FG 0 _ rfl).1
          have fd1 := (FG 1 _ rfl).1
          have fd2 := (FG 2 _ rfl).1
          have fd3 := (FG 3 _ rfl).1
          have fd4 := (FG 4 _ rfl).1
          clear FV FG 
          go_wp2_with fail
          exact bodyPost_ret (v := valV 1 rn rd re []) (by simp [results, Tryz.results120, go_sem, fd0, fd1, fd2, fd3, fd4]) rfl ⟨congrArg Ending.returned HR.out, FX⟩
      · have HR : Hid (valV k n d x t = R) := by show _ = _; rw [← HR0.out]; simp [numOf, h0, h2, h3]
        have FV := B2
        have FG := FV.put5 (.int .i64 k) (.bool n) (.int .i64 d) (.int .i64 x) (sV t)
        have FX := Ext.setL (b := w.heap.size + 1) (by omega) [.int .i64 k, .bool n, .int .i64 d, .int .i64 x, sV t] 0 (X)
        obtain ⟨wy, hy⟩ : ∃ wy, setL wb (w.heap.size + 1) 0 [.int .i64 k, .bool n, .int .i64 d, .int .i64 x, sV t] = wy := ⟨_, rfl⟩
        rw [hy] at FG FX
        have hy : (((((wb.setCell ⟨w.heap.size + 1, 0, none⟩ (.int .i64 k)).setCell ⟨w.heap.size + 1, 1, none⟩ (.bool n)).setCell ⟨w.heap.size + 1, 2, none⟩ (.int .i64 d)).setCell ⟨w.heap.size + 1, 3, none⟩ (.int .i64 x)).setCell ⟨w.heap.size + 1, 4, none⟩ (sV t)) = wy := hy
        have b0 := (FV 0 _ rfl).1
        have b1 := (FV 1 _ rfl).1
        have b2 := (FV 2 _ rfl).1
        have b3 := (FV 3 _ rfl).1
        have b4 := (FV 4 _ rfl).1
        have fb0 := (FV 0 _ rfl).2
        have fb1 := (FV 1 _ rfl).2
        have fb2 := (FV 2 _ rfl).2
        have fb3 := (FV 3 _ rfl).2
        have fb4 := (FV 4 _ rfl).2
        have fd0 := (FG 0 _ rfl).1
        have fd1 := (FG 1 _ rfl).1
        have fd2 := (FG 2 _ rfl).1
        have fd3 := (FG 3 _ rfl).1
        have fd4 := (FG 4 _ rfl).1
        clear FV FG 
        go_wp2_with fail
        exact bodyPost_ret (v := valV k n d x t) (by simp [results, Tryz.results120, go_sem, fd0, fd1, fd2, fd3, fd4]) rfl ⟨congrArg Ending.returned HR.out, FX⟩

end Go.Proofs.YtkadkfmidlhedaaGreatDoor

