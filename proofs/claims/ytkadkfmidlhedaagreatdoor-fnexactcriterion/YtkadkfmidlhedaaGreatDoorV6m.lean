/-
  Chapter 6: TypedValue, on both sides; the law.
-/
import Derived.Test.YtkadkfmidlhedaaGreatDoorV6k
import Derived.Test.YtkadkfmidlhedaaGreatDoorFb
namespace Go.Proofs.YtkadkfmidlhedaaGreatDoor
open Go.RowKit

/-- What a typed text is. -/
def typedV (t : List UInt8) : Value :=
  if t == [] then valV 0 false 0 0 [] else
  if (readR t).ok then valV 1 (readR t).neg (readR t).d (readR t).e [] else
  if boolB (t.map upC) then boolW (t.map upC == trueT) else
  if memB errL t then valV 4 false 0 0 t else
  if goodV 2 false 0 0 (Lib.trimPrefix t [39]) then valV 2 false 0 0 (Lib.trimPrefix t [39]) else errW
theorem typedV_val (t : List UInt8) : ∃ k2 n2 d2 x2 t2, typedV t = valV k2 n2 d2 x2 t2 := by
  unfold typedV
  repeat' split
  all_goals exact ⟨_, _, _, _, _, rfl⟩
theorem trimP_cons (c : UInt8) (m : List UInt8) : Lib.trimPrefix (c :: m) [39] = if c = 39 then m else c :: m := by
  unfold Lib.trimPrefix Lib.hasPrefix
  by_cases h : c = 39
  · subst h
    simp
  · have h' : ¬ (39 : UInt8) = c := fun e => h e.symm
    simp [h, h']
theorem trimPI (l : List UInt8) (w : World) :
    Calls Tryz.prog 54 #[sV l, .string ⟨#[39]⟩] w fun e w' => e = .returned (sV (Lib.trimPrefix l [39])) ∧ w' = w := trimPrefixD l 39 w
set_option maxRecDepth 8000 in
set_option maxHeartbeats 2000000 in
theorem typedI (t : List UInt8) (w : World) (hl : t.length ≤ 1048576) (hT : Tens w) (hE : ErrTab w) :
    Calls Tryz.prog 12 #[sV t] w fun e w' => e = .returned (typedV t) ∧ Ext w w' := by
  obtain ⟨R, hR⟩ : ∃ R, typedV t = R := ⟨_, rfl⟩
  have HR0 : Hid (typedV t = R) := hR
  rw [hR]
  clear hR
  have X := x1 w (.cells #[.int .i64 0, .bool false, .int .i64 0, .int .i64 0, sV []] 26)
  have B2 := vec_made w (valL 0 false 0 0 []) 26
  obtain ⟨wb, hb⟩ : ∃ wb, w.alloc (.cells #[.int .i64 0, .bool false, .int .i64 0, .int .i64 0, sV []] 26) = wb := ⟨_, rfl⟩
  change Vec (w.alloc (.cells #[.int .i64 0, .bool false, .int .i64 0, .int .i64 0, sV []] 26)) _ _ at B2
  rw [hb] at X B2
  go_enter Tryz.func12, Tryz.ntmps12
  go_wp2_with fail
  clear hb
  refine (readI t wb hl (hT.later X)).mono ?_
  rintro e w1 ⟨rfl, e1⟩
  obtain ⟨ok, rn, rd, re, hq⟩ : ∃ ok rn rd re, readR t = (⟨ok, rn, rd, re⟩ : DR) := ⟨_, _, _, _, rfl⟩
  have HQ : Hid (readR t = ⟨ok, rn, rd, re⟩) := hq
  rw [hq]
  clear hq
  go_wp2_with fail
  refine (capsI t w1 (by omega)).mono ?_
  rintro e w2 ⟨rfl, e2⟩
  obtain ⟨u, hu⟩ : ∃ u, t.map upC = u := ⟨_, rfl⟩
  have HU : Hid (t.map upC = u) := hu
  rw [hu]
  clear hu
  have Y0 := x1 w2 (.cells #[.bool ok, .bool rn, .int .i64 rd, .int .i64 re] 79)
  obtain ⟨wz, hz⟩ : ∃ wz, w2.alloc (.cells #[.bool ok, .bool rn, .int .i64 rd, .int .i64 re] 79) = wz := ⟨_, rfl⟩
  have Br := vec_made w2 [.bool ok, .bool rn, .int .i64 rd, .int .i64 re] 79
  change Vec (w2.alloc (.cells #[.bool ok, .bool rn, .int .i64 rd, .int .i64 re] 79)) _ _ at Br
  rw [hz] at Y0 Br
  have r0 := (Br 0 _ rfl).1
  have r1 := (Br 1 _ rfl).1
  have r2 := (Br 2 _ rfl).1
  have r3 := (Br 3 _ rfl).1
  have D2 := ((B2.later e1).later e2).later Y0
  have XD := xt (xt (xt X e1) e2) Y0
  have TD := hT.later XD
  have ED := hE.later XD
  clear B2 X hT hE e1 e2 Y0
  obtain ⟨p, hp⟩ : ∃ p, (t == []) = p := ⟨_, rfl⟩
  cases p
  · cases ok
    · obtain ⟨y, hy⟩ : ∃ y, boolB u = y := ⟨_, rfl⟩
      go_wp2_with fail
      clear r0 r1 r2 r3 hz Br
      refine (boolI u wz).mono ?_
      rintro e w9 ⟨rfl, rfl⟩
      have HY : Hid (boolB u = y) := hy
      rw [hy]
      clear hy
      cases y
      · go_wp2_with fail
        refine (errI t _ ED).mono ?_
        rintro e w10 ⟨rfl, rfl⟩
        obtain ⟨z, hzz⟩ : ∃ z, memB errL t = z := ⟨_, rfl⟩
        have HZ : Hid (memB errL t = z) := hzz
        rw [hzz]
        clear hzz
        cases z
        · have HRG0 : Hid ((if goodV 2 false 0 0 (Lib.trimPrefix t [39]) then valV 2 false 0 0 (Lib.trimPrefix t [39]) else errW) = R) := by show _ = _; rw [← HR0.out]; simp [typedV, hp, HQ.out, HU.out, HY.out, HZ.out]
          clear hp
          go_wp2_with fail
          refine (trimPI t _).mono ?_
          rintro e w11 ⟨rfl, rfl⟩
          have hlv : (Lib.trimPrefix t [39]).length ≤ 2000000 := by have := trimPrefix_le t [39]; omega
          obtain ⟨v, hv⟩ : ∃ v, Lib.trimPrefix t [39] = v := ⟨_, rfl⟩
          have HRG : Hid ((if goodV 2 false 0 0 v then valV 2 false 0 0 v else errW) = R) := by show _ = _; rw [← hv]; exact HRG0.out
          rw [hv] at hlv ⊢
          clear hv HRG0
          go_wp2_with fail
          refine (textVI v _).mono ?_
          rintro e wt ⟨rfl, et⟩
          obtain ⟨wv, hwv⟩ : ∃ wv, wt.alloc (.cells #[.int .i64 2, .bool false, .int .i64 0, .int .i64 0, sV v] 26) = wv := ⟨_, rfl⟩
          have Yv := x1 wt (.cells #[.int .i64 2, .bool false, .int .i64 0, .int .i64 0, sV v] 26)
          have Bv := vec_made wt (valL 2 false 0 0 v) 26
          change Vec (wt.alloc (.cells #[.int .i64 2, .bool false, .int .i64 0, .int .i64 0, sV v] 26)) _ _ at Bv
          rw [hwv] at Yv Bv
          have Dv := ((D2).later et).later Yv
          have Xv := xt (xt (XD) et) Yv
          have a0 := (Bv 0 _ rfl).1
          have a1 := (Bv 1 _ rfl).1
          have a2 := (Bv 2 _ rfl).1
          have a3 := (Bv 3 _ rfl).1
          have a4 := (Bv 4 _ rfl).1
          go_wp2_with fail
          clear hwv a0 a1 a2 a3 a4
          refine (goodVI 2 false 0 0 v wv hlv (by decide) (by decide) (TD.later (xt et Yv)) (ED.later (xt et Yv))).mono ?_
          rintro e wg ⟨rfl, eg⟩
          obtain ⟨g, hg⟩ : ∃ g, goodV 2 false 0 0 v = g := ⟨_, rfl⟩
          rw [hg] at HRG ⊢
          clear hg
          cases g
          · have HR : Hid (errW = R) := HRG
            go_wp2_with fail
            refine (errVI errT wg).mono ?_
            rintro e we ⟨rfl, ee⟩
            have FV := (Dv.later eg).later ee
            have FG := FV.put5 (.int .i64 4) (.bool false) (.int .i64 0) (.int .i64 0) (sV errT)
            have FX := Ext.setL (b := w.heap.size) (by omega) [.int .i64 4, .bool false, .int .i64 0, .int .i64 0, sV errT] 0 (xt (xt Xv eg) ee)
            obtain ⟨wy, hy⟩ : ∃ wy, setL we (w.heap.size) 0 [.int .i64 4, .bool false, .int .i64 0, .int .i64 0, sV errT] = wy := ⟨_, rfl⟩
            rw [hy] at FG FX
            have hy : (((((we.setCell ⟨w.heap.size, 0, none⟩ (.int .i64 4)).setCell ⟨w.heap.size, 1, none⟩ (.bool false)).setCell ⟨w.heap.size, 2, none⟩ (.int .i64 0)).setCell ⟨w.heap.size, 3, none⟩ (.int .i64 0)).setCell ⟨w.heap.size, 4, none⟩ (sV errT)) = wy := hy
            have b0 := (FV 0 _ rfl).1
            have b1 := (FV 1 _ rfl).1
            have b2 := (FV 2 _ rfl).1
            have b3 := (FV 3 _ rfl).1
            have b4 := (FV 4 _ rfl).1
            have fb0 := (FV 0 _ rfl).2
            have fb1 := (FV 1 _ rfl).2
            have fb2 := (FV 2 _ rfl).2
            have fb3 := (FV 3 _ rfl).2
            have fb4 := (FV 4 _ rfl).2
            have fd0 := (FG 0 _ rfl).1
            have fd1 := (FG 1 _ rfl).1
            have fd2 := (FG 2 _ rfl).1
            have fd3 := (FG 3 _ rfl).1
            have fd4 := (FG 4 _ rfl).1
            clear FV FG 
            go_wp2_with fail
            exact bodyPost_ret (v := errW) (by simp [results, Tryz.results12, go_sem, fd0, fd1, fd2, fd3, fd4]) rfl ⟨congrArg Ending.returned HR.out, FX⟩
          · have HR : Hid (valV 2 false 0 0 v = R) := HRG
            have Bw := Bv.later eg
            have a0 := (Bw 0 _ rfl).1
            have a1 := (Bw 1 _ rfl).1
            have a2 := (Bw 2 _ rfl).1
            have a3 := (Bw 3 _ rfl).1
            have a4 := (Bw 4 _ rfl).1
            have FV := Dv.later eg
            have FG := FV.put5 (.int .i64 2) (.bool false) (.int .i64 0) (.int .i64 0) (sV v)
            have FX := Ext.setL (b := w.heap.size) (by omega) [.int .i64 2, .bool false, .int .i64 0, .int .i64 0, sV v] 0 (xt Xv eg)
            obtain ⟨wy, hy⟩ : ∃ wy, setL wg (w.heap.size) 0 [.int .i64 2, .bool false, .int .i64 0, .int .i64 0, sV v] = wy := ⟨_, rfl⟩
            rw [hy] at FG FX
            have hy : (((((wg.setCell ⟨w.heap.size, 0, none⟩ (.int .i64 2)).setCell ⟨w.heap.size, 1, none⟩ (.bool false)).setCell ⟨w.heap.size, 2, none⟩ (.int .i64 0)).setCell ⟨w.heap.size, 3, none⟩ (.int .i64 0)).setCell ⟨w.heap.size, 4, none⟩ (sV v)) = wy := hy
            have b0 := (FV 0 _ rfl).1
            have b1 := (FV 1 _ rfl).1
            have b2 := (FV 2 _ rfl).1
            have b3 := (FV 3 _ rfl).1
            have b4 := (FV 4 _ rfl).1
            have fb0 := (FV 0 _ rfl).2
            have fb1 := (FV 1 _ rfl).2
            have fb2 := (FV 2 _ rfl).2
            have fb3 := (FV 3 _ rfl).2
            have fb4 := (FV 4 _ rfl).2
            have fd0 := (FG 0 _ rfl).1
            have fd1 := (FG 1 _ rfl).1
            have fd2 := (FG 2 _ rfl).1
            have fd3 := (FG 3 _ rfl).1
            have fd4 := (FG 4 _ rfl).1
            clear FV FG 
            go_wp2_with fail
            exact bodyPost_ret (v := valV 2 false 0 0 v) (by simp [results, Tryz.results12, go_sem, fd0, fd1, fd2, fd3, fd4]) rfl ⟨congrArg Ending.returned HR.out, FX⟩
        · have HR : Hid (valV 4 false 0 0 t = R) := by show _ = _; rw [← HR0.out]; simp [typedV, hp, HQ.out, HU.out, HY.out, HZ.out]
          clear hp
          go_wp2_with fail
          refine (errVI t _).mono ?_
          rintro e w12 ⟨rfl, e12⟩
          have FV := D2.later e12
          have FG := FV.put5 (.int .i64 4) (.bool false) (.int .i64 0) (.int .i64 0) (sV t)
          have FX := Ext.setL (b := w.heap.size) (by omega) [.int .i64 4, .bool false, .int .i64 0, .int .i64 0, sV t] 0 (xt XD e12)
          obtain ⟨wy, hy⟩ : ∃ wy, setL w12 (w.heap.size) 0 [.int .i64 4, .bool false, .int .i64 0, .int .i64 0, sV t] = wy := ⟨_, rfl⟩
          rw [hy] at FG FX
          have hy : (((((w12.setCell ⟨w.heap.size, 0, none⟩ (.int .i64 4)).setCell ⟨w.heap.size, 1, none⟩ (.bool false)).setCell ⟨w.heap.size, 2, none⟩ (.int .i64 0)).setCell ⟨w.heap.size, 3, none⟩ (.int .i64 0)).setCell ⟨w.heap.size, 4, none⟩ (sV t)) = wy := hy
          have b0 := (FV 0 _ rfl).1
          have b1 := (FV 1 _ rfl).1
          have b2 := (FV 2 _ rfl).1
          have b3 := (FV 3 _ rfl).1
          have b4 := (FV 4 _ rfl).1
          have fb0 := (FV 0 _ rfl).2
          have fb1 := (FV 1 _ rfl).2
          have fb2 := (FV 2 _ rfl).2
          have fb3 := (FV 3 _ rfl).2
          have fb4 := (FV 4 _ rfl).2
          have fd0 := (FG 0 _ rfl).1
          have fd1 := (FG 1 _ rfl).1
          have fd2 := (FG 2 _ rfl).1
          have fd3 := (FG 3 _ rfl).1
          have fd4 := (FG 4 _ rfl).1
          clear FV FG 
          go_wp2_with fail
          exact bodyPost_ret (v := valV 4 false 0 0 t) (by simp [results, Tryz.results12, go_sem, fd0, fd1, fd2, fd3, fd4]) rfl ⟨congrArg Ending.returned HR.out, FX⟩
      · obtain ⟨o, ho⟩ : ∃ o, (u == [84, 82, 85, 69]) = o := ⟨_, rfl⟩
        cases o
        · have HR : Hid (boolW false = R) := by show _ = _; rw [← HR0.out]; simp [typedV, hp, HQ.out, HU.out, HY.out, ho]
          clear hp
          go_wp2_with fail
          clear ho
          refine (boolVI false _).mono ?_
          rintro e w12 ⟨rfl, e12⟩
          have FV := D2.later e12
          have FG := FV.put5 (.int .i64 3) (.bool false) (.int .i64 0) (.int .i64 0) (sV falseT)
          have FX := Ext.setL (b := w.heap.size) (by omega) [.int .i64 3, .bool false, .int .i64 0, .int .i64 0, sV falseT] 0 (xt XD e12)
          obtain ⟨wy, hy⟩ : ∃ wy, setL w12 (w.heap.size) 0 [.int .i64 3, .bool false, .int .i64 0, .int .i64 0, sV falseT] = wy := ⟨_, rfl⟩
          rw [hy] at FG FX
          have hy : (((((w12.setCell ⟨w.heap.size, 0, none⟩ (.int .i64 3)).setCell ⟨w.heap.size, 1, none⟩ (.bool false)).setCell ⟨w.heap.size, 2, none⟩ (.int .i64 0)).setCell ⟨w.heap.size, 3, none⟩ (.int .i64 0)).setCell ⟨w.heap.size, 4, none⟩ (sV falseT)) = wy := hy
          have b0 := (FV 0 _ rfl).1
          have b1 := (FV 1 _ rfl).1
          have b2 := (FV 2 _ rfl).1
          have b3 := (FV 3 _ rfl).1
          have b4 := (FV 4 _ rfl).1
          have fb0 := (FV 0 _ rfl).2
          have fb1 := (FV 1 _ rfl).2
          have fb2 := (FV 2 _ rfl).2
          have fb3 := (FV 3 _ rfl).2
          have fb4 := (FV 4 _ rfl).2
          have fd0 := (FG 0 _ rfl).1
          have fd1 := (FG 1 _ rfl).1
          have fd2 := (FG 2 _ rfl).1
          have fd3 := (FG 3 _ rfl).1
          have fd4 := (FG 4 _ rfl).1
          clear FV FG 
          go_wp2_with fail
          exact bodyPost_ret (v := boolW false) (by simp [results, Tryz.results12, go_sem, fd0, fd1, fd2, fd3, fd4]) rfl ⟨congrArg Ending.returned HR.out, FX⟩
        · have HR : Hid (boolW true = R) := by show _ = _; rw [← HR0.out]; simp [typedV, hp, HQ.out, HU.out, HY.out, ho]
          clear hp
          go_wp2_with fail
          clear ho
          refine (boolVI true _).mono ?_
          rintro e w12 ⟨rfl, e12⟩
          have FV := D2.later e12
          have FG := FV.put5 (.int .i64 3) (.bool false) (.int .i64 0) (.int .i64 0) (sV trueT)
          have FX := Ext.setL (b := w.heap.size) (by omega) [.int .i64 3, .bool false, .int .i64 0, .int .i64 0, sV trueT] 0 (xt XD e12)
          obtain ⟨wy, hy⟩ : ∃ wy, setL w12 (w.heap.size) 0 [.int .i64 3, .bool false, .int .i64 0, .int .i64 0, sV trueT] = wy := ⟨_, rfl⟩
          rw [hy] at FG FX
          have hy : (((((w12.setCell ⟨w.heap.size, 0, none⟩ (.int .i64 3)).setCell ⟨w.heap.size, 1, none⟩ (.bool false)).setCell ⟨w.heap.size, 2, none⟩ (.int .i64 0)).setCell ⟨w.heap.size, 3, none⟩ (.int .i64 0)).setCell ⟨w.heap.size, 4, none⟩ (sV trueT)) = wy := hy
          have b0 := (FV 0 _ rfl).1
          have b1 := (FV 1 _ rfl).1
          have b2 := (FV 2 _ rfl).1
          have b3 := (FV 3 _ rfl).1
          have b4 := (FV 4 _ rfl).1
          have fb0 := (FV 0 _ rfl).2
          have fb1 := (FV 1 _ rfl).2
          have fb2 := (FV 2 _ rfl).2
          have fb3 := (FV 3 _ rfl).2
          have fb4 := (FV 4 _ rfl).2
          have fd0 := (FG 0 _ rfl).1
          have fd1 := (FG 1 _ rfl).1
          have fd2 := (FG 2 _ rfl).1
          have fd3 := (FG 3 _ rfl).1
          have fd4 := (FG 4 _ rfl).1
          clear FV FG 
          go_wp2_with fail
          exact bodyPost_ret (v := boolW true) (by simp [results, Tryz.results12, go_sem, fd0, fd1, fd2, fd3, fd4]) rfl ⟨congrArg Ending.returned HR.out, FX⟩
    · have HR : Hid (valV 1 rn rd re [] = R) := by show _ = _; rw [← HR0.out]; simp [typedV, hp, HQ.out]
      go_wp2_with fail
      clear hp r0 r1 r2 r3 hz Br
      refine (numVI rn rd re wz).mono ?_
      rintro e w8 ⟨rfl, e8⟩
      have FV := D2.later e8
      have FG := FV.put5 (.int .i64 1) (.bool rn) (.int .i64 rd) (.int .i64 re) (sV [])
      have FX := Ext.setL (b := w.heap.size) (by omega) [.int .i64 1, .bool rn, .int .i64 rd, .int .i64 re, sV []] 0 (xt XD e8)
      obtain ⟨wy, hy⟩ : ∃ wy, setL w8 (w.heap.size) 0 [.int .i64 1, .bool rn, .int .i64 rd, .int .i64 re, sV []] = wy := ⟨_, rfl⟩
      rw [hy] at FG FX
      have hy : (((((w8.setCell ⟨w.heap.size, 0, none⟩ (.int .i64 1)).setCell ⟨w.heap.size, 1, none⟩ (.bool rn)).setCell ⟨w.heap.size, 2, none⟩ (.int .i64 rd)).setCell ⟨w.heap.size, 3, none⟩ (.int .i64 re)).setCell ⟨w.heap.size, 4, none⟩ (sV [])) = wy := hy
      have b0 := (FV 0 _ rfl).1
      have b1 := (FV 1 _ rfl).1
      have b2 := (FV 2 _ rfl).1
      have b3 := (FV 3 _ rfl).1
      have b4 := (FV 4 _ rfl).1
      have fb0 := (FV 0 _ rfl).2
      have fb1 := (FV 1 _ rfl).2
      have fb2 := (FV 2 _ rfl).2
      have fb3 := (FV 3 _ rfl).2
      have fb4 := (FV 4 _ rfl).2
      have fd0 := (FG 0 _ rfl).1
      have fd1 := (FG 1 _ rfl).1
      have fd2 := (FG 2 _ rfl).1
      have fd3 := (FG 3 _ rfl).1
      have fd4 := (FG 4 _ rfl).1
      clear FV FG 
      go_wp2_with fail
      exact bodyPost_ret (v := valV 1 rn rd re []) (by simp [results, Tryz.results12, go_sem, fd0, fd1, fd2, fd3, fd4]) rfl ⟨congrArg Ending.returned HR.out, FX⟩
  · have HR : Hid (valV 0 false 0 0 [] = R) := by show _ = _; rw [← HR0.out]; simp [typedV, hp]
    clear r0 r1 r2 r3 Br
    have FV := D2
    have FG := FV.put5 (.int .i64 0) (.bool false) (.int .i64 0) (.int .i64 0) (sV [])
    have FX := Ext.setL (b := w.heap.size) (by omega) [.int .i64 0, .bool false, .int .i64 0, .int .i64 0, sV []] 0 (XD)
    obtain ⟨wy, hy⟩ : ∃ wy, setL wz (w.heap.size) 0 [.int .i64 0, .bool false, .int .i64 0, .int .i64 0, sV []] = wy := ⟨_, rfl⟩
    rw [hy] at FG FX
    have hy : (((((wz.setCell ⟨w.heap.size, 0, none⟩ (.int .i64 0)).setCell ⟨w.heap.size, 1, none⟩ (.bool false)).setCell ⟨w.heap.size, 2, none⟩ (.int .i64 0)).setCell ⟨w.heap.size, 3, none⟩ (.int .i64 0)).setCell ⟨w.heap.size, 4, none⟩ (sV [])) = wy := hy
    have b0 := (FV 0 _ rfl).1
    have b1 := (FV 1 _ rfl).1
    have b2 := (FV 2 _ rfl).1
    have b3 := (FV 3 _ rfl).1
    have b4 := (FV 4 _ rfl).1
    have fb0 := (FV 0 _ rfl).2
    have fb1 := (FV 1 _ rfl).2
    have fb2 := (FV 2 _ rfl).2
    have fb3 := (FV 3 _ rfl).2
    have fb4 := (FV 4 _ rfl).2
    have fd0 := (FG 0 _ rfl).1
    have fd1 := (FG 1 _ rfl).1
    have fd2 := (FG 2 _ rfl).1
    have fd3 := (FG 3 _ rfl).1
    have fd4 := (FG 4 _ rfl).1
    clear FV FG 
    go_wp2_with fail
    exact bodyPost_ret (v := valV 0 false 0 0 []) (by simp [results, Tryz.results12, go_sem, fd0, fd1, fd2, fd3, fd4]) rfl ⟨congrArg Ending.returned HR.out, FX⟩
set_option maxRecDepth 8000 in
set_option maxHeartbeats 2000000 in
theorem typedS (t : List UInt8) (w : World) (hl : t.length ≤ 1048576) :
    Calls Tryz.prog 78 #[sV t] w fun e w' => e = .returned (typedV t) ∧ Ext w w' := by
  obtain ⟨R, hR⟩ : ∃ R, typedV t = R := ⟨_, rfl⟩
  have HR0 : Hid (typedV t = R) := hR
  rw [hR]
  clear hR
  have X := x1 w (.cells #[.int .i64 0, .bool false, .int .i64 0, .int .i64 0, sV []] 26)
  have B2 := vec_made w (valL 0 false 0 0 []) 26
  obtain ⟨wb, hb⟩ : ∃ wb, w.alloc (.cells #[.int .i64 0, .bool false, .int .i64 0, .int .i64 0, sV []] 26) = wb := ⟨_, rfl⟩
  change Vec (w.alloc (.cells #[.int .i64 0, .bool false, .int .i64 0, .int .i64 0, sV []] 26)) _ _ at B2
  rw [hb] at X B2
  cases t with
  | nil =>
    have HR : Hid (valV 0 false 0 0 [] = R) := by show _ = _; rw [← HR0.out]; rfl
    have hp : (([] : List UInt8) == []) = true := rfl
    go_enter Tryz.func78, Tryz.ntmps78
    have FV := B2
    have FG := FV.put5 (.int .i64 0) (.bool false) (.int .i64 0) (.int .i64 0) (sV [])
    have FX := Ext.setL (b := w.heap.size) (by omega) [.int .i64 0, .bool false, .int .i64 0, .int .i64 0, sV []] 0 (X)
    obtain ⟨wy, hy⟩ : ∃ wy, setL wb (w.heap.size) 0 [.int .i64 0, .bool false, .int .i64 0, .int .i64 0, sV []] = wy := ⟨_, rfl⟩
    rw [hy] at FG FX
    have hy : (((((wb.setCell ⟨w.heap.size, 0, none⟩ (.int .i64 0)).setCell ⟨w.heap.size, 1, none⟩ (.bool false)).setCell ⟨w.heap.size, 2, none⟩ (.int .i64 0)).setCell ⟨w.heap.size, 3, none⟩ (.int .i64 0)).setCell ⟨w.heap.size, 4, none⟩ (sV [])) = wy := hy
    have b0 := (FV 0 _ rfl).1
    have b1 := (FV 1 _ rfl).1
    have b2 := (FV 2 _ rfl).1
    have b3 := (FV 3 _ rfl).1
    have b4 := (FV 4 _ rfl).1
    have fb0 := (FV 0 _ rfl).2
    have fb1 := (FV 1 _ rfl).2
    have fb2 := (FV 2 _ rfl).2
    have fb3 := (FV 3 _ rfl).2
    have fb4 := (FV 4 _ rfl).2
    have fd0 := (FG 0 _ rfl).1
    have fd1 := (FG 1 _ rfl).1
    have fd2 := (FG 2 _ rfl).1
    have fd3 := (FG 3 _ rfl).1
    have fd4 := (FG 4 _ rfl).1
    clear FV FG 
    go_wp2_with fail
    exact bodyPost_ret (v := valV 0 false 0 0 []) (by simp [results, Tryz.results78, go_sem, fd0, fd1, fd2, fd3, fd4]) rfl ⟨congrArg Ending.returned HR.out, FX⟩
  | cons a m =>
    have hp : ((a :: m) == ([] : List UInt8)) = false := rfl
    have hsz : (⟨(a :: m).toArray⟩ : ByteArray).size = m.length + 1 := rfl
    go_enter Tryz.func78, Tryz.ntmps78
    go_wp2_with fail
    clear hb
    refine (readS (a :: m) wb hl).mono ?_
    rintro e w1 ⟨rfl, e1⟩
    obtain ⟨ok, rn, rd, re, hq⟩ : ∃ ok rn rd re, readR (a :: m) = (⟨ok, rn, rd, re⟩ : DR) := ⟨_, _, _, _, rfl⟩
    have HQ : Hid (readR (a :: m) = ⟨ok, rn, rd, re⟩) := hq
    rw [hq]
    clear hq
    have Y0 := x1 w1 (.cells #[.bool ok, .bool rn, .int .i64 rd, .int .i64 re] 79)
    obtain ⟨wz, hz⟩ : ∃ wz, w1.alloc (.cells #[.bool ok, .bool rn, .int .i64 rd, .int .i64 re] 79) = wz := ⟨_, rfl⟩
    have Br := vec_made w1 [.bool ok, .bool rn, .int .i64 rd, .int .i64 re] 79
    change Vec (w1.alloc (.cells #[.bool ok, .bool rn, .int .i64 rd, .int .i64 re] 79)) _ _ at Br
    rw [hz] at Y0 Br
    have r0 := (Br 0 _ rfl).1
    have r1 := (Br 1 _ rfl).1
    have r2 := (Br 2 _ rfl).1
    have r3 := (Br 3 _ rfl).1
    have D2 := (B2.later e1).later Y0
    have XD := xt (xt X e1) Y0
    clear B2 X e1 Y0
    cases ok
    · go_wp2_with fail
      clear r0 r1 r2 r3 hz Br
      refine (capsS (a :: m) wz (by omega)).mono ?_
      rintro e w2 ⟨rfl, e2⟩
      obtain ⟨u, hu⟩ : ∃ u, (a :: m).map upC = u := ⟨_, rfl⟩
      have HU : Hid ((a :: m).map upC = u) := hu
      rw [hu]
      clear hu
      have D3 := D2.later e2
      have XE := xt XD e2
      clear D2 XD e2
      obtain ⟨o, ho⟩ : ∃ o, (u == [84, 82, 85, 69]) = o := ⟨_, rfl⟩
      obtain ⟨q, hq⟩ : ∃ q, (u == [70, 65, 76, 83, 69]) = q := ⟨_, rfl⟩
      cases o
      · cases q
        · have HY : Hid (boolB u = false) := by show _ = _; unfold boolB; rw [ho, hq]; rfl
          go_wp2_with fail
          clear ho hq
          refine (errorsS w2).mono ?_
          rintro e w3 ⟨g, rfl, V, e3⟩
          go_wp2_with fail
          refine (inS errL (a :: m) g 9 w3 (by decide) V).mono ?_
          rintro e w4 ⟨rfl, rfl⟩
          have D4 := D3.later e3
          have XF := xt XE e3
          clear V D3 XE
          obtain ⟨z, hzz⟩ : ∃ z, memB errL (a :: m) = z := ⟨_, rfl⟩
          have HZ : Hid (memB errL (a :: m) = z) := hzz
          rw [hzz]
          clear hzz
          cases z
          · have HRG0 : Hid ((if goodV 2 false 0 0 (Lib.trimPrefix (a :: m) [39]) then valV 2 false 0 0 (Lib.trimPrefix (a :: m) [39]) else errW) = R) := by show _ = _; rw [← HR0.out]; simp [typedV, HQ.out, HY.out, HZ.out, show upC a :: m.map upC = u from HU.out]
            rw [trimP_cons] at HRG0
            clear hp
            have hk : 0 < (⟨(a :: m).toArray⟩ : ByteArray).size := by rw [hsz]; omega
            have hb0 : (((⟨(a :: m).toArray⟩ : ByteArray)[0]'hk).toNat : Int) = (a.toNat : Int) := rfl
            by_cases hc : a = 39
            · subst hc
              have HRG : Hid ((if goodV 2 false 0 0 m then valV 2 false 0 0 m else errW) = R) := HRG0
              clear HRG0
              have hlv : m.length ≤ 2000000 := by simp at hl; omega
              have hb0 : (((⟨(39 :: m).toArray⟩ : ByteArray)[0]'hk).toNat : Int) = 39 := hb0
              have hex : (⟨(39 :: m).toArray⟩ : ByteArray).extract 1 (m.length + 1) = ⟨m.toArray⟩ := by have := ext_bs (39 :: m) 1 (m.length + 1); simp at this; exact this
              go_wp2_with fail
              refine (textVS m _).mono ?_
              rintro e wt ⟨rfl, et⟩
              obtain ⟨wv, hwv⟩ : ∃ wv, wt.alloc (.cells #[.int .i64 2, .bool false, .int .i64 0, .int .i64 0, sV m] 26) = wv := ⟨_, rfl⟩
              have Yv := x1 wt (.cells #[.int .i64 2, .bool false, .int .i64 0, .int .i64 0, sV m] 26)
              have Bv := vec_made wt (valL 2 false 0 0 m) 26
              change Vec (wt.alloc (.cells #[.int .i64 2, .bool false, .int .i64 0, .int .i64 0, sV m] 26)) _ _ at Bv
              rw [hwv] at Yv Bv
              have Dv := ((D4).later et).later Yv
              have Xv := xt (xt (XF) et) Yv
              have a0 := (Bv 0 _ rfl).1
              have a1 := (Bv 1 _ rfl).1
              have a2 := (Bv 2 _ rfl).1
              have a3 := (Bv 3 _ rfl).1
              have a4 := (Bv 4 _ rfl).1
              go_wp2_with fail
              clear hwv a0 a1 a2 a3 a4
              refine (goodVS 2 false 0 0 m wv hlv).mono ?_
              rintro e wg ⟨rfl, eg⟩
              obtain ⟨g, hg⟩ : ∃ g, goodV 2 false 0 0 m = g := ⟨_, rfl⟩
              rw [hg] at HRG ⊢
              clear hg
              cases g
              · have HR : Hid (errW = R) := HRG
                go_wp2_with fail
                refine (errVS errT wg).mono ?_
                rintro e we ⟨rfl, ee⟩
                have FV := (Dv.later eg).later ee
                have FG := FV.put5 (.int .i64 4) (.bool false) (.int .i64 0) (.int .i64 0) (sV errT)
                have FX := Ext.setL (b := w.heap.size) (by omega) [.int .i64 4, .bool false, .int .i64 0, .int .i64 0, sV errT] 0 (xt (xt Xv eg) ee)
                obtain ⟨wy, hy⟩ : ∃ wy, setL we (w.heap.size) 0 [.int .i64 4, .bool false, .int .i64 0, .int .i64 0, sV errT] = wy := ⟨_, rfl⟩
                rw [hy] at FG FX
                have hy : (((((we.setCell ⟨w.heap.size, 0, none⟩ (.int .i64 4)).setCell ⟨w.heap.size, 1, none⟩ (.bool false)).setCell ⟨w.heap.size, 2, none⟩ (.int .i64 0)).setCell ⟨w.heap.size, 3, none⟩ (.int .i64 0)).setCell ⟨w.heap.size, 4, none⟩ (sV errT)) = wy := hy
                have b0 := (FV 0 _ rfl).1
                have b1 := (FV 1 _ rfl).1
                have b2 := (FV 2 _ rfl).1
                have b3 := (FV 3 _ rfl).1
                have b4 := (FV 4 _ rfl).1
                have fb0 := (FV 0 _ rfl).2
                have fb1 := (FV 1 _ rfl).2
                have fb2 := (FV 2 _ rfl).2
                have fb3 := (FV 3 _ rfl).2
                have fb4 := (FV 4 _ rfl).2
                have fd0 := (FG 0 _ rfl).1
                have fd1 := (FG 1 _ rfl).1
                have fd2 := (FG 2 _ rfl).1
                have fd3 := (FG 3 _ rfl).1
                have fd4 := (FG 4 _ rfl).1
                clear FV FG 
                go_wp2_with fail
                exact bodyPost_ret (v := errW) (by simp [results, Tryz.results78, go_sem, fd0, fd1, fd2, fd3, fd4]) rfl ⟨congrArg Ending.returned HR.out, FX⟩
              · have HR : Hid (valV 2 false 0 0 m = R) := HRG
                have Bw := Bv.later eg
                have a0 := (Bw 0 _ rfl).1
                have a1 := (Bw 1 _ rfl).1
                have a2 := (Bw 2 _ rfl).1
                have a3 := (Bw 3 _ rfl).1
                have a4 := (Bw 4 _ rfl).1
                have FV := Dv.later eg
                have FG := FV.put5 (.int .i64 2) (.bool false) (.int .i64 0) (.int .i64 0) (sV m)
                have FX := Ext.setL (b := w.heap.size) (by omega) [.int .i64 2, .bool false, .int .i64 0, .int .i64 0, sV m] 0 (xt Xv eg)
                obtain ⟨wy, hy⟩ : ∃ wy, setL wg (w.heap.size) 0 [.int .i64 2, .bool false, .int .i64 0, .int .i64 0, sV m] = wy := ⟨_, rfl⟩
                rw [hy] at FG FX
                have hy : (((((wg.setCell ⟨w.heap.size, 0, none⟩ (.int .i64 2)).setCell ⟨w.heap.size, 1, none⟩ (.bool false)).setCell ⟨w.heap.size, 2, none⟩ (.int .i64 0)).setCell ⟨w.heap.size, 3, none⟩ (.int .i64 0)).setCell ⟨w.heap.size, 4, none⟩ (sV m)) = wy := hy
                have b0 := (FV 0 _ rfl).1
                have b1 := (FV 1 _ rfl).1
                have b2 := (FV 2 _ rfl).1
                have b3 := (FV 3 _ rfl).1
                have b4 := (FV 4 _ rfl).1
                have fb0 := (FV 0 _ rfl).2
                have fb1 := (FV 1 _ rfl).2
                have fb2 := (FV 2 _ rfl).2
                have fb3 := (FV 3 _ rfl).2
                have fb4 := (FV 4 _ rfl).2
                have fd0 := (FG 0 _ rfl).1
                have fd1 := (FG 1 _ rfl).1
                have fd2 := (FG 2 _ rfl).1
                have fd3 := (FG 3 _ rfl).1
                have fd4 := (FG 4 _ rfl).1
                clear FV FG 
                go_wp2_with fail
                exact bodyPost_ret (v := valV 2 false 0 0 m) (by simp [results, Tryz.results78, go_sem, fd0, fd1, fd2, fd3, fd4]) rfl ⟨congrArg Ending.returned HR.out, FX⟩
            · have HRG : Hid ((if goodV 2 false 0 0 (a :: m) then valV 2 false 0 0 (a :: m) else errW) = R) := by show _ = _; have := HRG0.out; rw [if_neg hc] at this; exact this
              clear HRG0
              have hlv : (a :: m).length ≤ 2000000 := by omega
              have hN : a.toNat ≠ 39 := fun e => hc (by apply UInt8.toNat_inj.1; rw [e]; rfl)
              obtain ⟨N, hNN⟩ : ∃ N : Int, (a.toNat : Int) = N := ⟨_, rfl⟩
              rw [hNN] at hb0
              have hN2 : N ≠ 39 := by omega
              clear hN hNN
              go_wp2_with fail
              refine (textVS (a :: m) _).mono ?_
              rintro e wt ⟨rfl, et⟩
              obtain ⟨wv, hwv⟩ : ∃ wv, wt.alloc (.cells #[.int .i64 2, .bool false, .int .i64 0, .int .i64 0, sV (a :: m)] 26) = wv := ⟨_, rfl⟩
              have Yv := x1 wt (.cells #[.int .i64 2, .bool false, .int .i64 0, .int .i64 0, sV (a :: m)] 26)
              have Bv := vec_made wt (valL 2 false 0 0 (a :: m)) 26
              change Vec (wt.alloc (.cells #[.int .i64 2, .bool false, .int .i64 0, .int .i64 0, sV (a :: m)] 26)) _ _ at Bv
              rw [hwv] at Yv Bv
              have Dv := ((D4).later et).later Yv
              have Xv := xt (xt (XF) et) Yv
              have a0 := (Bv 0 _ rfl).1
              have a1 := (Bv 1 _ rfl).1
              have a2 := (Bv 2 _ rfl).1
              have a3 := (Bv 3 _ rfl).1
              have a4 := (Bv 4 _ rfl).1
              go_wp2_with fail
              clear hwv a0 a1 a2 a3 a4
              refine (goodVS 2 false 0 0 (a :: m) wv hlv).mono ?_
              rintro e wg ⟨rfl, eg⟩
              obtain ⟨g, hg⟩ : ∃ g, goodV 2 false 0 0 (a :: m) = g := ⟨_, rfl⟩
              rw [hg] at HRG ⊢
              clear hg
              cases g
              · have HR : Hid (errW = R) := HRG
                go_wp2_with fail
                refine (errVS errT wg).mono ?_
                rintro e we ⟨rfl, ee⟩
                have FV := (Dv.later eg).later ee
                have FG := FV.put5 (.int .i64 4) (.bool false) (.int .i64 0) (.int .i64 0) (sV errT)
                have FX := Ext.setL (b := w.heap.size) (by omega) [.int .i64 4, .bool false, .int .i64 0, .int .i64 0, sV errT] 0 (xt (xt Xv eg) ee)
                obtain ⟨wy, hy⟩ : ∃ wy, setL we (w.heap.size) 0 [.int .i64 4, .bool false, .int .i64 0, .int .i64 0, sV errT] = wy := ⟨_, rfl⟩
                rw [hy] at FG FX
                have hy : (((((we.setCell ⟨w.heap.size, 0, none⟩ (.int .i64 4)).setCell ⟨w.heap.size, 1, none⟩ (.bool false)).setCell ⟨w.heap.size, 2, none⟩ (.int .i64 0)).setCell ⟨w.heap.size, 3, none⟩ (.int .i64 0)).setCell ⟨w.heap.size, 4, none⟩ (sV errT)) = wy := hy
                have b0 := (FV 0 _ rfl).1
                have b1 := (FV 1 _ rfl).1
                have b2 := (FV 2 _ rfl).1
                have b3 := (FV 3 _ rfl).1
                have b4 := (FV 4 _ rfl).1
                have fb0 := (FV 0 _ rfl).2
                have fb1 := (FV 1 _ rfl).2
                have fb2 := (FV 2 _ rfl).2
                have fb3 := (FV 3 _ rfl).2
                have fb4 := (FV 4 _ rfl).2
                have fd0 := (FG 0 _ rfl).1
                have fd1 := (FG 1 _ rfl).1
                have fd2 := (FG 2 _ rfl).1
                have fd3 := (FG 3 _ rfl).1
                have fd4 := (FG 4 _ rfl).1
                clear FV FG 
                go_wp2_with fail
                exact bodyPost_ret (v := errW) (by simp [results, Tryz.results78, go_sem, fd0, fd1, fd2, fd3, fd4]) rfl ⟨congrArg Ending.returned HR.out, FX⟩
              · have HR : Hid (valV 2 false 0 0 (a :: m) = R) := HRG
                have Bw := Bv.later eg
                have a0 := (Bw 0 _ rfl).1
                have a1 := (Bw 1 _ rfl).1
                have a2 := (Bw 2 _ rfl).1
                have a3 := (Bw 3 _ rfl).1
                have a4 := (Bw 4 _ rfl).1
                have FV := Dv.later eg
                have FG := FV.put5 (.int .i64 2) (.bool false) (.int .i64 0) (.int .i64 0) (sV (a :: m))
                have FX := Ext.setL (b := w.heap.size) (by omega) [.int .i64 2, .bool false, .int .i64 0, .int .i64 0, sV (a :: m)] 0 (xt Xv eg)
                obtain ⟨wy, hy⟩ : ∃ wy, setL wg (w.heap.size) 0 [.int .i64 2, .bool false, .int .i64 0, .int .i64 0, sV (a :: m)] = wy := ⟨_, rfl⟩
                rw [hy] at FG FX
                have hy : (((((wg.setCell ⟨w.heap.size, 0, none⟩ (.int .i64 2)).setCell ⟨w.heap.size, 1, none⟩ (.bool false)).setCell ⟨w.heap.size, 2, none⟩ (.int .i64 0)).setCell ⟨w.heap.size, 3, none⟩ (.int .i64 0)).setCell ⟨w.heap.size, 4, none⟩ (sV (a :: m))) = wy := hy
                have b0 := (FV 0 _ rfl).1
                have b1 := (FV 1 _ rfl).1
                have b2 := (FV 2 _ rfl).1
                have b3 := (FV 3 _ rfl).1
                have b4 := (FV 4 _ rfl).1
                have fb0 := (FV 0 _ rfl).2
                have fb1 := (FV 1 _ rfl).2
                have fb2 := (FV 2 _ rfl).2
                have fb3 := (FV 3 _ rfl).2
                have fb4 := (FV 4 _ rfl).2
                have fd0 := (FG 0 _ rfl).1
                have fd1 := (FG 1 _ rfl).1
                have fd2 := (FG 2 _ rfl).1
                have fd3 := (FG 3 _ rfl).1
                have fd4 := (FG 4 _ rfl).1
                clear FV FG 
                go_wp2_with fail
                exact bodyPost_ret (v := valV 2 false 0 0 (a :: m)) (by simp [results, Tryz.results78, go_sem, fd0, fd1, fd2, fd3, fd4]) rfl ⟨congrArg Ending.returned HR.out, FX⟩
          · have HR : Hid (valV 4 false 0 0 (a :: m) = R) := by show _ = _; rw [← HR0.out]; simp [typedV, HQ.out, HY.out, HZ.out, show upC a :: m.map upC = u from HU.out]
            go_wp2_with fail
            refine (errVS (a :: m) _).mono ?_
            rintro e w12 ⟨rfl, e12⟩
            have FV := D4.later e12
            have FG := FV.put5 (.int .i64 4) (.bool false) (.int .i64 0) (.int .i64 0) (sV (a :: m))
            have FX := Ext.setL (b := w.heap.size) (by omega) [.int .i64 4, .bool false, .int .i64 0, .int .i64 0, sV (a :: m)] 0 (xt XF e12)
            obtain ⟨wy, hy⟩ : ∃ wy, setL w12 (w.heap.size) 0 [.int .i64 4, .bool false, .int .i64 0, .int .i64 0, sV (a :: m)] = wy := ⟨_, rfl⟩
            rw [hy] at FG FX
            have hy : (((((w12.setCell ⟨w.heap.size, 0, none⟩ (.int .i64 4)).setCell ⟨w.heap.size, 1, none⟩ (.bool false)).setCell ⟨w.heap.size, 2, none⟩ (.int .i64 0)).setCell ⟨w.heap.size, 3, none⟩ (.int .i64 0)).setCell ⟨w.heap.size, 4, none⟩ (sV (a :: m))) = wy := hy
            have b0 := (FV 0 _ rfl).1
            have b1 := (FV 1 _ rfl).1
            have b2 := (FV 2 _ rfl).1
            have b3 := (FV 3 _ rfl).1
            have b4 := (FV 4 _ rfl).1
            have fb0 := (FV 0 _ rfl).2
            have fb1 := (FV 1 _ rfl).2
            have fb2 := (FV 2 _ rfl).2
            have fb3 := (FV 3 _ rfl).2
            have fb4 := (FV 4 _ rfl).2
            have fd0 := (FG 0 _ rfl).1
            have fd1 := (FG 1 _ rfl).1
            have fd2 := (FG 2 _ rfl).1
            have fd3 := (FG 3 _ rfl).1
            have fd4 := (FG 4 _ rfl).1
            clear FV FG 
            go_wp2_with fail
            exact bodyPost_ret (v := valV 4 false 0 0 (a :: m)) (by simp [results, Tryz.results78, go_sem, fd0, fd1, fd2, fd3, fd4]) rfl ⟨congrArg Ending.returned HR.out, FX⟩
        · have HY : Hid (boolB u = true) := by show _ = _; unfold boolB; rw [ho, hq]; rfl
          have HR : Hid (boolW false = R) := by show _ = _; rw [← HR0.out]; simp [typedV, HQ.out, HY.out, ho, show upC a :: m.map upC = u from HU.out]
          go_wp2_with fail
          clear ho hq
          refine (boolVS false _).mono ?_
          rintro e w12 ⟨rfl, e12⟩
          have FV := D3.later e12
          have FG := FV.put5 (.int .i64 3) (.bool false) (.int .i64 0) (.int .i64 0) (sV falseT)
          have FX := Ext.setL (b := w.heap.size) (by omega) [.int .i64 3, .bool false, .int .i64 0, .int .i64 0, sV falseT] 0 (xt XE e12)
          obtain ⟨wy, hy⟩ : ∃ wy, setL w12 (w.heap.size) 0 [.int .i64 3, .bool false, .int .i64 0, .int .i64 0, sV falseT] = wy := ⟨_, rfl⟩
          rw [hy] at FG FX
          have hy : (((((w12.setCell ⟨w.heap.size, 0, none⟩ (.int .i64 3)).setCell ⟨w.heap.size, 1, none⟩ (.bool false)).setCell ⟨w.heap.size, 2, none⟩ (.int .i64 0)).setCell ⟨w.heap.size, 3, none⟩ (.int .i64 0)).setCell ⟨w.heap.size, 4, none⟩ (sV falseT)) = wy := hy
          have b0 := (FV 0 _ rfl).1
          have b1 := (FV 1 _ rfl).1
          have b2 := (FV 2 _ rfl).1
          have b3 := (FV 3 _ rfl).1
          have b4 := (FV 4 _ rfl).1
          have fb0 := (FV 0 _ rfl).2
          have fb1 := (FV 1 _ rfl).2
          have fb2 := (FV 2 _ rfl).2
          have fb3 := (FV 3 _ rfl).2
          have fb4 := (FV 4 _ rfl).2
          have fd0 := (FG 0 _ rfl).1
          have fd1 := (FG 1 _ rfl).1
          have fd2 := (FG 2 _ rfl).1
          have fd3 := (FG 3 _ rfl).1
          have fd4 := (FG 4 _ rfl).1
          clear FV FG 
          go_wp2_with fail
          exact bodyPost_ret (v := boolW false) (by simp [results, Tryz.results78, go_sem, fd0, fd1, fd2, fd3, fd4]) rfl ⟨congrArg Ending.returned HR.out, FX⟩
      · have HY : Hid (boolB u = true) := by show _ = _; unfold boolB; rw [ho, hq]; rfl
        have HR : Hid (boolW true = R) := by show _ = _; rw [← HR0.out]; simp [typedV, HQ.out, HY.out, ho, show upC a :: m.map upC = u from HU.out]
        go_wp2_with fail
        clear ho hq
        refine (boolVS true _).mono ?_
        rintro e w12 ⟨rfl, e12⟩
        have FV := D3.later e12
        have FG := FV.put5 (.int .i64 3) (.bool false) (.int .i64 0) (.int .i64 0) (sV trueT)
        have FX := Ext.setL (b := w.heap.size) (by omega) [.int .i64 3, .bool false, .int .i64 0, .int .i64 0, sV trueT] 0 (xt XE e12)
        obtain ⟨wy, hy⟩ : ∃ wy, setL w12 (w.heap.size) 0 [.int .i64 3, .bool false, .int .i64 0, .int .i64 0, sV trueT] = wy := ⟨_, rfl⟩
        rw [hy] at FG FX
        have hy : (((((w12.setCell ⟨w.heap.size, 0, none⟩ (.int .i64 3)).setCell ⟨w.heap.size, 1, none⟩ (.bool false)).setCell ⟨w.heap.size, 2, none⟩ (.int .i64 0)).setCell ⟨w.heap.size, 3, none⟩ (.int .i64 0)).setCell ⟨w.heap.size, 4, none⟩ (sV trueT)) = wy := hy
        have b0 := (FV 0 _ rfl).1
        have b1 := (FV 1 _ rfl).1
        have b2 := (FV 2 _ rfl).1
        have b3 := (FV 3 _ rfl).1
        have b4 := (FV 4 _ rfl).1
        have fb0 := (FV 0 _ rfl).2
        have fb1 := (FV 1 _ rfl).2
        have fb2 := (FV 2 _ rfl).2
        have fb3 := (FV 3 _ rfl).2
        have fb4 := (FV 4 _ rfl).2
        have fd0 := (FG 0 _ rfl).1
        have fd1 := (FG 1 _ rfl).1
        have fd2 := (FG 2 _ rfl).1
        have fd3 := (FG 3 _ rfl).1
        have fd4 := (FG 4 _ rfl).1
        clear FV FG 
        go_wp2_with fail
        exact bodyPost_ret (v := boolW true) (by simp [results, Tryz.results78, go_sem, fd0, fd1, fd2, fd3, fd4]) rfl ⟨congrArg Ending.returned HR.out, FX⟩
    · have HR : Hid (valV 1 rn rd re [] = R) := by show _ = _; rw [← HR0.out]; simp [typedV, HQ.out]
      go_wp2_with fail
      clear hp r0 r1 r2 r3 hz Br
      refine (numVS rn rd re wz).mono ?_
      rintro e w8 ⟨rfl, e8⟩
      have FV := D2.later e8
      have FG := FV.put5 (.int .i64 1) (.bool rn) (.int .i64 rd) (.int .i64 re) (sV [])
      have FX := Ext.setL (b := w.heap.size) (by omega) [.int .i64 1, .bool rn, .int .i64 rd, .int .i64 re, sV []] 0 (xt XD e8)
      obtain ⟨wy, hy⟩ : ∃ wy, setL w8 (w.heap.size) 0 [.int .i64 1, .bool rn, .int .i64 rd, .int .i64 re, sV []] = wy := ⟨_, rfl⟩
      rw [hy] at FG FX
      have hy : (((((w8.setCell ⟨w.heap.size, 0, none⟩ (.int .i64 1)).setCell ⟨w.heap.size, 1, none⟩ (.bool rn)).setCell ⟨w.heap.size, 2, none⟩ (.int .i64 rd)).setCell ⟨w.heap.size, 3, none⟩ (.int .i64 re)).setCell ⟨w.heap.size, 4, none⟩ (sV [])) = wy := hy
      have b0 := (FV 0 _ rfl).1
      have b1 := (FV 1 _ rfl).1
      have b2 := (FV 2 _ rfl).1
      have b3 := (FV 3 _ rfl).1
      have b4 := (FV 4 _ rfl).1
      have fb0 := (FV 0 _ rfl).2
      have fb1 := (FV 1 _ rfl).2
      have fb2 := (FV 2 _ rfl).2
      have fb3 := (FV 3 _ rfl).2
      have fb4 := (FV 4 _ rfl).2
      have fd0 := (FG 0 _ rfl).1
      have fd1 := (FG 1 _ rfl).1
      have fd2 := (FG 2 _ rfl).1
      have fd3 := (FG 3 _ rfl).1
      have fd4 := (FG 4 _ rfl).1
      clear FV FG 
      go_wp2_with fail
      exact bodyPost_ret (v := valV 1 rn rd re []) (by simp [results, Tryz.results78, go_sem, fd0, fd1, fd2, fd3, fd4]) rfl ⟨congrArg Ending.returned HR.out, FX⟩

end Go.Proofs.YtkadkfmidlhedaaGreatDoor

