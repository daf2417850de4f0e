/-
  Chapter 10: a format's code, as the specification tells it.
-/
import Derived.Test.YthedbjjncnddbaaDoorL1
import Derived.Deep.DeepCutAuto
import Derived.Deep.RegionWith
import Derived.Deep.QuietTactic
import Derived.BigQuiet
namespace Go.Proofs.YthedbjjncnddbaaDoor
open Go.RowKit

theorem quoB_len (s : BL) : (quoB s).length ≤ s.length + 2 := by unfold quoB; split <;> simp
theorem quoB_not {s : BL} (h : s ≠ []) : quoB s = 34 :: (s ++ [34]) := by unfold quoB; rw [if_neg h]
theorem szB (l : BL) : (⟨l.toArray⟩ : ByteArray).size = l.length := rfl
theorem repF_le (s : BL) (n : Nat) (h : s.length = 1) : (repF s n).length = n := by rw [repF_len, h, Nat.mul_one]

set_option maxRecDepth 8000 in
set_option maxHeartbeats 8000000 in
theorem codeSS (f : KT) (w : World) (hb : f.bf.length ≤ 200) (ha : f.af.length ≤ 200) (hd : f.dt.length ≤ 200) :
    Calls Tryd.prog 20 #[.agg f.cells.toArray] w fun e w' => e = .returned (sV (codeS f)) ∧ Ext w w' := by
  obtain ⟨ng, bf, af, wh, pl, mb, gr, tm, dt⟩ := f
  dsimp only at hb ha hd
  obtain ⟨C, hC⟩ : ∃ C, codeS ⟨ng, bf, af, wh, pl, mb, gr, tm, dt⟩ = C := ⟨_, rfl⟩
  obtain ⟨MID, hM⟩ : ∃ M, (if dt = [] then numC gr (minI wh 20).toNat (minI pl 20).toNat (minI mb 20).toNat (minI tm 20).toNat (decide (0 < wrap64 (pl + mb))) else dt) = M := ⟨_, rfl⟩
  obtain ⟨Q1, hQ1⟩ : ∃ Q, quoB bf = Q := ⟨_, rfl⟩
  obtain ⟨Q2, hQ2⟩ : ∃ Q, quoB af = Q := ⟨_, rfl⟩
  have HC : Hid (Q1 ++ MID ++ Q2 = C) := by show _ = _; rw [← hC, ← hM, ← hQ1, ← hQ2]; rfl
  have HM : Hid ((if dt = [] then numC gr (minI wh 20).toNat (minI pl 20).toNat (minI mb 20).toNat (minI tm 20).toNat (decide (0 < wrap64 (pl + mb))) else dt) = MID) := hM
  have H1 : Hid (quoB bf = Q1) := hQ1
  have H2 : Hid (quoB af = Q2) := hQ2
  have l1 : Q1.length ≤ 202 := by have := quoB_len bf; rw [hQ1] at this; omega
  have l2 : Q2.length ≤ 202 := by have := quoB_len af; rw [hQ2] at this; omega
  have lm : MID.length ≤ 300 := by
    rw [← hM]
    split
    · unfold numC
      have m1 := minI_le wh 20
      have m2 := minI_le pl 20
      have m3 := minI_le mb 20
      have m4 := minI_le tm 20
      have r1 := repF_le [48] (minI wh 20).toNat rfl
      have r2 := repF_le [48] (minI pl 20).toNat rfl
      have r3 := repF_le [35] (minI mb 20).toNat rfl
      have r4 := repF_le [37] (minI tm 20).toNat rfl
      simp only [List.length_append]
      rw [r1, r4]
      have g : (if gr then ([35, 44] : BL) else []).length ≤ 2 := by split <;> simp
      have h : (if (decide (0 < wrap64 (pl + mb))) then (46 :: (repF [48] (minI pl 20).toNat ++ repF [35] (minI mb 20).toNat) : BL) else []).length ≤ 41 := by
        split
        · simp only [List.length_cons, List.length_append]; rw [r2, r3]; omega
        · simp
      omega
    · omega
  rw [hC]
  clear hC hM hQ1 hQ2
  have V0 := vec_made w (KT.cells ⟨ng, bf, af, wh, pl, mb, gr, tm, dt⟩) 33
  have X0 := x1 w (.cells (KT.cells ⟨ng, bf, af, wh, pl, mb, gr, tm, dt⟩).toArray 33)
  obtain ⟨B, hB⟩ : ∃ B, w.heap.size = B := ⟨_, rfl⟩
  rw [hB] at V0
  obtain ⟨w0, hw0⟩ : ∃ w0, w.alloc (.cells (KT.cells ⟨ng, bf, af, wh, pl, mb, gr, tm, dt⟩).toArray 33) = w0 := ⟨_, rfl⟩
  rw [hw0] at V0 X0
  have hw0 : w.alloc (.cells #[.bool ng, sV bf, sV af, .int .i64 wh, .int .i64 pl, .int .i64 mb, .bool gr, .int .i64 tm, sV dt] 33) = w0 := hw0
  have HV : Hid (∀ W, Ext w0 W → Vec W B [.bool ng, sV bf, sV af, .int .i64 wh, .int .i64 pl, .int .i64 mb, .bool gr, .int .i64 tm, sV dt]) := fun W e => V0.later e
  have a1 := (V0 1 _ rfl).1
  clear V0
  obtain ⟨e1, he1⟩ : ∃ e, (bf == []) = e := ⟨_, rfl⟩
  obtain ⟨e8, he8⟩ : ∃ e, (dt == []) = e := ⟨_, rfl⟩
  obtain ⟨e2, he2⟩ : ∃ e, (af == []) = e := ⟨_, rfl⟩
  go_enter Tryd.func20, Tryd.ntmps20
  go_upto_if 6 with fail
  clear hw0 hB
  go_cut [3] (fun s wc => s = sV Q1 ∧ wc = w0)
  case first =>
    cases e1 with
    | true =>
      have hbf : bf = [] := by simpa using he1
      subst hbf
      have hq : Q1 = [] := by rw [← H1.out]; rfl
      subst hq
      go_wp2_with fail
      go_meet
      case rel => exact ⟨rfl, rfl⟩
    | false =>
      have hbf : bf ≠ [] := by simpa using he1
      go_wp2_with fail
      go_meet
      case rel => exact ⟨by rw [← H1.out, quoB_not hbf]; simp only [app_str]; rfl, rfl⟩
  case rest =>
    obtain ⟨rfl, hw⟩ := hcut
    obtain rfl := hw.symm
    clear a1
    have a8 := (HV.out w0 (xr _) 8 _ rfl).1
    go_upto_if 15 with fail
    clear a8
    go_cut [3] (fun s wd => s = sV (Q1 ++ MID) ∧ Ext w0 wd)
    case first =>
      cases e8 with
      | true =>
        have hdt : dt = [] := by simpa using he8
        subst hdt
        have HM2 : Hid ((if gr then [35, 44] else []) ++ repF [48] (minI wh 20).toNat ++ (if (decide (0 < wrap64 (pl + mb))) then 46 :: (repF [48] (minI pl 20).toNat ++ repF [35] (minI mb 20).toNat) else []) ++ repF [37] (minI tm 20).toNat = MID) := by show _ = _; rw [← HM.out]; rfl
        have R1 := fun W => repS [48] (minI wh 20) (by decide) (by have := minI_le wh 20; omega) W
        have q2 : minI pl 20 ≤ 1000 := by have := minI_le pl 20; omega
        have q3 : minI mb 20 ≤ 1000 := by have := minI_le mb 20; omega
        have R4 := fun W => repS [37] (minI tm 20) (by decide) (by have := minI_le tm 20; omega) W
        have M1 := fun W => minS wh 20 W
        have M4 := fun W => minS tm 20 W
        have n1 : (repF [48] (minI wh 20).toNat).length ≤ 20 := by rw [repF_le _ _ rfl]; have := minI_le wh 20; omega
        have n2 : (repF [48] (minI pl 20).toNat).length ≤ 20 := by rw [repF_le _ _ rfl]; have := minI_le pl 20; omega
        have n3 : (repF [35] (minI mb 20).toNat).length ≤ 20 := by rw [repF_le _ _ rfl]; have := minI_le mb 20; omega
        have n4 : (repF [37] (minI tm 20).toNat).length ≤ 20 := by rw [repF_le _ _ rfl]; have := minI_le tm 20; omega
        obtain ⟨y1, hy1⟩ : ∃ y, repF [48] (minI wh 20).toNat = y := ⟨_, rfl⟩
        obtain ⟨y4, hy4⟩ : ∃ y, repF [37] (minI tm 20).toNat = y := ⟨_, rfl⟩
        simp only [hy1] at R1
        simp only [hy4] at R4
        rw [hy1] at n1 HM2
        rw [hy4] at n4 HM2
        clear hy1 hy4 HM
        obtain ⟨z1, hz1⟩ : ∃ z, minI wh 20 = z := ⟨_, rfl⟩
        obtain ⟨z4, hz4⟩ : ∃ z, minI tm 20 = z := ⟨_, rfl⟩
        simp only [hz1] at R1 M1
        simp only [hz4] at R4 M4
        clear hz1 hz4
        have a6 := (HV.out w0 (xr _) 6 _ rfl).1
        obtain ⟨G, hG⟩ : ∃ G, (if gr then ([35, 44] : BL) else []) = G := ⟨_, rfl⟩
        have HGr : Hid ((if gr then ([35, 44] : BL) else []) = G) := hG
        have lG : G.length ≤ 2 := by rw [← hG]; split <;> simp
        rw [hG] at HM2
        clear hG
        go_upto_if 21 with fail
        clear a6
        go_cut [3] (fun s we => s = sV (Q1 ++ G) ∧ we = w0)
        case first =>
          cases gr
          · have hg : G = [] := HGr.out.symm
            subst hg
            go_wp2_with fail
            go_meet
            case rel => exact ⟨by rw [List.append_nil], rfl⟩
          · have hg : G = [35, 44] := HGr.out.symm
            subst hg
            have hs := szB Q1
            go_wp2_with fail
            go_meet
            case rel => exact ⟨by simp only [app_str], rfl⟩
        case rest =>
          obtain ⟨rfl, hw⟩ := hcut
          obtain rfl := hw.symm
          have a3 := (HV.out w0 (xr _) 3 _ rfl).1
          have a4 := (HV.out w0 (xr _) 4 _ rfl).1
          have a5 := (HV.out w0 (xr _) 5 _ rfl).1
          have sA := szB (Q1 ++ G)
          rw [List.length_append] at sA
          have sB := szB y1
          obtain ⟨FL, hFL⟩ : ∃ F, decide (0 < wrap64 (pl + mb)) = F := ⟨_, rfl⟩
          have HFL : Hid (decide (0 < wrap64 (pl + mb)) = FL) := hFL
          rw [hFL] at HM2
          go_wp2_with fail
          refine (M1 _).mono ?_
          rintro e w1 ⟨rfl, h1⟩
          rw [h1]
          clear h1
          go_wp2_with fail
          refine (R1 _).mono ?_
          rintro e w1 ⟨rfl, h1⟩
          rw [h1]
          clear h1
          have X1 : Hid (Value.string (⟨(Q1 ++ G).toArray⟩ ++ ⟨y1.toArray⟩) = sV (Q1 ++ G ++ y1)) := by show _ = _; rw [app_str]
          go_upto_if 35 with fail
          clear a3 a4 a5 sA sB
          obtain ⟨P, hP⟩ : ∃ P, (if FL then (46 :: (repF [48] (minI pl 20).toNat ++ repF [35] (minI mb 20).toNat) : BL) else []) = P := ⟨_, rfl⟩
          have HP : Hid ((if FL then (46 :: (repF [48] (minI pl 20).toNat ++ repF [35] (minI mb 20).toNat) : BL) else []) = P) := hP
          have lP : P.length ≤ 41 := by rw [← hP]; split <;> simp <;> omega
          rw [hP] at HM2
          clear hP
          go_cut [3] (fun s we => s = sV (Q1 ++ G ++ y1 ++ P) ∧ Ext w0 we)
          case first =>
            have a4 := (HV.out w0 (xr _) 4 _ rfl).1
            have a5 := (HV.out w0 (xr _) 5 _ rfl).1
            have sA := szB (Q1 ++ G)
            rw [List.length_append] at sA
            have sB := szB y1
            have sC := szB (repF [48] (minI pl 20).toNat)
            have sD := szB (repF [35] (minI mb 20).toNat)
            cases FL
            · have hp : P = [] := HP.out.symm
              subst hp
              go_wp2_with fail
              go_meet
              case rel => exact ⟨by rw [X1.out, List.append_nil], xr _⟩
            · have HP2 : Hid (P = 46 :: (repF [48] (minI pl 20).toNat ++ repF [35] (minI mb 20).toNat)) := HP.out.symm
              go_wp2_with fail
              go_quiet (first | (go_at_call 33; exact Calls.quiet_of_same (minS _ _ _)) | (go_at_call 32; exact Calls.quiet_of_same (repS _ _ (by decide) (by first | exact q2 | exact q3) _)))
              go_wp2_with fail
              go_meet
              case rel => exact ⟨by rw [HP2.out]; simp only [app_str]; simp, xdNk (xr _) _⟩
          case rest =>
            obtain ⟨rfl, E⟩ := hcut
            obtain ⟨wd, hwd⟩ : ∃ x, x = wc := ⟨_, rfl⟩
            subst hwd
            have a7 := (HV.out wd E 7 _ rfl).1
            have sA := szB (Q1 ++ G ++ y1 ++ P)
            simp only [List.length_append] at sA
            have sB := szB y4
            go_wp2_with fail
            refine (M4 _).mono ?_
            rintro e w1 ⟨rfl, h1⟩
            rw [h1]
            clear h1
            go_wp2_with fail
            refine (R4 _).mono ?_
            rintro e w1 ⟨rfl, h1⟩
            rw [h1]
            clear h1
            go_wp2_with fail
            go_meet
            case rel => exact ⟨by rw [app_str, ← HM2.out]; simp, E⟩
      | false =>
        have hdt : dt ≠ [] := by simpa using he8
        have hm : MID = dt := by rw [← HM.out, if_neg hdt]
        subst hm
        have a8 := (HV.out w0 (xr _) 8 _ rfl).1
        have hs := szB Q1
        have hs2 := szB MID
        go_wp2_with fail
        go_meet
        case rel => exact ⟨by simp only [app_str], xr _⟩
    case rest =>
      obtain ⟨rfl, E⟩ := hcut
      obtain ⟨wd, hwd⟩ : ∃ x, x = wc := ⟨_, rfl⟩
      subst hwd
      have a2 := (HV.out wd E 2 _ rfl).1
      have hs := szB (Q1 ++ MID)
      rw [List.length_append] at hs
      go_upto_if 56 with fail
      go_cut [3] (fun s we => s = sV C ∧ we = wd)
      case first =>
        cases e2 with
        | true =>
          have hq : Q2 = [] := by
            have haf : af = [] := by simpa using he2
            rw [← H2.out, haf]; rfl
          clear he2
          subst hq
          go_wp2_with fail
          go_meet
          case rel => exact ⟨by rw [← HC.out, List.append_nil], rfl⟩
        | false =>
          have haf : af ≠ [] := by simpa using he2
          have hs3 := szB af
          go_wp2_with fail
          go_meet
          case rel => exact ⟨by rw [← HC.out, ← H2.out, quoB_not haf]; simp only [app_str]; rfl, rfl⟩
      case rest =>
        obtain ⟨rfl, hw⟩ := hcut
        obtain rfl := hw.symm
        go_wp2_with fail
        go_ret
        exact ⟨rfl, xt X0 E⟩

end Go.Proofs.YthedbjjncnddbaaDoor
