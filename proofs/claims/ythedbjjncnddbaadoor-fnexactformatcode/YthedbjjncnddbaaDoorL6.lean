/-
  Chapter 10: a format's code, by the program.
-/
import Derived.Test.YthedbjjncnddbaaDoorL5
import Derived.Test.YthedbjjncnddbaaDoorRg
namespace Go.Proofs.YthedbjjncnddbaaDoor
open Go.RowKit

def codeP (f : KT) : BL := quoB f.bf ++ (if f.gr then [35, 44] else []) ++ repF [48] f.wh.toNat ++ (if (decide (0 < f.pl + f.mb)) then 46 :: (repF [48] f.pl.toNat ++ repF [35] f.mb.toNat) else []) ++ repF [37] f.tm.toNat ++ f.dt ++ quoB f.af

set_option maxRecDepth 8000 in
set_option maxHeartbeats 8000000 in
theorem codePI (f : KT) (w : World) (hc : cntB f = true) (hb : f.bf.length ≤ 1048576) (ha : f.af.length ≤ 1048576) (hd : f.dt.length ≤ 1048576) :
    Calls Tryd.prog 23 #[.agg f.cells.toArray] w fun e w' => e = .returned (sV (codeP f)) ∧ Ext w w' := by
  obtain ⟨ng, bf, af, wh, pl, mb, gr, tm, dt⟩ := f
  dsimp only at hb ha hd
  have hcc : 0 ≤ wh ∧ 0 ≤ pl ∧ 0 ≤ mb ∧ 0 ≤ tm ∧ wh ≤ 9 ∧ pl ≤ 9 ∧ mb ≤ 9 ∧ tm ≤ 9 := of_decide_eq_true hc
  obtain ⟨m1, rfl⟩ : ∃ n : Nat, wh = n := ⟨wh.toNat, by omega⟩
  obtain ⟨m2, rfl⟩ : ∃ n : Nat, pl = n := ⟨pl.toNat, by omega⟩
  obtain ⟨m3, rfl⟩ : ∃ n : Nat, mb = n := ⟨mb.toNat, by omega⟩
  obtain ⟨m4, rfl⟩ : ∃ n : Nat, tm = n := ⟨tm.toNat, by omega⟩
  have b1 : m1 ≤ 9 := by omega
  have b2 : m2 ≤ 9 := by omega
  have b3 : m3 ≤ 9 := by omega
  have b4 : m4 ≤ 9 := by omega
  clear hc hcc
  obtain ⟨C, hC⟩ : ∃ C, codeP ⟨ng, bf, af, m1, m2, m3, gr, m4, dt⟩ = C := ⟨_, rfl⟩
  obtain ⟨Q1, hQ1⟩ : ∃ Q, quoB bf = Q := ⟨_, rfl⟩
  obtain ⟨Q2, hQ2⟩ : ∃ Q, quoB af = Q := ⟨_, rfl⟩
  obtain ⟨G, hG⟩ : ∃ G, (if gr then ([35, 44] : BL) else []) = G := ⟨_, rfl⟩
  obtain ⟨FL, hFL⟩ : ∃ F, decide (0 < (m2 : Int) + (m3 : Int)) = F := ⟨_, rfl⟩
  obtain ⟨y1, hy1⟩ : ∃ y, repF [48] m1 = y := ⟨_, rfl⟩
  obtain ⟨y2, hy2⟩ : ∃ y, repF [48] m2 = y := ⟨_, rfl⟩
  obtain ⟨y3, hy3⟩ : ∃ y, repF [35] m3 = y := ⟨_, rfl⟩
  obtain ⟨y4, hy4⟩ : ∃ y, repF [37] m4 = y := ⟨_, rfl⟩
  obtain ⟨P, hP⟩ : ∃ P, (if FL then (46 :: (y2 ++ y3) : BL) else []) = P := ⟨_, rfl⟩
  have HC : Hid (Q1 ++ G ++ y1 ++ P ++ y4 ++ dt ++ Q2 = C) := by
    show _ = _
    rw [← hC, ← hP, ← hG, ← hQ1, ← hQ2, ← hFL, ← hy1, ← hy2, ← hy3, ← hy4]
    unfold codeP
    simp
  have C1 := fun W => quoI bf (by omega) W
  have C2 := fun W => quoI af (by omega) W
  simp only [hQ1] at C1
  simp only [hQ2] at C2
  have R1 := fun W => repeatI 48 m1 (by omega) W
  have R2 := fun W => repeatI 48 m2 (by omega) W
  have R3 := fun W => repeatI 35 m3 (by omega) W
  have R4 := fun W => repeatI 37 m4 (by omega) W
  simp only [hy1] at R1
  simp only [hy2] at R2
  simp only [hy3] at R3
  simp only [hy4] at R4
  have l1 : Q1.length ≤ 1048578 := by have := quoB_len bf; rw [hQ1] at this; omega
  have l2 : Q2.length ≤ 1048578 := by have := quoB_len af; rw [hQ2] at this; omega
  have n1 : y1.length ≤ 9 := by rw [← hy1, repF_le _ _ rfl]; exact b1
  have n2 : y2.length ≤ 9 := by rw [← hy2, repF_le _ _ rfl]; exact b2
  have n3 : y3.length ≤ 9 := by rw [← hy3, repF_le _ _ rfl]; exact b3
  have n4 : y4.length ≤ 9 := by rw [← hy4, repF_le _ _ rfl]; exact b4
  have lG : G.length ≤ 2 := by rw [← hG]; split <;> simp
  have lP : P.length ≤ 19 := by rw [← hP]; split <;> simp <;> omega
  have HGr : Hid ((if gr then ([35, 44] : BL) else []) = G) := hG
  have HP : Hid ((if FL then (46 :: (y2 ++ y3) : BL) else []) = P) := hP
  have HFL : Hid (decide (0 < (m2 : Int) + (m3 : Int)) = FL) := hFL
  have HY : Hid (repF [48] m2 = y2 ∧ repF [35] m3 = y3) := ⟨hy2, hy3⟩
  rw [hC]
  clear hC hQ1 hQ2 hG hy1 hy2 hy3 hy4 hP
  have V0 := vec_made w (KT.cells ⟨ng, bf, af, m1, m2, m3, gr, m4, dt⟩) 33
  have X0 := x1 w (.cells (KT.cells ⟨ng, bf, af, m1, m2, m3, gr, m4, dt⟩).toArray 33)
  obtain ⟨B, hB⟩ : ∃ B, w.heap.size = B := ⟨_, rfl⟩
  rw [hB] at V0
  obtain ⟨w0, hw0⟩ : ∃ w0, w.alloc (.cells (KT.cells ⟨ng, bf, af, m1, m2, m3, gr, m4, dt⟩).toArray 33) = w0 := ⟨_, rfl⟩
  rw [hw0] at V0 X0
  have hw0 : w.alloc (.cells #[.bool ng, sV bf, sV af, .int .i64 m1, .int .i64 m2, .int .i64 m3, .bool gr, .int .i64 m4, sV dt] 33) = w0 := hw0
  have HV : Hid (∀ W, Ext w0 W → Vec W B [.bool ng, sV bf, sV af, .int .i64 m1, .int .i64 m2, .int .i64 m3, .bool gr, .int .i64 m4, sV dt]) := fun W e => V0.later e
  have a1 := (V0 1 _ rfl).1
  have a6 := (V0 6 _ rfl).1
  clear V0
  go_enter Tryd.func23, Tryd.ntmps23
  go_wp2_with fail
  clear hw0 hB
  refine (C1 _).mono ?_
  rintro e w1 ⟨rfl, h1⟩
  rw [h1]
  clear h1
  go_upto_if 8 with fail
  clear a1 a6
  go_cut [3] (fun s wc => s = sV (Q1 ++ G) ∧ wc = w0)
  case first =>
    cases gr
    · have hg : G = [] := HGr.out.symm
      subst hg
      go_wp2_with fail
      go_meet
      case rel => exact ⟨by rw [List.append_nil], rfl⟩
    · have hg : G = [35, 44] := HGr.out.symm
      subst hg
      have hs := szB Q1
      go_wp2_with fail
      go_meet
      case rel => exact ⟨by simp only [app_str], rfl⟩
  case rest =>
    obtain ⟨rfl, hw⟩ := hcut
    obtain rfl := hw.symm
    have a3 := (HV.out w0 (xr _) 3 _ rfl).1
    have sA := szB (Q1 ++ G)
    rw [List.length_append] at sA
    have sB := szB y1
    go_wp2_with fail
    refine (R1 _).mono ?_
    rintro e w1 ⟨rfl, e1⟩
    have a4 := (HV.out w1 e1 4 _ rfl).1
    have a5 := (HV.out w1 e1 5 _ rfl).1
    have A1 : Hid (Value.string (⟨(Q1 ++ G).toArray⟩ ++ ⟨y1.toArray⟩) = sV (Q1 ++ G ++ y1)) := by show _ = _; rw [app_str]
    go_upto_if 21 with fail
    clear a3 a4 a5 sA sB
    go_cut [3] (fun s wc => s = sV (Q1 ++ G ++ y1 ++ P) ∧ Ext w0 wc)
    case first =>
      cases FL
      · have hp : P = [] := HP.out.symm
        subst hp
        go_wp2_with fail
        go_meet
        case rel => exact ⟨by rw [A1.out, List.append_nil], e1⟩
      · have HP2 : Hid (P = 46 :: (y2 ++ y3)) := HP.out.symm
        have V1 := HV.out w1 e1
        have a4 := (V1 4 _ rfl).1
        have a5 := (V1 5 _ rfl).1
        have q2 : m2 ≤ 1000 := by omega
        have q3 : m3 ≤ 1000 := by omega
        have k2 : (repF [48] m2).length ≤ 9 := by rw [repF_le _ _ rfl]; exact b2
        have k3 : (repF [35] m3).length ≤ 9 := by rw [repF_le _ _ rfl]; exact b3
        have sA := szB (Q1 ++ G)
        rw [List.length_append] at sA
        have sB := szB y1
        have sC := szB (repF [48] m2)
        have sD := szB (repF [35] m3)
        have g4 : ¬ (9223372036854775807 < 1 + (repF [48] m2).length) := by omega
        have g8 : ¬ (9223372036854775807 < 1 + (repF [48] m2).length + (repF [35] m3).length) := by omega
        have g9 : ¬ (9223372036854775807 < Q1.length + G.length + y1.length + (1 + (repF [48] m2).length + (repF [35] m3).length)) := by omega
        clear sA sB sC sD
        go_wp2_with fail
        go_region_held3 (fun w' => w'.cell? ⟨B, 4, none⟩ = some (.int .i64 m2) ∧ w'.cell? ⟨B, 5, none⟩ = some (.int .i64 m3)) (go_keep)
          (first
            | (go_at_call 35; refine (repeatI _ _ (by first | exact q2 | exact q3) _).mono ?_; rintro e w' ⟨rfl, E⟩; first | (have s4 := cell_later E r4; have s5 := cell_later E r5) | (have Y := xt (xd (xr _)) E; have r4 := cell_later Y a4; have r5 := cell_later Y a5)))
        go_wp2_with fail
        go_meet
        case rel => exact ⟨by rw [HP2.out, ← HY.out.1, ← HY.out.2]; simp only [app_str]; simp, xt e1 (xt Y E)⟩
    case rest =>
      obtain ⟨rfl, E0⟩ := hcut
      have V1 := HV.out wc E0
      have a7 := (V1 7 _ rfl).1
      have a8 := (V1 8 _ rfl).1
      have a2 := (V1 2 _ rfl).1
      have D2 : ∀ W, Calls Tryd.prog 34 #[sV af] W fun e w' => e = .returned (sV Q2) ∧ Ext W w' := fun W => (C2 W).mono fun _ _ ⟨h1, h2⟩ => ⟨h1, by rw [h2]; exact xr _⟩
      obtain ⟨Z, hZ⟩ : ∃ Z, Q1 ++ G ++ y1 ++ P = Z := ⟨_, rfl⟩
      have lZ : Z.length ≤ 2000000 := by rw [← hZ]; simp only [List.length_append]; omega
      have HZ : Hid (Q1 ++ G ++ y1 ++ P = Z) := hZ
      rw [hZ]
      have g4 : ¬ (9223372036854775807 < Z.length + y4.length) := by omega
      have g8 : ¬ (9223372036854775807 < Z.length + y4.length + dt.length) := by omega
      have g9 : ¬ (9223372036854775807 < Z.length + y4.length + dt.length + Q2.length) := by omega
      clear hZ
      clear V1 C1 C2
      go_wp2_with fail
      go_region_held3 (fun w' => w'.cell? ⟨B, 7, none⟩ = some (.int .i64 m4) ∧ w'.cell? ⟨B, 8, none⟩ = some (sV dt) ∧ w'.cell? ⟨B, 2, none⟩ = some (sV af)) (go_keep)
        (first
          | (go_at_call 35; refine (R4 _).mono ?_; rintro e w' ⟨rfl, E⟩; first | (have s7 := cell_later E r7; have s8 := cell_later E r8; have s2 := cell_later E r2) | (have Y := xt (xd (xr _)) E; have r7 := cell_later Y a7; have r8 := cell_later Y a8; have r2 := cell_later Y a2))
          | (go_at_call 34; refine (D2 _).mono ?_; rintro e w' ⟨rfl, E⟩; first | (have s7 := cell_later E r7; have s8 := cell_later E r8; have s2 := cell_later E r2) | (have Y := xt (xd (xr _)) E; have r7 := cell_later Y a7; have r8 := cell_later Y a8; have r2 := cell_later Y a2)))
      go_wp2_with fail
      go_ret
      exact ⟨by rw [← HC.out, HZ.out]; simp only [app_str]; rfl, xt (xt X0 E0) (xt Y E)⟩

end Go.Proofs.YthedbjjncnddbaaDoor
