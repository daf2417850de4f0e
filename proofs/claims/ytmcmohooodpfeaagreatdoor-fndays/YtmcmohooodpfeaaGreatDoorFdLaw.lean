/-
  FnDays: the law's own function.
-/
import Derived.Test.YtmcmohooodpfeaaGreatDoorFdN
import Derived.Test.YtmcmohooodpfeaaGreatDoorWeekI
import Derived.Test.YtmcmohooodpfeaaGreatDoorWeekS
import Derived.Test.YtmcmohooodpfeaaGreatDoorDtFn
import Derived.Test.YtmcmohooodpfeaaGreatDoorDxBoth
namespace Go.Proofs.YtmcmohooodpfeaaGreatDoor
open Go.RowKit

theorem CodeIn.later {w w' : World} {v : Value} {n : Nat} (h : CodeIn w w.heap.size v n) (x : Ext w w') : CodeIn w' w'.heap.size v n := by
  rcases h with h | ⟨pb, po, cap, h1, h2, h3, h4⟩
  · exact .inl h
  · refine .inr ⟨pb, po, cap, Nat.lt_of_lt_of_le h1 x.size, h2, h3, fun i hi => ?_⟩
    obtain ⟨z, z0, z1, hz⟩ := h4 i hi
    exact ⟨z, z0, z1, cell_later x hz⟩

theorem AddRes.month {cal y m d n Y M D : Int} (h : AddRes cal y m d n Y M D) (hz : ¬ (Y = 0 ∧ M = 0 ∧ D = 0)) : 1 ≤ M := by
  unfold AddRes at h
  split at h
  · omega
  · exact (hz h).elim

set_option maxRecDepth 8000 in
set_option maxHeartbeats 16000000 in
theorem lawDays_p (p : Option Addr) (n cap : Nat) (w : World) (hc : CodeIn w w.heap.size (.slice p n cap) n) (hb : n ≤ 1048576) (LW : LibW w) (hM : Months w) (hC : Cals w) (IT : ItoaC w) :
    Calls Tryz.prog 3 #[.slice p n cap] w fun e w' => e = .returned (.bool true) ∧ Ext w w' := by
  have CD := drawDateOf _ n w hc hb
  have CA := fun w' (x : Ext w w') => drawAdd _ n w' (hc.later x) hb
  have fl : decide ((n : Int) > 1048576) = false := by simp; omega
  clear hc
  go_enter Tryz.func3, Tryz.ntmps3
  go_wp2_with fail
  refine CD.mono ?_
  clear CD
  rintro e w1 ⟨c, day, rfl, hcr, hdr, e1⟩
  go_wp2_with fail
  refine (DateOfI c day w1 (hM.later e1) (hC.later e1)).mono ?_
  rintro e w2 ⟨y, m, d, rfl, h1, e2⟩
  have B := Box3.made w2 (.int .i64 y) (.int .i64 m) (.int .i64 d) 26
  have X2 := xt e1 e2
  clear e1 e2
  go_upto_region 5 with fail
  go_cut [37] (fun v wc => v = .bool false ∧ Box3 wc w2.heap.size (.int .i64 y) (.int .i64 m) (.int .i64 d) ∧ Ext w2 wc)
  case first =>
    have B' := B
    obtain ⟨⟨q0, q1, q2⟩, _⟩ := B'
    go_region_held3 (fun w' => w'.cell? ⟨w2.heap.size, 0, none⟩ = some (.int .i64 y) ∧ w'.cell? ⟨w2.heap.size, 1, none⟩ = some (.int .i64 m) ∧ w'.cell? ⟨w2.heap.size, 2, none⟩ = some (.int .i64 d)) (go_keep) (first
      | (go_at_call 7; refine (DateOfS c day _).mono ?_; rintro e w3 ⟨y', m', d', rfl, h2, e3⟩; obtain ⟨rfl, rfl, rfl⟩ := h1.one h2; have Y3 : Ext (w2.alloc (.cells #[.int .i64 y, .int .i64 m, .int .i64 d] 26)) w3 := (by first | exact e3 | exact xt (xd (xr _)) e3); obtain ⟨⟨k0, k1, k2⟩, _⟩ := B.later Y3))
    all_goals go_wp2_with fail
    all_goals
      go_meet
      case rel => exact ⟨rfl, B.later (by first | exact Y3 | exact xd Y3), xt (x1 _ _) (by first | exact Y3 | exact xd Y3)⟩
  case rest =>
    obtain ⟨rfl, B1, x2⟩ := hcut
    have X3 := xt X2 x2
    clear B x2
    by_cases hR : (c = 1 ∨ c = 2) ∧ -1000000 ≤ day ∧ day ≤ 1000000
    · unfold DateRes at h1
      rw [if_pos hR] at h1
      obtain ⟨hcc, hd0, hd1⟩ := hR
      have hdt := h1.1
      have m1 := hdt.1
      have fm : (m == 0) = false := by simp; omega
      have DY := dayI_any c y m d wc (hM.later X3) (hC.later X3)
      rw [hdt.dayP hcc hd0 hd1] at DY
      have B1' := B1
      obtain ⟨⟨q0, q1, q2⟩, _⟩ := B1'
      go_wp2_with fail
      refine DY.mono ?_
      clear DY
      rintro e w4 ⟨rfl, e4⟩
      simp only [optV]
      have B4 := B1.later e4
      have X4 := xt X3 e4
      clear q0 q1 q2 B1 e4
      go_upto_if 60 with fail
      go_cut [] (fun wc => Box3 wc w2.heap.size (.int .i64 y) (.int .i64 m) (.int .i64 d) ∧ Ext w wc)
      case first =>
        by_cases hlt : day < 1000000
        · have fd : decide (day < 1000000) = true := by simp; omega
          have wd : wrap64 (day + 1) = day + 1 := by unfold wrap64; omega
          have wd2 : IntKind.i64.wrap (day + 1) = day + 1 := by rw [IntKind.wrap_i64]; omega
          have B4' := B4
          obtain ⟨⟨q0, q1, q2⟩, _⟩ := B4'
          go_wp2_with fail
          refine (DateOfI c (day + 1) w4 (hM.later X4) (hC.later X4)).mono ?_
          rintro e w5 ⟨y', m', d', rfl, h5, e5⟩
          unfold DateRes at h5
          rw [if_pos ⟨hcc, by omega, by omega⟩] at h5
          have hn := hdt.next h5.1
          have N5 := Box3.made w5 (.int .i64 y') (.int .i64 m') (.int .i64 d') 26
          have X5 := xa (xt X4 e5) (.cells #[.int .i64 y', .int .i64 m', .int .i64 d'] 26)
          have B5 := B4.later (xt e5 (x1 w5 (.cells #[.int .i64 y', .int .i64 m', .int .i64 d'] 26)))
          have hmd := fun k => monthDaysI c y m _ (hM.later (xdNc X5 k))
          rw [if_pos ⟨hcc, hdt.year hcc (by omega) (by omega), hdt.1, hdt.2.1⟩] at hmd
          have ml := mlen_pos c y m
          have dle := hdt.2.2.2.1
          have dge := hdt.2.2.1
          obtain ⟨L, hL⟩ : ∃ L, mlen c y m = L := ⟨_, rfl⟩
          rw [hL] at hmd hn ml dle
          have W1 := fun w => weekdayI day w
          rw [if_pos ⟨hd0, hd1⟩] at W1
          have W2 := fun w => weekdayI (day + 1) w
          rw [if_pos (by omega)] at W2
          obtain ⟨V, hV⟩ : ∃ V, (day + 5) % 7 = V := ⟨_, rfl⟩
          rw [hV] at W1
          have V0 : 0 ≤ V ∧ V < 7 := by omega
          have tV : Int.tmod (V + 1) 7 = (day + 1 + 5) % 7 := by rw [tmod_cases, if_pos (by omega)]; omega
          obtain ⟨U, hU⟩ : ∃ U, (day + 1 + 5) % 7 = U := ⟨_, rfl⟩
          rw [hU] at W2 tV
          have wV : wrap64 (V + 1) = V + 1 := by unfold wrap64; omega
          have wU : wrap64 U = U := by unfold wrap64; omega
          have wdd : wrap64 (d + 1) = d + 1 := by unfold wrap64; omega
          have B5' := B5
          obtain ⟨⟨p0, p1, p2⟩, _⟩ := B5'
          obtain ⟨⟨r0, r1, r2⟩, _⟩ := N5
          clear q0 q1 q2 hM hC h5 h1 hdt hL CA LW IT hV hU e5 B4
          rcases hn with ⟨rfl, rfl⟩ | ⟨hne, hne1, rfl⟩
          · go_wp2_with fail
            go_quiet (first | (go_at_call 11; exact Calls.quiet_of_same (hmd _)))
            go_wp2_with (first | (go_at_call 8; first | (refine (W2 _).mono ?_; rintro e w6 ⟨rfl, rfl⟩) | (refine (W1 _).mono ?_; rintro e w6 ⟨rfl, rfl⟩)))
            all_goals
              go_meet
              case rel => exact ⟨B5.later (xdNc (xr _) _), xdNc X5 _⟩
          · have fL : (d == L) = false := by simp; omega
            have f1 : (d + 1 == 1) = false := by simp; omega
            go_wp2_with fail
            go_quiet (first | (go_at_call 11; exact Calls.quiet_of_same (hmd _)))
            go_wp2_with (first | (go_at_call 8; first | (refine (W2 _).mono ?_; rintro e w6 ⟨rfl, rfl⟩) | (refine (W1 _).mono ?_; rintro e w6 ⟨rfl, rfl⟩)))
            all_goals
              go_meet
              case rel => exact ⟨B5.later (xdNc (xr _) _), xdNc X5 _⟩
        · have fd : decide (day < 1000000) = false := by simp; omega
          go_wp2_with fail
          go_meet
          case rel => exact ⟨B4, X4⟩
      case rest =>
        obtain ⟨B6, X6⟩ := hcut
        clear B4 X4 X3
        have htx := hdt.text hcc hd0 hd1
        have hdp := hdt.dayP hcc hd0 hd1
        clear h1 hdt m1 fm
        go_wp2_with fail
        refine (WeekOfI day _ (hM.later X6) (hC.later X6)).mono ?_
        rintro e w7 ⟨wy, wk, rfl, h7, e7⟩
        go_wp2_with fail
        refine (WeekOfS day w7).mono ?_
        rintro e w8 ⟨wy', wk', rfl, h8, e8⟩
        obtain ⟨rfl, rfl⟩ := h7.one h8
        have X8 := xt (xt X6 e7) e8
        obtain ⟨⟨q0, q1, q2⟩, _⟩ := B6.later (xt e7 e8)
        clear h7 h8 B6 e7 e8
        obtain ⟨s, hsd, _, CI⟩ := dtext_any y m d
        have hs : s = dateB y m d := by
          rcases hsd with h | h
          · exact h.2
          · exact (h.1 htx).elim
        have hsz : s.size ≤ 1048576 := hs ▸ dateB_short htx
        have CI8 := CI w8 (IT.laterR X8)
        have hrd : ∀ r, RdOK s c r → r = some day := fun r h => by subst hs; rw [RdOK.of_text htx h, hdp]
        clear hsd CI hs htx hdp
        go_wp2_with fail
        refine CI8.mono ?_
        clear CI8
        rintro e w9 ⟨rfl, e9⟩
        have X9 := xt X8 e9
        have RI := readI c s w9 hsz (LW.later X9) (hM.later X9) (hC.later X9) (IT.laterR X9)
        clear hsz LW IT e9 X8 q0 q1 q2 X6
        go_wp2_with fail
        refine RI.mono ?_
        clear RI
        rintro e w10 ⟨r, rfl, h10, e10⟩
        obtain rfl := hrd r h10
        simp only [optV]
        have X10 := xt X9 e10
        clear h10 e10 X9 hrd
        go_wp2_with fail
        refine (CA w10 X10).mono ?_
        clear CA
        rintro e w11 ⟨c', y', m', d', k, rfl, hk, e11⟩
        have X11 := xa (xt X10 e11) (.cells #[.int .i64 y', .int .i64 m', .int .i64 d'] 26)
        have D11 := Box3.made w11 (.int .i64 y') (.int .i64 m') (.int .i64 d') 26
        have D11' := D11
        obtain ⟨⟨q0, q1, q2⟩, _⟩ := D11'
        clear e11 X10
        go_wp2_with fail
        refine (AddI c' y' m' d' k _ (hM.later X11)).mono ?_
        rintro e w12 ⟨Y, M, D, rfl, h12, e12⟩
        have X12 := xa (xt X11 e12) (.cells #[.int .i64 Y, .int .i64 M, .int .i64 D] 26)
        have D12 := (D11.later e12).later (x1 w12 (.cells #[.int .i64 Y, .int .i64 M, .int .i64 D] 26))
        have E12 := Box3.made w12 (.int .i64 Y) (.int .i64 M) (.int .i64 D) 26
        clear q0 q1 q2 D11 e12 X11
        go_upto_region 27 with fail
        go_cut [149] (fun v wc => v = .bool false ∧ Box3 wc w11.heap.size (.int .i64 y') (.int .i64 m') (.int .i64 d') ∧ Box3 wc w12.heap.size (.int .i64 Y) (.int .i64 M) (.int .i64 D) ∧ Ext w wc)
        case first =>
          have D12' := D12
          have E12' := E12
          obtain ⟨⟨q0, q1, q2⟩, _⟩ := D12'
          obtain ⟨⟨r0, r1, r2⟩, _⟩ := E12'
          go_region_held3 (fun w' => (w'.cell? ⟨w11.heap.size, 0, none⟩ = some (.int .i64 y') ∧ w'.cell? ⟨w11.heap.size, 1, none⟩ = some (.int .i64 m') ∧ w'.cell? ⟨w11.heap.size, 2, none⟩ = some (.int .i64 d')) ∧ w'.cell? ⟨w12.heap.size, 0, none⟩ = some (.int .i64 Y) ∧ w'.cell? ⟨w12.heap.size, 1, none⟩ = some (.int .i64 M) ∧ w'.cell? ⟨w12.heap.size, 2, none⟩ = some (.int .i64 D)) (go_keep) (first
            | (go_at_call 18; refine (AddS c' y' m' d' k _).mono ?_; rintro e w3 ⟨Y', M', D', rfl, h2, e3⟩; obtain ⟨rfl, rfl, rfl⟩ := h12.one h2; have Y3 : Ext (w12.alloc (.cells #[.int .i64 Y, .int .i64 M, .int .i64 D] 26)) w3 := (by first | exact e3 | exact xt (xd (xr _)) e3); obtain ⟨⟨k0, k1, k2⟩, _⟩ := D12.later Y3; obtain ⟨⟨l0, l1, l2⟩, _⟩ := E12.later Y3))
          all_goals go_wp2_with fail
          all_goals
            go_meet
            case rel => exact ⟨rfl, D12.later (by first | exact Y3 | exact xd Y3), E12.later (by first | exact Y3 | exact xd Y3), xt X12 (by first | exact Y3 | exact xd Y3)⟩
        case rest =>
          obtain ⟨rfl, D13, E13, X13⟩ := hcut
          clear D12 E12 X12
          have D13' := D13
          have E13' := E13
          obtain ⟨⟨q0, q1, q2⟩, _⟩ := D13'
          obtain ⟨⟨r0, r1, r2⟩, _⟩ := E13'
          by_cases hz : Y = 0 ∧ M = 0 ∧ D = 0
          · obtain ⟨rfl, rfl, rfl⟩ := hz
            go_wp2_with fail
            go_ret
            exact ⟨rfl, X13⟩
          · have fM : (M == 0) = false := by have := h12.month hz; simp; omega
            have wk' : wrap64 (-k) = -k := by unfold wrap64; omega
            have wk2 : IntKind.i64.wrap (-k) = -k := by rw [IntKind.wrap_i64]; omega
            go_wp2_with fail
            refine (AddI c' Y M D (-k) _ (hM.later X13)).mono ?_
            rintro e w14 ⟨Y3, M3, D3, rfl, h14, e14⟩
            obtain ⟨rfl, rfl, hle⟩ := h12.back hz h14
            have fle : decide (D3 ≤ d') = true := by simp; omega
            have X14 := xa (xt X13 e14) (.cells #[.int .i64 Y3, .int .i64 M3, .int .i64 D3] 26)
            obtain ⟨⟨k0, k1, k2⟩, _⟩ := (D13.later e14).later (x1 w14 (.cells #[.int .i64 Y3, .int .i64 M3, .int .i64 D3] 26))
            clear q0 q1 q2 r0 r1 r2 h12 h14 D13 E13 e14 X13 hM hC
            go_wp2_with fail
            go_ret
            exact ⟨rfl, X14⟩
    · unfold DateRes at h1
      rw [if_neg hR] at h1
      obtain ⟨rfl, rfl, rfl⟩ := h1
      obtain ⟨⟨q0, q1, q2⟩, _⟩ := B1
      have W1 := weekdayI day wc
      have W2 := weekdayS day wc
      generalize (if -1000000 ≤ day ∧ day ≤ 1000000 then (day + 5) % 7 else -1) = V at W1 W2
      go_wp2_with fail
      refine W1.mono ?_
      rintro e w5 ⟨rfl, rfl⟩
      go_wp2_with fail
      refine W2.mono ?_
      rintro e w6 ⟨rfl, rfl⟩
      go_wp2_with fail
      go_ret
      exact ⟨rfl, X3⟩

end Go.Proofs.YtmcmohooodpfeaaGreatDoor
