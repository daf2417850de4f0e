/-
  ReadRefBy, the specification's: a part is read.
-/
import Derived.Test.YtifangkifpnnpaaDoorBa
import Derived.Test.YtifangkifpnnpaaDoorRs
namespace Go.Proofs.YtifangkifpnnpaaDoor
open Go.RowKit

theorem mark_b (D : List UInt8) (b : UInt8) : (Lib.hasPrefix D [b] = true → 0 < D.length ∧ D.getD 0 0 = b) ∧ (Lib.hasPrefix D [b] = false → 0 < D.length → D.getD 0 0 ≠ b) := by
  cases D with
  | nil => exact ⟨fun h => by simp [Lib.hasPrefix] at h, fun _ h => by simp at h⟩
  | cons a D =>
    rw [head_cons]
    refine ⟨fun h => ⟨by simp, ?_⟩, fun h _ q => ?_⟩
    · simpa using (beq_iff_eq.1 h).symm
    · have : a = b := by simpa using q
      subst this
      simp at h
theorem byte_first {l D : List UInt8} {i : Nat} (h : l.drop i = D) (hp : i < (bs l).size) : ((bs l)[i]'hp) = D.getD 0 0 := by
  rw [byte_bs hp, show i = i + 0 from rfl, byte_drop h]
theorem byM_open {t : List UInt8} {h : Int} {t1 t2 : List UInt8} {sg n : Int} {q2 : Bool} (q1 : Lib.hasPrefix t [91] = true) (h1 : t.drop 1 = t1) (hq : Lib.hasPrefix t1 [45] = q2) (h2 : (if q2 = true then t1.drop 1 else t1) = t2) (hs : sg = if q2 = true then -1 else 1) (hn : numL (t2.takeWhile isDig) = n) :
    byM t h = if Lib.hasPrefix (t2.dropWhile isDig) [93] = true ∧ 0 ≤ n then (h + sg * n, false, (t2.dropWhile isDig).drop 1) else (0, false, []) := by
  subst h1 hq h2 hs hn
  unfold byM
  rw [if_pos q1]
theorem byM_plain {t : List UInt8} {h : Int} (q1 : Lib.hasPrefix t [91] = false) : byM t h = if t.takeWhile isDig = [] then (h, false, t) else (numL (t.takeWhile isDig), true, t.dropWhile isDig) := by
  unfold byM
  rw [if_neg (by rw [q1]; decide)]

set_option maxRecDepth 8000 in
set_option maxHeartbeats 4000000 in
theorem readByPartS (l : List UInt8) (i : Nat) (h : Int) (w : World) (hl : l.length ≤ 1048576) (hi : i ≤ l.length) (h0 : 1 ≤ h) (h1 : h ≤ 1000) :
    Calls Tryd.prog 64 #[.string (bs l), .int .i64 i, .int .i64 h] w fun e w' => ∃ (n : Int) (fx : Bool) (j : Nat), e = .returned (.tuple #[.int .i64 n, .bool fx, .int .i64 j]) ∧ j ≤ l.length ∧ byM (l.drop i) h = (n, fx, l.drop j) ∧ w' = w := by
  obtain ⟨L, hL⟩ : ∃ k, l.length = k := ⟨_, rfl⟩
  have zL : (bs l).size = L := by rw [bs_size, hL]
  have L20 : (L : Int) ≤ 1048576 := by omega
  obtain ⟨t, hdt⟩ : ∃ t, l.drop i = t := ⟨_, rfl⟩
  obtain ⟨q1, hq1⟩ : ∃ b, Lib.hasPrefix t [91] = b := ⟨_, rfl⟩
  rw [hdt]
  go_enter Tryd.func64, Tryd.ntmps64
  go_upto_region 1 with fail
  go_cut [22] (fun v wd => v = .bool q1 ∧ wd = w)
  case first =>
    obtain ⟨pm1, pm2⟩ := mark_b t 91
    rw [hq1] at pm1 pm2
    have HB := byte_first (l := l) (i := i) hdt
    have hlen := congrArg List.length hdt
    rw [List.length_drop] at hlen
    cases q1
    · by_cases h0 : i < L
      · have hp : i < (bs l).size := by omega
        have hb : ((bs l)[i]'hp) ≠ 91 := by rw [HB hp]; exact pm2 rfl (by omega)
        obtain ⟨c, hc⟩ : ∃ c, ((bs l)[i]'hp) = c := ⟨_, rfl⟩
        rw [hc] at hb
        have hb2 : ((((bs l)[i]'hp).toNat : Int) == 91) = false := by
          rw [hc, beq_eq_false_iff_ne]
          intro q
          exact hb (UInt8.toNat_inj.1 (by show c.toNat = 91; omega))
        have h0' : (i : Int) < (L : Int) := by omega
        clear pm1 pm2 HB hlen hb hc
        go_wp2_with fail
        go_meet
        case rel => exact ⟨rfl, rfl⟩
      · have h0' : ¬ (i : Int) < (L : Int) := by omega
        clear pm1 pm2 HB hlen
        go_wp2_with fail
        go_meet
        case rel => exact ⟨rfl, rfl⟩
    · obtain ⟨h0, hbb⟩ := pm1 rfl
      have hp : i < (bs l).size := by omega
      have hb2 : ((((bs l)[i]'hp).toNat : Int) == 91) = true := by rw [HB hp, hbb]; decide
      have h0' : (i : Int) < (L : Int) := by omega
      clear pm1 pm2 HB hlen hbb h0
      go_wp2_with fail
      go_meet
      case rel => exact ⟨rfl, rfl⟩
  case rest =>
  obtain ⟨rfl, hwc⟩ := hcut
  rw [hwc]
  clear hwc
  cases q1
  · go_wp2_with fail
    go_loop [1] (fun v => ∃ k : Nat, v = .int .i64 ((i + k : Nat) : Int) ∧ i + k ≤ L ∧ Hid ((t.take k).all isDig = true)) (fun v => L - (intOf v).toNat)
    case atStart => exact ⟨0, rfl, by omega, by simp [Hid]⟩
    case round =>
      obtain ⟨k, rfl, hk, HK⟩ := hrel
      have hlen := congrArg List.length hdt
      rw [List.length_drop] at hlen
      obtain ⟨q, hq⟩ : ∃ q, (decide (k < t.length) && isDig (t.getD k 0)) = q := ⟨_, rfl⟩
      obtain ⟨ix, hix⟩ : ∃ ix : Nat, i + k = ix := ⟨_, rfl⟩
      rw [hix]
      have L1 : (ix : Int) ≤ (L : Int) := by omega
      go_upto_region 15 with fail
      go_cut [88] from 79 to 90 (fun v wd => v = .bool q ∧ wd = w)
      case first =>
        by_cases h0 : ix < L
        · have hp : ix < (bs l).size := by omega
          have hb : ((bs l)[ix]'hp) = t.getD k 0 := by rw [byte_bs hp, ← hix, byte_drop hdt]
          obtain ⟨c, hc⟩ : ∃ c, t.getD k 0 = c := ⟨_, rfl⟩
          have hb2 : (((bs l)[ix]'hp).toNat : Int) = (c.toNat : Int) := by rw [hb, hc]
          have h0' : (ix : Int) < (L : Int) := by omega
          have hq' : isDig c = q := by rw [← hq, hc]; simp [show k < t.length by omega]
          have DG := fun w => digitS (c.toNat : Int) w
          obtain ⟨N, hN⟩ : ∃ N : Int, (c.toNat : Int) = N := ⟨_, rfl⟩
          have hq2 : decide (48 ≤ N ∧ N ≤ 57) = q := by
            rw [← hq', isDig]
            exact decide_eq_decide.2 (by omega)
          rw [hN] at hb2 DG
          rw [hq2] at DG
          clear hb hc hq hq' hq2 hN HK hlen
          go_wp2_with (go_at_call 83; refine (DG _).mono ?_; rintro e w' ⟨rfl, rfl⟩)
          go_meet
          case rel => exact ⟨rfl, rfl⟩
        · have h0' : ¬ (ix : Int) < (L : Int) := by omega
          have hq2 : q = false := by rw [← hq]; simp [show ¬ k < t.length by omega]
          clear hq HK hlen
          go_wp2_with fail
          go_meet
          case rel => exact ⟨by rw [hq2], rfl⟩
      case rest =>
        obtain ⟨rfl, hwc⟩ := hcut
        rw [hwc]
        clear hwc
        cases q
        · have HT : t.takeWhile isDig = t.take k ∧ t.dropWhile isDig = t.drop k := by
            have h := all_take HK.out (t.drop k) (fun b hb => by
              have hk2 : k < t.length := by
                rcases Nat.lt_or_ge k t.length with g | g
                · exact g
                · rw [List.drop_of_length_le g] at hb
                  cases hb
              rw [drop_atA hk2] at hb
              simp only [List.head?_cons, Option.some.injEq] at hb
              subst hb
              simpa [hk2] using hq)
            rw [List.take_append_drop] at h
            exact ⟨h.2, h.1⟩
          have hdD : l.drop ix = t.dropWhile isDig := by rw [HT.2, ← hdt, List.drop_drop, hix]
          have HX : (bs l).extract i ix = bs (t.takeWhile isDig) := by rw [ext_listA, hdt, show ix - i = k by omega, HT.1]
          have hke : (t.takeWhile isDig = []) ↔ k = 0 := by
            rw [HT.1]
            constructor
            · intro h
              have := congrArg List.length h
              rw [List.length_take] at this
              simp at this
              rcases this with h | h
              · exact h
              · have h2 : t.length = 0 := by rw [h]; rfl
                omega
            · rintro rfl
              rfl
          by_cases hk0 : k = 0
          · have HM : Hid (byM t h = (h, false, l.drop i)) := by show _ = _; rw [byM_plain hq1, if_pos (hke.2 hk0), hdt]
            have hxi : ix = i := by omega
            subst hxi
            clear hq HK hlen HT hdD HX hke hq1 hdt hix hk0 hk
            go_wp2_with fail
            exact bodyPost_ret (v := .tuple #[.int .i64 h, .bool false, .int .i64 ix]) (by simp [results, Tryd.results64, go_sem]) rfl ⟨h, .inl ⟨ix, rfl, by omega, HM.out, rfl⟩⟩
          · have HM : Hid (byM t h = (numL (t.takeWhile isDig), true, l.drop ix)) := by show _ = _; rw [byM_plain hq1, if_neg (fun z => hk0 (hke.1 z)), hdD]
            have NU := fun w => numS (bs (t.takeWhile isDig)) (t.takeWhile isDig) w (bs_list _)
            have hne : ((ix : Int) == (i : Int)) = false := by rw [beq_eq_false_iff_ne]; omega
            have b1 : (i : Int) ≤ (ix : Int) := by omega
            clear hq HK hlen HT hdD hke hq1 hdt hix hk0 hk
            go_wp2_with fail
            refine (NU _).mono ?_
            rintro e w1 ⟨rfl, rfl⟩
            go_wp2_with fail
            exact bodyPost_ret (v := .tuple #[.int .i64 (numL (t.takeWhile isDig)), .bool true, .int .i64 ix]) (by simp [results, Tryd.results64, go_sem]) rfl ⟨_, true, ix, rfl, by omega, HM.out, rfl⟩
        · have hk1 : k < t.length := by
            have := hq
            simp only [Bool.and_eq_true, decide_eq_true_eq] at this
            exact this.1
          have HK2 : Hid ((t.take (k + 1)).all isDig = true) := by
            have := hq
            simp only [Bool.and_eq_true, decide_eq_true_eq] at this
            show _ = _
            rw [take_at hk1, List.all_append, HK.out, List.all_cons, this.2]
            rfl
          have h2 : ((i + (k + 1) : Nat) : Int) = (ix : Int) + 1 := by omega
          have h3 : ix < L := by omega
          have h4 : i + (k + 1) ≤ L := by omega
          clear hq HK hlen
          go_wp2_with fail
          go_round
          case rel => exact ⟨k + 1, by rw [h2], h4, HK2⟩
          case measure => simp [intOf]; omega
  · have hi1 : i < L := by
      have := ((mark_b t 91).1 hq1).1
      have hlen := congrArg List.length hdt
      rw [List.length_drop] at hlen
      omega
    obtain ⟨i1, hi1'⟩ : ∃ k : Nat, i + 1 = k := ⟨_, rfl⟩
    have hi1c : (i : Int) + 1 = (i1 : Int) := by omega
    obtain ⟨t1, hd1⟩ : ∃ t1, t.drop 1 = t1 := ⟨_, rfl⟩
    have hdt1 : l.drop i1 = t1 := by rw [← hd1, ← hdt, List.drop_drop, ← hi1']
    obtain ⟨q2, hq2⟩ : ∃ b, Lib.hasPrefix t1 [45] = b := ⟨_, rfl⟩
    obtain ⟨t2, hd2⟩ : ∃ t2, (if q2 = true then t1.drop 1 else t1) = t2 := ⟨_, rfl⟩
    obtain ⟨sg, hsg0⟩ : ∃ s : Int, s = if q2 = true then -1 else 1 := ⟨_, rfl⟩
    have hsg : Hid (sg = if q2 = true then -1 else 1) := hsg0
    clear hsg0
    obtain ⟨i2, hi2⟩ : ∃ k : Nat, i1 + (if q2 = true then 1 else 0) = k := ⟨_, rfl⟩
    have hi2L : i2 ≤ L := by
      rw [← hi2]
      split
      · rename_i hq
        have := ((mark_b t1 45).1 (by rw [hq2, hq])).1
        have hlen := congrArg List.length hdt1
        rw [List.length_drop] at hlen
        omega
      · omega
    have hdt2 : l.drop i2 = t2 := by
      rw [← hd2, ← hi2, ← hdt1]
      split
      · rw [List.drop_drop]
      · rfl
    go_upto_region 4 with fail
    go_cut [34] (fun v wd => v = .bool q2 ∧ wd = w)
    case first =>
      obtain ⟨pm1, pm2⟩ := mark_b t1 45
      rw [hq2] at pm1 pm2
      have HB := byte_first (l := l) (i := i1) hdt1
      have hlen := congrArg List.length hdt1
      rw [List.length_drop] at hlen
      cases q2
      · by_cases h0 : i1 < L
        · have hp : i1 < (bs l).size := by omega
          have hb : ((bs l)[i1]'hp) ≠ 45 := by rw [HB hp]; exact pm2 rfl (by omega)
          obtain ⟨c, hc⟩ : ∃ c, ((bs l)[i1]'hp) = c := ⟨_, rfl⟩
          rw [hc] at hb
          have hb2 : ((((bs l)[i1]'hp).toNat : Int) == 45) = false := by
            rw [hc, beq_eq_false_iff_ne]
            intro q
            exact hb (UInt8.toNat_inj.1 (by show c.toNat = 45; omega))
          have h0' : (i1 : Int) < (L : Int) := by omega
          clear pm1 pm2 HB hlen hb hc
          go_wp2_with fail
          go_meet
          case rel => exact ⟨rfl, rfl⟩
        · have h0' : ¬ (i1 : Int) < (L : Int) := by omega
          clear pm1 pm2 HB hlen
          go_wp2_with fail
          go_meet
          case rel => exact ⟨rfl, rfl⟩
      · obtain ⟨h0, hbb⟩ := pm1 rfl
        have hp : i1 < (bs l).size := by omega
        have hb2 : ((((bs l)[i1]'hp).toNat : Int) == 45) = true := by rw [HB hp, hbb]; decide
        have h0' : (i1 : Int) < (L : Int) := by omega
        clear pm1 pm2 HB hlen hbb h0
        go_wp2_with fail
        go_meet
        case rel => exact ⟨rfl, rfl⟩
    case rest =>
    obtain ⟨rfl, hwc⟩ := hcut
    rw [hwc]
    clear hwc
    go_upto_if 34 with fail
    go_cut [1, 9] (fun v u wd => v = .int .i64 i2 ∧ u = .int .i64 sg ∧ wd = w)
    case first =>
      cases q2
      · obtain rfl : i1 = i2 := by simpa using hi2
        obtain rfl : sg = 1 := by simpa using hsg.out
        clear hd1 hd2 hq1 hq2 hdt hdt1 hdt2 hi2 hsg
        go_wp2_with fail
        go_meet
        case rel => exact ⟨rfl, rfl, rfl⟩
      · have hi2c : (i1 : Int) + 1 = (i2 : Int) := by
          have : i1 + 1 = i2 := by simpa using hi2
          omega
        obtain rfl : sg = -1 := by simpa using hsg.out
        clear hd1 hd2 hq1 hq2 hdt hdt1 hdt2 hi2 hsg
        go_wp2_with fail
        go_meet
        case rel => exact ⟨by first | rfl | rw [hi2c], rfl, rfl⟩
    case rest =>
    obtain ⟨rfl, rfl, hwc⟩ := hcut
    rw [hwc]
    clear hwc
    go_wp2_with fail
    go_loop [1] (fun v => ∃ k : Nat, v = .int .i64 ((i2 + k : Nat) : Int) ∧ i2 + k ≤ L ∧ Hid ((t2.take k).all isDig = true)) (fun v => L - (intOf v).toNat)
    case atStart => exact ⟨0, rfl, by omega, by simp [Hid]⟩
    case round =>
      obtain ⟨k, rfl, hk, HK⟩ := hrel
      have hlen := congrArg List.length hdt2
      rw [List.length_drop] at hlen
      obtain ⟨q, hq⟩ : ∃ q, (decide (k < t2.length) && isDig (t2.getD k 0)) = q := ⟨_, rfl⟩
      obtain ⟨ix, hix⟩ : ∃ ix : Nat, i2 + k = ix := ⟨_, rfl⟩
      rw [hix]
      have L1 : (ix : Int) ≤ (L : Int) := by omega
      go_upto_region 8 with fail
      go_cut [47] from 38 to 49 (fun v wd => v = .bool q ∧ wd = w)
      case first =>
        by_cases h0 : ix < L
        · have hp : ix < (bs l).size := by omega
          have hb : ((bs l)[ix]'hp) = t2.getD k 0 := by rw [byte_bs hp, ← hix, byte_drop hdt2]
          obtain ⟨c, hc⟩ : ∃ c, t2.getD k 0 = c := ⟨_, rfl⟩
          have hb2 : (((bs l)[ix]'hp).toNat : Int) = (c.toNat : Int) := by rw [hb, hc]
          have h0' : (ix : Int) < (L : Int) := by omega
          have hq' : isDig c = q := by rw [← hq, hc]; simp [show k < t2.length by omega]
          have DG := fun w => digitS (c.toNat : Int) w
          obtain ⟨N, hN⟩ : ∃ N : Int, (c.toNat : Int) = N := ⟨_, rfl⟩
          have hq2 : decide (48 ≤ N ∧ N ≤ 57) = q := by
            rw [← hq', isDig]
            exact decide_eq_decide.2 (by omega)
          rw [hN] at hb2 DG
          rw [hq2] at DG
          clear hb hc hq hq' hq2 hN HK hlen
          go_wp2_with (go_at_call 83; refine (DG _).mono ?_; rintro e w' ⟨rfl, rfl⟩)
          go_meet
          case rel => exact ⟨rfl, rfl⟩
        · have h0' : ¬ (ix : Int) < (L : Int) := by omega
          have hq2 : q = false := by rw [← hq]; simp [show ¬ k < t2.length by omega]
          clear hq HK hlen
          go_wp2_with fail
          go_meet
          case rel => exact ⟨by rw [hq2], rfl⟩
      case rest =>
        obtain ⟨rfl, hwc⟩ := hcut
        rw [hwc]
        clear hwc
        cases q
        · have HT : t2.takeWhile isDig = t2.take k ∧ t2.dropWhile isDig = t2.drop k := by
            have h := all_take HK.out (t2.drop k) (fun b hb => by
              have hk2 : k < t2.length := by
                rcases Nat.lt_or_ge k t2.length with g | g
                · exact g
                · rw [List.drop_of_length_le g] at hb
                  cases hb
              rw [drop_atA hk2] at hb
              simp only [List.head?_cons, Option.some.injEq] at hb
              subst hb
              simpa [hk2] using hq)
            rw [List.take_append_drop] at h
            exact ⟨h.2, h.1⟩
          have hdD : l.drop ix = t2.dropWhile isDig := by rw [HT.2, ← hdt2, List.drop_drop, hix]
          have HX : (bs l).extract i2 ix = bs (t2.takeWhile isDig) := by rw [ext_listA, hdt2, show ix - i2 = k by omega, HT.1]
          have hke : (t2.takeWhile isDig = []) ↔ k = 0 := by
            rw [HT.1]
            constructor
            · intro h
              have := congrArg List.length h
              rw [List.length_take] at this
              simp at this
              rcases this with h | h
              · exact h
              · have h2 : t2.length = 0 := by rw [h]; rfl
                omega
            · rintro rfl
              rfl
          have NF := numL_fits (t2.takeWhile isDig)
          have NU := fun w => numS (bs (t2.takeWhile isDig)) (t2.takeWhile isDig) w (bs_list _)
          have BO := byM_open (h := h) hq1 hd1 hq2 hd2 hsg.out (rfl : numL (t2.takeWhile isDig) = _)
          obtain ⟨t3, hd3⟩ : ∃ t3, t2.dropWhile isDig = t3 := ⟨_, rfl⟩
          obtain ⟨n, hn⟩ : ∃ n, numL (t2.takeWhile isDig) = n := ⟨_, rfl⟩
          rw [hd3] at BO hdD
          rw [hn] at NF NU BO
          obtain ⟨q5, hq5⟩ : ∃ b, Lib.hasPrefix t3 [93] = b := ⟨_, rfl⟩
          obtain ⟨q3, hq3⟩ : ∃ b, (!(q5 && decide (0 ≤ n))) = b := ⟨_, rfl⟩
          have b1 : (i2 : Int) ≤ (ix : Int) := by omega
          clear hq HK hlen HT hke hix hk hn hd3 hdt2 hdt1
          go_wp2_with fail
          refine (NU _).mono ?_
          rintro e w1 ⟨rfl, rfl⟩
          clear NU HX
          go_upto_region 11 with fail
          go_cut [68] (fun v wd => v = .bool q3 ∧ wd = w1)
          case first =>
            obtain ⟨pm1, pm2⟩ := mark_b t3 93
            rw [hq5] at pm1 pm2
            have HB := byte_first (l := l) (i := ix) hdD
            have hlen := congrArg List.length hdD
            rw [List.length_drop] at hlen
            clear BO hdD hd1 hd2 hq1 hq2 hsg
            cases q5
            · have hq6 : q3 = true := by rw [← hq3]; rfl
              by_cases h0 : ix < L
              · have hp : ix < (bs l).size := by omega
                have hb : ((bs l)[ix]'hp) ≠ 93 := by rw [HB hp]; exact pm2 rfl (by omega)
                obtain ⟨c, hc⟩ : ∃ c, ((bs l)[ix]'hp) = c := ⟨_, rfl⟩
                rw [hc] at hb
                obtain ⟨N, hN⟩ : ∃ N : Int, (((bs l)[ix]'hp).toNat : Int) = N := ⟨_, rfl⟩
                have hb2 : (N == 93) = false := by
                  rw [← hN, hc, beq_eq_false_iff_ne]
                  intro q
                  exact hb (UInt8.toNat_inj.1 (by show c.toNat = 93; omega))
                have hb3 : (N != 93) = true := by rw [bne, hb2]; rfl
                have h0' : ¬ (ix : Int) ≥ (L : Int) := by omega
                have h0'' : decide ((ix : Int) ≥ (L : Int)) = false := decide_eq_false h0'
                clear pm1 pm2 HB hlen hb hc hq5 hq3
                go_wp2_with fail
                go_meet
                case rel => exact ⟨by rw [hq6], rfl⟩
              · have h0' : (ix : Int) ≥ (L : Int) := by omega
                have h0'' : decide ((ix : Int) ≥ (L : Int)) = true := decide_eq_true h0'
                clear pm1 pm2 HB hlen hq5 hq3
                go_wp2_with fail
                go_meet
                case rel => exact ⟨by rw [hq6], rfl⟩
            · obtain ⟨h0, hbb⟩ := pm1 rfl
              have hp : ix < (bs l).size := by omega
              have hb2 : (((bs l)[ix]'hp).toNat : Int) = 93 := by rw [HB hp, hbb]; decide
              have h0' : ¬ (ix : Int) ≥ (L : Int) := by omega
              have h0'' : decide ((ix : Int) ≥ (L : Int)) = false := decide_eq_false h0'
              by_cases hn0 : n < 0
              · have hq6 : q3 = true := by rw [← hq3, decide_eq_false (show ¬ 0 ≤ n by omega)]; rfl
                have g : decide (n < 0) = true := decide_eq_true hn0
                clear pm1 pm2 HB hlen hbb h0 hq5 hq3
                go_wp2_with fail
                go_meet
                case rel => exact ⟨by rw [hq6], rfl⟩
              · have hq6 : q3 = false := by rw [← hq3, decide_eq_true (show 0 ≤ n by omega)]; rfl
                have g : decide (n < 0) = false := decide_eq_false hn0
                clear pm1 pm2 HB hlen hbb h0 hq5 hq3
                go_wp2_with fail
                go_meet
                case rel => exact ⟨by rw [hq6], rfl⟩
          case rest =>
          obtain ⟨rfl, hwc⟩ := hcut
          rw [hwc]
          clear hwc
          cases q3
          · have hg3 : q5 = true ∧ 0 ≤ n := by simpa using hq3
            have hlen := congrArg List.length hdD
            rw [List.length_drop] at hlen
            have ht3 : 0 < t3.length := ((mark_b t3 93).1 (by rw [hq5, hg3.1])).1
            have HM : Hid (byM t h = (h + sg * n, false, l.drop (ix + 1))) := by
              show _ = _
              rw [BO, if_pos ⟨by rw [hq5, hg3.1], hg3.2⟩, ← hdD, List.drop_drop]
            obtain ⟨x, hx⟩ : ∃ x, sg * n = x := ⟨_, rfl⟩
            have hxb : -1000000 ≤ x ∧ x ≤ 1000000 := by
              rw [← hx, hsg.out]
              split <;> omega
            rw [hx] at HM
            have hjx : ((ix + 1 : Nat) : Int) = (ix : Int) + 1 := by omega
            have hjL : ix + 1 ≤ L := by omega
            clear BO hdD hd1 hd2 hq1 hq2 hsg hq5 hq3 hg3 hlen ht3
            go_wp2_with fail
            exact bodyPost_ret (v := .tuple #[.int .i64 (h + x), .bool false, .int .i64 ((ix : Int) + 1)]) (by simp [results, Tryd.results64, go_sem]) rfl ⟨h + x, false, ix + 1, by rw [hjx], by omega, HM.out, rfl⟩
          · have hg3 : ¬ (q5 = true ∧ 0 ≤ n) := by
              intro z
              rw [z.1] at hq3
              simp at hq3
              omega
            have HM : Hid (byM t h = (0, false, l.drop L)) := by
              show _ = _
              rw [BO, if_neg (fun z => hg3 ⟨by rw [← hq5, z.1], z.2⟩), List.drop_of_length_le (by omega)]
            clear BO hdD hd1 hd2 hq1 hq2 hsg hq5 hq3 hg3
            go_wp2_with fail
            exact bodyPost_ret (v := .tuple #[.int .i64 0, .bool false, .int .i64 L]) (by simp [results, Tryd.results64, go_sem]) rfl ⟨0, false, L, rfl, by omega, HM.out, rfl⟩
        · have hk1 : k < t2.length := by
            have := hq
            simp only [Bool.and_eq_true, decide_eq_true_eq] at this
            exact this.1
          have HK2 : Hid ((t2.take (k + 1)).all isDig = true) := by
            have := hq
            simp only [Bool.and_eq_true, decide_eq_true_eq] at this
            show _ = _
            rw [take_at hk1, List.all_append, HK.out, List.all_cons, this.2]
            rfl
          have h2 : ((i2 + (k + 1) : Nat) : Int) = (ix : Int) + 1 := by omega
          have h3 : ix < L := by omega
          have h4 : i2 + (k + 1) ≤ L := by omega
          clear hq HK hlen
          go_wp2_with fail
          go_round
          case rel => exact ⟨k + 1, by rw [h2], h4, HK2⟩
          case measure => simp [intOf]; omega

end Go.Proofs.YtifangkifpnnpaaDoor
