/-
  Chapter 15: the specification: steps as said, which stand, the last of a kind.
-/
import Derived.Test.YtmpemgpfjopkgaaHs3
import Derived.Test.YtmpemgpfjopkgaaHs0
import Derived.Test.YtmpemgpfjopkgaaBv
namespace Go.Proofs.Ytmpemgpfjopkgaa
open Go.RowKit

set_option maxRecDepth 8000 in
set_option maxHeartbeats 4000000 in
theorem stepsS (v : Value) (l : List STP) (w : World) (h : StpsIn w v l) (hl : l.length ≤ 1048576) (hc : ∀ e ∈ l, e.ch.length ≤ 1048576) :
    Calls Try.prog 20 #[v] w fun z w' => z = .returned (.bool (okL l l.length && decide (l.length ≤ 60))) ∧ Ext w w' := by
  obtain ⟨p, cap, rfl, hcap, hrow⟩ := h
  obtain ⟨n, hn⟩ : ∃ n, l.length = n := ⟨_, rfl⟩
  have HN : Hid (l.length = n) := hn
  rw [hn] at hl hcap hrow ⊢
  have HRow : Hid (0 < n → ∃ b o, p = some ⟨b, o, none⟩ ∧ RowSt w b o l) := hrow
  have HC : Hid (∀ e ∈ l, e.ch.length ≤ 1048576) := hc
  clear hrow hc hn
  go_enter Try.func20, Try.ntmps20
  go_wp2_with fail
  go_loopw [9] (fun j wr => ∃ k : Nat, k ≤ n ∧ j = .int .i64 k ∧ Hid (okL l k = true) ∧ Ext w wr) (fun j _ => n - (intOf j).toNat)
  case atStart => exact ⟨0, by omega, rfl, rfl, xr _⟩
  case round =>
    obtain ⟨k, hk, rfl, HA, X⟩ := hrel
    by_cases hlt : k < n
    · obtain ⟨e, he⟩ : ∃ e, l[k]? = some e := ⟨_, List.getElem?_eq_getElem (by rw [HN.out]; exact hlt)⟩
      obtain ⟨b, o, rfl, hR⟩ := HRow.out (by omega)
      obtain ⟨cv, hd, a0, a1⟩ := (hR.later X) k e he
      have HT : Hid (okL l (k + 1) = e.ok k) := by show _ = _; rw [okL_at he, HA.out]; rfl
      have HB : Hid (e.ok k = false → (okL l n && decide (n ≤ 60)) = false) := fun hf => by
        rw [okL_bad (k + 1) hlt (by rw [HT.out]; exact hf)]
        rfl
      have hm := HC.out e (List.mem_of_getElem? he)
      obtain ⟨u, ch⟩ := e
      obtain ⟨p2, cap2, rfl, hcap2, hrow2⟩ := hd
      obtain ⟨m, hm'⟩ : ∃ m, ch.length = m := ⟨_, rfl⟩
      dsimp only at hcap2 hrow2 hm a0 a1
      rw [hm'] at hcap2 hrow2 hm a1
      have HM : Hid (ch.length = m) := hm'
      have HR2 : Hid (0 < m → ∃ b o, p2 = some ⟨b, o, none⟩ ∧ RowCh wr b o ch) := hrow2
      have i2 : (k : Int) < (n : Int) := by omega
      have X1 := x1 wr (.cells #[.int .i64 u, .slice p2 m cap2] 41)
      have B1 := vec_made wr [.int .i64 u, .slice p2 m cap2] 41
      change Vec (wr.alloc (.cells #[.int .i64 u, .slice p2 m cap2] 41)) _ _ at B1
      obtain ⟨wb, hb⟩ : ∃ wb, wr.alloc (.cells #[.int .i64 u, .slice p2 m cap2] 41) = wb := ⟨_, rfl⟩
      rw [hb] at X1 B1
      have d0 := (B1 0 _ rfl).1
      have d1 := (B1 1 _ rfl).1
      clear hR he hrow2
      by_cases hu : u = 0
      · subst hu
        have HO : Hid ((STP.mk 0 ch).ok k = ((decide (1 ≤ m) && decide (m ≤ 20)) && ch.all CH.ok)) := by
          show _ = _
          unfold STP.ok
          simp only [if_true, hm']
        clear hm'
        have g0 : decide ((k : Int) < 0) = false := by simp
        by_cases h1 : 1 ≤ m ∧ m ≤ 20
        · have g1 : decide ((m : Int) < 1) = false := decide_eq_false (by omega)
          have g2 : decide ((20 : Int) < (m : Int)) = false := decide_eq_false (by omega)
          go_wp2_with fail
          clear a0 a1 hb d0 d1
          obtain ⟨wo, hwo⟩ : ∃ wo, wo = wr := ⟨_, rfl⟩
          subst hwo
          go_loopw [52] (fun j wq => ∃ y : Nat, y ≤ m ∧ j = .int .i64 y ∧ Hid ((ch.take y).all CH.ok = true) ∧ Ext wb wq) (fun j _ => m - (intOf j).toNat)
          case atStart => exact ⟨0, by omega, rfl, by simp [Hid], xr _⟩
          case round =>
            obtain ⟨y, hy, rfl, HY, Xq⟩ := hrel
            by_cases hyt : y < m
            · obtain ⟨c, hcc⟩ : ∃ c, ch[y]? = some c := ⟨_, List.getElem?_eq_getElem (by rw [HM.out]; exact hyt)⟩
              obtain ⟨b2, o2, rfl, hR2⟩ := HR2.out (by omega)
              obtain ⟨c0, c1, c2⟩ := (hR2.later (xt X1 Xq)).all hcc
              have HS : Hid ((ch.take (y + 1)).all CH.ok = ((ch.take y).all CH.ok && c.ok)) := by
                show _ = _
                rw [List.take_add_one, hcc]
                simp
              have HMc : Hid (c ∈ ch) := List.mem_of_getElem? hcc
              obtain ⟨cr, cc, ct⟩ := c
              have i3 : (y : Int) < (m : Int) := by omega
              have X2 := x1 wr (.cells #[.int .i64 cr, .int .i64 cc, sV ct] 53)
              have B2 := vec_made wr [.int .i64 cr, .int .i64 cc, sV ct] 53
              change Vec (wr.alloc (.cells #[.int .i64 cr, .int .i64 cc, sV ct] 53)) _ _ at B2
              obtain ⟨wd, hwd⟩ : ∃ wd, wr.alloc (.cells #[.int .i64 cr, .int .i64 cc, sV ct] 53) = wd := ⟨_, rfl⟩
              rw [hwd] at X2 B2
              obtain ⟨d0, d1, d2⟩ := Vec.three B2
              obtain ⟨q, hq⟩ : ∃ q, goodRB cr cc = q := ⟨_, rfl⟩
              have HQ : Hid ((CH.mk cr cc ct).ok = q) := hq
              have CG : Hid (∀ W, Calls Try.prog 28 #[.int .i64 cr, .int .i64 cc] W fun e w' => e = .returned (.bool q) ∧ Ext W w') := fun W => by rw [← hq]; exact placeS cr cc W
              clear hR2 hcc hq
              dsimp only at c0 c1 c2
              cases q
              all_goals
                go_wp2_with fail
                clear c0 c1 c2 hwd d0 d1 d2
                refine (CG.out wd).mono ?_
                rintro e w3 ⟨rfl, e3⟩
              · have HF := HB.out (by
                  rw [HO.out]
                  have : ch.all CH.ok = false := by
                    rw [Bool.eq_false_iff]
                    intro h
                    have := List.all_eq_true.1 h _ HMc.out
                    rw [HQ.out] at this
                    exact absurd this (by decide)
                  rw [this, Bool.and_false])
                have HF : Hid _ := HF
                go_wp2_with fail
                go_ret
                exact ⟨ret_bool HF.out.symm, xt X (xt X1 (xt Xq (xt X2 e3)))⟩
              · go_wp2_with fail
                go_roundw
                case rel => exact ⟨y + 1, by omega, by go_num, by show _ = _; rw [HS.out, HY.out, HQ.out]; rfl, xt Xq (xt X2 e3)⟩
                case measure => simp [intOf]; omega
            · obtain rfl : y = m := by omega
              have HZ : Hid (okL l (k + 1) = true) := by
                have := HY.out
                rw [List.take_of_length_le (by rw [HM.out]; exact Nat.le_refl _)] at this
                show _ = _
                rw [HT.out, HO.out, this]
                simp [h1]
              clear HY
              go_wp2_with fail
              go_roundw
              case rel => exact ⟨k + 1, by omega, by go_num, HZ, xt X (xt X1 Xq)⟩
              case measure => simp [intOf]; omega
        · have HF := HB.out (by
            rw [HO.out]
            by_cases h2 : 1 ≤ m
            · have h3 : ¬ m ≤ 20 := fun h => h1 ⟨h2, h⟩
              simp [h3]
            · simp [h2])
          have HF : Hid _ := HF
          by_cases h2 : m < 1
          · obtain rfl : m = 0 := by omega
            go_wp2_with fail
            go_ret
            exact ⟨ret_bool HF.out.symm, xt X X1⟩
          · have g1 : decide ((m : Int) < 1) = false := decide_eq_false (by omega)
            have g2 : decide ((20 : Int) < (m : Int)) = true := decide_eq_true (by omega)
            go_wp2_with fail
            go_ret
            exact ⟨ret_bool HF.out.symm, xt X X1⟩
      · have HO : Hid ((STP.mk u ch).ok k = ((decide (0 < u) && decide (u ≤ (k : Int))) && decide (m = 0))) := by
          show _ = _
          unfold STP.ok
          simp only [if_neg hu, hm']
        have hu' : (u == 0) = false := by simpa using hu
        clear hm'
        by_cases h1 : u < 0
        · have HF := HB.out (by rw [HO.out]; have : ¬ 0 < u := by omega
                                simp [this])
          have HF : Hid _ := HF
          go_wp2_with fail
          go_ret
          exact ⟨ret_bool HF.out.symm, xt X X1⟩
        · by_cases h2 : (k : Int) < u
          · have HF := HB.out (by rw [HO.out]; have : ¬ u ≤ (k : Int) := by omega
                                  simp [this])
            have HF : Hid _ := HF
            go_wp2_with fail
            go_ret
            exact ⟨rfl, xt X X1⟩
          · have g1 : decide (0 < u) = true := decide_eq_true (by omega)
            by_cases h3 : m = 0
            · subst h3
              have HZ : Hid (okL l (k + 1) = true) := by
                show _ = _
                rw [HT.out, HO.out]
                have e1 : 0 < u := by omega
                have e2 : u ≤ (k : Int) := by omega
                simp [e1, e2]
              go_wp2_with fail
              clear a0 a1 hb d0 d1
              obtain ⟨wo, hwo⟩ : ∃ wo, wo = wr := ⟨_, rfl⟩
              subst hwo
              go_loopw [52] (fun j wq => j = .int .i64 0 ∧ Ext wb wq) (fun _ _ => 0)
              case atStart => exact ⟨rfl, xr _⟩
              case round =>
                obtain ⟨rfl, Xq⟩ := hrel
                go_wp2_with fail
                go_roundw
                case rel => exact ⟨k + 1, by omega, by go_num, HZ, xt X (xt X1 Xq)⟩
                case measure => simp [intOf]; omega
            · have HF := HB.out (by rw [HO.out]; simp [h3])
              have HF : Hid _ := HF
              have g3 : decide ((0 : Int) < (m : Int)) = true := decide_eq_true (by omega)
              go_wp2_with fail
              go_ret
              exact ⟨rfl, xt X X1⟩
    · obtain rfl : k = n := by omega
      have HZ : Hid ((okL l k && decide (k ≤ 60)) = decide (k ≤ 60)) := by show _ = _; rw [HA.out, Bool.true_and]
      clear HA
      by_cases h6 : k ≤ 60
      · have HR : Hid ((okL l k && decide (k ≤ 60)) = true) := by show _ = _; rw [HZ.out]; exact decide_eq_true h6
        go_wp2_with fail
        go_ret
        exact ⟨ret_bool (by rw [HR.out]; first | rfl | (simp; omega)), X⟩
      · have HR : Hid ((okL l k && decide (k ≤ 60)) = false) := by show _ = _; rw [HZ.out]; exact decide_eq_false h6
        go_wp2_with fail
        go_ret
        exact ⟨ret_bool (by rw [HR.out]; first | rfl | (simp; omega)), X⟩

end Go.Proofs.Ytmpemgpfjopkgaa
