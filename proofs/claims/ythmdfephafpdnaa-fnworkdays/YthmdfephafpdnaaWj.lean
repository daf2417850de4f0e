/-
  Workdays, the program's.
-/
import Derived.Test.YthmdfephafpdnaaWc
import Derived.Test.YthmdfephafpdnaaWm
import Derived.Test.YthmdfephafpdnaaWi
namespace Go.Proofs.Ythmdfephafpdnaa
open Go.RowKit

theorem IntsIn.belowN {w : World} {v : Value} {l : List Int} (h : IntsIn w v l) : IntsBelow w.heap.size w v l := by
  obtain ⟨p, cap, h1, h2, h3⟩ := h
  refine ⟨p, cap, h1, h2, fun h0 => ?_⟩
  obtain ⟨b, o, h4, h5⟩ := h3 h0
  exact ⟨b, o, h4, World.block_lt_of_cell? _ _ (h5 0 h0), h5⟩

set_option maxRecDepth 8000 in
set_option maxHeartbeats 4000000 in
theorem inI (a b : Int) (v : Value) (l : List Int) (w : World) (hl : l.length ≤ 1000) (hv : IntsIn w v l) (ha : goodDay a) (hb : goodDay b) :
    Calls Try.prog 15 #[.int .i64 a, .int .i64 b, v] w fun e w' => e = .returned (.int .i64 (workN a b l)) ∧ Ext w w' := by
  obtain ⟨a0, a1⟩ := ha
  obtain ⟨b0, b1⟩ := hb
  have A1 := aheadI (b + 1) w (by omega) (by omega)
  have A2 := aheadI a w (by omega) (by omega)
  have nb := aheadW_near (b + 1)
  have na := aheadW_near a
  have HN : Hid (workN a b l = aheadW (b + 1) - aheadW a - ((Lib.compact (l.mergeSort fun x y => decide (x ≤ y))).filter (okD a b)).length) := by
    unfold Hid workN
    rw [cntD_compact]
  obtain ⟨y1, hy1⟩ : ∃ y, aheadW (b + 1) = y := ⟨_, rfl⟩
  obtain ⟨y2, hy2⟩ : ∃ y, aheadW a = y := ⟨_, rfl⟩
  rw [hy1] at A1 nb HN
  rw [hy2] at A2 na HN
  have hb1 := hv.belowN
  have hlm : (l.mergeSort fun x y => decide (x ≤ y)).length = l.length := List.length_mergeSort _
  obtain ⟨p, cap, hv1, hcap, _⟩ := id hv
  subst hv1
  have VC := valuesC p l.length cap w
  have SC := sortedC w.heap.size (.slice p l.length cap) l hl (w.alloc (.cells #[.slice p l.length cap] 23)) (by simp) (Boxed.new w _ _).cell (by
    have := hb1.below (x1 w (.cells #[.slice p l.length cap] 23))
    obtain ⟨p', c', e1, e2, e3⟩ := this
    exact ⟨p', c', e1, e2, fun h0 => by obtain ⟨b', o, h4, h5, h6⟩ := e3 h0; exact ⟨b', o, h4, by simp; omega, h6⟩⟩)
  have CC := fun (u : Value) (W : World) h1 h2 => compactC (w.heap.size + 1) u (l.mergeSort fun x y => decide (x ≤ y)) W h1 (by rw [hlm]; exact hl) h2
  rw [World.size_alloc] at SC
  clear hy1 hy2 hv hb1 hcap
  go_enter Try.func15, Try.ntmps15
  go_wp2_with fail
  refine A1.mono ?_
  rintro e w1 ⟨rfl, rfl⟩
  go_wp2_with fail
  refine A2.mono ?_
  rintro e w2 ⟨rfl, rfl⟩
  go_wp2_with fail
  refine VC.mono ?_
  rintro e w3 ⟨rfl, rfl⟩
  go_wp2_with fail
  refine SC.mono ?_
  rintro e w4 ⟨u, rfl, hrow, hB⟩
  go_wp2_with fail
  refine (CC u w4 (by rw [hlm]; exact hrow) (by have := hB.size; simpa using this)).mono ?_
  rintro e w5 ⟨u', rfl, hI, hB5⟩
  have X5 : Ext w2 w5 := ((x1 w2 (.cells #[.slice p l.length cap] 23)).trans (hB.mono (by omega))).trans (hB5.mono (by omega))
  obtain ⟨c, hc⟩ : ∃ c, Lib.compact (l.mergeSort fun x y => decide (x ≤ y)) = c := ⟨_, rfl⟩
  have hcl : c.length ≤ 1000 := by
    have : (Lib.compact (l.mergeSort fun x y => decide (x ≤ y))).length ≤ (l.mergeSort fun x y => decide (x ≤ y)).length := by
      unfold Lib.compact Lib.compactUpTo
      rw [List.length_map]
      exact Nat.le_trans (List.length_filter_le _ _) (by simp)
    rw [hc] at this
    omega
  rw [hc] at hI HN
  clear hc hB5 hB hrow CC SC VC A1 A2
  obtain ⟨p', cap', rfl, hcap', hcell⟩ := hI
  obtain ⟨L, hL⟩ : ∃ L, c.length = L := ⟨_, rfl⟩
  rw [hL] at hcl hcap' hcell ⊢
  have HL : Hid (c.length = L) := hL
  have HI : Hid (0 < L → ∃ b o, p' = some ⟨b, o, none⟩ ∧ ∀ i, i < L → w5.cell? ⟨b, o + i, none⟩ = some (.int .i64 (c.getD i 0))) := hcell
  clear hL hcell hlm hl
  have ny : -10000000 ≤ y1 - y2 ∧ y1 - y2 ≤ 10000000 := by omega
  clear nb na
  go_wp2_with fail
  go_loop [7, 21] (fun n j => ∃ k : Nat, k ≤ L ∧ j = .int .i64 k ∧ n = .int .i64 (y1 - y2 - ((c.take k).filter (okD a b)).length)) (fun _ j => L - (intOf j).toNat)
  case atStart => exact ⟨0, by omega, rfl, by simp⟩
  case round =>
    obtain ⟨k, hk, rfl, rfl⟩ := hrel
    have cb : ((c.take k).filter (okD a b)).length ≤ 1000 := Nat.le_trans (List.length_filter_le _ _) (by rw [List.length_take]; omega)
    obtain ⟨C, hC⟩ : ∃ C, ((c.take k).filter (okD a b)).length = C := ⟨_, rfl⟩
    rw [hC] at cb ⊢
    by_cases hlt : k < L
    · obtain ⟨sb, so, rfl, hcell⟩ := HI.out (by omega)
      have hcc := hcell k hlt
      have HT : c.take (k + 1) = c.take k ++ [c.getD k 0] := by
        have hml' : k < c.length := by rw [HL.out]; omega
        rw [List.take_succ_eq_append_getElem hml']
        simp [List.getD, List.getElem?_eq_getElem hml']
      obtain ⟨f, hf⟩ : ∃ f, c.getD k 0 = f := ⟨_, rfl⟩
      rw [hf] at hcc HT
      have HCo : ((c.take (k + 1)).filter (okD a b)).length = C + (if okD a b f = true then 1 else 0) := by
        rw [HT, List.filter_append, List.length_append, hC, List.filter_cons]
        split <;> simp
      have hlt' : (k : Int) < (L : Int) := by omega
      clear hcell hC hf HI HT
      by_cases fa : a ≤ f
      · by_cases fb : f ≤ b
        · have WD := weekdayI f w5
          rw [if_pos ⟨by omega, by omega⟩] at WD
          by_cases fk : (f + 5) % 7 < 5
          · rw [if_pos (by unfold okD wkd; simp [fa, fb, fk])] at HCo
            have HC : Hid (((c.take (k + 1)).filter (okD a b)).length = C + 1) := HCo
            clear HCo
            have fk' : decide ((f + 5) % 7 < 5) = true := decide_eq_true fk
            go_wp2_with fail
            refine WD.mono ?_
            rintro e w6 ⟨rfl, rfl⟩
            go_wp2_with fail
            go_round
            case rel => exact ⟨k + 1, by omega, by simp, congrArg _ (by rw [HC.out]; omega)⟩
            case measure => simp [intOf]; omega
          · rw [if_neg (fun h => fk (by unfold okD wkd at h; simp at h; omega))] at HCo
            have HC : Hid (((c.take (k + 1)).filter (okD a b)).length = C + 0) := HCo
            clear HCo
            have fk' : decide ((f + 5) % 7 < 5) = false := decide_eq_false fk
            go_wp2_with fail
            refine WD.mono ?_
            rintro e w6 ⟨rfl, rfl⟩
            go_wp2_with fail
            go_round
            case rel => exact ⟨k + 1, by omega, by simp, congrArg _ (by rw [HC.out]; omega)⟩
            case measure => simp [intOf]; omega
        · rw [if_neg (fun h => fb (by unfold okD wkd at h; simp at h; omega))] at HCo
          have HC : Hid (((c.take (k + 1)).filter (okD a b)).length = C + 0) := HCo
          clear HCo
          go_wp2_with fail
          go_round
          case rel => exact ⟨k + 1, by omega, by simp, congrArg _ (by rw [HC.out]; omega)⟩
          case measure => simp [intOf]; omega
      · rw [if_neg (fun h => fa (by unfold okD wkd at h; simp at h; omega))] at HCo
        have HC : Hid (((c.take (k + 1)).filter (okD a b)).length = C + 0) := HCo
        clear HCo
        go_wp2_with fail
        go_round
        case rel => exact ⟨k + 1, by omega, by simp, congrArg _ (by rw [HC.out]; omega)⟩
        case measure => simp [intOf]; omega
    · obtain rfl : k = L := by omega
      have HR : Hid (workN a b l = y1 - y2 - C) := by
        unfold Hid
        rw [HN.out, ← hC, ← HL.out, List.take_length]
      clear hC
      go_wp2_with fail
      go_ret
      exact ⟨ret_int HR.out.symm, X5⟩

end Go.Proofs.Ythmdfephafpdnaa
