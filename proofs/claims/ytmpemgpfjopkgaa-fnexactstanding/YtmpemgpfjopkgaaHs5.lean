/-
  Chapter 15: the specification: which steps stand.
-/
import Derived.Test.YtmpemgpfjopkgaaHs4
namespace Go.Proofs.Ytmpemgpfjopkgaa
open Go.RowKit

abbrev bV (b : Bool) : Value := .bool b
theorem vecB_made (w : World) (n : Nat) (t : TypeId) : Vec (w.alloc (.cells (madeCells #[.bool false] n) t)) w.heap.size ((List.replicate n false).map bV) := by
  intro i v hi
  have R := World.rowIs_made w (.bool false) n t
  have hin : i < n := by have := (List.getElem?_eq_some_iff.1 hi).1; simpa using this
  rw [List.getElem?_map, List.getElem?_replicate, if_pos hin] at hi
  cases hi
  exact ⟨World.rowIs.cell R (i := i) hin, World.rowIs.frozen R i⟩
theorem rep_at (i k : Nat) (acc : Bool) (T : List Bool) (h : i + 1 ≤ k) : (List.replicate i false ++ acc :: T)[k]? = T[k - (i + 1)]? := by
  rw [List.getElem?_append_right (by simp; omega), List.length_replicate, show k - i = (k - (i + 1)) + 1 by omega, List.getElem?_cons_succ]
theorem rep_set (i : Nat) (acc b : Bool) (T : List Bool) : (List.replicate i false ++ acc :: T).set i b = List.replicate i false ++ b :: T := by
  rw [List.set_append_right _ _ (by simp)]
  simp
theorem rep_succ (i : Nat) (T : List Bool) : List.replicate (i + 1) false ++ T = List.replicate i false ++ false :: T := by
  rw [List.replicate_succ', List.append_assoc]
  rfl
set_option maxRecDepth 8000 in
set_option maxHeartbeats 4000000 in
theorem standS (v : Value) (l : List STP) (w : World) (h : StpsIn w v l) (hl : l.length ≤ 60) (ho : okL l l.length = true) :
    Calls Try.prog 21 #[v] w fun z w' => z = .returned (ownV w.heap.size l.length) ∧ Vec w' w.heap.size ((stV (undos l) 0).map bV) ∧ Ext w w' := by
  obtain ⟨p, cap, rfl, hcap, hrow⟩ := h
  obtain ⟨n, hn⟩ : ∃ n, l.length = n := ⟨_, rfl⟩
  have HN : Hid (l.length = n) := hn
  have hmk := run_make_row' (P := Try.prog) 24 4 (.bool false) 1 Try.underlying24 infoBool rfl .i64 .i64 n (by omega) (by omega)
  have V0 := vecB_made w n 4
  have X0 := x1 w (.cells (madeCells #[.bool false] n) 4)
  rw [hn] at hl hcap hrow ho ⊢
  obtain ⟨us, hus⟩ : ∃ us, undos l = us := ⟨_, rfl⟩
  have HU : Hid (us.length = n ∧ ∀ (k : Nat) (e : STP), l[k]? = some e → us[k]? = some e.u.toNat ∧ 0 ≤ e.u ∧ (k < n → e.u ≤ k)) := by
    refine ⟨by rw [← hus, undos_length, hn], fun k e he => ?_⟩
    have hk : k < n := by rw [← hn]; exact (List.getElem?_eq_some_iff.1 he).1
    have := STP.ok_u (okL_step ho hk he)
    exact ⟨by rw [← hus]; exact undos_at he, this.1, fun _ => this.2⟩
  rw [hus]
  have HRow : Hid (0 < n → ∃ b o, p = some ⟨b, o, none⟩ ∧ RowSt w b o l) := hrow
  obtain ⟨wa, ha⟩ : ∃ wa, w.alloc (.cells (madeCells #[.bool false] n) 4) = wa := ⟨_, rfl⟩
  rw [ha] at V0 X0
  obtain ⟨g, hg⟩ : ∃ g, w.heap.size = g := ⟨_, rfl⟩
  have HG : Hid (w.heap.size ≤ g) := by show _ ≤ _; omega
  rw [hg] at V0 ⊢
  have H0 : Hid (Vec wa g ((List.replicate n false ++ stV (us.drop n) n).map bV)) := by
    show Vec _ _ _
    rw [List.drop_eq_nil_of_le (by rw [HU.out.1]; exact Nat.le_refl _)]
    show Vec _ _ ((List.replicate n false ++ []).map bV)
    rw [List.append_nil]
    exact V0
  clear hrow V0 hn hus ho
  go_enter Try.func21, Try.ntmps21
  go_wp2_with fail
  clear hmk ha
  go_loopw [4] (fun s wr => ∃ (j : Nat) (z : Int), j ≤ n ∧ z = (j : Int) - 1 ∧ s = .int .i64 z ∧ Hid (Vec wr g ((List.replicate j false ++ stV (us.drop j) j).map bV)) ∧ Ext w wr) (fun s _ => (intOf s + 1).toNat)
  case atStart => exact ⟨n, (n : Int) - 1, by omega, rfl, by go_num, H0, X0⟩
  case round =>
    obtain ⟨j, z, hj, hz, rfl, HV, X⟩ := hrel
    by_cases hj0 : j = 0
    · subst hj0
      obtain rfl : z = -1 := by omega
      clear hz
      have HF : Hid (Vec wr g ((stV us 0).map bV)) := HV.out
      clear HV
      go_wp2_with fail
      go_ret
      exact ⟨rfl, HF.out, X⟩
    · obtain ⟨i, rfl⟩ : ∃ i, j = i + 1 := ⟨j - 1, by omega⟩
      obtain rfl : z = (i : Int) := by omega
      clear hz
      obtain ⟨T, hT⟩ : ∃ T, stV (us.drop (i + 1)) (i + 1) = T := ⟨_, rfl⟩
      obtain ⟨R, hR⟩ : ∃ R, us.drop (i + 1) = R := ⟨_, rfl⟩
      have HTl : Hid (T.length = n - (i + 1) ∧ R.length = n - (i + 1)) := by
        refine ⟨?_, ?_⟩
        · rw [← hT, stV_length, List.length_drop, HU.out.1]
        · rw [← hR, List.length_drop, HU.out.1]
      have HTR : Hid (stV (us.drop (i + 1)) (i + 1) = T ∧ us.drop (i + 1) = R) := ⟨hT, hR⟩
      have V1 : Vec wr g ((List.replicate i false ++ false :: T).map bV) := by
        have := HV.out
        rw [rep_succ, hT] at this
        exact this
      have hil : i < n := by omega
      have hln : ((List.replicate i false ++ false :: T).map bV).length = n := by have := HTl.out.1; simp; omega
      obtain ⟨v0, hv0⟩ : ∃ v0, ((List.replicate i false ++ false :: T).map bV)[i]? = some v0 := ⟨_, List.getElem?_eq_getElem (by omega)⟩
      have c0 := (V1 i v0 hv0).1
      have f0 := (V1 i v0 hv0).2
      have V2 := V1.put i (by omega) (bV true)
      rw [← List.map_set, rep_set] at V2
      have X2 := xset X (p := ⟨g, i, none⟩) HG.out (bV true)
      obtain ⟨w2, hw2⟩ : ∃ w2, wr.setCell ⟨g, i, none⟩ (bV true) = w2 := ⟨_, rfl⟩
      rw [hw2] at V2 X2
      have HS : Hid (Vec w2 g ((List.replicate i false ++ (!tkB (T.take 0) R (i + 1)) :: T).map bV)) := by
        have : tkB (T.take 0) R (i + 1) = false := by simp [tkB]
        show Vec _ _ _
        rw [this]
        exact V2
      have i2 : (i : Int) < (n : Int) := by omega
      clear V1 V2 hv0 HV hT hR hln
      go_wp2_with fail
      clear c0 f0 hw2
      obtain ⟨wo, hwo⟩ : ∃ wo, wo = wr := ⟨_, rfl⟩
      subst hwo
      go_loopw [5] (fun s wq => ∃ k : Nat, i + 1 ≤ k ∧ k ≤ n ∧ s = .int .i64 k ∧ Hid (Vec wq g ((List.replicate i false ++ (!tkB (T.take (k - (i + 1))) R (i + 1)) :: T).map bV)) ∧ Ext w wq) (fun s _ => n - (intOf s).toNat)
      case atStart => exact ⟨i + 1, by omega, by omega, by go_num, by rw [Nat.sub_self]; exact HS, X2⟩
      case round =>
        obtain ⟨k, hk1, hk2, rfl, HQ, Xq⟩ := hrel
        by_cases hlt : k < n
        · obtain ⟨e, he⟩ : ∃ e, l[k]? = some e := ⟨_, List.getElem?_eq_getElem (by rw [HN.out]; exact hlt)⟩
          obtain ⟨b, o, rfl, hRw⟩ := HRow.out (by omega)
          obtain ⟨cv, _, a0, _⟩ := (hRw.later Xq) k e he
          have hu := HU.out.2 k e he
          obtain ⟨tb, htb⟩ : ∃ tb, T[k - (i + 1)]? = some tb := ⟨_, List.getElem?_eq_getElem (by have := HTl.out.1; omega)⟩
          have hru : R[k - (i + 1)]? = some e.u.toNat := by
            rw [← HTR.out.2, List.getElem?_drop, show i + 1 + (k - (i + 1)) = k by omega]
            exact hu.1
          obtain ⟨acc, hacc⟩ : ∃ acc, (!tkB (T.take (k - (i + 1))) R (i + 1)) = acc := ⟨_, rfl⟩
          have VQ : Vec wr g ((List.replicate i false ++ acc :: T).map bV) := by rw [← hacc]; exact HQ.out
          have HST : Hid ((!tkB (T.take (k + 1 - (i + 1))) R (i + 1)) = (acc && !(tb && (e.u.toNat == i + 1)))) := by
            show _ = _
            rw [show k + 1 - (i + 1) = (k - (i + 1)) + 1 by omega, tkB_take_succ T R _ _ tb _ htb hru, ← hacc, Bool.not_or]
          have hbk : ((List.replicate i false ++ acc :: T).map bV)[k]? = some (bV tb) := by
            rw [List.getElem?_map, rep_at _ _ _ _ hk1, htb]
            rfl
          have c1 := (VQ k _ hbk).1
          have i3 : (k : Int) < (n : Int) := by omega
          have hur := hu.2.1
          obtain ⟨u, ech⟩ := e
          dsimp only at a0 HST hur
          clear hRw he hu htb hru hacc HQ hbk
          cases tb
          · have HZ : Hid (Vec wr g ((List.replicate i false ++ (!tkB (T.take (k + 1 - (i + 1))) R (i + 1)) :: T).map bV)) := by
              show Vec _ _ _
              rw [HST.out]
              simp only [Bool.false_and, Bool.not_false, Bool.and_true]
              exact VQ
            clear VQ
            go_wp2_with fail
            go_roundw
            case rel => exact ⟨k + 1, by omega, by omega, by go_num, HZ, Xq⟩
            case measure => simp [intOf]; omega
          · by_cases hui : u = ((i + 1 : Nat) : Int)
            · subst hui
              have hln : ((List.replicate i false ++ acc :: T).map bV).length = n := by have := HTl.out.1; simp; omega
              obtain ⟨v0, hv0⟩ : ∃ v0, ((List.replicate i false ++ acc :: T).map bV)[i]? = some v0 := ⟨_, List.getElem?_eq_getElem (by omega)⟩
              have c2 := (VQ i v0 hv0).1
              have f2 := (VQ i v0 hv0).2
              have V3 := VQ.put i (by omega) (bV false)
              rw [← List.map_set, rep_set] at V3
              have X3 := xset Xq (p := ⟨g, i, none⟩) HG.out (bV false)
              obtain ⟨w3, hw3⟩ : ∃ w3, wr.setCell ⟨g, i, none⟩ (bV false) = w3 := ⟨_, rfl⟩
              rw [hw3] at V3 X3
              have HZ : Hid (Vec w3 g ((List.replicate i false ++ (!tkB (T.take (k + 1 - (i + 1))) R (i + 1)) :: T).map bV)) := by
                show Vec _ _ _
                rw [HST.out]
                have : (acc && !(true && ((((i + 1 : Nat) : Int)).toNat == i + 1))) = false := by simp
                rw [this]
                exact V3
              clear VQ V3 hv0 hln
              go_wp2_with fail
              go_roundw
              case rel => exact ⟨k + 1, by omega, by omega, by go_num, HZ, X3⟩
              case measure => simp [intOf]; omega
            · have HZ : Hid (Vec wr g ((List.replicate i false ++ (!tkB (T.take (k + 1 - (i + 1))) R (i + 1)) :: T).map bV)) := by
                show Vec _ _ _
                rw [HST.out]
                have : (u.toNat == i + 1) = false := by simp; omega
                rw [this]
                simp only [Bool.and_false, Bool.not_false, Bool.and_true]
                exact VQ
              have hue : (u == (i : Int) + 1) = false := by simp; omega
              clear VQ
              go_wp2_with fail
              go_roundw
              case rel => exact ⟨k + 1, by omega, by omega, by go_num, HZ, Xq⟩
              case measure => simp [intOf]; omega
        · obtain rfl : k = n := by omega
          have HZ : Hid (Vec wr g ((List.replicate i false ++ stV (us.drop i) i).map bV)) := by
            have h1 := HQ.out
            rw [List.take_of_length_le (by rw [HTl.out.1]; exact Nat.le_refl _)] at h1
            obtain ⟨e, he⟩ : ∃ e, l[i]? = some e := ⟨_, List.getElem?_eq_getElem (by rw [HN.out]; omega)⟩
            show Vec _ _ _
            rw [stV_at (HU.out.2 i e he).1, HTR.out.1, HTR.out.2]
            exact h1
          clear HQ
          go_wp2_with fail
          go_roundw
          case rel => exact ⟨i, (i : Int) - 1, by omega, rfl, by go_num, HZ, Xq⟩
          case measure => simp [intOf]

end Go.Proofs.Ytmpemgpfjopkgaa
