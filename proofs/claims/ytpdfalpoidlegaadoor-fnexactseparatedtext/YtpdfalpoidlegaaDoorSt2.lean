/-
  Chapter 14: SeparatedText, of the specification.
-/
import Derived.Test.YtpdfalpoidlegaaDoorSt1
import Derived.Deep.DeepCutAuto
import Derived.BigQuiet
namespace Go.Proofs.YtpdfalpoidlegaaDoor
open Go.RowKit

set_option maxHeartbeats 1000000 in
theorem markS14 (l : List UInt8) (w : World) : Calls Tryd.prog 10 #[sV l] w fun e w' => e = .returned (.bool (isMk l)) ∧ w' = w := by
  have HK : Hid (isMk l = (l == [44] || l == [59] || l == [9])) := rfl
  obtain ⟨K, hK⟩ : ∃ K, isMk l = K := ⟨_, rfl⟩
  rw [hK] at HK ⊢
  clear hK
  cases h1 : (l == [44])
  · cases h2 : (l == [59])
    · rw [h1, h2] at HK
      go_enter Tryd.func10, Tryd.ntmps10
      go_wp2_with fail
      go_ret
      exact ⟨ret_bool (by rw [HK.out]; simp), rfl⟩
    · rw [h1, h2] at HK
      go_enter Tryd.func10, Tryd.ntmps10
      go_wp2_with fail
      go_ret
      exact ⟨ret_bool (by rw [HK.out]; simp), rfl⟩
  · rw [h1] at HK
    go_enter Tryd.func10, Tryd.ntmps10
    go_wp2_with fail
    go_ret
    exact ⟨ret_bool (by rw [HK.out]; simp), rfl⟩
theorem xdNs {a b : World} (h : Ext a b) (n : Nat) : Ext a (b.drewN n) := ⟨h.os, h.tape, h.output, h.size, h.block⟩
/-- What SeparatedText tells by a mark. -/
def sepA (mk : List UInt8) (L : List (List (List UInt8))) : List UInt8 := if isMk mk = true then sepR (mk.headD 0) L else []

set_option maxRecDepth 8000 in
set_option maxHeartbeats 4000000 in
theorem sepS1 (v : Value) (L : List (List (List UInt8))) (m : UInt8) (w : World) (h : SsIn w v L) (hz : szTT L ≤ 1048576) (hmk : isMk [m] = true) :
    Calls Tryd.prog 5 #[v, sV [m]] w fun e w' => e = .returned (sV (sepR m L)) ∧ Ext w w' := by
  have HI : Hid (SsIn w v L) := h
  obtain ⟨p, cap, vs0, rfl, hcap, -, -, -⟩ := h
  obtain ⟨n, hn⟩ : ∃ n, L.length = n := ⟨_, rfl⟩
  have HN : Hid (L.length = n) := hn
  have hnb : n ≤ 1048576 := by unfold szTT at hz; omega
  have HZ : Hid (szTT L ≤ 1048576) := hz
  rw [hn] at hcap HI ⊢
  have CM := markS14 [m] w
  rw [hmk] at CM
  obtain ⟨mk, hmk2⟩ : ∃ mk : ByteArray, (⟨[m].toArray⟩ : ByteArray) = mk := ⟨_, rfl⟩
  have hms : 0 < mk.size := by rw [← hmk2]; simp [ByteArray.size]
  have hm0 : ((mk[0]'hms).toNat : Int) = (m.toNat : Int) := by
    have := byte_atA (l := [m]) (s := mk) (by rw [← hmk2]) hms
    rw [this]
    rfl
  obtain ⟨M, hM⟩ : ∃ M : Int, (m.toNat : Int) = M := ⟨_, rfl⟩
  have HM : Hid ((m.toNat : Int) = M) := hM
  rw [hM] at hm0
  change Calls Tryd.prog 10 #[.string ⟨[m].toArray⟩] w _ at CM
  show Calls Tryd.prog 5 #[.slice p n cap, .string ⟨[m].toArray⟩] w _
  rw [hmk2] at CM ⊢
  clear hn hz hmk hmk2 hM
  go_enter Tryd.func5, Tryd.ntmps5
  go_wp2_with fail
  refine CM.mono ?_
  rintro _ w0 ⟨rfl, rfl⟩
  clear CM
  go_wp2_with fail
  go_loopw [5, 17] (fun v i wr => ∃ (k z c : Nat) (p : Option Addr), k ≤ n ∧ i = .int .i64 k ∧ v = .slice p z c ∧ Hid (OwnY wr w0.heap.size (.slice p z c) (allT m L k) ∧ Ext w0 wr ∧ (allT m L k).length ≤ 20001 ∧ ∀ (i : Nat) (l : List (List UInt8)), i < k → L[i]? = some l → l ≠ [])) (fun _ i _ => n - (intOf i).toNat)
  case atStart => exact ⟨0, 0, 0, none, by omega, rfl, rfl, ownY_nil _ _, xr _, by simp [allT], fun i l hi => by omega⟩
  case round =>
    obtain ⟨k, z, c, po, hk, rfl, rfl, HO⟩ := hrel
    by_cases hlt : k < n
    · obtain ⟨l, hgl⟩ : ∃ l, L.getD k [] = l := ⟨_, rfl⟩
      have he : L[k]? = some l := by rw [← hgl, List.getD, List.getElem?_eq_getElem (by rw [HN.out]; exact hlt)]; rfl
      have HGL : Hid (L.getD k [] = l) := hgl
      have HE : Hid (L[k]? = some l) := he
      obtain ⟨b, o, u, rfl, c0, I1⟩ := HI.out.row he
      have c1 := cell_later HO.out.2.1 c0
      have HIT : Hid (TxtsIn w0 u l) := I1
      obtain ⟨p2, cap2, rfl, hcap2, -⟩ := I1
      have hml : l.length ≤ 1048576 := by
        have h1 := HZ.out
        have h2 := lenTT_next he
        have h3 := lenTT_le L (k + 1)
        unfold szTT at h1
        have h4 : l.length ≤ szT l := by unfold szT; omega
        omega
      have hlt' : (k : Int) < (n : Int) := by omega
      obtain ⟨y, hy⟩ : ∃ y, l.length = y := ⟨_, rfl⟩
      have HY : Hid (l.length = y) := hy
      have HTL : Hid (∀ e ∈ l, e.length ≤ 1048576) := by
        intro e hem
        have h1 := HZ.out
        have h2 := lenTT_next he
        have h3 := lenTT_le L (k + 1)
        unfold szTT at h1
        have h4 : e.length ≤ (l.map List.length).sum := le_sum_mem (List.mem_map_of_mem hem)
        have h5 : (l.map List.length).sum ≤ szT l := by unfold szT; omega
        omega
      rw [hy] at hcap2 hml c1 HIT
      clear hy he hgl c0
      by_cases hy0 : y = 0
      · have HF : Hid (sepR m L = []) := sepR_empty (i := k) (by rw [HE.out]; congr 1; exact List.eq_nil_of_length_eq_zero (by rw [HY.out]; exact hy0))
        have hyb : ((y : Int) == 0) = true := by simp [hy0]
        have HX : Hid (Ext w0 wr) := HO.out.2.1
        clear HO hy0
        go_wp2_with fail
        go_ret
        exact ⟨by rw [HF.out]; rfl, HX.out⟩
      · have hyb : ((y : Int) == 0) = false := by simp [hy0]
        obtain ⟨wo, hwo⟩ : ∃ wo, wo = wr := ⟨_, rfl⟩
        subst hwo
        have HS0 : Hid (OwnY wo w0.heap.size (.slice po z c) (allT m L k ++ partT m l 0) ∧ Ext w0 wo ∧ (allT m L k ++ partT m l 0).length ≤ 20001 ∧ (0 < 0 → (allT m L k ++ partT m l 0).length ≤ 20000)) := by
          obtain ⟨q1, q2, q3, _⟩ := HO.out
          rw [show partT m l 0 = [] from rfl, List.append_nil]
          exact ⟨q1, q2, q3, fun h => by omega⟩
        have HRS : Hid (∀ (i : Nat) (l : List (List UInt8)), i < k → L[i]? = some l → l ≠ []) := HO.out.2.2.2
        clear HO
        go_wp2_with fail
        clear c1
        go_loopw [5, 26] (fun v i wr => ∃ (j z c : Nat) (p : Option Addr), j ≤ y ∧ i = .int .i64 j ∧ v = .slice p z c ∧ Hid (OwnY wr w0.heap.size (.slice p z c) (allT m L k ++ partT m l j) ∧ Ext w0 wr ∧ (allT m L k ++ partT m l j).length ≤ 20001 ∧ (0 < j → (allT m L k ++ partT m l j).length ≤ 20000))) (fun _ i _ => y - (intOf i).toNat)
        case atStart => exact ⟨0, z, c, po, by omega, rfl, rfl, HS0⟩
        case round =>
          clear HS0
          obtain ⟨j, z, c, po, hj, rfl, rfl, HO⟩ := hrel
          by_cases hjy : j < y
          · obtain ⟨f, hf⟩ : ∃ f, l[j]? = some f := ⟨_, List.getElem?_eq_getElem (by rw [HY.out]; exact hjy)⟩
            have fl := HTL.out f (List.mem_of_getElem? hf)
            have hfd : l.getD j [] = f := by rw [List.getD, hf]; rfl
            have hjy' : (j : Int) < (y : Int) := by omega
            obtain ⟨p3, cap3, e3, _, hr3⟩ := HIT.out
            have e4 := (Value.slice.inj e3).1
            clear e3
            subst e4
            obtain ⟨b2, o2, rfl, hc2⟩ := hr3 (by rw [HY.out]; omega)
            have c2 := cell_later HO.out.2.1 (hc2 j f hf)
            obtain ⟨s, hs⟩ : ∃ s : ByteArray, (⟨f.toArray⟩ : ByteArray) = s := ⟨_, rfl⟩
            change wr.cell? ⟨b2, o2 + j, none⟩ = some (.string ⟨f.toArray⟩) at c2
            rw [hs] at c2
            have HS : Hid ((⟨f.toArray⟩ : ByteArray) = s ∧ s.data.toList = f) := ⟨hs, by rw [← hs]⟩
            have hsz : s.size = f.length := by rw [← hs]; rfl
            obtain ⟨q, hq⟩ : ∃ q, f.length = q := ⟨_, rfl⟩
            have HQ : Hid (f.length = q) := hq
            rw [hq] at hsz fl
            have HOUT : Hid (partT m l (j + 1) = partT m l j ++ ((if j = 0 then [] else [m]) ++ fldT m (y == 1) f)) := by show _ = _; rw [← hfd, ← HY.out]; rfl
            have HPL : Hid (20000 < (allT m L k).length + (partT m l (j + 1)).length + 1 → sepR m L = []) := fun h => sepR_long k (j + 1) (by rw [HN.out]; exact hlt) (by rw [HGL.out, HY.out]; omega) (by rw [HGL.out]; exact h)
            clear hc2 hr3 HIT hf hfd hs hq
            go_upto_if 32 with fail
            obtain ⟨J, hJ⟩ : ∃ J, decide (0 < j) = J := ⟨_, rfl⟩
            rw [hJ]
            have HJ : Hid (decide (0 < j) = J) := hJ
            clear hJ
            go_cut [5] (fun s wc => ∃ (p : Option Addr) (z c : Nat), s = .slice p z c ∧ Hid (OwnY wc w0.heap.size (.slice p z c) (allT m L k ++ partT m l j ++ (if j = 0 then [] else [m])) ∧ Ext w0 wc ∧ (allT m L k ++ partT m l j ++ (if j = 0 then [] else [m])).length ≤ 20002))
            case first =>
              obtain ⟨O, X, ln, _⟩ := HO.out
              cases J
              · have hj0 : j = 0 := by have := HJ.out; simp at this; exact this
                have HK : Hid (OwnY wr w0.heap.size (.slice po z c) (allT m L k ++ partT m l j ++ (if j = 0 then [] else [m])) ∧ Ext w0 wr ∧ (allT m L k ++ partT m l j ++ (if j = 0 then [] else [m])).length ≤ 20002) := by
                  rw [if_pos hj0, List.append_nil]
                  exact ⟨O, X, by omega⟩
                clear O X HO hj0
                go_wp2_with fail
                go_meet
                case rel => exact ⟨po, z, c, rfl, HK⟩
              · have hj0 : j ≠ 0 := by have := HJ.out; simp at this; omega
                obtain ⟨p1, m1, c1, w1, hrun1, O1, X1⟩ := put_byte w0 wr _ _ m X O (by omega)
                rw [HM.out] at hrun1
                have HK : Hid (OwnY w1 w0.heap.size (.slice p1 m1 c1) (allT m L k ++ partT m l j ++ (if j = 0 then [] else [m])) ∧ Ext w0 w1 ∧ (allT m L k ++ partT m l j ++ (if j = 0 then [] else [m])).length ≤ 20002) := by
                  rw [if_neg hj0]
                  exact ⟨O1, X1, by rw [List.length_append, List.length_singleton]; omega⟩
                obtain ⟨wa, ha⟩ : ∃ q, wr.alloc (.cells #[.int .u8 M] 5) = q := ⟨_, rfl⟩
                rw [ha] at hrun1
                clear O X HO hj0 O1 X1
                go_wp2_with (at_builtin; refine Lib.wpList_append_run _ rfl _ _ _ _ rfl _ _ rfl rfl _ _ hrun1 ?_)
                go_wp2_with fail
                go_meet
                case rel => exact ⟨p1, m1, c1, rfl, HK⟩
            case rest =>
              obtain ⟨po, z, c, rfl, HO2⟩ := hcut
              rename World => w1
              have HE0 : Hid (s.toList.isEmpty = f.isEmpty) := by show _ = _; rw [ByteArray.toList_eq, HS.out.2]
              clear c2 HO HJ
              go_upto_region 14 with fail
              go_cut [10] (fun s wc => s = .bool (f.isEmpty && (y == 1)) ∧ wc = w1)
              case first =>
                obtain ⟨E, hE⟩ : ∃ E, s.toList.isEmpty = E := ⟨_, rfl⟩
                obtain ⟨A1, hA⟩ : ∃ A1, ((y : Int) == 1) = A1 := ⟨_, rfl⟩
                have HEA : Hid ((f.isEmpty && (y == 1)) = (E && A1)) := by
                  show _ = _
                  rw [← HE0.out, hE, ← hA]
                  congr 1
                  cases hq : (y == 1) <;> simp at hq ⊢ <;> omega
                cases E
                · go_wp2_with fail
                  go_meet
                  case rel => exact ⟨by rw [HEA.out]; rfl, rfl⟩
                · go_wp2_with fail
                  go_meet
                  case rel => exact ⟨by rw [HEA.out]; rfl, rfl⟩
              case rest =>
                obtain ⟨rfl, hwc⟩ := hcut
                rw [hwc]
                clear hwc
                obtain ⟨a0, ha0⟩ : ∃ a0, (f.isEmpty && (y == 1)) = a0 := ⟨_, rfl⟩
                rw [ha0]
                have HA0 : Hid ((f.isEmpty && (y == 1)) = a0) := ha0
                have HB0 : Hid (a0 = (a0 || needB m (f.take 0))) := by show _ = _; simp [needB]
                clear ha0
                go_wp2_with fail
                go_loopw [10, 11] (fun a i wr => ∃ (kk : Nat) (O : Bool), kk ≤ q ∧ i = .int .i64 kk ∧ a = .bool O ∧ Hid (O = (a0 || needB m (f.take kk)) ∧ Ext w1 wr)) (fun _ i _ => q - (intOf i).toNat)
                case atStart => exact ⟨0, a0, by omega, rfl, rfl, HB0.out, xr _⟩
                case round =>
                  clear HB0
                  obtain ⟨kk, O, hkk, rfl, rfl, HOB⟩ := hrel
                  by_cases hkq : kk < q
                  · have hks : kk < s.size := by omega
                    have hb0 := byte_atA HS.out.2 hks
                    obtain ⟨b, hb⟩ : ∃ b, f[kk]? = some b := ⟨_, List.getElem?_eq_getElem (by rw [HQ.out]; exact hkq)⟩
                    have hgd : f.getD kk 0 = b := by rw [List.getD, hb]; rfl
                    rw [hgd] at hb0
                    have hbn : ((s[kk]'hks).toNat : Int) = (b.toNat : Int) := by rw [hb0]
                    have HNB : Hid (needB m (f.take (kk + 1)) = (needB m (f.take kk) || (b == m || b == 34 || b == 10 || b == 13))) := needB_take hb
                    obtain ⟨N, hN⟩ : ∃ N : Int, (b.toNat : Int) = N := ⟨_, rfl⟩
                    have beqN : ∀ x : UInt8, (b == x) = (N == (x.toNat : Int)) := fun x => by
                      rw [← hN]
                      cases h : (b == x) with
                      | true => simp at h; subst h; simp
                      | false =>
                        simp at h
                        symm
                        rw [beq_eq_false_iff_ne]
                        intro e
                        exact h (UInt8.toNat_inj.1 (by omega))
                    have i2 : (kk : Int) < (q : Int) := by omega
                    rw [hN] at hbn
                    obtain ⟨E1, h1⟩ : ∃ E, (N == M) = E := ⟨_, rfl⟩
                    obtain ⟨E2, h2⟩ : ∃ E, (N == 34) = E := ⟨_, rfl⟩
                    obtain ⟨E3, h3⟩ : ∃ E, (N == 10) = E := ⟨_, rfl⟩
                    obtain ⟨E4, h4⟩ : ∃ E, (N == 13) = E := ⟨_, rfl⟩
                    have HNX : Hid ((O || (((E1 || E2) || E3) || E4)) = (a0 || needB m (f.take (kk + 1)))) := by
                      show _ = _
                      rw [HNB.out, HOB.out.1, beqN m, beqN 34, beqN 10, beqN 13, HM.out, ← h1, ← h2, ← h3, ← h4]
                      simp [Bool.or_assoc]
                    have HXX : Hid (Ext w1 wr) := HOB.out.2
                    clear HNB beqN hN hb0 hb hgd HOB
                    cases O
                    · cases E1
                      · cases E2
                        · cases E3
                          · go_wp2_with fail
                            go_quiet (fail)
                            go_wp2_with fail
                            go_roundw
                            case rel => exact ⟨kk + 1, E4, by omega, by go_num, by first | rfl | (rw [h4]), by simpa using HNX.out, xdNs HXX.out _⟩
                            case measure => simp [intOf]; omega
                          · go_wp2_with fail
                            go_quiet (fail)
                            go_wp2_with fail
                            go_roundw
                            case rel => exact ⟨kk + 1, true, by omega, by go_num, rfl, by simpa using HNX.out, xdNs HXX.out _⟩
                            case measure => simp [intOf]; omega
                        · go_wp2_with fail
                          go_quiet (fail)
                          go_wp2_with fail
                          go_roundw
                          case rel => exact ⟨kk + 1, true, by omega, by go_num, rfl, by simpa using HNX.out, xdNs HXX.out _⟩
                          case measure => simp [intOf]; omega
                      · go_wp2_with fail
                        go_quiet (fail)
                        go_wp2_with fail
                        go_roundw
                        case rel => exact ⟨kk + 1, true, by omega, by go_num, rfl, by simpa using HNX.out, xdNs HXX.out _⟩
                        case measure => simp [intOf]; omega
                    · go_wp2_with fail
                      go_quiet (fail)
                      go_wp2_with fail
                      go_roundw
                      case rel => exact ⟨kk + 1, true, by omega, by go_num, rfl, by simpa using HNX.out, xdNs HXX.out _⟩
                      case measure => simp [intOf]; omega
                  · obtain rfl : kk = q := by omega
                    have HOD : Hid (fldT m (y == 1) f = if O = true then quoT f else f) := by
                      show _ = _
                      unfold fldT oddB
                      rw [HOB.out.1, ← HA0.out, List.take_of_length_le (by rw [HQ.out]; omega)]
                    have HX1 : Hid (Ext w1 wr) := HOB.out.2
                    obtain ⟨w2, hw2⟩ : ∃ w2, w2 = wr := ⟨_, rfl⟩
                    subst hw2
                    obtain ⟨T, hT⟩ : ∃ T, fldT m (y == 1) f = T := ⟨_, rfl⟩
                    have hTl : T.length ≤ 2 * kk + 2 := by rw [← hT, ← HQ.out]; exact fldT_length _ _ _
                    rw [hT] at HOD HOUT
                    clear HOB hT
                    go_upto_if 78 with fail
                    go_cut [9] (fun sv wc => sv = sV T ∧ Hid (Ext w2 wc))
                    case first =>
                      have CQ := quotedS f w2 (by rw [HQ.out]; exact fl)
                      change Calls Tryd.prog 11 #[.string ⟨f.toArray⟩] w2 _ at CQ
                      rw [HS.out.1] at CQ
                      cases O
                      · have HTF : Hid (Value.string s = sV T) := by show _ = _; rw [HOD.out, ← HS.out.1]; rfl
                        go_wp2_with fail
                        go_meet
                        case rel => exact ⟨HTF.out, xr _⟩
                      · have HTF : Hid (quoT f = T) := by show _ = _; rw [HOD.out]; rfl
                        rw [HTF.out] at CQ
                        go_wp2_with fail
                        refine CQ.mono ?_
                        rintro _ w3 ⟨rfl, e3⟩
                        go_wp2_with fail
                        go_meet
                        case rel => exact ⟨rfl, e3⟩
                    case rest =>
                      obtain ⟨rfl, HX2⟩ := hcut
                      rename World => w3
                      obtain ⟨O1, X1, ln1⟩ := HO2.out
                      have XX := xt HX1.out HX2.out
                      obtain ⟨p4, m4, c4, w4, hrun4, O4, X4⟩ := put_text w0 w3 _ _ T (xt X1 XX) (ownY_later O1 XX) (by omega)
                      obtain ⟨pz, cz, ez, _⟩ := ownY_slice O4
                      have em := (Value.slice.inj ez).2.1
                      have HOO : Hid (OwnY w4 w0.heap.size (.slice p4 m4 c4) (allT m L k ++ partT m l (j + 1)) ∧ Ext w0 w4) := by
                        rw [HOUT.out, ← List.append_assoc, ← List.append_assoc]
                        exact ⟨O4, X4⟩
                      have hlen : (allT m L k ++ partT m l (j + 1)).length = m4 := by rw [em, HOUT.out, ← List.append_assoc, ← List.append_assoc]
                      have HLE : Hid ((allT m L k ++ partT m l (j + 1)).length = m4) := hlen
                      clear O1 X1 XX O4 X4 HO2 HX1 HX2 ez em hlen HOUT
                      by_cases h20 : 20000 < m4
                      · have f1 : decide ((m4 : Int) > 20000) = true := by simp; omega
                        have HF : Hid (sepR m L = []) := HPL.out (by have := HLE.out; rw [List.length_append] at this; omega)
                        go_wp2_with (at_builtin; refine Lib.wpList_append_run _ rfl _ _ _ _ rfl _ _ rfl rfl _ _ hrun4 ?_)
                        go_wp2_with fail
                        go_ret
                        exact ⟨by rw [HF.out]; rfl, HOO.out.2⟩
                      · have f1 : decide ((m4 : Int) > 20000) = false := by simp; omega
                        have HK : Hid (OwnY w4 w0.heap.size (.slice p4 m4 c4) (allT m L k ++ partT m l (j + 1)) ∧ Ext w0 w4 ∧ (allT m L k ++ partT m l (j + 1)).length ≤ 20001 ∧ (0 < j + 1 → (allT m L k ++ partT m l (j + 1)).length ≤ 20000)) := ⟨HOO.out.1, HOO.out.2, by rw [HLE.out]; omega, fun _ => by rw [HLE.out]; omega⟩
                        go_wp2_with (at_builtin; refine Lib.wpList_append_run _ rfl _ _ _ _ rfl _ _ rfl rfl _ _ hrun4 ?_)
                        go_wp2_with fail
                        go_roundw
                        case rel => exact ⟨j + 1, m4, c4, p4, by omega, by go_num, rfl, HK⟩
                        case measure => simp [intOf]; omega
          · obtain rfl : j = y := by omega
            obtain ⟨O, X, ln, lnz⟩ := HO.out
            obtain ⟨p1, m1, c1, w1, hrun1, O1, X1⟩ := put_byte w0 wr _ _ 10 X O (by omega)
            have n1 : (((10 : UInt8).toNat : Int)) = 10 := rfl
            rw [n1] at hrun1
            obtain ⟨wa, ha⟩ : ∃ q, wr.alloc (.cells #[.int .u8 10] 5) = q := ⟨_, rfl⟩
            rw [ha] at hrun1
            have HAL : allT m L (k + 1) = allT m L k ++ partT m l j ++ [10] := by
              show allT m L k ++ rowT m (L.getD k []) = _
              rw [HGL.out]
              unfold rowT
              rw [HY.out, List.append_assoc]
            have HNE : l ≠ [] := fun e => hy0 (by rw [← HY.out, e]; rfl)
            have HK : Hid (OwnY w1 w0.heap.size (.slice p1 m1 c1) (allT m L (k + 1)) ∧ Ext w0 w1 ∧ (allT m L (k + 1)).length ≤ 20001 ∧ ∀ (i : Nat) (l : List (List UInt8)), i < k + 1 → L[i]? = some l → l ≠ []) := by
              rw [HAL]
              refine ⟨O1, X1, ?_, fun i l' hi hl' => ?_⟩
              · rw [List.length_append, List.length_singleton]
                have := lnz (by omega)
                omega
              · by_cases e : i = k
                · subst e
                  rw [HE.out] at hl'
                  cases hl'
                  exact HNE
                · exact HRS.out i l' (by omega) hl'
            clear HO O X ln lnz O1 X1 HAL HNE
            go_wp2_with (at_builtin; refine Lib.wpList_append_run _ rfl _ _ _ _ rfl _ _ rfl rfl _ _ hrun1 ?_)
            go_wp2_with fail
            go_roundw
            case rel => exact ⟨k + 1, m1, c1, p1, by omega, by go_num, rfl, HK⟩
            case measure => simp [intOf]; omega
    · obtain rfl : k = n := by omega
      obtain ⟨O, X, ln, HE⟩ := HO.out
      have HC := conv_text O
      obtain ⟨pz, cz, ez, _⟩ := ownY_slice O
      cases ez
      have HR := sepR_end (m := m) (L := L) (fun i l hi => HE i l (by have := (List.getElem?_eq_some_iff.1 hi).1; rw [HN.out] at this; exact this) hi)
      rw [HN.out] at HR
      obtain ⟨T, hT⟩ : ∃ T, allT m L k = T := ⟨_, rfl⟩
      rw [hT] at HR HC ln ⊢
      obtain ⟨Z, hZ⟩ : ∃ Z, T.length = Z := ⟨_, rfl⟩
      rw [hZ] at HR HC ln ⊢
      have HX : Hid (Ext w0 wr) := X
      have HR : Hid (sepR m L = if 20000 < Z then [] else T) := HR
      clear HO O X HE hT hZ
      by_cases h2 : 20000 < Z
      · have f1 : decide ((Z : Int) > 20000) = true := by simp; omega
        have HR2 : Hid (sepR m L = []) := by show _ = _; rw [HR.out, if_pos h2]
        go_wp2_with fail
        go_ret
        exact ⟨by rw [HR2.out]; rfl, HX.out⟩
      · have f1 : decide ((Z : Int) > 20000) = false := by simp; omega
        have HR2 : Hid (sepR m L = T) := by show _ = _; rw [HR.out, if_neg h2]
        go_wp2_with fail
        go_ret
        exact ⟨by rw [HR2.out]; rfl, HX.out⟩

set_option maxHeartbeats 1000000 in
theorem sepS (v : Value) (L : List (List (List UInt8))) (mk : List UInt8) (w : World) (h : SsIn w v L) (hz : szTT L ≤ 1048576) :
    Calls Tryd.prog 5 #[v, sV mk] w fun e w' => e = .returned (sV (sepA mk L)) ∧ Ext w w' := by
  cases hm : isMk mk
  · have CM := markS14 mk w
    rw [hm] at CM
    have HF : Hid (sepA mk L = []) := by show _ = _; unfold sepA; rw [hm]; rfl
    obtain ⟨p, cap, vs0, rfl, hcap, -, -, -⟩ := h
    clear hm hcap hz
    go_enter Tryd.func5, Tryd.ntmps5
    go_wp2_with fail
    refine CM.mono ?_
    rintro _ w0 ⟨rfl, rfl⟩
    go_wp2_with fail
    go_ret
    exact ⟨by rw [HF.out]; rfl, xr _⟩
  · obtain ⟨m, rfl, _⟩ := isMk_one hm
    have : sepA [m] L = sepR m L := by unfold sepA; rw [if_pos hm]; rfl
    rw [this]
    exact sepS1 v L m w h hz hm

end Go.Proofs.YtpdfalpoidlegaaDoor
