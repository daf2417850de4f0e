/-
  Chapter 14: SheetOfRows, of the specification.
-/
import Derived.Test.YtichaheefailoaaSh4
namespace Go.Proofs.Ytichaheefailoaa
open Go.RowKit

theorem typT_length (f : List UInt8) : (typT f).length ≤ f.length + 1 := by unfold typT; split <;> simp
theorem rowK_text {i : Nat} {l : List (List UInt8)} {j : Nat} {e : CE} (h : e ∈ rowK i l j) : e.t.length ≤ (l.map List.length).sum + 1 := by
  induction j with
  | zero => simp [rowK] at h
  | succ j ih =>
    rcases List.mem_append.1 h with h | h
    · exact ih h
    · unfold fieldC at h
      split at h
      · next hf =>
        simp at h; subst h
        have h1 := typT_length (‹UInt8› :: ‹List UInt8›)
        have h2 := le_sum_mem (List.mem_map_of_mem (f := List.length) (List.mem_of_getElem? hf))
        exact Nat.le_trans h1 (by omega)
      · simp at h
theorem allK_text {L : List (List (List UInt8))} {i : Nat} {e : CE} (h : e ∈ allK L i) : e.t.length ≤ (L.map szT).sum + 1 := by
  induction i with
  | zero => simp [allK] at h
  | succ i ih =>
    rcases List.mem_append.1 h with h | h
    · exact ih h
    · have h1 := rowK_text h
      have h2 : ((L.getD i []).map List.length).sum ≤ szT (L.getD i []) := by unfold szT; omega
      by_cases hi : i < L.length
      · have h3 := le_sum_mem (List.mem_map_of_mem (f := szT) (List.mem_of_getElem? (List.getElem?_eq_getElem hi)))
        have h4 : L.getD i [] = L[i] := by rw [List.getD, List.getElem?_eq_getElem hi]; rfl
        rw [h4] at h1 h2
        omega
      · have h4 : L.getD i [] = [] := by rw [List.getD, List.getElem?_eq_none (by omega)]; rfl
        rw [h4] at h1
        simp at h1
        omega
theorem cell_text_le {L : List (List (List UInt8))} {i : Nat} {e : CE} (hz : szTT L ≤ 1048576) (h : e ∈ allK L i) : e.t.length ≤ 2000000 := by
  have := allK_text h
  unfold szTT at hz
  omega
set_option maxRecDepth 8000 in
set_option maxHeartbeats 4000000 in
theorem sheetS (v : Value) (L : List (List (List UInt8))) (w : World) (h : SsIn w v L) (hl : szTT L ≤ 1048576) :
    Calls Try.prog 5 #[v] w fun e w' => ∃ u, e = .returned (.agg #[u, .slice none 0 0]) ∧ OwnC w' w.heap.size u (sheetR L) ∧ Ext w w' ∧ w.heap.size < w'.heap.size := by
  have HI : Hid (SsIn w v L) := h
  obtain ⟨p, cap, vs0, rfl, hcap, -, -, -⟩ := h
  obtain ⟨n, hn⟩ : ∃ n, L.length = n := ⟨_, rfl⟩
  have HN : Hid (L.length = n) := hn
  have hnb : n ≤ 1048576 := by unfold szTT at hl; omega
  have HZ : Hid (szTT L ≤ 1048576) := hl
  rw [hn] at hcap HI ⊢
  clear hn hl
  go_enter Try.func5, Try.ntmps5
  go_wp2_with fail
  have A0 := vec_made w [.slice none 0 0, .slice none 0 0] 27
  have XA := x1 w (.cells #[.slice none 0 0, .slice none 0 0] 27)
  have SA : (w.alloc (.cells #[.slice none 0 0, .slice none 0 0] 27)).heap.size = w.heap.size + 1 := by simp
  change Vec (w.alloc (.cells #[.slice none 0 0, .slice none 0 0] 27)) _ _ at A0
  obtain ⟨wa, ha⟩ : ∃ wa, w.alloc (.cells #[.slice none 0 0, .slice none 0 0] 27) = wa := ⟨_, rfl⟩
  rw [ha] at A0 XA SA
  have A1 := vec_made wa [.slice none 0 0, .slice none 0 0] 27
  have XB := x1 wa (.cells #[.slice none 0 0, .slice none 0 0] 27)
  have SB : (wa.alloc (.cells #[.slice none 0 0, .slice none 0 0] 27)).heap.size = w.heap.size + 2 := by simp [SA]
  change Vec (wa.alloc (.cells #[.slice none 0 0, .slice none 0 0] 27)) _ _ at A1
  obtain ⟨wb, hb⟩ : ∃ wb, wa.alloc (.cells #[.slice none 0 0, .slice none 0 0] 27) = wb := ⟨_, rfl⟩
  rw [hb] at A1 XB SB
  rw [SA] at A1
  have A0 := A0.later XB
  have W0 : Hid (Way w wb w.heap.size (w.heap.size + 1) (.slice none 0 0) []) :=
    ⟨xt XA XB, ⟨⟨(A0 0 _ rfl).1, (A0 1 _ rfl).1⟩, (A0 0 _ rfl).2, (A0 1 _ rfl).2⟩, ⟨⟨(A1 0 _ rfl).1, (A1 1 _ rfl).1⟩, (A1 0 _ rfl).2, (A1 1 _ rfl).2⟩, ownC_nil _ _, by omega⟩
  rw [ha, hb]
  clear A0 A1 XA XB
  go_loopw [11] (fun i wr => ∃ k : Nat, k ≤ n ∧ i = .int .i64 k ∧ Hid (∃ sv, Way w wr w.heap.size (w.heap.size + 1) sv (allK L k))) (fun i _ => n - (intOf i).toNat)
  case atStart => exact ⟨0, by omega, rfl, _, W0.out⟩
  case round =>
    obtain ⟨k, hk, rfl, HW⟩ := hrel
    clear W0 SA SB ha hb
    by_cases hlt : k < n
    · obtain ⟨l, hgl⟩ : ∃ l, L.getD k [] = l := ⟨_, rfl⟩
      have he : L[k]? = some l := by rw [← hgl, List.getD, List.getElem?_eq_getElem (by rw [HN.out]; exact hlt)]; rfl
      have HGL : Hid (L.getD k [] = l) := hgl
      have XW : Ext w wr := by obtain ⟨_, W⟩ := HW.out; exact W.ext
      obtain ⟨b, o, u, rfl, c0, I1⟩ := HI.out.row he
      have c1 := cell_later XW c0
      have HIT : Hid (TxtsIn w u l) := I1
      obtain ⟨p2, cap2, rfl, hcap2, -⟩ := I1
      have hml : l.length ≤ 1048576 := by
        have h1 := HZ.out
        have h2 := lenTT_next he
        have h3 := lenTT_le L (k + 1)
        unfold szTT at h1
        have h4 : l.length ≤ szT l := by unfold szT; omega
        omega
      have htl : ∀ e ∈ l, e.length ≤ 1048576 := by
        intro e hem
        have h1 := HZ.out
        have h2 := lenTT_next he
        have h3 := lenTT_le L (k + 1)
        unfold szTT at h1
        have h4 : e.length ≤ (l.map List.length).sum := le_sum_mem (List.mem_map_of_mem hem)
        have h5 : (l.map List.length).sum ≤ szT l := by unfold szT; omega
        omega
      obtain ⟨m, hm⟩ : ∃ m, l.length = m := ⟨_, rfl⟩
      have HM : Hid (l.length = m) := hm
      have HTL : Hid (∀ e ∈ l, e.length ≤ 1048576) := htl
      have HALL : Hid (allK L (k + 1) = allK L k ++ rowK k l m) := by show _ = _; rw [← hm, ← hgl]; rfl
      have HLN : Hid (∀ j, j ≤ m → (allK L k ++ rowK k l j).length ≤ 3000000) := fun j hj => by
        have h1 := allK_length L k (by rw [HN.out]; omega)
        have h2 := lenTT_le L k
        have h3 := HZ.out
        have h4 := rowK_length k l j
        unfold szTT at h3
        rw [List.length_append]
        omega
      rw [hm] at hcap2 hml c1 HIT
      have hlt' : (k : Int) < (n : Int) := by omega
      have HS0 : Hid (∃ sv, Way w wr w.heap.size (w.heap.size + 1) sv (allK L k ++ rowK k l 0)) := by
        obtain ⟨sv, W⟩ := HW.out
        exact ⟨sv, by simpa [rowK] using W⟩
      obtain ⟨wo, hwo⟩ : ∃ wo, wo = wr := ⟨_, rfl⟩
      subst hwo
      clear HW XW he hgl hm htl HI c0
      go_wp2_with fail
      go_loopw [18] (fun i wr => ∃ j : Nat, j ≤ m ∧ i = .int .i64 j ∧ Hid (∃ sv, Way w wr w.heap.size (w.heap.size + 1) sv (allK L k ++ rowK k l j))) (fun i _ => m - (intOf i).toNat)
      case atStart => exact ⟨0, by omega, rfl, HS0.out⟩
      case round =>
        obtain ⟨j, hj, rfl, HJ⟩ := hrel
        clear HS0 c1
        by_cases hjm : j < m
        · obtain ⟨f, hf⟩ : ∃ f, l[j]? = some f := ⟨_, List.getElem?_eq_getElem (by rw [HM.out]; exact hjm)⟩
          obtain ⟨sv, W⟩ := HJ.out
          have XO := W.ext
          have fl := HTL.out f (List.mem_of_getElem? hf)
          have hjm' : (j : Int) < (m : Int) := by omega
          obtain ⟨p3, cap3, e3, _, hr3⟩ := HIT.out
          cases e3
          obtain ⟨b2, o2, rfl, hc2⟩ := hr3 (by rw [HM.out]; omega)
          have c2 := cell_later XO (hc2 j f hf)
          have HNX : Hid (rowK k l (j + 1) = rowK k l j ++ fieldC k j (some f)) := by show _ = _; rw [← hf]; rfl
          clear hc2 hr3 HIT hf
          cases f with
          | nil =>
            have HK : Hid (∃ sv, Way w wr w.heap.size (w.heap.size + 1) sv (allK L k ++ rowK k l (j + 1))) := by
              rw [HNX.out]
              exact ⟨sv, by simpa [fieldC] using W⟩
            clear HJ W
            go_wp2_with fail
            go_roundw
            case rel => exact ⟨j + 1, by omega, by go_num, HK⟩
            case measure => simp [intOf]; omega
          | cons b0 f0 =>
            obtain ⟨F, hF⟩ : ∃ F, b0 :: f0 = F := ⟨_, rfl⟩
            obtain ⟨T, hT⟩ : ∃ T, typT F = T := ⟨_, rfl⟩
            have hfc : fieldC k j (some (b0 :: f0)) = [⟨k + 1, j + 1, T⟩] := by rw [← hT, ← hF]; rfl
            rw [hfc] at HNX
            rw [hF] at c2 fl
            have hne : (F == []) = false := by rw [← hF]; rfl
            obtain ⟨cnt, hcnt⟩ : ∃ cnt, (allK L k ++ rowK k l j).length = cnt := ⟨_, rfl⟩
            have hcl := HLN.out j hj
            rw [hcnt] at hcl
            obtain ⟨s, hs⟩ : ∃ s : ByteArray, (⟨F.toArray⟩ : ByteArray) = s := ⟨_, rfl⟩
            have hsl : s.data.toList = F := by rw [← hs]
            have hsz : 0 < s.size := by rw [← hs, ← hF]; simp [ByteArray.size]
            have hsb : s.size ≤ 1048576 := by rw [← hs]; exact fl
            have hby : ((s[0]'hsz).toNat : Int) = (b0.toNat : Int) := by
              have := byte_atA hsl hsz
              rw [this, ← hF]
              rfl
            have hst : s.data.toList = F := hsl
            obtain ⟨N, hN⟩ : ∃ N : Int, (b0.toNat : Int) = N := ⟨_, rfl⟩
            rw [hN] at hby
            change wr.cell? ⟨b2, o2 + j, none⟩ = some (.string ⟨F.toArray⟩) at c2
            rw [hs] at c2
            have hne2 : s.toList.isEmpty = false := by rw [ByteArray.toList_eq, hsl, ← hF]; rfl
            obtain ⟨t, ht⟩ : ∃ t : ByteArray, (⟨T.toArray⟩ : ByteArray) = t := ⟨_, rfl⟩
            have HTV : Hid (Value.string t = sV T) := by show _ = _; rw [← ht]
            have hcat : (b0 = 61 ∨ b0 = 39) → (⟨#[39]⟩ ++ s : ByteArray) = t := fun ho => by
              rw [← ht, ← hT, ← hs]
              unfold typT
              rw [if_pos (by rw [← hF]; rcases ho with rfl | rfl <;> simp)]
              apply ByteArray.ext
              rw [ByteArray.data_append]
              apply Array.ext'
              simp
            have hsame : ¬ (b0 = 61 ∨ b0 = 39) → s = t := fun ho => by
              rw [← ht, ← hT, ← hs]
              unfold typT
              rw [if_neg (by rw [← hF]; simp; exact not_or.1 ho)]
            have hb61 : N = 61 → b0 = 61 := fun h => by
              have : b0.toNat = 61 := by omega
              exact UInt8.toNat_inj.1 this
            have hb39 : N = 39 → b0 = 39 := fun h => by
              have : b0.toNat = 39 := by omega
              exact UInt8.toNat_inj.1 this
            have hb61' : b0 = 61 → N = 61 := fun h => by rw [← hN, h]; rfl
            have hb39' : b0 = 39 → N = 39 := fun h => by rw [← hN, h]; rfl
            have hcases : (N = 61 ∧ (⟨#[39]⟩ ++ s : ByteArray) = t) ∨ (N ≠ 61 ∧ N = 39 ∧ (⟨#[39]⟩ ++ s : ByteArray) = t) ∨ (N ≠ 61 ∧ N ≠ 39 ∧ s = t) := by
              by_cases q1 : N = 61
              · exact .inl ⟨q1, hcat (.inl (hb61 q1))⟩
              · by_cases q2 : N = 39
                · exact .inr (.inl ⟨q1, q2, hcat (.inr (hb39 q2))⟩)
                · exact .inr (.inr ⟨q1, q2, hsame (fun h => by rcases h with h | h; exact q1 (hb61' h); exact q2 (hb39' h))⟩)
            have hss : (⟨#[39]⟩ : ByteArray).size + s.size ≤ 9223372036854775807 := by show 1 + _ ≤ _; omega
            have VC := vec_made wr [.int .i64 ((k : Int) + 1), .int .i64 ((j : Int) + 1), sV T] 37
            have X3 := x1 wr (.cells #[.int .i64 ((k : Int) + 1), .int .i64 ((j : Int) + 1), sV T] 37)
            change Vec (wr.alloc (.cells #[.int .i64 ((k : Int) + 1), .int .i64 ((j : Int) + 1), .string ⟨T.toArray⟩] 37)) _ _ at VC
            change Ext wr (wr.alloc (.cells #[.int .i64 ((k : Int) + 1), .int .i64 ((j : Int) + 1), .string ⟨T.toArray⟩] 37)) at X3
            rw [ht] at VC X3
            obtain ⟨w3, hw3⟩ : ∃ q, wr.alloc (.cells #[.int .i64 ((k : Int) + 1), .int .i64 ((j : Int) + 1), .string t] 37) = q := ⟨_, rfl⟩
            rw [hw3] at VC X3
            have W3 := W.later X3
            obtain ⟨p4, c4, hsv, _⟩ := ownC_slice W3.own
            subst hsv
            obtain ⟨v', w4, hrun, B1, ⟨p5, n5, c5, hv5⟩, W5⟩ := W3.app ⟨k + 1, j + 1, T⟩ wr.heap.size VC (by rw [hcnt]; exact hcl)
            subst hv5
            obtain ⟨⟨t0, t1⟩, g2, g3⟩ := W.sheet
            rw [hcnt] at hrun t0 B1
            obtain ⟨⟨r0, r1⟩, g4, g5⟩ := B1
            obtain ⟨w5, hw5⟩ : ∃ q, w4.setCell ⟨w.heap.size + 1, 0, none⟩ (.slice p5 n5 c5) = q := ⟨_, rfl⟩
            rw [hw5] at W5
            have HK : Hid (∃ sv, Way w w5 w.heap.size (w.heap.size + 1) sv (allK L k ++ rowK k l (j + 1))) := by
              rw [HNX.out, ← List.append_assoc]
              exact ⟨_, W5⟩
            clear W3 VC W hF hT hfc HJ hs hsl hst ht hcat hsame hb61 hb39 hb61' hb39' hN hne XO X3 W5
            rcases hcases with ⟨q1, q3⟩ | ⟨q1, q2, q3⟩ | ⟨q1, q2, q3⟩
            · have n1 : (N == 61) = true := by simp [q1]
              clear q1
              go_wp2_with (at_builtin; refine Lib.wpList_append_run _ rfl _ _ _ _ rfl _ _ rfl rfl _ _ hrun ?_)
              go_wp2_with fail
              go_roundw
              case rel => exact ⟨j + 1, by omega, by go_num, HK⟩
              case measure => simp [intOf]; omega
            · have n1 : (N == 61) = false := by simp [q1]
              have n2 : (N == 39) = true := by simp [q2]
              clear q1 q2
              go_wp2_with (at_builtin; refine Lib.wpList_append_run _ rfl _ _ _ _ rfl _ _ rfl rfl _ _ hrun ?_)
              go_wp2_with fail
              go_roundw
              case rel => exact ⟨j + 1, by omega, by go_num, HK⟩
              case measure => simp [intOf]; omega
            · have n1 : (N == 61) = false := by simp [q1]
              have n2 : (N == 39) = false := by simp [q2]
              clear q1 q2
              subst q3
              go_wp2_with (at_builtin; refine Lib.wpList_append_run _ rfl _ _ _ _ rfl _ _ rfl rfl _ _ hrun ?_)
              go_wp2_with fail
              go_roundw
              case rel => exact ⟨j + 1, by omega, by go_num, HK⟩
              case measure => simp [intOf]; omega
        · obtain rfl : j = m := by omega
          have HK : Hid (∃ sv, Way w wr w.heap.size (w.heap.size + 1) sv (allK L (k + 1))) := by
            rw [HALL.out]
            exact HJ.out
          clear HJ
          go_wp2_with fail
          go_roundw
          case rel => exact ⟨k + 1, by omega, by go_num, HK⟩
          case measure => simp [intOf]; omega
    · obtain rfl : k = n := by omega
      obtain ⟨sv, W⟩ := HW.out
      obtain ⟨p3, c3, hsv, _⟩ := ownC_slice W.own
      subst hsv
      have hlen : (allK L k).length ≤ 3000000 := by
        have h1 := allK_length L k (by rw [HN.out]; omega)
        have h2 := lenTT_le L k
        have h3 := HZ.out
        unfold szTT at h3
        omega
      have CG := goodSheetS _ _ wr (ownC_row W.own) (allK_rise L k) (fun e he => by
        have h1 := allK_mem he
        have h2 := cell_text_le HZ.out he
        exact ⟨h1.1, h1.2.2.1, h1.2.2.2, h2⟩) hlen
      have HR : Hid (sheetR L = if okC (allK L k) = true then allK L k else []) := by
        show _ = _
        unfold sheetR cellsF
        rw [HN.out]
      obtain ⟨G, hG⟩ : ∃ G, okC (allK L k) = G := ⟨_, rfl⟩
      rw [hG] at CG HR
      obtain ⟨⟨s0, s1⟩, g0, g1⟩ := W.sheet
      obtain ⟨Z, hZ⟩ : ∃ Z, (allK L k).length = Z := ⟨_, rfl⟩
      have HW2 : Hid (Way w wr w.heap.size (w.heap.size + 1) (.slice p3 Z c3) (allK L k)) := by rw [← hZ]; exact W
      rw [hZ] at CG s0
      clear HW W hG hlen hZ
      go_wp2_with fail
      refine CG.mono ?_
      rintro _ w1 ⟨rfl, e1⟩
      clear CG
      have W1 := HW2.out.later e1
      obtain ⟨⟨s0', s1'⟩, g0', g1'⟩ := W1.sheet
      obtain ⟨⟨a0, a1⟩, f0, f1⟩ := W1.ans
      cases G
      · have HB : Hid (sheetR L = []) := by rw [HR.out]; rfl
        obtain ⟨D1, D2, D3⟩ := W1.done (.slice none 0 0) [] (ownC_nil _ _)
        obtain ⟨wy, hy⟩ : ∃ wy, (w1.setCell ⟨w.heap.size, 0, none⟩ (.slice none 0 0)).setCell ⟨w.heap.size, 1, none⟩ (.slice none 0 0) = wy := ⟨_, rfl⟩
        rw [hy] at D1 D2 D3
        have d0 := D1.1.1
        have d1 := D1.1.2
        clear W1
        go_wp2_with fail
        exact bodyPost_ret (v := .agg #[.slice none 0 0, .slice none 0 0]) (by simp [results, Try.results5, go_sem, d0, d1]) rfl ⟨_, rfl, by rw [HB.out]; exact D2, D3, World.block_lt_of_cell? _ _ d0⟩
      · have HB : Hid (sheetR L = allK L k) := by rw [HR.out]; rfl
        obtain ⟨D1, D2, D3⟩ := W1.done _ _ W1.own
        obtain ⟨wy, hy⟩ : ∃ wy, (w1.setCell ⟨w.heap.size, 0, none⟩ (.slice p3 Z c3)).setCell ⟨w.heap.size, 1, none⟩ (.slice none 0 0) = wy := ⟨_, rfl⟩
        rw [hy] at D1 D2 D3
        have d0 := D1.1.1
        have d1 := D1.1.2
        clear W1
        go_wp2_with fail
        exact bodyPost_ret (v := .agg #[.slice p3 Z c3, .slice none 0 0]) (by simp [results, Try.results5, go_sem, d0, d1]) rfl ⟨_, rfl, by rw [HB.out]; exact D2, D3, World.block_lt_of_cell? _ _ d0⟩

end Go.Proofs.Ytichaheefailoaa
