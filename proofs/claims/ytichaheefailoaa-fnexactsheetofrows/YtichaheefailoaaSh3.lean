/-
  Chapter 14: SheetOfRows, of the program.
-/
import Derived.Test.YtichaheefailoaaSh2
namespace Go.Proofs.Ytichaheefailoaa
open Go.RowKit

/-- What is known on the way: the answer's cells, the sheet that grows, and its cells. -/
structure Way (w wr : World) (A S : Nat) (v : Value) (l : List CE) : Prop where
  ext : Ext w wr
  ans : Box2 wr A (.slice none 0 0) (.slice none 0 0)
  sheet : Box2 wr S v (.slice none 0 0)
  own : OwnC wr (w.heap.size + 2) v l
  room : w.heap.size + 2 ≤ wr.heap.size
theorem Way.later {w wr wq : World} {A S : Nat} {v : Value} {l : List CE} (h : Way w wr A S v l) (x : Ext wr wq) : Way w wq A S v l :=
  ⟨xt h.ext x, h.ans.later x, h.sheet.later x, ownC_later h.own x, Nat.le_trans h.room x.size⟩
theorem box2_puts {w : World} {b : Nat} {v0 v1 : Value} (h : Box2 w b v0 v1) (u0 u1 : Value) : Box2 ((w.setCell ⟨b, 0, none⟩ u0).setCell ⟨b, 1, none⟩ u1) b u0 u1 := by
  obtain ⟨⟨a0, a1⟩, f0, f1⟩ := box2_put0 h u0
  refine ⟨⟨?_, World.cell?_setCell_same _ _ _ a1⟩, by rw [World.frozen?_setCell]; exact f0, by rw [World.frozen?_setCell]; exact f1⟩
  rw [World.cell?_setCell_other _ _ _ _ (fun e => by cases e)]
  exact a0
theorem ownC_base {w : World} {a b : Nat} {v : Value} {l : List CE} (h : OwnC w a v l) (hb : b ≤ a) : OwnC w b v l := by
  refine ⟨h.1, h.2.imp id ?_⟩
  rintro ⟨g, cap, cur, h1, h2, h3, h4⟩
  exact ⟨g, cap, cur, h1, by omega, h3, h4⟩
theorem Way.done {w wr : World} {S : Nat} {v : Value} {l : List CE} (h : Way w wr w.heap.size S v l) (u : Value) (m : List CE) (hu : OwnC wr (w.heap.size + 2) u m) :
    Box2 ((wr.setCell ⟨w.heap.size, 0, none⟩ u).setCell ⟨w.heap.size, 1, none⟩ (.slice none 0 0)) w.heap.size u (.slice none 0 0) ∧ OwnC ((wr.setCell ⟨w.heap.size, 0, none⟩ u).setCell ⟨w.heap.size, 1, none⟩ (.slice none 0 0)) w.heap.size u m ∧ Ext w ((wr.setCell ⟨w.heap.size, 0, none⟩ u).setCell ⟨w.heap.size, 1, none⟩ (.slice none 0 0)) :=
  ⟨box2_puts h.ans _ _, ownC_base (ownC_far (ownC_far hu (p := ⟨w.heap.size, 0, none⟩) (by show w.heap.size < _; omega) _) (p := ⟨w.heap.size, 1, none⟩) (by show w.heap.size < _; omega) _) (by omega), xset (xset h.ext (p := ⟨w.heap.size, 0, none⟩) (Nat.le_refl _) _) (p := ⟨w.heap.size, 1, none⟩) (Nat.le_refl _) _⟩
/-- One more cell, stored into the sheet. -/
theorem Way.app {w wr : World} {v : Value} {l : List CE} (h : Way w wr w.heap.size (w.heap.size + 1) v l) (x : CE) (b : Nat) (V : Vec wr b x.cells) (hl : l.length ≤ 3000000) :
    ∃ v' w', (Builtin.append_ #[24, 24] 24 #[v, .slice (some ⟨b, 0, none⟩) 1 1]).run Try.prog wr = .ok v' w' ∧ Box2 w' (w.heap.size + 1) v (.slice none 0 0) ∧ (∃ p n c, v' = .slice p n c) ∧ Way w (w'.setCell ⟨w.heap.size + 1, 0, none⟩ v') w.heap.size (w.heap.size + 1) v' (l ++ [x]) := by
  obtain ⟨v', w', hrun, O', GW⟩ := app_cell wr (w.heap.size + 2) v l h.own x b V hl h.room
  have hr : ∀ r, v.ownBlock = some r → w.heap.size + 2 ≤ r := fun r hr => (ownC_lt h.own r hr).1
  have B1 := box2_grown h.sheet GW (fun r e => by have := hr r e; omega)
  have B0 := box2_grown h.ans GW (fun r e => by have := hr r e; omega)
  have X : Ext w w' := ext_row h.ext GW (fun r e => by have := hr r e; omega)
  obtain ⟨p, c, hv, _⟩ := ownC_slice O'
  refine ⟨v', w', hrun, B1, ⟨p, _, c, hv⟩, xset X (p := ⟨w.heap.size + 1, 0, none⟩) (by show _ ≤ w.heap.size + 1; omega) _, box2_far B0 (p := ⟨w.heap.size + 1, 0, none⟩) (by show w.heap.size + 1 ≠ _; omega) _, box2_put0 B1 _, ownC_far O' (p := ⟨w.heap.size + 1, 0, none⟩) (by show w.heap.size + 1 < _; omega) _, ?_⟩
  have := GW.size
  have h2 := h.room
  simp only [World.setCell] at *
  simp
  omega

set_option maxRecDepth 8000 in
set_option maxHeartbeats 4000000 in
theorem sheetI (v : Value) (L : List (List (List UInt8))) (w : World) (h : SsIn w v L) (hl : szTT L ≤ 1048576) :
    Calls Try.prog 7 #[v] w fun e w' => ∃ u, e = .returned (.agg #[u, .slice none 0 0]) ∧ OwnC w' w.heap.size u (sheetR L) ∧ Ext w w' ∧ w.heap.size < w'.heap.size := by
  have HI : Hid (SsIn w v L) := h
  obtain ⟨p, cap, _, rfl, hcap, -, -, -⟩ := h
  obtain ⟨n, hn⟩ : ∃ n, L.length = n := ⟨_, rfl⟩
  have HN : Hid (L.length = n) := hn
  have hnb : n ≤ 1048576 := by unfold szTT at hl; omega
  have HZ : Hid (szTT L ≤ 1048576) := hl
  rw [hn] at hcap HI ⊢
  clear hn hl
  have A0 := vec_made w [.slice none 0 0, .slice none 0 0] 27
  have XA := x1 w (.cells #[.slice none 0 0, .slice none 0 0] 27)
  have SA : (w.alloc (.cells #[.slice none 0 0, .slice none 0 0] 27)).heap.size = w.heap.size + 1 := by simp
  change Vec (w.alloc (.cells #[.slice none 0 0, .slice none 0 0] 27)) _ _ at A0
  obtain ⟨wa, ha⟩ : ∃ wa, w.alloc (.cells #[.slice none 0 0, .slice none 0 0] 27) = wa := ⟨_, rfl⟩
  rw [ha] at A0 XA SA
  have A1 := vec_made wa [.slice none 0 0, .slice none 0 0] 27
  have XB := x1 wa (.cells #[.slice none 0 0, .slice none 0 0] 27)
  have SB : (wa.alloc (.cells #[.slice none 0 0, .slice none 0 0] 27)).heap.size = w.heap.size + 2 := by simp [SA]
  change Vec (wa.alloc (.cells #[.slice none 0 0, .slice none 0 0] 27)) _ _ at A1
  obtain ⟨wb, hb⟩ : ∃ wb, wa.alloc (.cells #[.slice none 0 0, .slice none 0 0] 27) = wb := ⟨_, rfl⟩
  rw [hb] at A1 XB SB
  rw [SA] at A1
  have A0 := A0.later XB
  have W0 : Hid (Way w wb w.heap.size (w.heap.size + 1) (.slice none 0 0) []) :=
    ⟨xt XA XB, ⟨⟨(A0 0 _ rfl).1, (A0 1 _ rfl).1⟩, (A0 0 _ rfl).2, (A0 1 _ rfl).2⟩, ⟨⟨(A1 0 _ rfl).1, (A1 1 _ rfl).1⟩, (A1 0 _ rfl).2, (A1 1 _ rfl).2⟩, ownC_nil _ _, by omega⟩
  clear A0 A1 XA XB
  go_enter Try.func7, Try.ntmps7
  go_wp2_with fail
  go_loopw [11] (fun i wr => ∃ k : Nat, k ≤ n ∧ i = .int .i64 k ∧ Hid (∃ sv, Way w wr w.heap.size (w.heap.size + 1) sv (allK L k) ∧ okC (allK L k) = true)) (fun i _ => n - (intOf i).toNat)
  case atStart => exact ⟨0, by omega, rfl, _, W0.out, rfl⟩
  case round =>
    obtain ⟨k, hk, rfl, HW⟩ := hrel
    clear W0 SA SB ha hb
    by_cases hlt : k < n
    · obtain ⟨l, hgl⟩ : ∃ l, L.getD k [] = l := ⟨_, rfl⟩
      have he : L[k]? = some l := by rw [← hgl, List.getD, List.getElem?_eq_getElem (by rw [HN.out]; exact hlt)]; rfl
      have HGL : Hid (L.getD k [] = l) := hgl
      have XW : Ext w wr := by obtain ⟨_, W, _⟩ := HW.out; exact W.ext
      obtain ⟨b, o, u, rfl, c0, I1⟩ := HI.out.row he
      have c1 := cell_later XW c0
      have HIT : Hid (TxtsIn w u l) := I1
      obtain ⟨p2, cap2, rfl, hcap2, -⟩ := I1
      have hml : l.length ≤ 1048576 := by
        have h1 := HZ.out
        have h2 := lenTT_next he
        have h3 := lenTT_le L (k + 1)
        unfold szTT at h1
        have h4 : l.length ≤ szT l := by unfold szT; omega
        omega
      have htl : ∀ e ∈ l, e.length ≤ 1048576 := by
        intro e hem
        have h1 := HZ.out
        have h2 := lenTT_next he
        have h3 := lenTT_le L (k + 1)
        unfold szTT at h1
        have h4 : e.length ≤ (l.map List.length).sum := le_sum_mem (List.mem_map_of_mem hem)
        have h5 : (l.map List.length).sum ≤ szT l := by unfold szT; omega
        omega
      obtain ⟨m, hm⟩ : ∃ m, l.length = m := ⟨_, rfl⟩
      have HM : Hid (l.length = m) := hm
      have HTL : Hid (∀ e ∈ l, e.length ≤ 1048576) := htl
      have HALL : Hid (allK L (k + 1) = allK L k ++ rowK k l m) := by show _ = _; rw [← hm, ← hgl]; rfl
      have HPRE : Hid (∀ j, j ≤ m → allK L k ++ rowK k l j <+: cellsF L) := fun j hj => by
        have := part_pre L k j (by rw [HN.out]; exact hlt) (by rw [hgl, hm]; exact hj)
        rw [hgl] at this
        exact this
      have HLN : Hid (∀ j, j ≤ m → (allK L k ++ rowK k l j).length ≤ 3000000) := fun j hj => by
        have h1 := allK_length L k (by rw [HN.out]; omega)
        have h2 := lenTT_le L k
        have h3 := HZ.out
        have h4 := rowK_length k l j
        unfold szTT at h3
        rw [List.length_append]
        omega
      rw [hm] at hcap2 hml c1 HIT
      have hlt' : (k : Int) < (n : Int) := by omega
      have HS0 : Hid (∃ sv, Way w wr w.heap.size (w.heap.size + 1) sv (allK L k ++ rowK k l 0) ∧ okC (allK L k ++ rowK k l 0) = true) := by
        obtain ⟨sv, W, ok⟩ := HW.out
        exact ⟨sv, by simpa [rowK] using W, by simpa [rowK] using ok⟩
      obtain ⟨wo, hwo⟩ : ∃ wo, wo = wr := ⟨_, rfl⟩
      subst hwo
      clear HW XW he hgl hm htl HI c0
      go_wp2_with fail
      go_loopw [18] (fun i wr => ∃ j : Nat, j ≤ m ∧ i = .int .i64 j ∧ Hid (∃ sv, Way w wr w.heap.size (w.heap.size + 1) sv (allK L k ++ rowK k l j) ∧ okC (allK L k ++ rowK k l j) = true)) (fun i _ => m - (intOf i).toNat)
      case atStart => exact ⟨0, by omega, rfl, HS0.out⟩
      case round =>
        obtain ⟨j, hj, rfl, HJ⟩ := hrel
        clear HS0 c1
        by_cases hjm : j < m
        · obtain ⟨f, hf⟩ : ∃ f, l[j]? = some f := ⟨_, List.getElem?_eq_getElem (by rw [HM.out]; exact hjm)⟩
          obtain ⟨sv, W, ok⟩ := HJ.out
          have XO := W.ext
          have fl := HTL.out f (List.mem_of_getElem? hf)
          have hjm' : (j : Int) < (m : Int) := by omega
          obtain ⟨p3, cap3, e3, _, hr3⟩ := HIT.out
          cases e3
          obtain ⟨b2, o2, rfl, hc2⟩ := hr3 (by rw [HM.out]; omega)
          have c2 := cell_later XO (hc2 j f hf)
          have HNX : Hid (rowK k l (j + 1) = rowK k l j ++ fieldC k j (some f)) := by show _ = _; rw [← hf]; rfl
          clear hc2 hr3 HIT hf
          cases f with
          | nil =>
            have HK : Hid (∃ sv, Way w wr w.heap.size (w.heap.size + 1) sv (allK L k ++ rowK k l (j + 1)) ∧ okC (allK L k ++ rowK k l (j + 1)) = true) := by
              rw [HNX.out]
              refine ⟨sv, ?_, ?_⟩
              · simpa [fieldC] using W
              · simpa [fieldC] using ok
            clear HJ W ok
            go_wp2_with fail
            go_roundw
            case rel => exact ⟨j + 1, by omega, by go_num, HK⟩
            case measure => simp [intOf]; omega
          | cons b0 f0 =>
            obtain ⟨F, hF⟩ : ∃ F, b0 :: f0 = F := ⟨_, rfl⟩
            have HNE : Hid (F ≠ []) := by show _ ≠ _; rw [← hF]; simp
            obtain ⟨T, hT⟩ : ∃ T, typT F = T := ⟨_, rfl⟩
            have hfc : fieldC k j (some (b0 :: f0)) = [⟨k + 1, j + 1, T⟩] := by rw [← hT, ← hF]; rfl
            rw [hfc] at HNX
            rw [hF] at c2 fl
            have tl : 1 ≤ T.length ∧ T.length ≤ 2000000 := by
              rw [← hT]
              unfold typT
              have : 1 ≤ F.length := by rw [← hF]; simp
              split
              · rw [List.length_cons]; omega
              · omega
            have CT := typedI F wr (by omega)
            rw [hT] at CT
            have hne : (F == []) = false := by rw [← hF]; rfl
            obtain ⟨cnt, hcnt⟩ : ∃ cnt, (allK L k ++ rowK k l j).length = cnt := ⟨_, rfl⟩
            have hcl := HLN.out j hj
            have HSN := okC_snoc (allK L k ++ rowK k l j) ⟨k + 1, j + 1, T⟩ ok
            have HPR : Hid (allK L k ++ rowK k l j ++ [⟨k + 1, j + 1, T⟩] <+: cellsF L) := by
              have := HPRE.out (j + 1) (by omega)
              rw [HNX.out, ← List.append_assoc] at this
              exact this
            rw [hcnt] at HSN hcl
            have HSN : Hid (okC (allK L k ++ rowK k l j ++ [⟨k + 1, j + 1, T⟩]) = (!(cnt == 300) && (⟨k + 1, j + 1, T⟩ : CE).good)) := HSN
            clear hF HNE hT hfc HJ
            go_wp2_with fail
            refine CT.mono ?_
            rintro _ wz ⟨rfl, rfl⟩
            have VB := vec_made wz [.int .i64 ((k : Int) + 1), .int .i64 ((j : Int) + 1), sV T] 37
            have X1 := x1 wz (.cells #[.int .i64 ((k : Int) + 1), .int .i64 ((j : Int) + 1), sV T] 37)
            change Vec (wz.alloc (.cells #[.int .i64 ((k : Int) + 1), .int .i64 ((j : Int) + 1), sV T] 37)) _ _ at VB
            obtain ⟨w1, hw1⟩ : ∃ q, wz.alloc (.cells #[.int .i64 ((k : Int) + 1), .int .i64 ((j : Int) + 1), sV T] 37) = q := ⟨_, rfl⟩
            rw [hw1] at VB X1
            have W1 := W.later X1
            obtain ⟨p4, c4, hsv, _⟩ := ownC_slice W1.own
            subst hsv
            rw [hcnt] at W1
            obtain ⟨⟨s0, s1⟩, g0, g1⟩ := W1.sheet
            have HW1 : Hid (Way w w1 w.heap.size (w.heap.size + 1) (.slice p4 cnt c4) (allK L k ++ rowK k l j)) := W1
            have HOK : Hid (okC (allK L k ++ rowK k l j) = true) := ok
            clear W W1 CT ok XO
            by_cases h3 : cnt = 300
            · have HB : Hid (sheetR L = []) := sheetR_bad HPR.out (by rw [HSN.out, h3]; rfl)
              subst h3
              obtain ⟨D1, D2, D3⟩ := HW1.out.done (.slice none 0 0) [] (ownC_nil _ _)
              obtain ⟨⟨a0, a1⟩, f0, f1⟩ := HW1.out.ans
              obtain ⟨wy, hy⟩ : ∃ wy, (w1.setCell ⟨w.heap.size, 0, none⟩ (.slice none 0 0)).setCell ⟨w.heap.size, 1, none⟩ (.slice none 0 0) = wy := ⟨_, rfl⟩
              rw [hy] at D1 D2 D3
              have d0 := D1.1.1
              have d1 := D1.1.2
              go_wp2_with fail
              exact bodyPost_ret (v := .agg #[.slice none 0 0, .slice none 0 0]) (by simp [results, Try.results7, go_sem, d0, d1]) rfl ⟨_, rfl, by rw [HB.out]; exact D2, D3, World.block_lt_of_cell? _ _ d0⟩
            · have f1 : ((cnt : Int) == 300) = false := by simp; omega
              have CG := isGoodI2 ⟨k + 1, j + 1, T⟩ ((k : Int) + 1) ((j : Int) + 1) w1 (by simp) (by simp) (by simp) (by simp) tl.1 tl.2
              obtain ⟨G, hG⟩ : ∃ G, (⟨k + 1, j + 1, T⟩ : CE).good = G := ⟨_, rfl⟩
              rw [hG] at CG HSN
              have b0 := (VB 0 _ rfl).1
              have b1 := (VB 1 _ rfl).1
              have b2 := (VB 2 _ rfl).1
              clear hG
              go_wp2_with fail
              refine CG.mono ?_
              rintro _ w2 ⟨rfl, e2⟩
              clear CG
              cases G
              · have HB : Hid (sheetR L = []) := sheetR_bad HPR.out (by rw [HSN.out]; simp)
                have W2 := HW1.out.later e2
                obtain ⟨D1, D2, D3⟩ := W2.done (.slice none 0 0) [] (ownC_nil _ _)
                obtain ⟨⟨a0, a1⟩, f0, f1⟩ := W2.ans
                obtain ⟨wy, hy⟩ : ∃ wy, (w2.setCell ⟨w.heap.size, 0, none⟩ (.slice none 0 0)).setCell ⟨w.heap.size, 1, none⟩ (.slice none 0 0) = wy := ⟨_, rfl⟩
                rw [hy] at D1 D2 D3
                have d0 := D1.1.1
                have d1 := D1.1.2
                go_wp2_with fail
                exact bodyPost_ret (v := .agg #[.slice none 0 0, .slice none 0 0]) (by simp [results, Try.results7, go_sem, d0, d1]) rfl ⟨_, rfl, by rw [HB.out]; exact D2, D3, World.block_lt_of_cell? _ _ d0⟩
              · have VC := vec_made w2 [.int .i64 ((k : Int) + 1), .int .i64 ((j : Int) + 1), sV T] 37
                have X3 := x1 w2 (.cells #[.int .i64 ((k : Int) + 1), .int .i64 ((j : Int) + 1), sV T] 37)
                change Vec (w2.alloc (.cells #[.int .i64 ((k : Int) + 1), .int .i64 ((j : Int) + 1), sV T] 37)) _ _ at VC
                obtain ⟨w3, hw3⟩ : ∃ q, w2.alloc (.cells #[.int .i64 ((k : Int) + 1), .int .i64 ((j : Int) + 1), sV T] 37) = q := ⟨_, rfl⟩
                rw [hw3] at VC X3
                have W3 := HW1.out.later (xt e2 X3)
                obtain ⟨v', w4, hrun, B1, ⟨p5, n5, c5, hv5⟩, W5⟩ := W3.app ⟨k + 1, j + 1, T⟩ w2.heap.size VC (by rw [hcnt]; exact hcl)
                subst hv5
                obtain ⟨⟨t0, t1⟩, g2, g3⟩ := HW1.out.sheet.later e2
                have q0 := cell_later e2 b0
                have q1 := cell_later e2 b1
                have q2 := cell_later e2 b2
                obtain ⟨⟨r0, r1⟩, g4, g5⟩ := B1
                obtain ⟨w5, hw5⟩ : ∃ q, w4.setCell ⟨w.heap.size + 1, 0, none⟩ (.slice p5 n5 c5) = q := ⟨_, rfl⟩
                rw [hw5] at W5
                have HK : Hid (∃ sv, Way w w5 w.heap.size (w.heap.size + 1) sv (allK L k ++ rowK k l (j + 1)) ∧ okC (allK L k ++ rowK k l (j + 1)) = true) := by
                  rw [HNX.out, ← List.append_assoc]
                  exact ⟨_, W5, by rw [HSN.out]; simp; exact h3⟩
                clear W3 HW1 VB VC
                go_wp2_with (at_builtin; refine Lib.wpList_append_run _ rfl _ _ _ _ rfl _ _ rfl rfl _ _ hrun ?_)
                go_wp2_with fail
                go_roundw
                case rel => exact ⟨j + 1, by omega, by go_num, HK⟩
                case measure => simp [intOf]; omega
        · obtain rfl : j = m := by omega
          have HK : Hid (∃ sv, Way w wr w.heap.size (w.heap.size + 1) sv (allK L (k + 1)) ∧ okC (allK L (k + 1)) = true) := by
            rw [HALL.out]
            exact HJ.out
          clear HJ
          go_wp2_with fail
          go_roundw
          case rel => exact ⟨k + 1, by omega, by go_num, HK⟩
          case measure => simp [intOf]; omega
    · obtain rfl : k = n := by omega
      obtain ⟨sv, W, ok⟩ := HW.out
      obtain ⟨p3, c3, rfl, _⟩ := ownC_slice W.own
      obtain ⟨⟨s0, s1⟩, g0, g1⟩ := W.sheet
      obtain ⟨⟨a0, a1⟩, f0, f1⟩ := W.ans
      have HR : Hid (sheetR L = allK L k) := by
        show _ = _
        unfold sheetR cellsF
        rw [HN.out, if_pos ok]
      obtain ⟨D1, D2, D3⟩ := W.done _ _ W.own
      obtain ⟨wy, hy⟩ : ∃ wy, (wr.setCell ⟨w.heap.size, 0, none⟩ (.slice p3 (allK L k).length c3)).setCell ⟨w.heap.size, 1, none⟩ (.slice none 0 0) = wy := ⟨_, rfl⟩
      rw [hy] at D1 D2 D3
      have d0 := D1.1.1
      have d1 := D1.1.2
      clear HW W ok
      go_wp2_with fail
      exact bodyPost_ret (v := .agg #[.slice p3 (allK L k).length c3, .slice none 0 0]) (by simp [results, Try.results7, go_sem, d0, d1]) rfl ⟨_, rfl, by rw [HR.out]; exact D2, D3, World.block_lt_of_cell? _ _ d0⟩

end Go.Proofs.Ytichaheefailoaa
