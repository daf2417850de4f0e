/-
  ReadRefBy, the specification's.
-/
import Derived.Test.YtifangkifpnnpaaDoorBp
namespace Go.Proofs.YtifangkifpnnpaaDoor
open Go.RowKit

theorem ByOK.none {l : List UInt8} {row col : Int} (h : ∀ r' c' rf' cf', GoodR r' c' → GoodR row col → byL r' c' rf' cf' row col ≠ l) : ByOK l row col false 0 0 false false := .inr ⟨rfl, ⟨rfl, rfl, rfl, rfl⟩, h⟩

set_option maxRecDepth 8000 in
set_option maxHeartbeats 4000000 in
theorem readByS (l : List UInt8) (row col : Int) (w : World) (hl : l.length ≤ 1048576) :
    Calls Tryd.prog 27 #[.string (bs l), .int .i64 row, .int .i64 col] w fun e w' => ∃ ok r c rf cf, e = .returned (.tuple #[refV r c rf cf, .bool ok]) ∧ ByOK l row col ok r c rf cf ∧ Ext w w' := by
  obtain ⟨L, hL⟩ : ∃ k, l.length = k := ⟨_, rfl⟩
  have zL : (bs l).size = L := by rw [bs_size, hL]
  have L20 : (L : Int) ≤ 1048576 := by omega
  have B6 := Vec.made4 w (.int .i64 0) (.int .i64 0) (.bool false) (.bool false) 24
  have X := x1 w (.cells #[.int .i64 0, .int .i64 0, .bool false, .bool false] 24)
  have PL := fun w => placeS row col w
  by_cases hL0 : L = 0
  · have HO : Hid (ByOK l row col false 0 0 false false) := ByOK.none (fun r' c' rf' cf' hg hh e => by
      obtain ⟨_, _, _, x, hx⟩ := parseByS hg hh e
      rw [hx] at hL
      simp at hL
      omega)
    have f1 : ((L : Int) == 0) = true := by rw [hL0]; rfl
    obtain ⟨⟨m0, m1, m2, m3⟩, f0, f1', f2, f3⟩ := B6.box4
    clear PL hL hl
    go_enter Tryd.func27, Tryd.ntmps27
    go_wp2_with fail
    exact bodyPost_ret (v := .tuple #[refV 0 0 false false, .bool false]) (by simp [results, Tryd.results27, go_sem]) rfl ⟨false, 0, 0, false, false, rfl, HO.out, X⟩
  · have f1 : ((L : Int) == 0) = false := by rw [beq_eq_false_iff_ne]; omega
    have hp : 0 < (bs l).size := by omega
    obtain ⟨N, hN⟩ : ∃ N : Int, (((bs l)[0]'hp).toNat : Int) = N := ⟨_, rfl⟩
    by_cases hR : N = 82
    · subst hR
      by_cases hh : GoodR row col
      · rw [(goodRB_iff row col).2 hh] at PL
        have hb0 : l.getD 0 0 = 82 := by
          rw [← byte_bs hp]
          exact UInt8.toNat_inj.1 (by show ((bs l)[0]'hp).toNat = 82; omega)
        have P1 := fun w => readByPartS l 1 row w hl (by omega) (by have := hh.1; omega) (by have := hh.1; omega)
        have P2 := fun (j : Nat) (hj : j ≤ l.length) w => readByPartS l j col w hl hj (by have := hh.2; omega) (by have := hh.2; omega)
        go_enter Tryd.func27, Tryd.ntmps27
        go_wp2_with fail
        refine (PL _).mono ?_
        rintro e w2 ⟨rfl, e2⟩
        have B6 := B6.later e2
        have X := xt X e2
        clear PL e2 f1
        go_wp2_with fail
        refine (P1 _).mono ?_
        rintro e w3 ⟨n1, x1', j1, rfl, hj1, hm1, rfl⟩
        clear P1
        obtain ⟨t, hdt⟩ : ∃ t, l.drop j1 = t := ⟨_, rfl⟩
        obtain ⟨q1, hq1⟩ : ∃ b, Lib.hasPrefix t [67] = b := ⟨_, rfl⟩
        have hlen := congrArg List.length hdt
        rw [List.length_drop] at hlen
        obtain ⟨pm1, pm2⟩ := mark_b t 67
        rw [hq1] at pm1 pm2
        have HB := byte_first (l := l) (i := j1) hdt
        have B6a := B6.later (x1 w2 (.cells #[.int .i64 n1, .int .i64 0, .bool x1', .bool false] 24))
        have Xa := xa X (.cells #[.int .i64 n1, .int .i64 0, .bool x1', .bool false] 24)
        cases q1
        · have HO : Hid (ByOK l row col false 0 0 false false) := ByOK.none (fun r' c' rf' cf' hg hh' e => by
            obtain ⟨y, hy, _, _⟩ := parseByS hg hh' e
            rw [hm1] at hy
            simp only [Prod.mk.injEq] at hy
            rw [← hdt, hy.2.2, head_cons] at hq1
            exact absurd hq1 (by decide))
          obtain ⟨wz, hz⟩ : ∃ wz, w2.alloc (.cells #[.int .i64 n1, .int .i64 0, .bool x1', .bool false] 24) = wz := ⟨_, rfl⟩
          rw [hz] at B6a Xa
          obtain ⟨⟨m0, m1, m2, m3⟩, f0, f1, f2, f3⟩ := B6a.box4
          have lt2 : w.heap.size < w2.heap.size := World.block_lt_of_cell? _ _ (B6 0 _ rfl).1
          have ne1 : (w.heap.size = w2.heap.size) = False := eq_false (by omega)
          have ne2 : (w2.heap.size = w.heap.size) = False := eq_false (by omega)
          by_cases h0 : j1 < L
          · have hp1 : j1 < (bs l).size := by omega
            obtain ⟨N, hN1⟩ : ∃ N : Int, (((bs l)[j1]'hp1).toNat : Int) = N := ⟨_, rfl⟩
            have hb : ((bs l)[j1]'hp1) ≠ 67 := by rw [HB hp1]; exact pm2 rfl (by omega)
            have hb2 : (N == 67) = false := by
              rw [← hN1, beq_eq_false_iff_ne]
              intro q
              exact hb (UInt8.toNat_inj.1 (by show ((bs l)[j1]'hp1).toNat = 67; omega))
            have hb3 : (N != 67) = true := by rw [bne, hb2]; rfl
            have h0'' : decide ((j1 : Int) ≥ (L : Int)) = false := decide_eq_false (by omega)
            clear pm1 pm2 HB hlen hb hq1 hdt hm1 P2 hb0 hN hh B6 X
            go_wp2_with fail
            exact bodyPost_ret (v := .tuple #[refV 0 0 false false, .bool false]) (by simp [results, Tryd.results27, go_sem, m0, m1, m2, m3]) rfl ⟨false, 0, 0, false, false, rfl, HO.out, Ext.set4 (o := 0) Xa (Nat.le_refl _) _ _ _ _⟩
          · have h0'' : decide ((j1 : Int) ≥ (L : Int)) = true := decide_eq_true (by omega)
            clear pm1 pm2 HB hlen hq1 hdt hm1 P2 hb0 hN hh B6 X
            go_wp2_with fail
            exact bodyPost_ret (v := .tuple #[refV 0 0 false false, .bool false]) (by simp [results, Tryd.results27, go_sem, m0, m1, m2, m3]) rfl ⟨false, 0, 0, false, false, rfl, HO.out, Ext.set4 (o := 0) Xa (Nat.le_refl _) _ _ _ _⟩
        · obtain ⟨ht0, hbb⟩ := pm1 rfl
          have hp1 : j1 < (bs l).size := by omega
          have hb2 : (((bs l)[j1]'hp1).toNat : Int) = 67 := by rw [HB hp1, hbb]; decide
          have h0'' : decide ((j1 : Int) ≥ (L : Int)) = false := decide_eq_false (by omega)
          have P3 := fun w => P2 (j1 + 1) (by omega) w
          have ej : ((j1 + 1 : Nat) : Int) = (j1 : Int) + 1 := by omega
          rw [ej] at P3
          have hty : ∀ y, t = 67 :: y → l.drop (j1 + 1) = y := fun y hy => by rw [← List.drop_drop, hdt, hy]; rfl
          have HTY : Hid (∀ y, t = 67 :: y → l.drop (j1 + 1) = y) := hty
          have HM1 : Hid (byM (l.drop 1) row = (n1, x1', t)) := by show _ = _; rw [hm1, hdt]
          clear pm1 pm2 HB hlen hq1 hdt hm1 P2 hb0 hN B6a Xa hbb ht0 hty ej
          go_wp2_with fail
          refine (P3 _).mono ?_
          rintro e w3 ⟨n2, x2', j2, rfl, hj2, hm2, rfl⟩
          have HP : Hid (∀ r' c' rf' cf', GoodR r' c' → GoodR row col → byL r' c' rf' cf' row col = l → n1 = r' ∧ n2 = c' ∧ x1' = rf' ∧ x2' = cf') := fun r' c' rf' cf' hg hh' e => by
            obtain ⟨y, hy, hy2, _⟩ := parseByS hg hh' e
            rw [HM1.out] at hy
            simp only [Prod.mk.injEq] at hy
            rw [HTY.out y hy.2.2, hy2] at hm2
            simp only [Prod.mk.injEq] at hm2
            exact ⟨hy.1, hm2.1.symm, hy.2.1, hm2.2.1.symm⟩
          have B6 := B6.later (x1 w2 (.cells #[.int .i64 n1, .int .i64 n2, .bool x1', .bool x2'] 24))
          have X := xa X (.cells #[.int .i64 n1, .int .i64 n2, .bool x1', .bool x2'] 24)
          have B8 := Vec.made4 w2 (.int .i64 n1) (.int .i64 n2) (.bool x1') (.bool x2') 24
          clear P3 hm2 HM1 HTY hj2 hb2 h0''
          go_wp2_with fail
          refine (goodRS _ _ _ _ _).mono ?_
          rintro e w6 ⟨rfl, e6⟩
          have B8 := B8.later e6
          have B6 := B6.later e6
          have X := xt X e6
          clear e6
          obtain ⟨⟨a0, a1, a2, a3⟩, _⟩ := B8.box4
          by_cases hg : GoodR n1 n2
          · rw [(goodRB_iff n1 n2).2 hg]
            go_wp2_with fail
            refine (byTextS n1 n2 x1' x2' row col _).mono ?_
            rintro e w7 ⟨rfl, e7⟩
            have HT : Hid (byT n1 n2 x1' x2' row col = byL n1 n2 x1' x2' row col) := by show _ = _; unfold byT; rw [if_pos ⟨hg, hh⟩]
            rw [HT.out]
            have B8 := B8.later e7
            have B6 := B6.later e7
            have X := xt X e7
            clear e7 a0 a1 a2 a3
            obtain ⟨⟨a0, a1, a2, a3⟩, _⟩ := B8.box4
            obtain ⟨⟨m0, m1, m2, m3⟩, f0, f1, f2, f3⟩ := B6.box4
            by_cases he : byL n1 n2 x1' x2' row col = l
            · have HO : Hid (ByOK l row col true n1 n2 x1' x2') := .inl ⟨rfl, ⟨hg, hh⟩, he⟩
              rw [he]
              clear hg he HP HT hh
              go_wp2_with fail
              exact bodyPost_ret (v := .tuple #[refV n1 n2 x1' x2', .bool true]) (by simp [results, Tryd.results27, go_sem, m0, m1, m2, m3]) rfl ⟨true, n1, n2, x1', x2', rfl, HO.out, Ext.set4 (o := 0) X (Nat.le_refl _) _ _ _ _⟩
            · have HO : Hid (ByOK l row col false 0 0 false false) := ByOK.of_parse HP.out (fun q => he q.2)
              have hne : ((bs (byL n1 n2 x1' x2' row col)).toList == (bs l).toList) = false := str_not (fun q => he (by have := congrArg (fun s : ByteArray => s.data.toList) q; exact this))
              obtain ⟨s6, hs6⟩ : ∃ s, bs (byL n1 n2 x1' x2' row col) = s := ⟨_, rfl⟩
              obtain ⟨s7, hs7⟩ : ∃ s, bs l = s := ⟨_, rfl⟩
              rw [hs6, hs7] at hne
              rw [hs6, hs7]
              clear hg he HP HT hs6 hs7 zL hp hp1 hh
              go_wp2_with fail
              exact bodyPost_ret (v := .tuple #[refV 0 0 false false, .bool false]) (by simp [results, Tryd.results27, go_sem, m0, m1, m2, m3]) rfl ⟨false, 0, 0, false, false, rfl, HO.out, Ext.set4 (o := 0) X (Nat.le_refl _) _ _ _ _⟩
          · have HO : Hid (ByOK l row col false 0 0 false false) := ByOK.of_parse HP.out (fun q => hg q.1.1)
            rw [notGood hg]
            obtain ⟨⟨m0, m1, m2, m3⟩, f0, f1, f2, f3⟩ := B6.box4
            clear hg HP hh
            go_wp2_with fail
            exact bodyPost_ret (v := .tuple #[refV 0 0 false false, .bool false]) (by simp [results, Tryd.results27, go_sem, m0, m1, m2, m3]) rfl ⟨false, 0, 0, false, false, rfl, HO.out, Ext.set4 (o := 0) X (Nat.le_refl _) _ _ _ _⟩
      · rw [notGood hh] at PL
        have HO : Hid (ByOK l row col false 0 0 false false) := ByOK.none (fun r' c' rf' cf' _ hh' _ => hh hh')
        clear hh
        go_enter Tryd.func27, Tryd.ntmps27
        go_wp2_with fail
        refine (PL _).mono ?_
        rintro e w2 ⟨rfl, e2⟩
        have B6 := B6.later e2
        have X := xt X e2
        obtain ⟨⟨m0, m1, m2, m3⟩, f0, f1', f2, f3⟩ := B6.box4
        clear PL e2
        go_wp2_with fail
        exact bodyPost_ret (v := .tuple #[refV 0 0 false false, .bool false]) (by simp [results, Tryd.results27, go_sem, m0, m1, m2, m3]) rfl ⟨false, 0, 0, false, false, rfl, HO.out, Ext.set4 (o := 0) X (Nat.le_refl _) _ _ _ _⟩
    · have HO : Hid (ByOK l row col false 0 0 false false) := ByOK.none (fun r' c' rf' cf' hg hh e => by
        obtain ⟨_, _, _, x, hx⟩ := parseByS hg hh e
        apply hR
        rw [← hN, byte_bs hp, hx]
        rfl)
      have hb2 : (N == 82) = false := by rw [beq_eq_false_iff_ne]; exact hR
      have hb3 : (N != 82) = true := by rw [bne, hb2]; rfl
      clear PL hL hl hR
      go_enter Tryd.func27, Tryd.ntmps27
      go_wp2_with fail
      exact bodyPost_ret (v := .tuple #[refV 0 0 false false, .bool false]) (by simp [results, Tryd.results27, go_sem]) rfl ⟨false, 0, 0, false, false, rfl, HO.out, X⟩

set_option maxRecDepth 8000 in
set_option maxHeartbeats 1000000 in
theorem lawReadRefBy (s : ByteArray) (row col : Int) (w : World) (LW : LibW w) (IT : ItoaC w) :
    Calls Tryd.prog 7 #[.string s, .int .i64 row, .int .i64 col] w fun e w' => e = .returned (.bool true) ∧ Ext w w' := by
  obtain ⟨l, hl⟩ : ∃ l, s.data.toList = l := ⟨_, rfl⟩
  obtain rfl : s = bs l := bs_of hl
  obtain ⟨L, hL⟩ : ∃ k, l.length = k := ⟨_, rfl⟩
  have zL : (bs l).size = L := by rw [bs_size, hL]
  clear hl
  by_cases h20 : (L : Int) > 1048576
  · have f : decide ((L : Int) > 1048576) = true := decide_eq_true h20
    go_enter Tryd.func7, Tryd.ntmps7
    go_wp2_with fail
    go_ret
    exact ⟨rfl, xr _⟩
  · have f : decide ((L : Int) > 1048576) = false := decide_eq_false h20
    have RS := readByS l row col w (by omega)
    have RI := fun (w' : World) (x : Ext w w') => readByI l row col w' (by omega) (LW.later x) IT x
    clear LW IT
    go_enter Tryd.func7, Tryd.ntmps7
    go_wp2_with fail
    refine RS.mono ?_
    rintro e w1 ⟨ok, r, c, rf, cf, rfl, HO, e1⟩
    have P := Box4.made w1 (.int .i64 r) (.int .i64 c) (.bool rf) (.bool cf) 24
    have X2 := xa e1 (.cells #[.int .i64 r, .int .i64 c, .bool rf, .bool cf] 24)
    clear RS e1
    go_wp2_with fail
    refine (RI _ X2).mono ?_
    rintro e w3 ⟨ok', r', c', rf', cf', rfl, HO', e3⟩
    obtain ⟨rfl, rfl, rfl, rfl, rfl⟩ := HO.one HO'
    have P := P.later (xa e3 (.cells #[.int .i64 r, .int .i64 c, .bool rf, .bool cf] 24))
    have X3 := xa (xt X2 e3) (.cells #[.int .i64 r, .int .i64 c, .bool rf, .bool cf] 24)
    obtain ⟨⟨a0, a1, a2, a3⟩, _⟩ := P
    clear RI X2 e3 HO HO'
    go_wp2_with fail
    refine (eqRef_same _ _ _ _ _).mono ?_
    rintro e w4 ⟨rfl, e4⟩
    go_wp2_with fail
    all_goals go_ret
    all_goals exact ⟨rfl, xt X3 e4⟩

end Go.Proofs.YtifangkifpnnpaaDoor
