/-
  Several texts in one: E18, E28, E29.
-/
import Derived.Test.YtbomplppgobkdaaGreatDoorMg44
namespace Go.Proofs.YtbomplppgobkdaaGreatDoor
open Go.RowKit

theorem kapG_length (l : List VT) (c : Nat) (cols : List Nat) (row : Nat) : (kapG l c cols row).length = cols.length := by unfold kapG; rw [List.length_map, keyG_length]
set_option maxRecDepth 8000 in
set_option maxHeartbeats 4000000 in
theorem groupSome (R C : Nat) (v u : Value) (l : List VT) (cl : List Int) (w : World) (h : ValsIn w v l) (hlen : l.length = R * C) (h2 : l.length ≤ 2000) (hR : R ≤ 2000) (hC : C ≤ 2000) (hr : ∀ e ∈ l, e.good = true ∧ e.room) (hu : IntsIn w u cl) (h4 : cl.length ≤ 4) (hcl : ∀ k, k < cl.length → 1 ≤ cl.getD k 0 ∧ cl.getD k 0 ≤ C) (hg : goodG R C l = true) (ho : onceB C cl = true) (hT : Tens w) (hE : ErrTab w) :
    Calls Tryz.prog 11 #[grV R C v, u] w fun e w' => ∃ sv L Ix, e = .returned sv ∧ LieG w' w.heap.size w.heap.size sv L ∧ OrdG l C (colN cl) R Ix ∧ L.map GG.told = Ix.map (fun i => (keyG l C (colN cl) i, rowsG (kapG l C (colN cl)) R i)) ∧ Ext w w' := by
  have CI : Hid (∀ (W : World) (row : Nat), Ext w W → row < R → Calls Tryz.prog 30 #[grV R C v, .int .i64 row, u] W fun e w' => ∃ sv, e = .returned sv ∧ OwnW w' W.heap.size sv (keyG l C (colN cl) row) ∧ Ext W w') := fun W row hW hrow => cellsInI R C v u l cl row W (h.later hW) hlen h2 hrow (hu.later hW) (by omega) hcl hC
  have CO : Hid (∀ W, Ext w W → Calls Tryz.prog 29 #[grV R C v, u] W fun e w' => e = .returned (.bool true) ∧ Ext W w') := fun W hW => by
    have := hasOnceI R C v u cl W (hu.later hW) (by omega)
    rw [ho] at this
    exact this
  have X0 := x1 w (.cells #[.int .i64 R, .int .i64 C, v] 25)
  have B0 := vec_made w [.int .i64 R, .int .i64 C, v] 25
  obtain ⟨u0, hu0⟩ : ∃ u, w.alloc (.cells #[.int .i64 R, .int .i64 C, v] 25) = u := ⟨_, rfl⟩
  change Vec (w.alloc (.cells #[.int .i64 R, .int .i64 C, v] 25)) _ _ at B0
  rw [hu0] at X0 B0
  obtain ⟨a0, a1, a2⟩ := Vec.three B0
  have C0 := goodGI R C v l u0 (h.later X0) (by omega) (fun e he => (hr e he).2.1) (fun e he => (hr e he).2.2) (hT.later X0) (hE.later X0)
  rw [hg] at C0
  have HGD : Hid (∀ e ∈ l, e.good = true ∧ e.room) := hr
  have HNK : Hid (∀ i, (kapG l C (colN cl) i).length = cl.length) := fun i => by rw [kapG_length, colN_length]
  obtain ⟨pu, cu, e, hcu, -⟩ := hu
  subst e
  obtain ⟨n, hn⟩ : ∃ n, cl.length = n := ⟨_, rfl⟩
  have HN : Hid (cl.length = n) := hn
  rw [hn] at hcu h4 HNK CI CO ⊢
  have i4 : ¬ (n : Int) > 4 := by omega
  have HKA : Hid (∀ i, ∀ e ∈ kapG l C (colN cl) i, InK e) := fun i e he => by
    unfold kapG at he
    obtain ⟨x, hx, rfl⟩ := List.mem_map.1 he
    unfold keyG at hx
    obtain ⟨j, _, rfl⟩ := List.mem_map.1 hx
    by_cases hj : i * C + (j - 1) < l.length
    · exact inK_nrm (HGD.out _ (cel_mem hj)).1 (HGD.out _ (cel_mem hj)).2
    · have : cel l (i * C + (j - 1)) = zeroVT := by unfold cel; rw [List.getD_eq_getElem?_getD, List.getElem?_eq_none (by omega)]; rfl
      rw [this]
      exact inK_zero
  clear h hlen h2 hr hcl hg ho hn
  go_enter Tryz.func11, Tryz.ntmps11
  go_wp2_with fail
  refine C0.mono ?_
  rintro e w1 ⟨rfl, e1⟩
  obtain ⟨a0, a1, a2⟩ := Vec.three (B0.later e1)
  have C2 := CO.out w1 (xt X0 e1)
  go_wp2_with fail
  refine C2.mono ?_
  rintro e w2 ⟨rfl, e2⟩
  have B2 := B0.later (xt e1 e2)
  have X2 := xt X0 (xt e1 e2)
  have M0 := MapQ.made w2
  have XM := x1 w2 (.map #[] 0)
  obtain ⟨m, hme⟩ : ∃ m, w2.heap.size = m := ⟨_, rfl⟩
  have hm0 : w.heap.size + 1 ≤ m := by have := (xt e1 e2).size; have h9 : u0.heap.size = w.heap.size + 1 := by rw [← hu0, World.size_alloc]
                                       omega
  obtain ⟨u2, hu2⟩ : ∃ u, w2.alloc (.map #[] 0) = u := ⟨_, rfl⟩
  have hmk : (Instr.makeMap 67 none).run Tryz.prog w2 = .ok (.map (some m)) u2 := by rw [run_makeMap, hu2, hme]
  rw [hu2] at M0 XM
  rw [hme] at M0
  have HM0 : Hid (MapQ u2 m 0 (fun _ => none) []) := M0
  have X3 := xt X2 XM
  have HBG : Hid (Vec w2 w.heap.size [.int .i64 R, .int .i64 C, v] ∧ Ext w w2 ∧ Ext w2 u2) := ⟨B2, X2, XM⟩
  obtain ⟨a0, a1, a2⟩ := Vec.three (B2.later XM)
  clear M0 C0 C2 hu2 B2 XM X2 X3
  go_wp2_with fail
  clear hmk a0 a1 a2
  go_loopw [30] (fun i wr => ∃ y : Nat, y ≤ R ∧ i = .int .i64 y ∧ Hid (∃ f T, MapQ wr m y f T ∧ RowsQ wr m m f ∧ GrpF (kapG l C (colN cl)) y f T ∧ Ext w2 wr)) (fun i _ => R - (intOf i).toNat)
  case atStart => exact ⟨0, by omega, rfl, fun _ => none, [], HM0.out, RowsQ.nil _ _ _, GrpF.start _, HBG.out.2.2⟩
  case round =>
    obtain ⟨y, hy, rfl, HI⟩ := hrel
    have HX : Hid (Ext w2 wr) := by obtain ⟨f, T, _, _, _, X⟩ := HI.out; exact X
    by_cases hlt : y < R
    · have i2 : (y : Int) < (R : Int) := by omega
      have XZ := x1 wr (.cells #[.int .i64 0, .bool false, .int .i64 0, .int .i64 0, sV [], .int .i64 0, .bool false, .int .i64 0, .int .i64 0, sV [], .int .i64 0, .bool false, .int .i64 0, .int .i64 0, sV [], .int .i64 0, .bool false, .int .i64 0, .int .i64 0, sV []] 68)
      have BZ : Vec (wr.alloc (.cells #[.int .i64 0, .bool false, .int .i64 0, .int .i64 0, sV [], .int .i64 0, .bool false, .int .i64 0, .int .i64 0, sV [], .int .i64 0, .bool false, .int .i64 0, .int .i64 0, sV [], .int .i64 0, .bool false, .int .i64 0, .int .i64 0, sV []] 68)) wr.heap.size (quadOf []).cells := vec_made wr (quadOf []).cells 68
      have SZ : (wr.alloc (.cells #[.int .i64 0, .bool false, .int .i64 0, .int .i64 0, sV [], .int .i64 0, .bool false, .int .i64 0, .int .i64 0, sV [], .int .i64 0, .bool false, .int .i64 0, .int .i64 0, sV [], .int .i64 0, .bool false, .int .i64 0, .int .i64 0, sV []] 68)).heap.size = wr.heap.size + 1 := by rw [World.size_alloc]
      obtain ⟨u3, hu3⟩ : ∃ u, wr.alloc (.cells #[.int .i64 0, .bool false, .int .i64 0, .int .i64 0, sV [], .int .i64 0, .bool false, .int .i64 0, .int .i64 0, sV [], .int .i64 0, .bool false, .int .i64 0, .int .i64 0, sV [], .int .i64 0, .bool false, .int .i64 0, .int .i64 0, sV []] 68) = u := ⟨_, rfl⟩
      rw [hu3] at XZ BZ SZ
      obtain ⟨a0, a1, a2⟩ := Vec.three (HBG.out.1.later (xt HX.out XZ))
      have CC := CI.out u3 y (xt HBG.out.2.1 (xt HX.out XZ)) hlt
      have HZ : Hid (Vec u3 wr.heap.size (quadOf []).cells ∧ Ext wr u3 ∧ u3.heap.size = wr.heap.size + 1) := ⟨BZ, XZ, SZ⟩
      clear XZ BZ SZ
      go_wp2_with fail
      refine CC.mono ?_
      rintro e w3 ⟨sv, rfl, OV, e3⟩
      obtain ⟨κ, hκ⟩ : ∃ κ, kapG l C (colN cl) y = κ := ⟨_, rfl⟩
      obtain ⟨ky, hky⟩ : ∃ ky, keyG l C (colN cl) y = ky := ⟨_, rfl⟩
      have hkl : ky.length = n := by rw [← hky, keyG_length, colN_length]; exact HN.out
      rw [hky] at OV
      obtain ⟨pv, cv, rfl, hcv, hrv⟩ := ownW_vals OV
      rw [hkl] at hcv hrv ⊢
      have HV : Hid (0 < n → ∃ b o, pv = some ⟨b, o, none⟩ ∧ b ≠ wr.heap.size ∧ RowV w3 b o ky) := fun h0 => by
        obtain ⟨b, o, rfl, hrw⟩ := hrv h0
        refine ⟨b, o, rfl, ?_, hrw⟩
        rcases OV.2 with ⟨e9, _⟩ | ⟨g, cap, cur, e9, hb9, _⟩
        · cases e9
        · cases e9
          have := HZ.out.2.2
          omega
      have HZ3 : Hid (Vec w3 wr.heap.size (quadOf []).cells ∧ Ext wr w3 ∧ wr.heap.size < w3.heap.size) := ⟨HZ.out.1.later e3, xt HZ.out.2.1 e3, by have := e3.size; have := HZ.out.2.2; omega⟩
      clear CC hu3 OV hrv HZ a0 a1 a2
      have HKY : Hid (∀ e ∈ ky, e.good = true ∧ e.room) := fun e he => by
        rw [← hky] at he
        unfold keyG at he
        obtain ⟨j, _, rfl⟩ := List.mem_map.1 he
        by_cases hj : y * C + (j - 1) < l.length
        · exact HGD.out _ (cel_mem hj)
        · have : cel l (y * C + (j - 1)) = zeroVT := by unfold cel; rw [List.getD_eq_getElem?_getD, List.getElem?_eq_none (by omega)]; rfl
          rw [this]
          exact ⟨by decide, by decide, by decide, by decide⟩
      have HKK : Hid (ky.map nrm = kapG l C (colN cl) y ∧ ky.length = n) := ⟨by rw [← hky]; rfl, hkl⟩
      obtain ⟨wo, hwo⟩ : ∃ wo, wo = wr := ⟨_, rfl⟩
      subst hwo
      obtain ⟨B, hB⟩ : ∃ B, wo.heap.size = B := ⟨_, rfl⟩
      rw [hB] at HV HZ3
      have HB : Hid (wo.heap.size = B) := hB
      clear hκ hky hkl
      go_wp2_with fail
      clear hB
      go_loopw [38] (fun i wi => ∃ k : Nat, k ≤ n ∧ i = .int .i64 k ∧ Hid (Vec wi B (quadOf ((ky.map nrm).take k)).cells ∧ Ext wo wi ∧ B < wi.heap.size ∧ (0 < n → ∃ b o, pv = some ⟨b, o, none⟩ ∧ b ≠ B ∧ RowV wi b o ky))) (fun i _ => n - (intOf i).toNat)
      case atStart => exact ⟨0, by omega, rfl, HZ3.out.1, HZ3.out.2.1, HZ3.out.2.2, HV.out⟩
      case round =>
        obtain ⟨k, hk, rfl, HO⟩ := hrel
        by_cases hlk : k < n
        · have j2 : (k : Int) < (n : Int) := by omega
          obtain ⟨x, hx⟩ : ∃ x, ky[k]? = some x := ⟨_, List.getElem?_eq_getElem (by rw [HKK.out.2]; exact hlk)⟩
          obtain ⟨b, o, rfl, hbB, RW⟩ := HO.out.2.2.2 (by omega)
          obtain ⟨d0, d1, d2, d3, d4⟩ := RW.five hx
          have X4 := x1 wr (.cells #[.int .i64 x.k, .bool x.n, .int .i64 x.d, .int .i64 x.x, sV x.t] 50)
          have B4 := vec_made wr (valL x.k x.n x.d x.x x.t) 50
          change Vec (wr.alloc (.cells #[.int .i64 x.k, .bool x.n, .int .i64 x.d, .int .i64 x.x, sV x.t] 50)) _ _ at B4
          obtain ⟨u4, hu4⟩ : ∃ u, wr.alloc (.cells #[.int .i64 x.k, .bool x.n, .int .i64 x.d, .int .i64 x.x, sV x.t] 50) = u := ⟨_, rfl⟩
          rw [hu4] at X4 B4
          obtain ⟨a0, a1, a2, a3, a4⟩ := Vec.five B4
          have HXK : Hid (ky[k]? = some x) := hx
          have CL := likenessI x u4 (HKY.out x (List.mem_of_getElem? hx)).2.1
          have HRW : Hid (b ≠ B ∧ RowV wr b o ky) := ⟨hbB, RW⟩
          clear hx RW hbB
          go_wp2_with fail
          refine CL.mono ?_
          rintro e w4 ⟨rfl, e4⟩
          have Y4 := xt X4 e4
          have V4 := HO.out.1.later Y4
          clear CL a0 a1 a2 a3 a4 d0 d1 d2 d3 d4 hu4 B4
          have k4 : (k : Int) < 4 := by omega
          obtain ⟨⟨nk, nn, nd, nx, nt⟩, hnx⟩ : ∃ q, nrm x = q := ⟨_, rfl⟩
          have htk : (ky.map nrm).take (k + 1) = (ky.map nrm).take k ++ [⟨nk, nn, nd, nx, nt⟩] := by
            rw [List.take_add_one, List.getElem?_map, HXK.out, ← hnx]
            rfl
          have hlk5 : ((ky.map nrm).take k).length = k := by rw [List.length_take, List.length_map, HKK.out.2]; omega
          have hfill := quad_fill ((ky.map nrm).take k) ⟨nk, nn, nd, nx, nt⟩ (by rw [hlk5]; omega)
          rw [← htk, hlk5] at hfill
          have hL20 : (quadOf ((ky.map nrm).take k)).cells.length = 20 := rfl
          have HFL : Hid ((quadOf ((ky.map nrm).take (k + 1))).cells = ((((((quadOf ((ky.map nrm).take k)).cells.set (k * 5) (.int .i64 nk)).set (k * 5 + 1) (.bool nn)).set (k * 5 + 2) (.int .i64 nd)).set (k * 5 + 3) (.int .i64 nx)).set (k * 5 + 4) (sV nt))) := hfill
          obtain ⟨Lq, hLq⟩ : ∃ L, (quadOf ((ky.map nrm).take k)).cells = L := ⟨_, rfl⟩
          rw [hLq] at V4 hL20 HFL
          have gq : ∀ i, i < 20 → ∃ z, w4.cell? ⟨B, i, none⟩ = some z ∧ w4.frozen? ⟨B, i, none⟩ = false := fun i hi => ⟨_, V4 i _ (List.getElem?_eq_getElem (by rw [hL20]; exact hi))⟩
          obtain ⟨z0, q0, p0⟩ := gq (k * 5) (by omega)
          obtain ⟨z1, q1, p1⟩ := gq (k * 5 + 1) (by omega)
          obtain ⟨z2, q2, p2⟩ := gq (k * 5 + 2) (by omega)
          obtain ⟨z3, q3, p3⟩ := gq (k * 5 + 3) (by omega)
          obtain ⟨z4, q4, p4⟩ := gq (k * 5 + 4) (by omega)
          have W5 := ((((V4.put (k * 5) (by rw [hL20]; omega) (.int .i64 nk)).put (k * 5 + 1) (by rw [List.length_set, hL20]; omega) (.bool nn)).put (k * 5 + 2) (by rw [List.length_set, List.length_set, hL20]; omega) (.int .i64 nd)).put (k * 5 + 3) (by rw [List.length_set, List.length_set, List.length_set, hL20]; omega) (.int .i64 nx)).put (k * 5 + 4) (by rw [List.length_set, List.length_set, List.length_set, List.length_set, hL20]; omega) (sV nt)
          rw [← HFL.out] at W5
          have hBo : wo.heap.size ≤ B := Nat.le_of_eq HB.out
          have X5 := xset (p := ⟨B, k * 5 + 4, none⟩) (xset (p := ⟨B, k * 5 + 3, none⟩) (xset (p := ⟨B, k * 5 + 2, none⟩) (xset (p := ⟨B, k * 5 + 1, none⟩) (xset (p := ⟨B, k * 5, none⟩) (xt HO.out.2.1 Y4) hBo (.int .i64 nk)) hBo (.bool nn)) hBo (.int .i64 nd)) hBo (.int .i64 nx)) hBo (sV nt)
          have R5 : RowV (((((w4.setCell ⟨B, k * 5, none⟩ (.int .i64 nk)).setCell ⟨B, k * 5 + 1, none⟩ (.bool nn)).setCell ⟨B, k * 5 + 2, none⟩ (.int .i64 nd)).setCell ⟨B, k * 5 + 3, none⟩ (.int .i64 nx)).setCell ⟨B, k * 5 + 4, none⟩ (sV nt)) b o ky := fun i e hi c u hc => by
            have hne : ∀ s, (⟨b, o + i * 5 + c, none⟩ : Addr) ≠ ⟨B, s, none⟩ := fun s q => HRW.out.1 (congrArg Addr.block q)
            rw [World.cell?_setCell_other _ _ _ _ (fun q => hne _ q.symm), World.cell?_setCell_other _ _ _ _ (fun q => hne _ q.symm), World.cell?_setCell_other _ _ _ _ (fun q => hne _ q.symm), World.cell?_setCell_other _ _ _ _ (fun q => hne _ q.symm), World.cell?_setCell_other _ _ _ _ (fun q => hne _ q.symm)]
            exact (HRW.out.2.later Y4) i e hi c u hc
          have S5 : B < (((((w4.setCell ⟨B, k * 5, none⟩ (.int .i64 nk)).setCell ⟨B, k * 5 + 1, none⟩ (.bool nn)).setCell ⟨B, k * 5 + 2, none⟩ (.int .i64 nd)).setCell ⟨B, k * 5 + 3, none⟩ (.int .i64 nx)).setCell ⟨B, k * 5 + 4, none⟩ (sV nt)).heap.size := by
            have h1 := HO.out.2.2.1
            have h2 := Y4.size
            simp only [World.size_setCell]
            omega
          obtain ⟨w5, hw5⟩ : ∃ w5, (((((w4.setCell ⟨B, k * 5, none⟩ (.int .i64 nk)).setCell ⟨B, k * 5 + 1, none⟩ (.bool nn)).setCell ⟨B, k * 5 + 2, none⟩ (.int .i64 nd)).setCell ⟨B, k * 5 + 3, none⟩ (.int .i64 nx)).setCell ⟨B, k * 5 + 4, none⟩ (sV nt)) = w5 := ⟨_, rfl⟩
          rw [hw5] at W5 X5 R5 S5
          have HW5 : Hid (Vec w5 B (quadOf ((ky.map nrm).take (k + 1))).cells ∧ Ext wo w5 ∧ B < w5.heap.size ∧ (0 < n → ∃ b' o', some (⟨b, o, none⟩ : Addr) = some ⟨b', o', none⟩ ∧ b' ≠ B ∧ RowV w5 b' o' ky)) := ⟨W5, X5, S5, fun _ => ⟨b, o, rfl, HRW.out.1, R5⟩⟩
          rw [hnx]
          clear gq W5 X5 R5 S5 hfill htk hlk5 HFL hL20 hLq V4 hnx HO HXK Y4 e4 X4
          go_wp2_with fail
          go_roundw
          case rel => exact ⟨k + 1, by omega, by go_num, HW5⟩
          case measure => simp [intOf]; omega
        · obtain rfl : k = n := by omega
          have j2 : ¬ (k : Int) < (k : Int) := by omega
          have hall : (ky.map nrm).take k = kapG l C (colN cl) y := by
            rw [List.take_of_length_le (by rw [List.length_map, HKK.out.2]; exact Nat.le_refl _)]
            exact HKK.out.1
          obtain ⟨f, T, h1, h2', h3, h5⟩ := HI.out
          have hKK : InQ (quadOf (kapG l C (colN cl) y)) := quadOf_in (HKA.out y)
          have V6 := HO.out.1
          rw [hall] at V6
          have hns : (nsQ f (quadOf (kapG l C (colN cl) y))).length ≤ 2000 := by rw [h3.2]; have := rowsG_length (kapG l C (colN cl)) y y; omega
          have PG := putQ (quadOf (kapG l C (colN cl) y)) hKK f m y y m w2 wr (xt h5 HO.out.2.1) hme.symm (Nat.le_refl _) T (h1.later HO.out.2.1) (h2'.later HO.out.2.1) (by omega) hns
          have HST : Hid (∀ e : GE, e.ns = nsQ f (quadOf (kapG l C (colN cl) y)) ++ [y] → GrpF (kapG l C (colN cl)) (y + 1) (updQ f (quadOf (kapG l C (colN cl) y)) e) (addK T (quadOf (kapG l C (colN cl) y)))) := fun e he => h3.step HNK.out h4 he
          obtain ⟨K, hK⟩ : ∃ K, quadOf (kapG l C (colN cl) y) = K := ⟨_, rfl⟩
          rw [hK] at V6 PG HST
          obtain ⟨V, hV⟩ : ∃ V, Value.agg K.cells.toArray = V := ⟨_, rfl⟩
          have HVV : Hid (Value.agg K.cells.toArray = V) := hV
          rw [show K.val = V from hV] at PG
          have HV6 : Hid (wr.rangeAt B 0 K.cells) := fun j v hv => by rw [Nat.zero_add]; exact (V6 j v hv).1
          clear V6 hall hKK hns h1 h2' h3 h5 hK hV
          go_wp2_with (refine wpList_load_mid rfl 68 (.tmp 7) rfl B 0 rfl K.cells _ HV6.out Tryz.underlying68 rfl (by kernel_rfl) ?_; rw [HVV.out]; go_frame)
          refine PG.mono ?_
          rintro e w6 ⟨rfl, e6, hns, M6, R6, X6⟩
          have HN6 : Hid (∃ f T, MapQ w6 m (y + 1) f T ∧ RowsQ w6 m m f ∧ GrpF (kapG l C (colN cl)) (y + 1) f T ∧ Ext w2 w6) := ⟨_, _, M6, R6, HST.out e6 hns, X6⟩
          clear PG M6 R6 X6 HST
          go_wp2_with fail
          go_roundw
          case rel => exact ⟨y + 1, by omega, by go_num, HN6⟩
          case measure => simp [intOf]; omega
    · obtain rfl : y = R := by omega
      have i2 : ¬ (y : Int) < (y : Int) := by omega
      obtain ⟨κ, hκ⟩ : ∃ κ, kapG l C (colN cl) = κ := ⟨_, rfl⟩
      have HKP : Hid (kapG l C (colN cl) = κ) := hκ
      rw [hκ] at HI HNK HKA
      obtain ⟨f, T, D, w0, hrun0, hrg0, TS, hH, hFR, hFA, hRW0, hX0, hmr, hw0, hFG⟩ := range_start HI.out HNK.out h4 HKA.out
      obtain ⟨r, hr⟩ : ∃ r, wr.heap.size = r := ⟨_, rfl⟩
      rw [hr] at hrun0 hrg0 hFR hmr hw0 hFG
      have HFG : Hid (∀ K e, InQ K → f K = some e → e.g < r) := hFG
      have HFR : Hid (∀ i ∈ firstsG κ y, ∃ e, f (quadOf (κ i)) = some e ∧ e.ns = rowsG κ y i ∧ (∃ q, e.ns = i :: q) ∧ e.g < r) := hFR
      have HFA : Hid (∀ i ∈ firstsG κ y, ∀ j ∈ firstsG κ y, ∀ e q, f (quadOf (κ i)) = some e → f (quadOf (κ j)) = some q → i ≠ j → e.g ≠ q.g) := hFA
      have HRW0 : Hid (RowsQ w0 m m f) := hRW0
      have HX0 : Hid (Ext w2 w0) := hX0
      have HH : Hid (HoldsQ D f T) := hH
      have HTS : Hid (TodoQ (Maps.has D) ((firstsG κ y).map fun i => quadOf (κ i))) := TS
      clear hr TS hH hFR hFA hRW0 hX0 HI hκ HX hFG
      go_wp2_with fail
      clear hrun0
      have hwm : w.heap.size < m := by omega
      go_loopw [10] (fun s wi => ∃ (left : Lit → Bool) (cnt : Nat) (Is Js : List Nat) (L : List GG), wi.ranges Tryz.prog 68 glR m r y D left cnt ∧ Hid (TodoQ left (Js.map fun i => quadOf (κ i))) ∧ Hid ((Is ++ Js).Perm (firstsG κ y)) ∧ Hid (LieG wi (r + 1) m s L ∧ L.map GG.told = Is.map (fun i => (keyG l C (colN cl) i, rowsG κ y i)) ∧ (∀ x ∈ L, ∃ i ∈ Is, f (quadOf (κ i)) = some x.e) ∧ RowsQ wi m m f ∧ Ext w2 wi ∧ r < wi.heap.size))
        (fun _ wi => wi.rangeLeft m r)
      case atStart => exact ⟨_, _, [], firstsG κ y, [], hrg0, HTS, by show List.Perm _ _; rw [List.nil_append], LieG.nil _ _ _, rfl, (fun x hx => by cases hx), HRW0.out, HX0.out, hw0⟩
      case round =>
        clear hrg0 HTS HRW0 HX0 hw0
        obtain ⟨left, cnt, Is, Js, L, hrg, HTD, HP, HL⟩ := hrel
        obtain ⟨sp, sc, rfl, hsc⟩ := ownG_slice HL.out.1.list
        have HLL : Hid (L.length ≤ 2000 ∧ Is.length = L.length) := by
          have h1 := congrArg List.length HL.out.2.1
          rw [List.length_map, List.length_map] at h1
          have h3 := HP.out.length_eq
          rw [List.length_append] at h3
          have h5 := firstsG_length κ y
          exact ⟨by omega, h1.symm⟩
        obtain ⟨ln, hln⟩ : ∃ ln, L.length = ln := ⟨_, rfl⟩
        have HLN : Hid (L.length = ln) := hln
        rw [hln] at hsc ⊢
        have HLG : Hid (LieG wr (r + 1) m (.slice sp ln sc) L) := by have := HL.out.1; rw [hln] at this; exact this
        clear hln
        go_wp2_with (first
          | (at_next; refine wpList_next_ranges _ rfl _ rfl 68 quadK glR id id (fun key _ _ => ⟨key, rfl⟩) (fun v _ _ => ⟨v, rfl⟩) m r y _ _ _ rfl hrg ?_ ?_)
          | go_in)
        · intro hc0 hl0
          have HJ : Js = [] := by
            have := HTD.out.none hl0
            exact List.map_eq_nil_iff.1 this
          have XR : Ext w wr := xt HBG.out.2.1 HL.out.2.2.2.2.1
          have CSO := sortGI (.slice sp ln sc) L (r + 1) w wr HLG.out.list (by have := HLL.out.1; omega) XR (by omega) hT hE (fun g hg x hx => by
            obtain ⟨i, _, hi⟩ := told_mem HL.out.2.1 hx
            have hK : x.K = keyG l C (colN cl) i := (Prod.mk.inj hi).1
            exact ownW_grok (HLG.out.keys x hx) (fun q => ((HLG.out.own x hx).2 g hg).1 q) (by rw [hK]; exact keyG_fine HGD.out _ _ _) (by rw [hK, keyG_length, colN_length, HN.out]; omega))
          have HIS : Hid (Is.Perm (firstsG κ y)) := by
            have := HP.out
            rw [HJ, List.append_nil] at this
            exact this
          have HTL : Hid (L.map GG.told = Is.map (fun i => (keyG l C (colN cl) i, rowsG κ y i))) := HL.out.2.1
          clear hrg HTD HP hc0 hl0 HJ HL
          go_wp2_with fail
          refine CSO.mono ?_
          rintro e ws ⟨rfl, M, hp, hs, OS, gS⟩
          have XS : Ext w ws := ext_grownJ XR gS (fun k hk => by have := ownG_block HLG.out.list k hk; omega)
          have LS := (HLG.out.perm hp OS gS).base (show w.heap.size ≤ r + 1 by omega) (show w.heap.size ≤ m by omega)
          have HFIN : Hid (∃ Ix, LieG ws w.heap.size w.heap.size (.slice sp ln sc) M ∧ OrdG l C (colN cl) y Ix ∧ M.map GG.told = Ix.map (fun i => (keyG l C (colN cl) i, rowsG (kapG l C (colN cl)) y i)) ∧ Ext w ws) := by
            obtain ⟨Ix, hx1, hx2⟩ := perm_map_inv (G := fun i => (keyG l C (colN cl) i, rowsG κ y i)) (hp.map GG.told) Is HTL.out
            have e1 := HKP.out
            subst e1
            exact ⟨Ix, LS, ord_of (F := fun i => (keyG l C (colN cl) i, rowsG (kapG l C (colN cl)) y i)) (fun e he => (HGD.out e he).1) (fun _ => rfl) HIS.out hx1 hx2 hs, hx2.symm, XS⟩
          clear OS gS hp hs LS XS CSO XR
          go_wp2_with fail
          go_ret
          obtain ⟨Ix, f1, f2, f3, f4⟩ := HFIN.out
          exact ⟨_, M, Ix, rfl, f1, f2, f3, f4⟩
        · intro x c kl yd yp w1 cnt1 hkey hlx hv hat hrg1 hlt1 hg1 hs1 hen
          obtain ⟨K, hKm, rfl⟩ := HTD.out.some hlx
          obtain ⟨i, hiJ, rfl⟩ := List.mem_map.1 hKm
          have hi : i ∈ firstsG κ y := HP.out.mem_iff.1 (List.mem_append_right _ hiJ)
          obtain ⟨e, he, hens, ⟨q, hq⟩, her⟩ := HFR.out i hi
          have hIn : InQ (quadOf (κ i)) := quadOf_in (HKA.out i)
          have hc : c = e.sl := HH.out.entry hIn he hv hat
          subst hc
          have hiy : i < y := (firstsG_mem.1 hi).1
          have nd : (Is ++ Js).Nodup := HP.out.nodup_iff.2 (firstsG_nodup _ _)
          have RW1 := HL.out.2.2.2.1.off hg1 (fun K e hK he z => by have := HFG.out K e hK he; have := Option.some.inj z; omega)
          have LG1 := HLG.out.stay hg1 (fun k hk z => by have := ownG_block HLG.out.list k hk; have := Option.some.inj z; omega) (fun x hx => ⟨fun k hk z => by have := ownW_block (HLG.out.keys x hx) k hk; have := Option.some.inj z; omega, fun z => by
            obtain ⟨j, hj, hje⟩ := HL.out.2.2.1 x hx
            have := HFG.out _ _ (quadOf_in (HKA.out j)) hje
            have := Option.some.inj z
            omega⟩)
          have X1 : Ext w2 w1 := ext_grownJ HL.out.2.2.2.2.1 hg1 (fun k hk => by have := Option.some.inj hk; omega)
          have r1 : r < w1.heap.size := by rw [hs1]; exact HL.out.2.2.2.2.2
          obtain ⟨c0, hl0⟩ := first_cell (RW1.1 _ hIn e he).1 hq
          have HADD : Hid (∀ (W : World) (sv : Value), Ext w1 W → OwnW W w1.heap.size sv (keyG l C (colN cl) i) → ∃ v' w', (Builtin.append_ #[37, 37] 37 #[.slice sp ln sc, .slice (some ⟨W.heap.size, 0, none⟩) 1 1]).run Tryz.prog (W.alloc (.cells #[sv, e.sl] 73)) = .ok v' w' ∧ LieG w' (r + 1) m v' (L ++ [⟨sv, keyG l C (colN cl) i, e⟩]) ∧ (W.alloc (.cells #[sv, e.sl] 73)).grownBy w' (Value.slice sp ln sc).ownBlock) := fun W sv E O =>
            LG1.next E e _ sv O (RW1.1 _ hIn e he).1 her r1 (fun z hz => by
              obtain ⟨j, hj, hje⟩ := HL.out.2.2.1 z hz
              have hjf : j ∈ firstsG κ y := HP.out.mem_iff.1 (List.mem_append_left _ hj)
              refine ⟨HFA.out j hjf i hi z.e e hje he (fun w => ?_), HFG.out _ _ (quadOf_in (HKA.out j)) hje⟩
              subst w
              exact (List.nodup_append.1 nd).2.2 j hj j hiJ rfl) (by have := HLL.out.1; omega)
          obtain ⟨TD, PJ⟩ := HTD.out.pick hiJ hIn
          have HTD2 : Hid (TodoQ (fun z => left z && !z.sameKey (kqOf (quadOf (κ i)))) ((Js.filter fun j => !isKq (quadOf (κ j)) (kqOf (quadOf (κ i)))).map fun i => quadOf (κ i))) := TD
          have HP2 : Hid (((Is ++ [i]) ++ Js.filter fun j => !isKq (quadOf (κ j)) (kqOf (quadOf (κ i)))).Perm (firstsG κ y)) := by
            show List.Perm _ _
            rw [List.append_assoc]
            exact ((PJ.symm).append_left Is).trans HP.out
          obtain ⟨left2, hlf⟩ : ∃ left2 : Lit → Bool, (fun z => left z && !z.sameKey (kqOf (quadOf (κ i)))) = left2 := ⟨_, rfl⟩
          obtain ⟨J2, hJ2⟩ : ∃ J2, (Js.filter fun j => !isKq (quadOf (κ j)) (kqOf (quadOf (κ i)))) = J2 := ⟨_, rfl⟩
          rw [hJ2] at HTD2 HP2
          rw [hlf] at HTD2 hrg1
          have HLE : Hid (∀ sv : Value, (L ++ [(⟨sv, keyG l C (colN cl) i, e⟩ : GG)]).map GG.told = (Is ++ [i]).map (fun i => (keyG l C (colN cl) i, rowsG κ y i)) ∧ ∀ x ∈ L ++ [(⟨sv, keyG l C (colN cl) i, e⟩ : GG)], ∃ j ∈ Is ++ [i], f (quadOf (κ j)) = some x.e) := fun sv => by
            refine ⟨?_, fun x hx => ?_⟩
            · rw [List.map_append, List.map_append, HL.out.2.1]
              show _ ++ [(keyG l C (colN cl) i, e.ns)] = _ ++ [(keyG l C (colN cl) i, rowsG κ y i)]
              rw [hens]
            · rcases List.mem_append.1 hx with z | z
              · obtain ⟨j, hj, hje⟩ := HL.out.2.2.1 x z
                exact ⟨j, List.mem_append_left _ hj, hje⟩
              · cases List.mem_singleton.1 z
                exact ⟨i, List.mem_append_right _ (List.mem_singleton.2 rfl), he⟩
          have HRW1 : Hid (RowsQ w1 m m f) := RW1
          have hleft : Hid (wr.rangeLeft m r = cnt) := hrg.left_eq
          have HLB : Hid (∀ k, (Value.slice sp ln sc).ownBlock = some k → r + 1 ≤ k) := ownG_block HLG.out.list
          obtain ⟨a0, a1, a2⟩ := Vec.three (HBG.out.1.later X1)
          obtain ⟨en, hen2⟩ : ∃ en, e.ns.length = en := ⟨_, rfl⟩
          obtain ⟨eg, heg⟩ : ∃ eg, e.g = eg := ⟨_, rfl⟩
          have CC := fun W (E : Ext w1 W) => CI.out W i (xt HBG.out.2.1 (xt X1 E)) hiy
          have HCC : Hid (∀ W, Ext w1 W → Calls Tryz.prog 30 #[grV y C v, .int .i64 i, .slice pu n cu] W fun e w' => ∃ sv, e = .returned sv ∧ OwnW w' W.heap.size sv (keyG l C (colN cl) i) ∧ Ext W w') := CC
          have HX1 : Hid (Ext w2 w1) := X1
          rw [heg] at c0
          have HSL : e.sl = .slice (some ⟨eg, 0, none⟩) en e.cp := by rw [← heg, ← hen2]
          rw [hen2] at hl0
          have l0 : (0 : Int) < (en : Int) := by omega
          rw [HSL] at hen HADD ⊢
          clear hKm hiJ hi hens hq her hIn hiy nd RW1 LG1 X1 TD PJ hlf hJ2 hrg HTD HP HL HLG CC hlx hkey hv hat hg1 he HSL
          go_wp2_with fail
          go_region_law (first
            | (obtain ⟨v9, w9, hrun9, L9, G9⟩ := HADD.out w4 _ E4 OV; refine step_append_runG rfl (.tmp 59) (.tmp 68) 37 37 rfl _ _ rfl rfl _ _ hrun9 ?_)
            | (obtain ⟨v9, w9, hrun9, L9, G9⟩ := HADD.out w4.drew _ (xd E4) (ownW_later OV (xd (xr _))); refine step_append_runG rfl (.tmp 59) (.tmp 68) 37 37 rfl _ _ rfl rfl _ _ hrun9 ?_)
            | (go_simp; go_wp2_with (go_at_call 30; refine (HCC.out _ (by first | exact xr _ | exact xd (xr _))).mono ?_; rintro z w4 ⟨sv, rfl, OV, e4⟩; obtain ⟨psv, nsv, csv, hsv⟩ := ownW_slice OV; subst hsv; have E4 : Ext w1 w4 := (by first | exact e4 | exact xt (xd (xr _)) e4); have a0 := cell_later E4 a0; have a1 := cell_later E4 a1; have a2 := cell_later E4 a2; have c0 := cell_later E4 c0)))
          all_goals change Exit.inBlock 5 _ Exit.normal (Act.put _ (some 10) _) _
          all_goals go_frame
          all_goals
            first
              | (have Z := range_done hrg1 E4 G9 HLB.out hmr hme HRW1.out HFG.out HX1.out r1)
              | (have Z := range_done hrg1 (xd E4) G9 HLB.out hmr hme HRW1.out HFG.out HX1.out r1)
            obtain ⟨hrg9, R9, X9, s9⟩ := Z
            obtain ⟨sp9, sc9, hv9, -⟩ := ownG_slice L9.list
            have hL9 := L9
            rw [hv9] at hL9 ⊢
            have hm9 := hrg9.left_eq
            have HFIN : Hid (LieG w9 (r + 1) m (.slice sp9 (L ++ [(⟨.slice psv nsv csv, keyG l C (colN cl) i, e⟩ : GG)]).length sc9) (L ++ [⟨.slice psv nsv csv, keyG l C (colN cl) i, e⟩]) ∧ (L ++ [(⟨.slice psv nsv csv, keyG l C (colN cl) i, e⟩ : GG)]).map GG.told = (Is ++ [i]).map (fun i => (keyG l C (colN cl) i, rowsG κ y i)) ∧ (∀ x ∈ L ++ [(⟨.slice psv nsv csv, keyG l C (colN cl) i, e⟩ : GG)], ∃ j ∈ Is ++ [i], f (quadOf (κ j)) = some x.e) ∧ RowsQ w9 m m f ∧ Ext w2 w9 ∧ r < w9.heap.size) := ⟨hL9, (HLE.out _).1, (HLE.out _).2, R9, X9, s9⟩
            clear L9 G9 R9 X9 s9 hL9 hrun9 hv9 OV E4 e4 HADD HCC HLE HRW1 HX1 hrg1 hen a0 a1 a2 c0
            go_wp2_with fail
            go_roundw
            case rel => exact ⟨_, cnt1, Is ++ [i], J2, _, hrg9, HTD2, HP2, HFIN⟩
            case measure => rw [hm9, hleft.out]; exact hlt1

def zeroGG : GG := ⟨.slice none 0 0, [], ⟨0, 0, []⟩⟩
def atG (M : List GG) (j : Nat) : GG := M.getD j zeroGG
theorem atG_get {M : List GG} {j : Nat} (h : j < M.length) : M[j]? = some (atG M j) := by
  rw [List.getElem?_eq_getElem h]; simp [atG, h]
def swapG (M : List GG) (i j : Nat) : List GG := (M.set i (atG M j)).set j (atG M i)
theorem swapG_at {M : List GG} {i j : Nat} (hi : i < M.length) (hj : j < M.length) (k : Nat) :
    atG (swapG M i j) k = if k = j then atG M i else if k = i then atG M j else atG M k := by
  unfold swapG atG
  simp only [List.getD_eq_getElem?_getD, List.getElem?_set, List.length_set]
  by_cases h1 : k = j
  · subst h1; simp [hj]
  · rw [if_neg (fun e => h1 e.symm), if_neg h1]
    by_cases h2 : k = i
    · subst h2; simp [hi]
    · rw [if_neg (fun e => h2 e.symm), if_neg h2]
theorem swapG_perm {M : List GG} {i j : Nat} (hi : i < M.length) (hj : j < M.length) : (swapG M i j).Perm M := by
  have e := Array.swap_perm (xs := M.toArray) (i := i) (j := j) (by simpa using hi) (by simpa using hj)
  rw [Array.perm_iff_toList_perm, List.swap_toArray] at e
  have e2 : swapG M i j = (M.set i M[j]).set j M[i] := by
    unfold swapG atG
    simp [hi, hj]
  rw [e2]
  simpa using e
def cmG (M : List GG) (a b : Nat) : Int := lexG (atG M a).K (atG M b).K
/-- The first i stand in order. -/
def UpToG (M : List GG) (i : Nat) : Prop := ∀ a b, a < b → b < i → cmG M a b ≤ 0
/-- One is being put in its place. -/
def InsG (M : List GG) (i k : Nat) : Prop := k ≤ i ∧ (∀ a b, a < b → b ≤ i → a ≠ k → b ≠ k → cmG M a b ≤ 0) ∧ (∀ b, k < b → b ≤ i → cmG M k b < 0)
theorem InsG.start {M : List GG} {i : Nat} (h : UpToG M i) : InsG M i i := ⟨Nat.le_refl _, fun a b hab hb _ hbi => h a b hab (by omega), fun b h1 h2 => by omega⟩
theorem InsG.step {M : List GG} {i k : Nat} (h : InsG M i (k + 1)) (hi : i < M.length) (hl : cmG M (k + 1) k < 0) : InsG (swapG M (k + 1) k) i k := by
  obtain ⟨h0, h1, h2⟩ := h
  have A := fun t => swapG_at (M := M) (i := k + 1) (j := k) (by omega) (by omega) t
  unfold cmG at *
  refine ⟨by omega, fun a b hab hbi hak hbk => ?_, fun b hkb hbi => ?_⟩
  · unfold cmG
    rw [A a, A b, if_neg hak, if_neg hbk]
    by_cases ha : a = k + 1
    · rw [if_pos ha, if_neg (show ¬ b = k + 1 by omega)]
      exact h1 k b (by omega) hbi (by omega) (by omega)
    · rw [if_neg ha]
      by_cases hb : b = k + 1
      · rw [if_pos hb]
        exact h1 a k (by omega) (by omega) ha (by omega)
      · rw [if_neg hb]
        exact h1 a b hab hbi ha hb
  · unfold cmG
    rw [A k, A b, if_pos rfl, if_neg (show ¬ b = k by omega)]
    by_cases hb : b = k + 1
    · rw [if_pos hb]; exact hl
    · rw [if_neg hb]; exact h2 b (by omega) hbi
theorem InsG.done {M : List GG} {i k : Nat} (h : InsG M i k) (hg : ∀ j, ∀ e ∈ (atG M j).K, e.good = true) (hd : k = 0 ∨ ¬ cmG M k (k - 1) < 0) : UpToG M (i + 1) := by
  obtain ⟨h0, h1, h2⟩ := h
  intro a b hab hb
  by_cases ha : a = k
  · subst ha
    have := h2 b hab (by omega)
    omega
  · by_cases hbk : b = k
    · subst hbk
      rcases hd with rfl | hd
      · omega
      · have sw := lexG_swap (atG M b).K (atG M (b - 1)).K (hg _) (hg _)
        unfold cmG at *
        by_cases hab' : a = b - 1
        · subst hab'; omega
        · have := h1 a (b - 1) (by omega) (by omega) ha (by omega)
          exact lexG_trans _ _ _ (hg _) (hg _) (hg _) this (by omega)
    · exact h1 a b hab (by omega) ha hbk
theorem UpToG.all {M : List GG} (h : UpToG M M.length) (hg : ∀ x ∈ M, ∀ e ∈ x.K, e.good = true) : M.Pairwise fun x y => 0 ≤ lexG y.K x.K := by
  rw [List.pairwise_iff_getElem]
  intro i j hi hj hij
  have := h i j hij hj
  unfold cmG atG at this
  simp only [List.getD_eq_getElem?_getD, List.getElem?_eq_getElem hi, List.getElem?_eq_getElem hj, Option.getD_some] at this
  have sw := lexG_swap M[i].K M[j].K (hg _ (List.getElem_mem hi)) (hg _ (List.getElem_mem hj))
  omega
theorem atG_good {M : List GG} (hg : ∀ x ∈ M, ∀ e ∈ x.K, e.good = true) (j : Nat) : ∀ e ∈ (atG M j).K, e.good = true := by
  unfold atG
  rw [List.getD_eq_getElem?_getD]
  cases h : M[j]? with
  | none => intro e he; cases he
  | some x => exact hg x (List.mem_of_getElem? h)
/-- Which of the first k groups has a key: the last one of them, -1 where none has. -/
def seekG (κ : Nat → List VT) (I : List Nat) (q : List VT) : Nat → Int
  | 0 => -1
  | k + 1 => if κ (I.getD k 0) = q then (k : Int) else seekG κ I q k
theorem seekG_none {κ : Nat → List VT} {I : List Nat} {q : List VT} {k : Nat} (h : ∀ j, j < k → κ (I.getD j 0) ≠ q) : seekG κ I q k = -1 := by
  induction k with
  | zero => rfl
  | succ k ih =>
    unfold seekG
    rw [if_neg (h k (by omega)), ih (fun j hj => h j (by omega))]
theorem seekG_some {κ : Nat → List VT} {I : List Nat} {q : List VT} {k j : Nat} (hj : j < k) (h : κ (I.getD j 0) = q) (one : ∀ i, i < k → κ (I.getD i 0) = q → i = j) : seekG κ I q k = j := by
  induction k with
  | zero => omega
  | succ k ih =>
    unfold seekG
    by_cases e : κ (I.getD k 0) = q
    · rw [if_pos e, one k (by omega) e]
    · rw [if_neg e]
      have : j ≠ k := fun z => e (by rw [← z]; exact h)
      exact ih (by omega) (fun i hi => one i (by omega))

theorem flatG_set : ∀ (L : List GG) (k : Nat) (x : GG), k < L.length → (L.set k x).flatMap GG.cells = ((L.flatMap GG.cells).set (k * 2) x.kv).set (k * 2 + 1) x.e.sl
  | [], k, x, h => absurd h (by simp)
  | q :: L, 0, x, _ => by simp [List.flatMap_cons]
  | q :: L, k + 1, x, h => by
    have ih := flatG_set L k x (by simpa using h)
    rw [List.set_cons_succ, List.flatMap_cons, List.flatMap_cons, ih, show (k + 1) * 2 = k * 2 + 1 + 1 by omega]
    rfl
theorem flatG_nth : ∀ (l : List GG) (i : Nat) (g : GG), l[i]? = some g → (l.flatMap GG.cells)[i * 2]? = some g.kv ∧ (l.flatMap GG.cells)[i * 2 + 1]? = some g.e.sl
  | [], i, g, h => by simp at h
  | x :: l, 0, g, h => by
    have : x = g := by simpa using h
    subst this
    simp
  | x :: l, i + 1, g, h => by
    have := flatG_nth l i g (by simpa using h)
    rw [List.flatMap_cons, show (i + 1) * 2 = i * 2 + 1 + 1 by omega]
    simpa using this
theorem ownG_froz {w : World} {base g j : Nat} {v : Value} {L : List GG} (h : OwnG w base v L) (hg : v.ownBlock = some g) : w.frozen? ⟨g, j, none⟩ = false := by
  rcases h.2 with ⟨rfl, _⟩ | ⟨g', cap, cur, rfl, h2, h3, _⟩
  · cases hg
  · have e : g' = g := by simpa [Value.ownBlock] using hg
    subst e
    unfold World.frozen?
    simp only [h3]
    simp
theorem ownG_form {w : World} {base g : Nat} {v : Value} {L : List GG} (h : OwnG w base v L) (hg : v.ownBlock = some g) : ∃ c, v = .slice (some ⟨g, 0, none⟩) L.length c ∧ L.length ≤ c := by
  rcases h.2 with ⟨rfl, _⟩ | ⟨g', cap, cur, rfl, h2, h3, h4, _⟩
  · cases hg
  · have e : g' = g := by simpa [Value.ownBlock] using hg
    subst e
    exact ⟨cap, rfl, h4⟩
/-- One group told anew. -/
theorem ownG_put {w : World} {base g k : Nat} {v : Value} {L : List GG} (h : OwnG w base v L) (hg : v.ownBlock = some g) (hk : k < L.length) (x : GG) : OwnG ((w.setCell ⟨g, k * 2, none⟩ x.kv).setCell ⟨g, k * 2 + 1, none⟩ x.e.sl) base v (L.set k x) := by
  obtain ⟨c, rfl, hc⟩ := ownG_form h hg
  have h1 := (World.ownsRow.stored h (k * 2) x.kv).1
  have h2 := (World.ownsRow.stored h1 (k * 2 + 1) x.e.sl).1
  show World.ownsRow _ _ _ _ _ _ _
  rw [flatG_set L k x hk, List.length_set]
  exact h2
theorem ownG_put1 {w : World} {base g k : Nat} {v : Value} {L : List GG} {x : GG} (h : OwnG w base v L) (hg : v.ownBlock = some g) (hk : L[k]? = some x) (e : GE) : OwnG (w.setCell ⟨g, k * 2 + 1, none⟩ e.sl) base v (L.set k ⟨x.kv, x.K, e⟩) := by
  obtain ⟨c, rfl, hc⟩ := ownG_form h hg
  have hl := (List.getElem?_eq_some_iff.1 hk).1
  have h2 := (World.ownsRow.stored h (k * 2 + 1) e.sl).1
  show World.ownsRow _ _ _ _ _ _ _
  rw [flatG_set L k _ hl, List.length_set]
  have e1 : (L.flatMap GG.cells).set (k * 2) x.kv = L.flatMap GG.cells := by
    have := (flatG_nth L k x hk).1
    obtain ⟨a, b⟩ := List.getElem?_eq_some_iff.1 this
    rw [← b]
    exact List.set_getElem_self a
  rw [show (⟨x.kv, x.K, e⟩ : GG).kv = x.kv from rfl, show (⟨x.kv, x.K, e⟩ : GG).e = e from rfl, e1]
  exact h2
theorem grownBy_two {a b c : World} {r : Option Nat} (h : a.grownBy b r) (k : b.grownBy c r) : a.grownBy c r :=
  ⟨k.os.trans h.os, k.tape.trans h.tape, k.output.trans h.output, Nat.le_trans h.size k.size, fun i hi hne => by rw [k.block i (Nat.lt_of_lt_of_le hi h.size) hne, h.block i hi hne]⟩
theorem grown_cell (w : World) (g j : Nat) (u : Value) : w.grownBy (w.setCell ⟨g, j, none⟩ u) (some g) := grown_set (grown_refl w _) u
/-- Two groups change places. -/
theorem LieG.swap {w : World} {bl br g : Nat} {v : Value} {M : List GG} (h : LieG w bl br v M) (hg : v.ownBlock = some g) {i j : Nat} (hi : i < M.length) (hj : j < M.length) :
    LieG ((((w.setCell ⟨g, i * 2, none⟩ (atG M j).kv).setCell ⟨g, i * 2 + 1, none⟩ (atG M j).e.sl).setCell ⟨g, j * 2, none⟩ (atG M i).kv).setCell ⟨g, j * 2 + 1, none⟩ (atG M i).e.sl) bl br v (swapG M i j) := by
  refine h.perm (swapG_perm hi hj) ?_ ?_
  · have h1 := ownG_put h.list hg hi (atG M j)
    have h2 := ownG_put h1 hg (k := j) (by rw [List.length_set]; exact hj) (atG M i)
    exact h2
  · rw [hg]
    exact grownBy_two (grownBy_two (grownBy_two (grown_cell _ _ _ _) (grown_cell _ _ _ _)) (grown_cell _ _ _ _)) (grown_cell _ _ _ _)
/-- A group's rows grow by one. -/
theorem LieG.grow {w : World} {bl br g k : Nat} {v : Value} {L : List GG} {x : GG} (h : LieG w bl br v L) (hg : v.ownBlock = some g) (hx : L[k]? = some x) (y b : Nat) (V : Vec w b [.int .i64 y]) (hl : x.e.ns.length ≤ 1000000) (hb : br ≤ w.heap.size) :
    ∃ (e : GE) (w' : World), (Builtin.append_ #[28, 28] 28 #[x.e.sl, .slice (some ⟨b, 0, none⟩) 1 1]).run Tryz.prog w = .ok e.sl w' ∧ e.ns = x.e.ns ++ [y] ∧ LieG (w'.setCell ⟨g, k * 2 + 1, none⟩ e.sl) bl br v (L.set k ⟨x.kv, x.K, e⟩) ∧ w.grownBy w' (some x.e.g) ∧
      w'.cell? ⟨g, k * 2 + 1, none⟩ = some x.e.sl ∧ w'.frozen? ⟨g, k * 2 + 1, none⟩ = false := by
  obtain ⟨inf, hi, hz, hsz, hby⟩ := infoI
  have mx := List.mem_of_getElem? hx
  have hkl := (List.getElem?_eq_some_iff.1 hx).1
  obtain ⟨v', w', hrun, O', GW, hbk⟩ := app_srcG (P := Tryz.prog) w br 28 28 28 3 inf (.int .i64 0) Tryz.underlying28 hi hz 1 hsz (by rw [hby]; omega) rfl x.e.sl x.e.ns.length _ (h.rows x mx) (.slice (some ⟨b, 0, none⟩) 1 1) 1 [.int .i64 y]
    (Src.ofSlice (size := 1) w Tryz.underlying28 ⟨b, 0, none⟩ 1 1 [.int .i64 y] rfl (fun j u hj => by rw [Addr.add_lit, Nat.zero_add]; exact (V j u hj).1) (fun u hu => by obtain rfl := List.mem_singleton.1 hu; rfl)) (by omega) hb
  rw [sl_block] at GW hbk
  have O2 : w'.ownsRow br 3 1 v' (x.e.ns ++ [y]).length ((x.e.ns ++ [y]).map numV) := by
    rw [List.map_append, List.length_append]
    exact O'
  obtain ⟨e, rfl, hens⟩ : ∃ e : GE, v' = e.sl ∧ e.ns = x.e.ns ++ [y] := by
    rcases O2.2 with ⟨_, h0⟩ | ⟨g', cap, cur, rfl, _⟩
    · simp at h0
    · exact ⟨⟨g', cap, x.e.ns ++ [y]⟩, rfl, rfl⟩
  rw [sl_block] at hbk
  have heg : e.g = x.e.g ∨ e.g = w.heap.size := by
    rcases hbk with q | q
    · exact .inl (Option.some.inj q)
    · exact .inr (Option.some.inj q)
  obtain ⟨ho1, ho2⟩ := h.own x mx
  obtain ⟨hog1, hog2⟩ := ho2 g hg
  have OL : OwnG w' bl v L := ownsRow_stay h.list GW (fun q hq z => by rw [hg] at hq; exact hog2 ((Option.some.inj z).trans (Option.some.inj hq).symm))
  -- the other groups
  have pw : ∀ (i : Nat) (z : GG), L[i]? = some z → i ≠ k → offG x z := fun i z hz hne => by
    have P := List.pairwise_iff_getElem.1 h.off
    obtain ⟨a1, rfl⟩ := List.getElem?_eq_some_iff.1 hz
    obtain ⟨a2, e2⟩ := List.getElem?_eq_some_iff.1 hx
    rw [← e2]
    rcases Nat.lt_or_ge i k with q | q
    · exact offG_symm (P i k a1 a2 q)
    · exact P k i a2 a1 (by omega)
  have memS : ∀ z ∈ L.set k ⟨x.kv, x.K, e⟩, z = ⟨x.kv, x.K, e⟩ ∨ ∃ i, L[i]? = some z ∧ i ≠ k := fun z hz => by
    obtain ⟨i, hi⟩ := List.mem_iff_getElem?.1 hz
    by_cases q : i = k
    · subst q
      rw [List.getElem?_set_self hkl] at hi
      exact .inl (Option.some.inj hi).symm
    · rw [List.getElem?_set_ne (fun z => q z.symm)] at hi
      exact .inr ⟨i, hi, q⟩
  have G2 := grown_cell w' g (k * 2 + 1) e.sl
  have kx := h.keys x mx
  have rx := ownsRow_ltG (h.rows x mx) _ (sl_block x.e)
  have ltg := ownsRow_ltG h.list g hg
  have offE : ∀ (i : Nat) (z : GG), L[i]? = some z → i ≠ k → offG ⟨x.kv, x.K, e⟩ z := fun i z hz hne => by
    obtain ⟨p1, p2, p3⟩ := pw i z hz hne
    have mz := List.mem_of_getElem? hz
    have lz := ownsRow_ltG (h.rows z mz) _ (sl_block z.e)
    refine ⟨p1, fun c hc q => ?_, fun q => ?_⟩
    · have lc := ownsRow_ltG (h.keys z mz) c hc
      rcases heg with r | r
      · exact p2 c hc (by rw [← r]; exact q)
      · have : e.g = c := q
        omega
    · rcases heg with r | r
      · exact p3 (by rw [← r]; exact q)
      · have : e.g = z.e.g := q
        omega
  refine ⟨e, w', hrun, hens, ⟨?_, fun z hz => ?_, fun z hz => ?_, fun z hz => ?_, ?_⟩, GW, (ownG_at OL (ownG_form OL hg).choose_spec.1 hx).2, ownG_froz OL hg⟩
  · exact ownG_put1 OL hg hx e
  · rcases memS z hz with rfl | ⟨i, hi, hne⟩
    · exact ownsRow_stay (ownsRow_stay kx GW (fun q hq z => ho1 (by rw [Option.some.inj z]; exact hq))) G2 (fun q hq z => hog1 (by rw [Option.some.inj z]; exact hq))
    · have mz := List.mem_of_getElem? hi
      exact ownsRow_stay (ownsRow_stay (h.keys z mz) GW (fun q hq r => (pw i z hi hne).2.1 q hq (Option.some.inj r))) G2 (fun q hq r => ((h.own z mz).2 g hg).1 (by rw [Option.some.inj r]; exact hq))
  · rcases memS z hz with rfl | ⟨i, hi, hne⟩
    · have O3 : OwnI w' br e.sl e.ns := by rw [hens]; have := O2; rw [← hens] at this ⊢; exact this
      refine ownsRow_stay O3 G2 (fun q hq r => ?_)
      rw [sl_block] at hq
      cases hq
      have : g = e.g := Option.some.inj r
      rcases heg with s | s
      · exact hog2 (by rw [← s, this])
      · omega
    · have mz := List.mem_of_getElem? hi
      refine ownsRow_stay (ownsRow_stay (h.rows z mz) GW (fun q hq r => ?_)) G2 (fun q hq r => ?_)
      · rw [sl_block] at hq
        cases hq
        have : x.e.g = z.e.g := Option.some.inj r
        exact (pw i z hi hne).2.2 this
      · rw [sl_block] at hq
        cases hq
        have : g = z.e.g := Option.some.inj r
        exact ((h.own z mz).2 g hg).2 this.symm
  · rcases memS z hz with rfl | ⟨i, hi, hne⟩
    · refine ⟨fun q => ?_, fun c hc => ?_⟩
      · rcases heg with s | s
        · exact ho1 (by rw [← s]; exact q)
        · have := ownsRow_ltG kx _ q
          have : e.g < w.heap.size := this
          omega
      · rw [hg] at hc
        cases hc
        refine ⟨hog1, fun q => ?_⟩
        have : e.g = g := q
        rcases heg with s | s
        · exact hog2 (by rw [← s]; exact this)
        · omega
    · exact h.own z (List.mem_of_getElem? hi)
  · rw [List.pairwise_iff_getElem]
    intro i j hi hj hij
    have P := List.pairwise_iff_getElem.1 h.off
    have hi' : i < L.length := by rw [List.length_set] at hi; exact hi
    have hj' : j < L.length := by rw [List.length_set] at hj; exact hj
    by_cases qi : i = k
    · subst qi
      rw [List.getElem_set_self, List.getElem_set_ne (by omega)]
      exact offE j _ (List.getElem?_eq_getElem hj') (by omega)
    · by_cases qj : j = k
      · subst qj
        rw [List.getElem_set_self, List.getElem_set_ne (by omega)]
        exact offG_symm (offE i _ (List.getElem?_eq_getElem hi') (by omega))
      · rw [List.getElem_set_ne (by omega), List.getElem_set_ne (by omega)]
        exact P i j hi' hj' hij

end Go.Proofs.YtbomplppgobkdaaGreatDoor

