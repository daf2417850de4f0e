/-
  Several texts in one: E31, E21, E22, E24, W9h, E25, E32.
-/
import Derived.Test.YtbomplppgobkdaaGreatDoorMg46
import Derived.Test.YtbomplppgobkdaaGreatDoorMg40
import Derived.Test.YtbomplppgobkdaaGreatDoorMg44
import Derived.Test.YtbomplppgobkdaaGreatDoorMg26
import Derived.Test.YtbomplppgobkdaaGreatDoorMg45
import Derived.Test.YtbomplppgobkdaaGreatDoorMg33
namespace Go.Proofs.YtbomplppgobkdaaGreatDoor
open Go.RowKit

theorem xdNg {a b : World} (h : Ext a b) (n : Nat) : Ext a (b.drewN n) := ⟨h.os, h.tape, h.output, h.size, h.block⟩
set_option maxRecDepth 8000 in
set_option maxHeartbeats 4000000 in
theorem groupsS (R C : Nat) (v u : Value) (l : List VT) (cl : List Int) (w : World) (h : ValsIn w v l) (hlen : l.length = R * C) (h2 : l.length ≤ 2000) (hR : R ≤ 2000) (hC : C ≤ 2000) (hr : ∀ e ∈ l, e.good = true ∧ e.room) (hu : IntsIn w u cl) (h4 : cl.length ≤ 4) (hcl : ∀ k, k < cl.length → 1 ≤ cl.getD k 0 ∧ cl.getD k 0 ≤ C) :
    Calls Tryz.prog 36 #[grV R C v, u] w fun e w' => ∃ p n cp, e = .returned (.slice p n cp) ∧ (∃ L Ix, LieG w' w.heap.size w.heap.size (.slice p n cp) L ∧ OrdG l C (colN cl) R Ix ∧ L.map GG.told = Ix.map (telG l C (colN cl) R)) ∧ Ext w w' := by
  have CI : Hid (∀ (W : World) (row : Nat), Ext w W → row < R → Calls Tryz.prog 62 #[grV R C v, .int .i64 row, u] W fun e w' => ∃ sv, e = .returned sv ∧ OwnW w' W.heap.size sv (keyG l C (colN cl) row) ∧ Ext W w') := fun W row hW hrow => keysS R C v u l cl row W (h.later hW) hlen h2 hrow (hu.later hW) (by omega) hcl hC
  have HGK : Hid (∀ i, ∀ e ∈ keyG l C (colN cl) i, e.good = true ∧ e.room) := fun i e he => by
    unfold keyG at he
    obtain ⟨j, _, rfl⟩ := List.mem_map.1 he
    by_cases hj : i * C + (j - 1) < l.length
    · exact hr _ (cel_mem hj)
    · have : cel l (i * C + (j - 1)) = zeroVT := by unfold cel; rw [List.getD_eq_getElem?_getD, List.getElem?_eq_none (by omega)]; rfl
      rw [this]
      exact ⟨by decide, by decide, by decide, by decide⟩
  have HGD : Hid (∀ e ∈ l, e.good = true) := fun e he => (hr e he).1
  have HKL : Hid (∀ i, (keyG l C (colN cl) i).length = cl.length) := fun i => by rw [keyG_length, colN_length]
  have X0 := x1 w (.cells #[.int .i64 R, .int .i64 C, v] 25)
  have B0 := vec_made w [.int .i64 R, .int .i64 C, v] 25
  obtain ⟨u0, hu0⟩ : ∃ u, w.alloc (.cells #[.int .i64 R, .int .i64 C, v] 25) = u := ⟨_, rfl⟩
  change Vec (w.alloc (.cells #[.int .i64 R, .int .i64 C, v] 25)) _ _ at B0
  rw [hu0] at X0 B0
  have s0 : u0.heap.size = w.heap.size + 1 := by rw [← hu0, World.size_alloc]
  have HB0 : Hid (Vec u0 w.heap.size [.int .i64 R, .int .i64 C, v] ∧ Ext w u0) := ⟨B0, X0⟩
  have HC4 : Hid (cl.length ≤ 4) := h4
  obtain ⟨cols, hcols⟩ : ∃ cols, colN cl = cols := ⟨_, rfl⟩
  rw [hcols] at CI HGK HKL ⊢
  obtain ⟨B, hB⟩ : ∃ B, w.heap.size + 1 = B := ⟨_, rfl⟩
  rw [hB] at s0
  have HB : Hid (w.heap.size + 1 = B ∧ u0.heap.size = B) := ⟨hB, s0⟩
  clear h hlen h2 hr hcl hC h4 B0 X0 hcols hB s0 hu
  go_enter Tryz.func36, Tryz.ntmps36
  go_wp2_with fail
  clear hu0
  go_loopw [5, 6] (fun s i wr => ∃ (y n c : Nat) (p : Option Addr) (L : List GG), y ≤ R ∧ i = .int .i64 y ∧ s = .slice p n c ∧ n ≤ y ∧ n ≤ c ∧ Hid (LieG wr B B (.slice p n c) L ∧ L.length = n ∧ L.map GG.told = (firstsG (kapG l C cols) y).map (telG l C cols y) ∧ Ext u0 wr)) (fun _ i _ => R - (intOf i).toNat)
  case atStart => exact ⟨0, 0, 0, none, [], by omega, rfl, rfl, by omega, by omega, LieG.nil _ _ _, rfl, rfl, xr _⟩
  case round =>
    obtain ⟨y, n, c, p, L, hy, rfl, rfl, hny, hnc, HI⟩ := hrel
    by_cases hlt : y < R
    · have i2 : (y : Int) < (R : Int) := by omega
      obtain ⟨a0, a1, a2⟩ := Vec.three (HB0.out.1.later HI.out.2.2.2)
      have CC := CI.out wr y (xt HB0.out.2 HI.out.2.2.2) hlt
      go_wp2_with fail
      refine CC.mono ?_
      rintro e w3 ⟨sv, rfl, OV, e3⟩
      obtain ⟨ky, hky⟩ : ∃ ky, keyG l C cols y = ky := ⟨_, rfl⟩
      have HKY : Hid (keyG l C cols y = ky) := hky
      rw [hky] at OV
      obtain ⟨q, hq⟩ : ∃ q, kapG l C cols y = q := ⟨_, rfl⟩
      have HQ : Hid (kapG l C cols y = q) := hq
      have HOV : Hid (OwnW w3 wr.heap.size sv ky) := OV
      have HI3 : Hid (LieG w3 B B (.slice p n c) L ∧ Ext u0 w3 ∧ Ext wr w3) := ⟨HI.out.1.later e3, xt HI.out.2.2.2 e3, e3⟩
      have HWO : Hid (LieG wr B B (.slice p n c) L ∧ B ≤ wr.heap.size) := ⟨HI.out.1, by have := HI.out.2.2.2.size; have := HB.out.2; omega⟩
      have HLn : Hid (L.length = n ∧ L.map GG.told = (firstsG (kapG l C cols) y).map (telG l C cols y)) := ⟨HI.out.2.1, HI.out.2.2.1⟩
      have HIL : Hid ((firstsG (kapG l C cols) y).length = n) := by
        have := congrArg List.length HLn.out.2
        rw [List.length_map, List.length_map] at this
        show _ = _
        rw [← this]
        exact HLn.out.1
      obtain ⟨psv, nsv, csv, rfl⟩ := ownW_slice OV
      obtain ⟨wo, hwo⟩ : ∃ wo, wo = wr := ⟨_, rfl⟩
      subst hwo
      clear CC a0 a1 a2 OV hky hq HI e3
      go_wp2_with fail
      go_loopw [8, 25] (fun a i wi => ∃ k : Nat, k ≤ n ∧ i = .int .i64 k ∧ a = .int .i64 (seekG (kapG l C cols) (firstsG (kapG l C cols) y) q k) ∧ Hid (Ext w3 wi)) (fun _ i _ => n - (intOf i).toNat)
      case atStart => exact ⟨0, by omega, rfl, rfl, xr _⟩
      case round =>
        obtain ⟨k, hk, rfl, rfl, HO⟩ := hrel
        by_cases hlk : k < n
        · have j2 : (k : Int) < (n : Int) := by omega
          obtain ⟨x, hx⟩ : ∃ x, L[k]? = some x := ⟨_, List.getElem?_eq_getElem (by rw [HLn.out.1]; exact hlk)⟩
          obtain ⟨f, hf⟩ : ∃ f, (firstsG (kapG l C cols) y)[k]? = some f := ⟨_, List.getElem?_eq_getElem (by rw [HIL.out]; exact hlk)⟩
          have hxK : x.K = keyG l C cols f := by
            have := congrArg (fun z => z[k]?) HLn.out.2
            simp only [List.getElem?_map, hx, hf, Option.map_some, Option.some.injEq] at this
            exact (Prod.mk.inj this).1
          have hfd : (firstsG (kapG l C cols) y).getD k 0 = f := by rw [List.getD_eq_getElem?_getD, hf]; rfl
          have mx := List.mem_of_getElem? hx
          have LG := HI3.out.1.later HO.out
          have CS := sameGS x.kv (.slice psv nsv csv) x.K ky wr (ownW_vals (LG.keys x mx)) (ownW_vals (ownW_later HOV.out HO.out)) (fun e he => by rw [hxK] at he; exact ⟨(HGK.out f e he).1, (HGK.out f e he).2.1⟩) (fun e he => by rw [← HKY.out] at he; exact ⟨(HGK.out y e he).1, (HGK.out y e he).2.1⟩) (by rw [hxK, HKL.out]; have := HC4.out; omega) (by rw [hxK, ← HKY.out, HKL.out, HKL.out])
          have hsm : decide (x.K.map nrm = ky.map nrm) = decide (kapG l C cols f = q) := by rw [hxK, ← HKY.out, ← HQ.out]; rfl
          rw [hsm] at CS
          have HS : Hid (seekG (kapG l C cols) (firstsG (kapG l C cols) y) q (k + 1) = if kapG l C cols f = q then (k : Int) else seekG (kapG l C cols) (firstsG (kapG l C cols) y) q k) := by
            show _ = _
            rw [seekG, hfd]
          obtain ⟨g, hg⟩ : ∃ g, p = some ⟨g, 0, none⟩ := by
            rcases LG.list.2 with ⟨e9, h9⟩ | ⟨g, cap, cur, e9, _⟩
            · rw [HLn.out.1] at h9; omega
            · cases e9; exact ⟨g, rfl⟩
          subst hg
          have c0 := (ownG_at LG.list rfl hx).1
          obtain ⟨xk, hxk⟩ : ∃ z, x.kv = z := ⟨_, rfl⟩
          rw [hxk] at CS c0
          obtain ⟨T, hT⟩ : ∃ T, decide (kapG l C cols f = q) = T := ⟨_, rfl⟩
          have HTT : Hid (decide (kapG l C cols f = q) = T) := hT
          rw [hT] at CS
          obtain ⟨px, nx, cx, hpx⟩ := ownW_slice (LG.keys x mx)
          rw [hxk] at hpx
          subst hpx
          clear hx hf hxK hfd mx LG hsm hxk hT
          go_wp2_with fail
          refine CS.mono ?_
          rintro e w4 ⟨rfl, e4⟩
          have HX4 : Hid (Ext w3 w4) := xt HO.out e4
          clear CS c0
          cases T with
          | true =>
            have HF : Hid ((k : Int) = seekG (kapG l C cols) (firstsG (kapG l C cols) y) q (k + 1)) := by show _ = _; rw [HS.out, if_pos (of_decide_eq_true HTT.out)]
            go_wp2_with fail
            go_roundw
            case rel => exact ⟨k + 1, by omega, by go_num, by rw [← HF.out], HX4⟩
            case measure => simp [intOf]; omega
          | false =>
            have HF : Hid (seekG (kapG l C cols) (firstsG (kapG l C cols) y) q k = seekG (kapG l C cols) (firstsG (kapG l C cols) y) q (k + 1)) := by show _ = _; rw [HS.out, if_neg (of_decide_eq_false HTT.out)]
            go_wp2_with fail
            go_roundw
            case rel => exact ⟨k + 1, by omega, by go_num, by rw [← HF.out], HX4⟩
            case measure => simp [intOf]; omega
        · obtain rfl : k = n := by omega
          have j2 : ¬ (k : Int) < (k : Int) := by omega
          have LG := HI3.out.1.later HO.out
          have OV := ownW_later HOV.out HO.out
          have XU := xt HI3.out.2.1 HO.out
          have szr : B ≤ wr.heap.size := by have := XU.size; have := HB.out.2; omega
          have hovB : wo.heap.size ≤ w3.heap.size := HI3.out.2.2.size
          by_cases hold : ∃ j, j < k ∧ kapG l C cols ((firstsG (kapG l C cols) y).getD j 0) = q
          · obtain ⟨j, hj, hjq⟩ := hold
            obtain ⟨f, hf⟩ : ∃ f, (firstsG (kapG l C cols) y)[j]? = some f := ⟨_, List.getElem?_eq_getElem (by rw [HIL.out]; exact hj)⟩
            have hfd : (firstsG (kapG l C cols) y).getD j 0 = f := by rw [List.getD_eq_getElem?_getD, hf]; rfl
            rw [hfd] at hjq
            have hsk : seekG (kapG l C cols) (firstsG (kapG l C cols) y) q k = j := seekG_some hj (by rw [hfd]; exact hjq) (fun i hi hiq => by
              obtain ⟨z, hz⟩ : ∃ z, (firstsG (kapG l C cols) y)[i]? = some z := ⟨_, List.getElem?_eq_getElem (by rw [HIL.out]; exact hi)⟩
              rw [List.getD_eq_getElem?_getD, hz] at hiq
              have e2 := firstsG_one (List.mem_of_getElem? hz) (List.mem_of_getElem? hf) (hiq.trans hjq.symm)
              obtain ⟨a1, b1⟩ := List.getElem?_eq_some_iff.1 hz
              obtain ⟨a2, b2⟩ := List.getElem?_eq_some_iff.1 hf
              exact (List.getElem_inj (firstsG_nodup (kapG l C cols) y)).1 (b1.trans (e2.trans b2.symm)))
            rw [hsk]
            obtain ⟨x, hx⟩ : ∃ x, L[j]? = some x := ⟨_, List.getElem?_eq_getElem (by rw [HLn.out.1]; exact hj)⟩
            obtain ⟨g, hg⟩ : ∃ g, p = some ⟨g, 0, none⟩ := by
              rcases LG.list.2 with ⟨e9, h9⟩ | ⟨g, cap, cur, e9, _⟩
              · rw [HLn.out.1] at h9; omega
              · cases e9; exact ⟨g, rfl⟩
            subst hg
            have c1 := (ownG_at LG.list rfl hx).2
            have XB := x1 wr (.cells #[.int .i64 y] 3)
            have VB := vec_made wr [.int .i64 y] 3
            change Vec (wr.alloc (.cells #[.int .i64 y] 3)) _ _ at VB
            have hnl : x.e.ns.length ≤ 1000000 := by
              have := congrArg (fun z => z[j]?) HLn.out.2
              simp only [List.getElem?_map, hx, hf, Option.map_some, Option.some.injEq] at this
              rw [(Prod.mk.inj this).2]
              have := rowsG_length (kapG l C cols) y f
              omega
            obtain ⟨en, wg, hrun, hens, LG2, GW, cg, fg⟩ := (LG.later XB).grow rfl hx y wr.heap.size VB hnl (by have := XB.size; omega)
            have XG : Ext u0 wg := ext_grownJ (xt XU XB) GW (fun z hz => by
              have : x.e.g = z := Option.some.inj hz
              have := ownI_block (LG.rows x (List.mem_of_getElem? hx)) _ (sl_block x.e)
              have := HB.out.2
              omega)
            have XS : Ext u0 (wg.setCell ⟨g, j * 2 + 1, none⟩ en.sl) := xset XG (p := ⟨g, j * 2 + 1, none⟩) (by show u0.heap.size ≤ g; have := ownG_block LG.list g rfl; have := HB.out.2; omega) _
            have HFin : Hid (LieG (wg.setCell ⟨g, j * 2 + 1, none⟩ en.sl) B B (.slice (some ⟨g, 0, none⟩) k c) (L.set j ⟨x.kv, x.K, en⟩) ∧ (L.set j ⟨x.kv, x.K, en⟩).length = k ∧ (L.set j ⟨x.kv, x.K, en⟩).map GG.told = (firstsG (kapG l C cols) (y + 1)).map (telG l C cols (y + 1)) ∧ Ext u0 (wg.setCell ⟨g, j * 2 + 1, none⟩ en.sl)) :=
              ⟨LG2, by rw [List.length_set]; exact HLn.out.1, told_old HLn.out.2 hx hf (hjq.trans HQ.out.symm) hens, XS⟩
            obtain ⟨xs, hxs⟩ : ∃ z, x.e.sl = z := ⟨_, rfl⟩
            obtain ⟨es, hes⟩ : ∃ z, en.sl = z := ⟨_, rfl⟩
            rw [hxs] at c1 cg hrun
            rw [hes] at hrun HFin
            have k1 : (j : Int) < (k : Int) := by omega
            have k2 : ¬ (j : Int) < 0 := by omega
            clear hx hf hfd hjq hsk XB VB hnl hens LG2 GW XG XS LG OV XU
            subst hxs
            subst hes
            go_wp2_with (at_builtin; refine Lib.wpList_append_run _ rfl _ _ _ _ rfl _ _ rfl rfl _ _ hrun ?_)
            go_roundw
            case rel => exact ⟨y + 1, k, c, _, _, by omega, by go_num, rfl, by omega, hnc, HFin⟩
            case measure => simp [intOf]; omega
          · have hnone : ∀ j, j < k → kapG l C cols ((firstsG (kapG l C cols) y).getD j 0) ≠ q := fun j hj e => hold ⟨j, hj, e⟩
            rw [seekG_none hnone]
            have hnew : ∀ f ∈ firstsG (kapG l C cols) y, kapG l C cols f ≠ kapG l C cols y := fun f hf e => by
              obtain ⟨j, hj⟩ := List.mem_iff_getElem?.1 hf
              have hjl := (List.getElem?_eq_some_iff.1 hj).1
              rw [HIL.out] at hjl
              exact hnone j hjl (by rw [List.getD_eq_getElem?_getD, hj]; exact e.trans HQ.out)
            obtain ⟨v9, w9, hrun, L9, G9⟩ := LieG.new HWO.out.1 HWO.out.2 (xt HI3.out.2.2 HO.out) (.slice psv nsv csv) ky OV y (by rw [HLn.out.1]; omega)
            have XN : Ext u0 w9 := ext_grownJ (xt XU (xa (x1 wr (.cells #[.int .i64 y] 3)) (.cells #[.slice psv nsv csv, .slice (some ⟨wr.heap.size, 0, none⟩) 1 1] 73))) G9 (fun z hz => by have := ownG_block HWO.out.1.list z hz; have := HB.out.2; omega)
            obtain ⟨p9, c9, hv9, hc9⟩ := ownG_slice L9.list
            have hn9 : (L ++ [(⟨.slice psv nsv csv, ky, ⟨wr.heap.size, 1, [y]⟩⟩ : GG)]).length = k + 1 := by rw [List.length_append, HLn.out.1]; rfl
            rw [hn9] at hv9 hc9
            rw [hv9] at L9 hrun
            have HFin : Hid (LieG w9 B B (.slice p9 (k + 1) c9) (L ++ [(⟨.slice psv nsv csv, ky, ⟨wr.heap.size, 1, [y]⟩⟩ : GG)]) ∧ (L ++ [(⟨.slice psv nsv csv, ky, ⟨wr.heap.size, 1, [y]⟩⟩ : GG)]).length = k + 1 ∧ (L ++ [(⟨.slice psv nsv csv, ky, ⟨wr.heap.size, 1, [y]⟩⟩ : GG)]).map GG.told = (firstsG (kapG l C cols) (y + 1)).map (telG l C cols (y + 1)) ∧ Ext u0 w9) :=
              ⟨L9, hn9, told_new HLn.out.2 hnew HKY.out.symm rfl, XN⟩
            obtain ⟨k9, hk9⟩ : ∃ k9, k + 1 = k9 := ⟨_, rfl⟩
            have HK9 : Hid (k + 1 = k9) := hk9
            rw [hk9] at HFin hrun hc9
            clear hnew hnone hold L9 G9 XN hn9 hv9 LG OV XU hk9
            go_wp2_with (at_builtin; refine Lib.wpList_append_run _ rfl _ _ _ _ rfl _ _ rfl rfl _ _ hrun ?_)
            go_roundw
            case rel => exact ⟨y + 1, k9, c9, _, _, by omega, by go_num, rfl, by have := HK9.out; omega, hc9, HFin⟩
            case measure => simp [intOf]; omega
    · obtain rfl : y = R := by omega
      have i2 : ¬ (y : Int) < (y : Int) := by omega
      obtain ⟨a0, a1, a2⟩ := Vec.three (HB0.out.1.later HI.out.2.2.2)
      have HGL : Hid (∀ x ∈ L, ∀ e ∈ x.K, e.good = true ∧ e.room) := fun x hx => by
        obtain ⟨i, _, hi⟩ := told_mem HI.out.2.2.1 hx
        have hK : x.K = keyG l C cols i := (Prod.mk.inj hi).1
        rw [hK]
        exact HGK.out i
      have HGN : Hid (∀ x ∈ L, x.K.length = cl.length) := fun x hx => by
        obtain ⟨i, _, hi⟩ := told_mem HI.out.2.2.1 hx
        have hK : x.K = keyG l C cols i := (Prod.mk.inj hi).1
        rw [hK]
        exact HKL.out i
      have HTL : Hid (L.map GG.told = (firstsG (kapG l C cols) y).map (telG l C cols y)) := HI.out.2.2.1
      have HST : Hid (∃ M, LieG wr B B (.slice p n c) M ∧ M.Perm L ∧ UpToG M 0 ∧ Ext u0 wr) := ⟨L, HI.out.1, List.Perm.refl _, fun a b _ hb => by omega, HI.out.2.2.2⟩
      have HLN : Hid (L.length = n) := HI.out.2.1
      clear HI CI
      go_wp2_with fail
      clear a0 a1 a2
      go_loopw [60] (fun i wi => ∃ k : Nat, k ≤ n ∧ i = .int .i64 k ∧ Hid (∃ M, LieG wi B B (.slice p n c) M ∧ M.Perm L ∧ UpToG M k ∧ Ext u0 wi)) (fun i _ => n - (intOf i).toNat)
      case atStart => exact ⟨0, by omega, rfl, HST⟩
      case round =>
        obtain ⟨i, hin, rfl, HO⟩ := hrel
        clear HST
        by_cases hlt2 : i < n
        · have i3 : (i : Int) < (n : Int) := by omega
          have HO2 : Hid (∃ M, LieG wr B B (.slice p n c) M ∧ M.Perm L ∧ InsG M i i ∧ Ext u0 wr) := by
            obtain ⟨M, h1, h2, h3, h4⟩ := HO.out
            exact ⟨M, h1, h2, InsG.start h3, h4⟩
          obtain ⟨wo, hwo⟩ : ∃ wo, wo = wr := ⟨_, rfl⟩
          subst hwo
          clear HO
          go_wp2_with fail
          go_loopw [11] (fun s wi => ∃ k : Nat, k ≤ i ∧ s = .int .i64 k ∧ Hid (∃ M, LieG wi B B (.slice p n c) M ∧ M.Perm L ∧ InsG M i k ∧ Ext u0 wi)) (fun s _ => (intOf s).toNat)
          case atStart => exact ⟨i, by omega, rfl, HO2⟩
          case round =>
            obtain ⟨k, hki, rfl, HO⟩ := hrel
            clear HO2
            obtain ⟨M, HM⟩ : ∃ M, Hid (LieG wr B B (.slice p n c) M ∧ M.Perm L ∧ InsG M i k ∧ Ext u0 wr) := HO.out
            have hML : M.length = n := by rw [HM.out.2.1.length_eq, HLN.out]
            have HGM : Hid (∀ j, ∀ e ∈ (atG M j).K, e.good = true) := atG_good (fun x hx e he => (HGL.out x (HM.out.2.1.mem_iff.1 hx) e he).1)
            clear HO
            rcases Nat.eq_zero_or_pos k with hk0 | hk0
            · subst hk0
              have HF2 : Hid (∀ q, Hid (∃ M, LieG (wr.drewN q) B B (.slice p n c) M ∧ M.Perm L ∧ UpToG M (i + 1) ∧ Ext u0 (wr.drewN q))) := fun q => by
                have e : Ext wr (wr.drewN q) := xdNg (xr _) q
                exact ⟨M, HM.out.1.later e, HM.out.2.1, HM.out.2.2.1.done HGM.out (Or.inl rfl), xt HM.out.2.2.2 e⟩
              have g0 : decide ((0 : Int) < ((0 : Nat) : Int)) = false := by decide
              clear HM hML HGM
              go_wp2_with fail
              go_quiet (fail)
              go_wp2_with fail
              go_roundw
              case rel => exact ⟨i + 1, by omega, by go_num, HF2.out _⟩
              case measure => simp [intOf]; omega
            · obtain ⟨z, rfl⟩ : ∃ z, k = z + 1 := ⟨k - 1, by omega⟩
              obtain ⟨K, hK⟩ : ∃ K, z + 1 = K := ⟨_, rfl⟩
              have HK : Hid (z + 1 = K) := hK
              rw [hK] at hki hk0 HM ⊢
              have k1 : (0 : Int) < (K : Int) := by omega
              have k2 : (K : Int) < (n : Int) := by omega
              have k3 : (z : Int) < (n : Int) := by omega
              have k4 : IntKind.i64.wrap ((K : Int) - 1) = (z : Int) := by rw [IntKind.wrap_i64]; omega
              have g0 : decide ((0 : Int) < (K : Int)) = true := decide_eq_true k1
              have HXK : Hid (M[K]? = some (atG M K)) := atG_get (by omega)
              have HXZ : Hid (M[z]? = some (atG M z)) := atG_get (by omega)
              have mK := List.mem_of_getElem? HXK.out
              have mZ := List.mem_of_getElem? HXZ.out
              have HAH : Hid (∀ W, Ext wr W → Calls Tryz.prog 64 #[(atG M K).kv, (atG M z).kv] W fun e w' => e = .returned (.bool (decide (cmG M K z < 0))) ∧ Ext W w') := fun W hW =>
                aheadGS _ _ _ _ W ((ownW_vals (HM.out.1.keys _ mK)).later hW) ((ownW_vals (HM.out.1.keys _ mZ)).later hW) (HGL.out _ (HM.out.2.1.mem_iff.1 mK)) (HGL.out _ (HM.out.2.1.mem_iff.1 mZ)) (by rw [HGN.out _ (HM.out.2.1.mem_iff.1 mK)]; have := HC4.out; omega) (by rw [HGN.out _ (HM.out.2.1.mem_iff.1 mK), HGN.out _ (HM.out.2.1.mem_iff.1 mZ)])
              obtain ⟨g, hg⟩ : ∃ g, p = some ⟨g, 0, none⟩ := by
                rcases HM.out.1.list.2 with ⟨e9, h9⟩ | ⟨g, cap, cur, e9, _⟩
                · rw [hML] at h9; omega
                · cases e9; exact ⟨g, rfl⟩
              subst hg
              obtain ⟨b0, b1⟩ := ownG_at HM.out.1.list rfl HXK.out
              obtain ⟨d0, d1⟩ := ownG_at HM.out.1.list rfl HXZ.out
              have HSW : Hid (∀ W, Ext wr W → LieG ((((W.setCell ⟨g, K * 2, none⟩ (atG M z).kv).setCell ⟨g, K * 2 + 1, none⟩ (atG M z).e.sl).setCell ⟨g, z * 2, none⟩ (atG M K).kv).setCell ⟨g, z * 2 + 1, none⟩ (atG M K).e.sl) B B (.slice (some ⟨g, 0, none⟩) n c) (swapG M K z)) := fun W hW => (HM.out.1.later hW).swap rfl (by omega) (by omega)
              have HGB : Hid (u0.heap.size ≤ g ∧ ∀ W, Ext wr W → ∀ j, W.frozen? ⟨g, j, none⟩ = false) := ⟨by have := ownG_block HM.out.1.list g rfl; have := HB.out.2; omega, fun W hW j => ownG_froz (HM.out.1.later hW).list rfl⟩
              obtain ⟨xk, hxk⟩ : ∃ q, (atG M K).kv = q := ⟨_, rfl⟩
              obtain ⟨xs, hxs⟩ : ∃ q, (atG M K).e.sl = q := ⟨_, rfl⟩
              obtain ⟨zk, hzk⟩ : ∃ q, (atG M z).kv = q := ⟨_, rfl⟩
              obtain ⟨zs, hzs⟩ : ∃ q, (atG M z).e.sl = q := ⟨_, rfl⟩
              rw [hxk] at b0 HAH HSW
              rw [hxs] at b1 HSW
              rw [hzk] at d0 HAH HSW
              rw [hzs] at d1 HSW
              obtain ⟨T, hT⟩ : ∃ T, decide (cmG M K z < 0) = T := ⟨_, rfl⟩
              have HTT : Hid (decide (cmG M K z < 0) = T) := hT
              rw [hT] at HAH
              have HE : Hid (Ext u0 wr) := HM.out.2.2.2
              have gl : g < wr.heap.size := World.block_lt_of_cell? _ _ b0
              obtain ⟨pxk, nxk, cxk, ek⟩ := ownW_slice (HM.out.1.keys _ mK)
              obtain ⟨pzk, nzk, czk, ez⟩ := ownW_slice (HM.out.1.keys _ mZ)
              rw [hxk] at ek
              rw [hzk] at ez
              have es1 : ∃ a b d, xs = .slice a b d := ⟨_, _, _, hxs.symm⟩
              have es2 : ∃ a b d, zs = .slice a b d := ⟨_, _, _, hzs.symm⟩
              obtain ⟨pxs, nxs, cxs, ek2⟩ := es1
              obtain ⟨pzs, nzs, czs, ez2⟩ := es2
              subst ek ez ek2 ez2
              clear hxk hxs hzk hzs hT mK mZ
              cases T with
              | true =>
                have HNX : Hid (InsG (swapG M K z) i z ∧ (swapG M K z).Perm L) := by
                  have h2 := of_decide_eq_true HTT.out
                  have h3 := HM.out.2.2.1
                  rw [← HK.out] at h2 h3 ⊢
                  exact ⟨h3.step (by omega) h2, (swapG_perm (by omega) (by omega)).trans HM.out.2.1⟩
                clear HM HTT
                go_wp2_with fail
                go_region_held3 (fun w' => w'.cell? ⟨g, K * 2, none⟩ = some (.slice pxk nxk cxk) ∧ w'.cell? ⟨g, K * 2 + 1, none⟩ = some (.slice pxs nxs cxs) ∧ w'.cell? ⟨g, z * 2, none⟩ = some (.slice pzk nzk czk) ∧ w'.cell? ⟨g, z * 2 + 1, none⟩ = some (.slice pzs nzs czs)) (go_keep)
                  (first | (go_at_call 64; refine (HAH.out _ (by first | exact xr _ | exact xd (xr _))).mono ?_; rintro q w4 ⟨rfl, e4⟩; have Y := xt (xd (xr _)) e4; have b0' := cell_later Y b0; have b1' := cell_later Y b1; have d0' := cell_later Y d0; have d1' := cell_later Y d1))
                have E5 := x1 w4 (.cells #[.slice pxk nxk cxk, .slice pxs nxs cxs] 73)
                have KB := vec_made w4 [.slice pxk nxk cxk, .slice pxs nxs cxs] 73
                change Vec (w4.alloc (.cells #[.slice pxk nxk cxk, .slice pxs nxs cxs] 73)) _ _ at KB
                have hgl : g ≠ w4.heap.size := by have := Y.size; omega
                obtain ⟨w5, hw5⟩ : ∃ w5, w4.alloc (.cells #[.slice pxk nxk cxk, .slice pxs nxs cxs] 73) = w5 := ⟨_, rfl⟩
                rw [hw5] at E5 KB
                have Y5 := xt Y E5
                have c0 := cell_later Y5 b0
                have c1 := cell_later Y5 b1
                have c2 := cell_later Y5 d0
                have c3 := cell_later Y5 d1
                have z0 := HGB.out.2 w5 Y5 (K * 2)
                have z1 := HGB.out.2 w5 Y5 (K * 2 + 1)
                have z2 := HGB.out.2 w5 Y5 (z * 2)
                have z3 := HGB.out.2 w5 Y5 (z * 2 + 1)
                have L5 := HSW.out w5 Y5
                have hKz := HK.out
                have KB6 := (KB.far (p := ⟨g, K * 2, none⟩) hgl (.slice pzk nzk czk)).far (p := ⟨g, K * 2 + 1, none⟩) hgl (.slice pzs nzs czs)
                have X6 := xset (p := ⟨g, K * 2 + 1, none⟩) (xset (p := ⟨g, K * 2, none⟩) (xt HE.out Y5) HGB.out.1 (.slice pzk nzk czk)) HGB.out.1 (.slice pzs nzs czs)
                have X7 := xset (p := ⟨g, z * 2 + 1, none⟩) (xset (p := ⟨g, z * 2, none⟩) X6 HGB.out.1 (.slice pxk nxk cxk)) HGB.out.1 (.slice pxs nxs cxs)
                have h0 : ((w5.setCell ⟨g, K * 2, none⟩ (.slice pzk nzk czk)).setCell ⟨g, K * 2 + 1, none⟩ (.slice pzs nzs czs)).cell? ⟨g, z * 2, none⟩ = some (.slice pzk nzk czk) := by
                  rw [World.cell?_setCell_other _ _ _ _ (fun q => by have := congrArg Addr.off q; simp at this; omega), World.cell?_setCell_other _ _ _ _ (fun q => by have := congrArg Addr.off q; simp at this; omega)]
                  exact c2
                have h1 : ((w5.setCell ⟨g, K * 2, none⟩ (.slice pzk nzk czk)).setCell ⟨g, K * 2 + 1, none⟩ (.slice pzs nzs czs)).cell? ⟨g, z * 2 + 1, none⟩ = some (.slice pzs nzs czs) := by
                  rw [World.cell?_setCell_other _ _ _ _ (fun q => by have := congrArg Addr.off q; simp at this; omega), World.cell?_setCell_other _ _ _ _ (fun q => by have := congrArg Addr.off q; simp at this; omega)]
                  exact c3
                have m0 : ((w5.setCell ⟨g, K * 2, none⟩ (.slice pzk nzk czk)).setCell ⟨g, K * 2 + 1, none⟩ (.slice pzs nzs czs)).frozen? ⟨g, z * 2, none⟩ = false := by rw [World.frozen?_setCell, World.frozen?_setCell]; exact z2
                have m1 : ((w5.setCell ⟨g, K * 2, none⟩ (.slice pzk nzk czk)).setCell ⟨g, K * 2 + 1, none⟩ (.slice pzs nzs czs)).frozen? ⟨g, z * 2 + 1, none⟩ = false := by rw [World.frozen?_setCell, World.frozen?_setCell]; exact z3
                obtain ⟨w6, hw6⟩ : ∃ w6, (w5.setCell ⟨g, K * 2, none⟩ (.slice pzk nzk czk)).setCell ⟨g, K * 2 + 1, none⟩ (.slice pzs nzs czs) = w6 := ⟨_, rfl⟩
                rw [hw6] at KB6 X7 h0 h1 m0 m1 L5
                have t0 := (KB6 0 _ rfl).1
                have t1 := (KB6 1 _ rfl).1
                obtain ⟨w7, hw7⟩ : ∃ w7, (w6.setCell ⟨g, z * 2, none⟩ (.slice pxk nxk cxk)).setCell ⟨g, z * 2 + 1, none⟩ (.slice pxs nxs cxs) = w7 := ⟨_, rfl⟩
                rw [hw7] at X7 L5
                have HFin : Hid (∃ M, LieG w7 B B (.slice (some ⟨g, 0, none⟩) n c) M ∧ M.Perm L ∧ InsG M i z ∧ Ext u0 w7) := ⟨swapG M K z, L5, HNX.out.2, HNX.out.1, X7⟩
                have k5 : (K : Int) - 1 = (z : Int) := by omega
                clear KB KB6 X6 X7 L5 E5 b0 b1 d0 d1 b0' b1' d0' d1' z2 z3 hKz
                go_wp2_with fail
                go_roundw
                case rel => exact ⟨z, by omega, by go_num, HFin⟩
                case measure => simp [intOf]; omega
              | false =>
                have HF : Hid (UpToG M (i + 1)) := by
                  refine HM.out.2.2.1.done HGM.out (Or.inr ?_)
                  rw [← HK.out, Nat.add_sub_cancel, HK.out]
                  exact of_decide_eq_false HTT.out
                have HF2 : Hid (∀ W, Ext wr W → Hid (∃ M, LieG W B B (.slice (some ⟨g, 0, none⟩) n c) M ∧ M.Perm L ∧ UpToG M (i + 1) ∧ Ext u0 W)) := fun W hW => ⟨M, HM.out.1.later hW, HM.out.2.1, HF.out, xt HE.out hW⟩
                clear HM HTT HGM
                go_wp2_with fail
                go_region_held3 (fun w' => w'.cell? ⟨g, K * 2, none⟩ = some (.slice pxk nxk cxk) ∧ w'.cell? ⟨g, K * 2 + 1, none⟩ = some (.slice pxs nxs cxs) ∧ w'.cell? ⟨g, z * 2, none⟩ = some (.slice pzk nzk czk) ∧ w'.cell? ⟨g, z * 2 + 1, none⟩ = some (.slice pzs nzs czs)) (go_keep)
                  (first | (go_at_call 64; refine (HAH.out _ (by first | exact xr _ | exact xd (xr _))).mono ?_; rintro q w4 ⟨rfl, e4⟩; have Y := xt (xd (xr _)) e4; have b0' := cell_later Y b0; have b1' := cell_later Y b1; have d0' := cell_later Y d0; have d1' := cell_later Y d1))
                have HF3 := HF2.out w4 Y
                go_wp2_with fail
                go_roundw
                case rel => exact ⟨i + 1, by omega, by go_num, HF3⟩
                case measure => simp [intOf]; omega
        · obtain rfl : i = n := by omega
          have i3 : ¬ (i : Int) < (i : Int) := by omega
          have HFIN : Hid (∃ M Ix, LieG wr w.heap.size w.heap.size (.slice p i c) M ∧ OrdG l C cols y Ix ∧ M.map GG.told = Ix.map (telG l C cols y) ∧ Ext w wr) := by
            obtain ⟨M, h1, h2, h3, h4⟩ := HO.out
            obtain ⟨Ix, q1, q2⟩ := perm_map_inv (G := telG l C cols y) (h2.map GG.told) (firstsG (kapG l C cols) y) HTL.out
            have hml : M.length = i := by rw [h2.length_eq, HLN.out]
            rw [← hml] at h3
            exact ⟨M, Ix, h1.base (by have := HB.out.1; omega) (by have := HB.out.1; omega), ord_of (F := telG l C cols y) HGD.out (fun _ => rfl) (List.Perm.refl _) q1 q2 (h3.all (fun x hx e he => (HGL.out x (h2.mem_iff.1 hx) e he).1)), q2.symm, xt HB0.out.2 h4⟩
          clear HO
          go_wp2_with fail
          go_ret
          obtain ⟨M, Ix, f1, f2, f3, f4⟩ := HFIN.out
          first | exact ⟨_, _, _, rfl, ⟨M, Ix, f1, f2, f3⟩, f4⟩ | exact ⟨_, _, _, rfl, ⟨M, f1, Ix, f2, f3⟩, f4⟩

set_option maxRecDepth 8000 in
set_option maxHeartbeats 2000000 in
theorem colsG (r c : Int) (v u : Value) (l : List Int) (w : World) (h : IntsIn w u l) (hl : l.length ≤ 1048576) :
    Calls Tryz.prog 35 #[grV r c v, u, .int .i64 4] w fun e w' => e = .returned (.bool (onceB c l && decide (l.length ≤ 4))) ∧ Ext w w' := by
  obtain ⟨p, cap, rfl, hcap, hi⟩ := h
  obtain ⟨n, hn⟩ : ∃ n, l.length = n := ⟨_, rfl⟩
  have HN : Hid (l.length = n) := hn
  have HI : Hid (0 < n → ∃ b o, p = some ⟨b, o, none⟩ ∧ ∀ i, i < n → w.cell? ⟨b, o + i, none⟩ = some (.int .i64 (l.getD i 0))) := by rw [← hn]; exact hi
  obtain ⟨R, hR⟩ : ∃ R, onceB c l = R := ⟨_, rfl⟩
  have HR : Hid (onceB c l = R) := hR
  rw [hR]
  rw [hn] at hcap hl ⊢
  have X0 := x1 w (.cells #[.int .i64 r, .int .i64 c, v] 25)
  have B0 := vec_made w [.int .i64 r, .int .i64 c, v] 25
  obtain ⟨u0, hu0⟩ : ∃ u, w.alloc (.cells #[.int .i64 r, .int .i64 c, v] 25) = u := ⟨_, rfl⟩
  change Vec (w.alloc (.cells #[.int .i64 r, .int .i64 c, v] 25)) _ _ at B0
  rw [hu0] at X0 B0
  clear hn hi hR
  go_enter Tryz.func35, Tryz.ntmps35
  go_wp2_with fail
  go_loopw [13] (fun i wr => ∃ k : Nat, k ≤ n ∧ i = .int .i64 k ∧ Hid (Ext u0 wr ∧ ∀ j, j < k → okAt c l j = true)) (fun i _ => n - (intOf i).toNat)
  case atStart => exact ⟨0, by omega, rfl, xr _, fun j hj => absurd hj (by omega)⟩
  case round =>
    obtain ⟨k, hk, rfl, HO⟩ := hrel
    by_cases hlt : k < n
    · have i2 : (k : Int) < (n : Int) := by omega
      obtain ⟨b, o, rfl, hc⟩ := HI.out (by omega)
      have HC : Hid (∀ W, Ext w W → ∀ i, i < n → W.cell? ⟨b, o + i, none⟩ = some (.int .i64 (l.getD i 0))) := fun W hW i hi => cell_later hW (hc i hi)
      have c1 := HC.out wr (xt X0 HO.out.1) k hlt
      have a1 := ((B0.later HO.out.1) 1 _ rfl).1
      obtain ⟨x, hx⟩ : ∃ x, l.getD k 0 = x := ⟨_, rfl⟩
      have HX : Hid (l.getD k 0 = x) := hx
      rw [hx] at c1
      clear hx hc
      by_cases hb : x < 1 ∨ c < x
      · have hr : R = false := by
          rw [← HR.out]
          refine onceB_false (i := k) (by rw [HN.out]; exact hlt) ?_
          unfold okAt
          rw [HX.out, decide_eq_true hb]
          rfl
        have HF : Hid (Ext w wr) := xt X0 HO.out.1
        subst hr
        by_cases h1 : x < 1
        · have f1 : decide (x < 1) = true := decide_eq_true h1
          go_wp2_with fail
          go_ret
          exact ⟨rfl, HF.out⟩
        · have f1 : decide (x < 1) = false := decide_eq_false h1
          have f2 : decide (x > c) = true := decide_eq_true (by omega)
          have f3 : decide (c < x) = true := decide_eq_true (by omega)
          go_wp2_with fail
          go_ret
          exact ⟨rfl, HF.out⟩
      · have f1 : decide (x < 1) = false := decide_eq_false (by omega)
        have f2 : decide (x > c) = false := decide_eq_false (by omega)
        have f3 : decide (c < x) = false := decide_eq_false (by omega)
        have HB : Hid (¬ (x < 1 ∨ c < x)) := hb
        have kc : (k : Int) ≤ (cap : Int) := by omega
        clear hb
        go_wp2_with fail
        go_loopw [30] (fun i wq => ∃ j : Nat, j ≤ k ∧ i = .int .i64 j ∧ Hid (Ext u0 wq ∧ ∀ q, q < j → l.getD q 0 ≠ x)) (fun i _ => k - (intOf i).toNat)
        case atStart => exact ⟨0, by omega, rfl, HO.out.1, fun q hq => absurd hq (by omega)⟩
        case round =>
          obtain ⟨j, hj, rfl, HQ⟩ := hrel
          by_cases hjk : j < k
          · have j2 : (j : Int) < (k : Int) := by omega
            have c2 := HC.out wr (xt X0 HQ.out.1) j (by omega)
            obtain ⟨y, hy⟩ : ∃ y, l.getD j 0 = y := ⟨_, rfl⟩
            have HY : Hid (l.getD j 0 = y) := hy
            rw [hy] at c2
            clear hy
            by_cases hxy : y = x
            · subst hxy
              have hr : R = false := by
                rw [← HR.out]
                refine onceB_false (i := k) (by rw [HN.out]; exact hlt) ?_
                unfold okAt
                rw [HX.out, contains_at hjk (by rw [HN.out]; omega) HY.out]
                simp
              subst hr
              have HF : Hid (Ext w wr) := xt X0 HQ.out.1
              go_wp2_with fail
              go_ret
              exact ⟨rfl, HF.out⟩
            · have HM : Hid (Ext u0 wr ∧ ∀ q, q < j + 1 → l.getD q 0 ≠ x) := ⟨HQ.out.1, fun q hq => by
                by_cases e : q = j
                · subst e; rw [HY.out]; exact hxy
                · exact HQ.out.2 q (by omega)⟩
              go_wp2_with fail
              go_roundw
              case rel => exact ⟨j + 1, by omega, by go_num, HM⟩
              case measure => simp [intOf]; omega
          · obtain rfl : j = k := by omega
            have HM : Hid (Ext u0 wr ∧ ∀ q, q < j + 1 → okAt c l q = true) := ⟨HQ.out.1, fun q hq => by
              by_cases e : q = j
              · subst e
                unfold okAt
                rw [HX.out, contains_none HQ.out.2, decide_eq_false HB.out]
                rfl
              · exact HO.out.2 q (by omega)⟩
            go_wp2_with fail
            go_roundw
            case rel => exact ⟨j + 1, by omega, by go_num, HM⟩
            case measure => simp [intOf]; omega
    · obtain rfl : k = n := by omega
      have hr : R = true := by
        rw [← HR.out]
        exact onceB_true fun i hi => HO.out.2 i (by rw [← HN.out]; exact hi)
      subst hr
      have HF : Hid (Ext w wr) := xt X0 HO.out.1
      have HD : Hid (decide ((k : Int) ≤ 4) = (true && decide (k ≤ 4))) := by show _ = _; rw [Bool.true_and]; exact decide_eq_decide.2 (by omega)
      go_wp2_with fail
      go_ret
      exact ⟨ret_bool HD.out, HF.out⟩

theorem grpB_alt (r c : Int) (l : List VT) (cl : List Int) : grpB r c l cl = (goodG r c l && (onceB c cl && decide (cl.length ≤ 4))) := by
  unfold grpB
  cases goodG r c l <;> cases onceB c cl <;> simp
set_option maxRecDepth 8000 in
set_option maxHeartbeats 2000000 in
/-- Where nothing is put together. -/
theorem specNone (r c : Int) (v u : Value) (l : List VT) (cl : List Int) (w : World) (h : ValsIn w v l) (hl : l.length ≤ 1048576) (hr : ∀ e ∈ l, e.t.length ≤ 2000000) (hu : IntsIn w u cl) (hc : cl.length ≤ 1048576) (hb : grpB r c l cl = false) :
    Calls Tryz.prog 12 #[grV r c v, u] w fun e w' => e = .returned (.slice none 0 0) ∧ Ext w w' := by
  rw [grpB_alt] at hb
  have X0 := x1 w (.cells #[.int .i64 r, .int .i64 c, v] 25)
  have B0 := vec_made w [.int .i64 r, .int .i64 c, v] 25
  obtain ⟨u0, hu0⟩ : ∃ u, w.alloc (.cells #[.int .i64 r, .int .i64 c, v] 25) = u := ⟨_, rfl⟩
  change Vec (w.alloc (.cells #[.int .i64 r, .int .i64 c, v] 25)) _ _ at B0
  rw [hu0] at X0 B0
  obtain ⟨a0, a1, a2⟩ := Vec.three B0
  have C0 := goodGS r c v l u0 (h.later X0) (by omega) hr
  have CO : Hid (∀ W, Ext w W → Calls Tryz.prog 35 #[grV r c v, u, .int .i64 4] W fun e w' => e = .returned (.bool (onceB c cl && decide (cl.length ≤ 4))) ∧ Ext W w') := fun W hW => colsG r c v u cl W (hu.later hW) hc
  clear h hr hu hl hc
  by_cases hg : goodG r c l = true
  · rw [hg, Bool.true_and] at hb
    rw [hg] at C0
    rw [hb] at CO
    go_enter Tryz.func12, Tryz.ntmps12
    go_wp2_with fail
    refine C0.mono ?_
    rintro e w1 ⟨rfl, e1⟩
    obtain ⟨a0, a1, a2⟩ := Vec.three (B0.later e1)
    have C2 := CO.out w1 (xt X0 e1)
    go_wp2_with fail
    refine C2.mono ?_
    rintro e w2 ⟨rfl, e2⟩
    go_wp2_with fail
    go_ret
    exact ⟨rfl, xt X0 (xt e1 e2)⟩
  · have hg' : goodG r c l = false := by simpa using hg
    rw [hg'] at C0
    go_enter Tryz.func12, Tryz.ntmps12
    go_wp2_with fail
    refine C0.mono ?_
    rintro e w1 ⟨rfl, e1⟩
    obtain ⟨a0, a1, a2⟩ := Vec.three (B0.later e1)
    go_wp2_with fail
    go_ret
    exact ⟨rfl, xt X0 e1⟩
set_option maxRecDepth 8000 in
set_option maxHeartbeats 2000000 in
/-- Where rows are put together. -/
theorem specSome (r c : Int) (v u : Value) (l : List VT) (cl : List Int) (w : World) (P : World → Value → World → Prop) (h : ValsIn w v l) (hl : l.length ≤ 1048576) (hr : ∀ e ∈ l, e.t.length ≤ 2000000) (hu : IntsIn w u cl) (hc : cl.length ≤ 1048576) (hb : grpB r c l cl = true)
    (CG : ∀ W, Ext w W → Calls Tryz.prog 36 #[grV r c v, u] W fun e w' => ∃ p n cp, e = .returned (.slice p n cp) ∧ P W (.slice p n cp) w' ∧ Ext W w') :
    Calls Tryz.prog 12 #[grV r c v, u] w fun e w' => ∃ W sv, e = .returned sv ∧ Ext w W ∧ P W sv w' ∧ Ext w w' := by
  rw [grpB_alt, Bool.and_eq_true] at hb
  have X0 := x1 w (.cells #[.int .i64 r, .int .i64 c, v] 25)
  have B0 := vec_made w [.int .i64 r, .int .i64 c, v] 25
  obtain ⟨u0, hu0⟩ : ∃ u, w.alloc (.cells #[.int .i64 r, .int .i64 c, v] 25) = u := ⟨_, rfl⟩
  change Vec (w.alloc (.cells #[.int .i64 r, .int .i64 c, v] 25)) _ _ at B0
  rw [hu0] at X0 B0
  obtain ⟨a0, a1, a2⟩ := Vec.three B0
  have C0 := goodGS r c v l u0 (h.later X0) (by omega) hr
  have CO : Hid (∀ W, Ext w W → Calls Tryz.prog 35 #[grV r c v, u, .int .i64 4] W fun e w' => e = .returned (.bool (onceB c cl && decide (cl.length ≤ 4))) ∧ Ext W w') := fun W hW => colsG r c v u cl W (hu.later hW) hc
  have HCG : Hid (∀ W, Ext w W → Calls Tryz.prog 36 #[grV r c v, u] W fun e w' => ∃ p n cp, e = .returned (.slice p n cp) ∧ P W (.slice p n cp) w' ∧ Ext W w') := CG
  clear h hr hu hl hc CG
  rw [hb.1] at C0
  rw [hb.2] at CO
  go_enter Tryz.func12, Tryz.ntmps12
  go_wp2_with fail
  refine C0.mono ?_
  rintro e w1 ⟨rfl, e1⟩
  obtain ⟨a0, a1, a2⟩ := Vec.three (B0.later e1)
  have C2 := CO.out w1 (xt X0 e1)
  go_wp2_with fail
  refine C2.mono ?_
  rintro e w2 ⟨rfl, e2⟩
  obtain ⟨a0, a1, a2⟩ := Vec.three (B0.later (xt e1 e2))
  have C3 := HCG.out w2 (xt X0 (xt e1 e2))
  go_wp2_with fail
  refine C3.mono ?_
  rintro e w3 ⟨p, n, cp, rfl, hP, e3⟩
  have HP : Hid (P w2 (.slice p n cp) w3) := hP
  clear hP C3 C2 C0
  go_wp2_with fail
  go_ret
  exact ⟨w2, _, rfl, xt X0 (xt e1 e2), HP.out, xt X0 (xt (xt e1 e2) e3)⟩

/-- What GroupRows tells. -/
noncomputable def groupsR (r c : Int) (l : List VT) (cl : List Int) : List (List VT × List Nat) :=
  open Classical in if h : grpB r c l cl = true ∧ ∃ Ix, OrdG l c.toNat (colN cl) r.toNat Ix then (h.2.choose).map (telG l c.toNat (colN cl) r.toNat) else []
theorem groupsR_none {r c : Int} {l : List VT} {cl : List Int} (h : grpB r c l cl = false) : groupsR r c l cl = [] := by
  unfold groupsR
  rw [dif_neg (fun q => by rw [h] at q; exact absurd q.1 (by decide))]
theorem groupsR_some {R C : Nat} {l : List VT} {cl : List Int} (hg : ∀ e ∈ l, e.good = true) (h : grpB R C l cl = true) {Ix : List Nat} (ho : OrdG l C (colN cl) R Ix) : groupsR R C l cl = Ix.map (telG l C (colN cl) R) := by
  unfold groupsR
  have hx : grpB R C l cl = true ∧ ∃ Ix, OrdG l (C : Int).toNat (colN cl) (R : Int).toNat Ix := ⟨h, Ix, ho⟩
  rw [dif_pos hx]
  have := hx.2.choose_spec
  have e := OrdG.one hg this ho
  show (hx.2.choose).map (telG l C (colN cl) R) = _
  rw [e]
/-- An answer of groups. -/
def AnsG (W w' : World) (v : Value) (RR : List (List VT × List Nat)) : Prop := ∃ L, LieG w' W.heap.size W.heap.size v L ∧ L.map GG.told = RR ∧ Ext W w'
theorem groupI (r c : Int) (v u : Value) (l : List VT) (cl : List Int) (w : World) (h : ValsIn w v l) (hl : l.length ≤ 1048576) (hr : ∀ e ∈ l, e.room) (hu : IntsIn w u cl) (hc : cl.length ≤ 1048576) (hT : Tens w) (hE : ErrTab w) :
    Calls Tryz.prog 11 #[grV r c v, u] w fun e w' => ∃ sv, e = .returned sv ∧ AnsG w w' sv (groupsR r c l cl) := by
  cases hb : grpB r c l cl with
  | false =>
    rw [groupsR_none hb]
    refine (groupNone r c v u l cl w h hl hr hu hc hT hE hb).mono ?_
    rintro e w' ⟨rfl, E⟩
    exact ⟨_, rfl, [], LieG.nil _ _ _, rfl, E⟩
  | true =>
    obtain ⟨g1, g2, g3, g4⟩ := grpB_cols hb
    obtain ⟨R, C, rfl, rfl, d1, d2, d3, d4, d5, d6⟩ := good_dims g1
    have hg := (goodG_all g1).2.1
    refine (groupSome R C v u l cl w h d1 (by omega) d5 d6 (fun e he => ⟨hg e he, hr e he⟩) hu g2 (fun k hk => by have := g4 k hk; omega) g1 g3 hT hE).mono ?_
    rintro e w' ⟨sv, L, Ix, rfl, f1, f2, f3, f4⟩
    exact ⟨sv, rfl, L, f1, by rw [f3, groupsR_some hg hb f2], f4⟩
theorem groupSp (r c : Int) (v u : Value) (l : List VT) (cl : List Int) (w : World) (h : ValsIn w v l) (hl : l.length ≤ 1048576) (hr : ∀ e ∈ l, e.room) (hu : IntsIn w u cl) (hc : cl.length ≤ 1048576) :
    Calls Tryz.prog 12 #[grV r c v, u] w fun e w' => ∃ sv, e = .returned sv ∧ AnsG w w' sv (groupsR r c l cl) := by
  cases hb : grpB r c l cl with
  | false =>
    rw [groupsR_none hb]
    refine (specNone r c v u l cl w h hl (fun e he => (hr e he).1) hu hc hb).mono ?_
    rintro e w' ⟨rfl, E⟩
    exact ⟨_, rfl, [], LieG.nil _ _ _, rfl, E⟩
  | true =>
    obtain ⟨g1, g2, g3, g4⟩ := grpB_cols hb
    obtain ⟨R, C, rfl, rfl, d1, d2, d3, d4, d5, d6⟩ := good_dims g1
    have hg := (goodG_all g1).2.1
    refine (specSome R C v u l cl w (fun W sv w' => ∃ L Ix, LieG w' W.heap.size W.heap.size sv L ∧ OrdG l C (colN cl) R Ix ∧ L.map GG.told = Ix.map (telG l C (colN cl) R)) h hl (fun e he => (hr e he).1) hu hc hb (fun W hW => groupsS R C v u l cl W (h.later hW) d1 (by omega) d5 d6 (fun e he => ⟨hg e he, hr e he⟩) (hu.later hW) g2 (fun k hk => by have := g4 k hk; omega))).mono ?_
    rintro e w' ⟨W, sv, rfl, hW, ⟨L, Ix, f1, f2, f3⟩, f4⟩
    exact ⟨sv, rfl, L, f1.base hW.size hW.size, by rw [f3, groupsR_some hg hb f2], f4⟩
end Go.Proofs.YtbomplppgobkdaaGreatDoor

