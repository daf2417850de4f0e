/-
  Chapter 12: the least and the greatest of numbers, of the program.
-/
import Derived.Test.YtfgohahfppabbaaGreatDoorMg30
namespace Go.Proofs.YtfgohahfppabbaaGreatDoor
open Go.RowKit

theorem enterF_cmp : ∀ ar w, (callFunc 63 ar).run Tryz.prog w = .ok (.enter 63 ar) w := fun ar w => by kernel_rfl
theorem isN_room {e : VT} (h : e.isN) : e.t.length ≤ 2000000 ∧ -9223372036854775808 ≤ e.d ∧ e.d ≤ 9223372036854775807 := by
 obtain ⟨_, ht, hg⟩ := h
 have := good_all hg
 rw [ht]
 exact ⟨by simp, by omega, by omega⟩
theorem cmpTI (a b : VT) (w : World) (ha : a.isN) (hb : b.isN) (hT : Tens w) (hE : ErrTab w) :
  Calls Tryz.prog 63 #[a.val, b.val] w fun e w' => e = .returned (.int .i64 (cmpT a b)) ∧ Ext w w' :=
 compareI a.k a.n a.d a.x a.t b.k b.n b.d b.x b.t w (isN_room ha).1 (isN_room hb).1 (isN_room ha).2.1 (isN_room ha).2.2 (isN_room hb).2.1 (isN_room hb).2.2 hT hE
set_option maxRecDepth 8000 in
set_option maxHeartbeats 4000000 in
theorem minFI (v : Value) (l : List VT) (a : VT) (w : World) (h : ValsIn w v l) (ha : l[0]? = some a) (hl : l.length ≤ 2000) (hv : ∀ e ∈ l, e.isN) (hT : Tens w) (hE : ErrTab w) :
  Calls Tryz.prog 62 #[v, fnV 63] w fun e w' => e = .returned (endT true a (l.drop 1)).val ∧ Ext w w' := by
 obtain ⟨p, cap, rfl, hcap, hrow⟩ := h
 obtain ⟨n, hn⟩ : ∃ n, l.length = n := ⟨_, rfl⟩
 have HN : Hid (l.length = n) := hn
 have n1 : 0 < n := by rw [← hn]; exact (List.getElem?_eq_some_iff.1 ha).1
 rw [hn] at hcap hl hrow ⊢
 obtain ⟨b, o, rfl, hR⟩ := hrow n1
 have HRow : Hid (RowV w b o l) := hR
 have HV : Hid (∀ e ∈ l, e.isN) := hv
 have HA : Hid (a ∈ l) := List.mem_of_getElem? ha
 have HT : Hid (Tens w ∧ ErrTab w) := ⟨hT, hE⟩
 obtain ⟨u0, u1, e0, e1, z0, z1, B0, B1, X⟩ := mkB2 w (valL 0 false 0 0 []) (valL a.k a.n a.d a.x a.t) 27 27
 have HS : Hid (Vec u1 (w.heap.size + 1) (endT true a ((l.drop 1).take (1 - 1))).cells ∧ Vec u1 w.heap.size (valL 0 false 0 0 [])) := ⟨B1, B0⟩
 obtain ⟨R, hRR⟩ : ∃ R, endT true a (l.drop 1) = R := ⟨_, rfl⟩
 have HR : Hid (endT true a (l.drop 1) = R) := hRR
 rw [hRR]
 have X0 : Ext w u0 := by rw [← e0]; exact x1 w _
 have A5 : u0.cell? ⟨b, o, none⟩ = some (.int .i64 a.k) ∧ u0.cell? ⟨b, o + 1, none⟩ = some (.bool a.n) ∧ u0.cell? ⟨b, o + 2, none⟩ = some (.int .i64 a.d) ∧ u0.cell? ⟨b, o + 3, none⟩ = some (.int .i64 a.x) ∧ u0.cell? ⟨b, o + 4, none⟩ = some (sV a.t) := by
  have := (hR.later X0).five ha
  simpa using this
 obtain ⟨a0, a1, a2, a3, a4⟩ := A5
 obtain ⟨B, hB⟩ : ∃ B, w.heap.size = B := ⟨_, rfl⟩
 have HB : Hid (w.heap.size = B) := hB
 rw [hB] at HS z0 z1
 have HAd : Hid (∃ a', a' = a) := ⟨a, rfl⟩
 obtain ⟨aa, haa⟩ : ∃ aa, aa = a := ⟨_, rfl⟩
 rw [← haa] at HS HR HA
 have HN1 : Hid (aa.isN) := HV.out aa HA.out
 obtain ⟨ak, an, ad, ax, at'⟩ := a
 dsimp only at e1 a0 a1 a2 a3 a4
 have g1 : ¬ (n : Int) < 1 := by omega
 clear hn hrow hv hT hE B0 B1 hRR hR ha haa HAd
 go_enter Tryz.func62, Tryz.ntmps62
 go_wp2_with fail
 clear e0 e1 z0 z1 hB a0 a1 a2 a3 a4
 go_loopw [6] (fun i wr => ∃ j : Nat, 1 ≤ j ∧ j ≤ n ∧ i = .int .i64 j ∧ Hid ((Vec wr (B + 1) (endT true aa ((l.drop 1).take (j - 1))).cells ∧ Vec wr B (valL 0 false 0 0 [])) ∧ Ext w wr)) (fun i _ => n - (intOf i).toNat)
 case atStart => exact ⟨1, by omega, by omega, rfl, HS.out, X⟩
 case round =>
  obtain ⟨j, hj1, hjn, rfl, HO⟩ := hrel
  have HI : Hid ((endT true aa ((l.drop 1).take (j - 1))).isN) := endT_mem _ HN1.out (fun e he => HV.out e (List.mem_of_mem_drop (List.mem_of_mem_take he)))
  obtain ⟨⟨ck, cn, cd, cx, ct⟩, hs⟩ : ∃ s, endT true aa ((l.drop 1).take (j - 1)) = s := ⟨_, rfl⟩
  have HSk : Hid (endT true aa ((l.drop 1).take (j - 1)) = ⟨ck, cn, cd, cx, ct⟩) := hs
  rw [hs] at HO HI
  clear hs HS X
  by_cases hlt : j < n
  ·
   have i2 : (j : Int) < (n : Int) := by omega
   obtain ⟨e, hx⟩ : ∃ x, l[j]? = some x := ⟨_, List.getElem?_eq_getElem (by rw [HN.out]; exact hlt)⟩
   obtain ⟨a0, a1, a2, a3, a4⟩ := (HRow.out.later HO.out.2).five hx
   have HX : Hid (endT true aa ((l.drop 1).take (j + 1 - 1)) = pickT true ⟨ck, cn, cd, cx, ct⟩ e) := by
    show _ = _
    have := endT_step (low := true) (a := aa) (l := l) (k := j - 1) (e := e) (by rw [show j - 1 + 1 = j by omega]; exact hx)
    rw [show j - 1 + 1 = j by omega, HSk.out] at this
    rw [show j + 1 - 1 = j by omega]
    exact this
   have CC := fun W (x : Ext wr W) => cmpTI e ⟨ck, cn, cd, cx, ct⟩ W (HV.out e (List.mem_of_getElem? hx)) HI.out (HT.out.1.later (xt HO.out.2 x)) (HT.out.2.later (xt HO.out.2 x))
   have HP : Hid (pickT true ⟨ck, cn, cd, cx, ct⟩ e = if decide (cmpT e ⟨ck, cn, cd, cx, ct⟩ < 0) = true then e else ⟨ck, cn, cd, cx, ct⟩) := rfl
   obtain ⟨c, hc⟩ : ∃ c, cmpT e ⟨ck, cn, cd, cx, ct⟩ = c := ⟨_, rfl⟩
   simp only [hc] at CC
   rw [hc] at HP
   have HCC : Hid (∀ W, Ext wr W → Calls Tryz.prog 63 #[.agg #[.int .i64 e.k, .bool e.n, .int .i64 e.d, .int .i64 e.x, sV e.t], .agg #[.int .i64 ck, .bool cn, .int .i64 cd, .int .i64 cx, sV ct]] W fun z w' => z = .returned (.int .i64 c) ∧ Ext W w') := CC
   have V0 := HO.out.1.1
   have V1 := HO.out.1.2
   have XW := HO.out.2
   obtain ⟨ek, en, ed, ex, et⟩ := e
   dsimp only at a0 a1 a2 a3 a4 HCC
   obtain ⟨c0, c1, c2, c3, c4⟩ := Vec.five V0
   have ent := enterF_cmp
   clear hx HO HSk hc CC
   by_cases hq : c < 0
   ·
    have q1 : decide (c < 0) = true := decide_eq_true hq
    have HQ : Hid (endT true aa ((l.drop 1).take (j + 1 - 1)) = ⟨ek, en, ed, ex, et⟩) := by show _ = _; rw [HX.out, HP.out, q1]; rfl
    clear HX HP
    go_wp2_with fail
    go_region_held3 (fun w' => (w'.cell? ⟨b, o + j * 5, none⟩ = some (.int .i64 ek) ∧ w'.cell? ⟨b, o + j * 5 + 1, none⟩ = some (.bool en) ∧ w'.cell? ⟨b, o + j * 5 + 2, none⟩ = some (.int .i64 ed) ∧ w'.cell? ⟨b, o + j * 5 + 3, none⟩ = some (.int .i64 ex) ∧ w'.cell? ⟨b, o + j * 5 + 4, none⟩ = some (sV et)) ∧ w'.cell? ⟨B + 1, 0, none⟩ = some (.int .i64 ck) ∧ w'.cell? ⟨B + 1, 1, none⟩ = some (.bool cn) ∧ w'.cell? ⟨B + 1, 2, none⟩ = some (.int .i64 cd) ∧ w'.cell? ⟨B + 1, 3, none⟩ = some (.int .i64 cx) ∧ w'.cell? ⟨B + 1, 4, none⟩ = some (sV ct)) (go_keep)
     (first | (go_at_call 63; refine (HCC.out _ (xd (xr _))).mono ?_; rintro z w2 ⟨rfl, e2⟩; have Y := xt (xd (xr _)) e2; have r0 := cell_later Y a0; have r1 := cell_later Y a1; have r2 := cell_later Y a2; have r3 := cell_later Y a3; have r4 := cell_later Y a4; obtain ⟨s0, s1, s2, s3, s4⟩ := Vec.five (V0.later Y)))
    obtain ⟨wy, hy, XY, VY, ⟨o0, o1, o2, o3, o4⟩, ⟨f0, f1, f2, f3, f4⟩, KY⟩ := fin5g (V0.later Y) (xt XW Y) (by have := HB.out; omega) ek en ed ex et
    have HQ2 : Hid ((Vec wy (B + 1) (endT true aa ((l.drop 1).take (j + 1 - 1))).cells ∧ Vec wy B (valL 0 false 0 0 [])) ∧ Ext w wy) := by
     refine ⟨⟨?_, KY _ _ (by omega) (V1.later Y)⟩, XY⟩
     rw [HQ.out]
     exact VY
    clear V0 V1 VY KY XY HQ
    go_wp2_with fail
    go_roundw
    case rel => exact ⟨j + 1, by omega, by omega, by go_num, HQ2⟩
    case measure => simp [intOf]; omega
   ·
    have q1 : decide (c < 0) = false := decide_eq_false hq
    have HQ : Hid (endT true aa ((l.drop 1).take (j + 1 - 1)) = ⟨ck, cn, cd, cx, ct⟩) := by show _ = _; rw [HX.out, HP.out, q1]; rfl
    clear HX HP
    go_wp2_with fail
    go_region_held3 (fun w' => (w'.cell? ⟨b, o + j * 5, none⟩ = some (.int .i64 ek) ∧ w'.cell? ⟨b, o + j * 5 + 1, none⟩ = some (.bool en) ∧ w'.cell? ⟨b, o + j * 5 + 2, none⟩ = some (.int .i64 ed) ∧ w'.cell? ⟨b, o + j * 5 + 3, none⟩ = some (.int .i64 ex) ∧ w'.cell? ⟨b, o + j * 5 + 4, none⟩ = some (sV et)) ∧ w'.cell? ⟨B + 1, 0, none⟩ = some (.int .i64 ck) ∧ w'.cell? ⟨B + 1, 1, none⟩ = some (.bool cn) ∧ w'.cell? ⟨B + 1, 2, none⟩ = some (.int .i64 cd) ∧ w'.cell? ⟨B + 1, 3, none⟩ = some (.int .i64 cx) ∧ w'.cell? ⟨B + 1, 4, none⟩ = some (sV ct)) (go_keep)
     (first | (go_at_call 63; refine (HCC.out _ (xd (xr _))).mono ?_; rintro z w2 ⟨rfl, e2⟩; have Y := xt (xd (xr _)) e2; have r0 := cell_later Y a0; have r1 := cell_later Y a1; have r2 := cell_later Y a2; have r3 := cell_later Y a3; have r4 := cell_later Y a4; obtain ⟨s0, s1, s2, s3, s4⟩ := Vec.five (V0.later Y)))
    have HQ2 : Hid ((Vec w2 (B + 1) (endT true aa ((l.drop 1).take (j + 1 - 1))).cells ∧ Vec w2 B (valL 0 false 0 0 [])) ∧ Ext w w2) := by
     refine ⟨⟨?_, V1.later Y⟩, xt XW Y⟩
     rw [HQ.out]
     exact V0.later Y
    clear V0 V1 HQ
    go_wp2_with fail
    go_roundw
    case rel => exact ⟨j + 1, by omega, by omega, by go_num, HQ2⟩
    case measure => simp [intOf]; omega
  ·
   obtain rfl : j = n := by omega
   have i2 : ¬ (j : Int) < (j : Int) := by omega
   have e3 : R = ⟨ck, cn, cd, cx, ct⟩ := by
    rw [← HR.out, ← HSk.out, List.take_of_length_le (by rw [List.length_drop, HN.out]; exact Nat.le_refl _)]
   obtain ⟨c0, c1, c2, c3, c4⟩ := Vec.five HO.out.1.1
   obtain ⟨wy, hy, FX, ⟨b0, b1, b2, b3, b4⟩, ⟨fb0, fb1, fb2, fb3, fb4⟩, fd0, fd1, fd2, fd3, fd4⟩ := fin5 HO.out.1.2 HO.out.2 (by have := HB.out; omega) ck cn cd cx ct
   subst e3
   clear HO HSk HI
   go_wp2_with fail
   exact bodyPost_ret (v := valV ck cn cd cx ct) (by simp [results, Tryz.results62, go_sem, fd0, fd1, fd2, fd3, fd4]) rfl ⟨rfl, FX⟩
set_option maxRecDepth 8000 in
set_option maxHeartbeats 4000000 in
theorem maxFI (v : Value) (l : List VT) (a : VT) (w : World) (h : ValsIn w v l) (ha : l[0]? = some a) (hl : l.length ≤ 2000) (hv : ∀ e ∈ l, e.isN) (hT : Tens w) (hE : ErrTab w) :
  Calls Tryz.prog 64 #[v, fnV 63] w fun e w' => e = .returned (endT false a (l.drop 1)).val ∧ Ext w w' := by
 obtain ⟨p, cap, rfl, hcap, hrow⟩ := h
 obtain ⟨n, hn⟩ : ∃ n, l.length = n := ⟨_, rfl⟩
 have HN : Hid (l.length = n) := hn
 have n1 : 0 < n := by rw [← hn]; exact (List.getElem?_eq_some_iff.1 ha).1
 rw [hn] at hcap hl hrow ⊢
 obtain ⟨b, o, rfl, hR⟩ := hrow n1
 have HRow : Hid (RowV w b o l) := hR
 have HV : Hid (∀ e ∈ l, e.isN) := hv
 have HA : Hid (a ∈ l) := List.mem_of_getElem? ha
 have HT : Hid (Tens w ∧ ErrTab w) := ⟨hT, hE⟩
 obtain ⟨u0, u1, e0, e1, z0, z1, B0, B1, X⟩ := mkB2 w (valL 0 false 0 0 []) (valL a.k a.n a.d a.x a.t) 27 27
 have HS : Hid (Vec u1 (w.heap.size + 1) (endT false a ((l.drop 1).take (1 - 1))).cells ∧ Vec u1 w.heap.size (valL 0 false 0 0 [])) := ⟨B1, B0⟩
 obtain ⟨R, hRR⟩ : ∃ R, endT false a (l.drop 1) = R := ⟨_, rfl⟩
 have HR : Hid (endT false a (l.drop 1) = R) := hRR
 rw [hRR]
 have X0 : Ext w u0 := by rw [← e0]; exact x1 w _
 have A5 : u0.cell? ⟨b, o, none⟩ = some (.int .i64 a.k) ∧ u0.cell? ⟨b, o + 1, none⟩ = some (.bool a.n) ∧ u0.cell? ⟨b, o + 2, none⟩ = some (.int .i64 a.d) ∧ u0.cell? ⟨b, o + 3, none⟩ = some (.int .i64 a.x) ∧ u0.cell? ⟨b, o + 4, none⟩ = some (sV a.t) := by
  have := (hR.later X0).five ha
  simpa using this
 obtain ⟨a0, a1, a2, a3, a4⟩ := A5
 obtain ⟨B, hB⟩ : ∃ B, w.heap.size = B := ⟨_, rfl⟩
 have HB : Hid (w.heap.size = B) := hB
 rw [hB] at HS z0 z1
 have HAd : Hid (∃ a', a' = a) := ⟨a, rfl⟩
 obtain ⟨aa, haa⟩ : ∃ aa, aa = a := ⟨_, rfl⟩
 rw [← haa] at HS HR HA
 have HN1 : Hid (aa.isN) := HV.out aa HA.out
 obtain ⟨ak, an, ad, ax, at'⟩ := a
 dsimp only at e1 a0 a1 a2 a3 a4
 have g1 : ¬ (n : Int) < 1 := by omega
 clear hn hrow hv hT hE B0 B1 hRR hR ha haa HAd
 go_enter Tryz.func64, Tryz.ntmps64
 go_wp2_with fail
 clear e0 e1 z0 z1 hB a0 a1 a2 a3 a4
 go_loopw [6] (fun i wr => ∃ j : Nat, 1 ≤ j ∧ j ≤ n ∧ i = .int .i64 j ∧ Hid ((Vec wr (B + 1) (endT false aa ((l.drop 1).take (j - 1))).cells ∧ Vec wr B (valL 0 false 0 0 [])) ∧ Ext w wr)) (fun i _ => n - (intOf i).toNat)
 case atStart => exact ⟨1, by omega, by omega, rfl, HS.out, X⟩
 case round =>
  obtain ⟨j, hj1, hjn, rfl, HO⟩ := hrel
  have HI : Hid ((endT false aa ((l.drop 1).take (j - 1))).isN) := endT_mem _ HN1.out (fun e he => HV.out e (List.mem_of_mem_drop (List.mem_of_mem_take he)))
  obtain ⟨⟨ck, cn, cd, cx, ct⟩, hs⟩ : ∃ s, endT false aa ((l.drop 1).take (j - 1)) = s := ⟨_, rfl⟩
  have HSk : Hid (endT false aa ((l.drop 1).take (j - 1)) = ⟨ck, cn, cd, cx, ct⟩) := hs
  rw [hs] at HO HI
  clear hs HS X
  by_cases hlt : j < n
  ·
   have i2 : (j : Int) < (n : Int) := by omega
   obtain ⟨e, hx⟩ : ∃ x, l[j]? = some x := ⟨_, List.getElem?_eq_getElem (by rw [HN.out]; exact hlt)⟩
   obtain ⟨a0, a1, a2, a3, a4⟩ := (HRow.out.later HO.out.2).five hx
   have HX : Hid (endT false aa ((l.drop 1).take (j + 1 - 1)) = pickT false ⟨ck, cn, cd, cx, ct⟩ e) := by
    show _ = _
    have := endT_step (low := false) (a := aa) (l := l) (k := j - 1) (e := e) (by rw [show j - 1 + 1 = j by omega]; exact hx)
    rw [show j - 1 + 1 = j by omega, HSk.out] at this
    rw [show j + 1 - 1 = j by omega]
    exact this
   have CC := fun W (x : Ext wr W) => cmpTI e ⟨ck, cn, cd, cx, ct⟩ W (HV.out e (List.mem_of_getElem? hx)) HI.out (HT.out.1.later (xt HO.out.2 x)) (HT.out.2.later (xt HO.out.2 x))
   have HP : Hid (pickT false ⟨ck, cn, cd, cx, ct⟩ e = if decide (0 < cmpT e ⟨ck, cn, cd, cx, ct⟩) = true then e else ⟨ck, cn, cd, cx, ct⟩) := rfl
   obtain ⟨c, hc⟩ : ∃ c, cmpT e ⟨ck, cn, cd, cx, ct⟩ = c := ⟨_, rfl⟩
   simp only [hc] at CC
   rw [hc] at HP
   have HCC : Hid (∀ W, Ext wr W → Calls Tryz.prog 63 #[.agg #[.int .i64 e.k, .bool e.n, .int .i64 e.d, .int .i64 e.x, sV e.t], .agg #[.int .i64 ck, .bool cn, .int .i64 cd, .int .i64 cx, sV ct]] W fun z w' => z = .returned (.int .i64 c) ∧ Ext W w') := CC
   have V0 := HO.out.1.1
   have V1 := HO.out.1.2
   have XW := HO.out.2
   obtain ⟨ek, en, ed, ex, et⟩ := e
   dsimp only at a0 a1 a2 a3 a4 HCC
   obtain ⟨c0, c1, c2, c3, c4⟩ := Vec.five V0
   have ent := enterF_cmp
   clear hx HO HSk hc CC
   by_cases hq : 0 < c
   ·
    have q1 : decide (0 < c) = true := decide_eq_true hq
    have HQ : Hid (endT false aa ((l.drop 1).take (j + 1 - 1)) = ⟨ek, en, ed, ex, et⟩) := by show _ = _; rw [HX.out, HP.out, q1]; rfl
    clear HX HP
    go_wp2_with fail
    go_region_held3 (fun w' => (w'.cell? ⟨b, o + j * 5, none⟩ = some (.int .i64 ek) ∧ w'.cell? ⟨b, o + j * 5 + 1, none⟩ = some (.bool en) ∧ w'.cell? ⟨b, o + j * 5 + 2, none⟩ = some (.int .i64 ed) ∧ w'.cell? ⟨b, o + j * 5 + 3, none⟩ = some (.int .i64 ex) ∧ w'.cell? ⟨b, o + j * 5 + 4, none⟩ = some (sV et)) ∧ w'.cell? ⟨B + 1, 0, none⟩ = some (.int .i64 ck) ∧ w'.cell? ⟨B + 1, 1, none⟩ = some (.bool cn) ∧ w'.cell? ⟨B + 1, 2, none⟩ = some (.int .i64 cd) ∧ w'.cell? ⟨B + 1, 3, none⟩ = some (.int .i64 cx) ∧ w'.cell? ⟨B + 1, 4, none⟩ = some (sV ct)) (go_keep)
     (first | (go_at_call 63; refine (HCC.out _ (xd (xr _))).mono ?_; rintro z w2 ⟨rfl, e2⟩; have Y := xt (xd (xr _)) e2; have r0 := cell_later Y a0; have r1 := cell_later Y a1; have r2 := cell_later Y a2; have r3 := cell_later Y a3; have r4 := cell_later Y a4; obtain ⟨s0, s1, s2, s3, s4⟩ := Vec.five (V0.later Y)))
    obtain ⟨wy, hy, XY, VY, ⟨o0, o1, o2, o3, o4⟩, ⟨f0, f1, f2, f3, f4⟩, KY⟩ := fin5g (V0.later Y) (xt XW Y) (by have := HB.out; omega) ek en ed ex et
    have HQ2 : Hid ((Vec wy (B + 1) (endT false aa ((l.drop 1).take (j + 1 - 1))).cells ∧ Vec wy B (valL 0 false 0 0 [])) ∧ Ext w wy) := by
     refine ⟨⟨?_, KY _ _ (by omega) (V1.later Y)⟩, XY⟩
     rw [HQ.out]
     exact VY
    clear V0 V1 VY KY XY HQ
    go_wp2_with fail
    go_roundw
    case rel => exact ⟨j + 1, by omega, by omega, by go_num, HQ2⟩
    case measure => simp [intOf]; omega
   ·
    have q1 : decide (0 < c) = false := decide_eq_false hq
    have HQ : Hid (endT false aa ((l.drop 1).take (j + 1 - 1)) = ⟨ck, cn, cd, cx, ct⟩) := by show _ = _; rw [HX.out, HP.out, q1]; rfl
    clear HX HP
    go_wp2_with fail
    go_region_held3 (fun w' => (w'.cell? ⟨b, o + j * 5, none⟩ = some (.int .i64 ek) ∧ w'.cell? ⟨b, o + j * 5 + 1, none⟩ = some (.bool en) ∧ w'.cell? ⟨b, o + j * 5 + 2, none⟩ = some (.int .i64 ed) ∧ w'.cell? ⟨b, o + j * 5 + 3, none⟩ = some (.int .i64 ex) ∧ w'.cell? ⟨b, o + j * 5 + 4, none⟩ = some (sV et)) ∧ w'.cell? ⟨B + 1, 0, none⟩ = some (.int .i64 ck) ∧ w'.cell? ⟨B + 1, 1, none⟩ = some (.bool cn) ∧ w'.cell? ⟨B + 1, 2, none⟩ = some (.int .i64 cd) ∧ w'.cell? ⟨B + 1, 3, none⟩ = some (.int .i64 cx) ∧ w'.cell? ⟨B + 1, 4, none⟩ = some (sV ct)) (go_keep)
     (first | (go_at_call 63; refine (HCC.out _ (xd (xr _))).mono ?_; rintro z w2 ⟨rfl, e2⟩; have Y := xt (xd (xr _)) e2; have r0 := cell_later Y a0; have r1 := cell_later Y a1; have r2 := cell_later Y a2; have r3 := cell_later Y a3; have r4 := cell_later Y a4; obtain ⟨s0, s1, s2, s3, s4⟩ := Vec.five (V0.later Y)))
    have HQ2 : Hid ((Vec w2 (B + 1) (endT false aa ((l.drop 1).take (j + 1 - 1))).cells ∧ Vec w2 B (valL 0 false 0 0 [])) ∧ Ext w w2) := by
     refine ⟨⟨?_, V1.later Y⟩, xt XW Y⟩
     rw [HQ.out]
     exact V0.later Y
    clear V0 V1 HQ
    go_wp2_with fail
    go_roundw
    case rel => exact ⟨j + 1, by omega, by omega, by go_num, HQ2⟩
    case measure => simp [intOf]; omega
  ·
   obtain rfl : j = n := by omega
   have i2 : ¬ (j : Int) < (j : Int) := by omega
   have e3 : R = ⟨ck, cn, cd, cx, ct⟩ := by
    rw [← HR.out, ← HSk.out, List.take_of_length_le (by rw [List.length_drop, HN.out]; exact Nat.le_refl _)]
   obtain ⟨c0, c1, c2, c3, c4⟩ := Vec.five HO.out.1.1
   obtain ⟨wy, hy, FX, ⟨b0, b1, b2, b3, b4⟩, ⟨fb0, fb1, fb2, fb3, fb4⟩, fd0, fd1, fd2, fd3, fd4⟩ := fin5 HO.out.1.2 HO.out.2 (by have := HB.out; omega) ck cn cd cx ct
   subst e3
   clear HO HSk HI
   go_wp2_with fail
   exact bodyPost_ret (v := valV ck cn cd cx ct) (by simp [results, Tryz.results64, go_sem, fd0, fd1, fd2, fd3, fd4]) rfl ⟨rfl, FX⟩
/-- The leastOf of numbers, 0 where there are none. -/
def lowT (l : List VT) : VT := match l with
 | [] => cntT 0
 | a :: l => endT true a l
set_option maxHeartbeats 2000000 in
theorem leastOfI (v : Value) (l : List VT) (w : World) (h : ValsIn w v l) (hl : l.length ≤ 2000) (hv : ∀ e ∈ l, e.isN) (hT : Tens w) (hE : ErrTab w) :
  Calls Tryz.prog 49 #[v] w fun e w' => e = .returned (lowT l).val ∧ Ext w w' := by
 have X0 := x1 w (.cells #[.int .i64 0, .bool false, .int .i64 0, .int .i64 0, sV []] 27)
 have B0 := vec_made w (valL 0 false 0 0 []) 27
 change Vec (w.alloc (.cells #[.int .i64 0, .bool false, .int .i64 0, .int .i64 0, sV []] 27)) _ _ at B0
 cases l with
 | nil =>
  have CC := countI 0 (w.alloc (.cells #[.int .i64 0, .bool false, .int .i64 0, .int .i64 0, sV []] 27)) (by omega) (hT.later X0)
  change Calls _ _ _ _ fun e w' => e = .returned (lowT []).val ∧ _ at CC
  obtain ⟨p, cap, rfl, -, -⟩ := h
  obtain ⟨⟨k2, n2, d2, x2, t2⟩, hc⟩ : ∃ r, lowT [] = r := ⟨_, rfl⟩
  rw [hc] at CC ⊢
  clear hc hv hT hE
  go_enter Tryz.func49, Tryz.ntmps49
  go_wp2_with fail
  refine CC.mono ?_
  rintro rr w1 ⟨rfl, e1⟩
  obtain ⟨wy, hy, FX, ⟨b0, b1, b2, b3, b4⟩, ⟨fb0, fb1, fb2, fb3, fb4⟩, fd0, fd1, fd2, fd3, fd4⟩ := fin5 (B0.later e1) (xt X0 e1) (by omega) k2 n2 d2 x2 t2
  go_wp2_with fail
  exact bodyPost_ret (v := valV k2 n2 d2 x2 t2) (by simp [results, Tryz.results49, go_sem, fd0, fd1, fd2, fd3, fd4]) rfl ⟨rfl, FX⟩
 | cons a l =>
  have CM := minFI v (a :: l) a (w.alloc (.cells #[.int .i64 0, .bool false, .int .i64 0, .int .i64 0, sV []] 27)) (h.later X0) rfl hl hv (hT.later X0) (hE.later X0)
  change Calls _ _ _ _ fun e w' => e = .returned (lowT (a :: l)).val ∧ _ at CM
  obtain ⟨p, cap, rfl, -, -⟩ := h
  obtain ⟨⟨k2, n2, d2, x2, t2⟩, hc⟩ : ∃ r, lowT (a :: l) = r := ⟨_, rfl⟩
  rw [hc] at CM ⊢
  obtain ⟨n, hn⟩ : ∃ n, (a :: l).length = n := ⟨_, rfl⟩
  have n0 : ((n : Int) == 0) = false := beq_eq_false_iff_ne.2 (by rw [← hn]; simp; omega)
  rw [hn] at CM ⊢
  clear hc hv hT hE hn
  go_enter Tryz.func49, Tryz.ntmps49
  go_wp2_with fail
  refine CM.mono ?_
  rintro rr w1 ⟨rfl, e1⟩
  obtain ⟨wy, hy, FX, ⟨b0, b1, b2, b3, b4⟩, ⟨fb0, fb1, fb2, fb3, fb4⟩, fd0, fd1, fd2, fd3, fd4⟩ := fin5 (B0.later e1) (xt X0 e1) (by omega) k2 n2 d2 x2 t2
  go_wp2_with fail
  exact bodyPost_ret (v := valV k2 n2 d2 x2 t2) (by simp [results, Tryz.results49, go_sem, fd0, fd1, fd2, fd3, fd4]) rfl ⟨rfl, FX⟩
/-- The greatestOf of numbers, 0 where there are none. -/
def highT (l : List VT) : VT := match l with
 | [] => cntT 0
 | a :: l => endT false a l
set_option maxHeartbeats 2000000 in
theorem greatestOfI (v : Value) (l : List VT) (w : World) (h : ValsIn w v l) (hl : l.length ≤ 2000) (hv : ∀ e ∈ l, e.isN) (hT : Tens w) (hE : ErrTab w) :
  Calls Tryz.prog 50 #[v] w fun e w' => e = .returned (highT l).val ∧ Ext w w' := by
 have X0 := x1 w (.cells #[.int .i64 0, .bool false, .int .i64 0, .int .i64 0, sV []] 27)
 have B0 := vec_made w (valL 0 false 0 0 []) 27
 change Vec (w.alloc (.cells #[.int .i64 0, .bool false, .int .i64 0, .int .i64 0, sV []] 27)) _ _ at B0
 cases l with
 | nil =>
  have CC := countI 0 (w.alloc (.cells #[.int .i64 0, .bool false, .int .i64 0, .int .i64 0, sV []] 27)) (by omega) (hT.later X0)
  change Calls _ _ _ _ fun e w' => e = .returned (highT []).val ∧ _ at CC
  obtain ⟨p, cap, rfl, -, -⟩ := h
  obtain ⟨⟨k2, n2, d2, x2, t2⟩, hc⟩ : ∃ r, highT [] = r := ⟨_, rfl⟩
  rw [hc] at CC ⊢
  clear hc hv hT hE
  go_enter Tryz.func50, Tryz.ntmps50
  go_wp2_with fail
  refine CC.mono ?_
  rintro rr w1 ⟨rfl, e1⟩
  obtain ⟨wy, hy, FX, ⟨b0, b1, b2, b3, b4⟩, ⟨fb0, fb1, fb2, fb3, fb4⟩, fd0, fd1, fd2, fd3, fd4⟩ := fin5 (B0.later e1) (xt X0 e1) (by omega) k2 n2 d2 x2 t2
  go_wp2_with fail
  exact bodyPost_ret (v := valV k2 n2 d2 x2 t2) (by simp [results, Tryz.results50, go_sem, fd0, fd1, fd2, fd3, fd4]) rfl ⟨rfl, FX⟩
 | cons a l =>
  have CM := maxFI v (a :: l) a (w.alloc (.cells #[.int .i64 0, .bool false, .int .i64 0, .int .i64 0, sV []] 27)) (h.later X0) rfl hl hv (hT.later X0) (hE.later X0)
  change Calls _ _ _ _ fun e w' => e = .returned (highT (a :: l)).val ∧ _ at CM
  obtain ⟨p, cap, rfl, -, -⟩ := h
  obtain ⟨⟨k2, n2, d2, x2, t2⟩, hc⟩ : ∃ r, highT (a :: l) = r := ⟨_, rfl⟩
  rw [hc] at CM ⊢
  obtain ⟨n, hn⟩ : ∃ n, (a :: l).length = n := ⟨_, rfl⟩
  have n0 : ((n : Int) == 0) = false := beq_eq_false_iff_ne.2 (by rw [← hn]; simp; omega)
  rw [hn] at CM ⊢
  clear hc hv hT hE hn
  go_enter Tryz.func50, Tryz.ntmps50
  go_wp2_with fail
  refine CM.mono ?_
  rintro rr w1 ⟨rfl, e1⟩
  obtain ⟨wy, hy, FX, ⟨b0, b1, b2, b3, b4⟩, ⟨fb0, fb1, fb2, fb3, fb4⟩, fd0, fd1, fd2, fd3, fd4⟩ := fin5 (B0.later e1) (xt X0 e1) (by omega) k2 n2 d2 x2 t2
  go_wp2_with fail
  exact bodyPost_ret (v := valV k2 n2 d2 x2 t2) (by simp [results, Tryz.results50, go_sem, fd0, fd1, fd2, fd3, fd4]) rfl ⟨rfl, FX⟩

end Go.Proofs.YtfgohahfppabbaaGreatDoor

