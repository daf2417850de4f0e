/-
  Chapter 12: the law of GroupRows.
-/
import Derived.Test.YtgpfddneablcpaaGreatDoorE33
namespace Go.Proofs.YtgpfddneablcpaaGreatDoor
open Go.RowKit

theorem frozen_blockG {w W : World} {b o : Nat} (h : W.heap[b]? = w.heap[b]?) : W.frozen? ⟨b, o, none⟩ = w.frozen? ⟨b, o, none⟩ := by
 unfold World.frozen?
 simp only [h]
set_option maxRecDepth 8000 in
set_option maxHeartbeats 8000000 in
theorem lawGroup (r c : Int) (v : Value) (l : List VT) (u : Value) (cl : List Int) (w : World) (h : ValsIn w v l) (hl : l.length ≤ 9223372036854775807) (ht : ∀ e ∈ l, e.t.length ≤ 9223372036854775807) (hd : ∀ e ∈ l, -9223372036854775808 ≤ e.d ∧ e.d ≤ 9223372036854775807) (hu : IntsIn w u cl) (hcl : cl.length ≤ 9223372036854775807) (hT : Tens w) (hE : ErrTab w) :
  Calls Tryz.prog 3 #[grV r c v, u] w fun e w' => e = .returned (.bool true) ∧ Ext w w' := by
 have X0 := x1 w (.cells #[.int .i64 r, .int .i64 c, v] 24)
 have B0 := vec_made w [.int .i64 r, .int .i64 c, v] 24
 change Vec (w.alloc (.cells #[.int .i64 r, .int .i64 c, v] 24)) _ _ at B0
 obtain ⟨u0, hu0⟩ : ∃ u, w.alloc (.cells #[.int .i64 r, .int .i64 c, v] 24) = u := ⟨_, rfl⟩
 rw [hu0] at X0 B0
 obtain ⟨a0, a1, a2⟩ := Vec.three B0
 obtain ⟨pv, nv, hv⟩ : ∃ p n, v = .slice p l.length n := by obtain ⟨p, n, h, _⟩ := h; exact ⟨p, n, h⟩
 obtain ⟨pu, cu, hu1⟩ : ∃ p n, u = .slice p cl.length n := by obtain ⟨p, n, h, _⟩ := hu; exact ⟨p, n, h⟩
 obtain ⟨nn, hnn⟩ : ∃ nn, cl.length = nn := ⟨_, rfl⟩
 rw [hnn] at hu1
 subst hu1
 by_cases hbig : ¬ nn ≤ 1048576
 ·
  have fl : decide ((nn : Int) > 1048576) = true := by simp; omega
  clear h hu hT hE a0 a1 a2 B0
  go_enter Tryz.func3, Tryz.ntmps3
  go_wp2_with fail
  go_ret
  exact ⟨rfl, x1 _ _⟩
 have hnm : nn ≤ 1048576 := by omega
 have fl : decide ((nn : Int) > 1048576) = false := by simp; omega
 go_enter Tryz.func3, Tryz.ntmps3
 subst hv
 go_wp2_with fail
 clear a0 a1 a2 hu0 hbig fl
 refine (szGridL r c _ l 1048576 u0 (h.later X0) (by omega) (by omega) hl ht).mono ?_
 rintro e w1 ⟨⟨z, rfl, z0, z1, hz⟩, e1⟩
 have X1 := xt X0 e1
 by_cases hn : z < 0
 ·
  clear hz B0 hT hE
  go_wp2_with fail
  go_ret
  exact ⟨rfl, X1⟩
 obtain ⟨hl1, ht1⟩ := hz (by omega)
 have hl2 : l.length ≤ 1048576 := by omega
 have hr : ∀ e ∈ l, e.room := fun e he => ⟨by have := ht1 e he; omega, hd e he⟩
 obtain ⟨NN, hNN⟩ : ∃ NN, l.length = NN := ⟨_, rfl⟩
 have HV : Hid (ValsIn w (.slice pv NN nv) l) := by rw [← hNN]; exact h
 have HU : Hid (IntsIn w (.slice pu nn cu) cl) := hu
 have TG : Hid (∀ W, Ext w W → Calls Tryz.prog 6 #[grV r c (.slice pv NN nv)] W fun e w' => (∃ g, e = .returned (grV r c (.slice (some ⟨g, 0, none⟩) NN NN)) ∧ W.heap.size ≤ g ∧ OwnV w' g l) ∧ Ext W w') := fun W hW => by have := toGridL r c _ l W (HV.out.later hW) (by omega); rw [hNN] at this; exact this
 have TI : Hid (∀ W, Ext w W → Calls Tryz.prog 7 #[.slice pu nn cu] W fun e w' => (∃ g, e = .returned (.slice (some ⟨g, 0, none⟩) nn nn) ∧ W.heap.size ≤ g ∧ IntsAt w' g cl ∧ (g < w'.heap.size ∧ ∀ i, w'.frozen? ⟨g, i, none⟩ = false)) ∧ Ext W w') := fun W hW => by have := toIntsF _ cl W (HU.out.later hW) (by omega); rw [hnn] at this; exact this
 have CS : Hid (∀ W g k, OwnV W g l → IntsAt W k cl → Calls Tryz.prog 5 #[grV r c (.slice (some ⟨g, 0, none⟩) NN NN), .slice (some ⟨k, 0, none⟩) nn nn] W fun e w' => ∃ sv, e = .returned sv ∧ AnsG W w' sv (groupsR r c l cl)) := fun W g k O P => groupSp r c _ _ l cl W (by have := O.vals; rw [hNN] at this; exact this) hl2 hr (by have := P.ints; rw [hnn] at this; exact this) (by omega)
 have CI : Hid (∀ W g k, Ext w W → OwnV W g l → IntsAt W k cl → Calls Tryz.prog 8 #[grV r c (.slice (some ⟨g, 0, none⟩) NN NN), .slice (some ⟨k, 0, none⟩) nn nn] W fun e w' => ∃ sv, e = .returned sv ∧ AnsG W w' sv (groupsR r c l cl)) := fun W g k hW O P => groupI r c _ _ l cl W (by have := O.vals; rw [hNN] at this; exact this) hl2 hr (by have := P.ints; rw [hnn] at this; exact this) (by omega) (hT.later hW) (hE.later hW)
 have EG : Hid (∀ W g g', OwnV W g l → OwnV W g' l → Calls Tryz.prog 10 #[grV r c (.slice (some ⟨g, 0, none⟩) NN NN), grV r c (.slice (some ⟨g', 0, none⟩) NN NN)] W fun e w' => e = .returned (.bool true) ∧ Ext W w') := fun W g g' O O' => eqGridL r c _ _ l W (by have := O.vals; rw [hNN] at this; exact this) (by have := O'.vals; rw [hNN] at this; exact this) (by omega)
 have EI : Hid (∀ W g g', IntsAt W g cl → IntsAt W g' cl → Calls Tryz.prog 11 #[.slice (some ⟨g, 0, none⟩) nn nn, .slice (some ⟨g', 0, none⟩) nn nn] W fun e w' => e = .returned (.bool true) ∧ Ext W w') := fun W g g' O O' => eqInts _ _ cl W (by have := O.ints; rw [hnn] at this; exact this) (by have := O'.ints; rw [hnn] at this; exact this) (by omega)
 obtain ⟨q1, q2, q3⟩ := groupsR_fine r c l cl
 obtain ⟨RR, hRR⟩ : ∃ RR, groupsR r c l cl = RR := ⟨_, rfl⟩
 rw [hRR] at CS CI q1 q2 q3
 have HQ : Hid (∀ L : List GG, L.map GG.told = RR → L.length ≤ 2000 ∧ sumM L = sumT RR ∧ sumM L ≤ 50000 ∧ ∀ x ∈ L, x.K.length ≤ 4 ∧ x.e.ns.length ≤ 2000) := fun L hL => by
  have e1 : L.length = RR.length := by rw [← hL, List.length_map]
  have e2 : sumM L = sumT RR := by rw [sumM_told, hL]
  refine ⟨by omega, e2, by omega, fun x hx => ?_⟩
  exact q3 x.told (by rw [← hL]; exact List.mem_map.2 ⟨x, hx, rfl⟩)
 have EN : Hid (∀ W a b (La Lb : List GG), GroupsAt W a La → GroupsAt W b Lb → La.map GG.told = RR → Lb.map GG.told = RR → Calls Tryz.prog 9 #[a, b] W fun e w' => e = .returned (.bool true) ∧ Ext W w') := fun W a b La Lb hA hB h1 h2 => eqGroups a b La Lb W hA hB (h1.trans h2.symm) (HQ.out La h1).1 (fun x hx => ⟨by have := ((HQ.out La h1).2.2.2 x hx).1; omega, by have := ((HQ.out La h1).2.2.2 x hx).2; omega⟩)
 have HNN : Hid (l.length = NN ∧ cl.length = nn) := ⟨hNN, hnn⟩
 have B1 := B0.later e1
 rw [hNN] at B1 hl2 ⊢
 have hz9 : decide (z < 0) = false := by simpa using hn
 obtain ⟨a0, a1, a2⟩ := Vec.three B1
 clear hl ht hl1 ht1 hz hd hT hE h hr B0 X0 e1 hRR hNN hnn hu hcl q1 q2 q3
 go_wp2_with fail
 clear a0 a1 a2
 refine (TG.out w1 X1).mono ?_
 rintro e w2 ⟨⟨g1, rfl, _, O1⟩, e2⟩
 go_wp2_with fail
 refine (TI.out w2 (xt X1 e2)).mono ?_
 rintro e w2b ⟨⟨k1, rfl, _, I1, _⟩, e2b⟩
 have X2 := xt X1 (xt e2 e2b)
 have B2 := B1.later (xt e2 e2b)
 have O1 := O1.later e2b
 clear B1 X1 e2 e2b
 go_wp2_with fail
 refine (CS.out w2b g1 k1 O1 I1).mono ?_
 rintro e w3 ⟨s1, rfl, L1, A1, T1, e3⟩
 obtain ⟨ps, cs, hs1, -⟩ := ownG_slice A1.list
 have HS1 : Hid (GroupsAt w3 s1 L1 ∧ L1.map GG.told = RR) := ⟨A1.at, T1⟩
 obtain ⟨ls, hls⟩ : ∃ n, L1.length = n := ⟨_, rfl⟩
 rw [hls] at hs1
 subst hs1
 have X3 := xt X2 e3
 have HB3 : Hid (Vec w3 w.heap.size [.int .i64 r, .int .i64 c, .slice pv NN nv] ∧ Ext w w3) := ⟨B2.later e3, X3⟩
 obtain ⟨a0, a1, a2⟩ := Vec.three HB3.out.1
 clear B2 X2 e3 O1 I1 A1 T1 hls
 go_wp2_with fail
 clear a0 a1 a2
 refine (TG.out w3 X3).mono ?_
 rintro e w4 ⟨⟨g2, rfl, hg2, O2⟩, e4⟩
 have D4 := vec_made w4 [.int .i64 r, .int .i64 c, .slice (some ⟨g2, 0, none⟩) NN NN] 31
 change Vec (w4.alloc (.cells #[.int .i64 r, .int .i64 c, .slice (some ⟨g2, 0, none⟩) NN NN] 31)) _ _ at D4
 have E5 := x1 w4 (.cells #[.int .i64 r, .int .i64 c, .slice (some ⟨g2, 0, none⟩) NN NN] 31)
 obtain ⟨u4, hu4⟩ : ∃ u, w4.alloc (.cells #[.int .i64 r, .int .i64 c, .slice (some ⟨g2, 0, none⟩) NN NN] 31) = u := ⟨_, rfl⟩
 rw [hu4] at D4 E5
 have g2l : g2 < w4.heap.size ∨ NN = 0 := by
  rcases Nat.eq_zero_or_pos NN with h | h
  ·
   exact Or.inr h
  ·
   left
   obtain ⟨q, hq⟩ : ∃ q, l[0]? = some q := ⟨_, List.getElem?_eq_getElem (by rw [HNN.out.1]; exact h)⟩
   exact World.block_lt_of_cell? _ _ (O2 0 q hq 0 _ rfl).1
 have w34 := e4.size
 have w45 := E5.size
 have X4 := xt e4 E5
 have O4 := O2.later E5
 clear O2 e4 E5 X3
 go_wp2_with fail
 clear hu4
 refine (TI.out u4 (xt HB3.out.2 X4)).mono ?_
 rintro e w5 ⟨⟨k2, rfl, hk2, I5, k2l, Z5⟩, e5⟩
 have X5 := xt X4 e5
 have O5 := O4.later e5
 have D5 := D4.later e5
 have w55 := e5.size
 obtain ⟨d0, d1, d2⟩ := Vec.three D5
 clear X4 O4 D4 e5
 go_wp2_with fail
 clear d0 d1 d2
 refine (CI.out w5 g2 k2 (xt HB3.out.2 X5) O5 I5).mono ?_
 rintro e w6 ⟨s2, rfl, L2, A2, T2, e6⟩
 have X6 := xt X5 e6
 have O6 := O5.later e6
 have D6 := D5.later e6
 have I6 := I5.later e6
 have Z6 : ∀ i, w6.frozen? ⟨k2, i, none⟩ = false := fun i => by rw [frozen_blockG (e6.block k2 k2l)]; exact Z5 i
 obtain ⟨p2, c2, hs2, -⟩ := ownG_slice A2.list
 obtain ⟨ln, hln⟩ : ∃ n, L2.length = n := ⟨_, rfl⟩
 rw [hln] at hs2
 subst hs2
 obtain ⟨b5, hb5⟩ : ∃ b, w5.heap.size = b := ⟨_, rfl⟩
 rw [hb5] at A2 k2l w55
 have HT2 : Hid (L2.map GG.told = RR) := T2
 have w56 : b5 ≤ w6.heap.size := by have := e6.size; omega
 clear X5 O5 D5 I5 Z5 e6 T2 hln hb5
 go_wp2_with fail
 refine (EN.out w6 _ _ L2 L1 A2.at (HS1.out.1.later X6) HT2.out HS1.out.2).mono ?_
 rintro e w7 ⟨rfl, e7⟩
 have X7 := xt X6 e7
 have O7 := O6.later e7
 have D7 := D6.later e7
 have I7 := I6.later e7
 have Z7 : ∀ i, w7.frozen? ⟨k2, i, none⟩ = false := fun i => by rw [frozen_blockG (e7.block k2 (by omega))]; exact Z6 i
 have A7 := A2.later e7
 have w67 := e7.size
 clear X6 O6 D6 I6 Z6 A2 e7
 go_upto_region 13 with fail
 go_cut [42] (fun s wc => s = .bool false ∧ Ext w7 wc)
 case first =>
  have HAB : Hid (Vec w7 w.heap.size [.int .i64 r, .int .i64 c, .slice pv NN nv] ∧ Vec w7 w4.heap.size [.int .i64 r, .int .i64 c, .slice (some ⟨g2, 0, none⟩) NN NN] ∧ OwnV w7 g2 l ∧ Ext w w7) := ⟨HB3.out.1.later X7, D7, O7, xt HB3.out.2 X7⟩
  obtain ⟨a0, a1, a2⟩ := HAB.out.1.three
  obtain ⟨d0, d1, d2⟩ := HAB.out.2.1.three
  have YY := xr w7
  clear X7 O7 D7 I7 Z7 A7 HB3 CS CI EN HQ TI EI HS1 HT2
  go_region_with (first
   | (go_at_call 6; refine (TG.out _ (by first | exact xt HAB.out.2.2.2 YY | exact xt HAB.out.2.2.2 (xd YY))).mono ?_; rintro e w8 ⟨⟨gg, rfl, hgg, OO⟩, e8⟩; have YY : Ext w7 w8 := (by first | exact xt YY e8 | exact xt (xd YY) e8); obtain ⟨k0, k1, k2⟩ := (HAB.out.1.later YY).three; obtain ⟨j0, j1, j2⟩ := (HAB.out.2.1.later YY).three)
   | (go_at_call 10; refine (EG.out _ g2 gg (by first | exact HAB.out.2.2.1.later YY | exact HAB.out.2.2.1.later (xd YY)) (by first | exact OO | exact OO.later (xd (xr _)))).mono ?_; rintro e w9 ⟨rfl, e9⟩; have YY : Ext w7 w9 := (by first | exact xt YY e9 | exact xt (xd YY) e9)))
  all_goals go_wp2_with fail
  all_goals
   go_meet
   case rel => exact ⟨rfl, by first | exact YY | exact xd YY⟩
 case rest =>
  obtain ⟨rfl, e8⟩ := hcut
  rename World => w8
  have X8 := xt X7 e8
  have O8 := O7.later e8
  have D8 := D7.later e8
  have I8 := I7.later e8
  have Z8 : ∀ i, w8.frozen? ⟨k2, i, none⟩ = false := fun i => by rw [frozen_blockG (e8.block k2 (by omega))]; exact Z7 i
  have A8 := A7.later e8
  have w78 := e8.size
  clear X7 O7 D7 I7 Z7 A7 e8 EG
  go_wp2_with fail
  refine (TI.out w8 (xt HB3.out.2 X8)).mono ?_
  rintro e w9 ⟨⟨k3, rfl, _, I3, _⟩, e9⟩
  go_wp2_with fail
  refine (EI.out w9 k2 k3 (I8.later e9) I3).mono ?_
  rintro e w10 ⟨rfl, e10⟩
  have e11 := xt e9 e10
  have X10 := xt X8 e11
  have O10 := O8.later e11
  have D10 := D8.later e11
  have I10 := I8.later e11
  have Z10 : ∀ i, w10.frozen? ⟨k2, i, none⟩ = false := fun i => by rw [frozen_blockG (e11.block k2 (by omega))]; exact Z8 i
  have A10 := A8.later e11
  have w810 := e11.size
  clear X8 O8 D8 I8 Z8 A8 e9 e10 e11 I3 EI
  have RA : RowAt w10 (.slice (some ⟨g2, 0, none⟩) NN NN) NN (flatV l) := RowAt.of_own O10 HNN.out.1
  obtain ⟨d0, d1, d2⟩ := Vec.three D10
  go_wp2_with fail
  clear d0 d1 d2
  -- the marks of what was handed in
  refine (markGridL r c _ NN (flatV l) 1 w10 RA hl2 (by omega) (by omega)).mono ?_
  rintro e w11 ⟨rfl, _, G11⟩
  have nr : ∀ k, (if NN = 0 then none else (Value.slice (some ⟨g2, 0, none⟩) NN NN).ownBlock) = some k → 0 < NN ∧ k = g2 := fun k hk => by
   by_cases h0 : NN = 0
   ·
    rw [if_pos h0] at hk; cases hk
   ·
    rw [if_neg h0] at hk
    exact ⟨by omega, (by simpa [Value.ownBlock] using hk.symm)⟩
  have X11 : Ext w3 w11 := ext_grownJ X10 G11 (fun k hk => by obtain ⟨_, rfl⟩ := nr k hk; omega)
  have low : ∀ k, (if NN = 0 then none else (Value.slice (some ⟨g2, 0, none⟩) NN NN).ownBlock) = some k → k < b5 := fun k hk => by obtain ⟨h1, h2⟩ := nr k hk; omega
  have A11 := A10.stay G11 (fun k hk z => by have := ownG_block A10.list k hk; have := low k z; omega) (fun x hx => ⟨fun k hk z => by have := ownW_block (A10.keys x hx) k hk; have := low k z; omega, fun z => by have := ownI_block (A10.rows x hx) _ (sl_block x.e); have := low _ z; omega⟩)
  have kne : some k2 ≠ (if NN = 0 then none else (Value.slice (some ⟨g2, 0, none⟩) NN NN).ownBlock) := fun z => by obtain ⟨h1, h2⟩ := nr k2 z.symm; omega
  have blk := G11.block k2 (by omega) kne
  have Z11 : ∀ i, w11.frozen? ⟨k2, i, none⟩ = false := fun i => by rw [frozen_blockG blk]; exact Z10 i
  have C11 : ∀ i, i < nn → ∃ u, w11.cell? ⟨k2, i, none⟩ = some u := fun i hi => ⟨_, by rw [cell_blockG blk]; exact I10 i (by rw [HNN.out.2]; exact hi)⟩
  have w1011 := G11.size
  obtain ⟨KK, hKK⟩ : ∃ KK : Nat, 1 + NN * 5 = KK := ⟨_, rfl⟩
  rw [hKK]
  have hKKb : 1 ≤ KK ∧ KK ≤ 10000000 := by omega
  clear G11 O10 D10 I10 Z10 A10 RA hKK X10 blk kne
  go_wp2_with fail
  refine (markIntsF k2 nn KK w11 C11 Z11 hnm hKKb.1 hKKb.2).mono ?_
  rintro e w12 ⟨rfl, G12⟩
  have X12 : Ext w3 w12 := ext_grownJ X11 G12 (fun k hk => by have := Option.some.inj hk; omega)
  have A12 := A11.stay G12 (fun k hk z => by have := ownG_block A11.list k hk; have := Option.some.inj z; omega) (fun x hx => ⟨fun k hk z => by have := ownW_block (A11.keys x hx) k hk; have := Option.some.inj z; omega, fun z => by have := ownI_block (A11.rows x hx) _ (sl_block x.e); have := Option.some.inj z; omega⟩)
  have k0 : decide (((KK + nn : Nat) : Int) < 0) = false := decide_eq_false (by omega)
  obtain ⟨K2, hK2⟩ : ∃ K2 : Nat, KK + nn = K2 := ⟨_, rfl⟩
  rw [hK2] at k0 ⊢
  clear G12 A11 X11 C11 Z11 hK2 nr low
  go_wp2_with fail
  refine (EN.out w12 _ _ L2 L1 A12.at (HS1.out.1.later X12) HT2.out HS1.out.2).mono ?_
  rintro e w13 ⟨rfl, e13⟩
  have X13 := xt X12 e13
  have A13 := A12.later e13
  clear A12 X12 e13
  go_wp2_with fail
  -- the marks of the answer
  obtain ⟨n1, n2, n3, n4⟩ := HQ.out L2 HT2.out
  refine (markAns _ L2 b5 w13 A13 n1 n3 n4).mono ?_
  rintro e w14 ⟨rfl, M14, G14⟩
  have X14 : Ext w3 w14 := G14.ext X13 (fun y hy => ⟨fun b hb => by have := ownW_block (A13.keys y hy) b hb; omega, by have := ownI_block (A13.rows y hy) _ (sl_block y.e); omega⟩)
  have HM : Hid (∀ W, MarkedG W (.slice p2 ln c2) L2 → Calls Tryz.prog 15 #[.slice p2 ln c2, .int .i64 1] W fun e w' => e = .returned (.int .i64 ((1 + sumM L2 : Nat) : Int)) ∧ Ext W w') := fun W hW => heldAns _ L2 b5 w13 W A13 hW n1 n3 n4
  have q1 : decide (((1 + sumM L2 : Nat) : Int) < 0) = false := decide_eq_false (by omega)
  obtain ⟨ML, hML⟩ : ∃ ML : Nat, 1 + sumM L2 = ML := ⟨_, rfl⟩
  rw [hML] at q1 HM ⊢
  clear G14 A13 X13 hML n1 n2 n3 n4
  go_wp2_with fail
  refine (HM.out w14 M14).mono ?_
  rintro e w15 ⟨rfl, e15⟩
  have X15 := xt X14 e15
  have M15 := M14.later e15
  obtain ⟨a0, a1, a2⟩ := Vec.three (HB3.out.1.later X15)
  clear M14 X14 e15
  go_wp2_with fail
  clear a0 a1 a2
  refine (TG.out w15 (xt HB3.out.2 X15)).mono ?_
  rintro e w16 ⟨⟨g3, rfl, _, O16⟩, e16⟩
  have X16 := xt X15 e16
  have M16 := M15.later e16
  clear M15 X15 e16
  go_wp2_with fail
  refine (TI.out w16 (xt HB3.out.2 X16)).mono ?_
  rintro e w17 ⟨⟨k4, rfl, _, I17, _⟩, e17⟩
  have X17 := xt X16 e17
  have M17 := M16.later e17
  have O17 := O16.later e17
  clear M16 X16 e17 O16
  go_wp2_with fail
  refine (CI.out w17 g3 k4 (xt HB3.out.2 X17) O17 I17).mono ?_
  rintro e w18 ⟨s3, rfl, L3, A18, T18, e18⟩
  have X18 := xt X17 e18
  have M18 := M17.later e18
  obtain ⟨p3, c3, hs3, -⟩ := ownG_slice A18.list
  obtain ⟨l3, hl3⟩ : ∃ n, L3.length = n := ⟨_, rfl⟩
  rw [hl3] at hs3
  subst hs3
  have HA18 : Hid (GroupsAt w18 (.slice p3 l3 c3) L3 ∧ L3.map GG.told = RR) := ⟨A18.at, T18⟩
  clear M17 X17 e18 O17 I17 A18 T18 hl3
  go_wp2_with fail
  refine (EN.out w18 _ _ L3 L1 HA18.out.1 (HS1.out.1.later X18) HA18.out.2 HS1.out.2).mono ?_
  rintro e w19 ⟨rfl, e19⟩
  have X19 := xt X18 e19
  have M19 := M18.later e19
  clear X18 M18 e19
  go_wp2_with fail
  refine (HM.out w19 M19).mono ?_
  rintro e w20 ⟨rfl, e20⟩
  have X20 := xt HB3.out.2 (xt X19 e20)
  clear M19 X19 e20
  go_wp2_with fail
  go_ret
  exact ⟨rfl, X20⟩

end Go.Proofs.YtgpfddneablcpaaGreatDoor

