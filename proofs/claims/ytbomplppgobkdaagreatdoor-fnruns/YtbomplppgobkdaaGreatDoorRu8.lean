/-
  Chapter 12: the law FnRuns.
-/
import Derived.Test.YtbomplppgobkdaaGreatDoorMg43
import Derived.Test.YtbomplppgobkdaaGreatDoorMg44
import Derived.Test.YtbomplppgobkdaaGreatDoorMg47
namespace Go.Proofs.YtbomplppgobkdaaGreatDoor
open Go.RowKit

theorem ok_roomR {l : List VT} (h : ∀ q ∈ l, okE q) : ∀ q ∈ l, q.room := fun q hq => by
  obtain ⟨h1, h2, h3⟩ := h q hq
  exact ⟨by omega, by omega, by omega⟩
theorem one_ints {w : World} {b : Nat} {x : Int} (V : Vec w b [.int .i64 x]) : IntsIn w (.slice (some ⟨b, 0, none⟩) 1 1) [x] := by
  refine ⟨_, 1, rfl, Nat.le_refl _, fun _ => ⟨b, 0, rfl, fun i hi => ?_⟩⟩
  obtain rfl : i = 0 := by simp at hi; exact hi
  exact (V 0 _ rfl).1
theorem one_key {w : World} {b : Nat} {x : Int} (V : Vec w b [.int .i64 x, .bool false]) : SortKeysIn w (.slice (some ⟨b, 0, none⟩) 1 1) [⟨x, false⟩] := by
  refine ⟨_, 1, rfl, Nat.le_refl _, fun _ => ⟨b, 0, rfl, fun i e hi c u hu => ?_⟩⟩
  match i, hi with
  | 0, hi =>
    cases hi
    simp only [Nat.zero_mul, Nat.zero_add]
    exact (V c u hu).1
theorem lieG_slice {w : World} {bl br : Nat} {v : Value} {L : List GG} (h : LieG w bl br v L) : ∃ p c, v = .slice p L.length c := by
  obtain ⟨p, c, e, _⟩ := ownG_slice h.list
  exact ⟨p, c, e⟩
theorem ownW_len {w : World} {base : Nat} {v : Value} {l : List VT} (h : OwnW w base v l) : ∃ p c, v = .slice p l.length c := by
  rcases h.2 with ⟨rfl, h0⟩ | ⟨g, cap, cur, rfl, _⟩
  · exact ⟨none, 0, by rw [h0]⟩
  · exact ⟨_, _, rfl⟩
set_option maxRecDepth 8000 in
set_option maxHeartbeats 8000000 in
theorem lawFnRuns (HREP : RepOK) (v : Value) (n : Nat) (w : World) (h : CodeIn w w.heap.size v n) (hT : Tens w) (hE : ErrTab w) :
    Calls Tryz.prog 3 #[v] w fun e w' => e = .returned (.bool true) ∧ Ext w w' := by
  obtain ⟨p, cap, rfl⟩ : ∃ p cap, v = .slice p n cap := by
    rcases h with ⟨⟨p, cap, rfl⟩, rfl⟩ | ⟨pb, po, cap, _, rfl, _⟩
    · exact ⟨_, _, rfl⟩
    · exact ⟨_, _, rfl⟩
  by_cases hb : (1048576 : Int) < n
  · clear hT hE
    go_enter Tryz.func3, Tryz.ntmps3
    go_wp2_with fail
    go_ret
    exact ⟨rfl, xr _⟩
  have hb1 : ¬ (1048576 : Int) < n := hb
  go_enter Tryz.func3, Tryz.ntmps3
  go_wp2_with fail
  refine (drawRunsC HREP _ n w h (by omega)).mono ?_
  rintro e w1 ⟨⟨R1, C1, sv1, l, x, rfl, ⟨x0, x4⟩, v1, m1, k1⟩, e1⟩
  obtain ⟨p1, c1, rfl, _⟩ := id v1
  have hr := ok_roomR k1
  have CI : Hid (∀ W, Ext w1 W → Calls Tryz.prog 5 #[grV R1 C1 (.slice p1 l.length c1), .int .i64 x] W fun e w' => ∃ ans, e = .returned ans ∧ AnsI W w' ans (runsR R1 C1 l x)) := fun W X => runsI R1 C1 _ l x W (v1.later X) (by omega) hr (hT.later (xt e1 X)) (hE.later (xt e1 X)) (by omega) (by omega)
  have CS : Hid (∀ W, Ext w1 W → Calls Tryz.prog 7 #[grV R1 C1 (.slice p1 l.length c1), .int .i64 x] W fun e w' => ∃ ans, e = .returned ans ∧ AnsI W w' ans (runsR R1 C1 l x)) := fun W X => runsS R1 C1 _ l x W (v1.later X) (by omega) hr (by omega) (by omega)
  have HV1 : Hid (ValsIn w1 (.slice p1 l.length c1) l) := v1
  obtain ⟨n1, hn1⟩ : ∃ n, l.length = n := ⟨_, rfl⟩
  have HN1 : Hid (l.length = n1) := hn1
  have HR : Hid (∀ e ∈ l, e.room) := hr
  rw [hn1] at CI CS HV1 m1 ⊢
  clear hn1 hr k1 v1 hb hb1
  have HT : Hid (∀ W, Ext w1 W → Tens W) := fun W X => hT.later (xt e1 X)
  have HE : Hid (∀ W, Ext w1 W → ErrTab W) := fun W X => hE.later (xt e1 X)
  clear hT hE h
  have HLE : Hid ((runsR R1 C1 l x).length ≤ 2000) := rowsR_le
  obtain ⟨LR, hLR⟩ : ∃ LR, runsR R1 C1 l x = LR := ⟨_, rfl⟩
  have HLR : Hid (runsR R1 C1 l x = LR) := hLR
  rw [hLR] at CI CS HLE
  clear hLR
  obtain ⟨N1, hN1⟩ : ∃ z, LR.length = z := ⟨_, rfl⟩
  have HNR : Hid (LR.length = N1) := hN1
  obtain ⟨wz, w2, hz, hy, BA, X2, ⟨zz0, zz1, zz2⟩, fz0, fz1, fz2⟩ := newG w1 R1 C1 p1 n1 c1
  obtain ⟨a0, a1, a2⟩ := BA.three
  go_wp2_with fail
  clear hz hy zz0 zz1 zz2 fz0 fz1 fz2 a0 a1 a2
  obtain ⟨gA, hgA⟩ : ∃ g, w1.heap.size = g := ⟨_, rfl⟩
  rw [hgA] at BA ⊢
  clear hgA
  refine (CI.out w2 X2).mono ?_
  rintro e w3 ⟨ans, rfl, NU, _, e3⟩
  obtain ⟨q3, d3, rfl, hd3, _⟩ := id NU
  rw [hN1] at NU ⊢
  have BA := BA.later e3
  have X3 := xt X2 e3
  clear hd3 X2 e3
  obtain ⟨a0, a1, a2⟩ := BA.three
  go_wp2_with fail
  clear a0 a1 a2
  refine (CS.out w3 X3).mono ?_
  rintro e w4 ⟨ans, rfl, NS, _, e4⟩
  obtain ⟨q4, d4, rfl, hd4, _⟩ := id NS
  have NU := NU.later e4
  rw [hN1] at NS ⊢
  have BA := BA.later e4
  have X4 := xt X3 e4
  clear hd4 X3 e4 CS
  go_wp2_with fail
  refine (zIntsL _ _ LR w4 NU NS (by have := HLE.out; omega)).mono ?_
  rintro e w5 ⟨rfl, e5⟩
  have BA := BA.later e5
  have X5 := xt X4 e5
  clear NU NS X4 e5 hN1
  by_cases hN0 : N1 = 0
  · subst hN0
    go_wp2_with fail
    go_ret
    exact ⟨rfl, xt e1 X5⟩
  have hN0' : ¬ (N1 : Int) = 0 := by omega
  have hN2 : ((N1 : Int) == 0) = false := by simp; omega
  obtain ⟨hgood, hx1, hxc⟩ := runsR_some (r := R1) (c := C1) (l := l) (x := x) (by rw [HLR.out]; intro q; rw [q] at HNR; exact hN0 (HNR.out.symm))
  obtain ⟨R, C, rfl, rfl, d1, d2, d3', d4', d5, d6⟩ := good_dims hgood
  obtain ⟨y, rfl⟩ : ∃ y : Nat, x = (y : Int) := ⟨x.toNat, by omega⟩
  have hy1 : 1 ≤ y := by omega
  have hy2 : y ≤ C := by omega
  have HG : Hid (goodG R C l = true ∧ l.length = R * C ∧ R * C ≤ 2000) := ⟨hgood, d1, d2⟩
  have CF : Hid (∀ W, Ext w1 W → Calls Tryz.prog 8 #[grV R C (.slice p1 n1 c1), .int .i64 (y : Int)] W fun e w' => e = .returned (.bool (faultB l C y R)) ∧ Ext W w') := fun W X => hasFaultS R C y _ l W (HV1.out.later X) d1 d2 hy1 hy2 d5 d6
  clear hgood hx1 hxc d1 d2 x0 x4
  obtain ⟨ft, hft⟩ : ∃ q, faultB l C y R = q := ⟨_, rfl⟩
  have HFT : Hid (faultB l C y R = ft) := hft
  rw [hft] at CF
  clear hft
  obtain ⟨a0, a1, a2⟩ := BA.three
  go_wp2_with fail
  clear a0 a1 a2
  refine (CF.out w5 X5).mono ?_
  rintro e w6 ⟨rfl, e6⟩
  have BA := BA.later e6
  have X6 := xt X5 e6
  clear X5 e6 CF
  cases ft
  · obtain ⟨a0, a1, a2⟩ := BA.three
    have V7 := vec_made w6 [.int .i64 (y : Int), .bool false] 34
    have x7 := x1 w6 (.cells #[.int .i64 (y : Int), .bool false] 34)
    go_wp2_with fail
    clear a0 a1 a2
    have V7 : Vec (w6.alloc (.cells #[.int .i64 (y : Int), .bool false] 34)) w6.heap.size [.int .i64 (y : Int), .bool false] := V7
    obtain ⟨w7, h7⟩ : ∃ q, w6.alloc (.cells #[.int .i64 (y : Int), .bool false] 34) = q := ⟨_, rfl⟩
    rw [h7] at V7 x7 ⊢
    clear h7
    have BA := BA.later x7
    have X7 := xt X6 x7
    clear X6 x7
    refine (sortI R C _ _ l [⟨(y : Int), false⟩] w7 (HV1.out.later X7) (one_key V7) (by rw [HN1.out]; omega) (by simp) HR.out (HT.out _ X7) (HE.out _ X7)).mono ?_
    rintro e w8 ⟨ans, S, rfl, ⟨NS, _, e8⟩, HS⟩
    obtain ⟨q8, d8, rfl, hd8, _⟩ := id NS
    have BA := BA.later e8
    have X8 := xt X7 e8
    clear V7 X7 e8 hd8
    obtain ⟨hg1, hg2, hg3⟩ := HG.out
    have CG : Hid (∀ W u, Ext w1 W → IntsIn W u [(y : Int)] → Calls Tryz.prog 11 #[grV R C (.slice p1 n1 c1), u] W fun e w' => ∃ sv L Ix, e = .returned sv ∧ LieG w' W.heap.size W.heap.size sv L ∧ OrdG l C (colN [(y : Int)]) R Ix ∧ L.map GG.told = Ix.map (fun i => (keyG l C (colN [(y : Int)]) i, rowsG (kapG l C (colN [(y : Int)])) R i)) ∧ Ext W w') := fun W u X hu =>
      groupSome R C _ u l [(y : Int)] W (HV1.out.later X) hg2 (by omega) d5 d6 (fun e he => ⟨(goodG_all hg1).2.1 e he, HR.out e he⟩) hu (by simp) (fun k hk => by obtain rfl : k = 0 := by simp at hk; exact hk
                                                                                                                                                                  simp; omega) hg1 (once_one hy1 hy2) (HT.out _ X) (HE.out _ X)
    have CP : Hid (∀ W u, Ext w1 W → IntsIn W u [(y : Int)] → Calls Tryz.prog 12 #[grV R C (.slice p1 n1 c1), u] W fun e w' => ∃ sv, e = .returned sv ∧ AnsG W w' sv (groupsR R C l [(y : Int)])) := fun W u X hu =>
      groupSp R C _ u l [(y : Int)] W (HV1.out.later X) (by rw [HN1.out]; omega) HR.out hu (by simp)
    have HSO : Hid (SortOK R C l [⟨(y : Int), false⟩] S) := HS
    have hS1 : S.length = R ∧ ∀ s ∈ S, s < R := by
      have hs : InOrder (lessR l C [⟨(y : Int), false⟩]) R S := by
        unfold SortOK at HS
        rw [if_pos (sortG_one hg1 hy1 hy2)] at HS
        exact HS
      exact ⟨hs.len, fun s h => by simpa using hs.2.mem_iff.1 h⟩
    have CR : Hid (∀ W, Ext w8 W → Calls Tryz.prog 10 #[grV R C (.slice p1 n1 c1), .slice q8 R d8] W fun e w' => ∃ sv, e = .returned (grV R C sv) ∧ OwnW w' W.heap.size sv (rowsT l C S) ∧ Ext W w') := fun W X => by
      have := rowsOfS R C (.slice p1 n1 c1) (.slice q8 S.length d8) l S W ((HV1.out.later X8).later X) hg2 hg3 d4' d5 (NS.later X) hS1.2 (by omega)
      rw [hS1.1] at this
      exact this
    rw [hS1.1]
    clear NS HS hg1 hg2 hg3
    have HS1 : Hid (S.length = R ∧ ∀ s ∈ S, s < R) := hS1
    clear hS1
    obtain ⟨a0, a1, a2⟩ := BA.three
    go_wp2_with fail
    clear a0 a1 a2
    refine (CR.out w8 (xr _)).mono ?_
    rintro e w9 ⟨sv, rfl, OR, e9⟩
    obtain ⟨q9, d9, ev⟩ : ∃ q d, sv = .slice q n1 d := by
      obtain ⟨q, d, e⟩ := ownW_len OR
      rw [rowsT_length, HS1.out.1, ← HG.out.2.1, HN1.out] at e
      exact ⟨q, d, e⟩
    subst ev
    have BA := BA.later e9
    have X9 := xt X8 e9
    clear X8 e9
    obtain ⟨wz, wA, hz, hy, BB, XA, ⟨zz0, zz1, zz2⟩, fz0, fz1, fz2⟩ := newG w9 R C q9 n1 d9
    have BA := BA.later XA
    have XA1 := xt X9 XA
    have OR := ownW_later OR XA
    obtain ⟨a0, a1, a2⟩ := BA.three
    have VI := vec_made wA [.int .i64 (y : Int)] 3
    have xI := x1 wA (.cells #[.int .i64 (y : Int)] 3)
    change Vec (wA.alloc (.cells #[.int .i64 (y : Int)] 3)) _ _ at VI
    go_wp2_with fail
    clear hz hy zz0 zz1 zz2 fz0 fz1 fz2 a0 a1 a2
    obtain ⟨gB, hgB⟩ : ∃ g, w9.heap.size = g := ⟨_, rfl⟩
    rw [hgB] at BB ⊢
    clear hgB
    obtain ⟨wB, hB⟩ : ∃ q, wA.alloc (.cells #[.int .i64 (y : Int)] 3) = q := ⟨_, rfl⟩
    rw [hB] at VI xI ⊢
    clear hB
    have BA := BA.later xI
    have BB := BB.later xI
    have OR := ownW_later OR xI
    have XB := xt XA1 xI
    clear XA XA1 X9 xI
    refine (CG.out wB _ XB (one_ints VI)).mono ?_
    rintro e wC ⟨sg, L, Ix, rfl, LG, HO, HLI, eC⟩
    obtain ⟨qC, dC, rfl⟩ := lieG_slice LG
    have BA := BA.later eC
    have BB := BB.later eC
    have OR := ownW_later OR eC
    have XC := xt XB eC
    clear XB eC VI LG CG
    obtain ⟨tg1, tg2, tg3, tg4⟩ := runs_told HG.out.1 HG.out.2.1 hy1 hy2 HFT.out HSO.out HO
    have hLI : L.length = Ix.length := by have := congrArg List.length HLI; simpa using this
    have HGR : Hid ((groupsR R C l [(y : Int)]).length = L.length) := by
      show _ = _
      rw [groupsR_some (goodG_all HG.out.1).2.1 (show grpB R C l [(y : Int)] = true by unfold grpB; rw [HG.out.1, once_one hy1 hy2]; rfl) HO, List.length_map, hLI]
    have CN : Hid (∀ W, Ext wC W → Calls Tryz.prog 5 #[grV R C (.slice q9 n1 d9), .int .i64 (y : Int)] W fun e w' => ∃ q d, e = .returned (.slice q L.length d) ∧ Ext W w') := fun W X => by
      have hv := RowAt.vals (RowAt.of_row (ownW_later OR X))
      refine (runsI R C _ (rowsT l C S) y W hv (by rw [rowsT_length, tg1, ← HG.out.2.1, HN1.out]; omega) (fun e he => HR.out e (rowsT_mem HG.out.2.1 tg2 e he)) (HT.out _ (xt XC X)) (HE.out _ (xt XC X)) (by omega) (by omega)).mono ?_
      rintro e w' ⟨ans, rfl, NN, _, eW⟩
      obtain ⟨q, d, rfl, _⟩ := NN
      exact ⟨q, d, by rw [tg4, hLI], eW⟩
    obtain ⟨M, hM⟩ : ∃ z, L.length = z := ⟨_, rfl⟩
    rw [hM] at CN HGR ⊢
    clear hM hLI HLI HO tg1 tg2 tg3 tg4 OR
    obtain ⟨a0, a1, a2⟩ := BA.three
    obtain ⟨b0, b1, b2⟩ := BB.three
    go_wp2_with fail
    clear a0 a1 a2 b0 b1 b2
    refine (CN.out wC (xr _)).mono ?_
    rintro e wD ⟨qD, dD, rfl, eD⟩
    have BA := BA.later eD
    have XD := xt XC eD
    clear XC eD BB CN
    have VI := vec_made wD [.int .i64 (y : Int)] 3
    have xI := x1 wD (.cells #[.int .i64 (y : Int)] 3)
    change Vec (wD.alloc (.cells #[.int .i64 (y : Int)] 3)) _ _ at VI
    obtain ⟨a0, a1, a2⟩ := BA.three
    go_wp2_with fail
    clear a0 a1 a2
    obtain ⟨wE, hwE⟩ : ∃ q, wD.alloc (.cells #[.int .i64 (y : Int)] 3) = q := ⟨_, rfl⟩
    rw [hwE] at VI xI ⊢
    clear hwE
    refine (CP.out wE _ (xt XD xI) (one_ints VI)).mono ?_
    rintro e wF ⟨sf, rfl, L2, LF, hL2, eF⟩
    obtain ⟨qF, dF, rfl⟩ := lieG_slice LF
    have hM2 : L2.length = M := by rw [← HGR.out, ← hL2, List.length_map]
    rw [hM2]
    have XF := xt (xt (xt e1 XD) xI) eF
    clear LF hL2 hM2 VI xI eF XD BA
    go_wp2_with fail
    go_ret
    exact ⟨rfl, XF⟩
  · go_wp2_with fail
    go_ret
    exact ⟨rfl, xt e1 X6⟩

end Go.Proofs.YtbomplppgobkdaaGreatDoor

