/-
  Chapter 14: the law of ReadSeparated.
-/
import Derived.Test.YtkjbeciiecljgaaDoorRs2
import Derived.Test.YtkjbeciiecljgaaDoorRs3
namespace Go.Proofs.YtkjbeciiecljgaaDoor
open Go.RowKit

theorem fieldU_len {m : UInt8} {s f : List UInt8} {n : Nat} (h : fieldU m s = .ok f n) : f.length ≤ n := by
  unfold fieldU at h
  split at h
  · split at h
    · cases h
    · next f' n' hq =>
      have := quoU_le _ _ _ hq
      split at h
      · cases h; omega
      · cases h
  · split at h
    · cases h
    · cases h
      rw [List.length_take]
      omega
theorem rowU_sum (m : UInt8) (t : List UInt8) : ∀ (k i : Nat) (row l : List (List UInt8)) (n : Nat), i ≤ t.length → rowU m t k i row = .ok l n → (l.map List.length).sum ≤ (row.map List.length).sum + (n - i)
  | 0, _, _, _, _, _, h => by simp [rowU] at h
  | k + 1, i, row, l, n, hi, h => by
    have h0 := rowU_lt m t (k + 1) i row l n hi h
    unfold rowU at h
    split at h
    · cases h
    · next f n' hf =>
      have h1 := (fieldU_le hf).1
      rw [List.length_drop] at h1
      have h2 := fieldU_len hf
      split at h
      · next hp =>
        have h3 : i + n' + 1 ≤ t.length := by
          rw [pfxB_one] at hp
          rcases Nat.lt_or_ge (i + n') t.length with h' | h'
          · omega
          · rw [List.drop_of_length_le h'] at hp; simp at hp
        have h4 := rowU_sum m t k (i + n' + 1) (row ++ [f]) l n h3 h
        have h5 := rowU_lt m t k (i + n' + 1) (row ++ [f]) l n h3 h
        rw [List.map_append, List.sum_append] at h4
        simp only [List.map_cons, List.map_nil, List.sum_cons, List.sum_nil] at h4
        omega
      · cases h
        rw [List.map_append, List.sum_append]
        simp only [List.map_cons, List.map_nil, List.sum_cons, List.sum_nil]
        omega
theorem rowsU_sz (m : UInt8) (t : List UInt8) : ∀ (k i : Nat) (L : List (List (List UInt8))), i ≤ t.length → szTT (rowsU m t k i L).rows ≤ szTT L + 4 * (t.length - i)
  | 0, _, L, _ => by show szTT L ≤ _; omega
  | k + 1, i, L, hi => by
    rcases Nat.lt_or_ge i t.length with h | h
    · rw [rowsU_next h]
      match hr : rowU m t (t.length - i + 1) i [] with
      | .bad e n =>
        show szTT [] ≤ _
        have : szTT [] = 0 := rfl
        omega
      | .ok l n =>
        have h1 := rowU_lt m t _ i [] l n hi hr
        have h2 := rowU_sum m t _ i [] l n hi hr
        have h3 := rowsU_sz m t k n (L ++ [l]) h1.2.1
        have h4 : szTT (L ++ [l]) = szTT L + (1 + szT l) := by
          unfold szTT
          rw [List.length_append, List.map_append, List.sum_append]
          simp only [List.length_singleton, List.map_cons, List.map_nil, List.sum_cons, List.sum_nil]
          omega
        have h5 : szT l = l.length + (l.map List.length).sum := rfl
        simp at h2
        have h6 := h1.2.2.1 h
        have h7 := h1.2.2.2.2
        simp at h7
        show szTT (rowsU m t k n (L ++ [l])).rows ≤ _
        omega
    · unfold rowsU
      rw [if_pos h]
      show szTT L ≤ _
      omega
/-- What ReadSeparated answers. -/
def sepU (t mk : List UInt8) : RU := if t.length ≤ 20000 ∧ isMk mk = true then rowsU (mk.headD 0) t (t.length + 1) 0 [] else ⟨3, 0, []⟩
theorem sepU_sz (t mk : List UInt8) : szTT (sepU t mk).rows ≤ 1048576 := by
  unfold sepU
  split
  · next h =>
    have := rowsU_sz (mk.headD 0) t (t.length + 1) 0 [] (by omega)
    have e : szTT [] = 0 := rfl
    omega
  · have e : szTT [] = 0 := rfl
    show szTT [] ≤ _
    omega
theorem sepI14 (t mk : List UInt8) (a1 a2 a3 : Addr) (w : World) (hb : 9 ≤ w.heap.size) (hs : Sen w a1 a2 a3) (hg : ErrT w) :
    Calls Tryd.prog 5 #[sV t, sV mk] w fun e w' => ∃ v, e = .returned (.agg #[.int .i64 (sepU t mk).e, .int .i64 (sepU t mk).at', v]) ∧ RowsX w' (w.heap.size + 1) v (sepU t mk).rows ∧ Ext w w' := by
  unfold sepU
  by_cases h : t.length ≤ 20000 ∧ isMk mk = true
  · rw [if_pos h]
    obtain ⟨m, rfl, hm⟩ := isMk_one h.2
    exact sepGoodI t m a1 a2 a3 w h.1 h.2 (by rcases hm with rfl | rfl | rfl <;> decide) hb hs hg
  · rw [if_neg h]
    refine (sepRangeI t mk a1 a2 a3 w ?_ hs hg).mono ?_
    · rcases Nat.lt_or_ge 20000 t.length with h1 | h1
      · exact .inl h1
      · refine .inr ?_
        cases hk : isMk mk
        · rfl
        · exact absurd ⟨h1, hk⟩ h
    · rintro e w1 ⟨rfl, e1⟩
      exact ⟨_, rfl, RowsX.nil _ _, e1⟩
set_option maxRecDepth 8000 in
set_option maxHeartbeats 2000000 in
theorem rangeS14 (t mk : List UInt8) (w : World) (ht : t.length ≤ 1048576) (h : 20000 < t.length ∨ isMk mk = false) :
    Calls Tryd.prog 4 #[sV t, sV mk] w fun e w' => e = .returned (.agg #[.int .i64 3, .int .i64 0, .slice none 0 0]) ∧ Ext w w' := by
  obtain ⟨s, hs⟩ : ∃ s : ByteArray, (⟨t.toArray⟩ : ByteArray) = s := ⟨_, rfl⟩
  have hsl : s.data.toList = t := by rw [← hs]
  have hsz := size_ofL' hsl
  obtain ⟨n, hn⟩ : ∃ n, t.length = n := ⟨_, rfl⟩
  rw [hn] at ht h hsz
  have A0 := vec_made w [.int .i64 0, .int .i64 0, .slice none 0 0] 24
  have X0 := x1 w (.cells #[.int .i64 0, .int .i64 0, .slice none 0 0] 24)
  change Vec (w.alloc (.cells #[.int .i64 0, .int .i64 0, .slice none 0 0] 24)) _ _ at A0
  have CM := markS14 mk (w.alloc (.cells #[.int .i64 0, .int .i64 0, .slice none 0 0] 24))
  obtain ⟨w0, hw0⟩ : ∃ w0, w.alloc (.cells #[.int .i64 0, .int .i64 0, .slice none 0 0] 24) = w0 := ⟨_, rfl⟩
  rw [hw0] at A0 X0 CM
  have HFN : Hid _ := fin3 A0 X0 (.int .i64 3) (.int .i64 0) (.slice none 0 0)
  obtain ⟨q0, f0⟩ := A0 0 _ rfl
  obtain ⟨q1, f1⟩ := A0 1 _ rfl
  obtain ⟨q2, f2⟩ := A0 2 _ rfl
  show Calls Tryd.prog 4 #[.string ⟨t.toArray⟩, sV mk] w _
  rw [hs]
  clear A0 hs hsl hn
  by_cases h1 : 20000 < n
  · have g1 : decide ((20000 : Int) < (n : Int)) = true := decide_eq_true (by omega)
    clear CM h X0
    go_enter Tryd.func4, Tryd.ntmps4
    go_wp2_with fail
    obtain ⟨XE, ⟨d0, d1, d2⟩, _⟩ := HFN.out
    exact bodyPost_ret (v := .agg #[.int .i64 3, .int .i64 0, .slice none 0 0]) (by simp [results, Tryd.results4, go_sem, d0, d1, d2]) rfl ⟨rfl, XE⟩
  · have hk : isMk mk = false := by
      rcases h with h | h
      · exact absurd h h1
      · exact h
    rw [hk] at CM
    clear h hk X0
    go_enter Tryd.func4, Tryd.ntmps4
    go_wp2_with fail
    refine CM.mono ?_
    rintro _ wx ⟨rfl, rfl⟩
    go_wp2_with fail
    obtain ⟨XE, ⟨d0, d1, d2⟩, _⟩ := HFN.out
    exact bodyPost_ret (v := .agg #[.int .i64 3, .int .i64 0, .slice none 0 0]) (by simp [results, Tryd.results4, go_sem, d0, d1, d2]) rfl ⟨rfl, XE⟩
theorem sepS14 (t mk : List UInt8) (w : World) (ht : t.length ≤ 1048576) :
    Calls Tryd.prog 4 #[sV t, sV mk] w fun e w' => ∃ v, e = .returned (.agg #[.int .i64 (sepU t mk).e, .int .i64 (sepU t mk).at', v]) ∧ RowsX w' (w.heap.size + 1) v (sepU t mk).rows ∧ Ext w w' := by
  unfold sepU
  by_cases h : t.length ≤ 20000 ∧ isMk mk = true
  · rw [if_pos h]
    obtain ⟨m, rfl, hm⟩ := isMk_one h.2
    exact readS t m w h.1 h.2
  · rw [if_neg h]
    refine (rangeS14 t mk w ht ?_).mono ?_
    · rcases Nat.lt_or_ge 20000 t.length with h1 | h1
      · exact .inl h1
      · refine .inr ?_
        cases hk : isMk mk
        · rfl
        · exact absurd ⟨h1, hk⟩ h
    · rintro e w1 ⟨rfl, e1⟩
      exact ⟨_, rfl, RowsX.nil _ _, e1⟩
set_option maxRecDepth 8000 in
set_option maxHeartbeats 8000000 in
theorem lawRead (t mk : List UInt8) (a1 a2 a3 : Addr) (w : World) (hb : 9 ≤ w.heap.size) (hs : Sen w a1 a2 a3) (hg : ErrT w) (ht : t.length ≤ 9223372036854775807) (hk : mk.length ≤ 9223372036854775807) :
    Calls Tryd.prog 3 #[sV t, sV mk] w fun z w' => z = .returned (.bool true) ∧ Ext w w' := by
  have HSn : Hid (∀ V, Ext w V → 9 ≤ V.heap.size ∧ Sen V a1 a2 a3 ∧ ErrT V) := fun V x => ⟨Nat.le_trans hb x.size, hs.later x, cell_later x hg⟩
  obtain ⟨s, hs'⟩ : ∃ s : ByteArray, (⟨t.toArray⟩ : ByteArray) = s := ⟨_, rfl⟩
  have hsz := size_ofL' (show s.data.toList = t by rw [← hs'])
  obtain ⟨k, hk'⟩ : ∃ k : ByteArray, (⟨mk.toArray⟩ : ByteArray) = k := ⟨_, rfl⟩
  have hkz := size_ofL' (show k.data.toList = mk by rw [← hk'])
  obtain ⟨n, hn⟩ : ∃ n, t.length = n := ⟨_, rfl⟩
  obtain ⟨q, hq⟩ : ∃ q, mk.length = q := ⟨_, rfl⟩
  rw [hn] at hsz ht
  rw [hq] at hkz hk
  have HSp : Hid (n ≤ 1048576 → ∀ V, Calls Tryd.prog 4 #[.string s, .string k] V fun e w' => ∃ v, e = .returned (.agg #[.int .i64 (sepU t mk).e, .int .i64 (sepU t mk).at', v]) ∧ RowsX w' (V.heap.size + 1) v (sepU t mk).rows ∧ Ext V w') := fun h V => by rw [← hs', ← hk']; exact sepS14 t mk V (by omega)
  have HIm : Hid (∀ V, Ext w V → Calls Tryd.prog 5 #[.string s, .string k] V fun e w' => ∃ v, e = .returned (.agg #[.int .i64 (sepU t mk).e, .int .i64 (sepU t mk).at', v]) ∧ RowsX w' (V.heap.size + 1) v (sepU t mk).rows ∧ Ext V w') := fun V x => by rw [← hs', ← hk']; exact sepI14 t mk a1 a2 a3 V (HSn.out V x).1 (HSn.out V x).2.1 (HSn.out V x).2.2
  have hz := sepU_sz t mk
  obtain ⟨⟨re, ra, L⟩, hR⟩ : ∃ R, sepU t mk = R := ⟨_, rfl⟩
  rw [hR] at HSp HIm hz
  dsimp only at HSp HIm hz
  have hLl : L.length ≤ 1048576 := by unfold szTT at hz; omega
  have hLr : ∀ l ∈ L, l.length ≤ 1048576 := fun l hl => by
    have h1 : szT l ≤ (L.map szT).sum := le_sum_mem (List.mem_map_of_mem hl)
    unfold szTT at hz
    have : l.length ≤ szT l := by unfold szT; omega
    omega
  obtain ⟨K, hK⟩ : ∃ K, 1 + cntF L L.length = K := ⟨_, rfl⟩
  have HEq : Hid (∀ V u v, SsIn V u L → SsIn V v L → Calls Tryd.prog 6 #[.agg #[.int .i64 re, .int .i64 ra, u], .agg #[.int .i64 re, .int .i64 ra, v]] V fun z w' => z = .returned (.bool true) ∧ Ext V w') := fun V u v h1 h2 => eqRes re ra u v L V h1 h2 hLl hLr
  have HMk : Hid (∀ V v lo hi, SsOwn V lo hi v L → Calls Tryd.prog 7 #[.agg #[.int .i64 re, .int .i64 ra, v], .int .i64 1] V fun z w' => z = .returned (.int .i64 (K : Int)) ∧ SsOwn w' lo hi v (marksL 1 L L.length) ∧ ∃ wb, Ext V wb ∧ TurnedIn lo hi wb w') := fun V v lo hi h => markRes re ra v L lo hi K V h hz hK
  have HHd : Hid (∀ V v lo hi, SsOwn V lo hi v (marksL 1 L L.length) → Calls Tryd.prog 8 #[.agg #[.int .i64 re, .int .i64 ra, v], .int .i64 1] V fun z w' => z = .returned (.int .i64 (K : Int)) ∧ Ext V w') := fun V v lo hi h => heldRes re ra v L lo hi K V h hz hK
  show Calls Tryd.prog 3 #[.string ⟨t.toArray⟩, .string ⟨mk.toArray⟩] w _
  rw [hs', hk']
  clear hs' hk' hn hq hR hz hLl hLr hK hs hg hb
  by_cases h1 : 1048576 < n
  · go_enter Tryd.func3, Tryd.ntmps3
    go_wp2_with fail
    go_ret
    exact ⟨rfl, xr _⟩
  by_cases h2 : 1048576 < q
  · go_enter Tryd.func3, Tryd.ntmps3
    go_wp2_with fail
    go_ret
    exact ⟨rfl, xr _⟩
  have C1 := HSp.out (by omega) w
  clear HSp
  go_enter Tryd.func3, Tryd.ntmps3
  go_wp2_with fail
  refine C1.mono ?_
  rintro z w1 ⟨v0, rfl, R1, e1⟩
  obtain ⟨p0, c0, hv0, _⟩ := R1.slice
  obtain ⟨nl, hnl⟩ : ∃ nl, L.length = nl := ⟨_, rfl⟩
  rw [hnl] at hv0
  subst hv0
  have HR1 : Hid (RowsX w1 (w.heap.size + 1) (.slice p0 nl c0) L) := R1
  have X1 := e1
  have E2 := x1 w1 (.cells #[.int .i64 re, .int .i64 ra, .slice p0 nl c0] 24)
  have V2 := vec_made w1 [.int .i64 re, .int .i64 ra, .slice p0 nl c0] 24
  change Vec (w1.alloc (.cells #[.int .i64 re, .int .i64 ra, .slice p0 nl c0] 24)) _ _ at V2
  obtain ⟨w2, hw2⟩ : ∃ w2, w1.alloc (.cells #[.int .i64 re, .int .i64 ra, .slice p0 nl c0] 24) = w2 := ⟨_, rfl⟩
  rw [hw2] at E2 V2
  have X2 := xt X1 E2
  have C2 := HIm.out w2 X2
  clear C1 R1
  obtain ⟨a0, a1', a2'⟩ := Vec.three V2
  go_wp2_with fail
  clear hw2 a0 a1' a2'
  refine C2.mono ?_
  rintro z w3 ⟨v1, rfl, R3, e3⟩
  obtain ⟨p1, c1, hv1, _⟩ := R3.slice
  rw [hnl] at hv1
  subst hv1
  have HS3 : Hid (SsOwn w3 (w2.heap.size + 1) w3.heap.size (.slice p1 nl c1) L) := R3.own
  have s12 : w1.heap.size < w2.heap.size + 1 := by have := E2.size; omega
  have E4 := x1 w3 (.cells #[.int .i64 re, .int .i64 ra, .slice p1 nl c1] 24)
  have V4 := vec_made w3 [.int .i64 re, .int .i64 ra, .slice p1 nl c1] 24
  change Vec (w3.alloc (.cells #[.int .i64 re, .int .i64 ra, .slice p1 nl c1] 24)) _ _ at V4
  obtain ⟨w4, hw4⟩ : ∃ w4, w3.alloc (.cells #[.int .i64 re, .int .i64 ra, .slice p1 nl c1] 24) = w4 := ⟨_, rfl⟩
  rw [hw4] at E4 V4
  have X4 := xt X2 (xt e3 E4)
  have U4 := V2.later (xt e3 E4)
  have HW4 : Hid (SsIn w4 (.slice p0 nl c0) L) := HR1.out.own.ssIn.later (xt E2 (xt e3 E4))
  have CE := HEq.out w4 _ _ (HS3.out.ssIn.later E4) HW4.out
  obtain ⟨b1, b2, b3⟩ := Vec.three U4
  obtain ⟨d1, d2, d3⟩ := Vec.three V4
  obtain ⟨B1, hB1⟩ : ∃ B, w1.heap.size = B := ⟨_, rfl⟩
  obtain ⟨B2, hB2⟩ : ∃ B, w3.heap.size = B := ⟨_, rfl⟩
  rw [hB1] at b1 b2 b3 U4 s12 ⊢
  rw [hB2] at d1 d2 d3 V4 HS3
  clear C2 R3 V2
  go_wp2_with fail
  clear b1 b2 b3 d1 d2 d3 hw4
  refine CE.mono ?_
  rintro z w5 ⟨rfl, e5⟩
  have X5 := xt X4 e5
  have V5 := V4.later e5
  have U5 := U4.later e5
  have CM := HMk.out w5 _ _ _ (HS3.out.later (xt E4 e5))
  obtain ⟨d1, d2, d3⟩ := Vec.three V5
  clear CE V4 U4
  go_wp2_with fail
  clear d1 d2 d3
  refine CM.mono ?_
  rintro z w6 ⟨rfl, S6, wb, eb, T6⟩
  have X6 : Ext w w6 := T6.ext w (xt X5 eb) (by have := X2.size; omega)
  have Y6 : Ext w1 w6 := T6.ext w1 (xt E2 (xt e3 (xt E4 (xt e5 eb)))) (by have := E2.size; omega)
  have V6 := T6.vec B2 _ (.inr (Nat.le_refl _)) (V5.later eb)
  have U6 := T6.vec B1 _ (.inl s12) (U5.later eb)
  have HS6 : Hid (SsOwn w6 (w2.heap.size + 1) B2 (.slice p1 nl c1) (marksL 1 L L.length)) := S6
  have HW6 : Hid (SsIn w6 (.slice p0 nl c0) L) := HR1.out.own.ssIn.later Y6
  have CH := HHd.out w6 _ _ _ S6
  obtain ⟨d1, d2, d3⟩ := Vec.three V6
  clear CM T6 V5 U5 S6
  go_wp2_with fail
  clear d1 d2 d3
  refine CH.mono ?_
  rintro z w7 ⟨rfl, e7⟩
  have X7 := xt X6 e7
  have C2 := HIm.out w7 X7
  clear CH
  go_wp2_with fail
  refine C2.mono ?_
  rintro z w8 ⟨v2, rfl, R8, e8⟩
  obtain ⟨p2, c2, hv2, _⟩ := R8.slice
  rw [hnl] at hv2
  subst hv2
  have E9 := x1 w8 (.cells #[.int .i64 re, .int .i64 ra, .slice p2 nl c2] 24)
  have V9 := vec_made w8 [.int .i64 re, .int .i64 ra, .slice p2 nl c2] 24
  change Vec (w8.alloc (.cells #[.int .i64 re, .int .i64 ra, .slice p2 nl c2] 24)) _ _ at V9
  obtain ⟨w9, hw9⟩ : ∃ w9, w8.alloc (.cells #[.int .i64 re, .int .i64 ra, .slice p2 nl c2] 24) = w9 := ⟨_, rfl⟩
  rw [hw9] at E9 V9
  have X9 := xt X7 (xt e8 E9)
  have U9 := U6.later (xt e7 (xt e8 E9))
  have Q9 := V6.later (xt e7 (xt e8 E9))
  have CE := HEq.out w9 _ _ (R8.own.ssIn.later E9) (HW6.out.later (xt e7 (xt e8 E9)))
  obtain ⟨b1, b2, b3⟩ := Vec.three U9
  obtain ⟨d1, d2, d3⟩ := Vec.three V9
  clear C2 R8 V6 U6
  go_wp2_with fail
  clear b1 b2 b3 d1 d2 d3 hw9
  refine CE.mono ?_
  rintro z w10 ⟨rfl, e10⟩
  have CH := HHd.out w10 _ _ _ (HS6.out.later (xt e7 (xt e8 (xt E9 e10))))
  obtain ⟨d1, d2, d3⟩ := Vec.three (Q9.later e10)
  clear CE U9 V9 Q9
  go_wp2_with fail
  clear d1 d2 d3
  refine CH.mono ?_
  rintro z w11 ⟨rfl, e11⟩
  go_wp2_with fail
  go_ret
  exact ⟨rfl, xt X9 (xt e10 e11)⟩

end Go.Proofs.YtkjbeciiecljgaaDoor
