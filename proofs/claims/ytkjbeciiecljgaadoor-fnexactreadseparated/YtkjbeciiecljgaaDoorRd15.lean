/-
  Chapter 14: ReadSeparated, of the program, within the bounds.
-/
import Derived.Test.YtkjbeciiecljgaaDoorRd14
namespace Go.Proofs.YtkjbeciiecljgaaDoor
open Go.RowKit

theorem rowsU_cases (m : UInt8) (t : List UInt8) : ∀ (k i : Nat) (L : List (List (List UInt8))), i ≤ t.length → ((rowsU m t k i L).e = 0 ∧ (rowsU m t k i L).at' = 0) ∨ (((rowsU m t k i L).e = 1 ∨ (rowsU m t k i L).e = 2) ∧ (rowsU m t k i L).rows = [])
  | 0, _, _, _ => .inl ⟨rfl, rfl⟩
  | k + 1, i, L, hi => by
    rcases Nat.lt_or_ge i t.length with h | h
    · rw [rowsU_next h]
      match hr : rowU m t (t.length - i + 1) i [] with
      | .bad e n => exact .inr ⟨(rowU_bad m t _ i [] e n hi (by omega) hr).1, rfl⟩
      | .ok l n => exact rowsU_cases m t k n (L ++ [l]) (rowU_lt m t _ i [] l n hi hr).2.1
    · unfold rowsU
      rw [if_pos h]
      exact .inl ⟨rfl, rfl⟩
theorem RowsX.farB {w : World} {base : Nat} {v : Value} {L : List (List (List UInt8))} (h : RowsX w base v L) {b : Nat} (hb : b < base) (j : Nat) (u : Value) : RowsX (w.setCell ⟨b, j, none⟩ u) base v L := h.sole ((Sole.refl b w).put j u) hb
set_option maxRecDepth 8000 in
set_option maxHeartbeats 2000000 in
theorem sepGoodI (t : List UInt8) (m : UInt8) (a1 a2 a3 : Addr) (w : World) (ht : t.length ≤ 20000) (hmk : isMk [m] = true) (hm : m.toNat < 128) (hb : 9 ≤ w.heap.size) (hs : Sen w a1 a2 a3) (hg : ErrT w) :
    Calls Tryd.prog 5 #[sV t, sV [m]] w fun e w' => ∃ v, e = .returned (.agg #[.int .i64 (rowsU m t (t.length + 1) 0 []).e, .int .i64 (rowsU m t (t.length + 1) 0 []).at', v]) ∧ RowsX w' (w.heap.size + 1) v (rowsU m t (t.length + 1) 0 []).rows ∧ Ext w w' := by
  have A0 := vec_made w [.int .i64 0, .int .i64 0, .slice none 0 0] 24
  have X0 := x1 w (.cells #[.int .i64 0, .int .i64 0, .slice none 0 0] 24)
  have Z0 : (w.alloc (.cells #[.int .i64 0, .int .i64 0, .slice none 0 0] 24)).heap.size = w.heap.size + 1 := by simp
  change Vec (w.alloc (.cells #[.int .i64 0, .int .i64 0, .slice none 0 0] 24)) _ _ at A0
  have C1 := readGood t m _ _ _ _ (w.alloc (.cells #[.int .i64 0, .int .i64 0, .slice none 0 0] 24)) ht hmk hm (hs.later X0).flt (by rw [Z0]; omega)
  have HC := rowsU_cases m t (t.length + 1) 0 [] (by omega)
  have HS : Hid (Sen (w.alloc (.cells #[.int .i64 0, .int .i64 0, .slice none 0 0] 24)) a1 a2 a3 ∧ ErrT (w.alloc (.cells #[.int .i64 0, .int .i64 0, .slice none 0 0] 24)) ∧ Ext w (w.alloc (.cells #[.int .i64 0, .int .i64 0, .slice none 0 0] 24)) ∧ Vec (w.alloc (.cells #[.int .i64 0, .int .i64 0, .slice none 0 0] 24)) w.heap.size [.int .i64 0, .int .i64 0, .slice none 0 0] ∧ (w.alloc (.cells #[.int .i64 0, .int .i64 0, .slice none 0 0] 24)).heap.size = w.heap.size + 1) := ⟨hs.later X0, cell_later X0 hg, X0, A0, Z0⟩
  obtain ⟨⟨e, at', L⟩, hR⟩ : ∃ R, rowsU m t (t.length + 1) 0 [] = R := ⟨_, rfl⟩
  rw [hR] at C1 HC ⊢
  dsimp only at HC C1 ⊢
  obtain ⟨mk, hmk2⟩ : ∃ mk : Value, sV [m] = mk := ⟨_, rfl⟩
  rw [hmk2] at C1 ⊢
  clear hs hg X0 A0 Z0 hR ht hmk hm hb hmk2
  rcases HC with ⟨rfl, rfl⟩ | ⟨rfl | rfl, rfl⟩
  · change Calls Tryd.prog 11 #[sV t, mk] (w.alloc (.cells #[.int .i64 0, .int .i64 0, .slice none 0 0] 24)) fun e' w' => ∃ v : Value, e' = .returned (.tuple #[v, .nilIface]) ∧ RowsX w' ((w.alloc (.cells #[.int .i64 0, .int .i64 0, .slice none 0 0] 24)).heap.size + 1) v L ∧ Ext (w.alloc (.cells #[.int .i64 0, .int .i64 0, .slice none 0 0] 24)) w' at C1
    go_enter Tryd.func5, Tryd.ntmps5
    go_wp2_with fail
    refine C1.mono ?_
    rintro _ w1 ⟨v, rfl, RX, e1⟩
    obtain ⟨pv, cv, hv, hcv⟩ := RX.slice
    subst hv
    have RX2 : RowsX w1 (w.heap.size + 1) (.slice pv L.length cv) L := by
      obtain ⟨vs, bs, q1, q2, q3, q4, q5⟩ := RX
      have hz := HS.out.2.2.2.2
      exact ⟨vs, bs, own_base q1 (by omega), q2, q3, fun i c hc => ⟨by have := (q4 i c hc).1; omega, (q4 i c hc).2⟩, q5⟩
    have A3 := HS.out.2.2.2.1.later e1
    have HX : Hid (Ext w (((w1.setCell ⟨w.heap.size, 0, none⟩ (.int .i64 0)).setCell ⟨w.heap.size, 1, none⟩ (.int .i64 0)).setCell ⟨w.heap.size, 2, none⟩ (.slice pv L.length cv)) ∧ Box3 (((w1.setCell ⟨w.heap.size, 0, none⟩ (.int .i64 0)).setCell ⟨w.heap.size, 1, none⟩ (.int .i64 0)).setCell ⟨w.heap.size, 2, none⟩ (.slice pv L.length cv)) w.heap.size (.int .i64 0) (.int .i64 0) (.slice pv L.length cv)) :=
        ⟨xset (xset (xset (xt HS.out.2.2.1 e1) (p := ⟨w.heap.size, 0, none⟩) (Nat.le_refl _) _) (p := ⟨w.heap.size, 1, none⟩) (Nat.le_refl _) _) (p := ⟨w.heap.size, 2, none⟩) (Nat.le_refl _) _,
          box3_puts ⟨⟨(A3 0 _ rfl).1, (A3 1 _ rfl).1, (A3 2 _ rfl).1⟩, (A3 0 _ rfl).2, (A3 1 _ rfl).2, (A3 2 _ rfl).2⟩ _ _ _⟩
    have HRX : Hid (RowsX (((w1.setCell ⟨w.heap.size, 0, none⟩ (.int .i64 0)).setCell ⟨w.heap.size, 1, none⟩ (.int .i64 0)).setCell ⟨w.heap.size, 2, none⟩ (.slice pv L.length cv)) (w.heap.size + 1) (.slice pv L.length cv) L) := ((RX2.farB (Nat.lt_succ_self _) 0 _).farB (Nat.lt_succ_self _) 1 _).farB (Nat.lt_succ_self _) 2 _
    obtain ⟨c0, f0⟩ := A3 0 _ rfl
    obtain ⟨c1, f1⟩ := A3 1 _ rfl
    obtain ⟨c2, f2⟩ := A3 2 _ rfl
    clear C1 e1 A3 RX RX2
    go_wp2_with fail
    obtain ⟨XE, ⟨d0, d1, d2⟩, _⟩ := HX.out
    exact bodyPost_ret (v := .agg #[.int .i64 0, .int .i64 0, .slice pv L.length cv]) (by simp [results, Tryd.results5, go_sem, d0, d1, d2]) rfl ⟨_, rfl, HRX.out, XE⟩
  · change Calls Tryd.prog 11 #[sV t, mk] (w.alloc (.cells #[.int .i64 0, .int .i64 0, .slice none 0 0] 24)) fun e' w' => ∃ v : Value, e' = .returned (.tuple #[.slice none 0 0, .iface 47 (.agg #[.iface 92 (.pointer (some a1)), .int .i64 (at' : Int)])]) ∧ RowsX w' ((w.alloc (.cells #[.int .i64 0, .int .i64 0, .slice none 0 0] 24)).heap.size + 1) v [] ∧ Ext (w.alloc (.cells #[.int .i64 0, .int .i64 0, .slice none 0 0] 24)) w' at C1
    go_enter Tryd.func5, Tryd.ntmps5
    go_wp2_with fail
    refine C1.mono ?_
    rintro _ w1 ⟨_, rfl, -, e1⟩
    have C2 := errShort14 a1 a2 a3 (at' : Int) w1 (HS.out.1.later e1)
    clear C1
    go_wp2_with fail
    refine C2.mono ?_
    rintro _ w2 ⟨rfl, e2⟩
    have C3 := placeHit 92 (.pointer (some a1)) (at' : Int) w2 (cell_later (xt e1 e2) HS.out.2.1)
    clear C2
    go_wp2_with fail
    refine C3.mono ?_
    rintro _ w3 ⟨rfl, e3⟩
    have A3 := HS.out.2.2.2.1.later (xt (xt e1 e2) e3)
    have HX : Hid (Ext w (((w3.setCell ⟨w.heap.size, 0, none⟩ (.int .i64 1)).setCell ⟨w.heap.size, 1, none⟩ (.int .i64 (at' : Int))).setCell ⟨w.heap.size, 2, none⟩ (.slice none 0 0)) ∧ Box3 (((w3.setCell ⟨w.heap.size, 0, none⟩ (.int .i64 1)).setCell ⟨w.heap.size, 1, none⟩ (.int .i64 (at' : Int))).setCell ⟨w.heap.size, 2, none⟩ (.slice none 0 0)) w.heap.size (.int .i64 1) (.int .i64 (at' : Int)) (.slice none 0 0)) :=
        ⟨xset (xset (xset (xt HS.out.2.2.1 (xt (xt e1 e2) e3)) (p := ⟨w.heap.size, 0, none⟩) (Nat.le_refl _) _) (p := ⟨w.heap.size, 1, none⟩) (Nat.le_refl _) _) (p := ⟨w.heap.size, 2, none⟩) (Nat.le_refl _) _,
          box3_puts ⟨⟨(A3 0 _ rfl).1, (A3 1 _ rfl).1, (A3 2 _ rfl).1⟩, (A3 0 _ rfl).2, (A3 1 _ rfl).2, (A3 2 _ rfl).2⟩ _ _ _⟩
    obtain ⟨c0, f0⟩ := A3 0 _ rfl
    obtain ⟨c1, f1⟩ := A3 1 _ rfl
    obtain ⟨c2, f2⟩ := A3 2 _ rfl
    clear C3 e1 e2 e3 A3
    go_wp2_with fail
    obtain ⟨XE, ⟨d0, d1, d2⟩, _⟩ := HX.out
    exact bodyPost_ret (v := .agg #[.int .i64 1, .int .i64 (at' : Int), .slice none 0 0]) (by simp [results, Tryd.results5, go_sem, d0, d1, d2]) rfl ⟨_, rfl, RowsX.nil _ _, XE⟩
  · change Calls Tryd.prog 11 #[sV t, mk] (w.alloc (.cells #[.int .i64 0, .int .i64 0, .slice none 0 0] 24)) fun e' w' => ∃ v : Value, e' = .returned (.tuple #[.slice none 0 0, .iface 47 (.agg #[.iface 92 (.pointer (some a2)), .int .i64 (at' : Int)])]) ∧ RowsX w' ((w.alloc (.cells #[.int .i64 0, .int .i64 0, .slice none 0 0] 24)).heap.size + 1) v [] ∧ Ext (w.alloc (.cells #[.int .i64 0, .int .i64 0, .slice none 0 0] 24)) w' at C1
    go_enter Tryd.func5, Tryd.ntmps5
    go_wp2_with fail
    refine C1.mono ?_
    rintro _ w1 ⟨_, rfl, -, e1⟩
    have C2 := errCode14 a1 a2 a3 (at' : Int) w1 (HS.out.1.later e1)
    clear C1
    go_wp2_with fail
    refine C2.mono ?_
    rintro _ w2 ⟨rfl, e2⟩
    have C3 := placeHit 92 (.pointer (some a2)) (at' : Int) w2 (cell_later (xt e1 e2) HS.out.2.1)
    clear C2
    go_wp2_with fail
    refine C3.mono ?_
    rintro _ w3 ⟨rfl, e3⟩
    have A3 := HS.out.2.2.2.1.later (xt (xt e1 e2) e3)
    have HX : Hid (Ext w (((w3.setCell ⟨w.heap.size, 0, none⟩ (.int .i64 2)).setCell ⟨w.heap.size, 1, none⟩ (.int .i64 (at' : Int))).setCell ⟨w.heap.size, 2, none⟩ (.slice none 0 0)) ∧ Box3 (((w3.setCell ⟨w.heap.size, 0, none⟩ (.int .i64 2)).setCell ⟨w.heap.size, 1, none⟩ (.int .i64 (at' : Int))).setCell ⟨w.heap.size, 2, none⟩ (.slice none 0 0)) w.heap.size (.int .i64 2) (.int .i64 (at' : Int)) (.slice none 0 0)) :=
        ⟨xset (xset (xset (xt HS.out.2.2.1 (xt (xt e1 e2) e3)) (p := ⟨w.heap.size, 0, none⟩) (Nat.le_refl _) _) (p := ⟨w.heap.size, 1, none⟩) (Nat.le_refl _) _) (p := ⟨w.heap.size, 2, none⟩) (Nat.le_refl _) _,
          box3_puts ⟨⟨(A3 0 _ rfl).1, (A3 1 _ rfl).1, (A3 2 _ rfl).1⟩, (A3 0 _ rfl).2, (A3 1 _ rfl).2, (A3 2 _ rfl).2⟩ _ _ _⟩
    obtain ⟨c0, f0⟩ := A3 0 _ rfl
    obtain ⟨c1, f1⟩ := A3 1 _ rfl
    obtain ⟨c2, f2⟩ := A3 2 _ rfl
    clear C3 e1 e2 e3 A3
    go_wp2_with fail
    obtain ⟨XE, ⟨d0, d1, d2⟩, _⟩ := HX.out
    exact bodyPost_ret (v := .agg #[.int .i64 2, .int .i64 (at' : Int), .slice none 0 0]) (by simp [results, Tryd.results5, go_sem, d0, d1, d2]) rfl ⟨_, rfl, RowsX.nil _ _, XE⟩
end Go.Proofs.YtkjbeciiecljgaaDoor
