/-
  The draws of calendars and dates.
-/
import Derived.Test.YtmcmohooodpfeaaGreatDoorCur
namespace Go.Proofs.YtmcmohooodpfeaaGreatDoor
open Go.RowKit

set_option maxHeartbeats 400000 in
theorem calC (b base K : Nat) (w : World) (h : Cur w b base K) (hK : K ≤ 10000000) :
    Calls Tryz.prog 20 #[.pointer (some ⟨b, 0, none⟩)] w fun e w' => ∃ v : Int, e = .returned (.int .i64 v) ∧ (0 ≤ v ∧ v ≤ 5) ∧ Cur w' b base (K + 4) ∧ Only b w w' := by
  go_enter Tryz.func20, Tryz.ntmps20
  go_wp2_with fail
  refine (oneC b base K 30 w h (by omega) (by omega) (by omega)).mono ?_
  rintro e w1 ⟨v, rfl, c1, o1⟩
  cases v
  · go_wp2_with fail
    refine (pickC b base (K + 2) 2 w1 c1 (by omega) (by omega) (by omega)).mono ?_
    rintro e w2 ⟨x, rfl, ⟨x0, x1⟩, c2, o2⟩
    go_wp2_with fail
    go_ret
    exact ⟨1 + x, by first | rfl | go_num, by omega, c2, o1.trans o2⟩
  · go_wp2_with fail
    refine (pickC b base (K + 2) 5 w1 c1 (by omega) (by omega) (by omega)).mono ?_
    rintro e w2 ⟨x, rfl, ⟨x0, x1⟩, c2, o2⟩
    go_wp2_with fail
    go_ret
    exact ⟨x, rfl, by omega, c2, o1.trans o2⟩

theorem Only.box {b k : Nat} {w w' : World} {v0 v1 v2 : Value} (h : Only b w w') (hk : k ≠ b) (B : Box3 w k v0 v1 v2) : Box3 w' k v0 v1 v2 := by
  have hl : k < w.heap.size := World.block_lt_of_cell? _ _ B.1.1
  have e := h.block k hk hl
  obtain ⟨⟨q0, q1, q2⟩, f0, f1, f2⟩ := B
  refine ⟨⟨h.cell hk q0, h.cell hk q1, h.cell hk q2⟩, ?_, ?_, ?_⟩
  · unfold World.frozen? at f0 ⊢; rw [e]; exact f0
  · unfold World.frozen? at f1 ⊢; rw [e]; exact f1
  · unfold World.frozen? at f2 ⊢; rw [e]; exact f2

theorem Only.setNew {b g i : Nat} {w w' : World} (h : Only b w w') (hg : w.heap.size ≤ g) (u : Value) : Only b w (w'.setCell ⟨g, i, none⟩ u) := by
  refine ⟨h.os, h.tape, h.output, ?_, fun k hk hl => ?_⟩
  · have := h.size
    simpa [World.setCell] using this
  · rw [Below.heap_setCell _ _ _ _ (by show k ≠ g; omega)]
    exact h.block k hk hl
theorem addr_offc {b g i j : Nat} (h : b ≠ g) : (⟨g, i, none⟩ : Addr) ≠ ⟨b, j, none⟩ := fun e => h (by cases e; rfl)
theorem Box3.farc {w : World} {b g i : Nat} {v0 v1 v2 : Value} (h : Box3 w b v0 v1 v2) (hb : b ≠ g) (u : Value) : Box3 (w.setCell ⟨g, i, none⟩ u) b v0 v1 v2 := by
  obtain ⟨⟨q0, q1, q2⟩, f0, f1, f2⟩ := h
  refine ⟨⟨?_, ?_, ?_⟩, ?_, ?_, ?_⟩
  · rw [World.cell?_setCell_other _ _ _ _ (addr_offc hb)]; exact q0
  · rw [World.cell?_setCell_other _ _ _ _ (addr_offc hb)]; exact q1
  · rw [World.cell?_setCell_other _ _ _ _ (addr_offc hb)]; exact q2
  · simp [World.frozen?_setCell, f0]
  · simp [World.frozen?_setCell, f1]
  · simp [World.frozen?_setCell, f2]
theorem Box3.put0c {w : World} {b : Nat} {v0 v1 v2 : Value} (h : Box3 w b v0 v1 v2) (u : Value) : Box3 (w.setCell ⟨b, 0, none⟩ u) b u v1 v2 := by
  obtain ⟨⟨q0, q1, q2⟩, f0, f1, f2⟩ := h
  refine ⟨⟨World.cell?_setCell_same _ _ _ q0, ?_, ?_⟩, ?_, ?_, ?_⟩
  · rw [World.cell?_setCell_other _ _ _ _ (addr_nearc (by decide))]; exact q1
  · rw [World.cell?_setCell_other _ _ _ _ (addr_nearc (by decide))]; exact q2
  · simp [World.frozen?_setCell, f0]
  · simp [World.frozen?_setCell, f1]
  · simp [World.frozen?_setCell, f2]
theorem Cur.far {w : World} {b base K g i : Nat} (h : Cur w b base K) (hb : b ≠ g) (hg : base ≤ g) (u : Value) : Cur (w.setCell ⟨g, i, none⟩ u) b base K := by
  obtain ⟨v, k, a, s, B, hc, r⟩ := h
  exact ⟨v, k, a, s, B.farc hb u, hc.only (b := g) ((Only.refl g w).set u) hg, r⟩

/-- The end of a drawn date: the box is handed back. -/
def DateEnd (w : World) (b base K R D : Nat) (w' : World) (y m d : Int) : Prop := Cur w' b base K ∧ Only b w w' ∧ Box3 w' R (.int .i64 0) (.int .i64 0) (.int .i64 0) ∧ Box3 w' D (.int .i64 y) (.int .i64 m) (.int .i64 d)

set_option maxRecDepth 8000 in
set_option maxHeartbeats 4000000 in
theorem dateC (b base K : Nat) (w : World) (h : Cur w b base K) (hK : K ≤ 1000000) :
    Calls Tryz.prog 38 #[.pointer (some ⟨b, 0, none⟩)] w fun e w' => ∃ y m d : Int, e = .returned (.agg #[.int .i64 y, .int .i64 m, .int .i64 d]) ∧ Cur w' b base (K + 12) ∧ Only b w w' := by
  have bl := h.lt
  have bb : base ≤ b := by obtain ⟨_, _, _, _, _, _, _, _, _, _, _, hb⟩ := h; exact hb
  have X0 := x1 w (.cells #[.int .i64 0, .int .i64 0, .int .i64 0] 26)
  have BR := Box3.made w (.int .i64 0) (.int .i64 0) (.int .i64 0) 26
  have C0 := h.ext X0
  go_enter Tryz.func38, Tryz.ntmps38
  go_wp2_with fail
  refine (pickC b base K 140 _ C0 (by omega) (by omega) (by omega)).mono ?_
  rintro e w1 ⟨p, rfl, ⟨p0, p1⟩, c1, o1⟩
  go_wp2_with fail
  refine (pickC b base (K + 2) 12 w1 c1 (by omega) (by omega) (by omega)).mono ?_
  rintro e w2 ⟨q, rfl, ⟨q0, q1⟩, c2, o2⟩
  go_wp2_with fail
  refine (pickC b base (K + 4) 31 w2 c2 (by omega) (by omega) (by omega)).mono ?_
  rintro e w3 ⟨r, rfl, ⟨r0, r1⟩, c3, o3⟩
  have O3 : Only b w w3 := (Only.of_ext X0).trans ((o1.trans o2).trans o3)
  have B3 := ((o1.trans o2).trans o3).box (k := w.heap.size) (by omega) BR
  have s3 := B3
  have lt3 : w.heap.size < w3.heap.size := World.block_lt_of_cell? _ _ B3.1.1
  have lb3 := c3.lt
  have Y3 := x1 w3 (.cells #[.int .i64 (1890 + p), .int .i64 (1 + q), .int .i64 (1 + r)] 26)
  have C4 := c3.ext Y3
  have B4 := B3.later Y3
  have D4 := Box3.made w3 (.int .i64 (1890 + p)) (.int .i64 (1 + q)) (.int .i64 (1 + r)) 26
  have O4 : Only b w (w3.alloc (.cells #[.int .i64 (1890 + p), .int .i64 (1 + q), .int .i64 (1 + r)] 26)) := O3.trans (Only.of_ext Y3)
  clear c1 c2 c3 o1 o2 o3 O3 B3 s3 BR C0 X0 h Y3
  go_wp2_with fail
  refine (pickC b base (K + 6) 7 _ C4 (by omega) (by omega) (by omega)).mono ?_
  rintro e w4 ⟨x, rfl, ⟨x0, x9⟩, c5, o5⟩
  have B5 := o5.box (k := w.heap.size) (by omega) B4
  have D5 := o5.box (k := w3.heap.size) (by omega) D4
  have O5 := O4.trans o5
  clear C4 B4 D4 O4 o5
  have FIN : Hid (∀ (w5 : World) (y m d : Int), Cur w5 b base (K + 12) → Only b w w5 → Box3 w5 w.heap.size (.int .i64 0) (.int .i64 0) (.int .i64 0) → Cur (((w5.setCell ⟨w.heap.size, 0, none⟩ (.int .i64 y)).setCell ⟨w.heap.size, 1, none⟩ (.int .i64 m)).setCell ⟨w.heap.size, 2, none⟩ (.int .i64 d)) b base (K + 12) ∧ Only b w (((w5.setCell ⟨w.heap.size, 0, none⟩ (.int .i64 y)).setCell ⟨w.heap.size, 1, none⟩ (.int .i64 m)).setCell ⟨w.heap.size, 2, none⟩ (.int .i64 d))) := fun w5 y m d c o _ =>
    ⟨((c.far (by omega) (by omega) _).far (by omega) (by omega) _).far (by omega) (by omega) _, ((o.setNew (Nat.le_refl _) _).setNew (Nat.le_refl _) _).setNew (Nat.le_refl _) _⟩
  have nRD : (w.heap.size = w3.heap.size) = False := eq_false (by omega)
  have nDR : (w3.heap.size = w.heap.size) = False := eq_false (by omega)
  have gD : w.heap.size ≤ w3.heap.size := by omega
  by_cases h0 : x = 0
  · subst h0
    go_wp2_with fail
    refine (pickC b base (K + 8) 16000 w4 c5 (by omega) (by omega) (by omega)).mono ?_
    rintro e w5 ⟨u, rfl, ⟨u0, u1⟩, c6, o6⟩
    have B6 := o6.box (k := w.heap.size) (by omega) B5
    have D6 := o6.box (k := w3.heap.size) (by omega) D5
    have O6 := O5.trans o6
    have c7 : Cur (w5.setCell ⟨w3.heap.size, 0, none⟩ (.int .i64 (u - 5500))) b base (K + 12) := (c6.far (by omega) (by omega) _).more (by omega)
    have O7 : Only b w (w5.setCell ⟨w3.heap.size, 0, none⟩ (.int .i64 (u - 5500))) := O6.setNew gD _
    have B7 : Box3 (w5.setCell ⟨w3.heap.size, 0, none⟩ (.int .i64 (u - 5500))) w.heap.size (.int .i64 0) (.int .i64 0) (.int .i64 0) := B6.farc (by omega) _
    obtain ⟨⟨i0, i1, i2⟩, j0, j1, j2⟩ := D6
    obtain ⟨⟨a0, a1, a2⟩, e0, e1, e2⟩ := B6
    clear B5 D5 c5 c6 o6 O5 O6
    go_wp2_with fail
    exact bodyPost_ret (v := .agg #[.int .i64 (u - 5500), .int .i64 (1 + q), .int .i64 (1 + r)]) (by simp [results, Tryz.results38, go_sem, a0, a1, a2]) rfl ⟨u - 5500, 1 + q, 1 + r, rfl, (FIN.out (w5.setCell ⟨w3.heap.size, 0, none⟩ (.int .i64 (u - 5500))) (u - 5500) (1 + q) (1 + r) c7 O7 B7).1, (FIN.out (w5.setCell ⟨w3.heap.size, 0, none⟩ (.int .i64 (u - 5500))) (u - 5500) (1 + q) (1 + r) c7 O7 B7).2⟩
  · have g0 : (x == 0) = false := by simpa using h0
    by_cases h1 : x = 1
    · subst h1
      go_wp2_with fail
      refine (pickC b base (K + 8) 14 w4 c5 (by omega) (by omega) (by omega)).mono ?_
      rintro e w5 ⟨u, rfl, ⟨u0, u1⟩, c6, o6⟩
      have B6 := o6.box (k := w.heap.size) (by omega) B5
      have D6 := o6.box (k := w3.heap.size) (by omega) D5
      have O6 := O5.trans o6
      have c7 : Cur (w5.setCell ⟨w3.heap.size, 1, none⟩ (.int .i64 u)) b base (K + 12) := (c6.far (by omega) (by omega) _).more (by omega)
      have O7 : Only b w (w5.setCell ⟨w3.heap.size, 1, none⟩ (.int .i64 u)) := O6.setNew gD _
      have B7 : Box3 (w5.setCell ⟨w3.heap.size, 1, none⟩ (.int .i64 u)) w.heap.size (.int .i64 0) (.int .i64 0) (.int .i64 0) := B6.farc (by omega) _
      obtain ⟨⟨i0, i1, i2⟩, j0, j1, j2⟩ := D6
      obtain ⟨⟨a0, a1, a2⟩, e0, e1, e2⟩ := B6
      clear B5 D5 c5 c6 o6 O5 O6
      go_wp2_with fail
      exact bodyPost_ret (v := .agg #[.int .i64 (1890 + p), .int .i64 (u), .int .i64 (1 + r)]) (by simp [results, Tryz.results38, go_sem, a0, a1, a2]) rfl ⟨1890 + p, u, 1 + r, rfl, (FIN.out (w5.setCell ⟨w3.heap.size, 1, none⟩ (.int .i64 u)) (1890 + p) (u) (1 + r) c7 O7 B7).1, (FIN.out (w5.setCell ⟨w3.heap.size, 1, none⟩ (.int .i64 u)) (1890 + p) (u) (1 + r) c7 O7 B7).2⟩
    · have g1 : (x == 1) = false := by simpa using h1
      by_cases h2 : x = 2
      · subst h2
        go_wp2_with fail
        refine (pickC b base (K + 8) 30 w4 c5 (by omega) (by omega) (by omega)).mono ?_
        rintro e w5 ⟨u, rfl, ⟨u0, u1⟩, c6, o6⟩
        have B6 := o6.box (k := w.heap.size) (by omega) B5
        have D6 := o6.box (k := w3.heap.size) (by omega) D5
        have O6 := O5.trans o6
        have c7 : Cur ((w5.setCell ⟨w3.heap.size, 0, none⟩ (.int .i64 (100 * (u - 4)))).setCell ⟨w3.heap.size, 1, none⟩ (.int .i64 2)) b base (K + 10) := (c6.far (by omega) (by omega) _).far (by omega) (by omega) _
        have O7 : Only b w ((w5.setCell ⟨w3.heap.size, 0, none⟩ (.int .i64 (100 * (u - 4)))).setCell ⟨w3.heap.size, 1, none⟩ (.int .i64 2)) := (O6.setNew gD _).setNew gD _
        have B7 : Box3 ((w5.setCell ⟨w3.heap.size, 0, none⟩ (.int .i64 (100 * (u - 4)))).setCell ⟨w3.heap.size, 1, none⟩ (.int .i64 2)) w.heap.size (.int .i64 0) (.int .i64 0) (.int .i64 0) := (B6.farc (by omega) _).farc (by omega) _
        have D7 : Box3 ((w5.setCell ⟨w3.heap.size, 0, none⟩ (.int .i64 (100 * (u - 4)))).setCell ⟨w3.heap.size, 1, none⟩ (.int .i64 2)) w3.heap.size (.int .i64 (100 * (u - 4))) (.int .i64 2) (.int .i64 (1 + r)) := (D6.put0c _).put1c _
        obtain ⟨⟨i0, i1, i2⟩, j0, j1, j2⟩ := D6
        clear B5 D5 B6 c5 c6 o6 O5 O6
        go_wp2_with fail
        refine (pickC b base (K + 10) 3 _ c7 (by omega) (by omega) (by omega)).mono ?_
        rintro e w6 ⟨t, rfl, ⟨t0, t1⟩, c8, o8⟩
        have B8 := o8.box (k := w.heap.size) (by omega) B7
        have D8 := o8.box (k := w3.heap.size) (by omega) D7
        have O8 := O7.trans o8
        have c9 : Cur (w6.setCell ⟨w3.heap.size, 2, none⟩ (.int .i64 (28 + t))) b base (K + 12) := c8.far (by omega) (by omega) _
        have O9 : Only b w (w6.setCell ⟨w3.heap.size, 2, none⟩ (.int .i64 (28 + t))) := O8.setNew gD _
        have B9 : Box3 (w6.setCell ⟨w3.heap.size, 2, none⟩ (.int .i64 (28 + t))) w.heap.size (.int .i64 0) (.int .i64 0) (.int .i64 0) := B8.farc (by omega) _
        clear i0 i1 i2 j0 j1 j2
        obtain ⟨⟨i0, i1, i2⟩, j0, j1, j2⟩ := D8
        obtain ⟨⟨a0, a1, a2⟩, e0, e1, e2⟩ := B8
        clear B7 D7 c7 c8 o8 O7 O8
        go_wp2_with fail
        exact bodyPost_ret (v := .agg #[.int .i64 (100 * (u - 4)), .int .i64 (2), .int .i64 (28 + t)]) (by simp [results, Tryz.results38, go_sem, a0, a1, a2]) rfl ⟨100 * (u - 4), 2, 28 + t, rfl, (FIN.out (w6.setCell ⟨w3.heap.size, 2, none⟩ (.int .i64 (28 + t))) (100 * (u - 4)) (2) (28 + t) c9 O9 B9).1, (FIN.out (w6.setCell ⟨w3.heap.size, 2, none⟩ (.int .i64 (28 + t))) (100 * (u - 4)) (2) (28 + t) c9 O9 B9).2⟩
      · have g2 : (x == 2) = false := by simpa using h2
        have c7 := c5.more (K' := K + 12) (by omega)
        have B7 := B5
        obtain ⟨⟨i0, i1, i2⟩, j0, j1, j2⟩ := D5
        obtain ⟨⟨a0, a1, a2⟩, e0, e1, e2⟩ := B5
        go_wp2_with fail
        exact bodyPost_ret (v := .agg #[.int .i64 (1890 + p), .int .i64 (1 + q), .int .i64 (1 + r)]) (by simp [results, Tryz.results38, go_sem, a0, a1, a2]) rfl ⟨1890 + p, 1 + q, 1 + r, rfl, (FIN.out w4 (1890 + p) (1 + q) (1 + r) c7 O5 B7).1, (FIN.out w4 (1890 + p) (1 + q) (1 + r) c7 O5 B7).2⟩

/-- The reader as it is made. -/
theorem Cur.made (w : World) (v : Value) (n base : Nat) (t : TypeId) (hc : CodeIn w base v n) (hn : n ≤ 1048576) (hb : base ≤ w.heap.size) : Cur (w.alloc (.cells #[v, .int .i64 0, .int .u64 0] t)) w.heap.size base 0 :=
  ⟨v, n, 0, 0, Box3.made w _ _ _ _, hc.only (b := w.heap.size) (Only.of_ext (x1 _ _)) hb, hn, by omega, by omega, by omega, by omega, hb⟩

set_option maxRecDepth 8000 in
set_option maxHeartbeats 1000000 in
theorem drawDateOf (v : Value) (n : Nat) (w : World) (hc : CodeIn w w.heap.size v n) (hn : n ≤ 1048576) :
    Calls Tryz.prog 5 #[v] w fun e w' => ∃ c d : Int, e = .returned (.tuple #[.int .i64 c, .int .i64 d]) ∧ (0 ≤ c ∧ c ≤ 5) ∧ (-10000000 ≤ d ∧ d ≤ 10000000) ∧ Ext w w' := by
  have C0 := Cur.made w v n w.heap.size 43 hc hn (Nat.le_refl _)
  have hv : ∃ p cap, v = .slice p n cap := by
    rcases hc with ⟨⟨p, cap, h⟩, rfl⟩ | ⟨pb, po, cap, _, h, _⟩
    · exact ⟨p, cap, h⟩
    · exact ⟨_, cap, h⟩
  clear hc
  obtain ⟨p, cap, rfl⟩ := hv
  all_goals
    go_enter Tryz.func5, Tryz.ntmps5
    go_wp2_with fail
    refine (calC w.heap.size w.heap.size 0 _ C0 (by omega)).mono ?_
    rintro e w1 ⟨c, rfl, hc1, c1, o1⟩
    go_wp2_with fail
    refine (dayC w.heap.size w.heap.size _ w1 c1 (by omega)).mono ?_
    rintro e w2 ⟨d, rfl, hd1, c2, o2⟩
    go_wp2_with fail
    exact bodyPost_ret (v := .tuple #[.int .i64 c, .int .i64 d]) (by simp [results, Tryz.results5, go_sem]) rfl ⟨c, d, rfl, hc1, hd1, Only.ext (x1 _ _) (o1.trans o2) (Nat.le_refl _)⟩

set_option maxRecDepth 8000 in
set_option maxHeartbeats 2000000 in
theorem drawAdd (v : Value) (n : Nat) (w : World) (hc : CodeIn w w.heap.size v n) (hn : n ≤ 1048576) :
    Calls Tryz.prog 16 #[v] w fun e w' => ∃ c y m d k : Int, e = .returned (.tuple #[.int .i64 c, .agg #[.int .i64 y, .int .i64 m, .int .i64 d], .int .i64 k]) ∧ (-10000000 ≤ k ∧ k ≤ 10000000) ∧ Ext w w' := by
  have X0 := x1 w (.cells #[.int .i64 0, .int .i64 0, .int .i64 0] 26)
  have BR := Box3.made w (.int .i64 0) (.int .i64 0) (.int .i64 0) 26
  have hc1 : CodeIn (w.alloc (.cells #[.int .i64 0, .int .i64 0, .int .i64 0] 26)) w.heap.size v n := hc.only (b := w.heap.size) (Only.of_ext X0) (Nat.le_refl _)
  have C0 := Cur.made (w.alloc (.cells #[.int .i64 0, .int .i64 0, .int .i64 0] 26)) v n w.heap.size 43 hc1 hn (by rw [World.size_alloc]; omega)
  have X1 := x1 (w.alloc (.cells #[.int .i64 0, .int .i64 0, .int .i64 0] 26)) (.cells #[v, .int .i64 0, .int .u64 0] 43)
  have BR1 := BR.later X1
  rw [World.size_alloc] at C0
  have hv : ∃ p cap, v = .slice p n cap := by
    rcases hc with ⟨⟨p, cap, h⟩, rfl⟩ | ⟨pb, po, cap, _, h, _⟩
    · exact ⟨p, cap, h⟩
    · exact ⟨_, cap, h⟩
  have XW := xt X0 X1
  clear hc hc1 BR X0 X1
  obtain ⟨p, cap, rfl⟩ := hv
  all_goals
    go_enter Tryz.func16, Tryz.ntmps16
    go_wp2_with fail
    refine (calC (w.heap.size + 1) w.heap.size 0 _ C0 (by omega)).mono ?_
    rintro e w1 ⟨c, rfl, hc1, c1, o1⟩
    go_wp2_with fail
    refine (dateC (w.heap.size + 1) w.heap.size _ w1 c1 (by omega)).mono ?_
    rintro e w2 ⟨y, m, d, rfl, c2, o2⟩
    have B2 := (o1.trans o2).box (k := w.heap.size) (by omega) BR1
    have Y2 := x1 w2 (.cells #[.int .i64 y, .int .i64 m, .int .i64 d] 26)
    have c3 := c2.ext Y2
    have B3 := B2.later Y2
    have D3 := Box3.made w2 (.int .i64 y) (.int .i64 m) (.int .i64 d) 26
    have lt2 := c2.lt
    have O3 := (o1.trans o2).trans (Only.of_ext Y2)
    go_wp2_with fail
    refine (pickC (w.heap.size + 1) w.heap.size _ 60 _ c3 (by omega) (by omega) (by omega)).mono ?_
    rintro e w3 ⟨u, rfl, ⟨u0, u1⟩, c4, o4⟩
    go_wp2_with fail
    refine (oneC (w.heap.size + 1) w.heap.size _ 5 w3 c4 (by omega) (by omega) (by omega)).mono ?_
    rintro e w4 ⟨bo, rfl, c5, o5⟩
    have O5 := (O3.trans o4).trans o5
    have B5 := (o4.trans o5).box (k := w.heap.size) (by omega) B3
    have D5 := (o4.trans o5).box (k := w2.heap.size) (by omega) D3
    clear B2 B3 D3 c1 c2 c3 c4 o1 o2 o4 o5 O3 Y2
    cases bo
    · obtain ⟨⟨i0, i1, i2⟩, j0, j1, j2⟩ := D5
      obtain ⟨⟨a0, a1, a2⟩, e0, e1, e2⟩ := B5
      have nRD : (w.heap.size = w2.heap.size) = False := eq_false (by omega)
      have nDR : (w2.heap.size = w.heap.size) = False := eq_false (by omega)
      go_wp2_with fail
      go_region_with (fail)
      all_goals go_wp2_with fail
      all_goals exact bodyPost_ret (v := .tuple #[.int .i64 c, .agg #[.int .i64 y, .int .i64 m, .int .i64 d], .int .i64 (u - 25)]) (by simp [results, Tryz.results16, go_sem, a0, a1, a2]) rfl ⟨c, y, m, d, u - 25, rfl, by omega, by first | exact xset (xset (xset (xd (Only.ext XW O5 (by omega))) (Nat.le_refl _) _) (Nat.le_refl _) _) (Nat.le_refl _) _ | exact xd (xset (xset (xset (Only.ext XW O5 (by omega)) (Nat.le_refl _) _) (Nat.le_refl _) _) (Nat.le_refl _) _)⟩
    · go_wp2_with fail
      refine (pickC (w.heap.size + 1) w.heap.size _ 200010 w4 c5 (by omega) (by omega) (by omega)).mono ?_
      rintro e w5 ⟨z, rfl, ⟨z0, z1⟩, c6, o6⟩
      have O6 := O5.trans o6
      obtain ⟨⟨i0, i1, i2⟩, j0, j1, j2⟩ := o6.box (k := w2.heap.size) (by omega) D5
      obtain ⟨⟨a0, a1, a2⟩, e0, e1, e2⟩ := o6.box (k := w.heap.size) (by omega) B5
      have nRD : (w.heap.size = w2.heap.size) = False := eq_false (by omega)
      have nDR : (w2.heap.size = w.heap.size) = False := eq_false (by omega)
      go_wp2_with fail
      go_region_with (fail)
      all_goals go_wp2_with fail
      all_goals exact bodyPost_ret (v := .tuple #[.int .i64 c, .agg #[.int .i64 y, .int .i64 m, .int .i64 d], .int .i64 (z - 100005)]) (by simp [results, Tryz.results16, go_sem, a0, a1, a2]) rfl ⟨c, y, m, d, z - 100005, rfl, by omega, by first | exact xset (xset (xset (xd (Only.ext XW O6 (by omega))) (Nat.le_refl _) _) (Nat.le_refl _) _) (Nat.le_refl _) _ | exact xd (xset (xset (xset (Only.ext XW O6 (by omega)) (Nat.le_refl _) _) (Nat.le_refl _) _) (Nat.le_refl _) _)⟩

end Go.Proofs.YtmcmohooodpfeaaGreatDoor
