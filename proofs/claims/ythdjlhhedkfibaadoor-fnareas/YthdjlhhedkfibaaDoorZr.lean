/-
  Refs drawn.
-/
import Derived.Test.YthdjlhhedkfibaaDoorCurE
import Derived.Test.YthdjlhhedkfibaaDoorNor
namespace Go.Proofs.YthdjlhhedkfibaaDoor
open Go.RowKit

theorem Only.vec {b k : Nat} {w w' : World} {l : List Value} (h : Only b w w') (hk : k ≠ b) (v : Vec w k l) : Vec w' k l := fun i x hi => by
  obtain ⟨hc, hf⟩ := v i x hi
  refine ⟨h.cell hk hc, ?_⟩
  have hlt := World.block_lt_of_cell? _ _ hc
  have := h.block k hk hlt
  unfold World.frozen? at hf ⊢
  rw [this]
  exact hf
theorem Cur.base_le {w : World} {b base K : Nat} (h : Cur w b base K) : base ≤ b := by obtain ⟨_, _, _, _, _, _, _, _, _, _, _, hb⟩ := h; exact hb

set_option maxRecDepth 8000 in
set_option maxHeartbeats 4000000 in
theorem refC (b base K : Nat) (w : World) (h : Cur w b base K) (hK : K ≤ 1000000) :
    Calls Tryd.prog 44 #[.pointer (some ⟨b, 0, none⟩)] w fun e w' => ∃ (r c : Int) (rf cf : Bool) (K' : Nat), e = .returned (refV r c rf cf) ∧ (1 ≤ r ∧ r ≤ 1000) ∧ (1 ≤ c ∧ c ≤ 200) ∧ K' ≤ K + 100 ∧ Cur w' b base K' ∧ Only b w w' := by
  have bl := h.lt
  have bb := h.base_le
  have X0 := x1 w (.cells #[.int .i64 0, .int .i64 0, .bool false, .bool false] 24)
  have V2 := Vec.made4 w (.int .i64 0) (.int .i64 0) (.bool false) (.bool false) 24
  have C0 := h.ext X0
  go_enter Tryd.func44, Tryd.ntmps44
  go_wp2_with fail
  refine (pickC b base _ 9 _ C0 (by omega) (by omega) (by omega)).mono ?_
  rintro e w1 ⟨p, rfl, ⟨p0, p1⟩, c1, o1⟩
  go_wp2_with fail
  refine (pickC b base _ 9 w1 c1 (by omega) (by omega) (by omega)).mono ?_
  rintro e w2 ⟨q, rfl, ⟨q0, q1⟩, c2, o2⟩
  go_wp2_with fail
  refine (oneC b base _ 3 w2 c2 (by omega) (by omega) (by omega)).mono ?_
  rintro e w3 ⟨f, rfl, c3, o3⟩
  go_wp2_with fail
  refine (oneC b base _ 3 w3 c3 (by omega) (by omega) (by omega)).mono ?_
  rintro e w4 ⟨g, rfl, c4, o4⟩
  have O4 : Only b w w4 := (Only.of_ext X0).trans (((o1.trans o2).trans o3).trans o4)
  have V2 := (((o1.trans o2).trans o3).trans o4).vec (k := w.heap.size) (by omega) V2
  have V3 := Vec.made4 w4 (.int .i64 (1 + p)) (.int .i64 (1 + q)) (.bool f) (.bool g) 24
  have X5 := x1 w4 (.cells #[.int .i64 (1 + p), .int .i64 (1 + q), .bool f, .bool g] 24)
  have c5 := c4.ext X5
  have O5 := O4.trans (Only.of_ext X5)
  have lt4 : w.heap.size < w4.heap.size := World.block_lt_of_cell? _ _ (V2 0 _ rfl).1
  have V2 := V2.later X5
  have lb4 := c4.lt
  clear c1 c2 c3 o1 o2 o3 o4 O4 C0 X0 X5 h
  go_wp2_with fail
  refine (pickC b base _ 9 _ c5 (by omega) (by omega) (by omega)).mono ?_
  rintro e w6 ⟨x, rfl, ⟨x0, x9⟩, c6, o6⟩
  have V2 := o6.vec (k := w.heap.size) (by omega) V2
  have V3 := o6.vec (k := w4.heap.size) (by omega) V3
  have O6 := O5.trans o6
  clear c5 c4 o6 O5
  have FIN : Hid (∀ (wf : World) (r c : Int) (u v : Bool) (K' : Nat), K' ≤ K + 100 → Cur wf b base K' → Only b w wf → Cur (set4 wf w.heap.size 0 (.int .i64 r) (.int .i64 c) (.bool u) (.bool v)) b base K' ∧ Only b w (set4 wf w.heap.size 0 (.int .i64 r) (.int .i64 c) (.bool u) (.bool v))) := fun wf r c u v K' _ hc ho =>
    ⟨(((hc.far (g := w.heap.size) (by omega) (by omega) _).far (g := w.heap.size) (by omega) (by omega) _).far (g := w.heap.size) (by omega) (by omega) _).far (g := w.heap.size) (by omega) (by omega) _, (((ho.setNew (g := w.heap.size) (Nat.le_refl _) _).setNew (g := w.heap.size) (Nat.le_refl _) _).setNew (g := w.heap.size) (Nat.le_refl _) _).setNew (g := w.heap.size) (Nat.le_refl _) _⟩
  by_cases h0 : x = 0
  · subst h0
    go_wp2_with fail
    refine (pickC b base _ 1000 w6 c6 (by omega) (by omega) (by omega)).mono ?_
    rintro e w7 ⟨u, rfl, ⟨u0, u1⟩, c7, o7⟩
    have V2 := o7.vec (k := w.heap.size) (by omega) V2
    have V3 := o7.vec (k := w4.heap.size) (by omega) V3
    have O7 := O6.trans o7
    obtain ⟨w8, h8⟩ : ∃ w8, w7.setCell ⟨w4.heap.size, 0, none⟩ (.int .i64 (1 + u)) = w8 := ⟨_, rfl⟩
    obtain ⟨⟨m0, m1, m2, m3⟩, f0, f1, f2, f3⟩ := V3.box4
    have V3 := V3.put 0 (by simp) (.int .i64 (1 + u))
    have V2 := V2.far (p := ⟨w4.heap.size, 0, none⟩) (by simp; omega) (.int .i64 (1 + u))
    have c8 := c7.far (g := w4.heap.size) (i := 0) (by omega) (by omega) (.int .i64 (1 + u))
    have O8 := O7.setNew (g := w4.heap.size) (i := 0) (by omega) (.int .i64 (1 + u))
    rw [h8] at V3 V2 c8 O8
    simp only [List.set_cons_zero] at V3
    clear c6 c7 o7 O6 O7
    go_wp2_with fail
    clear h8 m0 m1 m2 m3 f0 f1 f2 f3
    refine (pickC b base _ 200 w8 c8 (by omega) (by omega) (by omega)).mono ?_
    rintro e w9 ⟨v, rfl, ⟨v0, v1⟩, c9, o9⟩
    have V2 := o9.vec (k := w.heap.size) (by omega) V2
    have V3 := o9.vec (k := w4.heap.size) (by omega) V3
    have O9 := O8.trans o9
    obtain ⟨wa, ha⟩ : ∃ wa, w9.setCell ⟨w4.heap.size, 1, none⟩ (.int .i64 (1 + v)) = wa := ⟨_, rfl⟩
    obtain ⟨⟨m0, m1, m2, m3⟩, f0, f1, f2, f3⟩ := V3.box4
    have V3 := V3.put 1 (by simp) (.int .i64 (1 + v))
    have V2 := V2.far (p := ⟨w4.heap.size, 1, none⟩) (by simp; omega) (.int .i64 (1 + v))
    have ca := c9.far (g := w4.heap.size) (i := 1) (by omega) (by omega) (.int .i64 (1 + v))
    have Oa := O9.setNew (g := w4.heap.size) (i := 1) (by omega) (.int .i64 (1 + v))
    rw [ha] at V3 V2 ca Oa
    simp only [List.set_cons_zero, List.set_cons_succ] at V3
    clear c8 c9 o9 O8 O9
    obtain ⟨⟨a0, a1, a2, a3⟩, _⟩ := V3.box4
    obtain ⟨⟨k0, k1, k2, k3⟩, g0, g1, g2, g3⟩ := V2.box4
    go_wp2_with fail
    obtain ⟨fc, fo⟩ := FIN.out wa (1 + u) (1 + v) f g _ (by omega) ca Oa
    exact bodyPost_ret (v := refV (1 + u) (1 + v) f g) (by simp [results, Tryd.results44, go_sem, k0, k1, k2, k3]) rfl ⟨_, _, _, _, _, rfl, by omega, by omega, by omega, fc, fo⟩
  · have g0 : (x == 0) = false := by simpa using h0
    by_cases h1 : x = 1
    · subst h1
      go_wp2_with fail
      refine (pickC b base _ 2 w6 c6 (by omega) (by omega) (by omega)).mono ?_
      rintro e w7 ⟨u, rfl, ⟨u0, u1⟩, c7, o7⟩
      have V2 := o7.vec (k := w.heap.size) (by omega) V2
      have V3 := o7.vec (k := w4.heap.size) (by omega) V3
      have O7 := O6.trans o7
      obtain ⟨w8, h8⟩ : ∃ w8, w7.setCell ⟨w4.heap.size, 0, none⟩ (.int .i64 (1000 - u)) = w8 := ⟨_, rfl⟩
      obtain ⟨⟨m0, m1, m2, m3⟩, f0, f1, f2, f3⟩ := V3.box4
      have V3 := V3.put 0 (by simp) (.int .i64 (1000 - u))
      have V2 := V2.far (p := ⟨w4.heap.size, 0, none⟩) (by simp; omega) (.int .i64 (1000 - u))
      have c8 := c7.far (g := w4.heap.size) (i := 0) (by omega) (by omega) (.int .i64 (1000 - u))
      have O8 := O7.setNew (g := w4.heap.size) (i := 0) (by omega) (.int .i64 (1000 - u))
      rw [h8] at V3 V2 c8 O8
      simp only [List.set_cons_zero] at V3
      clear c6 c7 o7 O6 O7
      go_wp2_with fail
      clear h8 m0 m1 m2 m3 f0 f1 f2 f3
      refine (pickC b base _ 2 w8 c8 (by omega) (by omega) (by omega)).mono ?_
      rintro e w9 ⟨v, rfl, ⟨v0, v1⟩, c9, o9⟩
      have V2 := o9.vec (k := w.heap.size) (by omega) V2
      have V3 := o9.vec (k := w4.heap.size) (by omega) V3
      have O9 := O8.trans o9
      obtain ⟨wa, ha⟩ : ∃ wa, w9.setCell ⟨w4.heap.size, 1, none⟩ (.int .i64 (200 - v)) = wa := ⟨_, rfl⟩
      obtain ⟨⟨m0, m1, m2, m3⟩, f0, f1, f2, f3⟩ := V3.box4
      have V3 := V3.put 1 (by simp) (.int .i64 (200 - v))
      have V2 := V2.far (p := ⟨w4.heap.size, 1, none⟩) (by simp; omega) (.int .i64 (200 - v))
      have ca := c9.far (g := w4.heap.size) (i := 1) (by omega) (by omega) (.int .i64 (200 - v))
      have Oa := O9.setNew (g := w4.heap.size) (i := 1) (by omega) (.int .i64 (200 - v))
      rw [ha] at V3 V2 ca Oa
      simp only [List.set_cons_zero, List.set_cons_succ] at V3
      clear c8 c9 o9 O8 O9
      obtain ⟨⟨a0, a1, a2, a3⟩, _⟩ := V3.box4
      obtain ⟨⟨k0, k1, k2, k3⟩, g0, g1, g2, g3⟩ := V2.box4
      go_wp2_with fail
      obtain ⟨fc, fo⟩ := FIN.out wa (1000 - u) (200 - v) f g _ (by omega) ca Oa
      exact bodyPost_ret (v := refV (1000 - u) (200 - v) f g) (by simp [results, Tryd.results44, go_sem, k0, k1, k2, k3]) rfl ⟨_, _, _, _, _, rfl, by omega, by omega, by omega, fc, fo⟩
    · have g1 : (x == 1) = false := by simpa using h1
      obtain ⟨⟨a0, a1, a2, a3⟩, _⟩ := V3.box4
      obtain ⟨⟨k0, k1, k2, k3⟩, e0, e1, e2, e3⟩ := V2.box4
      go_wp2_with fail
      obtain ⟨fc, fo⟩ := FIN.out w6 (1 + p) (1 + q) f g _ (by omega) c6 O6
      exact bodyPost_ret (v := refV (1 + p) (1 + q) f g) (by simp [results, Tryd.results44, go_sem, k0, k1, k2, k3]) rfl ⟨_, _, _, _, _, rfl, by omega, by omega, by omega, fc, fo⟩

theorem Vec.made3 (w : World) (v0 v1 v2 : Value) (t : TypeId) : Vec (w.alloc (.cells #[v0, v1, v2] t)) w.heap.size [v0, v1, v2] := by
  obtain ⟨⟨a0, a1, a2⟩, f0, f1, f2⟩ := Box3.made w v0 v1 v2 t
  intro i v hi
  match i, hi with
  | 0, hi => cases hi; exact ⟨a0, f0⟩
  | 1, hi => cases hi; exact ⟨a1, f1⟩
  | 2, hi => cases hi; exact ⟨a2, f2⟩
set_option maxRecDepth 8000 in
set_option maxHeartbeats 4000000 in
theorem oddC (b base K : Nat) (r c : Int) (rf cf : Bool) (w : World) (h : Cur w b base K) (hK : K ≤ 1000000) :
    Calls Tryd.prog 43 #[.pointer (some ⟨b, 0, none⟩), refV r c rf cf] w fun e w' => ∃ (r' c' : Int) (rf' cf' : Bool) (K' : Nat), e = .returned (refV r' c' rf' cf') ∧ K' ≤ K + 100 ∧ Cur w' b base K' ∧ Only b w w' := by
  have bl := h.lt
  have bb := h.base_le
  have V3 := Vec.made4 w (.int .i64 r) (.int .i64 c) (.bool rf) (.bool cf) 24
  have V4 := Vec.made4' w (.cells #[.int .i64 r, .int .i64 c, .bool rf, .bool cf] 24) (.int .i64 0) (.int .i64 0) (.bool false) (.bool false) 24
  have X0 := xa (x1 w (.cells #[.int .i64 r, .int .i64 c, .bool rf, .bool cf] 24)) (.cells #[.int .i64 0, .int .i64 0, .bool false, .bool false] 24)
  have V3 := V3.later (x1 _ (.cells #[.int .i64 0, .int .i64 0, .bool false, .bool false] 24))
  have C0 := h.ext X0
  have FIN : Hid (∀ (wf : World) (r' c' : Int) (u v : Bool) (K' : Nat), Cur wf b base K' → Only b w wf → Cur (set4 wf (w.heap.size + 1) 0 (.int .i64 r') (.int .i64 c') (.bool u) (.bool v)) b base K' ∧ Only b w (set4 wf (w.heap.size + 1) 0 (.int .i64 r') (.int .i64 c') (.bool u) (.bool v))) := fun wf r' c' u v K' hc ho =>
    ⟨(((hc.far (g := w.heap.size + 1) (by omega) (by omega) _).far (g := w.heap.size + 1) (by omega) (by omega) _).far (g := w.heap.size + 1) (by omega) (by omega) _).far (g := w.heap.size + 1) (by omega) (by omega) _, (((ho.setNew (g := w.heap.size + 1) (by omega) _).setNew (g := w.heap.size + 1) (by omega) _).setNew (g := w.heap.size + 1) (by omega) _).setNew (g := w.heap.size + 1) (by omega) _⟩
  go_enter Tryd.func43, Tryd.ntmps43
  go_wp2_with fail
  refine (pickC b base _ 30 _ C0 (by omega) (by omega) (by omega)).mono ?_
  rintro e w1 ⟨x, rfl, ⟨x0, x9⟩, c1, o1⟩
  have V3 := o1.vec (k := w.heap.size) (by omega) V3
  have V4 := o1.vec (k := w.heap.size + 1) (by omega) V4
  have O1 := (Only.of_ext X0).trans o1
  clear C0 X0 o1 h
  by_cases h0 : x = 0
  · subst h0
    obtain ⟨w2, h2⟩ : ∃ w2, w1.alloc (.cells #[.int .i64 (0), .int .i64 (1001), .int .i64 (-3)] 3) = w2 := ⟨_, rfl⟩
    have xs := x1 w1 (.cells #[.int .i64 (0), .int .i64 (1001), .int .i64 (-3)] 3)
    have VSs := Vec.made3 w1 (.int .i64 (0)) (.int .i64 (1001)) (.int .i64 (-3)) 3
    rw [h2] at xs VSs
    have cs := c1.ext xs
    have Os := O1.trans (Only.of_ext xs)
    have V3s := V3.later xs
    have V4s := V4.later xs
    have lb := c1.lt
    have lw : w.heap.size + 1 < w1.heap.size := World.block_lt_of_cell? _ _ (V4 0 _ rfl).1
    clear c1 O1 xs V3 V4
    go_wp2_with fail
    refine (pickC b base _ 3 _ cs (by omega) (by omega) (by omega)).mono ?_
    rintro e w7 ⟨u, rfl, ⟨u0, u1⟩, c7, o7⟩
    have V3 := o7.vec (k := w.heap.size) (by omega) V3s
    have V4 := o7.vec (k := w.heap.size + 1) (by omega) V4s
    have VS := o7.vec (k := w1.heap.size) (by omega) VSs
    have O7 := Os.trans o7
    clear cs o7 Os V3s V4s VSs
    obtain rfl | rfl | rfl : u = 0 ∨ u = 1 ∨ u = 2 := by omega
    · have s0 := (VS 0 _ rfl).1
      obtain ⟨wa, ha⟩ : ∃ wa, w7.setCell ⟨w.heap.size, 0, none⟩ (.int .i64 (0)) = wa := ⟨_, rfl⟩
      obtain ⟨⟨m0, m1, m2, m3⟩, f0, f1, f2, f3⟩ := V3.box4
      have V3 := V3.put 0 (by simp) (.int .i64 (0))
      have V4 := V4.far (p := ⟨w.heap.size, 0, none⟩) (by simp) (.int .i64 (0))
      have ca := c7.far (g := w.heap.size) (i := 0) (by omega) (by omega) (.int .i64 (0))
      have Oa := O7.setNew (g := w.heap.size) (i := 0) (by omega) (.int .i64 (0))
      rw [ha] at V3 V4 ca Oa
      simp only [List.set_cons_zero] at V3
      obtain ⟨⟨a0, a1, a2, a3⟩, _⟩ := V3.box4
      obtain ⟨⟨k0, k1, k2, k3⟩, g0, g1, g2, g3⟩ := V4.box4
      clear VS
      go_wp2_with fail
      obtain ⟨fc, fo⟩ := FIN.out wa (0) c rf cf _ ca Oa
      exact bodyPost_ret (v := refV (0) c rf cf) (by simp [results, Tryd.results43, go_sem, k0, k1, k2, k3]) rfl ⟨_, _, _, _, _, rfl, by omega, fc, fo⟩
    · have s1 := (VS 1 _ rfl).1
      obtain ⟨wa, ha⟩ : ∃ wa, w7.setCell ⟨w.heap.size, 0, none⟩ (.int .i64 (1001)) = wa := ⟨_, rfl⟩
      obtain ⟨⟨m0, m1, m2, m3⟩, f0, f1, f2, f3⟩ := V3.box4
      have V3 := V3.put 0 (by simp) (.int .i64 (1001))
      have V4 := V4.far (p := ⟨w.heap.size, 0, none⟩) (by simp) (.int .i64 (1001))
      have ca := c7.far (g := w.heap.size) (i := 0) (by omega) (by omega) (.int .i64 (1001))
      have Oa := O7.setNew (g := w.heap.size) (i := 0) (by omega) (.int .i64 (1001))
      rw [ha] at V3 V4 ca Oa
      simp only [List.set_cons_zero] at V3
      obtain ⟨⟨a0, a1, a2, a3⟩, _⟩ := V3.box4
      obtain ⟨⟨k0, k1, k2, k3⟩, g0, g1, g2, g3⟩ := V4.box4
      clear VS
      go_wp2_with fail
      obtain ⟨fc, fo⟩ := FIN.out wa (1001) c rf cf _ ca Oa
      exact bodyPost_ret (v := refV (1001) c rf cf) (by simp [results, Tryd.results43, go_sem, k0, k1, k2, k3]) rfl ⟨_, _, _, _, _, rfl, by omega, fc, fo⟩
    · have s2 := (VS 2 _ rfl).1
      obtain ⟨wa, ha⟩ : ∃ wa, w7.setCell ⟨w.heap.size, 0, none⟩ (.int .i64 (-3)) = wa := ⟨_, rfl⟩
      obtain ⟨⟨m0, m1, m2, m3⟩, f0, f1, f2, f3⟩ := V3.box4
      have V3 := V3.put 0 (by simp) (.int .i64 (-3))
      have V4 := V4.far (p := ⟨w.heap.size, 0, none⟩) (by simp) (.int .i64 (-3))
      have ca := c7.far (g := w.heap.size) (i := 0) (by omega) (by omega) (.int .i64 (-3))
      have Oa := O7.setNew (g := w.heap.size) (i := 0) (by omega) (.int .i64 (-3))
      rw [ha] at V3 V4 ca Oa
      simp only [List.set_cons_zero] at V3
      obtain ⟨⟨a0, a1, a2, a3⟩, _⟩ := V3.box4
      obtain ⟨⟨k0, k1, k2, k3⟩, g0, g1, g2, g3⟩ := V4.box4
      clear VS
      go_wp2_with fail
      obtain ⟨fc, fo⟩ := FIN.out wa (-3) c rf cf _ ca Oa
      exact bodyPost_ret (v := refV (-3) c rf cf) (by simp [results, Tryd.results43, go_sem, k0, k1, k2, k3]) rfl ⟨_, _, _, _, _, rfl, by omega, fc, fo⟩
  · have g0 : (x == 0) = false := by simpa using h0
    by_cases h1 : x = 1
    · subst h1
      obtain ⟨w2, h2⟩ : ∃ w2, w1.alloc (.cells #[.int .i64 (0), .int .i64 (201), .int .i64 (-1)] 3) = w2 := ⟨_, rfl⟩
      have xs := x1 w1 (.cells #[.int .i64 (0), .int .i64 (201), .int .i64 (-1)] 3)
      have VSs := Vec.made3 w1 (.int .i64 (0)) (.int .i64 (201)) (.int .i64 (-1)) 3
      rw [h2] at xs VSs
      have cs := c1.ext xs
      have Os := O1.trans (Only.of_ext xs)
      have V3s := V3.later xs
      have V4s := V4.later xs
      have lb := c1.lt
      have lw : w.heap.size + 1 < w1.heap.size := World.block_lt_of_cell? _ _ (V4 0 _ rfl).1
      clear c1 O1 xs V3 V4
      go_wp2_with fail
      refine (pickC b base _ 3 _ cs (by omega) (by omega) (by omega)).mono ?_
      rintro e w7 ⟨u, rfl, ⟨u0, u1⟩, c7, o7⟩
      have V3 := o7.vec (k := w.heap.size) (by omega) V3s
      have V4 := o7.vec (k := w.heap.size + 1) (by omega) V4s
      have VS := o7.vec (k := w1.heap.size) (by omega) VSs
      have O7 := Os.trans o7
      clear cs o7 Os V3s V4s VSs
      obtain rfl | rfl | rfl : u = 0 ∨ u = 1 ∨ u = 2 := by omega
      · have s0 := (VS 0 _ rfl).1
        obtain ⟨wa, ha⟩ : ∃ wa, w7.setCell ⟨w.heap.size, 1, none⟩ (.int .i64 (0)) = wa := ⟨_, rfl⟩
        obtain ⟨⟨m0, m1, m2, m3⟩, f0, f1, f2, f3⟩ := V3.box4
        have V3 := V3.put 1 (by simp) (.int .i64 (0))
        have V4 := V4.far (p := ⟨w.heap.size, 1, none⟩) (by simp) (.int .i64 (0))
        have ca := c7.far (g := w.heap.size) (i := 1) (by omega) (by omega) (.int .i64 (0))
        have Oa := O7.setNew (g := w.heap.size) (i := 1) (by omega) (.int .i64 (0))
        rw [ha] at V3 V4 ca Oa
        simp only [List.set_cons_zero, List.set_cons_succ] at V3
        obtain ⟨⟨a0, a1, a2, a3⟩, _⟩ := V3.box4
        obtain ⟨⟨k0, k1, k2, k3⟩, g0, g1, g2, g3⟩ := V4.box4
        clear VS
        go_wp2_with fail
        obtain ⟨fc, fo⟩ := FIN.out wa r (0) rf cf _ ca Oa
        exact bodyPost_ret (v := refV r (0) rf cf) (by simp [results, Tryd.results43, go_sem, k0, k1, k2, k3]) rfl ⟨_, _, _, _, _, rfl, by omega, fc, fo⟩
      · have s1 := (VS 1 _ rfl).1
        obtain ⟨wa, ha⟩ : ∃ wa, w7.setCell ⟨w.heap.size, 1, none⟩ (.int .i64 (201)) = wa := ⟨_, rfl⟩
        obtain ⟨⟨m0, m1, m2, m3⟩, f0, f1, f2, f3⟩ := V3.box4
        have V3 := V3.put 1 (by simp) (.int .i64 (201))
        have V4 := V4.far (p := ⟨w.heap.size, 1, none⟩) (by simp) (.int .i64 (201))
        have ca := c7.far (g := w.heap.size) (i := 1) (by omega) (by omega) (.int .i64 (201))
        have Oa := O7.setNew (g := w.heap.size) (i := 1) (by omega) (.int .i64 (201))
        rw [ha] at V3 V4 ca Oa
        simp only [List.set_cons_zero, List.set_cons_succ] at V3
        obtain ⟨⟨a0, a1, a2, a3⟩, _⟩ := V3.box4
        obtain ⟨⟨k0, k1, k2, k3⟩, g0, g1, g2, g3⟩ := V4.box4
        clear VS
        go_wp2_with fail
        obtain ⟨fc, fo⟩ := FIN.out wa r (201) rf cf _ ca Oa
        exact bodyPost_ret (v := refV r (201) rf cf) (by simp [results, Tryd.results43, go_sem, k0, k1, k2, k3]) rfl ⟨_, _, _, _, _, rfl, by omega, fc, fo⟩
      · have s2 := (VS 2 _ rfl).1
        obtain ⟨wa, ha⟩ : ∃ wa, w7.setCell ⟨w.heap.size, 1, none⟩ (.int .i64 (-1)) = wa := ⟨_, rfl⟩
        obtain ⟨⟨m0, m1, m2, m3⟩, f0, f1, f2, f3⟩ := V3.box4
        have V3 := V3.put 1 (by simp) (.int .i64 (-1))
        have V4 := V4.far (p := ⟨w.heap.size, 1, none⟩) (by simp) (.int .i64 (-1))
        have ca := c7.far (g := w.heap.size) (i := 1) (by omega) (by omega) (.int .i64 (-1))
        have Oa := O7.setNew (g := w.heap.size) (i := 1) (by omega) (.int .i64 (-1))
        rw [ha] at V3 V4 ca Oa
        simp only [List.set_cons_zero, List.set_cons_succ] at V3
        obtain ⟨⟨a0, a1, a2, a3⟩, _⟩ := V3.box4
        obtain ⟨⟨k0, k1, k2, k3⟩, g0, g1, g2, g3⟩ := V4.box4
        clear VS
        go_wp2_with fail
        obtain ⟨fc, fo⟩ := FIN.out wa r (-1) rf cf _ ca Oa
        exact bodyPost_ret (v := refV r (-1) rf cf) (by simp [results, Tryd.results43, go_sem, k0, k1, k2, k3]) rfl ⟨_, _, _, _, _, rfl, by omega, fc, fo⟩
    · have g1 : (x == 1) = false := by simpa using h1
      obtain ⟨⟨a0, a1, a2, a3⟩, _⟩ := V3.box4
      obtain ⟨⟨k0, k1, k2, k3⟩, e0, e1, e2, e3⟩ := V4.box4
      go_wp2_with fail
      obtain ⟨fc, fo⟩ := FIN.out w1 r c rf cf _ c1 O1
      exact bodyPost_ret (v := refV r c rf cf) (by simp [results, Tryd.results43, go_sem, k0, k1, k2, k3]) rfl ⟨_, _, _, _, _, rfl, by omega, fc, fo⟩

end Go.Proofs.YthdjlhhedkfibaaDoor
