/-
  Two areas drawn.
-/
import Derived.Test.YthdjlhhedkfibaaDoorVa
namespace Go.Proofs.YthdjlhhedkfibaaDoor
open Go.RowKit

set_option maxRecDepth 8000 in
set_option maxHeartbeats 4000000 in
theorem areasC (v : Value) (n : Nat) (w : World) (h : CodeIn w w.heap.size v n) (hn : n ≤ 1048576) :
    Calls Tryd.prog 19 #[v] w fun e w' => ∃ (r c : Int) (f g : Bool) (r' c' : Int) (f' g' : Bool) (s d : Int) (h k : Bool) (s' d' : Int) (h' k' : Bool), e = .returned (.tuple #[arV r c f g r' c' f' g', arV s d h k s' d' h' k']) ∧ Ext w w' := by
  have X1 := x1 w (.cells #[.int .i64 0, .int .i64 0, .bool false, .bool false, .int .i64 0, .int .i64 0, .bool false, .bool false] 26)
  have V1 := Vec.made8 w (.int .i64 0) (.int .i64 0) (.bool false) (.bool false) (.int .i64 0) (.int .i64 0) (.bool false) (.bool false) 26
  obtain ⟨wa, ha⟩ : ∃ wa, w.alloc (.cells #[.int .i64 0, .int .i64 0, .bool false, .bool false, .int .i64 0, .int .i64 0, .bool false, .bool false] 26) = wa := ⟨_, rfl⟩
  have X2 := x1 wa (.cells #[.int .i64 0, .int .i64 0, .bool false, .bool false, .int .i64 0, .int .i64 0, .bool false, .bool false] 26)
  have V2 := Vec.made8 wa (.int .i64 0) (.int .i64 0) (.bool false) (.bool false) (.int .i64 0) (.int .i64 0) (.bool false) (.bool false) 26
  obtain ⟨wb, hb⟩ : ∃ wb, wa.alloc (.cells #[.int .i64 0, .int .i64 0, .bool false, .bool false, .int .i64 0, .int .i64 0, .bool false, .bool false] 26) = wb := ⟨_, rfl⟩
  have sa : wa.heap.size = w.heap.size + 1 := by rw [← ha, World.size_alloc]
  have sb : wb.heap.size = w.heap.size + 1 + 1 := by rw [← hb, World.size_alloc, sa]
  rw [ha] at X1 V1
  rw [hb] at X2 V2
  rw [sa] at V2
  have X := xt X1 X2
  have V1 := V1.later X2
  have hc := h.only (Only.of_ext (b := w.heap.size) X) (Nat.le_refl _)
  have C0 := Cur.made wb v n w.heap.size 66 hc hn (by omega)
  have X3 := x1 wb (.cells #[v, .int .i64 0, .int .u64 0] 66)
  have V1 := V1.later X3
  have V2 := V2.later X3
  have X := xt X X3
  have hv : ∃ p cap, v = .slice p n cap := by
    rcases h with ⟨⟨p, cap, h⟩, rfl⟩ | ⟨pb, po, cap, _, h, _⟩
    · exact ⟨p, cap, h⟩
    · exact ⟨_, cap, h⟩
  clear X1 X2 X3 hc h
  rw [sb] at C0
  obtain ⟨p, cap, rfl⟩ := hv
  go_enter Tryd.func19, Tryd.ntmps19
  go_wp2_with fail
  clear ha hb sa
  refine (areaC (w.heap.size + 1 + 1) w.heap.size _ _ C0 (by omega)).mono ?_
  rintro e w1 ⟨r, c, f, g, r', c', f', g', K1, rfl, hK1, C1, o1⟩
  have V1 := o1.vec (by omega) V1
  have V2 := o1.vec (by omega) V2
  have X := Only.ext X o1 (by omega)
  clear C0 o1
  have V3 := Vec.made8 w1 (.int .i64 r) (.int .i64 c) (.bool f) (.bool g) (.int .i64 r') (.int .i64 c') (.bool f') (.bool g') 26
  have e2 := x1 w1 (.cells #[.int .i64 r, .int .i64 c, .bool f, .bool g, .int .i64 r', .int .i64 c', .bool f', .bool g'] 26)
  have hs := C1.lt
  have V1 := V1.later e2
  have V2 := V2.later e2
  have X := xt X e2
  have C1 := C1.ext e2
  clear e2
  obtain ⟨w2, h2⟩ : ∃ w2, w1.alloc (.cells #[.int .i64 r, .int .i64 c, .bool f, .bool g, .int .i64 r', .int .i64 c', .bool f', .bool g'] 26) = w2 := ⟨_, rfl⟩
  rw [h2] at V1 V2 V3 X C1
  go_upto_region 3 with fail
  clear h2
  have n1 : (w.heap.size = w1.heap.size) = False := eq_false (by omega)
  have n2 : (w1.heap.size = w.heap.size) = False := eq_false (by omega)
  have n3 : (w.heap.size + 1 = w1.heap.size) = False := eq_false (by omega)
  have n4 : (w1.heap.size = w.heap.size + 1) = False := eq_false (by omega)
  have n5 : (w.heap.size + 1 = w.heap.size) = False := eq_false (by omega)
  obtain ⟨⟨⟨a0, a1, a2, a3⟩, a4, a5, a6, a7⟩, _⟩ := V3.box8
  go_region_held3 (fun w' => (w'.cell? ⟨w1.heap.size, 0, none⟩ = some (.int .i64 r) ∧ w'.cell? ⟨w1.heap.size, 1, none⟩ = some (.int .i64 c) ∧ w'.cell? ⟨w1.heap.size, 2, none⟩ = some (.bool f) ∧ w'.cell? ⟨w1.heap.size, 3, none⟩ = some (.bool g) ∧ w'.cell? ⟨w1.heap.size, 4, none⟩ = some (.int .i64 r') ∧ w'.cell? ⟨w1.heap.size, 5, none⟩ = some (.int .i64 c') ∧ w'.cell? ⟨w1.heap.size, 6, none⟩ = some (.bool f') ∧ w'.cell? ⟨w1.heap.size, 7, none⟩ = some (.bool g'))) (go_keep) (first
    | (go_at_call 34; refine (areaC (w.heap.size + 1 + 1) w.heap.size K1 _ (C1.ext (xd (xr _))) (by omega)).mono ?_; rintro e w3 ⟨s, d, h, k, s', d', h', k', K2, rfl, hK2, C2, o2⟩; have V1 := o2.vec (by omega) (V1.later (xd (xr _))); have V2 := o2.vec (by omega) (V2.later (xd (xr _))); have V3 := o2.vec (by omega) (V3.later (xd (xr _))); have X := Only.ext (xd X) o2 (by omega); obtain ⟨⟨⟨a0, a1, a2, a3⟩, a4, a5, a6, a7⟩, _⟩ := V3.box8; obtain ⟨⟨⟨b0, b1, b2, b3⟩, b4, b5, b6, b7⟩, ⟨f0, f1, f2, f3⟩, f4, f5, f6, f7⟩ := V1.box8; obtain ⟨⟨⟨c0, c1, c2, c3⟩, c4, c5, c6, c7⟩, ⟨g0, g1, g2, g3⟩, g4, g5, g6, g7⟩ := V2.box8))
  have P1 := V1.put8 (.int .i64 r) (.int .i64 c) (.bool f) (.bool g) (.int .i64 r') (.int .i64 c') (.bool f') (.bool g')
  have P2 := V2.far8 (k := w.heap.size) (by omega) (.int .i64 r) (.int .i64 c) (.bool f) (.bool g) (.int .i64 r') (.int .i64 c') (.bool f') (.bool g')
  have XP := Ext.set8 (b := w.heap.size) X (by omega) (.int .i64 r) (.int .i64 c) (.bool f) (.bool g) (.int .i64 r') (.int .i64 c') (.bool f') (.bool g')
  have Q1 := P1.far8 (k := w.heap.size + 1) (by omega) (.int .i64 s) (.int .i64 d) (.bool h) (.bool k) (.int .i64 s') (.int .i64 d') (.bool h') (.bool k')
  have Q2 := P2.put8 (.int .i64 s) (.int .i64 d) (.bool h) (.bool k) (.int .i64 s') (.int .i64 d') (.bool h') (.bool k')
  have XQ := Ext.set8 (b := w.heap.size + 1) XP (by omega) (.int .i64 s) (.int .i64 d) (.bool h) (.bool k) (.int .i64 s') (.int .i64 d') (.bool h') (.bool k')
  go_wp2_with fail
  obtain ⟨w4, h4⟩ : ∃ w4, set8 (set8 w3 w.heap.size (.int .i64 r) (.int .i64 c) (.bool f) (.bool g) (.int .i64 r') (.int .i64 c') (.bool f') (.bool g')) (w.heap.size + 1) (.int .i64 s) (.int .i64 d) (.bool h) (.bool k) (.int .i64 s') (.int .i64 d') (.bool h') (.bool k') = w4 := ⟨_, rfl⟩
  rw [h4] at Q1 Q2 XQ
  unfold set8 set4 at h4
  rw [h4]
  obtain ⟨⟨⟨d0, d1, d2, d3⟩, d4, d5, d6, d7⟩, _⟩ := Q1.box8
  obtain ⟨⟨⟨e0, e1, e2, e3⟩, e4, e5, e6, e7⟩, _⟩ := Q2.box8
  exact bodyPost_ret (v := .tuple #[arV r c f g r' c' f' g', arV s d h k s' d' h' k']) (by simp [results, Tryd.results19, go_sem, d0, d1, d2, d3, d4, d5, d6, d7, e0, e1, e2, e3, e4, e5, e6, e7]) rfl ⟨r, c, f, g, r', c', f', g', s, d, h, k, s', d', h', k', rfl, XQ⟩

set_option maxRecDepth 8000 in
set_option maxHeartbeats 4000000 in
theorem drawWo (v : Value) (n : Nat) (w : World) (h : CodeIn w w.heap.size v n) (hn : n ≤ 1048576) :
    Calls Tryd.prog 5 #[v] w fun e w' => ∃ (r c : Int) (f g : Bool) (r' c' : Int) (f' g' : Bool) (s d : Int) (h k : Bool) (s' d' : Int) (h' k' : Bool), e = .returned (.tuple #[arV r c f g r' c' f' g', arV s d h k s' d' h' k']) ∧ Ext w w' := by
  have X1 := x1 w (.cells #[.int .i64 0, .int .i64 0, .bool false, .bool false, .int .i64 0, .int .i64 0, .bool false, .bool false] 26)
  have V1 := Vec.made8 w (.int .i64 0) (.int .i64 0) (.bool false) (.bool false) (.int .i64 0) (.int .i64 0) (.bool false) (.bool false) 26
  obtain ⟨wa, ha⟩ : ∃ wa, w.alloc (.cells #[.int .i64 0, .int .i64 0, .bool false, .bool false, .int .i64 0, .int .i64 0, .bool false, .bool false] 26) = wa := ⟨_, rfl⟩
  have X2 := x1 wa (.cells #[.int .i64 0, .int .i64 0, .bool false, .bool false, .int .i64 0, .int .i64 0, .bool false, .bool false] 26)
  have V2 := Vec.made8 wa (.int .i64 0) (.int .i64 0) (.bool false) (.bool false) (.int .i64 0) (.int .i64 0) (.bool false) (.bool false) 26
  obtain ⟨wb, hb⟩ : ∃ wb, wa.alloc (.cells #[.int .i64 0, .int .i64 0, .bool false, .bool false, .int .i64 0, .int .i64 0, .bool false, .bool false] 26) = wb := ⟨_, rfl⟩
  have sa : wa.heap.size = w.heap.size + 1 := by rw [← ha, World.size_alloc]
  have sb : wb.heap.size = w.heap.size + 1 + 1 := by rw [← hb, World.size_alloc, sa]
  rw [ha] at X1 V1
  rw [hb] at X2 V2
  rw [sa] at V2
  have X := xt X1 X2
  have V1 := V1.later X2
  have hc : CodeIn wb wb.heap.size v n := by
    have := h.only (Only.of_ext (b := w.heap.size) X) (Nat.le_refl _)
    rcases this with this | ⟨pb, po, cap, q1, q2⟩
    · exact .inl this
    · exact .inr ⟨pb, po, cap, by omega, q2⟩
  clear X1 X2 h
  go_enter Tryd.func5, Tryd.ntmps5
  go_wp2_with fail
  clear ha hb sa
  refine (areasC v n wb hc hn).mono ?_
  rintro e w3 ⟨r, c, f, g, r', c', f', g', s, d, h, k, s', d', h', k', rfl, e3⟩
  have V1 := V1.later e3
  have V2 := V2.later e3
  have X := xt X e3
  clear e3 hc
  obtain ⟨⟨⟨b0, b1, b2, b3⟩, b4, b5, b6, b7⟩, ⟨f0, f1, f2, f3⟩, f4, f5, f6, f7⟩ := V1.box8
  obtain ⟨⟨⟨c0, c1, c2, c3⟩, c4, c5, c6, c7⟩, ⟨g0, g1, g2, g3⟩, g4, g5, g6, g7⟩ := V2.box8
  have P1 := V1.put8 (.int .i64 r) (.int .i64 c) (.bool f) (.bool g) (.int .i64 r') (.int .i64 c') (.bool f') (.bool g')
  have P2 := V2.far8 (k := w.heap.size) (by omega) (.int .i64 r) (.int .i64 c) (.bool f) (.bool g) (.int .i64 r') (.int .i64 c') (.bool f') (.bool g')
  have XP := Ext.set8 (b := w.heap.size) X (by omega) (.int .i64 r) (.int .i64 c) (.bool f) (.bool g) (.int .i64 r') (.int .i64 c') (.bool f') (.bool g')
  have Q1 := P1.far8 (k := w.heap.size + 1) (by omega) (.int .i64 s) (.int .i64 d) (.bool h) (.bool k) (.int .i64 s') (.int .i64 d') (.bool h') (.bool k')
  have Q2 := P2.put8 (.int .i64 s) (.int .i64 d) (.bool h) (.bool k) (.int .i64 s') (.int .i64 d') (.bool h') (.bool k')
  have XQ := Ext.set8 (b := w.heap.size + 1) XP (by omega) (.int .i64 s) (.int .i64 d) (.bool h) (.bool k) (.int .i64 s') (.int .i64 d') (.bool h') (.bool k')
  have n5 : (w.heap.size + 1 = w.heap.size) = False := eq_false (by omega)
  go_wp2_with fail
  obtain ⟨w4, h4⟩ : ∃ w4, set8 (set8 w3 w.heap.size (.int .i64 r) (.int .i64 c) (.bool f) (.bool g) (.int .i64 r') (.int .i64 c') (.bool f') (.bool g')) (w.heap.size + 1) (.int .i64 s) (.int .i64 d) (.bool h) (.bool k) (.int .i64 s') (.int .i64 d') (.bool h') (.bool k') = w4 := ⟨_, rfl⟩
  rw [h4] at Q1 Q2 XQ
  unfold set8 set4 at h4
  rw [h4]
  obtain ⟨⟨⟨d0, d1, d2, d3⟩, d4, d5, d6, d7⟩, _⟩ := Q1.box8
  obtain ⟨⟨⟨e0, e1, e2, e3⟩, e4, e5, e6, e7⟩, _⟩ := Q2.box8
  exact bodyPost_ret (v := .tuple #[arV r c f g r' c' f' g', arV s d h k s' d' h' k']) (by simp [results, Tryd.results5, go_sem, d0, d1, d2, d3, d4, d5, d6, d7, e0, e1, e2, e3, e4, e5, e6, e7]) rfl ⟨r, c, f, g, r', c', f', g', s, d, h, k, s', d', h', k', rfl, XQ⟩

end Go.Proofs.YthdjlhhedkfibaaDoor
