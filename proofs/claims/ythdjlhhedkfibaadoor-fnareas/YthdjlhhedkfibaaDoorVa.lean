/-
  Areas drawn.
-/
import Derived.Test.YthdjlhhedkfibaaDoorZr
import Derived.Test.YthdjlhhedkfibaaDoorAre
import Derived.Deep.DeepCutAuto
namespace Go.Proofs.YthdjlhhedkfibaaDoor
open Go.RowKit

theorem Cur.far8 {w : World} {b base K g : Nat} (h : Cur w b base K) (hb : b ≠ g) (hg : base ≤ g) (u0 u1 u2 u3 u4 u5 u6 u7 : Value) : Cur (set8 w g u0 u1 u2 u3 u4 u5 u6 u7) b base K :=
  (((((((h.far hb hg u0).far hb hg u1).far hb hg u2).far hb hg u3).far hb hg u4).far hb hg u5).far hb hg u6).far hb hg u7
theorem Only.set8 {b g : Nat} {w w' : World} (h : Only b w w') (hg : w.heap.size ≤ g) (u0 u1 u2 u3 u4 u5 u6 u7 : Value) : Only b w (set8 w' g u0 u1 u2 u3 u4 u5 u6 u7) :=
  (((((((h.setNew hg u0).setNew hg u1).setNew hg u2).setNew hg u3).setNew hg u4).setNew hg u5).setNew hg u6).setNew hg u7

set_option maxRecDepth 8000 in
set_option maxHeartbeats 4000000 in
theorem areaC (b base K : Nat) (w : World) (h : Cur w b base K) (hK : K ≤ 100000) :
    Calls Tryd.prog 34 #[.pointer (some ⟨b, 0, none⟩)] w fun e w' => ∃ (r c : Int) (rf cf : Bool) (r' c' : Int) (rf' cf' : Bool) (K' : Nat), e = .returned (arV r c rf cf r' c' rf' cf') ∧ K' ≤ K + 400 ∧ Cur w' b base K' ∧ Only b w w' := by
  have bl := h.lt
  have bb := h.base_le
  have X0 := x1 w (.cells #[.int .i64 0, .int .i64 0, .bool false, .bool false, .int .i64 0, .int .i64 0, .bool false, .bool false] 26)
  have V2 := Vec.made8 w (.int .i64 0) (.int .i64 0) (.bool false) (.bool false) (.int .i64 0) (.int .i64 0) (.bool false) (.bool false) 26
  have C0 := h.ext X0
  go_enter Tryd.func34, Tryd.ntmps34
  go_wp2_with fail
  refine (refC b base _ _ C0 (by omega)).mono ?_
  rintro e w1 ⟨r1, c1, f1, g1, K1, rfl, _, _, hK1, C1, o1⟩
  have V2 := o1.vec (by omega) V2
  have O := (Only.of_ext X0).trans o1
  clear C0 o1 X0
  go_wp2_with fail
  refine (oddC b base _ r1 c1 f1 g1 _ C1 (by omega)).mono ?_
  rintro e w2 ⟨r, c, rf, cf, K2, rfl, hK2, C2, o2⟩
  have V2 := o2.vec (by omega) V2
  have O := O.trans o2
  clear C1 o2
  go_wp2_with fail
  refine (refC b base _ _ C2 (by omega)).mono ?_
  rintro e w3 ⟨r3, c3, f3, g3, K3, rfl, _, _, hK3, C3, o3⟩
  have V2 := o3.vec (by omega) V2
  have O := O.trans o3
  clear C2 o3
  go_wp2_with fail
  refine (oddC b base _ r3 c3 f3 g3 _ C3 (by omega)).mono ?_
  rintro e w4 ⟨r', c', rf', cf', K4, rfl, hK4, C4, o4⟩
  have V2 := o4.vec (by omega) V2
  have O := O.trans o4
  clear C3 o4
  have e5 := x1 w4 (.cells #[.int .i64 r, .int .i64 c, .bool rf, .bool cf, .int .i64 r', .int .i64 c', .bool rf', .bool cf'] 26)
  have V3 := Vec.made8 w4 (.int .i64 r) (.int .i64 c) (.bool rf) (.bool cf) (.int .i64 r') (.int .i64 c') (.bool rf') (.bool cf') 26
  have V2 := V2.later e5
  have C5 := C4.ext e5
  have O := O.trans (Only.of_ext e5)
  clear e5 C4
  obtain ⟨w5, h5⟩ : ∃ w5, w4.alloc (.cells #[.int .i64 r, .int .i64 c, .bool rf, .bool cf, .int .i64 r', .int .i64 c', .bool rf', .bool cf'] 26) = w5 := ⟨_, rfl⟩
  rw [h5] at V2 V3 C5 O
  have V6 := V2.put8 (.int .i64 r) (.int .i64 c) (.bool rf) (.bool cf) (.int .i64 r') (.int .i64 c') (.bool rf') (.bool cf')
  have C6 := C5.far8 (g := w.heap.size) (by omega) (by omega) (.int .i64 r) (.int .i64 c) (.bool rf) (.bool cf) (.int .i64 r') (.int .i64 c') (.bool rf') (.bool cf')
  have O6 := O.set8 (g := w.heap.size) (Nat.le_refl _) (.int .i64 r) (.int .i64 c) (.bool rf) (.bool cf) (.int .i64 r') (.int .i64 c') (.bool rf') (.bool cf')
  obtain ⟨w6, h6⟩ : ∃ w6, set8 w5 w.heap.size (.int .i64 r) (.int .i64 c) (.bool rf) (.bool cf) (.int .i64 r') (.int .i64 c') (.bool rf') (.bool cf') = w6 := ⟨_, rfl⟩
  rw [h6] at V6 C6 O6
  unfold set8 set4 at h6
  obtain ⟨⟨⟨k0, k1, k2, k3⟩, k4, k5, k6, k7⟩, ⟨f0, f1', f2, f3'⟩, f4, f5, f6, f7⟩ := V2.box8
  obtain ⟨⟨⟨a0, a1, a2, a3⟩, a4, a5, a6, a7⟩, _⟩ := V3.box8
  obtain ⟨⟨⟨d0, d1, d2, d3⟩, d4, d5, d6, d7⟩, _⟩ := V6.box8
  clear C5 O V2 V3
  go_wp2_with fail
  exact bodyPost_ret (v := arV r c rf cf r' c' rf' cf') (by simp [results, Tryd.results34, go_sem, d0, d1, d2, d3, d4, d5, d6, d7]) rfl ⟨r, c, rf, cf, r', c', rf', cf', K4, rfl, by omega, C6, O6⟩

end Go.Proofs.YthdjlhhedkfibaaDoor
