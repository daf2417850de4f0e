/-
  A number to be rounded, drawn.
-/
import Derived.Test.YtfkihaihbaobeaaGreatDoorMg32
import Derived.Test.YtfkihaihbaobeaaGreatDoorCd2
import Derived.BigRegion
import Derived.Deep.CutBlock
namespace Go.Proofs.YtfkihaihbaobeaaGreatDoor
open Go.RowKit

theorem finD5 {a w : World} {g : Nat} {u0 u1 u2 : Value} (V : Vec w g [u0, u1, u2]) (O : Ext a w) (hg : a.heap.size ≤ g) (n : Bool) (d x : Int) :
    ∃ wy, ((w.setCell ⟨g, 0, none⟩ (.bool n)).setCell ⟨g, 1, none⟩ (.int .i64 d)).setCell ⟨g, 2, none⟩ (.int .i64 x) = wy ∧ Ext a wy ∧ (w.cell? ⟨g, 0, none⟩ = some u0 ∧ w.cell? ⟨g, 1, none⟩ = some u1 ∧ w.cell? ⟨g, 2, none⟩ = some u2) ∧ (w.frozen? ⟨g, 0, none⟩ = false ∧ w.frozen? ⟨g, 1, none⟩ = false ∧ w.frozen? ⟨g, 2, none⟩ = false) ∧ (wy.cell? ⟨g, 0, none⟩ = some (.bool n) ∧ wy.cell? ⟨g, 1, none⟩ = some (.int .i64 d) ∧ wy.cell? ⟨g, 2, none⟩ = some (.int .i64 x)) :=
  ⟨_, rfl, xset (p := ⟨g, 2, none⟩) (xset (p := ⟨g, 1, none⟩) (xset (p := ⟨g, 0, none⟩) O hg _) hg _) hg _, V.three, V.threeF, Vec.three (((V.put 0 (by simp) (.bool n)).put 1 (by simp) (.int .i64 d)).put 2 (by simp) (.int .i64 x))⟩

set_option maxRecDepth 8000 in
set_option maxHeartbeats 4000000 in
theorem drawRound (v : Value) (k : Nat) (w : World) (hc : CodeIn w w.heap.size v k) (hk : k ≤ 1048576) :
    Calls Tryz.prog 13 #[v] w fun e w' => (∃ n d x p m, e = .returned (.tuple #[decV n d x, .int .i64 p, .int .i64 m]) ∧ -1000000000000000000 ≤ d ∧ d ≤ 1000000000000000000) ∧ Ext w w' := by
  have X0 := x1 w (.cells #[.bool false, .int .i64 0, .int .i64 0] 24)
  have V0 := vec_made w [.bool false, .int .i64 0, .int .i64 0] 24
  change Vec (w.alloc (.cells #[.bool false, .int .i64 0, .int .i64 0] 24)) _ _ at V0
  have hc1 : CodeIn (w.alloc (.cells #[.bool false, .int .i64 0, .int .i64 0] 24)) w.heap.size v k := hc.only (b := w.heap.size) (Only.of_ext X0) (Nat.le_refl _)
  have C0 := Cur.made (w.alloc (.cells #[.bool false, .int .i64 0, .int .i64 0] 24)) v k w.heap.size 61 hc1 hk (by rw [World.size_alloc]; omega)
  have X1 := x1 (w.alloc (.cells #[.bool false, .int .i64 0, .int .i64 0] 24)) (.cells #[v, .int .i64 0, .int .u64 0] 61)
  have V1 := V0.later X1
  rw [World.size_alloc] at C0
  have hv : ∃ p cap, v = .slice p k cap := by
    rcases hc with ⟨⟨p, cap, h⟩, rfl⟩ | ⟨pb, po, cap, _, h, _⟩
    · exact ⟨p, cap, h⟩
    · exact ⟨_, cap, h⟩
  have XW := xt X0 X1
  clear hc hc1 V0 X0 X1 hk
  obtain ⟨p, cap, rfl⟩ := hv
  go_enter Tryz.func13, Tryz.ntmps13
  go_wp2_with fail
  refine (decC (w.heap.size + 1) w.heap.size 0 _ C0 (by omega)).mono ?_
  rintro e w1 ⟨⟨n, d, x, rfl, d0, d1⟩, c1, o1⟩
  have V2 := o1.vecC (by omega) V1
  clear C0 V1
  go_wp2_with fail
  refine (oddC (w.heap.size + 1) w.heap.size _ n d x w1 c1 (by omega) d0 d1).mono ?_
  rintro e w2 ⟨⟨n, d, x, rfl, e0, e1⟩, c2, o2⟩
  have V3 := o2.vecC (by omega) V2
  have Y2 := x1 w2 (.cells #[.bool n, .int .i64 d, .int .i64 x] 24)
  have D := vec_made w2 [.bool n, .int .i64 d, .int .i64 x] 24
  change Vec (w2.alloc (.cells #[.bool n, .int .i64 d, .int .i64 x] 24)) _ _ at D
  have C := c2.ext Y2
  have lt2 := c2.lt
  have V := V3.later Y2
  have O := (o1.trans o2).trans (Only.of_ext Y2)
  have X := Only.ext XW O (by omega)
  clear c1 c2 o1 o2 V2 V3 Y2 d0 d1 O
  go_wp2_with fail
  refine (pickC (w.heap.size + 1) w.heap.size _ 12 _ C (by omega) (by omega) (by omega)).mono ?_
  rintro e w3 ⟨u, rfl, ⟨u0, u1⟩, C, o⟩
  have V := o.vecC (by omega) V
  have D := o.vecC (by omega) D
  have X := Only.ext X o (by omega)
  clear o
  go_wp2_with fail
  refine (oneC (w.heap.size + 1) w.heap.size _ 6 w3 C (by omega) (by omega) (by omega)).mono ?_
  rintro e w4 ⟨bo, rfl, C, o⟩
  have V := o.vecC (by omega) V
  have D := o.vecC (by omega) D
  have X := Only.ext X o (by omega)
  clear o
  go_upto_if 19 with fail
  go_cut [7] (fun s wc => (∃ p, s = .int .i64 p) ∧ Vec wc w2.heap.size [.bool n, .int .i64 d, .int .i64 x] ∧ Vec wc w.heap.size [.bool false, .int .i64 0, .int .i64 0] ∧ Cur wc (w.heap.size + 1) w.heap.size 100 ∧ Ext w wc)
  case first =>
    cases bo
    · go_wp2_with fail
      go_meet
      case rel => exact ⟨⟨_, rfl⟩, D, V, C.more (by omega), X⟩
    · go_wp2_with fail
      refine (pickC (w.heap.size + 1) w.heap.size _ 640 _ C (by omega) (by omega) (by omega)).mono ?_
      rintro e w5 ⟨z, rfl, ⟨z0, z1⟩, C, o⟩
      have V := o.vecC (by omega) V
      have D := o.vecC (by omega) D
      have X := Only.ext X o (by omega)
      clear o
      go_wp2_with fail
      go_meet
      case rel => exact ⟨⟨_, rfl⟩, D, V, C.more (by omega), X⟩
  case rest =>
    obtain ⟨⟨pp, rfl⟩, D, V, C, X⟩ := hcut
    rename World => w5
    go_wp2_with fail
    refine (oneC (w.heap.size + 1) w.heap.size _ 4 w5 C (by omega) (by omega) (by omega)).mono ?_
    rintro e w6 ⟨bo, rfl, C, o⟩
    have V := o.vecC (by omega) V
    have D := o.vecC (by omega) D
    have X := Only.ext X o (by omega)
    clear o
    go_upto_if 24 with fail
    go_cut [] (fun wc => (∃ (n : Bool) (d x : Int), Vec wc w2.heap.size [.bool n, .int .i64 d, .int .i64 x] ∧ -1000000000000000000 ≤ d ∧ d ≤ 1000000000000000000) ∧ Vec wc w.heap.size [.bool false, .int .i64 0, .int .i64 0] ∧ Cur wc (w.heap.size + 1) w.heap.size 200 ∧ Ext w wc)
    case first =>
      cases bo
      · go_wp2_with fail
        go_meet
        case rel => exact ⟨⟨n, d, x, D, e0, e1⟩, V, C.more (by omega), X⟩
      · go_wp2_with fail
        refine (pickC (w.heap.size + 1) w.heap.size _ 2000 _ C (by omega) (by omega) (by omega)).mono ?_
        rintro e w7 ⟨z, rfl, ⟨z0, z1⟩, C, o⟩
        have V := o.vecC (by omega) V
        have D := o.vecC (by omega) D
        have X := Only.ext X o (by omega)
        clear o
        go_wp2_with fail
        refine (smallZ _ _ (by omega) (by omega)).mono ?_
        rintro e w8 ⟨rfl, E⟩
        have V := V.later E
        have D := D.later E
        have X := xt X E
        have C := C.ext E
        clear E
        go_wp2_with fail
        refine (pickC (w.heap.size + 1) w.heap.size _ 3 _ C (by omega) (by omega) (by omega)).mono ?_
        rintro e w9 ⟨y, rfl, ⟨y0, y1⟩, C, o⟩
        have V := o.vecC (by omega) V
        have D := o.vecC (by omega) D
        have X := Only.ext X o (by omega)
        clear o
        go_wp2_with fail
        refine (putZ _ _ _ (by omega) (by omega) (by omega) (by omega)).mono ?_
        rintro e w10 ⟨⟨ok, n', d', x', rfl, d0, d1⟩, E⟩
        have V := V.later E
        have D := D.later E
        have X := xt X E
        have C := C.ext E
        clear E
        have FD := fun W => field_dec ok n' d' x' W
        obtain ⟨i0, i1, i2⟩ := D.three
        obtain ⟨j0, j1, j2⟩ := D.threeF
        have DF := ((D.put 0 (by simp) (.bool n')).put 1 (by simp) (.int .i64 d')).put 2 (by simp) (.int .i64 x')
        have VF := ((V.far (p := ⟨w2.heap.size, 0, none⟩) (by show w2.heap.size ≠ w.heap.size; omega) (.bool n')).far (p := ⟨w2.heap.size, 1, none⟩) (by show w2.heap.size ≠ w.heap.size; omega) (.int .i64 d')).far (p := ⟨w2.heap.size, 2, none⟩) (by show w2.heap.size ≠ w.heap.size; omega) (.int .i64 x')
        have CF := ((C.far (g := w2.heap.size) (i := 0) (by omega) (by omega) (.bool n')).far (g := w2.heap.size) (i := 1) (by omega) (by omega) (.int .i64 d')).far (g := w2.heap.size) (i := 2) (by omega) (by omega) (.int .i64 x')
        have XF := xset (xset (xset X (p := ⟨w2.heap.size, 0, none⟩) (by show w.heap.size ≤ w2.heap.size; omega) (.bool n')) (p := ⟨w2.heap.size, 1, none⟩) (by show w.heap.size ≤ w2.heap.size; omega) (.int .i64 d')) (p := ⟨w2.heap.size, 2, none⟩) (by show w.heap.size ≤ w2.heap.size; omega) (.int .i64 x')
        go_wp2_with fail
        go_meet
        case rel => exact ⟨⟨n', d', x', DF, by omega, by omega⟩, VF, CF.more (by omega), XF⟩
    case rest =>
      obtain ⟨⟨n, d, x, D, e0, e1⟩, V, C, X⟩ := hcut
      rename World => w7
      obtain ⟨i0, i1, i2⟩ := D.three
      obtain ⟨a0, a1, a2⟩ := V.three
      obtain ⟨fa0, fa1, fa2⟩ := V.threeF
      have n1 : (w.heap.size = w2.heap.size) = False := eq_false (by omega)
      have n2 : (w2.heap.size = w.heap.size) = False := eq_false (by omega)
      go_wp2_with fail
      go_region_with (refine (pickC (w.heap.size + 1) w.heap.size _ _ _ (by first | exact C | exact C.drewN _) (by omega) (by omega) (by omega)).mono ?_; rintro e w8 ⟨q, rfl, ⟨q0, q1⟩, C, o⟩; have V := o.vecC (by omega) V; have D := o.vecC (by omega) D; have X := Only.ext (by first | exact X | exact xd X) o (by omega); have i0 := (D.three).1; have i1 := (D.three).2.1; have i2 := (D.three).2.2; have a0 := (V.three).1; have a1 := (V.three).2.1; have a2 := (V.three).2.2; have fa0 := V.threeF.1; have fa1 := V.threeF.2.1; have fa2 := V.threeF.2.2; clear o)
      all_goals
        obtain ⟨wy, hy, XF, -, -, r0, r1, r2⟩ := finD5 V X (Nat.le_refl _) n d x
        rw [hy]
        go_wp2_with fail
        exact bodyPost_ret (v := .tuple #[decV n d x, .int .i64 pp, .int .i64 _]) (by simp [results, Tryz.results13, Act.put, go_sem, r0, r1, r2]; rfl) rfl ⟨⟨n, d, x, pp, _, rfl, e0, e1⟩, by first | exact XF | exact xd XF⟩
end Go.Proofs.YtfkihaihbaobeaaGreatDoor

