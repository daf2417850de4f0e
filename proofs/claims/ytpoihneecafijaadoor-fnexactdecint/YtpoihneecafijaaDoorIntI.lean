/-
  The program's DecInt.
-/
import Derived.Test.YtpoihneecafijaaDoorIntNum
import Derived.Test.YtpoihneecafijaaDoorWideB
import Derived.Deep.RegionHeld3
import Derived.Deep.RegionWith
import Derived.Deep.DeepCutAuto
import Derived.Deep.CutBlock
namespace Go.Proofs.YtpoihneecafijaaDoor
open Go.RowKit

theorem product_int (d : Int) (t : Nat) (d0 : 0 ≤ d) (d1 : d < 1000000000000000) (ht : t < 18446744073709551616) (w : World) :
    Calls Tryd.prog 54 #[.int .u64 d, .int .u64 t] w fun e w' => ∃ h l : Nat, e = .returned (.agg #[.int .u64 h, .int .u64 l]) ∧ h < 18446744073709551616 ∧ l < 18446744073709551616 ∧ Hid ((h : Int) * 18446744073709551616 + l = d * t) ∧ Ext w w' := by
  obtain ⟨x, rfl⟩ := Int.eq_ofNat_of_zero_le d0
  refine (product_any x t (by omega) ht w).mono ?_
  rintro e w2 ⟨v, rfl, ⟨h, l, rfl, h1, h2, h3⟩, e2⟩
  exact ⟨h, l, rfl, h1, h2, by rw [← Int.natCast_mul, ← h3]; simp [Hid], e2⟩

theorem ret_two {a b : Int} {c d : Bool} (h : a = b) (k : c = d) : Ending.returned (.tuple #[.int .i64 a, .bool c]) = .returned (.tuple #[.int .i64 b, .bool d]) := by rw [h, k]

set_option maxRecDepth 8000 in
set_option maxHeartbeats 1000000 in
theorem intI (n : Bool) (d e : Int) (w : World) (d1 : -9223372036854775808 ≤ d) (d2 : d ≤ 9223372036854775807) (hT : Tens w) :
    Calls Tryd.prog 39 #[.agg #[.bool n, .int .i64 d, .int .i64 e]] w fun r w' => r = .returned (.tuple #[.int .i64 (intR n d e), .bool (intOk n d e)]) ∧ Ext w w' := by
  go_enter Tryd.func39, Tryd.ntmps39
  go_wp2_with fail
  refine (goodI n d e _ d1 d2 (hT.later (x1 _ _))).mono ?_
  rintro r w1 ⟨rfl, e1⟩
  have B := (Box3.made w (.bool n) (.int .i64 d) (.int .i64 e) 25).later e1
  have T1 := (hT.later (x1 _ _)).later e1
  have X1 := xt (x1 _ _) e1
  have hs : w.heap.size < w1.heap.size := World.block_lt_of_cell? _ _ B.1.1
  clear e1 hT
  have B' := B
  obtain ⟨⟨p0, p1, p2⟩, f0, f1, f2⟩ := B'
  cases hg : goodB n d e
  · have H := intOk_bad hg
    have H2 : Hid (intR n d e = 0) := intR_no H
    have H1 : Hid (intOk n d e = false) := H
    clear H hg
    go_wp2_with fail
    go_ret2
    exact ⟨ret_two H2.out.symm H1.out.symm, X1⟩
  · obtain ⟨g0, g1, g2⟩ := good_range hg
    clear g2
    by_cases he : 0 ≤ e ∧ e ≤ 19
    · obtain ⟨i, rfl⟩ := Int.eq_ofNat_of_zero_le he.1
      obtain ⟨t, et, t1, ct⟩ := T1.at (i := i) (by omega)
      have i1 : i ≤ 19 := by omega
      have i2 : (i : Int) < 20 := by omega
      have HV : Hid (d * 10 ^ (i : Int).toNat = d * (t : Int)) := by rw [Int.toNat_natCast, ← et]; simp [Hid]
      have HG : Hid (goodB n d (i : Int) = true) := hg
      have i0 : (0 : Int) ≤ (i : Int) := by omega
      have hwd : IntKind.u64.wrap d = d := by rw [IntKind.wrap_u64]; omega
      have ne0 := World.new_ne w1 _ p0
      have ne1 := World.new_ne w1 _ p1
      have ne2 := World.new_ne w1 _ p2
      have ne3 := World.new_ne w1 _ ct
      have CT : ∀ {w2 : World}, Ext w1 w2 → w2.cell? ⟨0, i, none⟩ = some (.int .u64 t) := fun x => cell_later x ct
      clear hg he et T1 d1 d2
      go_wp2_with fail
      go_cut [4] (fun v wc => ∃ b h l : Nat, v = .pointer (some ⟨b, 0, none⟩) ∧ Box2 wc b (.int .u64 h) (.int .u64 l) ∧ h < 18446744073709551616 ∧ l < 18446744073709551616 ∧ Hid ((h : Int) * 18446744073709551616 + l = d * t) ∧ Ext w1 wc)
      case first =>
        go_region_held3 (fun w' => (w'.cell? ⟨w.heap.size, 0, none⟩ = some (.bool n) ∧ w'.cell? ⟨w.heap.size, 1, none⟩ = some (.int .i64 d) ∧ w'.cell? ⟨w.heap.size, 2, none⟩ = some (.int .i64 i)) ∧ w'.cell? ⟨0, i, none⟩ = some (.int .u64 t)) (go_keep) (first
          | (go_at_call 54; refine (product_int d t g0 g1 t1 _).mono ?_; rintro e w2 ⟨h, l, rfl, h1, h2, H3, e2⟩; have X2 : Ext w1 w2 := xt (by first | exact xd (xr _) | exact xa (xd (xr _)) _ | exact xd (xa (xr _) _) | exact xa (xr _) _ | exact xr _) e2; obtain ⟨⟨k0, k1, k2⟩, _⟩ := B.later X2; have k3 := CT X2; (first | (have RB : Box2 w2 w1.heap.size (.int .u64 0) (.int .u64 0) := (by exact (Box2.made w1 (.int .u64 0) (.int .u64 0) 56).later (xt (xd (xr _)) e2)); obtain ⟨⟨r0, r1⟩, s0, s1⟩ := RB) | skip)))
        · go_wp2_with fail
          go_meet
          case rel => exact ⟨_, h, l, rfl, Box2.made w2 _ _ _, h1, h2, H3, xa X2 _⟩
        · go_wp2_with fail
          go_meet
          case rel =>
            refine ⟨_, h, l, rfl, ?_, h1, h2, H3, xset (xset X2 (Nat.le_refl _) _) (Nat.le_refl _) _⟩
            refine ⟨⟨?_, ?_⟩, ?_, ?_⟩ <;> simp [go_sem, r0, r1, s0, s1]
      case rest =>
        obtain ⟨b, h, l, rfl, B2, h1, h2, h3, X2⟩ := hcut
        obtain ⟨⟨q0, q1⟩, _⟩ := B2
        obtain ⟨⟨k0, k1, k2⟩, _⟩ := B.later X2
        by_cases hok : d * (t : Int) ≤ 9223372036854775807
        · obtain rfl : h = 0 := by have := h3.out; omega
          have hl : (l : Int) ≤ 9223372036854775807 := by have := h3.out; omega
          have H := intOk_yes HG.out ⟨i0, by omega, by rw [HV.out]; exact hok⟩
          have H1 : Hid (intOk n d i = true) := H
          have H2 : Hid (intR n d i = sgn n (l : Int)) := by
            rw [intR_yes H, HV.out]
            have e3 : d * (t : Int) = l := by have := h3.out; omega
            rw [e3]
            rfl
          clear H hok h3 CT ne0 ne1 ne2 ne3 f0 f1 f2 p0 p1 p2 g0 g1 hwd ct
          cases n
          · go_wp2_with fail
            go_ret2
            exact ⟨ret_two H2.out.symm H1.out.symm, xt X1 X2⟩
          · go_wp2_with fail
            go_ret2
            exact ⟨ret_two H2.out.symm H1.out.symm, xt X1 X2⟩
        · have H := intOk_out (n := n) (d := d) (e := (i : Int)) (fun hh => hok (by rw [← HV.out]; exact hh.2.2))
          have H1 : Hid (intOk n d i = false) := H
          have H2 : Hid (intR n d i = 0) := intR_no H
          by_cases hh : h = 0
          · subst hh
            have hl : 9223372036854775807 < (l : Int) := by have := h3.out; omega
            clear H hok h3 CT ne0 ne1 ne2 ne3 f0 f1 f2 p0 p1 p2 g0 g1 hwd ct
            go_wp2_with fail
            go_ret2
            exact ⟨ret_two H2.out.symm H1.out.symm, xt X1 X2⟩
          · have hh' : ((h : Int) == 0) = false := by rw [beq_eq_false_iff_ne]; omega
            clear H hok h3 CT ne0 ne1 ne2 ne3 f0 f1 f2 p0 p1 p2 g0 g1 hwd ct
            go_wp2_with fail
            go_ret2
            exact ⟨ret_two H2.out.symm H1.out.symm, xt X1 X2⟩
    · have H := intOk_out (n := n) (d := d) (e := e) (fun h => he ⟨h.1, h.2.1⟩)
      have H2 : Hid (intR n d e = 0) := intR_no H
      have H1 : Hid (intOk n d e = false) := H
      clear H hg
      by_cases h0 : e < 0
      · clear he
        go_wp2_with fail
        go_ret2
        exact ⟨ret_two H2.out.symm H1.out.symm, X1⟩
      · have h19 : 19 < e := by omega
        clear he
        go_wp2_with fail
        go_ret2
        exact ⟨ret_two H2.out.symm H1.out.symm, X1⟩

end Go.Proofs.YtpoihneecafijaaDoor
