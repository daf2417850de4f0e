/-
  l1AddD, l1SubD: sums and differences by limbs.
-/
import Derived.Test.YtkadkfmidlhedaaGreatDoorMul
import Derived.Test.YtkadkfmidlhedaaGreatDoorMg0
namespace Go.Proofs.YtkadkfmidlhedaaGreatDoor
open Go.RowKit

set_option maxHeartbeats 2000000 in
theorem addD_any {va vb : Value} {xs ys : List Int} (w : World) (ha : Row w va xs) (hb : Row w vb ys) (lx : Lim xs) (ly : Lim ys) (nx : xs.length ≤ 1000000000) (ny : ys.length ≤ 1000000000) :
    Calls Tryz.prog 217 #[va, vb] w fun e w' => ∃ v' fs, e = .returned v' ∧ Row w' v' fs ∧ Lim fs ∧ lv fs = lv xs + lv ys ∧ Ext w w' := by
  obtain ⟨px, cx, rfl, cx1, cx2, cx3⟩ := ha
  obtain ⟨py, cy, rfl, cy1, cy2, cy3⟩ := hb
  by_cases hab : xs.length < ys.length
  · have hab' : (xs.length : Int) < (ys.length : Int) := by omega
    have hmk := run_make_row' (P := Tryz.prog) 131 163 (.int .u32 0) 4 Tryz.underlying131 info32 rfl .i64 .i64 (ys.length + 1) (by omega) (by omega)
    have ec : ((ys.length + 1 : Nat) : Int) = (ys.length : Int) + 1 := by omega
    rw [ec] at hmk
    clear ec
    go_enter Tryz.func217, Tryz.ntmps217
    go_wp2_with fail
    go_loopw [7, 8] (fun c i wr => ∃ (m : Nat) (fs : List Int) (cc : Int), m ≤ ys.length + 1 ∧ i = .int .i64 m ∧ c = .int .u64 cc ∧ Own32 wr w.heap.size fs ∧ AddAt xs ys fs ys.length m cc ∧ Ext w wr) (fun _ i _ => ys.length + 1 - (intOf i).toNat)
    case atStart => exact ⟨0, List.replicate (ys.length + 1) 0, 0, Nat.zero_le _, rfl, rfl, Own32.zeros _ _, AddAt.start _ _ _, x1 _ _⟩
    case round =>
      obtain ⟨m, fs, cc, hm, rfl, rfl, ho, hA, X⟩ := hrel
      by_cases hlt : m ≤ ys.length
      · have hlt' : (m : Int) ≤ (ys.length : Int) := by omega
        have hA' := hA
        obtain ⟨a1, a2, a3, a4, a5, _⟩ := hA'
        obtain ⟨x, ex⟩ : ∃ x, xs.getD m 0 = x := ⟨_, rfl⟩
        obtain ⟨y, ey⟩ : ∃ y, ys.getD m 0 = y := ⟨_, rfl⟩
        obtain ⟨x0, x1'⟩ := lx.getD m
        obtain ⟨y0, y1'⟩ := ly.getD m
        rw [ex] at x0 x1'
        rw [ey] at y0 y1'
        have HN : Hid (AddAt xs ys (fs.set m ((cc + x + y) % 1000000000)) ys.length (m + 1) ((cc + x + y) / 1000000000)) := hA.step hlt lx ly ex ey
        have kf := World.rowIs.cell ho (i := m) (by omega)
        have kz := World.rowIs.frozen ho m
        have HQ : Hid (Own32 wr w.heap.size fs ∧ m < fs.length) := ⟨ho, by omega⟩
        have hfl : (m : Int) < (fs.length : Int) := by omega
        have KX : Hid (m < xs.length → ∃ b o, px = some ⟨b, o, none⟩ ∧ wr.cell? ⟨b, o + m, none⟩ = some (.int .u32 x)) := fun h => by
          rcases cx3 with ⟨_, h'⟩ | ⟨b, o, e, k⟩
          · omega
          · exact ⟨b, o, e, by rw [← ex]; exact (k.later X) m h⟩
        have KY : Hid (m < ys.length → ∃ b o, py = some ⟨b, o, none⟩ ∧ wr.cell? ⟨b, o + m, none⟩ = some (.int .u32 y)) := fun h => by
          rcases cy3 with ⟨_, h'⟩ | ⟨b, o, e, k⟩
          · omega
          · exact ⟨b, o, e, by rw [← ey]; exact (k.later X) m h⟩
        have EX : Hid (¬ m < xs.length → x = 0) := fun h => by rw [← ex, List.getD_eq_getElem?_getD, List.getElem?_eq_none (by omega)]; rfl
        have EY : Hid (¬ m < ys.length → y = 0) := fun h => by rw [← ey, List.getD_eq_getElem?_getD, List.getElem?_eq_none (by omega)]; rfl
        clear ho hA a3 ex ey cx3 cy3 lx ly hmk
        by_cases hx : m < xs.length
        · obtain ⟨bx, ox, rfl, kx⟩ := KX.out hx
          by_cases hy : m < ys.length
          · obtain ⟨bv, ov, rfl, ky⟩ := KY.out hy
            go_wp2
            go_roundw
            case rel => exact ⟨m + 1, _, _, by omega, by go_num, rfl, HQ.out.1.set _ HQ.out.2 _, HN.out, xset X (Nat.le_refl _) _⟩
            case measure => simp [intOf]; omega
          · exact absurd hx (by omega)
        · obtain rfl := EX.out hx
          rw [Int.add_zero] at HN
          by_cases hy : m < ys.length
          · obtain ⟨bv, ov, rfl, ky⟩ := KY.out hy
            go_wp2
            go_roundw
            case rel => exact ⟨m + 1, _, _, by omega, by go_num, rfl, HQ.out.1.set _ HQ.out.2 _, HN.out, xset X (Nat.le_refl _) _⟩
            case measure => simp [intOf]; omega
          · obtain rfl := EY.out hy
            rw [Int.add_zero] at HN
            go_wp2
            go_roundw
            case rel => exact ⟨m + 1, _, _, by omega, by go_num, rfl, HQ.out.1.set _ HQ.out.2 _, HN.out, xset X (Nat.le_refl _) _⟩
            case measure => simp [intOf]; omega
      · obtain rfl : m = ys.length + 1 := by omega
        have hd := hA.done lx ly (by omega) (by omega)
        have hl := hA.1
        have hlim := hA.2.1
        have R := ho.row (by omega)
        rw [hl] at R
        have HR : Hid (Row wr (.slice (some ⟨w.heap.size, 0, none⟩) (ys.length + 1) (ys.length + 1)) fs ∧ Lim fs ∧ lv fs = lv xs + lv ys) := ⟨R, hlim, hd⟩
        have hlt' : ¬ ((ys.length : Int) + 1 ≤ (ys.length : Int)) := by omega
        clear R hlim hd hl ho hA cx3 cy3 lx ly hmk
        go_wp2
        go_ret
        exact ⟨_, rfl, fs, HR.out.1, HR.out.2.1, HR.out.2.2, X⟩
  · have hab' : ¬ (xs.length : Int) < (ys.length : Int) := by omega
    have hmk := run_make_row' (P := Tryz.prog) 131 163 (.int .u32 0) 4 Tryz.underlying131 info32 rfl .i64 .i64 (xs.length + 1) (by omega) (by omega)
    have ec : ((xs.length + 1 : Nat) : Int) = (xs.length : Int) + 1 := by omega
    rw [ec] at hmk
    clear ec
    go_enter Tryz.func217, Tryz.ntmps217
    go_wp2_with fail
    go_loopw [7, 8] (fun c i wr => ∃ (m : Nat) (fs : List Int) (cc : Int), m ≤ xs.length + 1 ∧ i = .int .i64 m ∧ c = .int .u64 cc ∧ Own32 wr w.heap.size fs ∧ AddAt xs ys fs xs.length m cc ∧ Ext w wr) (fun _ i _ => xs.length + 1 - (intOf i).toNat)
    case atStart => exact ⟨0, List.replicate (xs.length + 1) 0, 0, Nat.zero_le _, rfl, rfl, Own32.zeros _ _, AddAt.start _ _ _, x1 _ _⟩
    case round =>
      obtain ⟨m, fs, cc, hm, rfl, rfl, ho, hA, X⟩ := hrel
      by_cases hlt : m ≤ xs.length
      · have hlt' : (m : Int) ≤ (xs.length : Int) := by omega
        have hA' := hA
        obtain ⟨a1, a2, a3, a4, a5, _⟩ := hA'
        obtain ⟨x, ex⟩ : ∃ x, xs.getD m 0 = x := ⟨_, rfl⟩
        obtain ⟨y, ey⟩ : ∃ y, ys.getD m 0 = y := ⟨_, rfl⟩
        obtain ⟨x0, x1'⟩ := lx.getD m
        obtain ⟨y0, y1'⟩ := ly.getD m
        rw [ex] at x0 x1'
        rw [ey] at y0 y1'
        have HN : Hid (AddAt xs ys (fs.set m ((cc + x + y) % 1000000000)) xs.length (m + 1) ((cc + x + y) / 1000000000)) := hA.step hlt lx ly ex ey
        have kf := World.rowIs.cell ho (i := m) (by omega)
        have kz := World.rowIs.frozen ho m
        have HQ : Hid (Own32 wr w.heap.size fs ∧ m < fs.length) := ⟨ho, by omega⟩
        have hfl : (m : Int) < (fs.length : Int) := by omega
        have KX : Hid (m < xs.length → ∃ b o, px = some ⟨b, o, none⟩ ∧ wr.cell? ⟨b, o + m, none⟩ = some (.int .u32 x)) := fun h => by
          rcases cx3 with ⟨_, h'⟩ | ⟨b, o, e, k⟩
          · omega
          · exact ⟨b, o, e, by rw [← ex]; exact (k.later X) m h⟩
        have KY : Hid (m < ys.length → ∃ b o, py = some ⟨b, o, none⟩ ∧ wr.cell? ⟨b, o + m, none⟩ = some (.int .u32 y)) := fun h => by
          rcases cy3 with ⟨_, h'⟩ | ⟨b, o, e, k⟩
          · omega
          · exact ⟨b, o, e, by rw [← ey]; exact (k.later X) m h⟩
        have EX : Hid (¬ m < xs.length → x = 0) := fun h => by rw [← ex, List.getD_eq_getElem?_getD, List.getElem?_eq_none (by omega)]; rfl
        have EY : Hid (¬ m < ys.length → y = 0) := fun h => by rw [← ey, List.getD_eq_getElem?_getD, List.getElem?_eq_none (by omega)]; rfl
        clear ho hA a3 ex ey cx3 cy3 lx ly hmk
        by_cases hx : m < xs.length
        · obtain ⟨bx, ox, rfl, kx⟩ := KX.out hx
          by_cases hy : m < ys.length
          · obtain ⟨bv, ov, rfl, ky⟩ := KY.out hy
            go_wp2
            go_roundw
            case rel => exact ⟨m + 1, _, _, by omega, by go_num, rfl, HQ.out.1.set _ HQ.out.2 _, HN.out, xset X (Nat.le_refl _) _⟩
            case measure => simp [intOf]; omega
          · obtain rfl := EY.out hy
            rw [Int.add_zero] at HN
            go_wp2
            go_roundw
            case rel => exact ⟨m + 1, _, _, by omega, by go_num, rfl, HQ.out.1.set _ HQ.out.2 _, HN.out, xset X (Nat.le_refl _) _⟩
            case measure => simp [intOf]; omega
        · obtain rfl := EX.out hx
          rw [Int.add_zero] at HN
          by_cases hy : m < ys.length
          · exact absurd hx (by omega)
          · obtain rfl := EY.out hy
            rw [Int.add_zero] at HN
            go_wp2
            go_roundw
            case rel => exact ⟨m + 1, _, _, by omega, by go_num, rfl, HQ.out.1.set _ HQ.out.2 _, HN.out, xset X (Nat.le_refl _) _⟩
            case measure => simp [intOf]; omega
      · obtain rfl : m = xs.length + 1 := by omega
        have hd := hA.done lx ly (by omega) (by omega)
        have hl := hA.1
        have hlim := hA.2.1
        have R := ho.row (by omega)
        rw [hl] at R
        have HR : Hid (Row wr (.slice (some ⟨w.heap.size, 0, none⟩) (xs.length + 1) (xs.length + 1)) fs ∧ Lim fs ∧ lv fs = lv xs + lv ys) := ⟨R, hlim, hd⟩
        have hlt' : ¬ ((xs.length : Int) + 1 ≤ (xs.length : Int)) := by omega
        clear R hlim hd hl ho hA cx3 cy3 lx ly hmk
        go_wp2
        go_ret
        exact ⟨_, rfl, fs, HR.out.1, HR.out.2.1, HR.out.2.2, X⟩

end Go.Proofs.YtkadkfmidlhedaaGreatDoor

