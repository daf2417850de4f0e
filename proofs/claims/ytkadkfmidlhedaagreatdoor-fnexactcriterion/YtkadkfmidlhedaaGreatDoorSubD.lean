/-
  l1SubD: a difference by limbs.
-/
import Derived.Test.YtkadkfmidlhedaaGreatDoorMul
import Derived.Test.YtkadkfmidlhedaaGreatDoorMg0
namespace Go.Proofs.YtkadkfmidlhedaaGreatDoor
open Go.RowKit

set_option maxHeartbeats 2000000 in
theorem subD_any {va vb : Value} {xs ys : List Int} (w : World) (ha : Row w va xs) (hb : Row w vb ys) (lx : Lim xs) (ly : Lim ys) (nx : xs.length ≤ 1000000000) (nyx : ys.length ≤ xs.length) (hle : lv ys ≤ lv xs) :
    Calls Tryz.prog 218 #[va, vb] w fun e w' => ∃ v' fs, e = .returned v' ∧ Row w' v' fs ∧ Lim fs ∧ lv fs = lv xs - lv ys ∧ fs.length = xs.length ∧ Ext w w' ∧ ∃ k c, v' = .slice (some ⟨w.heap.size, 0, none⟩) k c := by
  obtain ⟨px, cx, rfl, cx1, cx2, cx3⟩ := ha
  obtain ⟨py, cy, rfl, cy1, cy2, cy3⟩ := hb
  have hmk := run_make_row' (P := Tryz.prog) 131 163 (.int .u32 0) 4 Tryz.underlying131 info32 rfl .i64 .i64 xs.length (by omega) (by omega)
  have HL : Hid (lv ys ≤ lv xs) := hle
  clear hle
  go_enter Tryz.func218, Tryz.ntmps218
  go_wp2_with fail
  go_loopw [6, 14] (fun c i wr => ∃ (m : Nat) (fs : List Int) (cc : Int), m ≤ xs.length ∧ i = .int .i64 m ∧ c = .int .i64 cc ∧ Own32 wr w.heap.size fs ∧ SubAt xs ys fs m cc ∧ Ext w wr) (fun _ i _ => xs.length - (intOf i).toNat)
  case atStart => exact ⟨0, List.replicate xs.length 0, 0, Nat.zero_le _, rfl, rfl, Own32.zeros _ _, SubAt.start _ _, x1 _ _⟩
  case round =>
    obtain ⟨m, fs, cc, hm, rfl, rfl, ho, hA, X⟩ := hrel
    by_cases hlt : m < xs.length
    · have hlt' : (m : Int) < (xs.length : Int) := by omega
      have hA' := hA
      obtain ⟨a1, a2, a3, a4, a5, _⟩ := hA'
      obtain ⟨x, ex⟩ : ∃ x, xs.getD m 0 = x := ⟨_, rfl⟩
      obtain ⟨y, ey⟩ : ∃ y, ys.getD m 0 = y := ⟨_, rfl⟩
      obtain ⟨x0, x1'⟩ := lx.getD m
      obtain ⟨y0, y1'⟩ := ly.getD m
      rw [ex] at x0 x1'
      rw [ey] at y0 y1'
      have HE : Hid (xs.getD m 0 = x ∧ ys.getD m 0 = y) := ⟨ex, ey⟩
      have kf := World.rowIs.cell ho (i := m) (by omega)
      have kz := World.rowIs.frozen ho m
      have HQ : Hid (Own32 wr w.heap.size fs ∧ m < fs.length) := ⟨ho, by omega⟩
      obtain ⟨bx, ox, rfl, kx⟩ : ∃ b o, px = some ⟨b, o, none⟩ ∧ wr.cell? ⟨b, o + m, none⟩ = some (.int .u32 x) := by
        rcases cx3 with ⟨_, h'⟩ | ⟨b, o, e, k⟩
        · omega
        · exact ⟨b, o, e, by rw [← ex]; exact (k.later X) m hlt⟩
      have KY : Hid (m < ys.length → ∃ b o, py = some ⟨b, o, none⟩ ∧ wr.cell? ⟨b, o + m, none⟩ = some (.int .u32 y)) := fun h => by
        rcases cy3 with ⟨_, h'⟩ | ⟨b, o, e, k⟩
        · omega
        · exact ⟨b, o, e, by rw [← ey]; exact (k.later X) m h⟩
      have EY : Hid (¬ m < ys.length → y = 0) := fun h => by rw [← ey, List.getD_eq_getElem?_getD, List.getElem?_eq_none (by omega)]; rfl
      clear ho a3 ex ey cx3 cy3 lx ly hmk HL
      by_cases hy : m < ys.length
      · obtain ⟨bv, ov, rfl, ky⟩ := KY.out hy
        clear KY EY
        by_cases hneg : x - cc - y < 0
        · have hs : x - cc - y < 0 := by omega
          have HN : Hid (SubAt xs ys (fs.set m (x - cc - y + 1000000000)) (m + 1) 1) := by
            refine hA.step hlt (by decide) (by decide) ?_ (by omega) (by omega)
            rw [HE.out.1, HE.out.2]; omega
          clear hA
          go_wp2
          go_roundw
          case rel => exact ⟨m + 1, _, _, by omega, by go_num, rfl, HQ.out.1.set _ HQ.out.2 _, HN.out, xset X (Nat.le_refl _) _⟩
          case measure => simp [intOf]; omega
        · have hs : 0 ≤ x - cc - y := by omega
          have HN : Hid (SubAt xs ys (fs.set m (x - cc - y)) (m + 1) 0) := by
            refine hA.step hlt (by decide) (by decide) ?_ (by omega) (by omega)
            rw [HE.out.1, HE.out.2]; omega
          clear hA
          go_wp2
          go_roundw
          case rel => exact ⟨m + 1, _, _, by omega, by go_num, rfl, HQ.out.1.set _ HQ.out.2 _, HN.out, xset X (Nat.le_refl _) _⟩
          case measure => simp [intOf]; omega
      · obtain rfl := EY.out hy
        clear KY EY
        by_cases hneg : x - cc < 0
        · have hs : x - cc < 0 := by omega
          have HN : Hid (SubAt xs ys (fs.set m (x - cc + 1000000000)) (m + 1) 1) := by
            refine hA.step hlt (by decide) (by decide) ?_ (by omega) (by omega)
            rw [HE.out.1, HE.out.2]; omega
          clear hA
          go_wp2
          go_roundw
          case rel => exact ⟨m + 1, _, _, by omega, by go_num, rfl, HQ.out.1.set _ HQ.out.2 _, HN.out, xset X (Nat.le_refl _) _⟩
          case measure => simp [intOf]; omega
        · have hs : 0 ≤ x - cc := by omega
          have HN : Hid (SubAt xs ys (fs.set m (x - cc)) (m + 1) 0) := by
            refine hA.step hlt (by decide) (by decide) ?_ (by omega) (by omega)
            rw [HE.out.1, HE.out.2]; omega
          clear hA
          go_wp2
          go_roundw
          case rel => exact ⟨m + 1, _, _, by omega, by go_num, rfl, HQ.out.1.set _ HQ.out.2 _, HN.out, xset X (Nat.le_refl _) _⟩
          case measure => simp [intOf]; omega
    · obtain rfl : m = xs.length := by omega
      have hd := hA.done nyx HL.out
      have hl := hA.1
      have hlim := hA.2.1
      have R := ho.row (by omega)
      rw [hl] at R
      have HR : Hid (Row wr (.slice (some ⟨w.heap.size, 0, none⟩) xs.length xs.length) fs ∧ Lim fs ∧ lv fs = lv xs - lv ys ∧ fs.length = xs.length) := ⟨R, hlim, hd, hl⟩
      clear R hlim hd hl ho hA cx3 cy3 lx ly hmk
      go_wp2
      go_ret
      exact ⟨_, fs, rfl, HR.out.1, HR.out.2.1, HR.out.2.2.1, HR.out.2.2.2, X, _, _, rfl⟩

end Go.Proofs.YtkadkfmidlhedaaGreatDoor

