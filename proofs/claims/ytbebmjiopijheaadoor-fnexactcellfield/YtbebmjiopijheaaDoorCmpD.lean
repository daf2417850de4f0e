/-
  l1CmpD: limbs against limbs.
-/
import Derived.Test.YtbebmjiopijheaaDoorZval
import Derived.Test.YtbebmjiopijheaaDoorCmpNum
import Derived.Deep.QuietTactic
import Derived.BigQuiet
namespace Go.Proofs.YtbebmjiopijheaaDoor
open Go.RowKit

theorem xdrewN {a b : World} (h : Ext a b) (n : Nat) : Ext a (b.drewN n) := ⟨h.os, h.tape, h.output, h.size, h.block⟩

set_option maxHeartbeats 2000000 in
theorem cmpD_any {va vb : Value} {xs ys : List Int} (w : World) (ha : Row w va xs) (hb : Row w vb ys) (lx : Lim xs) (ly : Lim ys) (tx : Top xs) (ty : Top ys) :
    Calls Tryd.prog 66 #[va, vb] w fun e w' => e = .returned (.int .i64 (cmpI (lv xs) (lv ys))) ∧ Ext w w' := by
  obtain ⟨px, cx, rfl, cx1, cx2, cx3⟩ := ha
  obtain ⟨py, cy, rfl, cy1, cy2, cy3⟩ := hb
  by_cases hl : xs.length < ys.length
  · have H := cmpI_lt (lv_len lx ly (ty.resolve_left (by omega)) hl)
    have h1 : (((xs.length : Int) != (ys.length : Int))) = true := by rw [bne_iff_ne]; omega
    have h2 : (xs.length : Int) < (ys.length : Int) := by omega
    rw [H]
    clear cx3 cy3 lx ly tx ty H
    go_enter Tryd.func66, Tryd.ntmps66
    go_wp2
    go_ret
    exact ⟨rfl, xr _⟩
  · by_cases hg : ys.length < xs.length
    · have H := cmpI_gt (lv_len ly lx (tx.resolve_left (by omega)) hg)
      have h1 : (((xs.length : Int) != (ys.length : Int))) = true := by rw [bne_iff_ne]; omega
      have h2 : ¬ (xs.length : Int) < (ys.length : Int) := by omega
      rw [H]
      clear cx3 cy3 lx ly tx ty H
      go_enter Tryd.func66, Tryd.ntmps66
      go_wp2
      go_ret
      exact ⟨rfl, xr _⟩
    · have he : ys.length = xs.length := by omega
      have h1 : (((xs.length : Int) != (xs.length : Int))) = false := by simp
      rw [he] at cy1 ⊢
      have HE : Hid (ys.length = xs.length) := he
      clear hl hg he tx ty
      go_enter Tryd.func66, Tryd.ntmps66
      go_wp2_with fail
      go_loopw [5] (fun i wr => ∃ m : Nat, m ≤ xs.length ∧ i = .int .i64 ((m : Int) - 1) ∧ xs.drop m = ys.drop m ∧ Ext w wr) (fun i _ => (intOf i + 1).toNat)
      case atStart => exact ⟨xs.length, Nat.le_refl _, rfl, by rw [List.drop_eq_nil_of_le (Nat.le_refl _), List.drop_eq_nil_of_le (by rw [HE.out]; exact Nat.le_refl _)], xr _⟩
      case round =>
        obtain ⟨m, hm, rfl, hd, X⟩ := hrel
        by_cases h0 : m = 0
        · subst h0
          have H : Hid (cmpI (lv xs) (lv ys) = 0) := by
            simp only [List.drop_zero] at hd
            rw [hd]; exact cmpI_eq _
          clear cx3 cy3 hd
          go_wp2
          go_ret
          exact ⟨ret_int H.out.symm, X⟩
        · obtain ⟨j, rfl⟩ : ∃ j, m = j + 1 := ⟨m - 1, by omega⟩
          have hj : j < xs.length := by omega
          obtain ⟨bx, ox, rfl, kx⟩ : ∃ b o, px = some ⟨b, o, none⟩ ∧ C32 w b o xs := by
            rcases cx3 with ⟨_, h⟩ | h
            · omega
            · exact h
          obtain ⟨by1, oy, rfl, ky⟩ : ∃ b o, py = some ⟨b, o, none⟩ ∧ C32 w b o ys := by
            rcases cy3 with ⟨_, h⟩ | h
            · omega
            · exact h
          have fx := (kx.later X) j hj
          have fy := (ky.later X) j (by rw [HE.out]; exact hj)
          have HT : Hid (xs.getD j 0 < ys.getD j 0 → lv xs < lv ys) := fun h => lv_top lx ly hj (by rw [HE.out]; exact hj) hd h
          have HG : Hid (ys.getD j 0 < xs.getD j 0 → lv ys < lv xs) := fun h => lv_top ly lx (by rw [HE.out]; exact hj) hj hd.symm h
          have HS : Hid (xs.getD j 0 = ys.getD j 0 → xs.drop j = ys.drop j) := fun h => drop_step hj (by rw [HE.out]; exact hj) hd h
          obtain ⟨x, ex⟩ : ∃ x, xs.getD j 0 = x := ⟨_, rfl⟩
          obtain ⟨y, ey⟩ : ∃ y, ys.getD j 0 = y := ⟨_, rfl⟩
          rw [ex] at fx HT HG HS
          rw [ey] at fy HT HG HS
          have ej : (((j + 1 : Nat) : Int) - 1) = (j : Int) := by omega
          rw [ej]
          have hj' : (j : Int) < (xs.length : Int) := by omega
          clear cx3 cy3 kx ky hd lx ly ex ey ej h0
          by_cases hxy : x < y
          · have H : Hid (cmpI (lv xs) (lv ys) = -1) := cmpI_lt (HT.out hxy)
            go_wp2_with fail
            go_quiet (fail)
            go_wp2
            go_ret
            exact ⟨ret_int H.out.symm, xdrewN X _⟩
          · by_cases hyx : y < x
            · have H : Hid (cmpI (lv xs) (lv ys) = 1) := cmpI_gt (HG.out hyx)
              go_wp2_with fail
              go_quiet (fail)
              go_wp2_with fail
              go_quiet (fail)
              go_wp2
              go_ret
              exact ⟨ret_int H.out.symm, xdrewN (xdrewN X _) _⟩
            · have H : Hid (xs.drop j = ys.drop j) := HS.out (by omega)
              go_wp2_with fail
              go_quiet (fail)
              go_wp2_with fail
              go_quiet (fail)
              go_wp2
              go_roundw
              case rel => exact ⟨j, by omega, by go_num, H.out, xdrewN X _⟩
              case measure => simp [intOf]

end Go.Proofs.YtbebmjiopijheaaDoor

