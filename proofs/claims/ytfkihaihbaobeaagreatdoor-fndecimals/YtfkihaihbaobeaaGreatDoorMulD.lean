/-
  l1Cut, l1MulD.
-/
import Derived.Test.YtfkihaihbaobeaaGreatDoorMg7
import Derived.Test.YtfkihaihbaobeaaGreatDoorMg11
namespace Go.Proofs.YtfkihaihbaobeaaGreatDoor
open Go.RowKit

/-- Limbs as few as can be, at most so many. -/
def CutOut (w : World) (v : Value) (z : Int) (n : Nat) : Prop := ∃ ys, Row w v ys ∧ Lim ys ∧ Top ys ∧ lv ys = z ∧ ys.length ≤ n
theorem CutOut.later {w w1 : World} {v : Value} {z : Int} {n : Nat} (h : CutOut w v z n) (hb : Ext w w1) : CutOut w1 v z n := by
  obtain ⟨ys, h1, h2⟩ := h
  exact ⟨ys, h1.later hb, h2⟩
theorem top_take {xs : List Int} {j : Nat} (hj : j < xs.length) (hz : xs.getD j 0 ≠ 0) : Top (xs.take (j + 1)) := by
  refine .inr ?_
  have e : (xs.take (j + 1)).length - 1 = j := by simp; omega
  rw [e, getD_take (by omega)]
  exact hz
theorem C32.take {w : World} {b o : Nat} {xs : List Int} (h : C32 w b o xs) (k : Nat) : C32 w b o (xs.take k) := fun i hi => by
  have hi' : i < k ∧ i < xs.length := by simpa [Nat.lt_min] using hi
  rw [getD_take hi'.1]
  exact h i hi'.2
theorem Row.take {w : World} {b o cap : Nat} {xs : List Int} (h : C32 w b o xs) (k : Nat) (hk : k ≤ xs.length) (h1 : xs.length ≤ cap) (h2 : cap ≤ 9223372036854775807) : Row w (.slice (some ⟨b, o, none⟩) k cap) (xs.take k) := by
  have e : (xs.take k).length = k := by simp; omega
  exact ⟨_, cap, by rw [e], by omega, h2, .inr ⟨b, o, rfl, h.take k⟩⟩

/-- A slice's cells lie in no block below n. -/
def Off (n : Nat) (v : Value) : Prop := ∀ p k c, v = .slice (some p) k c → n ≤ p.block
theorem Off.nil (n : Nat) (k c : Nat) : Off n (.slice none k c) := fun p k c h => by cases h
theorem Off.at {n b o k c : Nat} (h : n ≤ b) : Off n (.slice (some ⟨b, o, none⟩) k c) := fun p k c e => by cases e; exact h
theorem Off.less {n m : Nat} {v : Value} (h : Off n v) (hm : m ≤ n) : Off m v := fun p k c e => Nat.le_trans hm (h p k c e)

set_option maxHeartbeats 1000000 in
theorem cut_some (b o cap : Nat) (xs : List Int) (w : World) (hc : xs.length ≤ cap) (hcap : cap ≤ 9223372036854775807) (hx : C32 w b o xs) (hl : Lim xs) :
    Calls Tryz.prog 106 #[.slice (some ⟨b, o, none⟩) xs.length cap] w fun e w' => ∃ v', e = .returned v' ∧ CutOut w' v' (lv xs) xs.length ∧ Ext w w' ∧ ∃ k, v' = .slice (some ⟨b, o, none⟩) k cap := by
  go_enter Tryz.func106, Tryz.ntmps106
  go_wp2
  go_loop [3] (fun n => ∃ k : Nat, k ≤ xs.length ∧ n = .int .i64 k ∧ lv (xs.take k) = lv xs) (fun n => (intOf n).toNat)
  case atStart => exact ⟨xs.length, Nat.le_refl _, rfl, by simp⟩
  case round =>
    obtain ⟨k, hk, rfl, hv⟩ := hrel
    have HV : Hid (lv (xs.take k) = lv xs) := hv
    clear hv
    by_cases h0 : k = 0
    · subst h0
      have HR : Hid (Row w (.slice (some ⟨b, o, none⟩) 0 cap) (xs.take 0)) := Row.take hx 0 (by omega) hc hcap
      clear hx
      go_wp2
      go_ret
      exact ⟨_, rfl, ⟨xs.take 0, HR.out, hl.take 0, .inl (by simp), HV.out, by simp⟩, xr _, _, rfl⟩
    · obtain ⟨j, rfl⟩ : ∃ j, k = j + 1 := ⟨k - 1, by omega⟩
      have hj : j < xs.length := by omega
      have hcell := hx j hj
      by_cases hz : xs.getD j 0 = 0
      · rw [hz] at hcell
        have HN : Hid (lv (xs.take j) = lv xs) := by have := HV.out; rw [take_zero_top hj hz] at this; exact this
        clear h0 hz hx
        go_wp2
        go_round
        case rel => exact ⟨j, by omega, by go_num, HN.out⟩
        case measure => simp [intOf]
      · have HT : Hid (Top (xs.take (j + 1))) := top_take hj hz
        have HR : Hid (Row w (.slice (some ⟨b, o, none⟩) (j + 1) cap) (xs.take (j + 1))) := Row.take hx (j + 1) (by omega) hc hcap
        obtain ⟨x, hxj⟩ : ∃ x, xs.getD j 0 = x := ⟨_, rfl⟩
        rw [hxj] at hcell hz
        have hz' : (x == 0) = false := by rw [beq_eq_false_iff_ne]; exact hz
        clear h0 hxj hz hx
        go_wp2
        go_ret
        exact ⟨_, rfl, ⟨xs.take (j + 1), HR.out, hl.take _, HT.out, HV.out, by simp; omega⟩, xr _, _, rfl⟩

set_option maxHeartbeats 1000000 in
theorem cut_none (w : World) :
    Calls Tryz.prog 106 #[.slice none 0 0] w fun e w' => ∃ v', e = .returned v' ∧ CutOut w' v' 0 0 ∧ Ext w w' ∧ v' = .slice none 0 0 := by
  go_enter Tryz.func106, Tryz.ntmps106
  go_wp2
  go_loop [3] (fun n => n = .int .i64 0) (fun _ => 0)
  case atStart => rfl
  case round =>
    subst hrel
    go_wp2
    go_ret
    exact ⟨_, rfl, ⟨[], ⟨none, 0, rfl, Nat.le_refl _, by decide, .inl ⟨rfl, rfl⟩⟩, Lim.nil, .inl rfl, rfl, Nat.le_refl _⟩, xr _, rfl⟩

theorem cut_any {v : Value} {xs : List Int} (w : World) (h : Row w v xs) (hl : Lim xs) :
    Calls Tryz.prog 106 #[v] w fun e w' => ∃ v', e = .returned v' ∧ CutOut w' v' (lv xs) xs.length ∧ Ext w w' ∧ ∀ n, Off n v → Off n v' := by
  obtain ⟨p, cap, rfl, h1, h2, h3⟩ := h
  rcases h3 with ⟨rfl, rfl⟩ | ⟨b, o, rfl, h3⟩
  · obtain rfl : xs = [] := List.eq_nil_of_length_eq_zero (by omega)
    refine (cut_none w).mono ?_
    rintro e w' ⟨v', rfl, hC, hx, rfl⟩
    exact ⟨_, rfl, hC, hx, fun n _ => Off.nil n 0 0⟩
  · refine (cut_some b o cap xs w h1 h2 h3 hl).mono ?_
    rintro e w' ⟨v', rfl, hC, hx, k, rfl⟩
    exact ⟨_, rfl, hC, hx, fun n hn => Off.at (hn _ _ _ rfl)⟩

/-- In the midst of a product by one limb. -/
def MulDAt (xs fs : List Int) (m : Int) (i : Nat) (c : Int) : Prop :=
  fs.length = xs.length + 1 ∧ Lim fs ∧ (∀ j, i ≤ j → fs.getD j 0 = 0) ∧ 0 ≤ c ∧ c < 1000000000 ∧ lv fs + 1000000000 ^ i * c = lv (xs.take i) * m
theorem MulDAt.step {xs fs : List Int} {m : Int} {i : Nat} {c x : Int} (h : MulDAt xs fs m i c) (hi : i < xs.length) (lx : Lim xs) (m0 : 0 ≤ m) (m1 : m < 1000000000) (ex : xs.getD i 0 = x) :
    MulDAt xs (fs.set i ((x * m + c) % 1000000000)) m (i + 1) ((x * m + c) / 1000000000) := by
  obtain ⟨h1, h2, h3, c0, c1, h4⟩ := h
  have hx := lx.getD i
  rw [ex] at hx
  obtain ⟨p0, p1, p2⟩ := mul_sum hx.1 hx.2 m0 m1 (show (0 : Int) ≤ 0 by decide) (by decide) c0 c1
  refine ⟨by simpa using h1, h2.set _ (by omega) (by omega), ?_, by omega, by omega, ?_⟩
  · intro j hj
    rw [getD_set (by omega), if_neg (by omega)]
    exact h3 j (by omega)
  · rw [lv_set _ _ _ (by omega), h3 i (Nat.le_refl _), lv_take_getD xs, ex, Int.pow_succ]
    have e3 : (x * m + c) % 1000000000 + 1000000000 * ((x * m + c) / 1000000000) = x * m + c := Int.emod_add_mul_ediv _ _
    generalize (x * m + c) / 1000000000 = q at *
    generalize (x * m + c) % 1000000000 = r at *
    obtain rfl : r = x * m + c - 1000000000 * q := by omega
    generalize (1000000000 : Int) ^ i = p at *
    generalize lv fs = F at *
    generalize lv (List.take i xs) = X at *
    simp only [Int.sub_zero, Int.mul_add, Int.mul_sub, Int.mul_comm, Int.mul_left_comm] at h4 ⊢
    omega
theorem MulDAt.done {xs fs : List Int} {m c : Int} (h : MulDAt xs fs m xs.length c) : (fs.set xs.length c).length = xs.length + 1 ∧ Lim (fs.set xs.length c) ∧ lv (fs.set xs.length c) = lv xs * m := by
  obtain ⟨h1, h2, h3, c0, c1, h4⟩ := h
  refine ⟨by simpa using h1, h2.set _ c0 c1, ?_⟩
  rw [lv_set _ _ _ (by omega), h3 _ (Nat.le_refl _), Int.sub_zero, h4, List.take_length]

set_option maxHeartbeats 2000000 in
theorem mulD_any {va : Value} {xs : List Int} (m : Int) (w : World) (ha : Row w va xs) (lx : Lim xs) (nx : xs.length ≤ 1000000000) (m0 : 0 ≤ m) (m1 : m < 1000000000) :
    Calls Tryz.prog 105 #[va, .int .u64 m] w fun e w' => ∃ v', e = .returned v' ∧ CutOut w' v' (lv xs * m) (xs.length + 1) ∧ Ext w w' ∧ Off w.heap.size v' := by
  obtain ⟨px, cx, rfl, cx1, cx2, cx3⟩ := ha
  have hmk := run_make_row' (P := Tryz.prog) 44 91 (.int .u32 0) 4 Tryz.underlying44 info32 rfl .i64 .i64 (xs.length + 1) (by omega) (by omega)
  have ec : ((xs.length + 1 : Nat) : Int) = (xs.length : Int) + 1 := by omega
  rw [ec] at hmk
  clear ec
  go_enter Tryz.func105, Tryz.ntmps105
  go_wp2_with fail
  go_loopw [6, 16] (fun c i wr => ∃ (n : Nat) (fs : List Int) (cc : Int), n ≤ xs.length ∧ i = .int .i64 n ∧ c = .int .u64 cc ∧ Own32 wr w.heap.size fs ∧ MulDAt xs fs m n cc ∧ Ext w wr) (fun _ i _ => xs.length - (intOf i).toNat)
  case atStart => exact ⟨0, List.replicate (xs.length + 1) 0, 0, Nat.zero_le _, rfl, rfl, Own32.zeros _ _, ⟨by simp, Lim.zeros _, fun j _ => getD_zeros _ j, by decide, by decide, by simp [lv, lv_replicate]⟩, x1 _ _⟩
  case round =>
    obtain ⟨n, fs, cc, hn, rfl, rfl, ho, hA, X⟩ := hrel
    by_cases hlt : n < xs.length
    · have hlt' : (n : Int) < (xs.length : Int) := by omega
      have hA' := hA
      obtain ⟨a1, a2, a3, a4, a5, _⟩ := hA'
      obtain ⟨x, ex⟩ : ∃ x, xs.getD n 0 = x := ⟨_, rfl⟩
      obtain ⟨x0, x1'⟩ := lx.getD n
      rw [ex] at x0 x1'
      have HN : Hid (MulDAt xs (fs.set n ((x * m + cc) % 1000000000)) m (n + 1) ((x * m + cc) / 1000000000)) := hA.step hlt lx m0 m1 ex
      have kz := World.rowIs.frozen ho n
      have kf := World.rowIs.cell ho (i := n) (by omega)
      have HQ : Hid (Own32 wr w.heap.size fs ∧ n < fs.length) := ⟨ho, by omega⟩
      obtain ⟨bx, ox, rfl, kx⟩ : ∃ b o, px = some ⟨b, o, none⟩ ∧ wr.cell? ⟨b, o + n, none⟩ = some (.int .u32 x) := by
        rcases cx3 with ⟨_, h'⟩ | ⟨b, o, e, k⟩
        · omega
        · exact ⟨b, o, e, by rw [← ex]; exact (k.later X) n hlt⟩
      obtain ⟨p0, p1, p2⟩ := mul_sum x0 x1' m0 m1 (show (0 : Int) ≤ 0 by decide) (by decide) a4 a5
      obtain ⟨P, hP⟩ : ∃ P, x * m = P := ⟨_, rfl⟩
      rw [hP] at HN p0 p1 p2
      rw [Int.zero_add] at p2
      clear ho hA a3 ex cx3 lx hmk
      go_wp2
      go_roundw
      case rel => exact ⟨n + 1, _, _, by omega, by go_num, rfl, HQ.out.1.set _ HQ.out.2 _, HN.out, xset X (Nat.le_refl _) _⟩
      case measure => simp [intOf]; omega
    · obtain rfl : n = xs.length := by omega
      obtain ⟨d1, d2, d3⟩ := hA.done
      have kz := World.rowIs.frozen ho xs.length
      have kf := World.rowIs.cell ho (i := xs.length) (by have := hA.1; omega)
      have O2 := ho.set xs.length (by have := hA.1; omega) cc
      obtain ⟨a1, a2, a3, a4, a5, _⟩ := hA
      have X2 := xset X (p := ⟨w.heap.size, xs.length, none⟩) (Nat.le_refl _) (.int .u32 cc)
      generalize fs.set xs.length cc = gs at *
      have C : C32 (wr.setCell ⟨w.heap.size, xs.length, none⟩ (.int .u32 cc)) w.heap.size 0 gs := fun i hi => by rw [Nat.zero_add]; exact World.rowIs.cell O2 hi
      have HC : Hid (C32 (wr.setCell ⟨w.heap.size, xs.length, none⟩ (.int .u32 cc)) w.heap.size 0 gs) := C
      have HX : Hid (Ext w (wr.setCell ⟨w.heap.size, xs.length, none⟩ (.int .u32 cc))) := X2
      have D3 : Hid (lv gs = lv xs * m) := d3
      clear ho a3 cx3 lx hmk O2 X2 C X d3
      go_wp2_with fail
      go_loop [9] (fun n => ∃ k : Nat, k ≤ gs.length ∧ n = .int .i64 k ∧ lv (gs.take k) = lv gs) (fun n => (intOf n).toNat)
      case atStart => exact ⟨gs.length, Nat.le_refl _, by rw [d1]; go_num, by simp⟩
      case round =>
        obtain ⟨k, hk, rfl, hv⟩ := hrel
        have HV : Hid (lv (gs.take k) = lv gs) := hv
        clear hv
        have hgn : gs.length ≤ 9223372036854775807 := by omega
        by_cases h0 : k = 0
        · subst h0
          have HR : Hid (Row (wr.setCell ⟨w.heap.size, xs.length, none⟩ (.int .u32 cc)) (.slice (some ⟨w.heap.size, 0, none⟩) 0 (xs.length + 1)) (gs.take 0)) := by rw [← d1]; exact Row.take HC.out 0 (by omega) (Nat.le_refl _) hgn
          go_wp2
          go_ret
          exact ⟨_, rfl, ⟨gs.take 0, HR.out, d2.take 0, .inl (by simp), HV.out.trans D3.out, by simp⟩, HX.out, Off.at (Nat.le_refl _)⟩
        · obtain ⟨j, rfl⟩ : ∃ j, k = j + 1 := ⟨k - 1, by omega⟩
          have hj : j < gs.length := by omega
          have hcell := HC.out j hj
          rw [Nat.zero_add] at hcell
          by_cases hz : gs.getD j 0 = 0
          · rw [hz] at hcell
            have HN : Hid (lv (gs.take j) = lv gs) := by have := HV.out; rw [take_zero_top hj hz] at this; exact this
            clear h0 hz
            go_wp2
            go_round
            case rel => exact ⟨j, by omega, by go_num, HN.out⟩
            case measure => simp [intOf]
          · have HT : Hid (Top (gs.take (j + 1))) := top_take hj hz
            have HR : Hid (Row (wr.setCell ⟨w.heap.size, xs.length, none⟩ (.int .u32 cc)) (.slice (some ⟨w.heap.size, 0, none⟩) (j + 1) (xs.length + 1)) (gs.take (j + 1))) := by rw [← d1]; exact Row.take HC.out (j + 1) (by omega) (Nat.le_refl _) hgn
            obtain ⟨x, hxj⟩ : ∃ x, gs.getD j 0 = x := ⟨_, rfl⟩
            rw [hxj] at hcell hz
            have hz' : (x == 0) = false := by rw [beq_eq_false_iff_ne]; exact hz
            clear h0 hxj hz
            go_wp2
            go_ret
            exact ⟨_, rfl, ⟨gs.take (j + 1), HR.out, d2.take _, HT.out, HV.out.trans D3.out, by simp; omega⟩, HX.out, Off.at (Nat.le_refl _)⟩

end Go.Proofs.YtfkihaihbaobeaaGreatDoor

