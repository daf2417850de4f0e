/-
  Several texts in one: CmpD, DivNum.
-/
import Derived.Test.YtfkihaihbaobeaaGreatDoorZval
import Derived.Test.YtfkihaihbaobeaaGreatDoorMg5
import Derived.Deep.QuietTactic
import Derived.BigQuiet
import Derived.Test.YtfkihaihbaobeaaGreatDoorMg6
namespace Go.Proofs.YtfkihaihbaobeaaGreatDoor
open Go.RowKit

theorem xdrewN {a b : World} (h : Ext a b) (n : Nat) : Ext a (b.drewN n) := ⟨h.os, h.tape, h.output, h.size, h.block⟩

set_option maxHeartbeats 2000000 in
theorem cmpD_any {va vb : Value} {xs ys : List Int} (w : World) (ha : Row w va xs) (hb : Row w vb ys) (lx : Lim xs) (ly : Lim ys) (tx : Top xs) (ty : Top ys) :
    Calls Tryz.prog 81 #[va, vb] w fun e w' => e = .returned (.int .i64 (cmpI (lv xs) (lv ys))) ∧ Ext w w' := by
  obtain ⟨px, cx, rfl, cx1, cx2, cx3⟩ := ha
  obtain ⟨py, cy, rfl, cy1, cy2, cy3⟩ := hb
  by_cases hl : xs.length < ys.length
  · have H := cmpI_lt (lv_len lx ly (ty.resolve_left (by omega)) hl)
    have h1 : (((xs.length : Int) != (ys.length : Int))) = true := by rw [bne_iff_ne]; omega
    have h2 : (xs.length : Int) < (ys.length : Int) := by omega
    rw [H]
    clear cx3 cy3 lx ly tx ty H
    go_enter Tryz.func81, Tryz.ntmps81
    go_wp2
    go_ret
    exact ⟨rfl, xr _⟩
  · by_cases hg : ys.length < xs.length
    · have H := cmpI_gt (lv_len ly lx (tx.resolve_left (by omega)) hg)
      have h1 : (((xs.length : Int) != (ys.length : Int))) = true := by rw [bne_iff_ne]; omega
      have h2 : ¬ (xs.length : Int) < (ys.length : Int) := by omega
      rw [H]
      clear cx3 cy3 lx ly tx ty H
      go_enter Tryz.func81, Tryz.ntmps81
      go_wp2
      go_ret
      exact ⟨rfl, xr _⟩
    · have he : ys.length = xs.length := by omega
      have h1 : (((xs.length : Int) != (xs.length : Int))) = false := by simp
      rw [he] at cy1 ⊢
      have HE : Hid (ys.length = xs.length) := he
      clear hl hg he tx ty
      go_enter Tryz.func81, Tryz.ntmps81
      go_wp2_with fail
      go_loopw [5] (fun i wr => ∃ m : Nat, m ≤ xs.length ∧ i = .int .i64 ((m : Int) - 1) ∧ xs.drop m = ys.drop m ∧ Ext w wr) (fun i _ => (intOf i + 1).toNat)
      case atStart => exact ⟨xs.length, Nat.le_refl _, rfl, by rw [List.drop_eq_nil_of_le (Nat.le_refl _), List.drop_eq_nil_of_le (by rw [HE.out]; exact Nat.le_refl _)], xr _⟩
      case round =>
        obtain ⟨m, hm, rfl, hd, X⟩ := hrel
        by_cases h0 : m = 0
        · subst h0
          have H : Hid (cmpI (lv xs) (lv ys) = 0) := by
            simp only [List.drop_zero] at hd
            rw [hd]; exact cmpI_eq _
          clear cx3 cy3 hd
          go_wp2
          go_ret
          exact ⟨ret_int H.out.symm, X⟩
        · obtain ⟨j, rfl⟩ : ∃ j, m = j + 1 := ⟨m - 1, by omega⟩
          have hj : j < xs.length := by omega
          obtain ⟨bx, ox, rfl, kx⟩ : ∃ b o, px = some ⟨b, o, none⟩ ∧ C32 w b o xs := by
            rcases cx3 with ⟨_, h⟩ | h
            · omega
            · exact h
          obtain ⟨by1, oy, rfl, ky⟩ : ∃ b o, py = some ⟨b, o, none⟩ ∧ C32 w b o ys := by
            rcases cy3 with ⟨_, h⟩ | h
            · omega
            · exact h
          have fx := (kx.later X) j hj
          have fy := (ky.later X) j (by rw [HE.out]; exact hj)
          have HT : Hid (xs.getD j 0 < ys.getD j 0 → lv xs < lv ys) := fun h => lv_top lx ly hj (by rw [HE.out]; exact hj) hd h
          have HG : Hid (ys.getD j 0 < xs.getD j 0 → lv ys < lv xs) := fun h => lv_top ly lx (by rw [HE.out]; exact hj) hj hd.symm h
          have HS : Hid (xs.getD j 0 = ys.getD j 0 → xs.drop j = ys.drop j) := fun h => drop_step hj (by rw [HE.out]; exact hj) hd h
          obtain ⟨x, ex⟩ : ∃ x, xs.getD j 0 = x := ⟨_, rfl⟩
          obtain ⟨y, ey⟩ : ∃ y, ys.getD j 0 = y := ⟨_, rfl⟩
          rw [ex] at fx HT HG HS
          rw [ey] at fy HT HG HS
          have ej : (((j + 1 : Nat) : Int) - 1) = (j : Int) := by omega
          rw [ej]
          have hj' : (j : Int) < (xs.length : Int) := by omega
          clear cx3 cy3 kx ky hd lx ly ex ey ej h0
          by_cases hxy : x < y
          · have H : Hid (cmpI (lv xs) (lv ys) = -1) := cmpI_lt (HT.out hxy)
            go_wp2_with fail
            go_quiet (fail)
            go_wp2
            go_ret
            exact ⟨ret_int H.out.symm, xdrewN X _⟩
          · by_cases hyx : y < x
            · have H : Hid (cmpI (lv xs) (lv ys) = 1) := cmpI_gt (HG.out hyx)
              go_wp2_with fail
              go_quiet (fail)
              go_wp2_with fail
              go_quiet (fail)
              go_wp2
              go_ret
              exact ⟨ret_int H.out.symm, xdrewN (xdrewN X _) _⟩
            · have H : Hid (xs.drop j = ys.drop j) := HS.out (by omega)
              go_wp2_with fail
              go_quiet (fail)
              go_wp2_with fail
              go_quiet (fail)
              go_wp2
              go_roundw
              case rel => exact ⟨j, by omega, by go_num, H.out, xdrewN X _⟩
              case measure => simp [intOf]

end Go.Proofs.YtfkihaihbaobeaaGreatDoor

namespace Go.Proofs.YtfkihaihbaobeaaGreatDoor

theorem lv_drop_getD (xs : List Int) (i : Nat) (h : i < xs.length) : lv (xs.drop i) = xs.getD i 0 + 1000000000 * lv (xs.drop (i + 1)) := by
  rw [List.drop_eq_getElem_cons h]
  simp [lv, h]

/-- In the midst of a division: the limbs from n on are divided, R is left. -/
def DivAt (xs bs qs : List Int) (n : Nat) (R : Int) : Prop :=
  qs.length = xs.length + 1 ∧ Lim qs ∧ lv (xs.drop n) = lv (qs.drop n) * lv bs + R ∧ 0 ≤ R ∧ R < lv bs ∧ (∀ j, j < n → qs.getD j 0 = 0) ∧ qs.getD xs.length 0 = 0

theorem DivAt.start (xs bs : List Int) (hb : 0 < lv bs) : DivAt xs bs (List.replicate (xs.length + 1) 0) xs.length 0 := by
  refine ⟨by simp, Lim.zeros _, ?_, by omega, hb, fun j _ => getD_zeros _ j, getD_zeros _ _⟩
  rw [List.drop_eq_nil_of_le (Nat.le_refl _), List.drop_replicate, lv_replicate]
  simp [lv]

theorem DivAt.step {xs bs qs : List Int} {i : Nat} {R g R' x : Int} (h : DivAt xs bs qs (i + 1) R) (hi : i < xs.length) (ex : xs.getD i 0 = x) (g0 : 0 ≤ g) (g1 : g < 1000000000) (hR : R' = x + 1000000000 * R - g * lv bs) (r0 : 0 ≤ R') (r1 : R' < lv bs) :
    DivAt xs bs (qs.set i g) i R' := by
  obtain ⟨h1, h2, h3, _, _, h6, h7⟩ := h
  refine ⟨by simpa using h1, h2.set _ g0 g1, ?_, r0, r1, ?_, ?_⟩
  · rw [lv_drop_getD xs i hi, ex, h3, lv_drop_getD (qs.set i g) i (by simp; omega), getD_set (by omega), if_pos rfl, List.drop_set_of_lt (by omega), hR]
    generalize lv (qs.drop (i + 1)) = Q at *
    generalize lv bs = B at *
    simp only [Int.add_mul, Int.mul_add, Int.mul_assoc]
    omega
  · intro j hj
    rw [getD_set (by omega), if_neg (by omega)]
    exact h6 j (by omega)
  · rw [getD_set (by omega), if_neg (by omega)]
    exact h7

/-- A step that finds nothing to take: the limb stays nought. -/
theorem DivAt.skip {xs bs qs : List Int} {i : Nat} {R x : Int} (h : DivAt xs bs qs (i + 1) R) (hi : i < xs.length) (lx : Lim xs) (ex : xs.getD i 0 = x) (r1 : x + 1000000000 * R < lv bs) :
    DivAt xs bs qs i (x + 1000000000 * R) := by
  obtain ⟨h1, h2, h3, h4, _, h6, h7⟩ := h
  have hx := lx.getD i
  rw [ex] at hx
  refine ⟨h1, h2, ?_, by omega, r1, fun j hj => h6 j (by omega), h7⟩
  rw [lv_drop_getD xs i hi, ex, h3, lv_drop_getD qs i (by omega), h6 i (by omega)]
  generalize lv (qs.drop (i + 1)) = Q at *
  generalize lv bs = B at *
  simp only [Int.mul_add, Int.zero_add, Int.mul_assoc]
  omega

theorem DivAt.done {xs bs qs : List Int} {R : Int} (h : DivAt xs bs qs 0 R) : lv xs = lv qs * lv bs + R := by
  have := h.2.2.1
  simpa using this

theorem len_mono {bs ps : List Int} (lb : Lim bs) (lp : Lim ps) (tb : bs.length = 0 ∨ bs.getD (bs.length - 1) 0 ≠ 0) (h : lv bs ≤ lv ps) : bs.length ≤ ps.length := by
  by_cases hl : bs.length ≤ ps.length
  · exact hl
  · have := lv_len lp lb (tb.resolve_left (by omega)) (by omega)
    omega

/-- The highest limb of b, and what it says. -/
theorem top_ge {bs : List Int} (lb : Lim bs) (hb : 0 < bs.length) : bs.getD (bs.length - 1) 0 * 1000000000 ^ (bs.length - 1) ≤ lv bs := by
  rw [lv_split bs (bs.length - 1) (by omega), List.drop_eq_nil_of_le (by omega)]
  have := lv_nonneg (lb.take (bs.length - 1))
  simp only [lv, Int.mul_zero, Int.add_zero]
  rw [Int.mul_comm]
  omega

theorem cancel_lt {a b p : Int} (hp : 0 < p) (h : a * p < b * p) : a < b := (Int.mul_lt_mul_right hp).1 h

/-- The guess out of one limb is not too small. -/
theorem guess1 {rs bs : List Int} {t : Int} (lr : Lim rs) (lb : Lim bs) (hL : rs.length = bs.length) (hb : 0 < bs.length) (ht : 0 < bs.getD (bs.length - 1) 0) (t0 : 0 ≤ t) (h : t * lv bs ≤ lv rs) :
    t ≤ rs.getD (rs.length - 1) 0 / bs.getD (bs.length - 1) 0 := by
  have hB := top_ge lb hb
  have hR : lv rs < (rs.getD (rs.length - 1) 0 + 1) * 1000000000 ^ (bs.length - 1) := by
    rw [lv_split rs (rs.length - 1) (by omega), List.drop_eq_nil_of_le (by omega)]
    have h1 := lv_lt (lr.take (rs.length - 1))
    have e : (rs.take (rs.length - 1)).length = rs.length - 1 := by simp
    rw [e] at h1
    rw [hL] at h1 ⊢
    simp only [lv, Int.mul_zero, Int.add_zero, Int.add_mul, Int.one_mul]
    rw [Int.mul_comm (rs.getD (bs.length - 1) 0)]
    omega
  generalize rs.getD (rs.length - 1) 0 = r at *
  generalize bs.getD (bs.length - 1) 0 = b at *
  have hp := pos_pow (bs.length - 1)
  generalize (1000000000 : Int) ^ (bs.length - 1) = p at *
  have h2 : t * (b * p) ≤ t * lv bs := Int.mul_le_mul_of_nonneg_left hB t0
  have h3 : t * b * p < (r + 1) * p := by rw [Int.mul_assoc]; omega
  have h4 := cancel_lt hp h3
  exact (Int.le_ediv_iff_mul_le ht).2 (by omega)

/-- The guess out of two limbs is not too small. -/
theorem guess2 {rs bs : List Int} {t : Int} (lr : Lim rs) (lb : Lim bs) (hL : rs.length = bs.length + 1) (hb : 0 < bs.length) (ht : 0 < bs.getD (bs.length - 1) 0) (t0 : 0 ≤ t) (h : t * lv bs ≤ lv rs) :
    t ≤ (rs.getD (rs.length - 1) 0 * 1000000000 + rs.getD (rs.length - 2) 0) / bs.getD (bs.length - 1) 0 := by
  have hB := top_ge lb hb
  have e2 : rs.length - 2 + 1 = rs.length - 1 := by omega
  have e3 : rs.length - 2 = bs.length - 1 := by omega
  have hR : lv rs < (rs.getD (rs.length - 1) 0 * 1000000000 + rs.getD (rs.length - 2) 0 + 1) * 1000000000 ^ (bs.length - 1) := by
    rw [lv_split rs (rs.length - 2) (by omega), e2, lv_drop_getD rs (rs.length - 1) (by omega), List.drop_eq_nil_of_le (by omega)]
    have h1 := lv_lt (lr.take (rs.length - 2))
    have e : (rs.take (rs.length - 2)).length = rs.length - 2 := by simp
    rw [e] at h1
    rw [e3] at h1 ⊢
    simp only [lv, Int.mul_zero, Int.add_zero]
    generalize rs.getD (rs.length - 1) 0 = r at *
    generalize rs.getD (bs.length - 1) 0 = s at *
    generalize (1000000000 : Int) ^ (bs.length - 1) = p at *
    generalize lv (List.take (bs.length - 1) rs) = X at *
    simp only [Int.mul_add, Int.mul_comm, Int.mul_left_comm]
    omega
  generalize rs.getD (rs.length - 1) 0 * 1000000000 + rs.getD (rs.length - 2) 0 = r at *
  generalize bs.getD (bs.length - 1) 0 = b at *
  have hp := pos_pow (bs.length - 1)
  generalize (1000000000 : Int) ^ (bs.length - 1) = p at *
  have h2 : t * (b * p) ≤ t * lv bs := Int.mul_le_mul_of_nonneg_left hB t0
  have h3 : t * b * p < (r + 1) * p := by rw [Int.mul_assoc]; omega
  have h4 := cancel_lt hp h3
  exact (Int.le_ediv_iff_mul_le ht).2 (by omega)

/-- No guess need be above nine nines. -/
theorem guess_cap {B rho t : Int} (hB : 0 < B) (hr : rho < B * 1000000000) (h : t * B ≤ rho) : t ≤ 999999999 := by
  have h1 : t * B < 1000000000 * B := by rw [Int.mul_comm 1000000000 B]; omega
  have := cancel_lt hB h1
  omega

/-- What the search keeps: the guess is not too small; where it stops it is the quotient. -/
theorem search_next {B rho g : Int} (hub : ∀ t, 0 ≤ t → t * B ≤ rho → t ≤ g) (hg : rho < g * B) : ∀ t, 0 ≤ t → t * B ≤ rho → t ≤ g - 1 := fun t h0 h => by
  have h1 := hub t h0 h
  by_cases e : t = g
  · subst e; omega
  · omega
theorem search_stop {B rho g : Int} (g0 : 0 ≤ g) (hub : ∀ t, 0 ≤ t → t * B ≤ rho → t ≤ g) : rho - g * B < B := by
  by_cases h : rho - g * B < B
  · exact h
  · have := hub (g + 1) (by omega) (by rw [Int.add_mul, Int.one_mul]; omega)
    omega
theorem search_pos {B rho g : Int} (r0 : 0 ≤ rho) (g0 : 0 ≤ g) (h : rho < g * B) : 1 ≤ g := by
  by_cases e : g = 0
  · subst e; simp at h; omega
  · omega

/-- In the midst of a division by one limb. -/
def Div1At (rs fs : List Int) (k : Int) (n : Nat) (c : Int) : Prop :=
  fs.length = rs.length ∧ Lim fs ∧ 0 ≤ c ∧ c < k ∧ lv (rs.drop n) = lv (fs.drop n) * k + c ∧ (∀ j, j < n → fs.getD j 0 = 0)
theorem Div1At.start (rs : List Int) (k : Int) (hk : 0 < k) : Div1At rs (List.replicate rs.length 0) k rs.length 0 := by
  refine ⟨by simp, Lim.zeros _, by omega, hk, ?_, fun j _ => getD_zeros _ j⟩
  rw [List.drop_eq_nil_of_le (Nat.le_refl _), List.drop_replicate, lv_replicate]
  simp [lv]
theorem Div1At.step {rs fs : List Int} {k : Int} {i : Nat} {c x : Int} (h : Div1At rs fs k (i + 1) c) (hi : i < rs.length) (lr : Lim rs) (hk : 0 < k) (ex : rs.getD i 0 = x) :
    Div1At rs (fs.set i ((c * 1000000000 + x) / k)) k i ((c * 1000000000 + x) % k) ∧ 0 ≤ (c * 1000000000 + x) / k ∧ (c * 1000000000 + x) / k < 1000000000 := by
  obtain ⟨h1, h2, h3, h4, h5, h6⟩ := h
  have hx := lr.getD i
  rw [ex] at hx
  have q0 : 0 ≤ (c * 1000000000 + x) / k := Int.ediv_nonneg (by omega) (by omega)
  have q1 : (c * 1000000000 + x) / k < 1000000000 := by
    refine (Int.ediv_lt_iff_lt_mul hk).2 ?_
    have : c * 1000000000 + 1000000000 ≤ k * 1000000000 := by omega
    omega
  refine ⟨⟨by simpa using h1, h2.set _ q0 q1, Int.emod_nonneg _ (by omega), Int.emod_lt_of_pos _ hk, ?_, ?_⟩, q0, q1⟩
  · rw [lv_drop_getD rs i hi, ex, h5, lv_drop_getD (fs.set i _) i (by simp; omega), getD_set (by omega), if_pos rfl, List.drop_set_of_lt (by omega)]
    have e3 : (c * 1000000000 + x) % k + k * ((c * 1000000000 + x) / k) = c * 1000000000 + x := Int.emod_add_mul_ediv _ _
    generalize (c * 1000000000 + x) / k = q at *
    generalize (c * 1000000000 + x) % k = r at *
    generalize lv (fs.drop (i + 1)) = F at *
    rw [Int.mul_comm k q] at e3
    simp only [Int.add_mul, Int.mul_add, Int.mul_assoc]
    generalize F * k = Fk at *
    generalize q * k = qk at *
    omega
  · intro j hj
    rw [getD_set (by omega), if_neg (by omega)]
    exact h6 j (by omega)
theorem Div1At.done {rs fs : List Int} {k c : Int} (h : Div1At rs fs k 0 c) : lv rs = lv fs * k + c := by
  have := h.2.2.2.2.1
  simpa using this

/-- The whole division, out of its parts. -/
theorem div_whole {a b k q R r c : Int} (hk : 0 < k) (h1 : a * k = q * (b * k) + R) (h2 : 0 ≤ R) (h3 : R < b * k) (h4 : R = r * k + c) (c0 : 0 ≤ c) (c1 : c < k) : q = a / b ∧ r = a % b := by
  have e : (a - q * b - r) * k = c := by
    rw [Int.sub_mul, Int.sub_mul, Int.mul_assoc]
    omega
  have hz : a - q * b - r = 0 := by
    by_cases hp : a - q * b - r = 0
    · exact hp
    · by_cases hn : a - q * b - r < 0
      · have : (a - q * b - r) * k ≤ -1 * k := Int.mul_le_mul_of_nonneg_right (by omega) (by omega)
        omega
      · have : 1 * k ≤ (a - q * b - r) * k := Int.mul_le_mul_of_nonneg_right (by omega) (by omega)
        omega
  have hc : c = 0 := by rw [hz] at e; simpa using e.symm
  have r0 : 0 ≤ r := by
    by_cases h : 0 ≤ r
    · exact h
    · have : r * k ≤ -1 * k := Int.mul_le_mul_of_nonneg_right (by omega) (by omega)
      omega
  have r1 : r < b := cancel_lt hk (by omega)
  have hb : 0 < b := by omega
  have ea : a = r + b * q := by rw [Int.mul_comm b q]; omega
  constructor
  · rw [ea, Int.add_mul_ediv_left _ _ (by omega), Int.ediv_eq_zero_of_lt r0 r1]; omega
  · rw [ea, Int.add_mul_emod_self_left, Int.emod_eq_of_lt r0 r1]

end Go.Proofs.YtfkihaihbaobeaaGreatDoor

