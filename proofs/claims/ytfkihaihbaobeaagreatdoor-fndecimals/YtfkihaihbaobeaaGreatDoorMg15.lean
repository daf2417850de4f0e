/-
  Several texts in one: AddD, TextNum.
-/
import Derived.Test.YtfkihaihbaobeaaGreatDoorMg7
import Derived.Test.YtfkihaihbaobeaaGreatDoorMg11
namespace Go.Proofs.YtfkihaihbaobeaaGreatDoor
open Go.RowKit

set_option maxHeartbeats 2000000 in
theorem addD_any {va vb : Value} {xs ys : List Int} (w : World) (ha : Row w va xs) (hb : Row w vb ys) (lx : Lim xs) (ly : Lim ys) (nx : xs.length ≤ 1000000000) (ny : ys.length ≤ 1000000000) :
    Calls Tryz.prog 82 #[va, vb] w fun e w' => ∃ v' fs, e = .returned v' ∧ Row w' v' fs ∧ Lim fs ∧ lv fs = lv xs + lv ys ∧ Ext w w' := by
  obtain ⟨px, cx, rfl, cx1, cx2, cx3⟩ := ha
  obtain ⟨py, cy, rfl, cy1, cy2, cy3⟩ := hb
  by_cases hab : xs.length < ys.length
  · have hab' : (xs.length : Int) < (ys.length : Int) := by omega
    have hmk := run_make_row' (P := Tryz.prog) 44 91 (.int .u32 0) 4 Tryz.underlying44 info32 rfl .i64 .i64 (ys.length + 1) (by omega) (by omega)
    have ec : ((ys.length + 1 : Nat) : Int) = (ys.length : Int) + 1 := by omega
    rw [ec] at hmk
    clear ec
    go_enter Tryz.func82, Tryz.ntmps82
    go_wp2_with fail
    go_loopw [7, 8] (fun c i wr => ∃ (m : Nat) (fs : List Int) (cc : Int), m ≤ ys.length + 1 ∧ i = .int .i64 m ∧ c = .int .u64 cc ∧ Own32 wr w.heap.size fs ∧ AddAt xs ys fs ys.length m cc ∧ Ext w wr) (fun _ i _ => ys.length + 1 - (intOf i).toNat)
    case atStart => exact ⟨0, List.replicate (ys.length + 1) 0, 0, Nat.zero_le _, rfl, rfl, Own32.zeros _ _, AddAt.start _ _ _, x1 _ _⟩
    case round =>
      obtain ⟨m, fs, cc, hm, rfl, rfl, ho, hA, X⟩ := hrel
      by_cases hlt : m ≤ ys.length
      · have hlt' : (m : Int) ≤ (ys.length : Int) := by omega
        have hA' := hA
        obtain ⟨a1, a2, a3, a4, a5, _⟩ := hA'
        obtain ⟨x, ex⟩ : ∃ x, xs.getD m 0 = x := ⟨_, rfl⟩
        obtain ⟨y, ey⟩ : ∃ y, ys.getD m 0 = y := ⟨_, rfl⟩
        obtain ⟨x0, x1'⟩ := lx.getD m
        obtain ⟨y0, y1'⟩ := ly.getD m
        rw [ex] at x0 x1'
        rw [ey] at y0 y1'
        have HN : Hid (AddAt xs ys (fs.set m ((cc + x + y) % 1000000000)) ys.length (m + 1) ((cc + x + y) / 1000000000)) := hA.step hlt lx ly ex ey
        have kf := World.rowIs.cell ho (i := m) (by omega)
        have kz := World.rowIs.frozen ho m
        have HQ : Hid (Own32 wr w.heap.size fs ∧ m < fs.length) := ⟨ho, by omega⟩
        have hfl : (m : Int) < (fs.length : Int) := by omega
        have KX : Hid (m < xs.length → ∃ b o, px = some ⟨b, o, none⟩ ∧ wr.cell? ⟨b, o + m, none⟩ = some (.int .u32 x)) := fun h => by
          rcases cx3 with ⟨_, h'⟩ | ⟨b, o, e, k⟩
          · omega
          · exact ⟨b, o, e, by rw [← ex]; exact (k.later X) m h⟩
        have KY : Hid (m < ys.length → ∃ b o, py = some ⟨b, o, none⟩ ∧ wr.cell? ⟨b, o + m, none⟩ = some (.int .u32 y)) := fun h => by
          rcases cy3 with ⟨_, h'⟩ | ⟨b, o, e, k⟩
          · omega
          · exact ⟨b, o, e, by rw [← ey]; exact (k.later X) m h⟩
        have EX : Hid (¬ m < xs.length → x = 0) := fun h => by rw [← ex, List.getD_eq_getElem?_getD, List.getElem?_eq_none (by omega)]; rfl
        have EY : Hid (¬ m < ys.length → y = 0) := fun h => by rw [← ey, List.getD_eq_getElem?_getD, List.getElem?_eq_none (by omega)]; rfl
        clear ho hA a3 ex ey cx3 cy3 lx ly hmk
        by_cases hx : m < xs.length
        · obtain ⟨bx, ox, rfl, kx⟩ := KX.out hx
          by_cases hy : m < ys.length
          · obtain ⟨bv, ov, rfl, ky⟩ := KY.out hy
            go_wp2
            go_roundw
            case rel => exact ⟨m + 1, _, _, by omega, by go_num, rfl, HQ.out.1.set _ HQ.out.2 _, HN.out, xset X (Nat.le_refl _) _⟩
            case measure => simp [intOf]; omega
          · exact absurd hx (by omega)
        · obtain rfl := EX.out hx
          rw [Int.add_zero] at HN
          by_cases hy : m < ys.length
          · obtain ⟨bv, ov, rfl, ky⟩ := KY.out hy
            go_wp2
            go_roundw
            case rel => exact ⟨m + 1, _, _, by omega, by go_num, rfl, HQ.out.1.set _ HQ.out.2 _, HN.out, xset X (Nat.le_refl _) _⟩
            case measure => simp [intOf]; omega
          · obtain rfl := EY.out hy
            rw [Int.add_zero] at HN
            go_wp2
            go_roundw
            case rel => exact ⟨m + 1, _, _, by omega, by go_num, rfl, HQ.out.1.set _ HQ.out.2 _, HN.out, xset X (Nat.le_refl _) _⟩
            case measure => simp [intOf]; omega
      · obtain rfl : m = ys.length + 1 := by omega
        have hd := hA.done lx ly (by omega) (by omega)
        have hl := hA.1
        have hlim := hA.2.1
        have R := ho.row (by omega)
        rw [hl] at R
        have HR : Hid (Row wr (.slice (some ⟨w.heap.size, 0, none⟩) (ys.length + 1) (ys.length + 1)) fs ∧ Lim fs ∧ lv fs = lv xs + lv ys) := ⟨R, hlim, hd⟩
        have hlt' : ¬ ((ys.length : Int) + 1 ≤ (ys.length : Int)) := by omega
        clear R hlim hd hl ho hA cx3 cy3 lx ly hmk
        go_wp2
        go_ret
        exact ⟨_, rfl, fs, HR.out.1, HR.out.2.1, HR.out.2.2, X⟩
  · have hab' : ¬ (xs.length : Int) < (ys.length : Int) := by omega
    have hmk := run_make_row' (P := Tryz.prog) 44 91 (.int .u32 0) 4 Tryz.underlying44 info32 rfl .i64 .i64 (xs.length + 1) (by omega) (by omega)
    have ec : ((xs.length + 1 : Nat) : Int) = (xs.length : Int) + 1 := by omega
    rw [ec] at hmk
    clear ec
    go_enter Tryz.func82, Tryz.ntmps82
    go_wp2_with fail
    go_loopw [7, 8] (fun c i wr => ∃ (m : Nat) (fs : List Int) (cc : Int), m ≤ xs.length + 1 ∧ i = .int .i64 m ∧ c = .int .u64 cc ∧ Own32 wr w.heap.size fs ∧ AddAt xs ys fs xs.length m cc ∧ Ext w wr) (fun _ i _ => xs.length + 1 - (intOf i).toNat)
    case atStart => exact ⟨0, List.replicate (xs.length + 1) 0, 0, Nat.zero_le _, rfl, rfl, Own32.zeros _ _, AddAt.start _ _ _, x1 _ _⟩
    case round =>
      obtain ⟨m, fs, cc, hm, rfl, rfl, ho, hA, X⟩ := hrel
      by_cases hlt : m ≤ xs.length
      · have hlt' : (m : Int) ≤ (xs.length : Int) := by omega
        have hA' := hA
        obtain ⟨a1, a2, a3, a4, a5, _⟩ := hA'
        obtain ⟨x, ex⟩ : ∃ x, xs.getD m 0 = x := ⟨_, rfl⟩
        obtain ⟨y, ey⟩ : ∃ y, ys.getD m 0 = y := ⟨_, rfl⟩
        obtain ⟨x0, x1'⟩ := lx.getD m
        obtain ⟨y0, y1'⟩ := ly.getD m
        rw [ex] at x0 x1'
        rw [ey] at y0 y1'
        have HN : Hid (AddAt xs ys (fs.set m ((cc + x + y) % 1000000000)) xs.length (m + 1) ((cc + x + y) / 1000000000)) := hA.step hlt lx ly ex ey
        have kf := World.rowIs.cell ho (i := m) (by omega)
        have kz := World.rowIs.frozen ho m
        have HQ : Hid (Own32 wr w.heap.size fs ∧ m < fs.length) := ⟨ho, by omega⟩
        have hfl : (m : Int) < (fs.length : Int) := by omega
        have KX : Hid (m < xs.length → ∃ b o, px = some ⟨b, o, none⟩ ∧ wr.cell? ⟨b, o + m, none⟩ = some (.int .u32 x)) := fun h => by
          rcases cx3 with ⟨_, h'⟩ | ⟨b, o, e, k⟩
          · omega
          · exact ⟨b, o, e, by rw [← ex]; exact (k.later X) m h⟩
        have KY : Hid (m < ys.length → ∃ b o, py = some ⟨b, o, none⟩ ∧ wr.cell? ⟨b, o + m, none⟩ = some (.int .u32 y)) := fun h => by
          rcases cy3 with ⟨_, h'⟩ | ⟨b, o, e, k⟩
          · omega
          · exact ⟨b, o, e, by rw [← ey]; exact (k.later X) m h⟩
        have EX : Hid (¬ m < xs.length → x = 0) := fun h => by rw [← ex, List.getD_eq_getElem?_getD, List.getElem?_eq_none (by omega)]; rfl
        have EY : Hid (¬ m < ys.length → y = 0) := fun h => by rw [← ey, List.getD_eq_getElem?_getD, List.getElem?_eq_none (by omega)]; rfl
        clear ho hA a3 ex ey cx3 cy3 lx ly hmk
        by_cases hx : m < xs.length
        · obtain ⟨bx, ox, rfl, kx⟩ := KX.out hx
          by_cases hy : m < ys.length
          · obtain ⟨bv, ov, rfl, ky⟩ := KY.out hy
            go_wp2
            go_roundw
            case rel => exact ⟨m + 1, _, _, by omega, by go_num, rfl, HQ.out.1.set _ HQ.out.2 _, HN.out, xset X (Nat.le_refl _) _⟩
            case measure => simp [intOf]; omega
          · obtain rfl := EY.out hy
            rw [Int.add_zero] at HN
            go_wp2
            go_roundw
            case rel => exact ⟨m + 1, _, _, by omega, by go_num, rfl, HQ.out.1.set _ HQ.out.2 _, HN.out, xset X (Nat.le_refl _) _⟩
            case measure => simp [intOf]; omega
        · obtain rfl := EX.out hx
          rw [Int.add_zero] at HN
          by_cases hy : m < ys.length
          · exact absurd hx (by omega)
          · obtain rfl := EY.out hy
            rw [Int.add_zero] at HN
            go_wp2
            go_roundw
            case rel => exact ⟨m + 1, _, _, by omega, by go_num, rfl, HQ.out.1.set _ HQ.out.2 _, HN.out, xset X (Nat.le_refl _) _⟩
            case measure => simp [intOf]; omega
      · obtain rfl : m = xs.length + 1 := by omega
        have hd := hA.done lx ly (by omega) (by omega)
        have hl := hA.1
        have hlim := hA.2.1
        have R := ho.row (by omega)
        rw [hl] at R
        have HR : Hid (Row wr (.slice (some ⟨w.heap.size, 0, none⟩) (xs.length + 1) (xs.length + 1)) fs ∧ Lim fs ∧ lv fs = lv xs + lv ys) := ⟨R, hlim, hd⟩
        have hlt' : ¬ ((xs.length : Int) + 1 ≤ (xs.length : Int)) := by omega
        clear R hlim hd hl ho hA cx3 cy3 lx ly hmk
        go_wp2
        go_ret
        exact ⟨_, rfl, fs, HR.out.1, HR.out.2.1, HR.out.2.2, X⟩

end Go.Proofs.YtfkihaihbaobeaaGreatDoor

namespace Go.Proofs.YtfkihaihbaobeaaGreatDoor

/-- What digits say, the lowest first. -/
def dv : List Int → Int
  | [] => 0
  | x :: xs => x + 10 * dv xs
def D10 (xs : List Int) : Prop := ∀ x ∈ xs, 0 ≤ x ∧ x < 10
theorem D10.nil : D10 [] := fun _ h => by cases h
theorem D10.snoc {xs : List Int} {x : Int} (h : D10 xs) (h0 : 0 ≤ x) (h1 : x < 10) : D10 (xs ++ [x]) := fun y hy => by
  rcases List.mem_append.1 hy with hy | hy
  · exact h y hy
  · obtain rfl : y = x := by simpa using hy
    exact ⟨h0, h1⟩
theorem D10.take {xs : List Int} (h : D10 xs) (n : Nat) : D10 (xs.take n) := fun y hy => h y (List.mem_of_mem_take hy)
theorem D10.getD {xs : List Int} (h : D10 xs) (i : Nat) : 0 ≤ xs.getD i 0 ∧ xs.getD i 0 < 10 := by
  by_cases hi : i < xs.length
  · rw [List.getD_eq_getElem?_getD, List.getElem?_eq_getElem hi]
    exact h _ (List.getElem_mem hi)
  · rw [List.getD_eq_getElem?_getD, List.getElem?_eq_none (by omega)]
    simp
theorem dv_app : ∀ (xs ys : List Int), dv (xs ++ ys) = dv xs + 10 ^ xs.length * dv ys
  | [], ys => by simp [dv]
  | x :: xs, ys => by
    simp only [List.cons_append, dv, dv_app xs ys, List.length_cons, Int.pow_succ]
    rw [Int.mul_add, Int.mul_comm (10 ^ xs.length) 10, ← Int.mul_assoc]
    omega
theorem dv_snoc (xs : List Int) (x : Int) : dv (xs ++ [x]) = dv xs + 10 ^ xs.length * x := by
  rw [dv_app]
  simp [dv]
theorem take_snoc (xs : List Int) (i : Nat) (h : i < xs.length) : xs.take (i + 1) = xs.take i ++ [xs.getD i 0] := by
  rw [List.take_succ_eq_append_getElem h]
  simp [List.getElem?_eq_getElem h]
theorem dv_take (xs : List Int) (i : Nat) (h : i < xs.length) : dv (xs.take (i + 1)) = dv (xs.take i) + 10 ^ i * xs.getD i 0 := by
  rw [take_snoc xs i h, dv_snoc]
  have e : (xs.take i).length = i := by simp; omega
  rw [e]
theorem dv_nonneg : ∀ {xs : List Int}, D10 xs → 0 ≤ dv xs
  | [], _ => by simp [dv]
  | x :: xs, h => by
    have := dv_nonneg (xs := xs) (fun y hy => h y (by simp [hy]))
    have := h x (by simp)
    simp only [dv]; omega
theorem dv_lt : ∀ {xs : List Int}, D10 xs → dv xs < 10 ^ xs.length
  | [], _ => by simp [dv]
  | x :: xs, h => by
    have := dv_lt (xs := xs) (fun y hy => h y (by simp [hy]))
    have := h x (by simp)
    simp only [dv, List.length_cons, Int.pow_succ]; omega
theorem pow9 (i : Nat) : (10 : Int) ^ (9 * i) = 1000000000 ^ i := by
  rw [Int.pow_mul]
  rfl

/-- In the midst of a limb: i limbs are told, and k digits of the next; x is what is left of it. -/
def TextAt (xs ds : List Int) (i k : Nat) (x : Int) : Prop :=
  ds.length = 9 * i + k ∧ D10 ds ∧ 0 ≤ x ∧ x < 10 ^ (9 - k) ∧ dv ds + 10 ^ (9 * i + k) * x = lv (xs.take (i + 1))
def LimbsTold (xs ds : List Int) (i : Nat) : Prop := ds.length = 9 * i ∧ D10 ds ∧ dv ds = lv (xs.take i)
theorem LimbsTold.start (xs : List Int) : LimbsTold xs [] 0 := ⟨rfl, D10.nil, by simp [dv, lv]⟩
theorem LimbsTold.next {xs ds : List Int} {i : Nat} (h : LimbsTold xs ds i) (hl : Lim xs) : TextAt xs ds i 0 (xs.getD i 0) := by
  obtain ⟨h1, h2, h3⟩ := h
  have hx := hl.getD i
  refine ⟨h1, h2, hx.1, hx.2, ?_⟩
  rw [h3, lv_take_getD, Nat.add_zero, pow9]
theorem TextAt.step {xs ds : List Int} {i k : Nat} {x : Int} (h : TextAt xs ds i k x) (hk : k < 9) : TextAt xs (ds ++ [x % 10]) i (k + 1) (x / 10) := by
  obtain ⟨h1, h2, h3, h4, h5⟩ := h
  refine ⟨by simp; omega, h2.snoc (by omega) (by omega), by omega, ?_, ?_⟩
  · have e : 9 - k = (9 - (k + 1)) + 1 := by omega
    rw [e, Int.pow_succ] at h4
    omega
  · rw [dv_snoc, h1, ← h5, show 9 * i + (k + 1) = (9 * i + k) + 1 from rfl, Int.pow_succ]
    generalize (10 : Int) ^ (9 * i + k) = p
    have e3 : x % 10 + 10 * (x / 10) = x := Int.emod_add_mul_ediv _ _
    generalize x % 10 = r at *
    generalize x / 10 = q at *
    subst e3
    simp only [Int.mul_add, Int.mul_comm, Int.mul_left_comm]
    omega
theorem TextAt.done {xs ds : List Int} {i : Nat} {x : Int} (h : TextAt xs ds i 9 x) : LimbsTold xs ds (i + 1) := by
  obtain ⟨h1, h2, h3, h4, h5⟩ := h
  have : x = 0 := by simp at h4; omega
  subst this
  exact ⟨by omega, h2, by simpa using h5⟩

/-- The digits of a number above 0, the lowest first, the highest not 0. -/
def Digs (ds : List Int) (u : Int) : Prop := D10 ds ∧ dv ds = u ∧ 0 < ds.length ∧ ds.getD (ds.length - 1) 0 ≠ 0
theorem trim_zero {ds : List Int} {j : Nat} (hj : j < ds.length) (hz : ds.getD j 0 = 0) : dv (ds.take (j + 1)) = dv (ds.take j) := by
  rw [dv_take ds j hj, hz]; simp
theorem Digs.of {ds : List Int} {j : Nat} {u : Int} (h : D10 ds) (hj : j < ds.length) (hz : ds.getD j 0 ≠ 0) (hv : dv (ds.take (j + 1)) = u) : Digs (ds.take (j + 1)) u := by
  have e : (ds.take (j + 1)).length = j + 1 := by simp; omega
  refine ⟨h.take _, hv, by omega, ?_⟩
  rw [e]
  simp only [Nat.add_sub_cancel, List.getD_eq_getElem?_getD, List.getElem?_take, Nat.lt_succ_self, if_true] at *
  exact hz
theorem Digs.ge {ds : List Int} {u : Int} (h : Digs ds u) : 10 ^ (ds.length - 1) ≤ u := by
  obtain ⟨h1, h2, h3, h4⟩ := h
  have e := dv_take ds (ds.length - 1) (by omega)
  rw [show ds.length - 1 + 1 = ds.length by omega, List.take_length] at e
  have h5 := dv_nonneg (h1.take (ds.length - 1))
  have h6 := h1.getD (ds.length - 1)
  have hp : (0 : Int) < 10 ^ (ds.length - 1) := Int.pow_pos (by decide)
  have : (10 : Int) ^ (ds.length - 1) * 1 ≤ 10 ^ (ds.length - 1) * ds.getD (ds.length - 1) 0 := Int.mul_le_mul_of_nonneg_left (by omega) (by omega)
  omega
theorem Digs.lt {ds : List Int} {u : Int} (h : Digs ds u) : u < 10 ^ ds.length := by
  rw [← h.2.1]
  exact dv_lt h.1

/-- The bytes of digits. -/
def chr (d : Int) : UInt8 := UInt8.ofNat (48 + d).toNat
theorem chr_nat {d : Int} (h0 : -48 ≤ d) (h1 : d < 10) : ((chr d).toNat : Int) = 48 + d := by
  unfold chr
  rw [UInt8.toNat_ofNat']
  omega
/-- The text of a number: its sign, its digits from the highest on; "0" for 0. -/
def TextOf (l : List UInt8) (z : Int) : Prop :=
  (z = 0 ∧ l = [48]) ∨ ∃ ds, Digs ds (z.natAbs : Int) ∧ l = (if z < 0 then [45] else []) ++ ds.reverse.map chr

end Go.Proofs.YtfkihaihbaobeaaGreatDoor

