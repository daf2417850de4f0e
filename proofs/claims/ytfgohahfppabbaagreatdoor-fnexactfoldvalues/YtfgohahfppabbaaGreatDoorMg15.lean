/-
  Several texts in one: AddD, TextNum, Text, NumT.
-/
import Derived.Test.YtfgohahfppabbaaGreatDoorMg9
import Derived.Test.YtfgohahfppabbaaGreatDoorMg10
import Derived.Test.YtfgohahfppabbaaGreatDoorMg8
import Derived.OwnWalk
import Derived.Deep.DeepAppendRoom
import Derived.Laws.OwnMore
import Derived.Laws.IdiomStrings
namespace Go.Proofs.YtfgohahfppabbaaGreatDoor
open Go.RowKit

set_option maxHeartbeats 2000000 in
theorem addD_any {va vb : Value} {xs ys : List Int} (w : World) (ha : Row w va xs) (hb : Row w vb ys) (lx : Lim xs) (ly : Lim ys) (nx : xs.length ≤ 1000000000) (ny : ys.length ≤ 1000000000) :
  Calls Tryz.prog 104 #[va, vb] w fun e w' => ∃ v' fs, e = .returned v' ∧ Row w' v' fs ∧ Lim fs ∧ lv fs = lv xs + lv ys ∧ Ext w w' := by
 obtain ⟨px, cx, rfl, cx1, cx2, cx3⟩ := ha
 obtain ⟨py, cy, rfl, cy1, cy2, cy3⟩ := hb
 by_cases hab : xs.length < ys.length
 ·
  have hab' : (xs.length : Int) < (ys.length : Int) := by omega
  have hmk := run_make_row' (P := Tryz.prog) 72 98 (.int .u32 0) 4 Tryz.underlying72 info32 rfl .i64 .i64 (ys.length + 1) (by omega) (by omega)
  have ec : ((ys.length + 1 : Nat) : Int) = (ys.length : Int) + 1 := by omega
  rw [ec] at hmk
  clear ec
  go_enter Tryz.func104, Tryz.ntmps104
  go_wp2_with fail
  go_loopw [7, 8] (fun c i wr => ∃ (m : Nat) (fs : List Int) (cc : Int), m ≤ ys.length + 1 ∧ i = .int .i64 m ∧ c = .int .u64 cc ∧ Own32 wr w.heap.size fs ∧ AddAt xs ys fs ys.length m cc ∧ Ext w wr) (fun _ i _ => ys.length + 1 - (intOf i).toNat)
  case atStart => exact ⟨0, List.replicate (ys.length + 1) 0, 0, Nat.zero_le _, rfl, rfl, Own32.zeros _ _, AddAt.start _ _ _, x1 _ _⟩
  case round =>
   obtain ⟨m, fs, cc, hm, rfl, rfl, ho, hA, X⟩ := hrel
   by_cases hlt : m ≤ ys.length
   ·
    have hlt' : (m : Int) ≤ (ys.length : Int) := by omega
    have hA' := hA
    obtain ⟨a1, a2, a3, a4, a5, _⟩ := hA'
    obtain ⟨x, ex⟩ : ∃ x, xs.getD m 0 = x := ⟨_, rfl⟩
    obtain ⟨y, ey⟩ : ∃ y, ys.getD m 0 = y := ⟨_, rfl⟩
    obtain ⟨x0, x1'⟩ := lx.getD m
    obtain ⟨y0, y1'⟩ := ly.getD m
    rw [ex] at x0 x1'
    rw [ey] at y0 y1'
    have HN : Hid (AddAt xs ys (fs.set m ((cc + x + y) % 1000000000)) ys.length (m + 1) ((cc + x + y) / 1000000000)) := hA.step hlt lx ly ex ey
    have kf := World.rowIs.cell ho (i := m) (by omega)
    have kz := World.rowIs.frozen ho m
    have HQ : Hid (Own32 wr w.heap.size fs ∧ m < fs.length) := ⟨ho, by omega⟩
    have hfl : (m : Int) < (fs.length : Int) := by omega
    have KX : Hid (m < xs.length → ∃ b o, px = some ⟨b, o, none⟩ ∧ wr.cell? ⟨b, o + m, none⟩ = some (.int .u32 x)) := fun h => by
     rcases cx3 with ⟨_, h'⟩ | ⟨b, o, e, k⟩
     ·
      omega
     ·
      exact ⟨b, o, e, by rw [← ex]; exact (k.later X) m h⟩
    have KY : Hid (m < ys.length → ∃ b o, py = some ⟨b, o, none⟩ ∧ wr.cell? ⟨b, o + m, none⟩ = some (.int .u32 y)) := fun h => by
     rcases cy3 with ⟨_, h'⟩ | ⟨b, o, e, k⟩
     ·
      omega
     ·
      exact ⟨b, o, e, by rw [← ey]; exact (k.later X) m h⟩
    have EX : Hid (¬ m < xs.length → x = 0) := fun h => by rw [← ex, List.getD_eq_getElem?_getD, List.getElem?_eq_none (by omega)]; rfl
    have EY : Hid (¬ m < ys.length → y = 0) := fun h => by rw [← ey, List.getD_eq_getElem?_getD, List.getElem?_eq_none (by omega)]; rfl
    clear ho hA a3 ex ey cx3 cy3 lx ly hmk
    by_cases hx : m < xs.length
    ·
     obtain ⟨bx, ox, rfl, kx⟩ := KX.out hx
     by_cases hy : m < ys.length
     ·
      obtain ⟨bv, ov, rfl, ky⟩ := KY.out hy
      go_wp2
      go_roundw
      case rel => exact ⟨m + 1, _, _, by omega, by go_num, rfl, HQ.out.1.set _ HQ.out.2 _, HN.out, xset X (Nat.le_refl _) _⟩
      case measure => simp [intOf]; omega
     ·
      exact absurd hx (by omega)
    ·
     obtain rfl := EX.out hx
     rw [Int.add_zero] at HN
     by_cases hy : m < ys.length
     ·
      obtain ⟨bv, ov, rfl, ky⟩ := KY.out hy
      go_wp2
      go_roundw
      case rel => exact ⟨m + 1, _, _, by omega, by go_num, rfl, HQ.out.1.set _ HQ.out.2 _, HN.out, xset X (Nat.le_refl _) _⟩
      case measure => simp [intOf]; omega
     ·
      obtain rfl := EY.out hy
      rw [Int.add_zero] at HN
      go_wp2
      go_roundw
      case rel => exact ⟨m + 1, _, _, by omega, by go_num, rfl, HQ.out.1.set _ HQ.out.2 _, HN.out, xset X (Nat.le_refl _) _⟩
      case measure => simp [intOf]; omega
   ·
    obtain rfl : m = ys.length + 1 := by omega
    have hd := hA.done lx ly (by omega) (by omega)
    have hl := hA.1
    have hlim := hA.2.1
    have R := ho.row (by omega)
    rw [hl] at R
    have HR : Hid (Row wr (.slice (some ⟨w.heap.size, 0, none⟩) (ys.length + 1) (ys.length + 1)) fs ∧ Lim fs ∧ lv fs = lv xs + lv ys) := ⟨R, hlim, hd⟩
    have hlt' : ¬ ((ys.length : Int) + 1 ≤ (ys.length : Int)) := by omega
    clear R hlim hd hl ho hA cx3 cy3 lx ly hmk
    go_wp2
    go_ret
    exact ⟨_, rfl, fs, HR.out.1, HR.out.2.1, HR.out.2.2, X⟩
 ·
  have hab' : ¬ (xs.length : Int) < (ys.length : Int) := by omega
  have hmk := run_make_row' (P := Tryz.prog) 72 98 (.int .u32 0) 4 Tryz.underlying72 info32 rfl .i64 .i64 (xs.length + 1) (by omega) (by omega)
  have ec : ((xs.length + 1 : Nat) : Int) = (xs.length : Int) + 1 := by omega
  rw [ec] at hmk
  clear ec
  go_enter Tryz.func104, Tryz.ntmps104
  go_wp2_with fail
  go_loopw [7, 8] (fun c i wr => ∃ (m : Nat) (fs : List Int) (cc : Int), m ≤ xs.length + 1 ∧ i = .int .i64 m ∧ c = .int .u64 cc ∧ Own32 wr w.heap.size fs ∧ AddAt xs ys fs xs.length m cc ∧ Ext w wr) (fun _ i _ => xs.length + 1 - (intOf i).toNat)
  case atStart => exact ⟨0, List.replicate (xs.length + 1) 0, 0, Nat.zero_le _, rfl, rfl, Own32.zeros _ _, AddAt.start _ _ _, x1 _ _⟩
  case round =>
   obtain ⟨m, fs, cc, hm, rfl, rfl, ho, hA, X⟩ := hrel
   by_cases hlt : m ≤ xs.length
   ·
    have hlt' : (m : Int) ≤ (xs.length : Int) := by omega
    have hA' := hA
    obtain ⟨a1, a2, a3, a4, a5, _⟩ := hA'
    obtain ⟨x, ex⟩ : ∃ x, xs.getD m 0 = x := ⟨_, rfl⟩
    obtain ⟨y, ey⟩ : ∃ y, ys.getD m 0 = y := ⟨_, rfl⟩
    obtain ⟨x0, x1'⟩ := lx.getD m
    obtain ⟨y0, y1'⟩ := ly.getD m
    rw [ex] at x0 x1'
    rw [ey] at y0 y1'
    have HN : Hid (AddAt xs ys (fs.set m ((cc + x + y) % 1000000000)) xs.length (m + 1) ((cc + x + y) / 1000000000)) := hA.step hlt lx ly ex ey
    have kf := World.rowIs.cell ho (i := m) (by omega)
    have kz := World.rowIs.frozen ho m
    have HQ : Hid (Own32 wr w.heap.size fs ∧ m < fs.length) := ⟨ho, by omega⟩
    have hfl : (m : Int) < (fs.length : Int) := by omega
    have KX : Hid (m < xs.length → ∃ b o, px = some ⟨b, o, none⟩ ∧ wr.cell? ⟨b, o + m, none⟩ = some (.int .u32 x)) := fun h => by
     rcases cx3 with ⟨_, h'⟩ | ⟨b, o, e, k⟩
     ·
      omega
     ·
      exact ⟨b, o, e, by rw [← ex]; exact (k.later X) m h⟩
    have KY : Hid (m < ys.length → ∃ b o, py = some ⟨b, o, none⟩ ∧ wr.cell? ⟨b, o + m, none⟩ = some (.int .u32 y)) := fun h => by
     rcases cy3 with ⟨_, h'⟩ | ⟨b, o, e, k⟩
     ·
      omega
     ·
      exact ⟨b, o, e, by rw [← ey]; exact (k.later X) m h⟩
    have EX : Hid (¬ m < xs.length → x = 0) := fun h => by rw [← ex, List.getD_eq_getElem?_getD, List.getElem?_eq_none (by omega)]; rfl
    have EY : Hid (¬ m < ys.length → y = 0) := fun h => by rw [← ey, List.getD_eq_getElem?_getD, List.getElem?_eq_none (by omega)]; rfl
    clear ho hA a3 ex ey cx3 cy3 lx ly hmk
    by_cases hx : m < xs.length
    ·
     obtain ⟨bx, ox, rfl, kx⟩ := KX.out hx
     by_cases hy : m < ys.length
     ·
      obtain ⟨bv, ov, rfl, ky⟩ := KY.out hy
      go_wp2
      go_roundw
      case rel => exact ⟨m + 1, _, _, by omega, by go_num, rfl, HQ.out.1.set _ HQ.out.2 _, HN.out, xset X (Nat.le_refl _) _⟩
      case measure => simp [intOf]; omega
     ·
      obtain rfl := EY.out hy
      rw [Int.add_zero] at HN
      go_wp2
      go_roundw
      case rel => exact ⟨m + 1, _, _, by omega, by go_num, rfl, HQ.out.1.set _ HQ.out.2 _, HN.out, xset X (Nat.le_refl _) _⟩
      case measure => simp [intOf]; omega
    ·
     obtain rfl := EX.out hx
     rw [Int.add_zero] at HN
     by_cases hy : m < ys.length
     ·
      exact absurd hx (by omega)
     ·
      obtain rfl := EY.out hy
      rw [Int.add_zero] at HN
      go_wp2
      go_roundw
      case rel => exact ⟨m + 1, _, _, by omega, by go_num, rfl, HQ.out.1.set _ HQ.out.2 _, HN.out, xset X (Nat.le_refl _) _⟩
      case measure => simp [intOf]; omega
   ·
    obtain rfl : m = xs.length + 1 := by omega
    have hd := hA.done lx ly (by omega) (by omega)
    have hl := hA.1
    have hlim := hA.2.1
    have R := ho.row (by omega)
    rw [hl] at R
    have HR : Hid (Row wr (.slice (some ⟨w.heap.size, 0, none⟩) (xs.length + 1) (xs.length + 1)) fs ∧ Lim fs ∧ lv fs = lv xs + lv ys) := ⟨R, hlim, hd⟩
    have hlt' : ¬ ((xs.length : Int) + 1 ≤ (xs.length : Int)) := by omega
    clear R hlim hd hl ho hA cx3 cy3 lx ly hmk
    go_wp2
    go_ret
    exact ⟨_, rfl, fs, HR.out.1, HR.out.2.1, HR.out.2.2, X⟩

end Go.Proofs.YtfgohahfppabbaaGreatDoor

namespace Go.Proofs.YtfgohahfppabbaaGreatDoor

/-- What digits say, the lowest first. -/
def dv : List Int → Int
 | [] => 0
 | x :: xs => x + 10 * dv xs
def D10 (xs : List Int) : Prop := ∀ x ∈ xs, 0 ≤ x ∧ x < 10
theorem D10.nil : D10 [] := fun _ h => by cases h
theorem D10.snoc {xs : List Int} {x : Int} (h : D10 xs) (h0 : 0 ≤ x) (h1 : x < 10) : D10 (xs ++ [x]) := fun y hy => by
 rcases List.mem_append.1 hy with hy | hy
 ·
  exact h y hy
 ·
  obtain rfl : y = x := by simpa using hy
  exact ⟨h0, h1⟩
theorem D10.take {xs : List Int} (h : D10 xs) (n : Nat) : D10 (xs.take n) := fun y hy => h y (List.mem_of_mem_take hy)
theorem D10.getD {xs : List Int} (h : D10 xs) (i : Nat) : 0 ≤ xs.getD i 0 ∧ xs.getD i 0 < 10 := by
 by_cases hi : i < xs.length
 ·
  rw [List.getD_eq_getElem?_getD, List.getElem?_eq_getElem hi]
  exact h _ (List.getElem_mem hi)
 ·
  rw [List.getD_eq_getElem?_getD, List.getElem?_eq_none (by omega)]
  simp
theorem dv_app : ∀ (xs ys : List Int), dv (xs ++ ys) = dv xs + 10 ^ xs.length * dv ys
 | [], ys => by simp [dv]
 | x :: xs, ys => by
  simp only [List.cons_append, dv, dv_app xs ys, List.length_cons, Int.pow_succ]
  rw [Int.mul_add, Int.mul_comm (10 ^ xs.length) 10, ← Int.mul_assoc]
  omega
theorem dv_snoc (xs : List Int) (x : Int) : dv (xs ++ [x]) = dv xs + 10 ^ xs.length * x := by
 rw [dv_app]
 simp [dv]
theorem take_snoc (xs : List Int) (i : Nat) (h : i < xs.length) : xs.take (i + 1) = xs.take i ++ [xs.getD i 0] := by
 rw [List.take_succ_eq_append_getElem h]
 simp [List.getElem?_eq_getElem h]
theorem dv_take (xs : List Int) (i : Nat) (h : i < xs.length) : dv (xs.take (i + 1)) = dv (xs.take i) + 10 ^ i * xs.getD i 0 := by
 rw [take_snoc xs i h, dv_snoc]
 have e : (xs.take i).length = i := by simp; omega
 rw [e]
theorem dv_nonneg : ∀ {xs : List Int}, D10 xs → 0 ≤ dv xs
 | [], _ => by simp [dv]
 | x :: xs, h => by
  have := dv_nonneg (xs := xs) (fun y hy => h y (by simp [hy]))
  have := h x (by simp)
  simp only [dv]; omega
theorem dv_lt : ∀ {xs : List Int}, D10 xs → dv xs < 10 ^ xs.length
 | [], _ => by simp [dv]
 | x :: xs, h => by
  have := dv_lt (xs := xs) (fun y hy => h y (by simp [hy]))
  have := h x (by simp)
  simp only [dv, List.length_cons, Int.pow_succ]; omega
theorem pow9 (i : Nat) : (10 : Int) ^ (9 * i) = 1000000000 ^ i := by
 rw [Int.pow_mul]
 rfl

/-- In the midst of a limb: i limbs are told, and k digits of the next; x is what is left of it. -/
def TextAt (xs ds : List Int) (i k : Nat) (x : Int) : Prop :=
 ds.length = 9 * i + k ∧ D10 ds ∧ 0 ≤ x ∧ x < 10 ^ (9 - k) ∧ dv ds + 10 ^ (9 * i + k) * x = lv (xs.take (i + 1))
def LimbsTold (xs ds : List Int) (i : Nat) : Prop := ds.length = 9 * i ∧ D10 ds ∧ dv ds = lv (xs.take i)
theorem LimbsTold.start (xs : List Int) : LimbsTold xs [] 0 := ⟨rfl, D10.nil, by simp [dv, lv]⟩
theorem LimbsTold.next {xs ds : List Int} {i : Nat} (h : LimbsTold xs ds i) (hl : Lim xs) : TextAt xs ds i 0 (xs.getD i 0) := by
 obtain ⟨h1, h2, h3⟩ := h
 have hx := hl.getD i
 refine ⟨h1, h2, hx.1, hx.2, ?_⟩
 rw [h3, lv_take_getD, Nat.add_zero, pow9]
theorem TextAt.step {xs ds : List Int} {i k : Nat} {x : Int} (h : TextAt xs ds i k x) (hk : k < 9) : TextAt xs (ds ++ [x % 10]) i (k + 1) (x / 10) := by
 obtain ⟨h1, h2, h3, h4, h5⟩ := h
 refine ⟨by simp; omega, h2.snoc (by omega) (by omega), by omega, ?_, ?_⟩
 ·
  have e : 9 - k = (9 - (k + 1)) + 1 := by omega
  rw [e, Int.pow_succ] at h4
  omega
 ·
  rw [dv_snoc, h1, ← h5, show 9 * i + (k + 1) = (9 * i + k) + 1 from rfl, Int.pow_succ]
  generalize (10 : Int) ^ (9 * i + k) = p
  have e3 : x % 10 + 10 * (x / 10) = x := Int.emod_add_mul_ediv _ _
  generalize x % 10 = r at *
  generalize x / 10 = q at *
  subst e3
  simp only [Int.mul_add, Int.mul_comm, Int.mul_left_comm]
  omega
theorem TextAt.done {xs ds : List Int} {i : Nat} {x : Int} (h : TextAt xs ds i 9 x) : LimbsTold xs ds (i + 1) := by
 obtain ⟨h1, h2, h3, h4, h5⟩ := h
 have : x = 0 := by simp at h4; omega
 subst this
 exact ⟨by omega, h2, by simpa using h5⟩

/-- The digits of a number above 0, the lowest first, the highest not 0. -/
def Digs (ds : List Int) (u : Int) : Prop := D10 ds ∧ dv ds = u ∧ 0 < ds.length ∧ ds.getD (ds.length - 1) 0 ≠ 0
theorem trim_zero {ds : List Int} {j : Nat} (hj : j < ds.length) (hz : ds.getD j 0 = 0) : dv (ds.take (j + 1)) = dv (ds.take j) := by
 rw [dv_take ds j hj, hz]; simp
theorem Digs.of {ds : List Int} {j : Nat} {u : Int} (h : D10 ds) (hj : j < ds.length) (hz : ds.getD j 0 ≠ 0) (hv : dv (ds.take (j + 1)) = u) : Digs (ds.take (j + 1)) u := by
 have e : (ds.take (j + 1)).length = j + 1 := by simp; omega
 refine ⟨h.take _, hv, by omega, ?_⟩
 rw [e]
 simp only [Nat.add_sub_cancel, List.getD_eq_getElem?_getD, List.getElem?_take, Nat.lt_succ_self, if_true] at *
 exact hz
theorem Digs.ge {ds : List Int} {u : Int} (h : Digs ds u) : 10 ^ (ds.length - 1) ≤ u := by
 obtain ⟨h1, h2, h3, h4⟩ := h
 have e := dv_take ds (ds.length - 1) (by omega)
 rw [show ds.length - 1 + 1 = ds.length by omega, List.take_length] at e
 have h5 := dv_nonneg (h1.take (ds.length - 1))
 have h6 := h1.getD (ds.length - 1)
 have hp : (0 : Int) < 10 ^ (ds.length - 1) := Int.pow_pos (by decide)
 have : (10 : Int) ^ (ds.length - 1) * 1 ≤ 10 ^ (ds.length - 1) * ds.getD (ds.length - 1) 0 := Int.mul_le_mul_of_nonneg_left (by omega) (by omega)
 omega
theorem Digs.lt {ds : List Int} {u : Int} (h : Digs ds u) : u < 10 ^ ds.length := by
 rw [← h.2.1]
 exact dv_lt h.1

/-- The bytes of digits. -/
def chr (d : Int) : UInt8 := UInt8.ofNat (48 + d).toNat
theorem chr_nat {d : Int} (h0 : -48 ≤ d) (h1 : d < 10) : ((chr d).toNat : Int) = 48 + d := by
 unfold chr
 rw [UInt8.toNat_ofNat']
 omega
/-- The text of a number: its sign, its digits from the highest on; "0" for 0. -/
def TextOf (l : List UInt8) (z : Int) : Prop :=
 (z = 0 ∧ l = [48]) ∨ ∃ ds, Digs ds (z.natAbs : Int) ∧ l = (if z < 0 then [45] else []) ++ ds.reverse.map chr

end Go.Proofs.YtfgohahfppabbaaGreatDoor

namespace Go.Proofs.YtfgohahfppabbaaGreatDoor
open Go.RowKit

theorem info8 : (Tryz.prog.info? 5).map (fun i => (i.zero, i.size, i.bytes)) = some (some (.int .u8 0), 1, 1) := by kernel_rfl

/-- A row of the bytes of digits. -/
def ByR (w : World) (B g cap : Nat) (ds : List Int) : Prop := w.ownsRow B 5 1 (.slice (some ⟨g, 0, none⟩) ds.length cap) ds.length (ds.map fun d => Value.int .u8 (48 + d))
theorem ByR.later {w w1 : World} {B g cap : Nat} {ds : List Int} (h : ByR w B g cap ds) (hb : Ext w w1) : ByR w1 B g cap ds :=
 World.ownsRow.kept h (row := none) ⟨hb.os, hb.tape, hb.output, hb.size, fun k hk _ => hb.block k hk⟩ (.inr (by simp [Value.ownBlock]))
theorem ByR.cell {w : World} {B g cap : Nat} {ds : List Int} (h : ByR w B g cap ds) {j : Nat} (hj : j < ds.length) : w.cell? ⟨g, j, none⟩ = some (.int .u8 (48 + ds.getD j 0)) := by
 rw [World.ownsRow.cellAt h j (by omega)]
 simp [hj]
theorem ByR.other {w w1 : World} {B g g' cap : Nat} {ds : List Int} (h : ByR w B g cap ds) (hg : w.grownBy w1 (some g')) (hne : g ≠ g') : ByR w1 B g cap ds :=
 World.ownsRow.kept h hg (.inr (by simp [Value.ownBlock, hne]))

theorem ByR.conv {w : World} {B g cap L : Nat} {ts : List Int} (h : ByR w B g cap ts) (hL : ts.length = L) (hb : ∀ d ∈ ts, -48 ≤ d ∧ d < 10) :
  (convert 130 9 (.slice (some ⟨g, 0, none⟩) L cap)).run Tryz.prog w = .ok (.string ⟨(ts.map chr).toArray⟩) w := by
 subst hL
 have := run_convert_bytes_back (P := Tryz.prog) w 130 9 5 ⟨g, 0, none⟩ cap (ts.map chr) Tryz.underlying130 Tryz.underlying5 Tryz.underlying9 (fun j hj => by
  have hj' : j < ts.length := by simpa using hj
  have hc := h.cell hj'
  have hm := hb _ (List.getElem_mem hj')
  rw [show (⟨g, 0, none⟩ : Addr).add j = ⟨g, j, none⟩ by rw [Addr.add_lit, Nat.zero_add], hc]
  simp only [List.getElem_map, chr_nat hm.1 hm.2]
  simp [hj'])
 rw [List.length_map] at this
 exact this
theorem rev_step (ds pr : List Int) (j q : Nat) (hq : q < j + 1) (hj : j + 1 ≤ ds.length) : (pr ++ ((ds.take (j + 1)).drop (q + 1)).reverse) ++ [ds.getD q 0] = pr ++ ((ds.take (j + 1)).drop q).reverse := by
 have hl : q < (ds.take (j + 1)).length := by simp; omega
 rw [List.drop_eq_getElem_cons hl, List.reverse_cons, List.append_assoc]
 simp [show q < ds.length by omega]

set_option maxRecDepth 4000 in
set_option maxHeartbeats 2000000 in
theorem text_pos {v : Value} {z : Int} (w : World) (h : ZV w v z) (k : Nat) (hk : k ≤ 1000000000) (kz : (z.natAbs : Int) < 1000000000 ^ k) (hz : z ≠ 0) :
  Calls Tryz.prog 96 #[v] w fun e w' => ∃ l, e = .returned (.string ⟨l.toArray⟩) ∧ TextOf l z ∧ Ext w w' := by
 obtain ⟨a0, a1, p, n, cap, rfl⟩ := h.shape
 obtain ⟨i0, hi, hz0, hz1, hz2⟩ := info_parts info8
 go_enter Tryz.func96, Tryz.ntmps96
 go_wp2_with fail
 refine (limbs_any _ (h.later (x1 _ _))).mono ?_
 rintro e w2 ⟨x, rfl, hx, e2⟩
 have B := (Box3.made w (.int .i64 a0) (.bool a1) (.slice p n cap) 74).later e2
 have h2 := (h.later (x1 _ _)).later e2
 have X2 := xt (x1 _ _) e2
 obtain ⟨xs, ⟨px, cx, rfl, cx1, cx2, cx3⟩, lx, tx, vx⟩ := hx
 have nx : xs.length ≤ k := len_le lx tx (by rw [vx]; exact kz)
 have n0 : xs.length ≠ 0 := fun e0 => by
  have : xs = [] := List.eq_nil_of_length_eq_zero e0
  subst this
  simp [lv] at vx
  omega
 have n0' : ((xs.length : Int) == 0) = false := by rw [beq_eq_false_iff_ne]; omega
 clear e2 h kz hz
 go_wp2_with (at_make; refine wpList_make_own _ rfl _ _ 130 rfl w2.heap.size 5 i0 (.int .u8 0) 1 Tryz.underlying130 hi hz0 hz1 .i64 .i64 _ (9 * xs.length + 1) rfl rfl (by omega) (by rw [hz2]; omega) (by unfold maxLen; omega) (Nat.le_refl _) ?_; intro w3 hown3 hgrow3)
 go_loopw [4, 23] (fun o i wr => ∃ (m : Nat) (ds : List Int), m ≤ xs.length ∧ i = .int .i64 m ∧ o = .slice (some ⟨w2.heap.size, 0, none⟩) ds.length (9 * xs.length + 1) ∧ ByR wr w2.heap.size w2.heap.size (9 * xs.length + 1) ds ∧ LimbsTold xs ds m ∧ Ext w2 wr) (fun _ i _ => xs.length - (intOf i).toNat)
 case atStart => exact ⟨0, [], Nat.zero_le _, rfl, rfl, hown3, LimbsTold.start xs, (xr _).grown hgrow3 (Nat.le_refl _) (fun k h => by cases h)⟩
 case round =>
  obtain ⟨m, ds, hm, rfl, rfl, hR, hL, X⟩ := hrel
  clear hown3 hgrow3
  by_cases hlt : m < xs.length
  ·
   have hlt' : (m : Int) < (xs.length : Int) := by omega
   have HN : Hid (TextAt xs ds m 0 (xs.getD m 0)) := hL.next lx
   obtain ⟨y, hy⟩ : ∃ y, xs.getD m 0 = y := ⟨_, rfl⟩
   obtain ⟨bx, ox, rfl, kx⟩ : ∃ b o, px = some ⟨b, o, none⟩ ∧ wr.cell? ⟨b, o + m, none⟩ = some (.int .u32 y) := by
    rcases cx3 with ⟨_, h'⟩ | ⟨b, o, e, k⟩
    ·
     omega
    ·
     exact ⟨b, o, e, by rw [← hy]; exact (k.later X) m hlt⟩
   rw [hy] at HN
   clear hy hL
   go_wp2_with fail
   go_loopw [4, 6, 7] (fun o u i wq => ∃ (j : Nat) (es : List Int) (t : Int), j ≤ 9 ∧ i = .int .i64 j ∧ u = .int .u32 t ∧ o = .slice (some ⟨w2.heap.size, 0, none⟩) es.length (9 * xs.length + 1) ∧ ByR wq w2.heap.size w2.heap.size (9 * xs.length + 1) es ∧ TextAt xs es m j t ∧ Ext w2 wq) (fun _ _ i _ => 9 - (intOf i).toNat)
   case atStart => exact ⟨0, ds, y, Nat.zero_le _, rfl, rfl, rfl, hR, HN.out, X⟩
   case round =>
    obtain ⟨j, es, t, hj, rfl, rfl, rfl, hQ, hT, X'⟩ := hrel
    clear hR HN X kx cx3
    by_cases hj9 : j < 9
    ·
     have HS : Hid (TextAt xs (es ++ [t % 10]) m (j + 1) (t / 10)) := hT.step hj9
     obtain ⟨l1, l2, l3, l4, l6⟩ := hT
     have l5 : t < 1000000000 := Int.lt_of_lt_of_le l4 (by
      have : (10 : Int) ^ (9 - j) ≤ 10 ^ 9 := by
       have := Nat.pow_le_pow_right (n := 10) (by decide) (show 9 - j ≤ 9 by omega)
       exact_mod_cast this
      exact this)
     have hroom : es.length + 1 ≤ 9 * xs.length + 1 := by omega
     have HR : Hid (ByR wr w2.heap.size w2.heap.size (9 * xs.length + 1) es) := hQ
     clear l2 l4 l6 hQ
     go_wp2_with (at_builtin; refine wpList_append_own_spare _ rfl _ _ 130 rfl w2.heap.size 5 i0 1 Tryz.underlying130 hi hz1 w2.heap.size es.length (9 * xs.length + 1) _ rfl (HR.out.later (x1 _ _)) ⟨wr.heap.size, 0, none⟩ 1 1 _ rfl rfl (cell_one_new _ _ _) (by intro u hu; simp at hu; subst hu; rfl) hroom ?_; intro w4 hown4 hgrow4)
     go_roundw
     case rel =>
      refine ⟨j + 1, es ++ [t % 10], t / 10, by omega, by go_num, rfl, by simp [l1], ?_, HS.out, (xa X' _).grown hgrow4 (by have := X'.size; simp; omega) (fun k hk => by cases hk; exact Nat.le_refl _)⟩
      unfold ByR
      simpa using hown4
     case measure => simp [intOf]; omega
    ·
     obtain rfl : j = 9 := by omega
     have HD : Hid (LimbsTold xs es (m + 1)) := hT.done
     have HR : Hid (ByR wr w2.heap.size w2.heap.size (9 * xs.length + 1) es) := hQ
     clear hT hQ
     go_wp2_with fail
     go_roundw
     case rel => exact ⟨m + 1, es, by omega, by go_num, rfl, HR.out, HD.out, X'⟩
     case measure => simp [intOf]; omega
  ·
   obtain rfl : m = xs.length := by omega
   obtain ⟨d1, d2, d3⟩ := hL
   rw [List.take_length] at d3
   have HD : Hid (D10 ds ∧ dv ds = (z.natAbs : Int) ∧ 0 < (z.natAbs : Int)) := ⟨d2, d3.trans vx, by have := lv_ge lx (by omega) (tx.resolve_left n0); have := pos_pow (xs.length - 1); omega⟩
   have d4 : ds.length ≤ 9000000000 := by omega
   have HR : Hid (ByR wr w2.heap.size w2.heap.size (9 * xs.length + 1) ds ∧ ds.length = 9 * xs.length) := ⟨hR, d1⟩
   clear d1 d2 d3 hR vx tx lx cx3
   go_wp2_with fail
   go_loop [8] (fun c => ∃ q : Nat, q ≤ ds.length ∧ c = .int .i64 q ∧ dv (ds.take q) = (z.natAbs : Int)) (fun c => (intOf c).toNat)
   case atStart => exact ⟨ds.length, Nat.le_refl _, rfl, by rw [List.take_length]; exact HD.out.2.1⟩
   case round =>
    obtain ⟨q, hq, rfl, hv⟩ := hrel
    have hq0 : q ≠ 0 := fun e0 => by
     subst e0
     have := HD.out.2.2
     simp [dv] at hv
     omega
    obtain ⟨j, rfl⟩ : ∃ j, q = j + 1 := ⟨q - 1, by omega⟩
    have hcell := ByR.cell HR.out.1 (j := j) (by omega)
    have hd := D10.getD HD.out.1 j
    obtain ⟨d, ed⟩ : ∃ d, ds.getD j 0 = d := ⟨_, rfl⟩
    rw [ed] at hcell hd
    obtain ⟨g0, g1⟩ := hd
    have e1 : ((j + 1 : Nat) : Int) = (j : Int) + 1 := by omega
    rw [e1]
    clear e1
    by_cases hd0 : d = 0
    ·
     subst hd0
     have HN : Hid (dv (ds.take j) = (z.natAbs : Int)) := by rw [← trim_zero (by omega) ed]; exact hv
     clear hv ed
     go_wp2_with fail
     go_round
     case rel => exact ⟨j, by omega, by go_num, HN.out⟩
     case measure => simp [intOf]
    ·
     have HG : Hid (Digs (ds.take (j + 1)) (z.natAbs : Int)) := Digs.of HD.out.1 (by omega) (by rw [ed]; exact hd0) hv
     have hd1 : ((48 + d : Int) == 48) = false := by rw [beq_eq_false_iff_ne]; omega
     clear hv ed
     go_wp2_with (at_make; refine wpList_make_own _ rfl _ _ 130 rfl w2.heap.size 5 i0 (.int .u8 0) 1 Tryz.underlying130 hi hz0 hz1 .i64 .i64 _ (j + 2) rfl rfl (by omega) (by rw [hz2]; omega) (by unfold maxLen; omega) X.size ?_; intro w4 hown4 hgrow4; have Y4 : Ext wr w4 := (xr wr).grown hgrow4 (Nat.le_refl _) (fun k h => by cases h); obtain ⟨⟨q0, q1, q2⟩, _⟩ := B.later (xt X Y4))
     refine (neg_any _ (h2.later (xt X Y4))).mono ?_
     rintro e w5 ⟨rfl, e5⟩
     have X5 := xt (xt X Y4) e5
     have hX : wr.heap.size < w4.heap.size := by
      rcases hown4.2 with ⟨h0, _⟩ | ⟨g', cap', cur, hv, _, hg, _⟩
      ·
       cases h0
      ·
       cases hv
       exact (Array.getElem?_eq_some_iff.1 hg).1
     have HR5 : Hid (ByR w5 w2.heap.size w2.heap.size (9 * xs.length + 1) ds ∧ ByR w5 w2.heap.size wr.heap.size (j + 2) []) := ⟨(HR.out.1.later Y4).later e5, ByR.later (ds := []) hown4 e5⟩
     have hw2 : w2.heap.size < wr.heap.size := by
      rcases HR.out.1.2 with ⟨h0, _⟩ | ⟨g', cap', cur, hv, _, hg, _⟩
      ·
       cases h0
      ·
       cases hv
       exact (Array.getElem?_eq_some_iff.1 hg).1
     have hw5 : wr.heap.size < w5.heap.size := Nat.lt_of_lt_of_le hX e5.size
     clear hown4 hgrow4 Y4 q0 q1 q2 e5 hX hcell hd1 HR
     by_cases hzn : z < 0
     ·
      rw [decide_eq_true hzn]
      go_wp2_with (at_builtin; refine wpList_append_own_spare _ rfl _ _ 130 rfl w2.heap.size 5 i0 1 Tryz.underlying130 hi hz1 wr.heap.size 0 (j + 2) _ rfl (HR5.out.2.later (x1 _ _)) ⟨w5.heap.size, 0, none⟩ 1 1 _ rfl rfl (cell_one_new _ _ _) (by intro u hu; simp at hu; subst hu; rfl) (by omega) ?_; intro w6 hown6 hgrow6)
      generalize hGe : wr.heap.size = G at *
      have X6 : Ext w2 w6 := (xa X5 _).grown hgrow6 (by have := X5.size; simp; omega) (fun k hk => by cases hk; omega)
      obtain ⟨pr, HP0⟩ : ∃ pr : List Int, Hid (pr = [-3]) := ⟨_, rfl⟩
      have HP : Hid (pr.map chr = (if z < 0 then [45] else []) ∧ ∀ d ∈ pr, -48 ≤ d ∧ d < 10) := by
       rw [HP0.out, if_pos hzn]; exact ⟨by decide, by decide⟩
      have pl : pr.length ≤ 1 := by rw [HP0.out]; decide
      have AT : ∃ (q L : Nat), q ≤ j + 1 ∧ Value.int .i64 (j : Int) = .int .i64 ((q : Int) - 1) ∧ Value.slice (some ⟨G, 0, none⟩) 1 (j + 2) = .slice (some ⟨G, 0, none⟩) L (j + 2) ∧ L = pr.length + (j + 1 - q) ∧ ByR w6 w2.heap.size w2.heap.size (9 * xs.length + 1) ds ∧ ByR w6 w2.heap.size G (j + 2) (pr ++ ((ds.take (j + 1)).drop q).reverse) ∧ Ext w2 w6 ∧ G < w6.heap.size := by
       refine ⟨j + 1, 1, Nat.le_refl _, by congr 1; omega, rfl, by rw [HP0.out]; simp, (HR5.out.1.later (x1 _ _)).other hgrow6 (by omega), ?_, X6, Nat.lt_of_lt_of_le (Nat.lt_of_lt_of_le hw5 (by simp)) hgrow6.size⟩
       rw [HP0.out]
       have e0 : (ds.take (j + 1)).drop (j + 1) = [] := List.drop_eq_nil_of_le (by simp; omega)
       rw [e0]
       exact hown6
      clear hown6 hgrow6 X6
      go_loopw [9, 10] (fun o i wq => ∃ (q L : Nat), q ≤ j + 1 ∧ i = .int .i64 ((q : Int) - 1) ∧ o = .slice (some ⟨G, 0, none⟩) L (j + 2) ∧ L = pr.length + (j + 1 - q) ∧ ByR wq w2.heap.size w2.heap.size (9 * xs.length + 1) ds ∧ ByR wq w2.heap.size G (j + 2) (pr ++ ((ds.take (j + 1)).drop q).reverse) ∧ Ext w2 wq ∧ G < wq.heap.size) (fun _ i _ => (intOf i + 1).toNat)
      case atStart => exact AT
      case round =>
       obtain ⟨q, L, hqj, rfl, rfl, hL, hR1, hR2, X6, hG6⟩ := hrel
       have hL' : L ≤ 1 + (j + 1 - q) := by omega
       have HL : Hid (L = pr.length + (j + 1 - q)) := hL
       clear hL AT HR5
       cases q with
       | zero =>
        have hcv := hR2.conv (L := L) (by rw [HL.out]; simp; omega) (fun d hd => by
         rcases List.mem_append.1 hd with hd | hd
         ·
          exact HP.out.2 d hd
         ·
          have := (HD.out.1.take (j + 1)) d (by simpa using hd)
          omega)
        clear hR1 hR2 hL'
        go_wp2
        go_ret
        refine ⟨_, rfl, .inr ⟨ds.take (j + 1), HG.out, ?_⟩, xt X2 X6⟩
        rw [HP.out.1]
        simp
       | succ q =>
        have hcell := hR1.cell (j := q) (by omega)
        have hd := D10.getD HD.out.1 q
        have HR6 : Hid (ByR wr w2.heap.size w2.heap.size (9 * xs.length + 1) ds ∧ ByR wr w2.heap.size G (j + 2) (pr ++ ((ds.take (j + 1)).drop (q + 1)).reverse)) := ⟨hR1, hR2⟩
        have HS : Hid (_ = _) := rev_step ds pr j q (by omega) hq
        obtain ⟨d, ed⟩ : ∃ d, ds.getD q 0 = d := ⟨_, rfl⟩
        rw [ed] at hcell hd HS
        obtain ⟨f0, f1⟩ := hd
        have e1 : ((q + 1 : Nat) : Int) - 1 = (q : Int) := by omega
        have HT : Hid (L = (pr ++ ((ds.take (j + 1)).drop (q + 1)).reverse).length) := by rw [HL.out]; simp only [List.length_append, List.length_reverse, List.length_drop, List.length_take, Hid]; omega
        have hroom : L + 1 ≤ j + 2 := by omega
        rw [e1]
        clear e1 ed hR1 hR2
        go_wp2_with (at_builtin; refine wpList_append_own_spare _ rfl _ _ 130 rfl w2.heap.size 5 i0 1 Tryz.underlying130 hi hz1 G L (j + 2) _ rfl (by rw [HT.out]; exact HR6.out.2.later (x1 _ _)) ⟨wr.heap.size, 0, none⟩ 1 1 _ rfl rfl (cell_one_new _ _ _) (by intro u hu; simp at hu; subst hu; rfl) hroom ?_; intro w7 hown7 hgrow7)
        go_roundw
        case rel =>
         have hs := X6.size
         refine ⟨q, L + 1, by omega, rfl, rfl, by rw [HL.out]; omega, ?_, ?_, (xa X6 _).grown hgrow7 (by simp; omega) (fun k hk => by cases hk; omega), Nat.lt_of_lt_of_le (Nat.lt_of_lt_of_le hG6 (by simp)) hgrow7.size⟩
         ·
          exact (HR6.out.1.later (x1 _ _)).other hgrow7 (by omega)
         ·
          rw [← HS.out]
          unfold ByR
          rw [HT.out] at hown7
          rw [List.length_append, List.length_singleton, List.map_append]
          exact hown7
        case measure => simp [intOf]
     ·
      rw [decide_eq_false hzn]
      go_wp2_with fail
      generalize hGe : wr.heap.size = G at *
      obtain ⟨pr, HP0⟩ : ∃ pr : List Int, Hid (pr = []) := ⟨_, rfl⟩
      have HP : Hid (pr.map chr = (if z < 0 then [45] else []) ∧ ∀ d ∈ pr, -48 ≤ d ∧ d < 10) := by
       rw [HP0.out, if_neg (by omega)]; exact ⟨by decide, by decide⟩
      have pl : pr.length ≤ 1 := by rw [HP0.out]; decide
      have AT : ∃ (q L : Nat), q ≤ j + 1 ∧ Value.int .i64 (j : Int) = .int .i64 ((q : Int) - 1) ∧ Value.slice (some ⟨G, 0, none⟩) 0 (j + 2) = .slice (some ⟨G, 0, none⟩) L (j + 2) ∧ L = pr.length + (j + 1 - q) ∧ ByR w5 w2.heap.size w2.heap.size (9 * xs.length + 1) ds ∧ ByR w5 w2.heap.size G (j + 2) (pr ++ ((ds.take (j + 1)).drop q).reverse) ∧ Ext w2 w5 ∧ G < w5.heap.size := by
       refine ⟨j + 1, 0, Nat.le_refl _, by congr 1; omega, rfl, by rw [HP0.out]; simp, HR5.out.1, ?_, X5, hw5⟩
       rw [HP0.out]
       have e0 : (ds.take (j + 1)).drop (j + 1) = [] := List.drop_eq_nil_of_le (by simp; omega)
       rw [e0]
       exact HR5.out.2
      go_loopw [9, 10] (fun o i wq => ∃ (q L : Nat), q ≤ j + 1 ∧ i = .int .i64 ((q : Int) - 1) ∧ o = .slice (some ⟨G, 0, none⟩) L (j + 2) ∧ L = pr.length + (j + 1 - q) ∧ ByR wq w2.heap.size w2.heap.size (9 * xs.length + 1) ds ∧ ByR wq w2.heap.size G (j + 2) (pr ++ ((ds.take (j + 1)).drop q).reverse) ∧ Ext w2 wq ∧ G < wq.heap.size) (fun _ i _ => (intOf i + 1).toNat)
      case atStart => exact AT
      case round =>
       obtain ⟨q, L, hqj, rfl, rfl, hL, hR1, hR2, X6, hG6⟩ := hrel
       have hL' : L ≤ 1 + (j + 1 - q) := by omega
       have HL : Hid (L = pr.length + (j + 1 - q)) := hL
       clear hL AT HR5
       cases q with
       | zero =>
        have hcv := hR2.conv (L := L) (by rw [HL.out]; simp; omega) (fun d hd => by
         rcases List.mem_append.1 hd with hd | hd
         ·
          exact HP.out.2 d hd
         ·
          have := (HD.out.1.take (j + 1)) d (by simpa using hd)
          omega)
        clear hR1 hR2 hL'
        go_wp2
        go_ret
        refine ⟨_, rfl, .inr ⟨ds.take (j + 1), HG.out, ?_⟩, xt X2 X6⟩
        rw [HP.out.1]
        simp
       | succ q =>
        have hcell := hR1.cell (j := q) (by omega)
        have hd := D10.getD HD.out.1 q
        have HR6 : Hid (ByR wr w2.heap.size w2.heap.size (9 * xs.length + 1) ds ∧ ByR wr w2.heap.size G (j + 2) (pr ++ ((ds.take (j + 1)).drop (q + 1)).reverse)) := ⟨hR1, hR2⟩
        have HS : Hid (_ = _) := rev_step ds pr j q (by omega) hq
        obtain ⟨d, ed⟩ : ∃ d, ds.getD q 0 = d := ⟨_, rfl⟩
        rw [ed] at hcell hd HS
        obtain ⟨f0, f1⟩ := hd
        have e1 : ((q + 1 : Nat) : Int) - 1 = (q : Int) := by omega
        have HT : Hid (L = (pr ++ ((ds.take (j + 1)).drop (q + 1)).reverse).length) := by rw [HL.out]; simp only [List.length_append, List.length_reverse, List.length_drop, List.length_take, Hid]; omega
        have hroom : L + 1 ≤ j + 2 := by omega
        rw [e1]
        clear e1 ed hR1 hR2
        go_wp2_with (at_builtin; refine wpList_append_own_spare _ rfl _ _ 130 rfl w2.heap.size 5 i0 1 Tryz.underlying130 hi hz1 G L (j + 2) _ rfl (by rw [HT.out]; exact HR6.out.2.later (x1 _ _)) ⟨wr.heap.size, 0, none⟩ 1 1 _ rfl rfl (cell_one_new _ _ _) (by intro u hu; simp at hu; subst hu; rfl) hroom ?_; intro w7 hown7 hgrow7)
        go_roundw
        case rel =>
         have hs := X6.size
         refine ⟨q, L + 1, by omega, rfl, rfl, by rw [HL.out]; omega, ?_, ?_, (xa X6 _).grown hgrow7 (by simp; omega) (fun k hk => by cases hk; omega), Nat.lt_of_lt_of_le (Nat.lt_of_lt_of_le hG6 (by simp)) hgrow7.size⟩
         ·
          exact (HR6.out.1.later (x1 _ _)).other hgrow7 (by omega)
         ·
          rw [← HS.out]
          unfold ByR
          rw [HT.out] at hown7
          rw [List.length_append, List.length_singleton, List.map_append]
          exact hown7
        case measure => simp [intOf]

set_option maxHeartbeats 1000000 in
theorem text_zero {v : Value} (w : World) (h : ZV w v 0) :
  Calls Tryz.prog 96 #[v] w fun e w' => ∃ l, e = .returned (.string ⟨l.toArray⟩) ∧ TextOf l 0 ∧ Ext w w' := by
 obtain ⟨a0, a1, p, n, cap, rfl⟩ := h.shape
 go_enter Tryz.func96, Tryz.ntmps96
 go_wp2_with fail
 refine (limbs_any _ (h.later (x1 _ _))).mono ?_
 rintro e w2 ⟨x, rfl, hx, e2⟩
 obtain ⟨xs, ⟨px, cx, rfl, cx1, cx2, cx3⟩, lx, tx, vx⟩ := hx
 have n0 : xs = [] := by
  rcases tx with h0 | h0
  ·
   exact List.eq_nil_of_length_eq_zero h0
  ·
   by_cases hn : xs.length = 0
   ·
    exact List.eq_nil_of_length_eq_zero hn
   ·
    have := lv_ge lx (by omega) h0
    have := pos_pow (xs.length - 1)
    simp at vx
    omega
 subst n0
 have X2 := xt (x1 _ _) e2
 clear e2 cx3 lx tx vx
 go_wp2_with fail
 go_ret
 exact ⟨[48], rfl, .inl ⟨rfl, rfl⟩, X2⟩

theorem text_any {v : Value} {z : Int} (w : World) (h : ZV w v z) (k : Nat) (hk : k ≤ 1000000000) (kz : (z.natAbs : Int) < 1000000000 ^ k) :
  Calls Tryz.prog 96 #[v] w fun e w' => ∃ l, e = .returned (.string ⟨l.toArray⟩) ∧ TextOf l z ∧ Ext w w' := by
 by_cases hz : z = 0
 ·
  subst hz
  exact text_zero w h
 ·
  exact text_pos w h k hk kz hz

set_option maxRecDepth 4000 in
set_option maxHeartbeats 1000000 in
theorem add_small (a b : Int) (w : World) (a1 : -1000000000000000000 < a) (a2 : a < 1000000000000000000) (b1 : -1000000000000000000 < b) (b2 : b < 1000000000000000000) :
  Calls Tryz.prog 73 #[zS a, zS b] w fun e w' => ∃ v', e = .returned v' ∧ ZV w' v' (a + b) ∧ Ext w w' := by
 have sa : Hid (∀ w2 : World, Calls Tryz.prog 97 #[zS a] w2 fun e w' => e = .returned (.bool true) ∧ Ext w2 w') := fun w2 => by
  have := isSmall_any w2 (ZV.small a1 a2)
  rwa [smallB_true a1 a2] at this
 have sb : Hid (∀ w2 : World, Calls Tryz.prog 97 #[zS b] w2 fun e w' => e = .returned (.bool true) ∧ Ext w2 w') := fun w2 => by
  have := isSmall_any w2 (ZV.small b1 b2)
  rwa [smallB_true b1 b2] at this
 have Ba := (Box3.made w (.int .i64 a) (.bool false) (.slice none 0 0) 74).later (xa (x1 _ (.cells #[.int .i64 b, .bool false, .slice none 0 0] 74)) (.cells #[.int .i64 0, .bool false, .slice none 0 0] 74))
 have Bb := (Box3.made (w.alloc (.cells #[.int .i64 a, .bool false, .slice none 0 0] 74)) (.int .i64 b) (.bool false) (.slice none 0 0) 74).later (x1 _ (.cells #[.int .i64 0, .bool false, .slice none 0 0] 74))
 have Br := Box3.made ((w.alloc (.cells #[.int .i64 a, .bool false, .slice none 0 0] 74)).alloc (.cells #[.int .i64 b, .bool false, .slice none 0 0] 74)) (.int .i64 0) (.bool false) (.slice none 0 0) 74
 simp only [World.size_alloc] at Bb Br
 go_enter Tryz.func73, Tryz.ntmps73
 go_wp2_with fail
 refine (sa.out _).mono ?_
 rintro e w1 ⟨rfl, e1⟩
 obtain ⟨⟨q0, q1, q2⟩, _⟩ := Bb.later e1
 go_wp2_with fail
 refine (sb.out _).mono ?_
 rintro e w2 ⟨rfl, e2⟩
 clear q0 q1 q2
 have X2 := xt e1 e2
 obtain ⟨⟨q0, q1, q2⟩, _⟩ := Bb.later X2
 obtain ⟨⟨p0, p1, p2⟩, _⟩ := Ba.later X2
 go_wp2_with fail
 refine (small_any (a + b) _ (by omega) (by omega)).mono ?_
 rintro e w3 ⟨v', rfl, hz, e3⟩
 obtain ⟨a0', a1', p', n', cap', rfl⟩ := hz.shape
 have X3 := xt X2 e3
 have B4 := Br.later X3
 have Hz := hz.set3 B4 (.int .i64 a0') (.bool a1') (.slice p' n' cap')
 have Hx := Ext.set3 (b := w.heap.size + 1 + 1) (xt (xa (xa (x1 _ _) _) _) X3) (by omega) (.int .i64 a0') (.bool a1') (.slice p' n' cap')
 obtain ⟨⟨r0, r1, r2⟩, s0, s1, s2⟩ := B4
 clear p0 p1 p2 q0 q1 q2
 go_wp2
 exact bodyPost_ret (v := .agg #[.int .i64 a0', .bool a1', .slice p' n' cap']) (by simp [results, Tryz.results73, go_sem, r0, r1, r2]) rfl ⟨_, rfl, Hz, Hx⟩

theorem add_smallZ {va vb : Value} {a b : Int} (w : World) (ha : ZV w va a) (hb : ZV w vb b) (sa : smallB a = true) (sb : smallB b = true) :
  Calls Tryz.prog 73 #[va, vb] w fun e w' => ∃ v', e = .returned v' ∧ ZV w' v' (a + b) ∧ Ext w w' := by
 obtain ⟨a1, a2, rfl⟩ := ha.small_of sa
 obtain ⟨b1, b2, rfl⟩ := hb.small_of sb
 exact add_small a b w a1 a2 b1 b2

end Go.Proofs.YtfgohahfppabbaaGreatDoor

