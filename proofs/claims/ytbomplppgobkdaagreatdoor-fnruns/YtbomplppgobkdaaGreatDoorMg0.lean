/-
  Several texts in one: Base, BaseT, Good, Wide.
-/
import Derived.Test.YtbomplppgobkdaaGreatDoorProg
import Derived.WalkKit
import Derived.WalkSpells
import Derived.WalkLawsBesides
import Derived.Shelf.Bits.Mul64
import Derived.Deep.QuietTactic
import Derived.BigQuiet
import Derived.Deep.RegionWith
namespace Go.Proofs.YtbomplppgobkdaaGreatDoor
open Go.RowKit

/-- The world has only grown: nothing that was there has turned. -/
abbrev Ext (w w' : World) : Prop := Below w.heap.size w w'
theorem xr (w : World) : Ext w w := Below.refl _ _
theorem xt {a b c : World} (h : Ext a b) (k : Ext b c) : Ext a c := h.trans (k.mono h.size)
theorem xa {a b : World} (h : Ext a b) (o : Obj) : Ext a (b.alloc o) := h.alloc h.size o
theorem xd {a b : World} (h : Ext a b) : Ext a b.drew := h.drew
theorem x1 (w : World) (o : Obj) : Ext w (w.alloc o) := xa (xr w) o

theorem ret_bool {a b : Bool} (h : a = b) : Ending.returned (.bool a) = .returned (.bool b) := by rw [h]
theorem ret_int {k : IntKind} {a b : Int} (h : a = b) : Ending.returned (.int k a) = .returned (.int k b) := by rw [h]

theorem xset {a b : World} (h : Ext a b) {p : Addr} (hp : a.heap.size ≤ p.block) (u : Value) : Ext a (b.setCell p u) := h.setCell hp u
theorem frozen_later {w w1 : World} (hb : Ext w w1) {p : Addr} {v : Value} (h : w.cell? p = some v) (hf : w.frozen? p = false) : w1.frozen? p = false :=
  (hb.frozen (World.block_lt_of_cell? _ _ h)).trans hf

/-- Two, three, four cells of one block, none frozen. -/
def Box2 (w : World) (b : Nat) (v0 v1 : Value) : Prop := (w.cell? ⟨b, 0, none⟩ = some v0 ∧ w.cell? ⟨b, 1, none⟩ = some v1) ∧ w.frozen? ⟨b, 0, none⟩ = false ∧ w.frozen? ⟨b, 1, none⟩ = false
def Box3 (w : World) (b : Nat) (v0 v1 v2 : Value) : Prop := (w.cell? ⟨b, 0, none⟩ = some v0 ∧ w.cell? ⟨b, 1, none⟩ = some v1 ∧ w.cell? ⟨b, 2, none⟩ = some v2) ∧ w.frozen? ⟨b, 0, none⟩ = false ∧ w.frozen? ⟨b, 1, none⟩ = false ∧ w.frozen? ⟨b, 2, none⟩ = false
def Box4 (w : World) (b : Nat) (v0 v1 v2 v3 : Value) : Prop := (w.cell? ⟨b, 0, none⟩ = some v0 ∧ w.cell? ⟨b, 1, none⟩ = some v1 ∧ w.cell? ⟨b, 2, none⟩ = some v2 ∧ w.cell? ⟨b, 3, none⟩ = some v3) ∧ w.frozen? ⟨b, 0, none⟩ = false ∧ w.frozen? ⟨b, 1, none⟩ = false ∧ w.frozen? ⟨b, 2, none⟩ = false ∧ w.frozen? ⟨b, 3, none⟩ = false
theorem Box2.made (w : World) (v0 v1 : Value) (t : TypeId) : Box2 (w.alloc (.cells #[v0, v1] t)) w.heap.size v0 v1 := by
  refine ⟨⟨?_, ?_⟩, ?_, ?_⟩ <;> simp [go_sem]
theorem Box3.made (w : World) (v0 v1 v2 : Value) (t : TypeId) : Box3 (w.alloc (.cells #[v0, v1, v2] t)) w.heap.size v0 v1 v2 := by
  refine ⟨⟨?_, ?_, ?_⟩, ?_, ?_, ?_⟩ <;> simp [go_sem]
theorem Box4.made (w : World) (v0 v1 v2 v3 : Value) (t : TypeId) : Box4 (w.alloc (.cells #[v0, v1, v2, v3] t)) w.heap.size v0 v1 v2 v3 := by
  refine ⟨⟨?_, ?_, ?_, ?_⟩, ?_, ?_, ?_, ?_⟩ <;> simp [go_sem]
theorem Box2.later {w w1 : World} {b : Nat} {v0 v1 : Value} (h : Box2 w b v0 v1) (hb : Ext w w1) : Box2 w1 b v0 v1 :=
  ⟨⟨cell_later hb h.1.1, cell_later hb h.1.2⟩, frozen_later hb h.1.1 h.2.1, frozen_later hb h.1.2 h.2.2⟩
theorem Box3.later {w w1 : World} {b : Nat} {v0 v1 v2 : Value} (h : Box3 w b v0 v1 v2) (hb : Ext w w1) : Box3 w1 b v0 v1 v2 :=
  ⟨⟨cell_later hb h.1.1, cell_later hb h.1.2.1, cell_later hb h.1.2.2⟩, frozen_later hb h.1.1 h.2.1, frozen_later hb h.1.2.1 h.2.2.1, frozen_later hb h.1.2.2 h.2.2.2⟩
theorem Box4.later {w w1 : World} {b : Nat} {v0 v1 v2 v3 : Value} (h : Box4 w b v0 v1 v2 v3) (hb : Ext w w1) : Box4 w1 b v0 v1 v2 v3 :=
  ⟨⟨cell_later hb h.1.1, cell_later hb h.1.2.1, cell_later hb h.1.2.2.1, cell_later hb h.1.2.2.2⟩, frozen_later hb h.1.1 h.2.1, frozen_later hb h.1.2.1 h.2.2.1, frozen_later hb h.1.2.2.1 h.2.2.2.1, frozen_later hb h.1.2.2.2 h.2.2.2.2⟩

/-- A decimal as a value. -/
abbrev decV (neg : Bool) (d x : Int) : Value := .agg #[.bool neg, .int .i64 d, .int .i64 x]

/-- The table of the powers of ten lies as its initialiser lays it. -/
def Tens (w : World) : Prop := ∀ i : Nat, i < 20 → w.cell? ⟨0, i, none⟩ = some (.int .u64 ((10 ^ i : Nat) : Int))
theorem Tens.later {w w1 : World} (h : Tens w) (hb : Ext w w1) : Tens w1 := fun i hi => cell_later hb (h i hi)
theorem Tens.at15 {w : World} (h : Tens w) : w.cell? ⟨0, 15, none⟩ = some (.int .u64 1000000000000000) := h 15 (by decide)

/-- What a good decimal is. -/
def goodB (neg : Bool) (d x : Int) : Bool :=
  if d = 0 then (!neg && decide (x = 0)) else decide (0 < d ∧ d < 1000000000000000 ∧ d % 10 ≠ 0 ∧ -300 ≤ x ∧ x ≤ 300)

set_option maxHeartbeats 400000 in
theorem goodI (neg : Bool) (d x : Int) (w : World) (h1 : -9223372036854775808 ≤ d) (h2 : d ≤ 9223372036854775807) (hT : Tens w) :
    Calls Tryz.prog 86 #[.agg #[.bool neg, .int .i64 d, .int .i64 x]] w fun e w' => e = .returned (.bool (goodB neg d x)) ∧ Ext w w' := by
  have hT' := fun o => Lib.cell?_alloc_some o hT.at15
  clear hT
  go_enter Tryz.func86, Tryz.ntmps86
  go_wp2
  all_goals go_ret
  all_goals refine ⟨ret_bool ?_, ?_⟩
  all_goals first | exact x1 _ _ | skip
  all_goals clear hT'
  all_goals simp_all [goodB]
  all_goals (intros; omega)

set_option maxHeartbeats 400000 in
theorem goodS (neg : Bool) (d x : Int) (w : World) :
    Calls Tryz.prog 79 #[.agg #[.bool neg, .int .i64 d, .int .i64 x]] w fun e w' => e = .returned (.bool (goodB neg d x)) ∧ Ext w w' := by
  go_enter Tryz.func79, Tryz.ntmps79
  go_wp2
  all_goals go_ret
  all_goals refine ⟨ret_bool ?_, ?_⟩
  all_goals first | exact x1 _ _ | skip
  all_goals simp_all [goodB]
  all_goals (intros; omega)

set_option maxHeartbeats 1000000 in
theorem mul64_any (x y : Nat) (hx : x < 18446744073709551616) (hy : y < 18446744073709551616) (w : World) :
    Calls Tryz.prog 197 #[.int .u64 x, .int .u64 y] w fun e w' => ∃ h l : Nat, e = .returned (.tuple #[.int .u64 h, .int .u64 l]) ∧ w' = w ∧ h < 18446744073709551616 ∧ l < 18446744073709551616 ∧ h * 18446744073709551616 + l = x * y := by
  obtain ⟨bd, bt, bw, hhi⟩ := Lib.mul64_hi x y hx hy
  have ba := Lib.half_mul_le (a := x / 4294967296) (b := y / 4294967296) (by omega) (by omega)
  have bb := Lib.half_mul_le (a := x / 4294967296) (b := y % 4294967296) (by omega) (by omega)
  have bc := Lib.half_mul_le (a := x % 4294967296) (b := y / 4294967296) (by omega) (by omega)
  have ba' : x / 4294967296 * (y / 4294967296) < 18446744073709551616 := by omega
  have bb' : x / 4294967296 * (y % 4294967296) < 18446744073709551616 := by omega
  have bc' : x % 4294967296 * (y / 4294967296) < 18446744073709551616 := by omega
  have hlt : x * y < 18446744073709551616 * 18446744073709551616 := Nat.mul_lt_mul'' hx hy
  have hq : x * y / 18446744073709551616 < 18446744073709551616 := Nat.div_lt_of_lt_mul hlt
  have bh1 : x / 4294967296 * (y / 4294967296) + (x / 4294967296 * (y % 4294967296) + x % 4294967296 * (y % 4294967296) / 4294967296) / 4294967296 < 18446744073709551616 := by omega
  have bh : x / 4294967296 * (y / 4294967296) + (x / 4294967296 * (y % 4294967296) + x % 4294967296 * (y % 4294967296) / 4294967296) / 4294967296 + ((x / 4294967296 * (y % 4294967296) + x % 4294967296 * (y % 4294967296) / 4294967296) % 4294967296 + x % 4294967296 * (y / 4294967296)) / 4294967296 < 18446744073709551616 := by omega
  have hc : (x * y / 18446744073709551616) * 18446744073709551616 + x * y % 18446744073709551616 = x * y := Nat.div_add_mod' _ _
  have HC : Hid ((x * y / 18446744073709551616) * 18446744073709551616 + x * y % 18446744073709551616 = x * y) := hc
  have HQ : Hid (x * y / 18446744073709551616 < 18446744073709551616) := hq
  have HH := hhi
  have HHI : Hid (x / 4294967296 * (y / 4294967296) + (x / 4294967296 * (y % 4294967296) + x % 4294967296 * (y % 4294967296) / 4294967296) / 4294967296 + ((x / 4294967296 * (y % 4294967296) + x % 4294967296 * (y % 4294967296) / 4294967296) % 4294967296 + x % 4294967296 * (y / 4294967296)) / 4294967296 = x * y / 18446744073709551616) := hhi
  clear hc hq hlt hhi HH
  go_enter Tryz.func197, Tryz.ntmps197
  go_wp2
  simp only [Mul64.maskN x hx, Mul64.maskN y hy, Mul64.divN, Mul64.mulN, Mul64.addN, Mul64.wrapN _ bd, Mul64.wrapN _ bb', Mul64.wrapN _ bt, Mul64.maskN _ bt, Mul64.wrapN _ bc', Mul64.wrapN _ bw, Mul64.wrapN _ ba', Mul64.wrapN _ bh1, Mul64.wrapN _ bh, Mul64.wrapM (x * y)]
  rw [HHI.out]
  go_ret2
  exact ⟨_, _, rfl, rfl, HQ.out, Nat.mod_lt _ (by decide), HC.out⟩

/-- A number of two words as a value. -/
def WV (v : Value) (n : Nat) : Prop := ∃ h l : Nat, v = .agg #[.int .u64 h, .int .u64 l] ∧ h < 18446744073709551616 ∧ l < 18446744073709551616 ∧ h * 18446744073709551616 + l = n

set_option maxHeartbeats 1000000 in
theorem product_any (x y : Nat) (hx : x < 18446744073709551616) (hy : y < 18446744073709551616) (w : World) :
    Calls Tryz.prog 178 #[.int .u64 x, .int .u64 y] w fun e w' => ∃ v, e = .returned v ∧ WV v (x * y) ∧ Ext w w' := by
  go_enter Tryz.func178, Tryz.ntmps178
  go_wp2_with fail
  refine (mul64_any x y hx hy _).mono ?_
  rintro e w1 ⟨h, l, rfl, rfl, h1, h2, h3⟩
  have H3 : Hid (h * 18446744073709551616 + l = x * y) := h3
  clear h3
  go_wp2
  exact bodyPost_ret (v := .agg #[.int .u64 h, .int .u64 l]) (by simp [results, Tryz.results178, go_sem]) rfl ⟨_, rfl, ⟨h, l, rfl, h1, h2, H3.out⟩, x1 _ _⟩

theorem wv_lt {a b h l h' l' : Nat} (h2 : l < 18446744073709551616) (e : h * 18446744073709551616 + l = a) (h2' : l' < 18446744073709551616) (e' : h' * 18446744073709551616 + l' = b) : a < b ↔ h < h' ∨ h = h' ∧ l < l' := by omega

set_option maxHeartbeats 1000000 in
theorem less_any {v u : Value} {a b : Nat} (w : World) (hv : WV v a) (hu : WV u b) :
    Calls Tryz.prog 158 #[v, u] w fun e w' => e = .returned (.bool (decide (a < b))) ∧ Ext w w' := by
  obtain ⟨h, l, rfl, h1, h2, e1⟩ := hv
  obtain ⟨h', l', rfl, h1', h2', e2⟩ := hu
  have E := wv_lt h2 e1 h2' e2
  have HE : Hid (a < b ↔ h < h' ∨ h = h' ∧ l < l') := E
  clear E e1 e2
  go_enter Tryz.func158, Tryz.ntmps158
  go_wp2
  all_goals go_ret
  all_goals refine ⟨ret_bool ?_, xa (x1 _ _) _⟩
  all_goals rw [Bool.eq_iff_iff]
  all_goals simp [HE.out]
  all_goals omega

theorem Tens.at {w : World} (h : Tens w) {i : Nat} (hi : i < 20) : ∃ t : Nat, 10 ^ i = t ∧ t < 18446744073709551616 ∧ w.cell? ⟨0, i, none⟩ = some (.int .u64 t) := by
  refine ⟨10 ^ i, rfl, ?_, h i hi⟩
  have : 10 ^ i ≤ 10 ^ 19 := Nat.pow_le_pow_right (by decide) (by omega)
  have e : (10 : Nat) ^ 19 = 10000000000000000000 := by decide
  omega

set_option maxHeartbeats 1000000 in
theorem sizeOf_any (neg : Bool) (d : Nat) (x : Int) (w : World) (hd : d < 1000000000000000) :
    Calls Tryz.prog 145 #[.agg #[.bool neg, .int .i64 d, .int .i64 x]] w fun e w' => ∃ v, e = .returned v ∧ WV v d ∧ Ext w w' := by
  go_enter Tryz.func145, Tryz.ntmps145
  go_wp2
  exact bodyPost_ret (v := .agg #[.int .u64 (0 : Nat), .int .u64 d]) (by simp [results, Tryz.results145, go_sem]) rfl ⟨_, rfl, ⟨0, d, rfl, by omega, by omega, by omega⟩, xa (x1 _ _) _⟩

end Go.Proofs.YtbomplppgobkdaaGreatDoor

