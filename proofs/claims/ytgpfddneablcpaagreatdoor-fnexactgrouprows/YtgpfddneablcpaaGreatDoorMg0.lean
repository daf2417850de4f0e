/-
  Several texts in one: Base, BaseT, Good.
-/
import Derived.Test.YtgpfddneablcpaaGreatDoorProg
import Derived.WalkKit
import Derived.WalkSpells
import Derived.WalkLawsBesides
namespace Go.Proofs.YtgpfddneablcpaaGreatDoor
open Go.RowKit

/-- The world has only grown: nothing that was there has turned. -/
abbrev Ext (w w' : World) : Prop := Below w.heap.size w w'
theorem xr (w : World) : Ext w w := Below.refl _ _
theorem xt {a b c : World} (h : Ext a b) (k : Ext b c) : Ext a c := h.trans (k.mono h.size)
theorem xa {a b : World} (h : Ext a b) (o : Obj) : Ext a (b.alloc o) := h.alloc h.size o
theorem xd {a b : World} (h : Ext a b) : Ext a b.drew := h.drew
theorem x1 (w : World) (o : Obj) : Ext w (w.alloc o) := xa (xr w) o

theorem ret_bool {a b : Bool} (h : a = b) : Ending.returned (.bool a) = .returned (.bool b) := by rw [h]
theorem ret_int {k : IntKind} {a b : Int} (h : a = b) : Ending.returned (.int k a) = .returned (.int k b) := by rw [h]

theorem xset {a b : World} (h : Ext a b) {p : Addr} (hp : a.heap.size ≤ p.block) (u : Value) : Ext a (b.setCell p u) := h.setCell hp u
theorem frozen_later {w w1 : World} (hb : Ext w w1) {p : Addr} {v : Value} (h : w.cell? p = some v) (hf : w.frozen? p = false) : w1.frozen? p = false :=
 (hb.frozen (World.block_lt_of_cell? _ _ h)).trans hf

/-- Two, three, four cells of one block, none frozen. -/
def Box2 (w : World) (b : Nat) (v0 v1 : Value) : Prop := (w.cell? ⟨b, 0, none⟩ = some v0 ∧ w.cell? ⟨b, 1, none⟩ = some v1) ∧ w.frozen? ⟨b, 0, none⟩ = false ∧ w.frozen? ⟨b, 1, none⟩ = false
def Box3 (w : World) (b : Nat) (v0 v1 v2 : Value) : Prop := (w.cell? ⟨b, 0, none⟩ = some v0 ∧ w.cell? ⟨b, 1, none⟩ = some v1 ∧ w.cell? ⟨b, 2, none⟩ = some v2) ∧ w.frozen? ⟨b, 0, none⟩ = false ∧ w.frozen? ⟨b, 1, none⟩ = false ∧ w.frozen? ⟨b, 2, none⟩ = false
theorem Box2.made (w : World) (v0 v1 : Value) (t : TypeId) : Box2 (w.alloc (.cells #[v0, v1] t)) w.heap.size v0 v1 := by
 refine ⟨⟨?_, ?_⟩, ?_, ?_⟩ <;> simp [go_sem]
theorem Box3.made (w : World) (v0 v1 v2 : Value) (t : TypeId) : Box3 (w.alloc (.cells #[v0, v1, v2] t)) w.heap.size v0 v1 v2 := by
 refine ⟨⟨?_, ?_, ?_⟩, ?_, ?_, ?_⟩ <;> simp [go_sem]
theorem Box2.later {w w1 : World} {b : Nat} {v0 v1 : Value} (h : Box2 w b v0 v1) (hb : Ext w w1) : Box2 w1 b v0 v1 :=
 ⟨⟨cell_later hb h.1.1, cell_later hb h.1.2⟩, frozen_later hb h.1.1 h.2.1, frozen_later hb h.1.2 h.2.2⟩
theorem Box3.later {w w1 : World} {b : Nat} {v0 v1 v2 : Value} (h : Box3 w b v0 v1 v2) (hb : Ext w w1) : Box3 w1 b v0 v1 v2 :=
 ⟨⟨cell_later hb h.1.1, cell_later hb h.1.2.1, cell_later hb h.1.2.2⟩, frozen_later hb h.1.1 h.2.1, frozen_later hb h.1.2.1 h.2.2.1, frozen_later hb h.1.2.2 h.2.2.2⟩
/-- A decimal as a value. -/
abbrev decV (neg : Bool) (d x : Int) : Value := .agg #[.bool neg, .int .i64 d, .int .i64 x]

/-- The table of the powers of ten lies as its initialiser lays it. -/
def Tens (w : World) : Prop := ∀ i : Nat, i < 20 → w.cell? ⟨0, i, none⟩ = some (.int .u64 ((10 ^ i : Nat) : Int))
theorem Tens.later {w w1 : World} (h : Tens w) (hb : Ext w w1) : Tens w1 := fun i hi => cell_later hb (h i hi)
theorem Tens.at15 {w : World} (h : Tens w) : w.cell? ⟨0, 15, none⟩ = some (.int .u64 1000000000000000) := h 15 (by decide)

/-- What a good decimal is. -/
def goodB (neg : Bool) (d x : Int) : Bool :=
 if d = 0 then (!neg && decide (x = 0)) else decide (0 < d ∧ d < 1000000000000000 ∧ d % 10 ≠ 0 ∧ -300 ≤ x ∧ x ≤ 300)

set_option maxHeartbeats 400000 in
theorem goodI (neg : Bool) (d x : Int) (w : World) (h1 : -9223372036854775808 ≤ d) (h2 : d ≤ 9223372036854775807) (hT : Tens w) :
  Calls Tryz.prog 58 #[.agg #[.bool neg, .int .i64 d, .int .i64 x]] w fun e w' => e = .returned (.bool (goodB neg d x)) ∧ Ext w w' := by
 have hT' := fun o => Lib.cell?_alloc_some o hT.at15
 clear hT
 go_enter Tryz.func58, Tryz.ntmps58
 go_wp2
 all_goals go_ret
 all_goals refine ⟨ret_bool ?_, ?_⟩
 all_goals first | exact x1 _ _ | skip
 all_goals clear hT'
 all_goals simp_all [goodB]
 all_goals (intros; omega)

set_option maxHeartbeats 400000 in
theorem goodS (neg : Bool) (d x : Int) (w : World) :
  Calls Tryz.prog 50 #[.agg #[.bool neg, .int .i64 d, .int .i64 x]] w fun e w' => e = .returned (.bool (goodB neg d x)) ∧ Ext w w' := by
 go_enter Tryz.func50, Tryz.ntmps50
 go_wp2
 all_goals go_ret
 all_goals refine ⟨ret_bool ?_, ?_⟩
 all_goals first | exact x1 _ _ | skip
 all_goals simp_all [goodB]
 all_goals (intros; omega)

set_option maxHeartbeats 400000 in
theorem toDec (neg : Bool) (d x : Int) (w : World) :
  Calls Tryz.prog 57 #[.agg #[.bool neg, .int .i64 d, .int .i64 x]] w fun e w' => e = .returned (.agg #[.bool neg, .int .i64 d, .int .i64 x]) ∧ Ext w w' := by
 go_enter Tryz.func57, Tryz.ntmps57
 go_wp2
 exact bodyPost_ret (v := .agg #[.bool neg, .int .i64 d, .int .i64 x]) (by simp [results, Tryz.results57, go_sem]) rfl ⟨rfl, xa (xa (x1 _ _) _) _⟩

end Go.Proofs.YtgpfddneablcpaaGreatDoor

