/-
  Boxes made and filled, of any type.
-/
import Derived.Test.YtbebmjiopijheaaDoorSv1
namespace Go.Proofs.YtbebmjiopijheaaDoor
open Go.RowKit

theorem Vec.three {w : World} {b : Nat} {v0 v1 v2 : Value} (h : Vec w b [v0, v1, v2]) : w.cell? ⟨b, 0, none⟩ = some v0 ∧ w.cell? ⟨b, 1, none⟩ = some v1 ∧ w.cell? ⟨b, 2, none⟩ = some v2 :=
  ⟨(h 0 _ rfl).1, (h 1 _ rfl).1, (h 2 _ rfl).1⟩
theorem Vec.threeF {w : World} {b : Nat} {v0 v1 v2 : Value} (h : Vec w b [v0, v1, v2]) : w.frozen? ⟨b, 0, none⟩ = false ∧ w.frozen? ⟨b, 1, none⟩ = false ∧ w.frozen? ⟨b, 2, none⟩ = false :=
  ⟨(h 0 _ rfl).2, (h 1 _ rfl).2, (h 2 _ rfl).2⟩
theorem Vec.four {w : World} {b : Nat} {v0 v1 v2 v3 : Value} (h : Vec w b [v0, v1, v2, v3]) : w.cell? ⟨b, 0, none⟩ = some v0 ∧ w.cell? ⟨b, 1, none⟩ = some v1 ∧ w.cell? ⟨b, 2, none⟩ = some v2 ∧ w.cell? ⟨b, 3, none⟩ = some v3 :=
  ⟨(h 0 _ rfl).1, (h 1 _ rfl).1, (h 2 _ rfl).1, (h 3 _ rfl).1⟩
theorem Vec.fourF {w : World} {b : Nat} {v0 v1 v2 v3 : Value} (h : Vec w b [v0, v1, v2, v3]) : w.frozen? ⟨b, 0, none⟩ = false ∧ w.frozen? ⟨b, 1, none⟩ = false ∧ w.frozen? ⟨b, 2, none⟩ = false ∧ w.frozen? ⟨b, 3, none⟩ = false :=
  ⟨(h 0 _ rfl).2, (h 1 _ rfl).2, (h 2 _ rfl).2, (h 3 _ rfl).2⟩
theorem Vec.five {w : World} {b : Nat} {v0 v1 v2 v3 v4 : Value} (h : Vec w b [v0, v1, v2, v3, v4]) : w.cell? ⟨b, 0, none⟩ = some v0 ∧ w.cell? ⟨b, 1, none⟩ = some v1 ∧ w.cell? ⟨b, 2, none⟩ = some v2 ∧ w.cell? ⟨b, 3, none⟩ = some v3 ∧ w.cell? ⟨b, 4, none⟩ = some v4 :=
  ⟨(h 0 _ rfl).1, (h 1 _ rfl).1, (h 2 _ rfl).1, (h 3 _ rfl).1, (h 4 _ rfl).1⟩
theorem Vec.fiveF {w : World} {b : Nat} {v0 v1 v2 v3 v4 : Value} (h : Vec w b [v0, v1, v2, v3, v4]) : w.frozen? ⟨b, 0, none⟩ = false ∧ w.frozen? ⟨b, 1, none⟩ = false ∧ w.frozen? ⟨b, 2, none⟩ = false ∧ w.frozen? ⟨b, 3, none⟩ = false ∧ w.frozen? ⟨b, 4, none⟩ = false :=
  ⟨(h 0 _ rfl).2, (h 1 _ rfl).2, (h 2 _ rfl).2, (h 3 _ rfl).2, (h 4 _ rfl).2⟩
theorem mkB2 (w : World) (l0 l1 : List Value) (T0 T1 : TypeId) : ∃ u0 u1, w.alloc (.cells l0.toArray T0) = u0 ∧ u0.alloc (.cells l1.toArray T1) = u1 ∧ u0.heap.size = w.heap.size + 1 ∧ u1.heap.size = w.heap.size + 1 + 1 ∧ Vec u1 (w.heap.size) l0 ∧ Vec u1 (w.heap.size + 1) l1 ∧ Ext w u1 := by
  have X0 := x1 w (.cells l0.toArray T0)
  have B0 := vec_made w l0 T0
  obtain ⟨u0, h0⟩ : ∃ u, w.alloc (.cells l0.toArray T0) = u := ⟨_, rfl⟩
  rw [h0] at X0 B0
  have s0 : u0.heap.size = w.heap.size + 1 := by rw [← h0, World.size_alloc]
  have X := X0
  have X1 := x1 u0 (.cells l1.toArray T1)
  have B1 := vec_made u0 l1 T1
  obtain ⟨u1, h1⟩ : ∃ u, u0.alloc (.cells l1.toArray T1) = u := ⟨_, rfl⟩
  rw [h1] at X1 B1
  rw [s0] at B1
  have s1 : u1.heap.size = w.heap.size + 1 + 1 := by rw [← h1, World.size_alloc, s0]
  have B0 := B0.later X1
  have X := xt X X1
  exact ⟨u0, u1, h0, h1, s0, s1, B0, B1, X⟩
theorem mkB3 (w : World) (l0 l1 l2 : List Value) (T0 T1 T2 : TypeId) : ∃ u0 u1 u2, w.alloc (.cells l0.toArray T0) = u0 ∧ u0.alloc (.cells l1.toArray T1) = u1 ∧ u1.alloc (.cells l2.toArray T2) = u2 ∧ u0.heap.size = w.heap.size + 1 ∧ u1.heap.size = w.heap.size + 1 + 1 ∧ u2.heap.size = w.heap.size + 1 + 1 + 1 ∧ Vec u2 (w.heap.size) l0 ∧ Vec u2 (w.heap.size + 1) l1 ∧ Vec u2 (w.heap.size + 1 + 1) l2 ∧ Ext w u2 := by
  have X0 := x1 w (.cells l0.toArray T0)
  have B0 := vec_made w l0 T0
  obtain ⟨u0, h0⟩ : ∃ u, w.alloc (.cells l0.toArray T0) = u := ⟨_, rfl⟩
  rw [h0] at X0 B0
  have s0 : u0.heap.size = w.heap.size + 1 := by rw [← h0, World.size_alloc]
  have X := X0
  have X1 := x1 u0 (.cells l1.toArray T1)
  have B1 := vec_made u0 l1 T1
  obtain ⟨u1, h1⟩ : ∃ u, u0.alloc (.cells l1.toArray T1) = u := ⟨_, rfl⟩
  rw [h1] at X1 B1
  rw [s0] at B1
  have s1 : u1.heap.size = w.heap.size + 1 + 1 := by rw [← h1, World.size_alloc, s0]
  have B0 := B0.later X1
  have X := xt X X1
  have X2 := x1 u1 (.cells l2.toArray T2)
  have B2 := vec_made u1 l2 T2
  obtain ⟨u2, h2⟩ : ∃ u, u1.alloc (.cells l2.toArray T2) = u := ⟨_, rfl⟩
  rw [h2] at X2 B2
  rw [s1] at B2
  have s2 : u2.heap.size = w.heap.size + 1 + 1 + 1 := by rw [← h2, World.size_alloc, s1]
  have B0 := B0.later X2
  have B1 := B1.later X2
  have X := xt X X2
  exact ⟨u0, u1, u2, h0, h1, h2, s0, s1, s2, B0, B1, B2, X⟩
theorem mkB4 (w : World) (l0 l1 l2 l3 : List Value) (T0 T1 T2 T3 : TypeId) : ∃ u0 u1 u2 u3, w.alloc (.cells l0.toArray T0) = u0 ∧ u0.alloc (.cells l1.toArray T1) = u1 ∧ u1.alloc (.cells l2.toArray T2) = u2 ∧ u2.alloc (.cells l3.toArray T3) = u3 ∧ u0.heap.size = w.heap.size + 1 ∧ u1.heap.size = w.heap.size + 1 + 1 ∧ u2.heap.size = w.heap.size + 1 + 1 + 1 ∧ u3.heap.size = w.heap.size + 1 + 1 + 1 + 1 ∧ Vec u3 (w.heap.size) l0 ∧ Vec u3 (w.heap.size + 1) l1 ∧ Vec u3 (w.heap.size + 1 + 1) l2 ∧ Vec u3 (w.heap.size + 1 + 1 + 1) l3 ∧ Ext w u3 := by
  have X0 := x1 w (.cells l0.toArray T0)
  have B0 := vec_made w l0 T0
  obtain ⟨u0, h0⟩ : ∃ u, w.alloc (.cells l0.toArray T0) = u := ⟨_, rfl⟩
  rw [h0] at X0 B0
  have s0 : u0.heap.size = w.heap.size + 1 := by rw [← h0, World.size_alloc]
  have X := X0
  have X1 := x1 u0 (.cells l1.toArray T1)
  have B1 := vec_made u0 l1 T1
  obtain ⟨u1, h1⟩ : ∃ u, u0.alloc (.cells l1.toArray T1) = u := ⟨_, rfl⟩
  rw [h1] at X1 B1
  rw [s0] at B1
  have s1 : u1.heap.size = w.heap.size + 1 + 1 := by rw [← h1, World.size_alloc, s0]
  have B0 := B0.later X1
  have X := xt X X1
  have X2 := x1 u1 (.cells l2.toArray T2)
  have B2 := vec_made u1 l2 T2
  obtain ⟨u2, h2⟩ : ∃ u, u1.alloc (.cells l2.toArray T2) = u := ⟨_, rfl⟩
  rw [h2] at X2 B2
  rw [s1] at B2
  have s2 : u2.heap.size = w.heap.size + 1 + 1 + 1 := by rw [← h2, World.size_alloc, s1]
  have B0 := B0.later X2
  have B1 := B1.later X2
  have X := xt X X2
  have X3 := x1 u2 (.cells l3.toArray T3)
  have B3 := vec_made u2 l3 T3
  obtain ⟨u3, h3⟩ : ∃ u, u2.alloc (.cells l3.toArray T3) = u := ⟨_, rfl⟩
  rw [h3] at X3 B3
  rw [s2] at B3
  have s3 : u3.heap.size = w.heap.size + 1 + 1 + 1 + 1 := by rw [← h3, World.size_alloc, s2]
  have B0 := B0.later X3
  have B1 := B1.later X3
  have B2 := B2.later X3
  have X := xt X X3
  exact ⟨u0, u1, u2, u3, h0, h1, h2, h3, s0, s1, s2, s3, B0, B1, B2, B3, X⟩

end Go.Proofs.YtbebmjiopijheaaDoor

