/-
  Rows of bools that came in: handed over, compared, measured.
-/
import Derived.Test.YtnpcckhalbbbhaaDoorSv1
import Derived.Deep.OwnRows
import Derived.BigQuiet
import Derived.Deep.QuietTactic
namespace Go.Proofs.YtnpcckhalbbbhaaDoor
open Go.RowKit

/-- A slice of ints that lies in w. -/
def BoolsIn (w : World) (v : Value) (l : List Bool) : Prop :=
  ∃ p cap, v = .slice p l.length cap ∧ l.length ≤ cap ∧ (0 < l.length → ∃ b o, p = some ⟨b, o, none⟩ ∧ ∀ i, i < l.length → w.cell? ⟨b, o + i, none⟩ = some (.bool (l.getD i false)))
theorem BoolsIn.later {w w' : World} {v : Value} {l : List Bool} (h : BoolsIn w v l) (x : Ext w w') : BoolsIn w' v l := by
  obtain ⟨p, cap, h1, h2, h3⟩ := h
  refine ⟨p, cap, h1, h2, fun h0 => ?_⟩
  obtain ⟨b, o, h4, h5⟩ := h3 h0
  exact ⟨b, o, h4, fun i hi => cell_later x (h5 i hi)⟩
/-- Ints of a row of one's own. -/
def BoolsAt (w : World) (g : Nat) (l : List Bool) : Prop := ∀ i, i < l.length → w.cell? ⟨g, i, none⟩ = some (.bool (l.getD i false))
theorem BoolsAt.later {w w' : World} {g : Nat} {l : List Bool} (h : BoolsAt w g l) (x : Ext w w') : BoolsAt w' g l := fun i hi => cell_later x (h i hi)
theorem BoolsAt.far {w : World} {g : Nat} {l : List Bool} (h : BoolsAt w g l) {p : Addr} (hp : p.block ≠ g) (u : Value) : BoolsAt (w.setCell p u) g l := fun i hi => by
  rw [World.cell?_setCell_other _ _ _ _ (fun e => hp (congrArg Addr.block e))]
  exact h i hi
theorem BoolsAt.bools {w : World} {g : Nat} {l : List Bool} (h : BoolsAt w g l) : BoolsIn w (.slice (some ⟨g, 0, none⟩) l.length l.length) l :=
  ⟨_, _, rfl, Nat.le_refl _, fun _ => ⟨g, 0, rfl, fun i hi => by rw [Nat.zero_add]; exact h i hi⟩⟩
theorem infoBool : (Tryd.prog.info? 4).map (fun i => (i.zero, i.size, i.bytes)) = some (some (.bool false), 1, 1) := by kernel_rfl

set_option maxRecDepth 8000 in
set_option maxHeartbeats 1000000 in
theorem toBools (v : Value) (l : List Bool) (w : World) (h : BoolsIn w v l) (hl : l.length ≤ 1048576) :
    Calls Tryd.prog 15 #[v] w fun e w' => (∃ g, e = .returned (.slice (some ⟨g, 0, none⟩) l.length l.length) ∧ w.heap.size ≤ g ∧ BoolsAt w' g l) ∧ Ext w w' := by
  obtain ⟨p, cap, rfl, hcap, hi⟩ := h
  have hmk := run_make_row' (P := Tryd.prog) 24 4 (.bool false) 1 Tryd.underlying24 infoBool rfl .i64 .i64 l.length (by omega) (by omega)
  obtain ⟨L, hL⟩ : ∃ L, l.length = L := ⟨_, rfl⟩
  rw [hL] at hl hcap hi hmk ⊢
  have HL : Hid (l.length = L) := hL
  have H1 : Hid (0 < L → ∃ b o, p = some ⟨b, o, none⟩ ∧ ∀ i, i < L → w.cell? ⟨b, o + i, none⟩ = some (.bool (l.getD i false))) := hi
  clear hL hi
  have R0 : (w.alloc (.cells (madeCells #[.bool false] L) 4)).rowIs w.heap.size 4 L (fun j => .bool (if j < 0 then l.getD j false else false)) := (World.rowIs_made w (.bool false) L 4).congr (fun i _ => by simp)
  have X0 := x1 w (.cells (madeCells #[.bool false] L) 4)
  go_enter Tryd.func15, Tryd.ntmps15
  go_wp2_with fail
  go_loopw [4] (fun i wr => ∃ k : Nat, k ≤ L ∧ i = .int .i64 k ∧ Hid (wr.rowIs w.heap.size 4 L (fun j => .bool (if j < k then l.getD j false else false))) ∧ Ext w wr) (fun i _ => L - (intOf i).toNat)
  case atStart => exact ⟨0, by omega, rfl, R0, X0⟩
  case round =>
    obtain ⟨k, hk, rfl, R, X⟩ := hrel
    by_cases hlt : k < L
    · obtain ⟨b, o, rfl, hc⟩ := H1.out (by omega)
      have c1 := cell_later X (hc k hlt)
      obtain ⟨f, hf⟩ : ∃ f, l.getD k false = f := ⟨_, rfl⟩
      rw [hf] at c1
      have kf := World.rowIs.cell R.out (i := k) hlt
      have kz := World.rowIs.frozen R.out k
      simp only [Nat.lt_irrefl, if_false] at kf
      have R2 : Hid ((wr.setCell ⟨w.heap.size, k, none⟩ (.bool f)).rowIs w.heap.size 4 L (fun j => .bool (if j < k + 1 then l.getD j false else false))) := (World.rowIs.set R.out k (.bool f)).congr (fun j _ => by
        by_cases e : j = k
        · subst e; simp [← hf]
        · have : (j < k + 1) = (j < k) := by simp; omega
          simp only [this]
          first | rw [if_neg e] | rw [if_neg (fun h => e h.symm)])
      have hlt' : (k : Int) < (L : Int) := by omega
      clear hc hf H1 R R0 hmk
      go_wp2_with fail
      go_roundw
      case rel => exact ⟨k + 1, by omega, by simp, R2, xset X (Nat.le_refl _) _⟩
      case measure => simp [intOf]; omega
    · obtain rfl : k = L := by omega
      clear hmk R0
      go_wp2_with fail
      go_ret
      refine ⟨⟨w.heap.size, rfl, Nat.le_refl _, fun i hi => ?_⟩, X⟩
      rw [HL.out] at hi
      have := World.rowIs.cell R.out (i := i) hi
      rw [if_pos hi] at this
      exact this
set_option maxRecDepth 8000 in
set_option maxHeartbeats 1000000 in
/-- The same ints are the same. -/
theorem eqBools (u v : Value) (l : List Bool) (w : World) (hu : BoolsIn w u l) (hv : BoolsIn w v l) (hl : l.length ≤ 1048576) :
    Calls Tryd.prog 22 #[u, v] w fun e w' => e = .returned (.bool true) ∧ Ext w w' := by
  obtain ⟨p, cap, rfl, hcap, hi⟩ := hu
  obtain ⟨p2, cap2, rfl, hcap2, hi2⟩ := hv
  obtain ⟨L, hL⟩ : ∃ L, l.length = L := ⟨_, rfl⟩
  rw [hL] at hl hcap hcap2 hi hi2 ⊢
  have H1 : Hid (0 < L → ∃ b o, p = some ⟨b, o, none⟩ ∧ ∀ i, i < L → w.cell? ⟨b, o + i, none⟩ = some (.bool (l.getD i false))) := hi
  have H2 : Hid (0 < L → ∃ b o, p2 = some ⟨b, o, none⟩ ∧ ∀ i, i < L → w.cell? ⟨b, o + i, none⟩ = some (.bool (l.getD i false))) := hi2
  clear hL hi hi2
  go_enter Tryd.func22, Tryd.ntmps22
  go_wp2_with fail
  go_loopw [5] (fun i wr => ∃ k : Nat, k ≤ L ∧ i = .int .i64 k ∧ Ext w wr) (fun i _ => L - (intOf i).toNat)
  case atStart => exact ⟨0, by omega, rfl, xr _⟩
  case round =>
    obtain ⟨k, hk, rfl, X⟩ := hrel
    by_cases hlt : k < L
    · obtain ⟨b, o, rfl, hc⟩ := H1.out (by omega)
      obtain ⟨b2, o2, rfl, hc2⟩ := H2.out (by omega)
      have c1 := cell_later X (hc k hlt)
      have c2 := cell_later X (hc2 k hlt)
      obtain ⟨f, hf⟩ : ∃ f, l.getD k false = f := ⟨_, rfl⟩
      rw [hf] at c1 c2
      have hlt' : (k : Int) < (L : Int) := by omega
      clear hc hc2 hf H1 H2
      go_wp2_with fail
      go_quiet (fail)
      go_wp2_with fail
      go_roundw
      case rel => exact ⟨k + 1, by omega, by go_num, ⟨X.os, X.tape, X.output, X.size, X.block⟩⟩
      case measure => simp [intOf]; omega
    · obtain rfl : k = L := by omega
      go_wp2_with fail
      go_ret
      exact ⟨rfl, X⟩
set_option maxHeartbeats 1000000 in
theorem szBools (v : Value) (l : List Bool) (m : Int) (w : World) (h : BoolsIn w v l) (m0 : 0 ≤ m) (m1 : m ≤ 1048576) (hl : l.length ≤ 9223372036854775807) :
    Calls Tryd.prog 11 #[v, .int .i64 m] w fun e w' => (∃ r : Int, e = .returned (.int .i64 r) ∧ -1 ≤ r ∧ r ≤ m ∧ (0 ≤ r → (l.length : Int) ≤ m)) ∧ Ext w w' := by
  obtain ⟨p, cap, rfl, hcap, -⟩ := h
  obtain ⟨n, hn⟩ : ∃ n, l.length = n := ⟨_, rfl⟩
  rw [hn] at hcap hl ⊢
  clear hn
  by_cases hb : m < n
  · go_enter Tryd.func11, Tryd.ntmps11
    go_wp2_with fail
    go_ret
    exact ⟨⟨-1, rfl, by omega, by omega, fun h => by omega⟩, xr _⟩
  · go_enter Tryd.func11, Tryd.ntmps11
    go_wp2_with fail
    go_ret
    exact ⟨⟨m - n, rfl, by omega, by omega⟩, xr _⟩

end Go.Proofs.YtnpcckhalbbbhaaDoor
