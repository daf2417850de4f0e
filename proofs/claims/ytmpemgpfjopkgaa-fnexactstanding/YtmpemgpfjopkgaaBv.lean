/-
  Rows of bools that came in: handed over, compared, measured.
-/
import Derived.Test.YtmpemgpfjopkgaaSv1
import Derived.Deep.OwnRows
import Derived.BigQuiet
import Derived.Deep.QuietTactic
namespace Go.Proofs.Ytmpemgpfjopkgaa
open Go.RowKit

/-- A slice of ints that lies in w. -/
def BoolsIn (w : World) (v : Value) (l : List Bool) : Prop :=
  ∃ p cap, v = .slice p l.length cap ∧ l.length ≤ cap ∧ (0 < l.length → ∃ b o, p = some ⟨b, o, none⟩ ∧ ∀ i, i < l.length → w.cell? ⟨b, o + i, none⟩ = some (.bool (l.getD i false)))
theorem BoolsIn.later {w w' : World} {v : Value} {l : List Bool} (h : BoolsIn w v l) (x : Ext w w') : BoolsIn w' v l := by
  obtain ⟨p, cap, h1, h2, h3⟩ := h
  refine ⟨p, cap, h1, h2, fun h0 => ?_⟩
  obtain ⟨b, o, h4, h5⟩ := h3 h0
  exact ⟨b, o, h4, fun i hi => cell_later x (h5 i hi)⟩
/-- Ints of a row of one's own. -/
def BoolsAt (w : World) (g : Nat) (l : List Bool) : Prop := ∀ i, i < l.length → w.cell? ⟨g, i, none⟩ = some (.bool (l.getD i false))
theorem BoolsAt.later {w w' : World} {g : Nat} {l : List Bool} (h : BoolsAt w g l) (x : Ext w w') : BoolsAt w' g l := fun i hi => cell_later x (h i hi)
theorem BoolsAt.far {w : World} {g : Nat} {l : List Bool} (h : BoolsAt w g l) {p : Addr} (hp : p.block ≠ g) (u : Value) : BoolsAt (w.setCell p u) g l := fun i hi => by
  rw [World.cell?_setCell_other _ _ _ _ (fun e => hp (congrArg Addr.block e))]
  exact h i hi
theorem BoolsAt.bools {w : World} {g : Nat} {l : List Bool} (h : BoolsAt w g l) : BoolsIn w (.slice (some ⟨g, 0, none⟩) l.length l.length) l :=
  ⟨_, _, rfl, Nat.le_refl _, fun _ => ⟨g, 0, rfl, fun i hi => by rw [Nat.zero_add]; exact h i hi⟩⟩
theorem infoBool : (Try.prog.info? 4).map (fun i => (i.zero, i.size, i.bytes)) = some (some (.bool false), 1, 1) := by kernel_rfl

set_option maxRecDepth 8000 in
set_option maxHeartbeats 1000000 in
/-- The same ints are the same. -/
theorem eqBools (u v : Value) (l : List Bool) (w : World) (hu : BoolsIn w u l) (hv : BoolsIn w v l) (hl : l.length ≤ 1048576) :
    Calls Try.prog 10 #[u, v] w fun e w' => e = .returned (.bool true) ∧ Ext w w' := by
  obtain ⟨p, cap, rfl, hcap, hi⟩ := hu
  obtain ⟨p2, cap2, rfl, hcap2, hi2⟩ := hv
  obtain ⟨L, hL⟩ : ∃ L, l.length = L := ⟨_, rfl⟩
  rw [hL] at hl hcap hcap2 hi hi2 ⊢
  have H1 : Hid (0 < L → ∃ b o, p = some ⟨b, o, none⟩ ∧ ∀ i, i < L → w.cell? ⟨b, o + i, none⟩ = some (.bool (l.getD i false))) := hi
  have H2 : Hid (0 < L → ∃ b o, p2 = some ⟨b, o, none⟩ ∧ ∀ i, i < L → w.cell? ⟨b, o + i, none⟩ = some (.bool (l.getD i false))) := hi2
  clear hL hi hi2
  go_enter Try.func10, Try.ntmps10
  go_wp2_with fail
  go_loopw [5] (fun i wr => ∃ k : Nat, k ≤ L ∧ i = .int .i64 k ∧ Ext w wr) (fun i _ => L - (intOf i).toNat)
  case atStart => exact ⟨0, by omega, rfl, xr _⟩
  case round =>
    obtain ⟨k, hk, rfl, X⟩ := hrel
    by_cases hlt : k < L
    · obtain ⟨b, o, rfl, hc⟩ := H1.out (by omega)
      obtain ⟨b2, o2, rfl, hc2⟩ := H2.out (by omega)
      have c1 := cell_later X (hc k hlt)
      have c2 := cell_later X (hc2 k hlt)
      obtain ⟨f, hf⟩ : ∃ f, l.getD k false = f := ⟨_, rfl⟩
      rw [hf] at c1 c2
      have hlt' : (k : Int) < (L : Int) := by omega
      clear hc hc2 hf H1 H2
      go_wp2_with fail
      go_quiet (fail)
      go_wp2_with fail
      go_roundw
      case rel => exact ⟨k + 1, by omega, by go_num, ⟨X.os, X.tape, X.output, X.size, X.block⟩⟩
      case measure => simp [intOf]; omega
    · obtain rfl : k = L := by omega
      go_wp2_with fail
      go_ret
      exact ⟨rfl, X⟩

end Go.Proofs.Ytmpemgpfjopkgaa
