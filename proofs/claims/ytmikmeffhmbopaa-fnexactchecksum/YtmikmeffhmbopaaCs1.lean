/-
  Rows of bytes that came in: handed over, compared.
-/
import Derived.Test.YtmikmeffhmbopaaBase
import Derived.RegionTactic
import Derived.Deep.OwnRows
namespace Go.Proofs.Ytmikmeffhmbopaa
open Go.RowKit

/-- A slice of bytes that lies in w. -/
def BytesIn (w : World) (v : Value) (l : List Int) : Prop :=
  (∃ p cap, v = .slice p l.length cap ∧ l.length ≤ cap ∧ (0 < l.length → ∃ b o, p = some ⟨b, o, none⟩ ∧ ∀ i, i < l.length → w.cell? ⟨b, o + i, none⟩ = some (.int .u8 (l.getD i 0))))
theorem BytesIn.later {w w' : World} {v : Value} {l : List Int} (h : BytesIn w v l) (x : Ext w w') : BytesIn w' v l := by
  obtain ⟨p, cap, h1, h2, h3⟩ := h
  refine ⟨p, cap, h1, h2, fun h0 => ?_⟩
  obtain ⟨b, o, h4, h5⟩ := h3 h0
  exact ⟨b, o, h4, fun i hi => cell_later x (h5 i hi)⟩
/-- Each is a byte. -/
def AreBytes (l : List Int) : Prop := ∀ i, 0 ≤ l.getD i 0 ∧ l.getD i 0 ≤ 255

theorem infoB8 : (Try.prog.info? 5).map (fun i => (i.zero, i.size, i.bytes)) = some (some (.int .u8 0), 1, 1) := by kernel_rfl
theorem xdN8 {a b : World} (h : Ext a b) (n : Nat) : Ext a (b.drewN n) := ⟨h.os, h.tape, h.output, h.size, h.block⟩

set_option maxRecDepth 8000 in
set_option maxHeartbeats 1000000 in
theorem toBytes (v : Value) (l : List Int) (w : World) (h : BytesIn w v l) (hl : l.length ≤ 1048576) :
    Calls Try.prog 5 #[v] w fun e w' => ∃ u, e = .returned u ∧ BytesIn w' u l ∧ Ext w w' := by
  obtain ⟨p, cap, rfl, hcap, hi⟩ := h
  have hmk := run_make_row' (P := Try.prog) 22 5 (.int .u8 0) 1 Try.underlying22 infoB8 rfl .i64 .i64 l.length (by omega) (by omega)
  obtain ⟨L, hL⟩ : ∃ L, l.length = L := ⟨_, rfl⟩
  rw [hL] at hl hcap hi hmk ⊢
  have HL : Hid (l.length = L) := hL
  have H1 : Hid (0 < L → ∃ b o, p = some ⟨b, o, none⟩ ∧ ∀ i, i < L → w.cell? ⟨b, o + i, none⟩ = some (.int .u8 (l.getD i 0))) := hi
  clear hL hi
  have R0 : (w.alloc (.cells (madeCells #[.int .u8 0] L) 5)).rowIs w.heap.size 5 L (fun j => .int .u8 (if j < 0 then l.getD j 0 else 0)) := (World.rowIs_made w (.int .u8 0) L 5).congr (fun i _ => by simp)
  have X0 := x1 w (.cells (madeCells #[.int .u8 0] L) 5)
  go_enter Try.func5, Try.ntmps5
  go_wp2_with fail
  go_loopw [4] (fun i wr => ∃ k : Nat, k ≤ L ∧ i = .int .i64 k ∧ Hid (wr.rowIs w.heap.size 5 L (fun j => .int .u8 (if j < k then l.getD j 0 else 0))) ∧ Ext w wr) (fun i _ => L - (intOf i).toNat)
  case atStart => exact ⟨0, by omega, rfl, R0, X0⟩
  case round =>
    obtain ⟨k, hk, rfl, R, X⟩ := hrel
    by_cases hlt : k < L
    · obtain ⟨b, o, rfl, hc⟩ := H1.out (by omega)
      have c1 := cell_later X (hc k hlt)
      obtain ⟨f, hf⟩ : ∃ f, l.getD k 0 = f := ⟨_, rfl⟩
      rw [hf] at c1
      have kf := World.rowIs.cell R.out (i := k) hlt
      have kz := World.rowIs.frozen R.out k
      simp only [Nat.lt_irrefl, if_false] at kf
      have R2 : Hid ((wr.setCell ⟨w.heap.size, k, none⟩ (.int .u8 f)).rowIs w.heap.size 5 L (fun j => .int .u8 (if j < k + 1 then l.getD j 0 else 0))) := (World.rowIs.set R.out k (.int .u8 f)).congr (fun j _ => by
        by_cases e : j = k
        · subst e; simp [← hf]
        · have : (j < k + 1) = (j < k) := by simp; omega
          simp only [this]
          first | rw [if_neg e] | rw [if_neg (fun h => e h.symm)])
      have hlt' : (k : Int) < (L : Int) := by omega
      clear hc hf H1 R R0 hmk
      go_wp2_with fail
      go_roundw
      case rel => exact ⟨k + 1, by omega, by simp, R2, xset X (Nat.le_refl _) _⟩
      case measure => simp [intOf]; omega
    · obtain rfl : k = L := by omega
      clear hmk R0
      go_wp2_with fail
      go_ret
      refine ⟨_, rfl, ⟨_, k, by rw [HL.out]; rfl, by rw [HL.out]; exact Nat.le_refl _, fun _ => ⟨w.heap.size, 0, rfl, fun i hi => ?_⟩⟩, X⟩
      rw [HL.out] at hi
      have := World.rowIs.cell R.out (i := i) hi
      rw [if_pos hi] at this
      rw [Nat.zero_add]
      exact this

set_option maxRecDepth 8000 in
set_option maxHeartbeats 1000000 in
/-- The same bytes are the same. -/
theorem eqBytes (u v : Value) (l : List Int) (w : World) (hu : BytesIn w u l) (hv : BytesIn w v l) (hl : l.length ≤ 1048576) :
    Calls Try.prog 7 #[u, v] w fun e w' => e = .returned (.bool true) ∧ Ext w w' := by
  obtain ⟨p, cap, rfl, hcap, hi⟩ := hu
  obtain ⟨p2, cap2, rfl, hcap2, hi2⟩ := hv
  obtain ⟨L, hL⟩ : ∃ L, l.length = L := ⟨_, rfl⟩
  rw [hL] at hl hcap hcap2 hi hi2 ⊢
  have H1 : Hid (0 < L → ∃ b o, p = some ⟨b, o, none⟩ ∧ ∀ i, i < L → w.cell? ⟨b, o + i, none⟩ = some (.int .u8 (l.getD i 0))) := hi
  have H2 : Hid (0 < L → ∃ b o, p2 = some ⟨b, o, none⟩ ∧ ∀ i, i < L → w.cell? ⟨b, o + i, none⟩ = some (.int .u8 (l.getD i 0))) := hi2
  clear hL hi hi2
  go_enter Try.func7, Try.ntmps7
  go_wp2_with fail
  go_loopw [5] (fun i wr => ∃ k : Nat, k ≤ L ∧ i = .int .i64 k ∧ Ext w wr) (fun i _ => L - (intOf i).toNat)
  case atStart => exact ⟨0, by omega, rfl, xr _⟩
  case round =>
    obtain ⟨k, hk, rfl, X⟩ := hrel
    by_cases hlt : k < L
    · obtain ⟨b, o, rfl, hc⟩ := H1.out (by omega)
      obtain ⟨b2, o2, rfl, hc2⟩ := H2.out (by omega)
      have c1 := cell_later X (hc k hlt)
      have c2 := cell_later X (hc2 k hlt)
      obtain ⟨f, hf⟩ : ∃ f, l.getD k 0 = f := ⟨_, rfl⟩
      rw [hf] at c1 c2
      have hlt' : (k : Int) < (L : Int) := by omega
      clear hc hc2 hf H1 H2
      go_wp2_with fail
      go_region
      all_goals go_wp2_with fail
      all_goals
        go_roundw
        case rel => exact ⟨k + 1, by omega, by simp, by first | exact X | exact xd X | exact xdN8 X _ | exact xdN8 (xd X) _⟩
        case measure => simp [intOf]; omega
    · obtain rfl : k = L := by omega
      go_wp2_with fail
      go_ret
      exact ⟨rfl, X⟩

end Go.Proofs.Ytmikmeffhmbopaa
