/-
  Chapter 12: whole numbers handed over and marked; groups marked and held.
-/
import Derived.Test.YtgpfddneablcpaaGreatDoorMg42
namespace Go.Proofs.YtgpfddneablcpaaGreatDoor
open Go.RowKit

set_option maxRecDepth 8000 in
set_option maxHeartbeats 1000000 in
theorem toIntsF (v : Value) (l : List Int) (w : World) (h : IntsIn w v l) (hl : l.length ≤ 1048576) :
    Calls Tryz.prog 7 #[v] w fun e w' => (∃ g, e = .returned (.slice (some ⟨g, 0, none⟩) l.length l.length) ∧ w.heap.size ≤ g ∧ IntsAt w' g l ∧ (g < w'.heap.size ∧ ∀ i, w'.frozen? ⟨g, i, none⟩ = false)) ∧ Ext w w' := by
  obtain ⟨p, cap, rfl, hcap, hi⟩ := h
  have hmk := run_make_row' (P := Tryz.prog) 25 3 (.int .i64 0) 8 Tryz.underlying25 infoInt rfl .i64 .i64 l.length (by omega) (by omega)
  obtain ⟨L, hL⟩ : ∃ L, l.length = L := ⟨_, rfl⟩
  rw [hL] at hl hcap hi hmk ⊢
  have HL : Hid (l.length = L) := hL
  have H1 : Hid (0 < L → ∃ b o, p = some ⟨b, o, none⟩ ∧ ∀ i, i < L → w.cell? ⟨b, o + i, none⟩ = some (.int .i64 (l.getD i 0))) := hi
  clear hL hi
  have R0 : (w.alloc (.cells (madeCells #[.int .i64 0] L) 3)).rowIs w.heap.size 3 L (fun j => .int .i64 (if j < 0 then l.getD j 0 else 0)) := (World.rowIs_made w (.int .i64 0) L 3).congr (fun i _ => by simp)
  have X0 := x1 w (.cells (madeCells #[.int .i64 0] L) 3)
  go_enter Tryz.func7, Tryz.ntmps7
  go_wp2_with fail
  go_loopw [4] (fun i wr => ∃ k : Nat, k ≤ L ∧ i = .int .i64 k ∧ Hid (wr.rowIs w.heap.size 3 L (fun j => .int .i64 (if j < k then l.getD j 0 else 0))) ∧ Ext w wr) (fun i _ => L - (intOf i).toNat)
  case atStart => exact ⟨0, by omega, rfl, R0, X0⟩
  case round =>
    obtain ⟨k, hk, rfl, R, X⟩ := hrel
    by_cases hlt : k < L
    · obtain ⟨b, o, rfl, hc⟩ := H1.out (by omega)
      have c1 := cell_later X (hc k hlt)
      obtain ⟨f, hf⟩ : ∃ f, l.getD k 0 = f := ⟨_, rfl⟩
      rw [hf] at c1
      have kf := World.rowIs.cell R.out (i := k) hlt
      have kz := World.rowIs.frozen R.out k
      simp only [Nat.lt_irrefl, if_false] at kf
      have R2 : Hid ((wr.setCell ⟨w.heap.size, k, none⟩ (.int .i64 f)).rowIs w.heap.size 3 L (fun j => .int .i64 (if j < k + 1 then l.getD j 0 else 0))) := (World.rowIs.set R.out k (.int .i64 f)).congr (fun j _ => by
        by_cases e : j = k
        · subst e; simp [← hf]
        · have : (j < k + 1) = (j < k) := by simp; omega
          simp only [this]
          first | rw [if_neg e] | rw [if_neg (fun h => e h.symm)])
      have hlt' : (k : Int) < (L : Int) := by omega
      clear hc hf H1 R R0 hmk
      go_wp2_with fail
      go_roundw
      case rel => exact ⟨k + 1, by omega, by simp, R2, xset X (Nat.le_refl _) _⟩
      case measure => simp [intOf]; omega
    · obtain rfl : k = L := by omega
      clear hmk R0
      go_wp2_with fail
      go_ret
      refine ⟨⟨w.heap.size, rfl, Nat.le_refl _, fun i hi => ?_, World.rowIs.lt R.out, fun i => World.rowIs.frozen R.out i⟩, X⟩
      rw [HL.out] at hi
      have := World.rowIs.cell R.out (i := i) hi
      rw [if_pos hi] at this
      exact this

set_option maxRecDepth 8000 in
set_option maxHeartbeats 2000000 in
theorem markIntsF (g n k0 : Nat) (w : World) (hc : ∀ i, i < n → ∃ u, w.cell? ⟨g, i, none⟩ = some u) (hf : ∀ i, w.frozen? ⟨g, i, none⟩ = false) (hn : n ≤ 1048576) (h1 : 1 ≤ k0) (h2 : k0 ≤ 10000000) :
    Calls Tryz.prog 13 #[.slice (some ⟨g, 0, none⟩) n n, .int .i64 k0] w fun e w' => e = .returned (.int .i64 ((k0 + n : Nat) : Int)) ∧ w.grownBy w' (some g) := by
  have HC : Hid (∀ i, i < n → ∃ u, w.cell? ⟨g, i, none⟩ = some u) := hc
  have HF : Hid (∀ i, w.frozen? ⟨g, i, none⟩ = false) := hf
  clear hc hf
  go_enter Tryz.func13, Tryz.ntmps13
  go_wp2_with fail
  go_loopw [1, 5] (fun q i wr => ∃ k : Nat, k ≤ n ∧ i = .int .i64 k ∧ q = .int .i64 ((k0 + k : Nat) : Int) ∧ Hid ((∀ i, i < n → ∃ u, wr.cell? ⟨g, i, none⟩ = some u) ∧ (∀ i, wr.frozen? ⟨g, i, none⟩ = false) ∧ w.grownBy wr (some g))) (fun _ i _ => n - (intOf i).toNat)
  case atStart => exact ⟨0, by omega, rfl, rfl, HC.out, HF.out, grown_refl _ _⟩
  case round =>
    obtain ⟨k, hk, rfl, rfl, HX⟩ := hrel
    clear HC HF
    by_cases hlt : k < n
    · obtain ⟨u, a0⟩ := HX.out.1 k hlt
      have f0 := HX.out.2.1 k
      have i2 : (k : Int) < (n : Int) := by omega
      obtain ⟨m, hm⟩ : ∃ m : Nat, k0 + k = m := ⟨_, rfl⟩
      have m1 : m ≤ 20000000 := by omega
      have HX2 : Hid ((∀ i, i < n → ∃ u, (wr.setCell ⟨g, k, none⟩ (.int .i64 m)).cell? ⟨g, i, none⟩ = some u) ∧ (∀ i, (wr.setCell ⟨g, k, none⟩ (.int .i64 m)).frozen? ⟨g, i, none⟩ = false) ∧ w.grownBy (wr.setCell ⟨g, k, none⟩ (.int .i64 m)) (some g)) := by
        refine ⟨fun i hi => ?_, fun i => by rw [World.frozen?_setCell]; exact HX.out.2.1 i, grown_set HX.out.2.2 _⟩
        by_cases e : i = k
        · subst e
          exact ⟨_, World.cell?_setCell_same' _ _ _ (by rw [a0]; rfl)⟩
        · rw [World.cell?_setCell_other _ _ _ _ (fun q => e (by have := congrArg Addr.off q; simp at this; omega))]
          exact HX.out.1 i hi
      rw [hm]
      have hnx : ((m : Nat) : Int) + 1 = ((k0 + (k + 1) : Nat) : Int) := by omega
      obtain ⟨w2, hw2⟩ : ∃ q, wr.setCell ⟨g, k, none⟩ (.int .i64 m) = q := ⟨_, rfl⟩
      rw [hw2] at HX2
      clear HX hm
      go_wp2_with fail
      go_roundw
      case rel => exact ⟨k + 1, by omega, by go_num, by first | (rw [hnx]) | (congr 1), HX2⟩
      case measure => simp [intOf]; omega
    · obtain rfl : k = n := by omega
      go_wp2_with fail
      go_ret
      exact ⟨rfl, HX.out.2.2⟩
/-- Groups that are marked. -/
def MarkedG (w : World) (v : Value) (L : List GG) : Prop := (∀ g, v.ownBlock = some g → GrCells w g L) ∧ MarkG w 1 L L.length
theorem MarkedG.later {w w' : World} {v : Value} {L : List GG} (h : MarkedG w v L) (x : Ext w w') : MarkedG w' v L := ⟨fun g hg => (h.1 g hg).later x, h.2.later x⟩
set_option maxHeartbeats 1000000 in
theorem markGNone (k0 : Nat) (w : World) : Calls Tryz.prog 14 #[.slice none 0 0, .int .i64 k0] w fun e w' => e = .returned (.int .i64 k0) ∧ Ext w w' := by
  go_enter Tryz.func14, Tryz.ntmps14
  go_wp2_with fail
  go_loopw [1, 5] (fun q i wr => q = .int .i64 k0 ∧ i = .int .i64 0 ∧ Hid (wr = w)) (fun _ _ _ => 0)
  case atStart => exact ⟨rfl, rfl, rfl⟩
  case round =>
    obtain ⟨rfl, rfl, hw⟩ := hrel
    have XF : Hid (Ext w wr) := by rw [hw.out]; exact xr _
    clear hw
    go_wp2_with fail
    go_ret
    exact ⟨rfl, XF.out⟩
set_option maxHeartbeats 1000000 in
theorem heldGNone (k0 : Nat) (w : World) : Calls Tryz.prog 15 #[.slice none 0 0, .int .i64 k0] w fun e w' => e = .returned (.int .i64 k0) ∧ Ext w w' := by
  go_enter Tryz.func15, Tryz.ntmps15
  go_wp2_with fail
  go_loopw [1, 5] (fun q i wr => q = .int .i64 k0 ∧ i = .int .i64 0 ∧ Hid (wr = w)) (fun _ _ _ => 0)
  case atStart => exact ⟨rfl, rfl, rfl⟩
  case round =>
    obtain ⟨rfl, rfl, hw⟩ := hrel
    have XF : Hid (Ext w wr) := by rw [hw.out]; exact xr _
    clear hw
    go_wp2_with fail
    go_ret
    exact ⟨rfl, XF.out⟩
/-- The answer's groups marked. -/
theorem markAns (v : Value) (L : List GG) (b : Nat) (w : World) (h : LieG w b b v L) (hL : L.length ≤ 2000) (hs : sumM L ≤ 50000) (hk : ∀ x ∈ L, x.K.length ≤ 4 ∧ x.e.ns.length ≤ 2000) :
    Calls Tryz.prog 14 #[v, .int .i64 1] w fun e w' => e = .returned (.int .i64 ((1 + sumM L : Nat) : Int)) ∧ MarkedG w' v L ∧ OnlyG w w' L := by
  rcases h.list.2 with ⟨e9, h9⟩ | ⟨g, cap, cur, e9, _, _, hc, _⟩
  · have : L = [] := List.eq_nil_of_length_eq_zero h9
    subst this
    subst e9
    refine (markGNone 1 w).mono ?_
    rintro e w' ⟨rfl, E⟩
    exact ⟨rfl, ⟨fun g hg => (by cases hg), fun j x hj => by simp at hj⟩, E.os, E.tape, E.output, E.size, fun k hk _ => E.block k hk⟩
  · subst e9
    refine (markGroups L g cap 1 w hL hc (fun i x hi => ownG_at h.list rfl hi) (h.apart rfl) (h.marks 1) (by omega) (by omega) (fun x hx => ⟨by have := (hk x hx).1; omega, by have := (hk x hx).2; omega⟩)).mono ?_
    rintro e w' ⟨rfl, m1, m2, m3⟩
    exact ⟨rfl, ⟨fun g' hg => by have : g = g' := by simpa [Value.ownBlock] using hg
                                 subst this
                                 exact m2, m1⟩, m3⟩
/-- The answer's groups are held. -/
theorem heldAns (v : Value) (L : List GG) (b : Nat) (w0 w : World) (h : LieG w0 b b v L) (M : MarkedG w v L) (hL : L.length ≤ 2000) (hs : sumM L ≤ 50000) (hk : ∀ x ∈ L, x.K.length ≤ 4 ∧ x.e.ns.length ≤ 2000) :
    Calls Tryz.prog 15 #[v, .int .i64 1] w fun e w' => e = .returned (.int .i64 ((1 + sumM L : Nat) : Int)) ∧ Ext w w' := by
  rcases h.list.2 with ⟨e9, h9⟩ | ⟨g, cap, cur, e9, _, _, hc, _⟩
  · have : L = [] := List.eq_nil_of_length_eq_zero h9
    subst this
    subst e9
    exact heldGNone 1 w
  · subst e9
    exact heldGroups L g cap 1 w hL hc (M.1 g rfl) M.2 (by omega) (by omega) (fun x hx => ⟨by have := (hk x hx).1; omega, by have := (hk x hx).2; omega⟩)

end Go.Proofs.YtgpfddneablcpaaGreatDoor

