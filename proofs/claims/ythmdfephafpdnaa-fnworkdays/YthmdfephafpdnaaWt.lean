/-
  FnExactWorkdays, walked.
-/
import Derived.Test.YthmdfephafpdnaaWk
import Derived.Deep.OwnRows
namespace Go.Proofs.Ythmdfephafpdnaa
open Go.RowKit

theorem infoI : (Try.prog.info? 3).map (fun i => (i.zero, i.size, i.bytes)) = some (some (.int .i64 0), 1, 8) := by kernel_rfl

set_option maxRecDepth 8000 in
set_option maxHeartbeats 1000000 in
theorem toInts (v : Value) (l : List Int) (w : World) (h : IntsIn w v l) (hl : l.length ≤ 1048576) :
    Calls Try.prog 9 #[v] w fun e w' => ∃ u, e = .returned u ∧ IntsIn w' u l ∧ Ext w w' := by
  obtain ⟨p, cap, rfl, hcap, hi⟩ := h
  have hmk := run_make_row' (P := Try.prog) 23 3 (.int .i64 0) 8 Try.underlying23 infoI rfl .i64 .i64 l.length (by omega) (by omega)
  obtain ⟨L, hL⟩ : ∃ L, l.length = L := ⟨_, rfl⟩
  rw [hL] at hl hcap hi hmk ⊢
  have HL : Hid (l.length = L) := hL
  have H1 : Hid (0 < L → ∃ b o, p = some ⟨b, o, none⟩ ∧ ∀ i, i < L → w.cell? ⟨b, o + i, none⟩ = some (.int .i64 (l.getD i 0))) := hi
  clear hL hi
  have R0 : (w.alloc (.cells (madeCells #[.int .i64 0] L) 3)).rowIs w.heap.size 3 L (fun j => .int .i64 (if j < 0 then l.getD j 0 else 0)) := (World.rowIs_made w (.int .i64 0) L 3).congr (fun i _ => by simp)
  have X0 := x1 w (.cells (madeCells #[.int .i64 0] L) 3)
  go_enter Try.func9, Try.ntmps9
  go_wp2_with fail
  go_loopw [4] (fun i wr => ∃ k : Nat, k ≤ L ∧ i = .int .i64 k ∧ Hid (wr.rowIs w.heap.size 3 L (fun j => .int .i64 (if j < k then l.getD j 0 else 0))) ∧ Ext w wr) (fun i _ => L - (intOf i).toNat)
  case atStart => exact ⟨0, by omega, rfl, R0, X0⟩
  case round =>
    obtain ⟨k, hk, rfl, R, X⟩ := hrel
    by_cases hlt : k < L
    · obtain ⟨b, o, rfl, hc⟩ := H1.out (by omega)
      have c1 := cell_later X (hc k hlt)
      obtain ⟨f, hf⟩ : ∃ f, l.getD k 0 = f := ⟨_, rfl⟩
      rw [hf] at c1
      have kf := World.rowIs.cell R.out (i := k) hlt
      have kz := World.rowIs.frozen R.out k
      simp only [Nat.lt_irrefl, if_false] at kf
      have R2 : Hid ((wr.setCell ⟨w.heap.size, k, none⟩ (.int .i64 f)).rowIs w.heap.size 3 L (fun j => .int .i64 (if j < k + 1 then l.getD j 0 else 0))) := (World.rowIs.set R.out k (.int .i64 f)).congr (fun j _ => by
        by_cases e : j = k
        · subst e; simp [← hf]
        · have : (j < k + 1) = (j < k) := by simp; omega
          simp only [this]
          first | rw [if_neg e] | rw [if_neg (fun h => e h.symm)])
      have hlt' : (k : Int) < (L : Int) := by omega
      clear hc hf H1 R R0 hmk
      go_wp2_with fail
      go_roundw
      case rel => exact ⟨k + 1, by omega, by simp, R2, xset X (Nat.le_refl _) _⟩
      case measure => simp [intOf]; omega
    · obtain rfl : k = L := by omega
      clear hmk R0
      go_wp2_with fail
      go_ret
      refine ⟨_, rfl, ⟨_, k, by rw [HL.out]; rfl, by rw [HL.out]; exact Nat.le_refl _, fun _ => ⟨w.heap.size, 0, rfl, fun i hi => ?_⟩⟩, X⟩
      rw [HL.out] at hi
      have := World.rowIs.cell R.out (i := i) hi
      rw [if_pos hi] at this
      rw [Nat.zero_add]
      exact this

set_option maxRecDepth 8000 in
set_option maxHeartbeats 1000000 in
theorem lawWork (a b : Int) (v : Value) (l : List Int) (w : World) (h : IntsIn w v l) :
    Calls Try.prog 4 #[.int .i64 a, .int .i64 b, v] w fun e w' => e = .returned (.bool true) ∧ Ext w w' := by
  have h' := h
  obtain ⟨p, cap, rfl, hcap, hi⟩ := h
  clear hcap hi
  by_cases hl : l.length ≤ 1048576
  · have f1 : decide ((l.length : Int) > 1048576) = false := by simp; omega
    have T := fun (w' : World) (x : Ext w w') => toInts _ l w' (h'.later x) hl
    obtain ⟨L, hL⟩ : ∃ L, l.length = L := ⟨_, rfl⟩
    rw [hL] at T f1 ⊢
    go_enter Try.func4, Try.ntmps4
    go_wp2_with fail
    refine (T w (xr _)).mono ?_
    rintro e w1 ⟨u1, rfl, I1, e1⟩
    have WS := workS a b u1 l w1 I1
    obtain ⟨R, hR⟩ : ∃ R, workR a b l = R := ⟨_, rfl⟩
    rw [hR] at WS
    go_wp2_with fail
    refine WS.mono ?_
    rintro e w2 ⟨rfl, e2⟩
    have X2 := xt e1 e2
    clear WS
    go_wp2_with fail
    refine (T w2 X2).mono ?_
    rintro e w3 ⟨u3, rfl, I3, e3⟩
    have X3 := xt X2 e3
    have WI := workI a b u3 l w3 I3
    rw [hR] at WI
    go_wp2_with fail
    refine WI.mono ?_
    rintro e w4 ⟨rfl, e4⟩
    have X4 := xt X3 e4
    clear WI
    go_wp2_with fail
    refine (T w4 X4).mono ?_
    rintro e w5 ⟨u5, rfl, I5, e5⟩
    have X5 := xt X4 e5
    go_wp2_with fail
    refine (eqInts u3 u5 l w5 (I3.later (xt e4 e5)) I5 hl).mono ?_
    rintro e w6 ⟨rfl, e6⟩
    go_wp2_with fail
    go_ret
    exact ⟨rfl, xt X5 e6⟩
  · have f1 : decide ((l.length : Int) > 1048576) = true := by simp; omega
    obtain ⟨L, hL⟩ : ∃ L, l.length = L := ⟨_, rfl⟩
    rw [hL] at f1 ⊢
    clear h' hl hL
    go_enter Try.func4, Try.ntmps4
    go_wp2_with fail
    go_ret
    exact ⟨rfl, xr _⟩

end Go.Proofs.Ythmdfephafpdnaa
