/-
  Checksum, on both sides, and its law.
-/
import Derived.Test.YtmikmeffhmbopaaCs1
namespace Go.Proofs.Ytmikmeffhmbopaa
open Go.RowKit

def sumStep (p : Int × Int) (x : Int) : Int × Int := ((p.1 + x) % 65521, (p.2 + (p.1 + x) % 65521) % 65521)
def sumK (l : List Int) (k : Nat) : Int × Int := (l.take k).foldl sumStep (1, 0)
theorem sumK_next (l : List Int) (k : Nat) (h : k < l.length) : sumK l (k + 1) = sumStep (sumK l k) (l.getD k 0) := by
  unfold sumK
  rw [← List.take_append_getElem h, List.foldl_append]
  simp [List.getD, h]
theorem sumK_in (l : List Int) (k : Nat) : (0 ≤ (sumK l k).1 ∧ (sumK l k).1 ≤ 65520) ∧ 0 ≤ (sumK l k).2 ∧ (sumK l k).2 ≤ 65520 := by
  induction k with
  | zero => simp [sumK]
  | succ k ih =>
    by_cases h : k < l.length
    · rw [sumK_next l k h]; unfold sumStep; dsimp only; omega
    · have : sumK l (k + 1) = sumK l k := by unfold sumK; rw [List.take_of_length_le (by omega), List.take_of_length_le (by omega)]
      rw [this]; exact ih
/-- What Checksum answers. -/
def sumR (l : List Int) : Int := if l.length ≤ 20000 then (sumK l l.length).2 * 65536 + (sumK l l.length).1 else 0

set_option maxRecDepth 8000 in
set_option maxHeartbeats 1000000 in
theorem l14SumS (v : Value) (l : List Int) (w : World) (h : BytesIn w v l) (hl : l.length ≤ 1048576) (hb : AreBytes l) :
    Calls Try.prog 8 #[v] w fun e w' => e = .returned (.int .i64 ((sumK l l.length).2 * 65536 + (sumK l l.length).1)) ∧ Ext w w' := by
  obtain ⟨p, cap, rfl, hcap, hi⟩ := h
  obtain ⟨L, hL⟩ : ∃ L, l.length = L := ⟨_, rfl⟩
  have nx := sumK_next l
  rw [hL] at hl hcap hi nx ⊢
  have H1 : Hid (0 < L → ∃ b o, p = some ⟨b, o, none⟩ ∧ ∀ i, i < L → w.cell? ⟨b, o + i, none⟩ = some (.int .u8 (l.getD i 0))) := hi
  have NX : Hid (∀ k, k < L → sumK l (k + 1) = sumStep (sumK l k) (l.getD k 0)) := nx
  have IN : Hid (∀ k, (0 ≤ (sumK l k).1 ∧ (sumK l k).1 ≤ 65520) ∧ 0 ≤ (sumK l k).2 ∧ (sumK l k).2 ≤ 65520) := sumK_in l
  have HB : Hid (AreBytes l) := hb
  clear hL hi nx hb
  go_enter Try.func8, Try.ntmps8
  go_wp2_with fail
  go_loopw [9, 3, 4] (fun i a b wr => ∃ k : Nat, k ≤ L ∧ i = .int .i64 k ∧ a = .int .i64 (sumK l k).1 ∧ b = .int .i64 (sumK l k).2 ∧ wr = w) (fun i _ _ _ => L - (intOf i).toNat)
  case atStart => exact ⟨0, by omega, rfl, by simp [sumK], by simp [sumK], rfl⟩
  case round =>
    obtain ⟨k, hk, rfl, rfl, rfl, rfl⟩ := hrel
    have in1 := IN.out k
    by_cases hlt : k < L
    · obtain ⟨b, o, rfl, hc⟩ := H1.out (by omega)
      have c1 := hc k hlt
      have bx := HB.out k
      have nx := NX.out k hlt
      obtain ⟨f, hf⟩ : ∃ f, l.getD k 0 = f := ⟨_, rfl⟩
      obtain ⟨A, hA⟩ : ∃ A, (sumK l k).1 = A := ⟨_, rfl⟩
      obtain ⟨B, hB⟩ : ∃ B, (sumK l k).2 = B := ⟨_, rfl⟩
      unfold sumStep at nx
      rw [hf] at c1 bx nx
      rw [hA, hB] at in1 nx ⊢
      have hlt' : (k : Int) < (L : Int) := by omega
      have N : Hid (sumK l (k + 1) = ((A + f) % 65521, (B + (A + f) % 65521) % 65521)) := nx
      clear hc hf H1 hA hB nx NX IN HB
      have t1 : Int.tmod (A + f) 65521 = (A + f) % 65521 := Int.tmod_eq_emod_of_nonneg (by omega)
      have wf : IntKind.i64.wrap f = f := by rw [IntKind.wrap_i64]; omega
      obtain ⟨A2, hA2⟩ : ∃ A2, (A + f) % 65521 = A2 := ⟨_, rfl⟩
      rw [hA2] at N t1
      have t2 : Int.tmod (B + A2) 65521 = (B + A2) % 65521 := Int.tmod_eq_emod_of_nonneg (by omega)
      have a2 : 0 ≤ A2 ∧ A2 ≤ 65520 := by omega
      clear hA2
      go_wp2_with fail
      go_roundw
      case rel => exact ⟨k + 1, by omega, by simp, by rw [N.out], by rw [N.out], trivial⟩
      case measure => simp [intOf]; omega
    · obtain rfl : k = L := by omega
      obtain ⟨A, hA⟩ : ∃ A, (sumK l k).1 = A := ⟨_, rfl⟩
      obtain ⟨B, hB⟩ : ∃ B, (sumK l k).2 = B := ⟨_, rfl⟩
      rw [hA, hB] at in1 ⊢
      go_wp2_with fail
      go_ret
      exact ⟨by rw [hA, hB]; rfl, xr _⟩

set_option maxRecDepth 8000 in
set_option maxHeartbeats 1000000 in
theorem checkS (v : Value) (l : List Int) (w : World) (h : BytesIn w v l) (hl : l.length ≤ 1048576) (hb : AreBytes l) :
    Calls Try.prog 4 #[v] w fun e w' => e = .returned (.int .i64 (sumR l)) ∧ Ext w w' := by
  have S := l14SumS v l w h hl hb
  obtain ⟨p, cap, rfl, hcap, hi⟩ := h
  unfold sumR
  obtain ⟨R, hR⟩ : ∃ R, (sumK l l.length).2 * 65536 + (sumK l l.length).1 = R := ⟨_, rfl⟩
  rw [hR] at S ⊢
  clear hi hR hb
  obtain ⟨L, hL⟩ : ∃ L, l.length = L := ⟨_, rfl⟩
  rw [hL] at S hl hcap ⊢
  clear hL
  by_cases h2 : L ≤ 20000
  · have f1 : decide ((L : Int) > 20000) = false := by simp; omega
    rw [if_pos h2]
    go_enter Try.func4, Try.ntmps4
    go_wp2_with fail
    refine S.mono ?_
    rintro e w1 ⟨rfl, e1⟩
    go_wp2_with fail
    go_ret
    exact ⟨rfl, e1⟩
  · have f1 : decide ((L : Int) > 20000) = true := by simp; omega
    rw [if_neg h2]
    go_enter Try.func4, Try.ntmps4
    go_wp2_with fail
    go_ret
    exact ⟨rfl, xr _⟩

set_option maxRecDepth 8000 in
set_option maxHeartbeats 1000000 in
theorem checkI (v : Value) (l : List Int) (w : World) (h : BytesIn w v l) (hl : l.length ≤ 1048576) (hb : AreBytes l) :
    Calls Try.prog 6 #[v] w fun e w' => e = .returned (.int .i64 (sumR l)) ∧ Ext w w' := by
  obtain ⟨p, cap, rfl, hcap, hi⟩ := h
  unfold sumR
  obtain ⟨L, hL⟩ : ∃ L, l.length = L := ⟨_, rfl⟩
  have nx := sumK_next l
  rw [hL] at hl hcap hi nx ⊢
  have H1 : Hid (0 < L → ∃ b o, p = some ⟨b, o, none⟩ ∧ ∀ i, i < L → w.cell? ⟨b, o + i, none⟩ = some (.int .u8 (l.getD i 0))) := hi
  have NX : Hid (∀ k, k < L → sumK l (k + 1) = sumStep (sumK l k) (l.getD k 0)) := nx
  have IN : Hid (∀ k, (0 ≤ (sumK l k).1 ∧ (sumK l k).1 ≤ 65520) ∧ 0 ≤ (sumK l k).2 ∧ (sumK l k).2 ≤ 65520) := sumK_in l
  have HB : Hid (AreBytes l) := hb
  clear hL hi nx hb
  by_cases h2 : L ≤ 20000
  · have f1 : decide ((L : Int) > 20000) = false := by simp; omega
    rw [if_pos h2]
    go_enter Try.func6, Try.ntmps6
    go_wp2_with fail
    go_loopw [12, 3, 4] (fun i a b wr => ∃ k : Nat, k ≤ L ∧ i = .int .i64 k ∧ a = .int .i64 (sumK l k).1 ∧ b = .int .i64 (sumK l k).2 ∧ wr = w) (fun i _ _ _ => L - (intOf i).toNat)
    case atStart => exact ⟨0, by omega, rfl, by simp [sumK], by simp [sumK], rfl⟩
    case round =>
      obtain ⟨k, hk, rfl, rfl, rfl, rfl⟩ := hrel
      have in1 := IN.out k
      by_cases hlt : k < L
      · obtain ⟨b, o, rfl, hc⟩ := H1.out (by omega)
        have c1 := hc k hlt
        have bx := HB.out k
        have nx := NX.out k hlt
        obtain ⟨f, hf⟩ : ∃ f, l.getD k 0 = f := ⟨_, rfl⟩
        obtain ⟨A, hA⟩ : ∃ A, (sumK l k).1 = A := ⟨_, rfl⟩
        obtain ⟨B, hB⟩ : ∃ B, (sumK l k).2 = B := ⟨_, rfl⟩
        unfold sumStep at nx
        rw [hf] at c1 bx nx
        rw [hA, hB] at in1 nx ⊢
        have hlt' : (k : Int) < (L : Int) := by omega
        have N : Hid (sumK l (k + 1) = ((A + f) % 65521, (B + (A + f) % 65521) % 65521)) := nx
        clear hc hf H1 hA hB nx NX IN HB
        have t1 : Int.tmod (A + f) 65521 = (A + f) % 65521 := Int.tmod_eq_emod_of_nonneg (by omega)
        have wf : IntKind.i64.wrap f = f := by rw [IntKind.wrap_i64]; omega
        obtain ⟨A2, hA2⟩ : ∃ A2, (A + f) % 65521 = A2 := ⟨_, rfl⟩
        rw [hA2] at N t1
        have t2 : Int.tmod (B + A2) 65521 = (B + A2) % 65521 := Int.tmod_eq_emod_of_nonneg (by omega)
        have a2 : 0 ≤ A2 ∧ A2 ≤ 65520 := by omega
        clear hA2
        go_wp2_with fail
        go_roundw
        case rel => exact ⟨k + 1, by omega, by simp, by rw [N.out], by rw [N.out], trivial⟩
        case measure => simp [intOf]; omega
      · obtain rfl : k = L := by omega
        obtain ⟨A, hA⟩ : ∃ A, (sumK l k).1 = A := ⟨_, rfl⟩
        obtain ⟨B, hB⟩ : ∃ B, (sumK l k).2 = B := ⟨_, rfl⟩
        rw [hA, hB] at in1 ⊢
        go_wp2_with fail
        go_ret
        exact ⟨by rw [hA, hB]; rfl, xr _⟩
  · have f1 : decide ((L : Int) > 20000) = true := by simp; omega
    rw [if_neg h2]
    go_enter Try.func6, Try.ntmps6
    go_wp2_with fail
    go_ret
    exact ⟨rfl, xr _⟩

set_option maxRecDepth 8000 in
set_option maxHeartbeats 1000000 in
theorem lawSum (v : Value) (l : List Int) (w : World) (h : BytesIn w v l) (hb : AreBytes l) :
    Calls Try.prog 3 #[v] w fun e w' => e = .returned (.bool true) ∧ Ext w w' := by
  have h' := h
  obtain ⟨p, cap, rfl, hcap, hi⟩ := h
  clear hcap hi
  by_cases hl : l.length ≤ 1048576
  · have f1 : decide ((l.length : Int) > 1048576) = false := by simp; omega
    have T := fun (w' : World) (x : Ext w w') => toBytes _ l w' (h'.later x) hl
    have HB : Hid (AreBytes l) := hb
    have HL : Hid (l.length ≤ 1048576) := hl
    obtain ⟨L, hL⟩ : ∃ L, l.length = L := ⟨_, rfl⟩
    rw [hL] at T f1 ⊢
    clear hb hl
    go_enter Try.func3, Try.ntmps3
    go_wp2_with fail
    refine (T w (xr _)).mono ?_
    rintro e w1 ⟨u1, rfl, I1, e1⟩
    have WS := checkS u1 l w1 I1 HL.out HB.out
    obtain ⟨R, hR⟩ : ∃ R, sumR l = R := ⟨_, rfl⟩
    rw [hR] at WS
    go_wp2_with fail
    refine WS.mono ?_
    rintro e w2 ⟨rfl, e2⟩
    have X2 := xt e1 e2
    clear WS
    go_wp2_with fail
    refine (T w2 X2).mono ?_
    rintro e w3 ⟨u3, rfl, I3, e3⟩
    have X3 := xt X2 e3
    have WI := checkI u3 l w3 I3 HL.out HB.out
    rw [hR] at WI
    go_wp2_with fail
    refine WI.mono ?_
    rintro e w4 ⟨rfl, e4⟩
    have X4 := xt X3 e4
    clear WI
    go_wp2_with fail
    refine (T w4 X4).mono ?_
    rintro e w5 ⟨u5, rfl, I5, e5⟩
    have X5 := xt X4 e5
    go_wp2_with fail
    refine (eqBytes u3 u5 l w5 (I3.later (xt e4 e5)) I5 HL.out).mono ?_
    rintro e w6 ⟨rfl, e6⟩
    go_wp2_with fail
    go_ret
    exact ⟨rfl, xt X5 e6⟩
  · have f1 : decide ((l.length : Int) > 1048576) = true := by simp; omega
    obtain ⟨L, hL⟩ : ∃ L, l.length = L := ⟨_, rfl⟩
    rw [hL] at f1 ⊢
    clear h' hl hL hb
    go_enter Try.func3, Try.ntmps3
    go_wp2_with fail
    go_ret
    exact ⟨rfl, xr _⟩

end Go.Proofs.Ytmikmeffhmbopaa
