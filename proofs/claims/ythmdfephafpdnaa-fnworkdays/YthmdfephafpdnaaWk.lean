/-
  Workdays of the program, whole; slices of ints told again and compared.
-/
import Derived.Test.YthmdfephafpdnaaWj
import Derived.RegionTactic
namespace Go.Proofs.Ythmdfephafpdnaa
open Go.RowKit

set_option maxRecDepth 8000 in
set_option maxHeartbeats 1000000 in
theorem workI (a b : Int) (v : Value) (l : List Int) (w : World) (h : IntsIn w v l) :
    Calls Try.prog 6 #[.int .i64 a, .int .i64 b, v] w fun e w' => e = .returned (.int .i64 (workR a b l)) ∧ Ext w w' := by
  have h' := h
  obtain ⟨p, cap, rfl, hcap, hi⟩ := h
  unfold workR
  by_cases ha : goodDay a
  · have DA : decide (-1000000 ≤ a ∧ a ≤ 1000000) = true := decide_eq_true ha
    by_cases hb : goodDay b
    · have DB : decide (-1000000 ≤ b ∧ b ≤ 1000000) = true := decide_eq_true hb
      by_cases hl : l.length ≤ 1000
      · rw [if_pos ⟨⟨ha, hb⟩, hl⟩]
        have fL : decide ((l.length : Int) > 1000) = false := by simp; omega
        by_cases hab : b < a
        · rw [if_pos hab]
          have IN := inI b a _ l w hl h' hb ha
          have wb : -100000000 ≤ workN b a l ∧ workN b a l ≤ 100000000 := by
            have n1 := aheadW_near (a + 1)
            have n2 := aheadW_near b
            have n3 := cntD_bounds b a l l.length
            unfold workN
            obtain ⟨a0, a1⟩ := ha
            obtain ⟨b0, b1⟩ := hb
            omega
          obtain ⟨N, hN⟩ : ∃ N, workN b a l = N := ⟨_, rfl⟩
          rw [hN] at IN wb ⊢
          obtain ⟨L, hL⟩ : ∃ L, l.length = L := ⟨_, rfl⟩
          rw [hL] at IN fL ⊢
          clear hN h' hi hcap ha hb hl hL
          go_enter Try.func6, Try.ntmps6
          go_wp2_with fail
          refine (dayI a w).mono ?_
          rintro e w2 ⟨rfl, rfl⟩
          rw [DA]
          go_wp2_with fail
          refine (dayI b w2).mono ?_
          rintro e w3 ⟨rfl, rfl⟩
          rw [DB]
          go_wp2_with fail
          refine IN.mono ?_
          rintro e w4 ⟨rfl, e4⟩
          go_wp2_with fail
          go_ret
          exact ⟨rfl, e4⟩
        · rw [if_neg hab]
          have IN := inI a b _ l w hl h' ha hb
          obtain ⟨N, hN⟩ : ∃ N, workN a b l = N := ⟨_, rfl⟩
          rw [hN] at IN ⊢
          obtain ⟨L, hL⟩ : ∃ L, l.length = L := ⟨_, rfl⟩
          rw [hL] at IN fL ⊢
          clear hN h' hi hcap ha hb hl hL
          go_enter Try.func6, Try.ntmps6
          go_wp2_with fail
          refine (dayI a w).mono ?_
          rintro e w2 ⟨rfl, rfl⟩
          rw [DA]
          go_wp2_with fail
          refine (dayI b w2).mono ?_
          rintro e w3 ⟨rfl, rfl⟩
          rw [DB]
          go_wp2_with fail
          refine IN.mono ?_
          rintro e w4 ⟨rfl, e4⟩
          go_wp2_with fail
          go_ret
          exact ⟨rfl, e4⟩
      · rw [if_neg (fun h => hl h.2)]
        have fL : decide ((l.length : Int) > 1000) = true := by simp; omega
        obtain ⟨L, hL⟩ : ∃ L, l.length = L := ⟨_, rfl⟩
        rw [hL] at fL ⊢
        clear h' hi hcap ha hb hl hL
        go_enter Try.func6, Try.ntmps6
        go_wp2_with fail
        refine (dayI a w).mono ?_
        rintro e w2 ⟨rfl, rfl⟩
        rw [DA]
        go_wp2_with fail
        refine (dayI b w2).mono ?_
        rintro e w3 ⟨rfl, rfl⟩
        rw [DB]
        go_wp2_with fail
        go_ret
        exact ⟨rfl, xr _⟩
    · rw [if_neg (fun h => hb h.1.2)]
      have DB : decide (-1000000 ≤ b ∧ b ≤ 1000000) = false := decide_eq_false hb
      clear h' hi hcap ha hb
      go_enter Try.func6, Try.ntmps6
      go_wp2_with fail
      refine (dayI a w).mono ?_
      rintro e w2 ⟨rfl, rfl⟩
      rw [DA]
      go_wp2_with fail
      refine (dayI b w2).mono ?_
      rintro e w3 ⟨rfl, rfl⟩
      rw [DB]
      go_wp2_with fail
      go_ret
      exact ⟨rfl, xr _⟩
  · rw [if_neg (fun h => ha h.1.1)]
    have DA : decide (-1000000 ≤ a ∧ a ≤ 1000000) = false := decide_eq_false ha
    clear h' hi hcap ha
    go_enter Try.func6, Try.ntmps6
    go_wp2_with fail
    refine (dayI a w).mono ?_
    rintro e w2 ⟨rfl, rfl⟩
    rw [DA]
    go_wp2_with fail
    go_ret
    exact ⟨rfl, xr _⟩

set_option maxRecDepth 8000 in
set_option maxHeartbeats 1000000 in
/-- The same ints are the same. -/
theorem eqInts (u v : Value) (l : List Int) (w : World) (hu : IntsIn w u l) (hv : IntsIn w v l) (hl : l.length ≤ 1048576) :
    Calls Try.prog 10 #[u, v] w fun e w' => e = .returned (.bool true) ∧ Ext w w' := by
  obtain ⟨p, cap, rfl, hcap, hi⟩ := hu
  obtain ⟨p2, cap2, rfl, hcap2, hi2⟩ := hv
  obtain ⟨L, hL⟩ : ∃ L, l.length = L := ⟨_, rfl⟩
  rw [hL] at hl hcap hcap2 hi hi2 ⊢
  have H1 : Hid (0 < L → ∃ b o, p = some ⟨b, o, none⟩ ∧ ∀ i, i < L → w.cell? ⟨b, o + i, none⟩ = some (.int .i64 (l.getD i 0))) := hi
  have H2 : Hid (0 < L → ∃ b o, p2 = some ⟨b, o, none⟩ ∧ ∀ i, i < L → w.cell? ⟨b, o + i, none⟩ = some (.int .i64 (l.getD i 0))) := hi2
  clear hL hi hi2
  go_enter Try.func10, Try.ntmps10
  go_wp2_with fail
  go_loopw [5] (fun i wr => ∃ k : Nat, k ≤ L ∧ i = .int .i64 k ∧ Ext w wr) (fun i _ => L - (intOf i).toNat)
  case atStart => exact ⟨0, by omega, rfl, xr _⟩
  case round =>
    obtain ⟨k, hk, rfl, X⟩ := hrel
    by_cases hlt : k < L
    · obtain ⟨b, o, rfl, hc⟩ := H1.out (by omega)
      obtain ⟨b2, o2, rfl, hc2⟩ := H2.out (by omega)
      have c1 := cell_later X (hc k hlt)
      have c2 := cell_later X (hc2 k hlt)
      obtain ⟨f, hf⟩ : ∃ f, l.getD k 0 = f := ⟨_, rfl⟩
      rw [hf] at c1 c2
      have hlt' : (k : Int) < (L : Int) := by omega
      clear hc hc2 hf H1 H2
      go_wp2_with fail
      go_region
      all_goals go_wp2_with fail
      all_goals
        go_roundw
        case rel => exact ⟨k + 1, by omega, by simp, by first | exact X | exact xd X | exact xdN' X _ | exact xdN' (xd X) _⟩
        case measure => simp [intOf]; omega
    · obtain rfl : k = L := by omega
      go_wp2_with fail
      go_ret
      exact ⟨rfl, X⟩

end Go.Proofs.Ythmdfephafpdnaa
