/-
  Chapter 6: good grids, of the specification.
-/
import Derived.Test.YtemmeglmcbehfaaDoorV7c
import Derived.BigQuiet
import Derived.Deep.QuietTactic
namespace Go.Proofs.YtemmeglmcbehfaaDoor
open Go.RowKit

abbrev grV (r c : Int) (v : Value) : Value := .agg #[.int .i64 r, .int .i64 c, v]
def gsidesB (r c n : Int) : Bool := decide (1 ≤ r ∧ 1 ≤ c ∧ r * c ≤ 2000 ∧ n = r * c)
def VT.good (e : VT) : Bool := goodV e.k e.n e.d e.x e.t
def goodG (r c : Int) (l : List VT) : Bool := gsidesB r c l.length && l.all VT.good
theorem all_step {l : List VT} {k : Nat} {e : VT} (he : l[k]? = some e) : (l.take (k + 1)).all VT.good = ((l.take k).all VT.good && e.good) := by
  rw [List.take_add_one, he]
  simp
theorem all_bad {l : List VT} {k : Nat} {e : VT} (he : l[k]? = some e) (hb : e.good = false) : l.all VT.good = false := by
  cases h : l.all VT.good with
  | false => rfl
  | true => have := (List.all_eq_true.1 h) e (List.mem_of_getElem? he); rw [hb] at this; cases this

set_option maxRecDepth 8000 in
set_option maxHeartbeats 2000000 in
theorem goodGS (r c : Int) (v : Value) (l : List VT) (w : World) (h : ValsIn w v l) (hl : l.length ≤ 2000000) (ht : ∀ e ∈ l, e.t.length ≤ 2000000) :
    Calls Tryd.prog 15 #[grV r c v] w fun e w' => e = .returned (.bool (goodG r c l)) ∧ Ext w w' := by
  obtain ⟨p, cap, rfl, hcap, hrow⟩ := h
  obtain ⟨n, hn⟩ : ∃ n, l.length = n := ⟨_, rfl⟩
  have HN : Hid (l.length = n) := hn
  have HG : Hid (goodG r c l = (gsidesB r c n && l.all VT.good)) := by show _ = _; unfold goodG; rw [hn]
  obtain ⟨R, hR⟩ : ∃ R, goodG r c l = R := ⟨_, rfl⟩
  rw [hR] at HG ⊢
  rw [hn] at hcap hl hrow ⊢
  have HRow : Hid (0 < n → ∃ b o, p = some ⟨b, o, none⟩ ∧ RowV w b o l) := hrow
  have HT : Hid (∀ e ∈ l, e.t.length ≤ 2000000) := ht
  have X0 := x1 w (.cells #[.int .i64 r, .int .i64 c, .slice p n cap] 34)
  clear hn hrow hR ht
  by_cases h1 : r < 1
  · have HF : Hid (false = R) := by show _ = _; rw [HG.out, show gsidesB r c n = false by simp [gsidesB]; omega]; rfl
    go_enter Tryd.func15, Tryd.ntmps15
    go_wp2_with fail
    go_ret
    exact ⟨ret_bool HF.out, X0⟩
  by_cases h2 : c < 1
  · have HF : Hid (false = R) := by show _ = _; rw [HG.out, show gsidesB r c n = false by simp [gsidesB]; omega]; rfl
    go_enter Tryd.func15, Tryd.ntmps15
    go_wp2_with fail
    go_ret
    exact ⟨ret_bool HF.out, X0⟩
  have grow1 : r ≤ r * c := by have := Int.mul_le_mul_of_nonneg_left (show (1 : Int) ≤ c by omega) (show 0 ≤ r by omega); omega
  have grow2 : c ≤ r * c := by have := Int.mul_le_mul_of_nonneg_right (show (1 : Int) ≤ r by omega) (show 0 ≤ c by omega); omega
  by_cases h3 : 2000 < r
  · have HF : Hid (false = R) := by show _ = _; rw [HG.out, show gsidesB r c n = false by simp [gsidesB]; omega]; rfl
    clear grow1 grow2
    go_enter Tryd.func15, Tryd.ntmps15
    go_wp2_with fail
    go_ret
    exact ⟨ret_bool HF.out, X0⟩
  by_cases h4 : 2000 < c
  · have HF : Hid (false = R) := by show _ = _; rw [HG.out, show gsidesB r c n = false by simp [gsidesB]; omega]; rfl
    clear grow1 grow2
    go_enter Tryd.func15, Tryd.ntmps15
    go_wp2_with fail
    go_ret
    exact ⟨ret_bool HF.out, X0⟩
  obtain ⟨m, hm⟩ : ∃ m, r * c = m := ⟨_, rfl⟩
  have m0 : m ≤ 4000000 := by rw [← hm]; have := Int.mul_le_mul (show r ≤ 2000 by omega) (show c ≤ 2000 by omega) (by omega) (by omega); omega
  have m1 : 1 ≤ m := by omega
  have hwr : IntKind.i64.wrap (r * c) = m := by rw [hm, IntKind.wrap_i64]; omega
  have HS : Hid (gsidesB r c n = decide (m ≤ 2000 ∧ (n : Int) = m)) := by
    show _ = _
    unfold gsidesB
    rw [hm]
    exact decide_eq_decide.2 (by omega)
  clear grow1 grow2
  by_cases h5 : 2000 < m
  · have HF : Hid (false = R) := by show _ = _; rw [HG.out, HS.out, decide_eq_false (by omega)]; rfl
    clear hm
    go_enter Tryd.func15, Tryd.ntmps15
    go_wp2_with fail
    go_ret
    exact ⟨ret_bool HF.out, X0⟩
  by_cases h6 : (n : Int) ≠ m
  · have HF : Hid (false = R) := by show _ = _; rw [HG.out, HS.out, decide_eq_false (by omega)]; rfl
    clear hm
    go_enter Tryd.func15, Tryd.ntmps15
    go_wp2_with fail
    go_ret
    exact ⟨ret_bool HF.out, X0⟩
  have h6' : (n : Int) = m := by omega
  have HF : Hid (l.all VT.good = R) := by show _ = _; rw [HG.out, HS.out, decide_eq_true (by omega)]; rfl
  clear hm h6 HS HG
  subst h6'
  go_enter Tryd.func15, Tryd.ntmps15
  go_wp2_with fail
  clear hwr
  go_loopw [45] (fun i wr => ∃ k : Nat, k ≤ n ∧ i = .int .i64 k ∧ Hid ((l.take k).all VT.good = true) ∧ Ext w wr) (fun i _ => n - (intOf i).toNat)
  case atStart => exact ⟨0, by omega, rfl, by show _ = _; simp, X0⟩
  case round =>
    obtain ⟨k, hk, rfl, HA, X⟩ := hrel
    by_cases hlt : k < n
    · obtain ⟨e, he⟩ : ∃ e, l[k]? = some e := ⟨_, List.getElem?_eq_getElem (by rw [HN.out]; exact hlt)⟩
      obtain ⟨b, o, rfl, hR⟩ := HRow.out (by omega)
      obtain ⟨a0, a1, a2, a3, a4⟩ := (hR.later X).five he
      have het := HT.out e (List.mem_of_getElem? he)
      have HY : Hid ((l.take (k + 1)).all VT.good = e.good) := by show _ = _; rw [all_step he, HA.out]; rfl
      have HZ : Hid (e.good = false → l.all VT.good = false) := fun hb => all_bad he hb
      have Y := x1 wr (.cells #[.int .i64 e.k, .bool e.n, .int .i64 e.d, .int .i64 e.x, sV e.t] 68)
      have C := fun W => goodVS e.k e.n e.d e.x e.t W het
      change ∀ W, Calls _ _ _ _ fun r w' => r = .returned (.bool e.good) ∧ _ at C
      obtain ⟨q, hq⟩ : ∃ q, e.good = q := ⟨_, rfl⟩
      rw [hq] at C HY HZ
      clear hq
      obtain ⟨ek, en, ed, ex, et⟩ := e
      have i2 : (k : Int) < (n : Int) := by omega
      clear hR he HA
      dsimp only at a0 a1 a2 a3 a4 C Y
      go_wp2_with fail
      clear a0 a1 a2 a3 a4
      refine (C _).mono ?_
      rintro rr w' ⟨rfl, E⟩
      cases q
      · have HB : Hid (false = R) := by show _ = _; rw [← HF.out]; exact (HZ.out rfl).symm
        go_wp2_with fail
        go_ret
        exact ⟨ret_bool HB.out, xt (xt X Y) E⟩
      · go_wp2_with fail
        go_roundw
        case rel => exact ⟨k + 1, by omega, by go_num, HY, xt (xt X Y) E⟩
        case measure => simp [intOf]; omega
    · obtain rfl : k = n := by omega
      have HB : Hid (true = R) := by
        show _ = _
        rw [← HF.out]
        have := HA.out
        rw [List.take_of_length_le (by rw [HN.out]; exact Nat.le_refl _)] at this
        exact this.symm
      clear HA
      go_wp2_with fail
      go_ret
      exact ⟨ret_bool HB.out, X⟩

end Go.Proofs.YtemmeglmcbehfaaDoor
