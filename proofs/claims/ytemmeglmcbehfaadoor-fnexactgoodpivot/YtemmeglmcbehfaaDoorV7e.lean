/-
  Chapter 6: good grids, of the program.
-/
import Derived.Test.YtemmeglmcbehfaaDoorV7d
namespace Go.Proofs.YtemmeglmcbehfaaDoor
open Go.RowKit

theorem xdNv {a b : World} (h : Ext a b) (n : Nat) : Ext a (b.drewN n) := ⟨h.os, h.tape, h.output, h.size, h.block⟩
set_option maxRecDepth 8000 in
set_option maxHeartbeats 2000000 in
theorem goodGI (r c : Int) (v : Value) (l : List VT) (w : World) (h : ValsIn w v l) (hl : l.length ≤ 2000000) (ht : ∀ e ∈ l, e.t.length ≤ 2000000) (hd : ∀ e ∈ l, -9223372036854775808 ≤ e.d ∧ e.d ≤ 9223372036854775807) (hT : Tens w) (hE : ErrTab w) :
    Calls Tryd.prog 23 #[grV r c v] w fun e w' => e = .returned (.bool (goodG r c l)) ∧ Ext w w' := by
  obtain ⟨p, cap, rfl, hcap, hrow⟩ := h
  obtain ⟨n, hn⟩ : ∃ n, l.length = n := ⟨_, rfl⟩
  have HN : Hid (l.length = n) := hn
  have HG : Hid (goodG r c l = (gsidesB r c n && l.all VT.good)) := by show _ = _; unfold goodG; rw [hn]
  obtain ⟨R, hR⟩ : ∃ R, goodG r c l = R := ⟨_, rfl⟩
  rw [hR] at HG ⊢
  rw [hn] at hcap hl hrow ⊢
  have HRow : Hid (0 < n → ∃ b o, p = some ⟨b, o, none⟩ ∧ RowV w b o l) := hrow
  have HT : Hid (∀ e ∈ l, e.t.length ≤ 2000000) := ht
  have X0 := x1 w (.cells #[.int .i64 r, .int .i64 c, .slice p n cap] 34)
  have HD : Hid (∀ e ∈ l, -9223372036854775808 ≤ e.d ∧ e.d ≤ 9223372036854775807) := hd
  have HTT : Hid (Tens w) := hT
  have HEE : Hid (ErrTab w) := hE
  clear hn hrow hR ht hd hT hE
  by_cases h1 : r < 1
  · have HF : Hid (false = R) := by show _ = _; rw [HG.out, show gsidesB r c n = false by simp [gsidesB]; omega]; rfl
    have g1 : decide (r < 1) = true := by simpa using h1
    go_enter Tryd.func23, Tryd.ntmps23
    go_wp2_with fail
    go_quiet (fail)
    go_wp2_with fail
    go_ret
    exact ⟨ret_bool HF.out, xdNv X0 _⟩
  have g1 : decide (r < 1) = false := by simpa using h1
  by_cases h2 : c < 1
  · have HF : Hid (false = R) := by show _ = _; rw [HG.out, show gsidesB r c n = false by simp [gsidesB]; omega]; rfl
    have g2 : decide (c < 1) = true := by simpa using h2
    go_enter Tryd.func23, Tryd.ntmps23
    go_wp2_with fail
    go_quiet (fail)
    go_wp2_with fail
    go_ret
    exact ⟨ret_bool HF.out, xdNv X0 _⟩
  have g2 : decide (c < 1) = false := by simpa using h2
  have hdiv : r ≤ 2000 / c ↔ r * c ≤ 2000 := Int.le_ediv_iff_mul_le (by omega)
  have htd : Int.tdiv 2000 c = 2000 / c := Int.tdiv_eq_ediv_of_nonneg (by omega)
  obtain ⟨dv, hdv⟩ : ∃ dv, 2000 / c = dv := ⟨_, rfl⟩
  have dv0 : 0 ≤ dv := by rw [← hdv]; exact Int.ediv_nonneg (by omega) (by omega)
  have dv1 : dv ≤ 2000 := by rw [← hdv]; exact Int.ediv_le_self c (by omega)
  rw [hdv] at hdiv htd
  clear hdv
  by_cases h5 : dv < r
  · have HF : Hid (false = R) := by
      show _ = _
      rw [HG.out, show gsidesB r c n = false by simp only [gsidesB, decide_eq_false_iff_not]; omega]; rfl
    have g5 : decide (dv < r) = true := by simpa using h5
    clear hdiv
    go_enter Tryd.func23, Tryd.ntmps23
    go_wp2_with fail
    go_quiet (fail)
    go_wp2_with fail
    go_ret
    exact ⟨ret_bool HF.out, xdNv X0 _⟩
  have g5 : decide (dv < r) = false := by simpa using h5
  obtain ⟨m, hm⟩ : ∃ m, r * c = m := ⟨_, rfl⟩
  rw [hm] at hdiv
  have m2 : m ≤ 2000 := by omega
  have m1 : 1 ≤ m := by rw [← hm]; have := Int.mul_le_mul_of_nonneg_left (show (1 : Int) ≤ c by omega) (show 0 ≤ r by omega); omega
  have hwr : IntKind.i64.wrap (r * c) = m := by rw [hm, IntKind.wrap_i64]; omega
  have HS : Hid (gsidesB r c n = decide (m ≤ 2000 ∧ (n : Int) = m)) := by
    show _ = _
    unfold gsidesB
    rw [hm]
    exact decide_eq_decide.2 (by omega)
  clear hdiv
  by_cases h6 : (n : Int) ≠ m
  · have HF : Hid (false = R) := by show _ = _; rw [HG.out, HS.out, decide_eq_false (by omega)]; rfl
    clear hm
    have g6 : ((n : Int) != m) = true := by simpa using h6
    go_enter Tryd.func23, Tryd.ntmps23
    go_wp2_with fail
    go_quiet (fail)
    go_wp2_with fail
    go_ret
    exact ⟨ret_bool HF.out, xdNv X0 _⟩
  have h6' : (n : Int) = m := by omega
  have HF : Hid (l.all VT.good = R) := by show _ = _; rw [HG.out, HS.out, decide_eq_true (by omega)]; rfl
  clear hm h6 HS HG
  subst h6'
  go_enter Tryd.func23, Tryd.ntmps23
  go_wp2_with fail
  go_quiet (fail)
  go_wp2_with fail
  clear hwr htd
  go_loopw [35] (fun i wr => ∃ k : Nat, k ≤ n ∧ i = .int .i64 k ∧ Hid ((l.take k).all VT.good = true) ∧ Ext w wr) (fun i _ => n - (intOf i).toNat)
  case atStart => exact ⟨0, by omega, rfl, by show _ = _; simp, xdNv X0 _⟩
  case round =>
    obtain ⟨k, hk, rfl, HA, X⟩ := hrel
    by_cases hlt : k < n
    · obtain ⟨e, he⟩ : ∃ e, l[k]? = some e := ⟨_, List.getElem?_eq_getElem (by rw [HN.out]; exact hlt)⟩
      obtain ⟨b, o, rfl, hR⟩ := HRow.out (by omega)
      obtain ⟨a0, a1, a2, a3, a4⟩ := (hR.later X).five he
      have het := HT.out e (List.mem_of_getElem? he)
      have HY : Hid ((l.take (k + 1)).all VT.good = e.good) := by show _ = _; rw [all_step he, HA.out]; rfl
      have HZ : Hid (e.good = false → l.all VT.good = false) := fun hb => all_bad he hb
      have Y := x1 wr (.cells #[.int .i64 e.k, .bool e.n, .int .i64 e.d, .int .i64 e.x, sV e.t] 68)
      have hed := HD.out e (List.mem_of_getElem? he)
      have C := goodVI e.k e.n e.d e.x e.t _ het hed.1 hed.2 (HTT.out.later (xt X Y)) (HEE.out.later (xt X Y))
      change Calls _ _ _ _ fun r w' => r = .returned (.bool e.good) ∧ _ at C
      clear hed
      obtain ⟨q, hq⟩ : ∃ q, e.good = q := ⟨_, rfl⟩
      rw [hq] at C HY HZ
      clear hq
      obtain ⟨ek, en, ed, ex, et⟩ := e
      have i2 : (k : Int) < (n : Int) := by omega
      clear hR he HA
      dsimp only at a0 a1 a2 a3 a4 C Y
      go_wp2_with fail
      clear a0 a1 a2 a3 a4
      refine C.mono ?_
      rintro rr w' ⟨rfl, E⟩
      cases q
      · have HB : Hid (false = R) := by show _ = _; rw [← HF.out]; exact (HZ.out rfl).symm
        go_wp2_with fail
        go_ret
        exact ⟨ret_bool HB.out, xt (xt X Y) E⟩
      · go_wp2_with fail
        go_roundw
        case rel => exact ⟨k + 1, by omega, by go_num, HY, xt (xt X Y) E⟩
        case measure => simp [intOf]; omega
    · obtain rfl : k = n := by omega
      have HB : Hid (true = R) := by
        show _ = _
        rw [← HF.out]
        have := HA.out
        rw [List.take_of_length_le (by rw [HN.out]; exact Nat.le_refl _)] at this
        exact this.symm
      clear HA
      go_wp2_with fail
      go_ret
      exact ⟨ret_bool HB.out, X⟩

end Go.Proofs.YtemmeglmcbehfaaDoor
