/-
  FnExactSeparatedText, walked.
-/
import Derived.Test.YtpdfalpoidlegaaDoorSt6
namespace Go.Proofs.YtpdfalpoidlegaaDoor
open Go.RowKit

theorem rows_smallT {L : List (List (List UInt8))} (h : szTT L ≤ 1048576) : L.length ≤ 1048576 ∧ ∀ l ∈ L, l.length ≤ 1048576 := by
  refine ⟨by unfold szTT at h; omega, fun l hl => ?_⟩
  have h1 := le_sum_mem (List.mem_map_of_mem (f := szT) hl)
  have h2 : l.length ≤ szT l := by unfold szT; omega
  unfold szTT at h
  omega
set_option maxRecDepth 8000 in
set_option maxHeartbeats 4000000 in
theorem lawSep (v : Value) (L : List (List (List UInt8))) (mk : List UInt8) (w : World) (h : SsIn w v L) (hb : FitTT L) (hmk : mk.length ≤ 9223372036854775807) (TT : Tab14 w) :
    Calls Tryd.prog 3 #[v, sV mk] w fun e w' => e = .returned (.bool true) ∧ Ext w w' := by
  have CZ := szSS v L 1048576 w h (by omega) hb
  have HI : Hid (SsIn w v L) := h
  obtain ⟨p, cap, vs0, rfl, hcap, -, -, -⟩ := h
  obtain ⟨n, hn⟩ : ∃ n, L.length = n := ⟨_, rfl⟩
  rw [hn] at CZ HI ⊢
  obtain ⟨y, hy⟩ : ∃ y, mk.length = y := ⟨_, rfl⟩
  have hys : (⟨mk.toArray⟩ : ByteArray).size = y := hy
  rw [hy] at hmk
  clear hcap hn hb hy
  unfold leftR at CZ
  by_cases hm : y ≤ 1048576
  · have f0 : decide ((y : Int) > 1048576) = false := by simp; omega
    by_cases hz : szTT L ≤ 1048576
    · rw [if_pos hz] at CZ
      obtain ⟨q, hq⟩ : ∃ q, 1048576 - szTT L = q := ⟨_, rfl⟩
      rw [hq] at CZ
      have f1 : decide ((q : Int) < 0) = false := by simp
      have HZ : Hid (szTT L ≤ 1048576) := hz
      have HS : Hid (L.length ≤ 1048576 ∧ ∀ l ∈ L, l.length ≤ 1048576) := rows_smallT hz
      have HT : Hid (Tab14 w) := TT
      have T : Hid (∀ (w' : World) (x : Ext w w'), Calls Tryd.prog 6 #[.slice p n cap] w' fun e w'' => ∃ u, e = .returned u ∧ SsOwn w'' w'.heap.size w''.heap.size u L ∧ Ext w' w'') := fun w' x => toSS _ L w' (HI.out.later x) HS.out.1 HS.out.2
      obtain ⟨R, hR⟩ : ∃ R, sepA mk L = R := ⟨_, rfl⟩
      have HRR : Hid (sepA mk L = R) := hR
      have hRR : (R == R) = true := by simp
      clear hz hq TT hR
      go_enter Tryd.func3, Tryd.ntmps3
      go_wp2_with fail
      refine CZ.mono ?_
      rintro _ w0 ⟨rfl, rfl⟩
      clear CZ
      go_wp2_with fail
      refine (T.out w0 (xr _)).mono ?_
      rintro _ w1 ⟨u1, rfl, S1, e1⟩
      have CS := sepS u1 L mk w1 S1.ssIn HZ.out
      rw [HRR.out] at CS
      obtain ⟨p1, c1, vs1, bs1, hu1, -⟩ := S1
      subst hu1
      go_wp2_with fail
      refine CS.mono ?_
      rintro _ w2 ⟨rfl, e2⟩
      clear CS
      have E2 := xt e1 e2
      go_wp2_with fail
      refine (T.out w2 E2).mono ?_
      rintro _ w3 ⟨u3, rfl, S3, e3⟩
      have E3 := xt E2 e3
      have CI := sepI u3 L mk w3 S3.ssIn HZ.out (HT.out.later E3)
      rw [HRR.out] at CI
      have HS3 := S3.ssIn
      obtain ⟨p3, c3, vs3, bs3, hu3, -⟩ := S3
      subst hu3
      go_wp2_with fail
      refine CI.mono ?_
      rintro _ w4 ⟨rfl, e4⟩
      clear CI
      have E4 := xt E3 e4
      go_wp2_with fail
      refine (T.out w4 E4).mono ?_
      rintro _ w5 ⟨u5, rfl, S5, e5⟩
      have CQ := eqSS _ u5 L w5 (HS3.later (xt e4 e5)) S5.ssIn HS.out.1 HS.out.2
      obtain ⟨p5, c5, vs5, bs5, hu5, -⟩ := S5
      subst hu5
      go_wp2_with fail
      refine CQ.mono ?_
      rintro _ w6 ⟨rfl, e6⟩
      go_wp2_with fail
      go_ret
      exact ⟨rfl, xt E4 (xt e5 e6)⟩
    · rw [if_neg hz] at CZ
      clear hz
      go_enter Tryd.func3, Tryd.ntmps3
      go_wp2_with fail
      refine CZ.mono ?_
      rintro _ w0 ⟨rfl, rfl⟩
      go_wp2_with fail
      go_ret
      exact ⟨rfl, xr _⟩
  · have f0 : decide ((y : Int) > 1048576) = true := by simp; omega
    clear CZ
    go_enter Tryd.func3, Tryd.ntmps3
    go_wp2_with fail
    go_ret
    exact ⟨rfl, xr _⟩

end Go.Proofs.YtpdfalpoidlegaaDoor
