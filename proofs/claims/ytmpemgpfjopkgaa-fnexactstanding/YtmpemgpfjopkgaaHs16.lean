/-
  Chapter 15: the law of Standing.
-/
import Derived.Test.YtmpemgpfjopkgaaHs12
import Derived.Test.YtmpemgpfjopkgaaHs15
namespace Go.Proofs.Ytmpemgpfjopkgaa
open Go.RowKit

theorem BoolsIn.lt {w : World} {p : Addr} {n c : Nat} {l : List Bool} (h : BoolsIn w (.slice (some p) n c) l) (hn : 0 < n) : p.block < w.heap.size := by
  obtain ⟨p', cap, e, h2, h3⟩ := h
  injection e with e1 e2 e3
  obtain ⟨b, o, h4, h5⟩ := h3 (by omega)
  rw [← e1] at h4
  cases h4
  exact World.block_lt_of_cell? _ _ (h5 0 (by omega))
theorem standR_len (l : List STP) : (standR l).length ≤ 60 := by
  unfold standR
  by_cases h : goodH l = true
  · rw [if_pos h, stV_length, undos_length]
    exact (goodH_iff.1 h).2
  · rw [if_neg h]
    simp
set_option maxRecDepth 8000 in
set_option maxHeartbeats 8000000 in
theorem lawStanding (v : Value) (l : List STP) (w : World) (h : StpsIn w v l) (hl : l.length ≤ 9223372036854775807) (hf : ∀ e ∈ l, e.fits) :
    Calls Try.prog 3 #[v] w fun z w' => z = .returned (.bool true) ∧ Ext w w' := by
  have CS := szSteps v l 1048576 w h (by omega) (by omega) hl hf
  have HI : Hid (StpsIn w v l) := h
  obtain ⟨p, cap, rfl, -⟩ := h
  obtain ⟨n, hn⟩ : ∃ n, l.length = n := ⟨_, rfl⟩
  have HN : Hid (l.length = n) := hn
  rw [hn] at CS HI ⊢
  clear hl hf hn
  go_enter Try.func3, Try.ntmps3
  go_wp2_with fail
  refine CS.mono ?_
  rintro z w1 ⟨⟨r, rfl, r0, r1, hr⟩, e1⟩
  have HR : Hid (0 ≤ r → (n : Int) + chN l ≤ 1048576) := hr
  clear hr CS
  by_cases hneg : r < 0
  · go_wp2_with fail
    go_ret
    exact ⟨rfl, e1⟩
  have hb := HR.out (by omega)
  have hl' : l.length ≤ 1048576 := by rw [HN.out]; omega
  have hc' : ∀ e ∈ l, e.ch.length ≤ 1048576 := fun e he => by have := chN_mem he; omega
  have HTo : Hid (∀ V, Ext w V → Calls Try.prog 8 #[.slice p n cap] V fun e w' => (∃ g, e = .returned (.slice (some ⟨g, 0, none⟩) n n) ∧ V.heap.size ≤ g ∧ g < w'.heap.size ∧ OwnSt w' g l) ∧ Ext V w') := fun V x => by have := toSteps _ l V (HI.out.later x) hl' hc'; rw [HN.out] at this; exact this
  have HSp : Hid (∀ V g, OwnSt V g l → Calls Try.prog 7 #[.slice (some ⟨g, 0, none⟩) n n] V fun z w' => (∃ (p : Option Addr) (m : Nat), z = .returned (.slice p m m) ∧ BoolsIn w' (.slice p m m) (standR l)) ∧ Ext V w') := fun V g o => standingS _ l V (o.steps HN.out) hl' hc'
  have HIm : Hid (∀ V g, OwnSt V g l → Calls Try.prog 9 #[.slice (some ⟨g, 0, none⟩) n n] V fun z w' => (∃ g v', z = .returned v' ∧ BoolsOwn w' V.heap.size g v' (standR l)) ∧ Ext V w') := fun V g o => standingI _ l V (o.steps HN.out) hl' hc'
  have HEq : Hid (∀ V g g', OwnSt V g l → OwnSt V g' l → Calls Try.prog 11 #[.slice (some ⟨g, 0, none⟩) n n, .slice (some ⟨g', 0, none⟩) n n] V fun z w' => z = .returned (.bool true) ∧ Ext V w') := fun V g g' o o' => eqSteps _ _ l V (o.steps HN.out) (o'.steps HN.out) hl' hc'
  have hlen := standR_len l
  have HEb : Hid (∀ V u u', BoolsIn V u (standR l) → BoolsIn V u' (standR l) → Calls Try.prog 10 #[u, u'] V fun e w' => e = .returned (.bool true) ∧ Ext V w') := fun V u u' h1 h2 => eqBools u u' (standR l) V h1 h2 (by omega)
  obtain ⟨C, hC⟩ : ∃ C, chN l = C := ⟨_, rfl⟩
  have HMk : Hid (∀ V0 V g, OwnSt V0 g l → Ext V0 V → g < V0.heap.size → Calls Try.prog 12 #[.slice (some ⟨g, 0, none⟩) n n, .int .i64 1] V fun e w' => e = .returned (.int .i64 ((1 + n + 3 * C : Nat) : Int)) ∧ TurnedIn g V0.heap.size V w') := fun V0 V g o x hg => by
    have := markSteps g n V0.heap.size l V0 V o x HN.out (Nat.le_refl _) hg (by omega)
    rw [hC] at this
    exact this
  obtain ⟨S, hS⟩ : ∃ S, standR l = S := ⟨_, rfl⟩
  obtain ⟨N, hNn⟩ : ∃ N, S.length = N := ⟨_, rfl⟩
  have HNn : Hid (S.length = N) := hNn
  rw [hS] at HSp HIm HEb hlen
  rw [hNn] at hlen
  have HMb : Hid (∀ V lo g u, BoolsOwn V lo g u S → Calls Try.prog 13 #[u, .int .i64 1] V fun e w' => e = .returned (.int .i64 ((1 + N : Nat) : Int)) ∧ BoolsOwn w' lo g u (marksB 1 N) ∧ TurnedIn g (g + 1) V w') := fun V lo g u o => markBools u S lo g N V o hNn (by omega)
  have HHb : Hid (∀ V lo g u, BoolsOwn V lo g u (marksB 1 N) → Calls Try.prog 14 #[u, .int .i64 1] V fun e w' => e = .returned (.int .i64 ((1 + N : Nat) : Int)) ∧ Ext V w') := fun V lo g u o => heldBools u lo g N V o (by omega)
  obtain ⟨kk, hkk⟩ : ∃ kk : Nat, 1 + n + 3 * C = kk := ⟨_, rfl⟩
  obtain ⟨mm, hmm⟩ : ∃ mm : Nat, 1 + N = mm := ⟨_, rfl⟩
  rw [hkk] at HMk
  rw [hmm] at HMb HHb
  clear hb hl' hc' HR HI hC hS hNn hkk hmm hlen
  go_wp2_with fail
  refine (HTo.out w1 e1).mono ?_
  rintro z w2 ⟨⟨g, rfl, _, _, O⟩, e2⟩
  have X2 := xt e1 e2
  have C1 := HSp.out w2 g O
  clear O
  go_wp2_with fail
  refine C1.mono ?_
  rintro z w3 ⟨⟨ps, ms, rfl, BS⟩, e3⟩
  have X3 := xt X2 e3
  have HS3 : Hid (BoolsIn w3 (.slice ps ms ms) S) := BS
  clear C1 BS
  go_wp2_with fail
  refine (HTo.out w3 X3).mono ?_
  rintro z w4 ⟨⟨g', rfl, hg3, hg4, O⟩, e4⟩
  have X4 := xt X3 e4
  have HO : Hid (OwnSt w4 g' l) := O
  have C1 := HIm.out w4 g' O
  clear O
  go_wp2_with fail
  refine C1.mono ?_
  rintro z w5 ⟨⟨gI, v', rfl, BI⟩, e5⟩
  have X5 := xt X4 e5
  have hgI : w4.heap.size ≤ gI := by obtain ⟨_, _, _, h, _⟩ := BI; exact h
  have HB5 : Hid (BoolsOwn w5 w4.heap.size gI v' S) := BI
  have C2 := HEb.out w5 _ _ BI.bools (HS3.out.later (xt e4 e5))
  have HV : Hid (∃ pI, v' = .slice pI N N) := by
    obtain ⟨q, hq, _⟩ := BI
    exact ⟨q, by rw [hq, HNn.out]⟩
  obtain ⟨pI, hpI⟩ := HV.out
  subst hpI
  clear C1 BI HV
  go_wp2_with fail
  refine C2.mono ?_
  rintro z w6 ⟨rfl, e6⟩
  have X6 := xt X5 e6
  clear C2
  go_wp2_with fail
  refine (HTo.out w6 X6).mono ?_
  rintro z w7 ⟨⟨g2, rfl, _, _, O⟩, e7⟩
  have X7 := xt X6 e7
  have C1 := HEq.out w7 g' g2 (HO.out.later (xt e5 (xt e6 e7))) O
  clear O
  go_wp2_with fail
  refine C1.mono ?_
  rintro z w8 ⟨rfl, e8⟩
  have X8 := xt X7 e8
  have Y8 : Ext w4 w8 := xt e5 (xt e6 (xt e7 e8))
  have C2 := HMk.out w4 w8 g' HO.out Y8 hg4
  clear C1
  go_wp2_with fail
  refine C2.mono ?_
  rintro z w9 ⟨rfl, T9⟩
  have X9 : Ext w w9 := T9.ext w X8 (by have := X3.size; omega)
  have HB9 : Hid (BoolsOwn w9 w4.heap.size gI (.slice pI N N) S) := (HB5.out.later (xt e6 (xt e7 e8))).turned T9 hgI
  have HS9 : Hid (BoolsIn w9 (.slice ps ms ms) S) := by
    refine (HS3.out.later (xt e4 Y8)).turned (fun q m c hq hm => ?_) T9
    injection hq with h1 h2 h3
    subst h1
    exact Nat.lt_of_lt_of_le (HS3.out.lt (by omega)) hg3
  have C1 := HEb.out w9 _ _ HB9.out.bools HS9.out
  clear C2 T9
  go_wp2_with fail
  refine C1.mono ?_
  rintro z w10 ⟨rfl, e10⟩
  have X10 := xt X9 e10
  have C2 := HMb.out w10 _ _ _ (HB9.out.later e10)
  clear C1
  go_wp2_with fail
  refine C2.mono ?_
  rintro z w11 ⟨rfl, B11, T11⟩
  have X11 : Ext w w11 := T11.ext w X10 (by have := X4.size; omega)
  have HB11 : Hid (BoolsOwn w11 w4.heap.size gI (.slice pI N N) (marksB 1 N)) := B11
  have HS11 : Hid (BoolsIn w11 (.slice ps ms ms) S) := by
    refine (HS9.out.later e10).turned (fun q m c hq hm => ?_) T11
    injection hq with h1 h2 h3
    subst h1
    have := HS3.out.lt (p := q) (by omega)
    omega
  have C1 := HHb.out w11 _ _ _ B11
  clear C2 B11 T11
  go_wp2_with fail
  refine C1.mono ?_
  rintro z w12 ⟨rfl, e12⟩
  have X12 := xt X11 e12
  clear C1
  go_wp2_with fail
  refine (HTo.out w12 X12).mono ?_
  rintro z w13 ⟨⟨g3, rfl, _, _, O⟩, e13⟩
  have X13 := xt X12 e13
  have C1 := HIm.out w13 g3 O
  clear O
  go_wp2_with fail
  refine C1.mono ?_
  rintro z w14 ⟨⟨gJ, vJ, rfl, BJ⟩, e14⟩
  have X14 := xt X13 e14
  have C2 := HEb.out w14 _ _ BJ.bools (HS11.out.later (xt e12 (xt e13 e14)))
  have HV : Hid (∃ pJ, vJ = .slice pJ N N) := by
    obtain ⟨q, hq, _⟩ := BJ
    exact ⟨q, by rw [hq, HNn.out]⟩
  obtain ⟨pJ, hpJ⟩ := HV.out
  subst hpJ
  clear C1 BJ HV
  go_wp2_with fail
  refine C2.mono ?_
  rintro z w15 ⟨rfl, e15⟩
  have X15 := xt X14 e15
  have C1 := HHb.out w15 _ _ _ (HB11.out.later (xt e12 (xt e13 (xt e14 e15))))
  clear C2
  go_wp2_with fail
  refine C1.mono ?_
  rintro z w16 ⟨rfl, e16⟩
  go_wp2_with fail
  go_ret
  exact ⟨rfl, xt X15 e16⟩

end Go.Proofs.Ytmpemgpfjopkgaa
