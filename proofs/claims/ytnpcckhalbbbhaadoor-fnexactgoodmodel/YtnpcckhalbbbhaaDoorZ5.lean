/-
  Chapter 13: GoodModel of the specification.
-/
import Derived.Test.YtnpcckhalbbbhaaDoorZ4
import Derived.Deep.DeepCutAuto
namespace Go.Proofs.YtnpcckhalbbbhaaDoor
open Go.RowKit

theorem allD_step {l : List DT} {k : Nat} {e : DT} (h : l[k]? = some e) : (l.take (k + 1)).all DT.mod = ((l.take k).all DT.mod && e.mod) := by
  rw [List.take_add_one, h, List.all_append]; simp
theorem allD_bad {l : List DT} {k : Nat} {e : DT} (h : l[k]? = some e) (hb : e.mod = false) : l.all DT.mod = false := by
  rw [Bool.eq_false_iff]
  intro hc
  rw [List.all_eq_true.1 hc e (List.mem_of_getElem? h)] at hb
  cases hb
theorem allL_step {m : Int} {l : List LT} {k : Nat} {e : LT} (h : l[k]? = some e) : (l.take (k + 1)).all (LT.good m) = ((l.take k).all (LT.good m) && e.good m) := by
  rw [List.take_add_one, h, List.all_append]; simp
theorem allL_bad {m : Int} {l : List LT} {k : Nat} {e : LT} (h : l[k]? = some e) (hb : e.good m = false) : l.all (LT.good m) = false := by
  rw [Bool.eq_false_iff]
  intro hc
  rw [List.all_eq_true.1 hc e (List.mem_of_getElem? h)] at hb
  cases hb
set_option maxRecDepth 8000 in
set_option maxHeartbeats 4000000 in
theorem goodMoS1 (gv lv : Value) (p : Option Addr) (W cap : Nat) (G : List DT) (L : List LT) (w : World) (hg : DecsIn w gv G) (hL : LimitsIn w lv L) (lg : G.length ≤ 1048576) (ll : L.length ≤ 1048576) (lw : W ≤ 1048576) :
    Calls Tryd.prog 12 #[modelV gv lv (.slice p W cap), .int .i64 12] w fun z w' => z = .returned (.bool (goodMo G L W)) ∧ Ext w w' := by
  have HGo : Hid (goodMo G L W = (sizesB G.length L.length W && (G.all DT.mod && L.all (LT.good G.length)))) := rfl
  obtain ⟨R, hR⟩ : ∃ R, goodMo G L W = R := ⟨_, rfl⟩
  rw [hR] at HGo ⊢
  have X0 := x1 w (.cells #[gv, lv, .slice p W cap] 32)
  have B0 := vec_made w [gv, lv, .slice p W cap] 32
  change Vec (w.alloc (.cells #[gv, lv, .slice p W cap] 32)) _ _ at B0
  obtain ⟨wa, ha⟩ : ∃ wa, w.alloc (.cells #[gv, lv, .slice p W cap] 32) = wa := ⟨_, rfl⟩
  rw [ha] at X0 B0
  obtain ⟨pg, cg, rfl, hcg, hrg⟩ := hg
  obtain ⟨pl, cl, rfl, hcl, hrl⟩ := hL
  obtain ⟨n, hn⟩ : ∃ n, G.length = n := ⟨_, rfl⟩
  obtain ⟨m, hm⟩ : ∃ n, L.length = n := ⟨_, rfl⟩
  have HN : Hid (G.length = n) := hn
  have HM : Hid (L.length = m) := hm
  simp only [hn] at HGo hcg hrg lg B0 ha ⊢
  simp only [hm] at HGo hcl hrl ll B0 ha ⊢
  have HRG : Hid (0 < n → ∃ b o, pg = some ⟨b, o, none⟩ ∧ RowDc w b o G) := hrg
  have HRL : Hid (0 < m → ∃ b o, pl = some ⟨b, o, none⟩ ∧ RowL w b o L) := hrl
  obtain ⟨a0, a1, a2⟩ := Vec.three B0
  clear hn hm hR hrg hrl
  by_cases h1 : n < 1
  · obtain rfl : R = false := by rw [HGo.out, show sizesB n m W = false from decide_eq_false (by omega)]; rfl
    have g1 : decide ((n : Int) < 1) = true := decide_eq_true (by omega)
    go_enter Tryd.func12, Tryd.ntmps12
    go_wp2_with fail
    go_ret
    exact ⟨rfl, X0⟩
  have g1 : decide ((n : Int) < 1) = false := decide_eq_false (by omega)
  by_cases h2 : 8 < n
  · obtain rfl : R = false := by rw [HGo.out, show sizesB n m W = false from decide_eq_false (by omega)]; rfl
    have g2 : decide ((8 : Int) < (n : Int)) = true := decide_eq_true (by omega)
    go_enter Tryd.func12, Tryd.ntmps12
    go_wp2_with fail
    go_ret
    exact ⟨rfl, X0⟩
  have g2 : decide ((8 : Int) < (n : Int)) = false := decide_eq_false (by omega)
  by_cases h3 : 12 < m
  · obtain rfl : R = false := by rw [HGo.out, show sizesB n m W = false from decide_eq_false (by omega)]; rfl
    have g3 : decide ((12 : Int) < (m : Int)) = true := decide_eq_true (by omega)
    go_enter Tryd.func12, Tryd.ntmps12
    go_wp2_with fail
    go_ret
    exact ⟨rfl, X0⟩
  have g3 : decide ((12 : Int) < (m : Int)) = false := decide_eq_false (by omega)
  obtain ⟨q, hq⟩ : ∃ q, (!decide (W = 0 ∨ W = n)) = q := ⟨_, rfl⟩
  have HQ : Hid ((!decide (W = 0 ∨ W = n)) = q) := hq
  clear hq
  go_enter Tryd.func12, Tryd.ntmps12
  go_upto_region 2 with fail
  go_cut [40] (fun s wc => s = .bool q ∧ wa = wc)
  case first =>
    by_cases h4 : W = 0
    · subst h4
      obtain rfl : q = false := by rw [← HQ.out, decide_eq_true (Or.inl rfl)]; rfl
      go_wp2_with fail
      go_meet
      exact ⟨rfl, rfl⟩
    · have g4 : ((W : Int) != 0) = true := by simpa using h4
      by_cases h5 : W = n
      · subst h5
        obtain rfl : q = false := by rw [← HQ.out, decide_eq_true (Or.inr rfl)]; rfl
        go_wp2_with fail
        go_meet
        exact ⟨rfl, rfl⟩
      · have g5 : ((W : Int) != (n : Int)) = true := bne_iff_ne.2 (by omega)
        obtain rfl : q = true := by rw [← HQ.out, decide_eq_false (by omega)]; rfl
        go_wp2_with fail
        go_meet
        exact ⟨rfl, rfl⟩
  case rest =>
    obtain ⟨rfl, rfl⟩ := hcut
    cases q
    case true =>
      have hq : ¬ (W = 0 ∨ W = n) := fun h => by have := HQ.out; rw [decide_eq_true h] at this; cases this
      obtain rfl : R = false := by rw [HGo.out, show sizesB n m W = false from decide_eq_false (by omega)]; rfl
      clear hq
      go_wp2_with fail
      go_ret
      exact ⟨rfl, X0⟩
    have hq : W = 0 ∨ W = n := by
      by_cases h : W = 0 ∨ W = n
      · exact h
      · have := HQ.out; rw [decide_eq_false h] at this; cases this
    have HR : Hid (R = (G.all DT.mod && L.all (LT.good n))) := by show _ = _; rw [HGo.out, show sizesB n m W = true from decide_eq_true (by omega)]; rfl
    clear HGo HQ hq
    go_wp2_with fail
    go_loopw [44] (fun i wr => ∃ k : Nat, k ≤ n ∧ i = .int .i64 k ∧ Hid ((G.take k).all DT.mod = true) ∧ Ext wa wr) (fun i _ => n - (intOf i).toNat)
    case atStart => exact ⟨0, by omega, rfl, by show _ = _; simp, xr _⟩
    case round =>
      obtain ⟨k, hk, rfl, HA, X⟩ := hrel
      by_cases hlt : k < n
      · obtain ⟨e, he⟩ : ∃ e, G[k]? = some e := ⟨_, List.getElem?_eq_getElem (by rw [HN.out]; exact hlt)⟩
        obtain ⟨b, o, rfl, hRow⟩ := HRG.out (by omega)
        obtain ⟨b0, b1, b2⟩ := (hRow.later (xt X0 X)).all he
        have HY : Hid ((G.take (k + 1)).all DT.mod = e.mod) := by show _ = _; rw [allD_step he, HA.out]; rfl
        have HZ : Hid (e.mod = false → G.all DT.mod = false) := fun hb => allD_bad he hb
        have Y := x1 wr (.cells #[.bool e.ng, .int .i64 e.dg, .int .i64 e.ex] 44)
        have C := modS e (wr.alloc (.cells #[.bool e.ng, .int .i64 e.dg, .int .i64 e.ex] 44))
        obtain ⟨q, hq⟩ : ∃ q, e.mod = q := ⟨_, rfl⟩
        rw [hq] at C HY HZ
        clear hq
        obtain ⟨en, ed, ex⟩ := e
        have i2 : (k : Int) < (n : Int) := by omega
        clear hRow he HA
        dsimp only at b0 b1 b2 C Y
        go_wp2_with fail
        clear b0 b1 b2
        refine C.mono ?_
        rintro rr w' ⟨rfl, E⟩
        cases q
        · obtain rfl : R = false := by rw [HR.out, HZ.out rfl]; rfl
          go_wp2_with fail
          go_ret
          exact ⟨rfl, xt X0 (xt (xt X Y) E)⟩
        · go_wp2_with fail
          go_roundw
          case rel => exact ⟨k + 1, by omega, by go_num, HY, xt (xt X Y) E⟩
          case measure => simp [intOf]; omega
      · obtain rfl : k = n := by omega
        have HR2 : Hid (R = L.all (LT.good k)) := by
          show _ = _
          have := HA.out
          rw [List.take_of_length_le (by rw [HN.out]; exact Nat.le_refl _)] at this
          rw [HR.out, this]
          rfl
        obtain ⟨a0, a1, a2⟩ := Vec.three (B0.later X)
        clear HA HR HRG g1 g2 g3
        obtain ⟨wo, hwo⟩ : ∃ wo, wo = wr := ⟨_, rfl⟩
        subst hwo
        go_wp2_with fail
        go_loopw [55] (fun i wr => ∃ j : Nat, j ≤ m ∧ i = .int .i64 j ∧ Hid ((L.take j).all (LT.good k) = true) ∧ Ext wa wr) (fun i _ => m - (intOf i).toNat)
        case atStart => exact ⟨0, by omega, rfl, by show _ = _; simp, X⟩
        case round =>
          clear a0 a1 a2
          obtain ⟨j, hj, rfl, HA, XX⟩ := hrel
          by_cases hlt : j < m
          · obtain ⟨e, he⟩ : ∃ e, L[j]? = some e := ⟨_, List.getElem?_eq_getElem (by rw [HM.out]; exact hlt)⟩
            obtain ⟨b, o, rfl, hRow⟩ := HRL.out (by omega)
            obtain ⟨cv, hdc, b0, b1, b2, b3, b4⟩ := (hRow.later (xt X0 XX)) j e he
            have HY : Hid ((L.take (j + 1)).all (LT.good k) = e.good k) := by show _ = _; rw [allL_step he, HA.out]; rfl
            have HZ : Hid (e.good k = false → L.all (LT.good k) = false) := fun hb => allL_bad he hb
            have HG : Hid (e.good k = ((decide ((e.cf.length : Int) = k) && e.cf.all DT.mod) && (opB e.op && e.rt.mod))) := rfl
            obtain ⟨g, hg⟩ : ∃ g, e.good k = g := ⟨_, rfl⟩
            rw [hg] at HY HZ HG
            obtain ⟨cf, op, ⟨en, ed, ex⟩⟩ := e
            dsimp only at b0 b1 b2 b3 b4 hdc HG
            clear hg hRow he HA
            have i2 : (j : Int) < (m : Int) := by omega
            have Y := x1 wr (.cells #[cv, sV op, .bool en, .int .i64 ed, .int .i64 ex] 46)
            have K0 := vec_made wr [cv, sV op, .bool en, .int .i64 ed, .int .i64 ex] 46
            change Vec (wr.alloc (.cells #[cv, sV op, .bool en, .int .i64 ed, .int .i64 ex] 46)) _ _ at K0
            obtain ⟨wx, hx⟩ : ∃ wx, wr.alloc (.cells #[cv, sV op, .bool en, .int .i64 ed, .int .i64 ex] 46) = wx := ⟨_, rfl⟩
            rw [hx] at Y K0
            have hdx := hdc.later Y
            obtain ⟨pc, cc, rfl, hcc, hrc⟩ := hdx
            obtain ⟨N, hN⟩ : ∃ N, cf.length = N := ⟨_, rfl⟩
            have HNc : Hid (cf.length = N) := hN
            rw [hN] at hcc hrc HG K0 hx b0
            have HRC : Hid (0 < N → ∃ b o, pc = some ⟨b, o, none⟩ ∧ RowDc wx b o cf) := hrc
            clear hN hrc hdc
            obtain ⟨d0, d1, d2, d3, d4⟩ := Vec.five K0
            have CM := modS ⟨en, ed, ex⟩ wx
            obtain ⟨qm, hqm⟩ : ∃ q, DT.mod ⟨en, ed, ex⟩ = q := ⟨_, rfl⟩
            rw [hqm] at CM HG
            clear hqm
            by_cases hc : N = k
            · subst hc
              cases qm
              · obtain rfl : g = false := by rw [HG.out, Bool.and_false, Bool.and_false]
                obtain rfl : R = false := by rw [HR2.out, HZ.out rfl]
                go_wp2_with fail
                clear d0 d1 d2 d3 d4 b0 b1 b2 b3 b4
                refine CM.mono ?_
                rintro z w1 ⟨rfl, E⟩
                go_wp2_with fail
                go_ret
                exact ⟨rfl, xt X0 (xt (xt XX Y) E)⟩
              have HG2 : Hid (g = (cf.all DT.mod && opB op)) := by show _ = _; rw [HG.out, decide_eq_true rfl, Bool.true_and, Bool.and_true]
              cases hop : opB op
              · obtain rfl : g = false := by rw [HG2.out, hop, Bool.and_false]
                obtain rfl : R = false := by rw [HR2.out, HZ.out rfl]
                have HP : (op == [60, 61]) = false ∧ (op == [62, 61]) = false ∧ (op == [61]) = false := by
                  unfold opB at hop
                  rw [Bool.or_eq_false_iff, Bool.or_eq_false_iff] at hop
                  exact hop
                obtain ⟨o1, o2, o3⟩ := HP
                have p1 : (op != [60, 61]) = true := by show (!(op == [60, 61])) = true; rw [o1]; rfl
                have p2 : (op != [62, 61]) = true := by show (!(op == [62, 61])) = true; rw [o2]; rfl
                have p3 : (op != [61]) = true := by show (!(op == [61])) = true; rw [o3]; rfl
                clear hop HG HG2
                go_wp2_with fail
                clear d0 d1 d2 d3 d4 b0 b1 b2 b3 b4
                refine CM.mono ?_
                rintro z w1 ⟨rfl, E⟩
                obtain ⟨d0, d1, d2, d3, d4⟩ := Vec.five (K0.later E)
                go_wp2_with fail
                go_ret
                exact ⟨rfl, xt X0 (xt (xt XX Y) E)⟩
              have HG3 : Hid (g = cf.all DT.mod) := by show _ = _; rw [HG2.out, hop, Bool.and_true]
              have HP : (op == [60, 61]) = true ∨ ((op == [60, 61]) = false ∧ ((op == [62, 61]) = true ∨ ((op == [62, 61]) = false ∧ (op == [61]) = true))) := by
                unfold opB at hop
                cases o1 : op == [60, 61]
                · cases o2 : op == [62, 61]
                  · rw [o1, o2] at hop
                    exact Or.inr ⟨rfl, Or.inr ⟨rfl, hop⟩⟩
                  · exact Or.inr ⟨rfl, Or.inl rfl⟩
                · exact Or.inl rfl
              clear hop HG HG2
              rcases HP with o1 | ⟨o1, o2 | ⟨o2, o3⟩⟩
              case' inl => have p1 : (op != [60, 61]) = false := by show (!(op == [60, 61])) = false; rw [o1]; rfl
              case' inr.inl => have p1 : (op != [60, 61]) = true := by show (!(op == [60, 61])) = true; rw [o1]; rfl
              case' inr.inl => have p2 : (op != [62, 61]) = false := by show (!(op == [62, 61])) = false; rw [o2]; rfl
              case' inr.inr => have p1 : (op != [60, 61]) = true := by show (!(op == [60, 61])) = true; rw [o1]; rfl
              case' inr.inr => have p2 : (op != [62, 61]) = true := by show (!(op == [62, 61])) = true; rw [o2]; rfl
              case' inr.inr => have p3 : (op != [61]) = false := by show (!(op == [61])) = false; rw [o3]; rfl
              all_goals
                go_wp2_with fail
                clear d0 d1 d2 d3 d4 b0 b1 b2 b3 b4
                refine CM.mono ?_
                rintro z w1 ⟨rfl, E⟩
                obtain ⟨d0, d1, d2, d3, d4⟩ := Vec.five (K0.later E)
                have XQ := xt (xt XX Y) E
                obtain ⟨wq, hwq⟩ : ∃ wq, wq = wr := ⟨_, rfl⟩
                subst hwq
                go_wp2_with fail
                clear d0 d1 d2 d3 d4
                go_loopw [88] (fun i wr => ∃ t : Nat, t ≤ N ∧ i = .int .i64 t ∧ Hid ((cf.take t).all DT.mod = true) ∧ Ext w1 wr) (fun i _ => N - (intOf i).toNat)
                case atStart => exact ⟨0, by omega, rfl, by show _ = _; simp, xr _⟩
                case round =>
                  obtain ⟨t, ht, rfl, HB, XI⟩ := hrel
                  by_cases hlt2 : t < N
                  · obtain ⟨e, he⟩ : ∃ e, cf[t]? = some e := ⟨_, List.getElem?_eq_getElem (by rw [HNc.out]; exact hlt2)⟩
                    obtain ⟨bc, oc, rfl, hRow⟩ := HRC.out (by omega)
                    obtain ⟨b0, b1, b2⟩ := (hRow.later (xt E XI)).all he
                    have HY2 : Hid ((cf.take (t + 1)).all DT.mod = e.mod) := by show _ = _; rw [allD_step he, HB.out]; rfl
                    have HZ2 : Hid (e.mod = false → cf.all DT.mod = false) := fun hb => allD_bad he hb
                    have Y2 := x1 wr (.cells #[.bool e.ng, .int .i64 e.dg, .int .i64 e.ex] 44)
                    have C := modS e (wr.alloc (.cells #[.bool e.ng, .int .i64 e.dg, .int .i64 e.ex] 44))
                    obtain ⟨q, hq⟩ : ∃ q, e.mod = q := ⟨_, rfl⟩
                    rw [hq] at C HY2 HZ2
                    clear hq
                    obtain ⟨fn, fd, fx⟩ := e
                    have i3 : (t : Int) < (N : Int) := by omega
                    clear hRow he HB
                    dsimp only at b0 b1 b2 C Y2
                    go_wp2_with fail
                    clear b0 b1 b2
                    refine C.mono ?_
                    rintro rr w' ⟨rfl, E2⟩
                    cases q
                    · obtain rfl : g = false := by rw [HG3.out, HZ2.out rfl]
                      obtain rfl : R = false := by rw [HR2.out, HZ.out rfl]
                      go_wp2_with fail
                      go_ret
                      exact ⟨rfl, xt X0 (xt XQ (xt (xt XI Y2) E2))⟩
                    · go_wp2_with fail
                      go_roundw
                      case rel => exact ⟨t + 1, by omega, by go_num, HY2, xt (xt XI Y2) E2⟩
                      case measure => simp [intOf]; omega
                  · obtain rfl : t = N := by omega
                    have HY3 : Hid ((L.take (j + 1)).all (LT.good t) = true) := by
                      show _ = _
                      have := HB.out
                      rw [List.take_of_length_le (by rw [HNc.out]; exact Nat.le_refl _)] at this
                      rw [HY.out, HG3.out, this]
                    clear HB
                    go_wp2_with fail
                    go_roundw
                    case rel => exact ⟨j + 1, by omega, by go_num, HY3, xt XQ XI⟩
                    case measure => simp [intOf]; omega
            · have g4 : ((N : Int) != (k : Int)) = true := bne_iff_ne.2 (by omega)
              obtain rfl : g = false := by rw [HG.out, decide_eq_false (by omega)]; rfl
              obtain rfl : R = false := by rw [HR2.out, HZ.out rfl]
              go_wp2_with fail
              go_ret
              exact ⟨rfl, xt X0 (xt XX Y)⟩
          · obtain rfl : j = m := by omega
            obtain rfl : R = true := by
              have := HA.out
              rw [List.take_of_length_le (by rw [HM.out]; exact Nat.le_refl _)] at this
              rw [HR2.out, this]
            clear HA
            go_wp2_with fail
            go_ret
            exact ⟨rfl, xt X0 XX⟩
theorem goodMoS (gv lv : Value) (p : Option Addr) (W cap : Nat) (G : List DT) (L : List LT) (w : World) (hg : DecsIn w gv G) (hL : LimitsIn w lv L) (lg : G.length ≤ 1048576) (ll : L.length ≤ 1048576) (lw : W ≤ 1048576) :
    Calls Tryd.prog 5 #[modelV gv lv (.slice p W cap)] w fun z w' => z = .returned (.bool (goodMo G L W)) ∧ Ext w w' := by
  have X0 := x1 w (.cells #[gv, lv, .slice p W cap] 32)
  have B0 := vec_made w [gv, lv, .slice p W cap] 32
  change Vec (w.alloc (.cells #[gv, lv, .slice p W cap] 32)) _ _ at B0
  have C := goodMoS1 gv lv p W cap G L (w.alloc (.cells #[gv, lv, .slice p W cap] 32)) (hg.later X0) (hL.later X0) lg ll lw
  obtain ⟨R, hR⟩ : ∃ R, goodMo G L W = R := ⟨_, rfl⟩
  rw [hR] at C ⊢
  obtain ⟨a0, a1, a2⟩ := Vec.three B0
  clear hR hg hL
  go_enter Tryd.func5, Tryd.ntmps5
  go_wp2_with (go_at_call 12; refine C.mono ?_; rintro e w1 ⟨rfl, e1⟩)
  go_ret
  exact ⟨rfl, xt X0 e1⟩

end Go.Proofs.YtnpcckhalbbbhaaDoor
