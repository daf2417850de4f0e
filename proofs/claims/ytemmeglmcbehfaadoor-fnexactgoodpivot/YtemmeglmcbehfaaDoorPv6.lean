/-
  Chapter 12: GoodPivot of the program.
-/
import Derived.Test.YtemmeglmcbehfaaDoorPv4
import Derived.Test.YtemmeglmcbehfaaDoorPv5
import Derived.Test.YtemmeglmcbehfaaDoorV7e
import Derived.Shelf.Abstract
namespace Go.Proofs.YtemmeglmcbehfaaDoor
open Go.RowKit

theorem lacksP (r c : Int) (v : Value) (x : Int) (w : World) :
    Calls Tryd.prog 21 #[grV r c v, .int .i64 x] w fun e w' => e = .returned (.bool (decide (x < 1 ∨ c < x))) ∧ Ext w w' := by
  have X0 := x1 w (.cells #[.int .i64 r, .int .i64 c, v] 34)
  have B0 := vec_made w [.int .i64 r, .int .i64 c, v] 34
  obtain ⟨a0, a1, a2⟩ := Vec.three B0
  by_cases h1 : x < 1
  · rw [decide_eq_true (Or.inl h1)]
    have f1 : decide (x < 1) = true := decide_eq_true h1
    go_enter Tryd.func21, Tryd.ntmps21
    go_wp2_with fail
    go_ret
    exact ⟨rfl, X0⟩
  · have f1 : decide (x < 1) = false := decide_eq_false h1
    have e : decide (x < 1 ∨ c < x) = decide (c < x) := decide_eq_decide.2 ⟨fun h => h.resolve_left h1, Or.inr⟩
    rw [e]
    go_enter Tryd.func21, Tryd.ntmps21
    go_wp2_with fail
    go_ret
    exact ⟨rfl, X0⟩
theorem IntsIn.take {w : World} {p : Option Addr} {n cap : Nat} {l : List Int} (h : IntsIn w (.slice p n cap) l) (hn : l.length = n) {k : Nat} (hk : k ≤ n) : IntsIn w (.slice p k cap) (l.take k) := by
  obtain ⟨p', cap', e, hc, hi⟩ := h
  cases e
  have hlen : (l.take k).length = k := by rw [List.length_take]; omega
  refine ⟨p, cap, by rw [hlen], by rw [hlen]; omega, fun h0 => ?_⟩
  rw [hlen] at h0
  obtain ⟨b, o, e, hc⟩ := hi (by omega)
  refine ⟨b, o, e, fun i hi' => ?_⟩
  rw [hlen] at hi'
  rw [hc i (by omega)]
  have : (l.take k).getD i 0 = l.getD i 0 := by simp [List.getD_eq_getElem?_getD, hi']
  rw [this]
set_option maxRecDepth 8000 in
set_option maxHeartbeats 2000000 in
theorem hasOnceI (r c : Int) (v u : Value) (l : List Int) (w : World) (h : IntsIn w u l) (hl : l.length ≤ 6) :
    Calls Tryd.prog 24 #[grV r c v, u] w fun e w' => e = .returned (.bool (onceB c l)) ∧ Ext w w' := by
  obtain ⟨n, hn⟩ : ∃ n, l.length = n := ⟨_, rfl⟩
  have HN : Hid (l.length = n) := hn
  have h' := h
  obtain ⟨p, cap, e, hcap, hi⟩ := h
  rw [hn] at e hcap hl hi
  subst e
  have HW : Hid (IntsIn w (.slice p n cap) l) := h'
  have HI : Hid (0 < n → ∃ b o, p = some ⟨b, o, none⟩ ∧ ∀ i, i < n → w.cell? ⟨b, o + i, none⟩ = some (.int .i64 (l.getD i 0))) := hi
  obtain ⟨R, hR⟩ : ∃ R, onceB c l = R := ⟨_, rfl⟩
  have HR : Hid (onceB c l = R) := hR
  rw [hR]
  have X0 := x1 w (.cells #[.int .i64 r, .int .i64 c, v] 34)
  have B0 := vec_made w [.int .i64 r, .int .i64 c, v] 34
  obtain ⟨u0, hu0⟩ : ∃ u, w.alloc (.cells #[.int .i64 r, .int .i64 c, v] 34) = u := ⟨_, rfl⟩
  change Vec (w.alloc (.cells #[.int .i64 r, .int .i64 c, v] 34)) _ _ at B0
  rw [hu0] at X0 B0
  clear hn hi hR h'
  go_enter Tryd.func24, Tryd.ntmps24
  go_wp2_with fail
  go_loopw [9] (fun i wr => ∃ k : Nat, k ≤ n ∧ i = .int .i64 k ∧ Hid (Ext u0 wr ∧ ∀ j, j < k → okAt c l j = true)) (fun i _ => n - (intOf i).toNat)
  case atStart => exact ⟨0, by omega, rfl, xr _, fun j hj => absurd hj (by omega)⟩
  case round =>
    obtain ⟨k, hk, rfl, HO⟩ := hrel
    by_cases hlt : k < n
    · have i2 : (k : Int) < (n : Int) := by omega
      have kc : (k : Int) ≤ (cap : Int) := by omega
      obtain ⟨b, o, e, hc⟩ := HI.out (by omega)
      have c1 := cell_later (xt X0 HO.out.1) (hc k hlt)
      have HT : Hid (IntsIn w (.slice p k cap) (l.take k)) := HW.out.take HN.out (by omega)
      have hlk : (l.take k).length ≤ 2000 := by rw [List.length_take]; omega
      subst e
      obtain ⟨b0, b1, b2⟩ := Vec.three (B0.later HO.out.1)
      obtain ⟨x, hx⟩ : ∃ x, l.getD k 0 = x := ⟨_, rfl⟩
      have HX : Hid (l.getD k 0 = x) := hx
      rw [hx] at c1
      clear hx hc
      have CL := lacksP r c v x wr
      have HK : Hid (okAt c l k = (!(decide (x < 1 ∨ c < x)) && !((l.take k).contains x))) := by show _ = _; unfold okAt; rw [HX.out]
      cases hb : decide (x < 1 ∨ c < x) with
      | true =>
        rw [hb] at CL
        have hr0 : R = false := by rw [← HR.out]; exact onceB_false (i := k) (by rw [HN.out]; exact hlt) (by rw [HK.out, hb]; rfl)
        subst hr0
        have HE : Hid (Ext w wr) := xt X0 HO.out.1
        clear hb HT hlk
        go_wp2_with (go_at_call 21; refine CL.mono ?_; rintro e w1 ⟨rfl, e1⟩)
        go_ret
        exact ⟨rfl, xt HE.out e1⟩
      | false =>
        rw [hb] at CL
        have HB : Hid (decide (x < 1 ∨ c < x) = false) := hb
        clear hb
        go_wp2_with fail
        clear c1 b0 b1 b2
        refine CL.mono ?_
        rintro e w1 ⟨rfl, e1⟩
        have CC := containsZ (.slice (some ⟨b, o, none⟩) k cap) (l.take k) x w1 (HT.out.later (xt (xt X0 HO.out.1) e1)) hlk
        have HE1 : Hid (Ext u0 w1) := xt HO.out.1 e1
        clear hlk CL
        go_wp2_with fail
        cases hq : (l.take k).contains x with
        | true =>
          rw [hq] at CC
          have hr0 : R = false := by rw [← HR.out]; exact onceB_false (i := k) (by rw [HN.out]; exact hlt) (by rw [HK.out, HB.out, hq]; rfl)
          subst hr0
          clear hq
          refine CC.mono ?_
          rintro e w2 ⟨rfl, e2⟩
          go_wp2_with fail
          go_ret
          exact ⟨rfl, xt X0 (xt HE1.out e2)⟩
        | false =>
          rw [hq] at CC
          have HM : Hid (∀ j, j < k + 1 → okAt c l j = true) := fun j hj => by
            by_cases e : j = k
            · subst e; rw [HK.out, HB.out, hq]; rfl
            · exact HO.out.2 j (by omega)
          clear hq
          refine CC.mono ?_
          rintro e w2 ⟨rfl, e2⟩
          have HE2 : Hid (Ext u0 w2) := xt HE1.out e2
          go_wp2_with fail
          go_roundw
          case rel => exact ⟨k + 1, by omega, by go_num, HE2.out, HM.out⟩
          case measure => simp [intOf]; omega
    · obtain rfl : k = n := by omega
      have hr : R = true := by
        rw [← HR.out]
        exact onceB_true fun i hi => HO.out.2 i (by rw [← HN.out]; exact hi)
      subst hr
      have HF : Hid (Ext w wr) := xt X0 HO.out.1
      go_wp2_with fail
      go_ret
      exact ⟨rfl, HF.out⟩
theorem isFoldI (f : Int) (w : World) : Calls Tryd.prog 22 #[.int .i64 f] w fun e w' => e = .returned (.bool (decide (1 ≤ f ∧ f ≤ 5))) ∧ w' = w := by
  by_cases h1 : 1 ≤ f
  · have f1 : decide (1 ≤ f) = true := decide_eq_true h1
    have e : decide (1 ≤ f ∧ f ≤ 5) = decide (f ≤ 5) := decide_eq_decide.2 ⟨fun h => h.2, fun h => ⟨h1, h⟩⟩
    rw [e]
    go_enter Tryd.func22, Tryd.ntmps22
    go_wp2_with fail
    go_ret
    exact ⟨rfl, rfl⟩
  · have f1 : decide (1 ≤ f) = false := decide_eq_false h1
    rw [decide_eq_false (p := 1 ≤ f ∧ f ≤ 5) (fun h => h1 h.1)]
    go_enter Tryd.func22, Tryd.ntmps22
    go_wp2_with fail
    go_ret
    exact ⟨rfl, rfl⟩
abbrev MT.val (e : MT) : Value := measureV e.cl e.fd
set_option maxHeartbeats 2000000 in
theorem badMI (r c : Int) (v : Value) (e : MT) (B : Nat) (w : World) (H : Vec w B [.int .i64 r, .int .i64 c, v]) :
    Calls Tryd.prog 20 #[e.val, .pointer (some ⟨B, 0, none⟩)] w fun z w' => z = .returned (.bool (!(measB c e))) ∧ Ext w w' := by
  obtain ⟨z, f⟩ := e
  have X0 := x1 w (.cells #[.int .i64 z, .int .i64 f] 49)
  have K0 := vec_made w [.int .i64 z, .int .i64 f] 49
  change Vec (w.alloc (.cells #[.int .i64 z, .int .i64 f] 49)) _ _ at K0
  have CL := fun W => lacksP r c v z W
  have CF := fun W => isFoldI f W
  obtain ⟨R, hR⟩ : ∃ R, (!(measB c ⟨z, f⟩)) = R := ⟨_, rfl⟩
  have HR : Hid ((!(!(decide (z < 1 ∨ c < z)) && decide (1 ≤ f ∧ f ≤ 5))) = R) := hR
  rw [hR]
  obtain ⟨wa, ha⟩ : ∃ wa, w.alloc (.cells #[.int .i64 z, .int .i64 f] 49) = wa := ⟨_, rfl⟩
  rw [ha] at X0 K0
  obtain ⟨a0, a1, a2⟩ := Vec.three (H.later X0)
  have k0 := (K0 0 _ rfl).1
  clear hR
  cases hb : decide (z < 1 ∨ c < z) with
  | true =>
    simp only [hb] at CL
    obtain rfl : R = true := by rw [← HR.out, hb]; rfl
    clear hb
    go_enter Tryd.func20, Tryd.ntmps20
    go_wp2_with (go_at_call 21; refine (CL _).mono ?_; rintro e w1 ⟨rfl, e1⟩)
    go_ret
    exact ⟨rfl, xt X0 e1⟩
  | false =>
    simp only [hb] at CL
    have hR2 : (!(decide (1 ≤ f ∧ f ≤ 5))) = R := by rw [← HR.out, hb]; rfl
    obtain ⟨q, hq⟩ : ∃ q, decide (1 ≤ f ∧ f ≤ 5) = q := ⟨_, rfl⟩
    simp only [hq] at CF hR2
    subst hR2
    clear hb hq HR
    go_enter Tryd.func20, Tryd.ntmps20
    go_wp2_with fail
    clear k0 a0 a1 a2 ha
    refine (CL _).mono ?_
    rintro e w1 ⟨rfl, e1⟩
    have k1 := ((K0.later e1) 1 _ rfl).1
    go_wp2_with (go_at_call 22; refine (CF _).mono ?_; rintro e w2 ⟨rfl, rfl⟩)
    go_ret
    exact ⟨rfl, xt X0 e1⟩
/-- What a function says of measures. -/
structure AsksM (w : World) (f : Nat) (lb : Array Value) (p : MT → Bool) : Prop where
  ent : ∀ args w, (callFunc f args).run Tryd.prog w = .ok (.enter f args) w
  says : ∀ W e, Ext w W → Calls Tryd.prog f (#[MT.val e] ++ lb) W fun z w' => z = .returned (.bool (p e)) ∧ Ext W w'
set_option maxRecDepth 8000 in
set_option maxHeartbeats 2000000 in
theorem indexMI (f : Nat) (lb : Array Value) (v : Value) (l : List MT) (p : MT → Bool) (w : World) (A : AsksM w f lb p) (h : MeasuresIn w v l) (hl : l.length ≤ 2000) :
    Calls Tryd.prog 37 #[v, .func (.func f) #[] lb] w fun e w' =>
      ((e = .returned (.int .i64 (-1)) ∧ l.any p = false) ∨ ∃ m : Nat, e = .returned (.int .i64 m) ∧ l.any p = true ∧ m < 2000) ∧ Ext w w' := by
  have ent := A.ent
  have HA : Hid (AsksM w f lb p) := A
  obtain ⟨pk, nk, rfl, hc, hrow⟩ := h
  have HV : Hid (0 < l.length → ∃ b o, pk = some ⟨b, o, none⟩ ∧ RowM w b o l) := hrow
  obtain ⟨n, hn⟩ : ∃ n, l.length = n := ⟨_, rfl⟩
  have HN : Hid (l.length = n) := hn
  rw [hn] at hc hl HV ⊢
  clear hrow A hn
  go_enter Tryd.func37, Tryd.ntmps37
  go_wp2_with fail
  go_loopw [8] (fun i wr => ∃ k : Nat, k ≤ n ∧ i = .int .i64 k ∧ Hid (Ext w wr ∧ ∀ j x, j < k → l[j]? = some x → p x = false)) (fun i _ => n - (intOf i).toNat)
  case atStart => exact ⟨0, by omega, rfl, xr _, fun j x hj => absurd hj (by omega)⟩
  case round =>
    obtain ⟨k, hk, rfl, HO⟩ := hrel
    by_cases hlt : k < n
    · have i2 : (k : Int) < (n : Int) := by omega
      obtain ⟨⟨z, d⟩, hx⟩ : ∃ x, l[k]? = some x := ⟨_, List.getElem?_eq_getElem (by rw [HN.out]; exact hlt)⟩
      obtain ⟨b, o, rfl, RW⟩ := HV.out (by omega)
      obtain ⟨a0, a1⟩ := (RW.later HO.out.1).all hx
      have CA := HA.out.says wr ⟨z, d⟩ HO.out.1
      have HX : Hid (l[k]? = some ⟨z, d⟩) := hx
      obtain ⟨q, hq⟩ : ∃ q, p ⟨z, d⟩ = q := ⟨_, rfl⟩
      have HQ : Hid (p ⟨z, d⟩ = q) := hq
      rw [hq] at CA
      simp only at a0 a1
      clear hx hq RW
      cases q
      · go_wp2_with (go_at_fn f; refine CA.mono ?_; rintro e w1 ⟨rfl, e1⟩)
        have HM : Hid (Ext w w1 ∧ ∀ j x, j < k + 1 → l[j]? = some x → p x = false) := ⟨xt HO.out.1 e1, fun j y hj hy => by
          by_cases e : j = k
          · subst e
            rw [HX.out] at hy
            cases hy
            exact HQ.out
          · exact HO.out.2 j y (by omega) hy⟩
        go_roundw
        case rel => exact ⟨k + 1, by omega, by go_num, HM⟩
        case measure => simp [intOf]; omega
      · go_wp2_with (go_at_fn f; refine CA.mono ?_; rintro e w1 ⟨rfl, e1⟩)
        go_ret
        exact ⟨Or.inr ⟨k, rfl, List.any_eq_true.2 ⟨_, List.mem_of_getElem? HX.out, HQ.out⟩, by omega⟩, xt HO.out.1 e1⟩
    · obtain rfl : k = n := by omega
      have i2 : ¬ (k : Int) < (k : Int) := by omega
      go_wp2_with fail
      go_ret
      refine ⟨Or.inl ⟨rfl, ?_⟩, HO.out.1⟩
      intro x hx
      obtain ⟨j, hj, rfl⟩ := List.getElem_of_mem hx
      exact HO.out.2 j _ (by rw [← HN.out]; exact hj) (List.getElem?_eq_getElem hj)
set_option maxHeartbeats 2000000 in
theorem containsMI (f : Nat) (lb : Array Value) (v : Value) (l : List MT) (p : MT → Bool) (w : World) (A : AsksM w f lb p) (h : MeasuresIn w v l) (hl : l.length ≤ 2000) :
    Calls Tryd.prog 26 #[v, .func (.func f) #[] lb] w fun e w' => e = .returned (.bool (l.any p)) ∧ Ext w w' := by
  have C0 := indexMI f lb v l p w A h hl
  obtain ⟨pk, nk, rfl, _, _⟩ := h
  obtain ⟨R, hR⟩ : ∃ R, l.any p = R := ⟨_, rfl⟩
  rw [hR] at C0 ⊢
  obtain ⟨n, hn⟩ : ∃ n, l.length = n := ⟨_, rfl⟩
  rw [hn] at C0 hl ⊢
  clear A hR hn
  go_enter Tryd.func26, Tryd.ntmps26
  go_wp2_with fail
  refine C0.mono ?_
  rintro e w1 ⟨⟨rfl, rfl⟩ | ⟨m, rfl, rfl, hm⟩, e1⟩
  · go_wp2_with fail
    go_ret
    exact ⟨rfl, e1⟩
  · have m0 : (0 : Int) ≤ (m : Int) := by omega
    have m1 : decide ((m : Int) ≥ 0) = true := decide_eq_true m0
    go_wp2_with fail
    go_ret
    exact ⟨rfl, e1⟩

end Go.Proofs.YtemmeglmcbehfaaDoor
