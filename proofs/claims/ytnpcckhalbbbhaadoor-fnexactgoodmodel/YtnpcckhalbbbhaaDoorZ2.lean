/-
  Chapter 13: modest decimals and lists of them, on both sides.
-/
import Derived.Test.YtnpcckhalbbbhaaDoorZ1d
import Derived.Test.YtnpcckhalbbbhaaDoorBx
import Derived.Shelf.Abstract
import Derived.BigQuiet
import Derived.Deep.QuietTactic
namespace Go.Proofs.YtnpcckhalbbbhaaDoor
open Go.RowKit

/-- What a model's number must be. -/
def DT.mod (e : DT) : Bool := goodB e.ng e.dg e.ex && decide (e.dg < 1000000 ∧ -6 ≤ e.ex ∧ e.ex ≤ 6)
def DT.room (e : DT) : Prop := -9223372036854775808 ≤ e.dg ∧ e.dg ≤ 9223372036854775807
abbrev DT.val (e : DT) : Value := decV e.ng e.dg e.ex
theorem goodB_nonneg {n : Bool} {d x : Int} (h : goodB n d x = true) : 0 ≤ d ∧ d < 1000000000000000 := by
  unfold goodB at h
  split at h
  · omega
  · have := of_decide_eq_true h
    omega
theorem Tens.at6 {w : World} (h : Tens w) : w.cell? ⟨0, 6, none⟩ = some (.int .u64 1000000) := h 6 (by decide)
set_option maxHeartbeats 1000000 in
theorem withinI (x m : Int) (w : World) (m0 : 0 ≤ m) (m1 : m ≤ 1000000) :
    Calls Tryd.prog 35 #[.int .i64 x, .int .i64 m] w fun e w' => e = .returned (.bool (decide (-m ≤ x ∧ x ≤ m))) ∧ w' = w := by
  by_cases h1 : -m ≤ x
  · have f1 : decide (-m ≤ x) = true := decide_eq_true h1
    have e : decide (-m ≤ x ∧ x ≤ m) = decide (x ≤ m) := decide_eq_decide.2 ⟨fun h => h.2, fun h => ⟨h1, h⟩⟩
    rw [e]
    go_enter Tryd.func35, Tryd.ntmps35
    go_wp2_with fail
    go_ret
    exact ⟨rfl, rfl⟩
  · have f1 : decide (-m ≤ x) = false := decide_eq_false h1
    rw [decide_eq_false (p := -m ≤ x ∧ x ≤ m) (fun h => h1 h.1)]
    go_enter Tryd.func35, Tryd.ntmps35
    go_wp2_with fail
    go_ret
    exact ⟨rfl, rfl⟩
set_option maxHeartbeats 2000000 in
theorem modI (e : DT) (w : World) (hr : e.room) (hT : Tens w) :
    Calls Tryd.prog 27 #[e.val] w fun z w' => z = .returned (.bool e.mod) ∧ Ext w w' := by
  obtain ⟨n, d, x⟩ := e
  have X0 := x1 w (.cells #[.bool n, .int .i64 d, .int .i64 x] 44)
  have B0 := vec_made w [.bool n, .int .i64 d, .int .i64 x] 44
  change Vec (w.alloc (.cells #[.bool n, .int .i64 d, .int .i64 x] 44)) _ _ at B0
  obtain ⟨wa, ha⟩ : ∃ wa, w.alloc (.cells #[.bool n, .int .i64 d, .int .i64 x] 44) = wa := ⟨_, rfl⟩
  rw [ha] at X0 B0
  have CG := goodI n d x wa hr.1 hr.2 (hT.later X0)
  have CW := fun W => withinI x 6 W (by omega) (by omega)
  have HM : Hid (DT.mod ⟨n, d, x⟩ = (goodB n d x && decide (d < 1000000 ∧ -6 ≤ x ∧ x ≤ 6))) := rfl
  obtain ⟨R, hR⟩ : ∃ R, DT.mod ⟨n, d, x⟩ = R := ⟨_, rfl⟩
  rw [hR] at HM ⊢
  clear hR
  obtain ⟨a0, a1, a2⟩ := Vec.three B0
  cases hg : goodB n d x with
  | false =>
    rw [hg] at CG
    obtain rfl : R = false := by rw [HM.out, hg]; rfl
    clear hg
    go_enter Tryd.func27, Tryd.ntmps27
    go_wp2_with fail
    refine CG.mono ?_
    rintro z w1 ⟨rfl, e1⟩
    go_wp2_with fail
    go_ret
    exact ⟨rfl, xt X0 e1⟩
  | true =>
    rw [hg] at CG
    have hd := goodB_nonneg hg
    have d0 := hd.1
    have d1 := hd.2
    have wd : IntKind.u64.wrap d = d := by rw [IntKind.wrap_u64]; omega
    have hM : R = decide (d < 1000000 ∧ -6 ≤ x ∧ x ≤ 6) := by rw [HM.out, hg]; rfl
    have t6 := hT.at6
    clear hg hd HM
    by_cases hs : d < 1000000
    · have f1 : decide (d < 1000000) = true := decide_eq_true hs
      have e2 : R = decide (-6 ≤ x ∧ x ≤ 6) := by rw [hM]; exact decide_eq_decide.2 ⟨fun h => h.2, fun h => ⟨hs, h⟩⟩
      obtain ⟨q, hq⟩ : ∃ q, decide (-6 ≤ x ∧ x ≤ 6) = q := ⟨_, rfl⟩
      rw [hq] at e2
      simp only [hq] at CW
      subst e2
      clear hM hq
      go_enter Tryd.func27, Tryd.ntmps27
      go_wp2_with fail
      clear a0 a1 a2
      refine CG.mono ?_
      rintro z w1 ⟨rfl, e1⟩
      obtain ⟨a0, a1, a2⟩ := Vec.three (B0.later e1)
      have c6 := cell_later (xt X0 e1) t6
      go_wp2_with (go_at_call 35; refine (CW _).mono ?_; rintro e w2 ⟨rfl, rfl⟩)
      go_ret
      exact ⟨rfl, xt X0 e1⟩
    · have f1 : decide (d < 1000000) = false := decide_eq_false hs
      obtain rfl : R = false := by rw [hM]; exact decide_eq_false (fun h => hs h.1)
      clear hM
      go_enter Tryd.func27, Tryd.ntmps27
      go_wp2_with fail
      clear a0 a1 a2
      refine CG.mono ?_
      rintro z w1 ⟨rfl, e1⟩
      obtain ⟨a0, a1, a2⟩ := Vec.three (B0.later e1)
      have c6 := cell_later (xt X0 e1) t6
      go_wp2_with fail
      go_ret
      exact ⟨rfl, xt X0 e1⟩
set_option maxHeartbeats 2000000 in
theorem modS (e : DT) (w : World) :
    Calls Tryd.prog 24 #[e.val] w fun z w' => z = .returned (.bool e.mod) ∧ Ext w w' := by
  obtain ⟨n, d, x⟩ := e
  have X0 := x1 w (.cells #[.bool n, .int .i64 d, .int .i64 x] 44)
  have B0 := vec_made w [.bool n, .int .i64 d, .int .i64 x] 44
  change Vec (w.alloc (.cells #[.bool n, .int .i64 d, .int .i64 x] 44)) _ _ at B0
  obtain ⟨wa, ha⟩ : ∃ wa, w.alloc (.cells #[.bool n, .int .i64 d, .int .i64 x] 44) = wa := ⟨_, rfl⟩
  rw [ha] at X0 B0
  have CG := goodS n d x wa
  have HM : Hid (DT.mod ⟨n, d, x⟩ = (goodB n d x && decide (d < 1000000 ∧ -6 ≤ x ∧ x ≤ 6))) := rfl
  obtain ⟨R, hR⟩ : ∃ R, DT.mod ⟨n, d, x⟩ = R := ⟨_, rfl⟩
  rw [hR] at HM ⊢
  clear hR
  obtain ⟨a0, a1, a2⟩ := Vec.three B0
  cases hg : goodB n d x with
  | false =>
    rw [hg] at CG
    obtain rfl : R = false := by rw [HM.out, hg]; rfl
    clear hg
    go_enter Tryd.func24, Tryd.ntmps24
    go_wp2_with fail
    refine CG.mono ?_
    rintro z w1 ⟨rfl, e1⟩
    go_wp2_with fail
    go_ret
    exact ⟨rfl, xt X0 e1⟩
  | true =>
    rw [hg] at CG
    have hM : R = decide (d < 1000000 ∧ -6 ≤ x ∧ x ≤ 6) := by rw [HM.out, hg]; rfl
    clear hg HM
    by_cases hs : d < 1000000
    · have f1 : decide (d < 1000000) = true := decide_eq_true hs
      by_cases h6 : -6 ≤ x
      · have f2 : decide (-6 ≤ x) = true := decide_eq_true h6
        obtain rfl : R = decide (x ≤ 6) := by rw [hM]; exact decide_eq_decide.2 ⟨fun h => h.2.2, fun h => ⟨hs, h6, h⟩⟩
        clear hM
        go_enter Tryd.func24, Tryd.ntmps24
        go_wp2_with fail
        clear a0 a1 a2
        refine CG.mono ?_
        rintro z w1 ⟨rfl, e1⟩
        obtain ⟨a0, a1, a2⟩ := Vec.three (B0.later e1)
        go_wp2_with fail
        go_ret
        exact ⟨rfl, xt X0 e1⟩
      · have f2 : decide (-6 ≤ x) = false := decide_eq_false h6
        obtain rfl : R = false := by rw [hM]; exact decide_eq_false (fun h => h6 h.2.1)
        clear hM
        go_enter Tryd.func24, Tryd.ntmps24
        go_wp2_with fail
        clear a0 a1 a2
        refine CG.mono ?_
        rintro z w1 ⟨rfl, e1⟩
        obtain ⟨a0, a1, a2⟩ := Vec.three (B0.later e1)
        go_wp2_with fail
        go_ret
        exact ⟨rfl, xt X0 e1⟩
    · have f1 : decide (d < 1000000) = false := decide_eq_false hs
      obtain rfl : R = false := by rw [hM]; exact decide_eq_false (fun h => hs h.1)
      clear hM
      go_enter Tryd.func24, Tryd.ntmps24
      go_wp2_with fail
      clear a0 a1 a2
      refine CG.mono ?_
      rintro z w1 ⟨rfl, e1⟩
      obtain ⟨a0, a1, a2⟩ := Vec.three (B0.later e1)
      go_wp2_with fail
      go_ret
      exact ⟨rfl, xt X0 e1⟩
set_option maxHeartbeats 1000000 in
theorem badDI (e : DT) (w : World) (hr : e.room) (hT : Tens w) :
    Calls Tryd.prog 28 #[e.val] w fun z w' => z = .returned (.bool (!e.mod)) ∧ Ext w w' := by
  have CM := modI e (w.alloc (.cells #[.bool e.ng, .int .i64 e.dg, .int .i64 e.ex] 44)) hr (hT.later (x1 _ _))
  obtain ⟨R, hR⟩ : ∃ R, e.mod = R := ⟨_, rfl⟩
  rw [hR] at CM ⊢
  obtain ⟨n, d, x⟩ := e
  have X0 := x1 w (.cells #[.bool n, .int .i64 d, .int .i64 x] 44)
  have B0 := vec_made w [.bool n, .int .i64 d, .int .i64 x] 44
  change Vec (w.alloc (.cells #[.bool n, .int .i64 d, .int .i64 x] 44)) _ _ at B0
  dsimp only at CM
  obtain ⟨a0, a1, a2⟩ := Vec.three B0
  clear hR hr hT
  go_enter Tryd.func28, Tryd.ntmps28
  go_wp2_with (go_at_call 27; refine CM.mono ?_; rintro e w1 ⟨rfl, e1⟩)
  go_ret
  exact ⟨rfl, xt X0 e1⟩
/-- What a function says of decimals. -/
structure AsksDc (w : World) (f : Nat) (lb : Array Value) (l : List DT) (p : DT → Bool) : Prop where
  ent : ∀ args w, (callFunc f args).run Tryd.prog w = .ok (.enter f args) w
  says : ∀ W e, e ∈ l → Ext w W → Calls Tryd.prog f (#[DT.val e] ++ lb) W fun z w' => z = .returned (.bool (p e)) ∧ Ext W w'
set_option maxRecDepth 8000 in
set_option maxHeartbeats 2000000 in
theorem indexDcI (f : Nat) (lb : Array Value) (v : Value) (l : List DT) (p : DT → Bool) (w : World) (A : AsksDc w f lb l p) (h : DecsIn w v l) (hl : l.length ≤ 1048576) :
    Calls Tryd.prog 36 #[v, .func (.func f) #[] lb] w fun e w' =>
      ((e = .returned (.int .i64 (-1)) ∧ l.any p = false) ∨ ∃ m : Nat, e = .returned (.int .i64 m) ∧ l.any p = true ∧ m < 1048576) ∧ Ext w w' := by
  have ent := A.ent
  have HA : Hid (AsksDc w f lb l p) := A
  obtain ⟨pk, nk, rfl, hc, hrow⟩ := h
  have HV : Hid (0 < l.length → ∃ b o, pk = some ⟨b, o, none⟩ ∧ RowDc w b o l) := hrow
  obtain ⟨n, hn⟩ : ∃ n, l.length = n := ⟨_, rfl⟩
  have HN : Hid (l.length = n) := hn
  rw [hn] at hc hl HV ⊢
  clear hrow A hn
  go_enter Tryd.func36, Tryd.ntmps36
  go_wp2_with fail
  go_loopw [8] (fun i wr => ∃ k : Nat, k ≤ n ∧ i = .int .i64 k ∧ Hid (Ext w wr ∧ ∀ j x, j < k → l[j]? = some x → p x = false)) (fun i _ => n - (intOf i).toNat)
  case atStart => exact ⟨0, by omega, rfl, xr _, fun j x hj => absurd hj (by omega)⟩
  case round =>
    obtain ⟨k, hk, rfl, HO⟩ := hrel
    by_cases hlt : k < n
    · have i2 : (k : Int) < (n : Int) := by omega
      obtain ⟨⟨z, d, x⟩, hx⟩ : ∃ x, l[k]? = some x := ⟨_, List.getElem?_eq_getElem (by rw [HN.out]; exact hlt)⟩
      obtain ⟨b, o, rfl, RW⟩ := HV.out (by omega)
      obtain ⟨a0, a1, a2⟩ := (RW.later HO.out.1).all hx
      have CA := HA.out.says wr ⟨z, d, x⟩ (List.mem_of_getElem? hx) HO.out.1
      have HX : Hid (l[k]? = some ⟨z, d, x⟩) := hx
      obtain ⟨q, hq⟩ : ∃ q, p ⟨z, d, x⟩ = q := ⟨_, rfl⟩
      have HQ : Hid (p ⟨z, d, x⟩ = q) := hq
      rw [hq] at CA
      simp only at a0 a1 a2
      clear hx hq RW
      cases q
      · go_wp2_with (go_at_fn f; refine CA.mono ?_; rintro e w1 ⟨rfl, e1⟩)
        have HM : Hid (Ext w w1 ∧ ∀ j x, j < k + 1 → l[j]? = some x → p x = false) := ⟨xt HO.out.1 e1, fun j y hj hy => by
          by_cases e : j = k
          · subst e
            rw [HX.out] at hy
            cases hy
            exact HQ.out
          · exact HO.out.2 j y (by omega) hy⟩
        go_roundw
        case rel => exact ⟨k + 1, by omega, by go_num, HM⟩
        case measure => simp [intOf]; omega
      · go_wp2_with (go_at_fn f; refine CA.mono ?_; rintro e w1 ⟨rfl, e1⟩)
        go_ret
        exact ⟨Or.inr ⟨k, rfl, List.any_eq_true.2 ⟨_, List.mem_of_getElem? HX.out, HQ.out⟩, by omega⟩, xt HO.out.1 e1⟩
    · obtain rfl : k = n := by omega
      have i2 : ¬ (k : Int) < (k : Int) := by omega
      go_wp2_with fail
      go_ret
      refine ⟨Or.inl ⟨rfl, ?_⟩, HO.out.1⟩
      intro x hx
      obtain ⟨j, hj, rfl⟩ := List.getElem_of_mem hx
      exact HO.out.2 j _ (by rw [← HN.out]; exact hj) (List.getElem?_eq_getElem hj)
set_option maxHeartbeats 2000000 in
theorem containsDcI (f : Nat) (lb : Array Value) (v : Value) (l : List DT) (p : DT → Bool) (w : World) (A : AsksDc w f lb l p) (h : DecsIn w v l) (hl : l.length ≤ 1048576) :
    Calls Tryd.prog 29 #[v, .func (.func f) #[] lb] w fun e w' => e = .returned (.bool (l.any p)) ∧ Ext w w' := by
  have C0 := indexDcI f lb v l p w A h hl
  obtain ⟨pk, nk, rfl, _, _⟩ := h
  obtain ⟨R, hR⟩ : ∃ R, l.any p = R := ⟨_, rfl⟩
  rw [hR] at C0 ⊢
  obtain ⟨n, hn⟩ : ∃ n, l.length = n := ⟨_, rfl⟩
  rw [hn] at C0 hl ⊢
  clear A hR hn
  go_enter Tryd.func29, Tryd.ntmps29
  go_wp2_with fail
  refine C0.mono ?_
  rintro e w1 ⟨⟨rfl, rfl⟩ | ⟨m, rfl, rfl, hm⟩, e1⟩
  · go_wp2_with fail
    go_ret
    exact ⟨rfl, e1⟩
  · have m0 : (0 : Int) ≤ (m : Int) := by omega
    have m1 : decide ((m : Int) ≥ 0) = true := decide_eq_true m0
    go_wp2_with fail
    go_ret
    exact ⟨rfl, e1⟩
theorem any_not_mod (l : List DT) : (!(l.any fun e => !e.mod)) = l.all DT.mod := by
  induction l with
  | nil => rfl
  | cons a l ih => simp only [List.any_cons, List.all_cons, Bool.not_or, Bool.not_not, ih]
set_option maxHeartbeats 2000000 in
theorem areI (v : Value) (l : List DT) (m : Int) (w : World) (h : DecsIn w v l) (hl : l.length ≤ 1048576) (hr : ∀ e ∈ l, e.room) (hT : Tens w) :
    Calls Tryd.prog 18 #[v, .int .i64 m] w fun e w' => e = .returned (.bool (decide ((l.length : Int) = m) && l.all DT.mod)) ∧ Ext w w' := by
  have HC : Hid (Calls Tryd.prog 29 #[v, .func (.func 28) #[] #[]] w fun e w' => e = .returned (.bool (l.any fun e => !e.mod)) ∧ Ext w w') :=
    containsDcI 28 #[] v l _ w ⟨fun _ _ => rfl, fun W e he x => by simpa using badDI e W (hr e he) (hT.later x)⟩ h hl
  have HB : Hid ((!(l.any fun e => !e.mod)) = l.all DT.mod) := any_not_mod l
  obtain ⟨q, hq⟩ : ∃ q, (l.any fun e => !e.mod) = q := ⟨_, rfl⟩
  rw [hq] at HC HB
  obtain ⟨pk, nk, rfl, _, _⟩ := h
  obtain ⟨n, hn⟩ : ∃ n, l.length = n := ⟨_, rfl⟩
  rw [hn] at HC hl ⊢
  rw [← HB.out]
  clear hq hn HB hr hT
  by_cases he : (n : Int) = m
  · subst he
    rw [decide_eq_true rfl, Bool.true_and]
    go_enter Tryd.func18, Tryd.ntmps18
    go_wp2_with (go_at_call 29; refine HC.out.mono ?_; rintro e w1 ⟨rfl, e1⟩)
    go_ret
    exact ⟨rfl, e1⟩
  · rw [decide_eq_false he, Bool.false_and]
    have f1 : ((n : Int) == m) = false := by simpa using he
    go_enter Tryd.func18, Tryd.ntmps18
    go_wp2_with fail
    go_ret
    exact ⟨rfl, xr _⟩

end Go.Proofs.YtnpcckhalbbbhaaDoor
