/-
  Chapter 13: limits, and rows of them; what the program says of one.
-/
import Derived.Test.YtnpcckhalbbbhaaDoorZ2
namespace Go.Proofs.YtnpcckhalbbbhaaDoor
open Go.RowKit

structure LT where
  cf : List DT
  op : List UInt8
  rt : DT
abbrev limV (cv : Value) (op : List UInt8) (r : DT) : Value := .agg #[cv, sV op, .bool r.ng, .int .i64 r.dg, .int .i64 r.ex]
def opB (op : List UInt8) : Bool := op == [60, 61] || (op == [62, 61] || op == [61])
/-- What a good limit is, of so many numbers. -/
def LT.good (m : Int) (e : LT) : Bool := (decide ((e.cf.length : Int) = m) && e.cf.all DT.mod) && (opB e.op && e.rt.mod)
def LT.room (e : LT) : Prop := e.cf.length ≤ 1048576 ∧ e.op.length ≤ 1048576 ∧ (∀ d ∈ e.cf, d.room) ∧ e.rt.room
/-- One of them at a place. -/
def LimAt (w : World) (b o : Nat) (e : LT) (cv : Value) : Prop :=
  DecsIn w cv e.cf ∧ w.cell? ⟨b, o, none⟩ = some cv ∧ w.cell? ⟨b, o + 1, none⟩ = some (sV e.op) ∧ w.cell? ⟨b, o + 2, none⟩ = some (.bool e.rt.ng) ∧ w.cell? ⟨b, o + 3, none⟩ = some (.int .i64 e.rt.dg) ∧ w.cell? ⟨b, o + 4, none⟩ = some (.int .i64 e.rt.ex)
theorem LimAt.later {w w' : World} {b o : Nat} {e : LT} {cv : Value} (h : LimAt w b o e cv) (x : Ext w w') : LimAt w' b o e cv :=
  ⟨h.1.later x, cell_later x h.2.1, cell_later x h.2.2.1, cell_later x h.2.2.2.1, cell_later x h.2.2.2.2.1, cell_later x h.2.2.2.2.2⟩
def RowL (w : World) (b o : Nat) (l : List LT) : Prop := ∀ (i : Nat) (e : LT), l[i]? = some e → ∃ cv, LimAt w b (o + i * 5) e cv
theorem RowL.later {w w' : World} {b o : Nat} {l : List LT} (h : RowL w b o l) (x : Ext w w') : RowL w' b o l := fun i e hi => by
  obtain ⟨cv, hc⟩ := h i e hi
  exact ⟨cv, hc.later x⟩
/-- A slice of them that lies somewhere. -/
def LimitsIn (w : World) (v : Value) (l : List LT) : Prop :=
  ∃ p cap, v = .slice p l.length cap ∧ l.length ≤ cap ∧ (0 < l.length → ∃ b o, p = some ⟨b, o, none⟩ ∧ RowL w b o l)
theorem LimitsIn.later {w w' : World} {v : Value} {l : List LT} (h : LimitsIn w v l) (x : Ext w w') : LimitsIn w' v l := by
  obtain ⟨p, cap, h1, h2, h3⟩ := h
  refine ⟨p, cap, h1, h2, fun h0 => ?_⟩
  obtain ⟨b, o, h4, h5⟩ := h3 h0
  exact ⟨b, o, h4, h5.later x⟩
set_option maxRecDepth 8000 in
set_option maxHeartbeats 2000000 in
theorem isGoodI (cv : Value) (e : LT) (m : Int) (w : World) (h : DecsIn w cv e.cf) (hr : e.room) (hT : Tens w) :
    Calls Tryd.prog 17 #[limV cv e.op e.rt, .int .i64 m] w fun z w' => z = .returned (.bool (e.good m)) ∧ Ext w w' := by
  obtain ⟨cf, op, ⟨n, d, x⟩⟩ := e
  have X0 := x1 w (.cells #[cv, sV op, .bool n, .int .i64 d, .int .i64 x] 46)
  have B0 := vec_made w [cv, sV op, .bool n, .int .i64 d, .int .i64 x] 46
  change Vec (w.alloc (.cells #[cv, sV op, .bool n, .int .i64 d, .int .i64 x] 46)) _ _ at B0
  obtain ⟨wa, ha⟩ : ∃ wa, w.alloc (.cells #[cv, sV op, .bool n, .int .i64 d, .int .i64 x] 46) = wa := ⟨_, rfl⟩
  rw [ha] at X0 B0
  have CA := areI cv cf m wa (h.later X0) hr.1 hr.2.2.1 (hT.later X0)
  have HM : Hid (∀ W, Ext w W → Calls Tryd.prog 27 #[.agg #[.bool n, .int .i64 d, .int .i64 x]] W fun z w' => z = .returned (.bool (DT.mod ⟨n, d, x⟩)) ∧ Ext W w') := fun W xw => modI ⟨n, d, x⟩ W hr.2.2.2 (hT.later xw)
  have HG : Hid (LT.good m ⟨cf, op, ⟨n, d, x⟩⟩ = ((decide ((cf.length : Int) = m) && cf.all DT.mod) && (opB op && DT.mod ⟨n, d, x⟩))) := rfl
  obtain ⟨R, hR⟩ : ∃ R, LT.good m ⟨cf, op, ⟨n, d, x⟩⟩ = R := ⟨_, rfl⟩
  rw [hR] at HG ⊢
  obtain ⟨qa, hqa⟩ : ∃ q, (decide ((cf.length : Int) = m) && cf.all DT.mod) = q := ⟨_, rfl⟩
  obtain ⟨qm, hqm⟩ : ∃ q, DT.mod ⟨n, d, x⟩ = q := ⟨_, rfl⟩
  rw [hqa] at CA HG
  rw [hqm] at HG HM
  clear hR hqa hqm h hr hT
  obtain ⟨a0, a1, a2, a3, a4⟩ := Vec.five B0
  cases qa
  · obtain rfl : R = false := by rw [HG.out]; rfl
    go_enter Tryd.func17, Tryd.ntmps17
    go_wp2_with fail
    refine CA.mono ?_
    rintro z w1 ⟨rfl, e1⟩
    go_wp2_with fail
    go_ret
    exact ⟨rfl, xt X0 e1⟩
  have HO : Hid (R = ((op == [60, 61] || (op == [62, 61] || op == [61])) && qm)) := by show _ = _; rw [HG.out]; rfl
  clear HG
  cases o1 : op == [60, 61]
  · cases o2 : op == [62, 61]
    · cases o3 : op == [61]
      · obtain rfl : R = false := by rw [HO.out, o1, o2, o3]; rfl
        go_enter Tryd.func17, Tryd.ntmps17
        go_wp2_with fail
        clear a0 a1 a2 a3 a4
        refine CA.mono ?_
        rintro z w1 ⟨rfl, e1⟩
        obtain ⟨a0, a1, a2, a3, a4⟩ := Vec.five (B0.later e1)
        go_wp2_with fail
        go_ret
        exact ⟨rfl, xt X0 e1⟩
      · obtain rfl : R = qm := by rw [HO.out, o1, o2, o3]; rfl
        go_enter Tryd.func17, Tryd.ntmps17
        go_wp2_with fail
        clear a0 a1 a2 a3 a4
        refine CA.mono ?_
        rintro z w1 ⟨rfl, e1⟩
        obtain ⟨a0, a1, a2, a3, a4⟩ := Vec.five (B0.later e1)
        go_wp2_with (go_at_call 27; refine (HM.out _ (xt X0 e1)).mono ?_; rintro e w2 ⟨rfl, e2⟩)
        go_ret
        exact ⟨rfl, xt X0 (xt e1 e2)⟩
    · obtain rfl : R = qm := by rw [HO.out, o1, o2]; rfl
      go_enter Tryd.func17, Tryd.ntmps17
      go_wp2_with fail
      clear a0 a1 a2 a3 a4
      refine CA.mono ?_
      rintro z w1 ⟨rfl, e1⟩
      obtain ⟨a0, a1, a2, a3, a4⟩ := Vec.five (B0.later e1)
      go_wp2_with (go_at_call 27; refine (HM.out _ (xt X0 e1)).mono ?_; rintro e w2 ⟨rfl, e2⟩)
      go_ret
      exact ⟨rfl, xt X0 (xt e1 e2)⟩
  · obtain rfl : R = qm := by rw [HO.out, o1]; rfl
    go_enter Tryd.func17, Tryd.ntmps17
    go_wp2_with fail
    clear a0 a1 a2 a3 a4
    refine CA.mono ?_
    rintro z w1 ⟨rfl, e1⟩
    obtain ⟨a0, a1, a2, a3, a4⟩ := Vec.five (B0.later e1)
    go_wp2_with (go_at_call 27; refine (HM.out _ (xt X0 e1)).mono ?_; rintro e w2 ⟨rfl, e2⟩)
    go_ret
    exact ⟨rfl, xt X0 (xt e1 e2)⟩
set_option maxHeartbeats 2000000 in
theorem badLI (cv : Value) (e : LT) (m : Int) (B : Nat) (w : World) (h : DecsIn w cv e.cf) (hr : e.room) (hB : w.cell? ⟨B, 0, none⟩ = some (.int .i64 m)) (hT : Tens w) :
    Calls Tryd.prog 16 #[limV cv e.op e.rt, .pointer (some ⟨B, 0, none⟩)] w fun z w' => z = .returned (.bool (!e.good m)) ∧ Ext w w' := by
  have X0 := x1 w (.cells #[cv, sV e.op, .bool e.rt.ng, .int .i64 e.rt.dg, .int .i64 e.rt.ex] 46)
  have B0 := vec_made w [cv, sV e.op, .bool e.rt.ng, .int .i64 e.rt.dg, .int .i64 e.rt.ex] 46
  change Vec (w.alloc (.cells #[cv, sV e.op, .bool e.rt.ng, .int .i64 e.rt.dg, .int .i64 e.rt.ex] 46)) _ _ at B0
  obtain ⟨wa, ha⟩ : ∃ wa, w.alloc (.cells #[cv, sV e.op, .bool e.rt.ng, .int .i64 e.rt.dg, .int .i64 e.rt.ex] 46) = wa := ⟨_, rfl⟩
  rw [ha] at X0 B0
  have CA := fun W (xw : Ext wa W) => isGoodI cv e m W ((h.later X0).later xw) hr ((hT.later X0).later xw)
  have b0 := cell_later X0 hB
  obtain ⟨R, hR⟩ : ∃ R, e.good m = R := ⟨_, rfl⟩
  simp only [hR] at CA
  rw [hR]
  obtain ⟨cf, op, ⟨n, d, x⟩⟩ := e
  dsimp only at CA B0 ha ⊢
  obtain ⟨a0, a1, a2, a3, a4⟩ := Vec.five B0
  have HC : Hid (∀ W, Ext wa W → Calls Tryd.prog 17 #[.agg #[cv, sV op, .bool n, .int .i64 d, .int .i64 x], .int .i64 m] W fun z w' => z = .returned (.bool R) ∧ Ext W w') := CA
  clear hR h hr hT CA
  go_enter Tryd.func16, Tryd.ntmps16
  go_wp2_with (go_at_call 17; refine (HC.out _ (xr _)).mono ?_; rintro e w1 ⟨rfl, e1⟩)
  go_ret
  exact ⟨rfl, xt X0 e1⟩
/-- What a function says of limits. -/
structure AsksL (w : World) (f : Nat) (lb : Array Value) (l : List LT) (p : LT → Bool) : Prop where
  ent : ∀ args w, (callFunc f args).run Tryd.prog w = .ok (.enter f args) w
  says : ∀ W e cv, e ∈ l → Ext w W → DecsIn W cv e.cf → Calls Tryd.prog f (#[limV cv e.op e.rt] ++ lb) W fun z w' => z = .returned (.bool (p e)) ∧ Ext W w'
set_option maxRecDepth 8000 in
set_option maxHeartbeats 2000000 in
theorem indexLI (f : Nat) (lb : Array Value) (v : Value) (l : List LT) (p : LT → Bool) (w : World) (A : AsksL w f lb l p) (h : LimitsIn w v l) (hl : l.length ≤ 1048576) :
    Calls Tryd.prog 30 #[v, .func (.func f) #[] lb] w fun e w' =>
      ((e = .returned (.int .i64 (-1)) ∧ l.any p = false) ∨ ∃ m : Nat, e = .returned (.int .i64 m) ∧ l.any p = true ∧ m < 1048576) ∧ Ext w w' := by
  have ent := A.ent
  have HA : Hid (AsksL w f lb l p) := A
  obtain ⟨pk, nk, rfl, hc, hrow⟩ := h
  have HV : Hid (0 < l.length → ∃ b o, pk = some ⟨b, o, none⟩ ∧ RowL w b o l) := hrow
  obtain ⟨n, hn⟩ : ∃ n, l.length = n := ⟨_, rfl⟩
  have HN : Hid (l.length = n) := hn
  rw [hn] at hc hl HV ⊢
  clear hrow A hn
  go_enter Tryd.func30, Tryd.ntmps30
  go_wp2_with fail
  go_loopw [8] (fun i wr => ∃ k : Nat, k ≤ n ∧ i = .int .i64 k ∧ Hid (Ext w wr ∧ ∀ j x, j < k → l[j]? = some x → p x = false)) (fun i _ => n - (intOf i).toNat)
  case atStart => exact ⟨0, by omega, rfl, xr _, fun j x hj => absurd hj (by omega)⟩
  case round =>
    obtain ⟨k, hk, rfl, HO⟩ := hrel
    by_cases hlt : k < n
    · have i2 : (k : Int) < (n : Int) := by omega
      obtain ⟨e, hx⟩ : ∃ x, l[k]? = some x := ⟨_, List.getElem?_eq_getElem (by rw [HN.out]; exact hlt)⟩
      obtain ⟨b, o, rfl, RW⟩ := HV.out (by omega)
      obtain ⟨cv, hdc, a0, a1, a2, a3, a4⟩ := (RW.later HO.out.1) k e hx
      have CA := HA.out.says wr e cv (List.mem_of_getElem? hx) HO.out.1 hdc
      have HX : Hid (l[k]? = some e) := hx
      obtain ⟨q, hq⟩ : ∃ q, p e = q := ⟨_, rfl⟩
      have HQ : Hid (p e = q) := hq
      rw [hq] at CA
      obtain ⟨cf, op, ⟨nn, d, x⟩⟩ := e
      simp only at a0 a1 a2 a3 a4 CA
      clear hx hq RW hdc
      cases q
      · go_wp2_with (go_at_fn f; refine CA.mono ?_; rintro e w1 ⟨rfl, e1⟩)
        have HM : Hid (Ext w w1 ∧ ∀ j x, j < k + 1 → l[j]? = some x → p x = false) := ⟨xt HO.out.1 e1, fun j y hj hy => by
          by_cases e : j = k
          · subst e
            rw [HX.out] at hy
            cases hy
            exact HQ.out
          · exact HO.out.2 j y (by omega) hy⟩
        go_roundw
        case rel => exact ⟨k + 1, by omega, by go_num, HM⟩
        case measure => simp [intOf]; omega
      · go_wp2_with (go_at_fn f; refine CA.mono ?_; rintro e w1 ⟨rfl, e1⟩)
        go_ret
        exact ⟨Or.inr ⟨k, rfl, List.any_eq_true.2 ⟨_, List.mem_of_getElem? HX.out, HQ.out⟩, by omega⟩, xt HO.out.1 e1⟩
    · obtain rfl : k = n := by omega
      have i2 : ¬ (k : Int) < (k : Int) := by omega
      go_wp2_with fail
      go_ret
      refine ⟨Or.inl ⟨rfl, ?_⟩, HO.out.1⟩
      intro x hx
      obtain ⟨j, hj, rfl⟩ := List.getElem_of_mem hx
      exact HO.out.2 j _ (by rw [← HN.out]; exact hj) (List.getElem?_eq_getElem hj)
set_option maxHeartbeats 2000000 in
theorem containsLI (f : Nat) (lb : Array Value) (v : Value) (l : List LT) (p : LT → Bool) (w : World) (A : AsksL w f lb l p) (h : LimitsIn w v l) (hl : l.length ≤ 1048576) :
    Calls Tryd.prog 19 #[v, .func (.func f) #[] lb] w fun e w' => e = .returned (.bool (l.any p)) ∧ Ext w w' := by
  have C0 := indexLI f lb v l p w A h hl
  obtain ⟨pk, nk, rfl, _, _⟩ := h
  obtain ⟨R, hR⟩ : ∃ R, l.any p = R := ⟨_, rfl⟩
  rw [hR] at C0 ⊢
  obtain ⟨n, hn⟩ : ∃ n, l.length = n := ⟨_, rfl⟩
  rw [hn] at C0 hl ⊢
  clear A hR hn
  go_enter Tryd.func19, Tryd.ntmps19
  go_wp2_with fail
  refine C0.mono ?_
  rintro e w1 ⟨⟨rfl, rfl⟩ | ⟨m, rfl, rfl, hm⟩, e1⟩
  · go_wp2_with fail
    go_ret
    exact ⟨rfl, e1⟩
  · have m0 : (0 : Int) ≤ (m : Int) := by omega
    have m1 : decide ((m : Int) ≥ 0) = true := decide_eq_true m0
    go_wp2_with fail
    go_ret
    exact ⟨rfl, e1⟩
theorem any_not_good (m : Int) (l : List LT) : (!(l.any fun e => !e.good m)) = l.all (LT.good m) := by
  induction l with
  | nil => rfl
  | cons a l ih => simp only [List.any_cons, List.all_cons, Bool.not_or, Bool.not_not, ih]

end Go.Proofs.YtnpcckhalbbbhaaDoor
