/-
  Several texts in one: Rf, Ri, Rg, X9e, Xc, V7d, V7e, W9a, W9b, X9f, Vq, V7f, W9t.
-/
import Derived.Test.YtbomplppgobkdaaGreatDoorMg0
import Derived.Orders
import Derived.Test.YtbomplppgobkdaaGreatDoorMg25
import Derived.Test.YtbomplppgobkdaaGreatDoorMg24
import Derived.OwnWalk
import Derived.Laws.OwnMore
import Derived.BigQuiet
import Derived.Deep.QuietTactic
import Derived.Test.YtbomplppgobkdaaGreatDoorMg11
import Derived.Deep.DeepCutAuto
import Derived.Deep.AppendLies
import Derived.Deep.RegionHeld3
import Derived.Laws.IdiomStrings
namespace Go.Proofs.YtbomplppgobkdaaGreatDoor
open Go.RowKit

section
variable {P : Program} {ops : Array Oper} {Q : Exit → Act → World → Prop} {md : Region.Mode}

/-- Each operation waits for all that leave a value where it looks, waits for earlier ones alone, and is not guarded. -/
def rfOk (md : Region.Mode) (ops : Array Oper) : Bool :=
  (List.range ops.size).all fun i =>
    match ops[i]? with
    | none => true
    | some o => o.guard.isNone && (o.after.all fun e => !Region.binds md e || decide (e.on < i)) &&
        o.op.operands.all fun x => match x with
          | .tmp d => (List.range ops.size).all fun j => !((ops[j]?).bind (·.dst) == some d) || o.after.any fun e => Region.binds md e && e.on == j
          | _ => true

theorem rfOk_spec (h : rfOk md ops = true) {i : Nat} {o : Oper} (hi : ops[i]? = some o) :
    o.guard = none ∧ (∀ e ∈ o.after, Region.binds md e = true → e.on < i) ∧
    ∀ d, .tmp d ∈ o.op.operands → ∀ j oj, ops[j]? = some oj → oj.dst = some d → ∃ e ∈ o.after, Region.binds md e = true ∧ e.on = j := by
  have hlt : i < ops.size := by
    rcases Nat.lt_or_ge i ops.size with h' | h'
    · exact h'
    · rw [Array.getElem?_eq_none h'] at hi; cases hi
  have h1 := (List.all_eq_true.1 h) i (List.mem_range.2 hlt)
  rw [hi] at h1
  simp only [Bool.and_eq_true] at h1
  obtain ⟨⟨hg, ha⟩, hx⟩ := h1
  refine ⟨by cases hgo : o.guard <;> simp_all, fun e he hb => ?_, fun d hd j oj hj hdj => ?_⟩
  · have := (Array.all_eq_true_iff_forall_mem.1 ha) e he
    simpa [hb] using this
  · have h2 := (Array.all_eq_true_iff_forall_mem.1 hx) _ hd
    have hjlt : j < ops.size := by
      rcases Nat.lt_or_ge j ops.size with h' | h'
      · exact h'
      · rw [Array.getElem?_eq_none h'] at hj; cases hj
    have h3 := (List.all_eq_true.1 h2) j (List.mem_range.2 hjlt)
    rw [hj] at h3
    simp only [Option.bind_some, hdj, beq_self_eq_true, Bool.not_true, Bool.false_or] at h3
    obtain ⟨e, he, hee⟩ : ∃ e ∈ o.after, (Region.binds md e && e.on == j) = true := by
      rw [Array.any_eq_true'] at h3
      exact h3
    simp only [Bool.and_eq_true, beq_iff_eq] at hee
    exact ⟨e, he, hee.1, hee.2⟩

/-- How a frame on the way stands to the frame at the end. -/
structure RS (ops : Array Oper) (md : Region.Mode) (A : Act) (listed : Array Bool) (a : Act) : Prop where
  size : listed.size = ops.size
  defers : a.defers = A.defers
  tsize : a.tmps.size = A.tmps.size
  vals : ∀ d, (∀ i o, ops[i]? = some o → o.dst = some d → listed.getD i false = true) → a.tmps[d]? = A.tmps[d]?
  closed : ∀ i o, ops[i]? = some o → listed.getD i false = true → ∀ e ∈ o.after, Region.binds md e = true → listed.getD e.on false = true

theorem all_listed (hc : rfOk md ops = true) {listed : Array Bool} (hsz : listed.size = ops.size) (hr : Region.ready md ops listed = []) : ∀ i, i < ops.size → listed.getD i false = true := by
  intro i
  induction i using Nat.strongRecOn with
  | ind i ih =>
    intro hi
    cases hl : listed.getD i false with
    | true => rfl
    | false =>
      exfalso
      have hlt : i < listed.size := by omega
      have h1 : listed.getD i true = false := by
        rw [Array.getD_eq_getD_getElem?, Array.getElem?_eq_getElem hlt] at hl ⊢
        exact hl
      have ho : ops[i]? = some ops[i] := Array.getElem?_eq_getElem hi
      obtain ⟨_, hlow, _⟩ := rfOk_spec hc ho
      have : i ∈ Region.ready md ops listed := mem_ready.2 ⟨h1, _, ho, fun e he hb => ih e.on (hlow e he hb) (Nat.lt_trans (hlow e he hb) hi)⟩
      rw [hr] at this
      cases this

/-- How many have not come up yet. -/
theorem count_set {listed : Array Bool} {i : Nat} (h : listed.getD i true = false) : (listed.setIfInBounds i true).toList.count false + 1 = listed.toList.count false := by
  have hlt : i < listed.size := by
    rcases Nat.lt_or_ge i listed.size with h' | h'
    · exact h'
    · rw [Array.getD_eq_getD_getElem?, Array.getElem?_eq_none h'] at h; cases h
  have hv : listed[i] = false := by
    rw [Array.getD_eq_getD_getElem?, Array.getElem?_eq_getElem hlt] at h; exact h
  rw [Array.toList_setIfInBounds, List.count_set (by simpa using hlt)]
  have hv' : listed.toList[i]'(by simpa using hlt) = false := by simpa using hv
  have hpos : 0 < listed.toList.count false := List.count_pos_iff.2 (by rw [← hv']; exact List.getElem_mem _)
  simp only [hv', beq_self_eq_true, if_true]
  rw [if_neg (by decide)]
  omega

section
variable {ρ : Operand → Value} {o : Oper} {w w' : World} {v : Value}
end

end

section
variable {P : Program} {ops : Array Oper} {Q : Exit → Act → World → Prop} {md : Region.Mode}

theorem wpAny_inv (J : Array Bool → Act → World → Prop)
    (step : ∀ listed a w i o, J listed a w → i ∈ Region.ready md ops listed → ops[i]? = some o → wpOp P ops Q i (fun a' w' => J (listed.setIfInBounds i true) a' w') a w)
    (fin : ∀ listed a w, Region.ready md ops listed = [] → J listed a w → Q .normal a w) :
    ∀ (fuel : Nat) (listed : Array Bool) (a : Act) (w : World), listed.toList.count false ≤ fuel → J listed a w → wpAny P md ops Q fuel listed a w := by
  intro fuel
  induction fuel with
  | zero =>
    intro listed a w hf hJ
    have hr : Region.ready md ops listed = [] := by
      cases hr : Region.ready md ops listed with
      | nil => rfl
      | cons x xs =>
        have := count_set (mem_ready.1 (hr ▸ List.mem_cons_self : x ∈ Region.ready md ops listed)).1
        omega
    exact ⟨hr, fin listed a w hr hJ⟩
  | succ fuel ih =>
    intro listed a w hf hJ
    refine ⟨fun hr => fin listed a w hr hJ, fun i hi => ?_⟩
    obtain ⟨hun, o, ho, _⟩ := mem_ready.1 hi
    refine wpOp_mono (fun a' w' hh => ih _ a' w' ?_ hh) (step listed a w i o hJ hi ho)
    have := count_set hun
    omega

/-- THE REGION. -/
theorem wp_region_inv {id : Nat} {a : Act} {w : World} (J : Array Bool → Act → World → Prop) (hm : P.follows .mixedOrders = true)
    (hJ : J (Array.replicate ops.size false) a { w with drawn := w.drawn + 1 })
    (step : ∀ listed a w i o, J listed a w → i ∈ Region.ready .any ops listed → ops[i]? = some o → wpOp P ops Q i (fun a' w' => J (listed.setIfInBounds i true) a' w') a w)
    (fin : ∀ listed a w, Region.ready .any ops listed = [] → J listed a w → Q .normal a w) : (Code.region id ops true).wp P Q a w :=
  wp_region_any hm (wpAny_inv J step fin ops.size _ a _ (by simp) hJ)
end

section
variable {P : Program} {ops : Array Oper} {Q : Exit → Act → World → Prop}

theorem wpOp_of_ops {i : Nat} {o : Oper} {K : Act → World → Prop} {a : Act} {w : World} (ho : ops[i]? = some o) (hg : o.guard = none)
    (h : wpList P #[o] (Exit.then K Q) [o] a w) : wpOp P ops Q i K a w := by
  unfold wpOp
  simp only [ho, Region.wanted, hg, if_true]
  simp only [wpList, Region.wanted, hg, if_true] at h
  rcases h with h | ⟨h1, h2⟩
  · left
    unfold Oper.wp at *
    generalize (execOp a.eval o).run P w = r at *
    cases r with
    | ok n w' =>
      cases n
      case enter f args =>
        refine Calls.mono h fun e w'' he => ?_
        cases e <;> exact he
      all_goals exact h
    | halt x w' => cases x <;> exact h
  · exact .inr ⟨h1, h2⟩

/-- THE REGION. -/
theorem wp_region_letters {X : Type} {id : Nat} {a : Act} {w : World} (F : X → Act) (I : (Nat → Bool) → X → World → Prop) (hm : P.follows .mixedOrders = true) (hc : rfOk .any ops = true)
    (x0 : X) (h0 : a = F x0) (hI : I (fun _ => false) x0 { w with drawn := w.drawn + 1 })
    (step : ∀ L x w i o (K : Act → World → Prop), (∀ x' w', I (fun j => if j = i then true else L j) x' w' → K (F x') w') → ops[i]? = some o → L i = false → (∀ e ∈ o.after, Region.binds .any e = true → L e.on = true) → I L x w →
      wpList P #[o] (Exit.then K Q) [o] (F x) w)
    (fin : ∀ L x w, (∀ j, j < ops.size → L j = true) → I L x w → Q .normal (F x) w) : (Code.region id ops true).wp P Q a w := by
  refine wp_region_inv (fun listed a w => listed.size = ops.size ∧ ∃ x, a = F x ∧ I (fun j => listed.getD j false) x w) hm ?_ ?_ ?_
  · refine ⟨by simp, x0, h0, ?_⟩
    have e : (fun j => (Array.replicate ops.size false).getD j false) = fun _ => false := by
      funext j
      rw [Array.getD_eq_getD_getElem?]
      rcases Nat.lt_or_ge j ops.size with h' | h'
      · rw [Array.getElem?_eq_getElem (by simpa using h')]; simp
      · rw [Array.getElem?_eq_none (by simpa using h')]; simp
    rw [e]
    exact hI
  · rintro listed a w i o ⟨hs, x, rfl, hx⟩ hi ho
    obtain ⟨hun, o', ho', hall⟩ := mem_ready.1 hi
    have : o' = o := by rw [ho] at ho'; exact (Option.some.inj ho').symm
    subst this
    obtain ⟨hg, _, _⟩ := rfOk_spec hc ho
    have hlt : i < listed.size := by
      rcases Nat.lt_or_ge i listed.size with h' | h'
      · exact h'
      · rw [Array.getD_eq_getD_getElem?, Array.getElem?_eq_none h'] at hun; cases hun
    have hun' : listed.getD i false = false := by
      rw [Array.getD_eq_getD_getElem?, Array.getElem?_eq_getElem hlt] at hun ⊢
      exact hun
    refine wpOp_mono ?_ (wpOp_of_ops ho hg (step _ x w i o' (fun a' w' => ∃ x', a' = F x' ∧ I (fun j => if j = i then true else listed.getD j false) x' w') (fun x' w' h => ⟨x', rfl, h⟩) ho hun' hall hx))
    rintro a' w' ⟨x', rfl, hx'⟩
    refine ⟨by simp [hs], x', rfl, ?_⟩
    have e : (fun j => (listed.setIfInBounds i true).getD j false) = fun j => if j = i then true else listed.getD j false := by
      funext j
      by_cases hj : j = i
      · subst hj
        rw [if_pos rfl, Array.getD_eq_getD_getElem?, Array.getElem?_setIfInBounds_self_of_lt hlt]
        rfl
      · rw [if_neg hj, getD_set_ne false (fun e => hj e.symm)]
    rw [e]
    exact hx'
  · rintro listed a w hr ⟨hs, x, rfl, hx⟩
    exact fin _ x w (all_listed hc hs hr) hx
end

theorem Only.of_grown {w w' : World} {g : Nat} (h : w.grownBy w' (some g)) : Only g w w' := ⟨h.os, h.tape, h.output, h.size, fun k hk hl => h.block k hl (fun e => hk (by cases e; rfl))⟩
theorem ext_grown {w w' : World} (h : w.grownBy w' none) : Ext w w' := ⟨h.os, h.tape, h.output, h.size, fun k hk => h.block k hk (fun e => by cases e)⟩
theorem Only.to_grown {w w' : World} {g : Nat} (h : Only g w w') : w.grownBy w' (some g) := ⟨h.os, h.tape, h.output, h.size, fun k hk hne => h.block k (fun e => hne (by rw [e])) hk⟩
theorem Only.box3 {b k : Nat} {w w' : World} {v0 v1 v2 : Value} (h : Only b w w') (hk : k ≠ b) (B : Box3 w k v0 v1 v2) : Box3 w' k v0 v1 v2 := by
  have hlt := World.block_lt_of_cell? _ _ B.1.1
  have hf : ∀ j, w'.frozen? ⟨k, j, none⟩ = w.frozen? ⟨k, j, none⟩ := fun j => by
    unfold World.frozen?
    rw [h.block k hk hlt]
  exact ⟨⟨h.cell hk B.1.1, h.cell hk B.1.2.1, h.cell hk B.1.2.2⟩, (hf 0).trans B.2.1, (hf 1).trans B.2.2.1, (hf 2).trans B.2.2.2⟩
theorem Cur.grown {w w' : World} {b base K : Nat} {row : Option Nat} (h : Cur w b base K) (hg : w.grownBy w' row) (hr : ∀ r, row = some r → r ≠ b ∧ base ≤ r) : Cur w' b base K := by
  cases row with
  | none => exact h.ext (ext_grown hg)
  | some g =>
    obtain ⟨hgb, hbg⟩ := hr g rfl
    have o := Only.of_grown hg
    obtain ⟨v, k, a, s, B, hc, r⟩ := h
    exact ⟨v, k, a, s, o.box3 (fun e => hgb e.symm) B, hc.only o hbg, r⟩
theorem Only.grown {w w1 w' : World} {b : Nat} {row : Option Nat} (h : Only b w w1) (hg : w1.grownBy w' row) (hr : ∀ r, row = some r → w.heap.size ≤ r) : Only b w w' :=
  ⟨hg.os.trans h.os, hg.tape.trans h.tape, hg.output.trans h.output, Nat.le_trans h.size hg.size, fun k hk hl => (hg.block k (Nat.lt_of_lt_of_le hl h.size) (fun e => by have := hr k e.symm; omega)).trans (h.block k hk hl)⟩

abbrev grV (r c : Int) (v : Value) : Value := .agg #[.int .i64 r, .int .i64 c, v]
def gsidesB (r c n : Int) : Bool := decide (1 ≤ r ∧ 1 ≤ c ∧ r * c ≤ 2000 ∧ n = r * c)
def VT.good (e : VT) : Bool := goodV e.k e.n e.d e.x e.t
def goodG (r c : Int) (l : List VT) : Bool := gsidesB r c l.length && l.all VT.good
theorem all_step {l : List VT} {k : Nat} {e : VT} (he : l[k]? = some e) : (l.take (k + 1)).all VT.good = ((l.take k).all VT.good && e.good) := by
  rw [List.take_add_one, he]
  simp
theorem all_bad {l : List VT} {k : Nat} {e : VT} (he : l[k]? = some e) (hb : e.good = false) : l.all VT.good = false := by
  cases h : l.all VT.good with
  | false => rfl
  | true => have := (List.all_eq_true.1 h) e (List.mem_of_getElem? he); rw [hb] at this; cases this

set_option maxRecDepth 8000 in
set_option maxHeartbeats 2000000 in
theorem goodGS (r c : Int) (v : Value) (l : List VT) (w : World) (h : ValsIn w v l) (hl : l.length ≤ 2000000) (ht : ∀ e ∈ l, e.t.length ≤ 2000000) :
    Calls Tryz.prog 18 #[grV r c v] w fun e w' => e = .returned (.bool (goodG r c l)) ∧ Ext w w' := by
  obtain ⟨p, cap, rfl, hcap, hrow⟩ := h
  obtain ⟨n, hn⟩ : ∃ n, l.length = n := ⟨_, rfl⟩
  have HN : Hid (l.length = n) := hn
  have HG : Hid (goodG r c l = (gsidesB r c n && l.all VT.good)) := by show _ = _; unfold goodG; rw [hn]
  obtain ⟨R, hR⟩ : ∃ R, goodG r c l = R := ⟨_, rfl⟩
  rw [hR] at HG ⊢
  rw [hn] at hcap hl hrow ⊢
  have HRow : Hid (0 < n → ∃ b o, p = some ⟨b, o, none⟩ ∧ RowV w b o l) := hrow
  have HT : Hid (∀ e ∈ l, e.t.length ≤ 2000000) := ht
  have X0 := x1 w (.cells #[.int .i64 r, .int .i64 c, .slice p n cap] 25)
  clear hn hrow hR ht
  by_cases h1 : r < 1
  · have HF : Hid (false = R) := by show _ = _; rw [HG.out, show gsidesB r c n = false by simp [gsidesB]; omega]; rfl
    go_enter Tryz.func18, Tryz.ntmps18
    go_wp2_with fail
    go_ret
    exact ⟨ret_bool HF.out, X0⟩
  by_cases h2 : c < 1
  · have HF : Hid (false = R) := by show _ = _; rw [HG.out, show gsidesB r c n = false by simp [gsidesB]; omega]; rfl
    go_enter Tryz.func18, Tryz.ntmps18
    go_wp2_with fail
    go_ret
    exact ⟨ret_bool HF.out, X0⟩
  have grow1 : r ≤ r * c := by have := Int.mul_le_mul_of_nonneg_left (show (1 : Int) ≤ c by omega) (show 0 ≤ r by omega); omega
  have grow2 : c ≤ r * c := by have := Int.mul_le_mul_of_nonneg_right (show (1 : Int) ≤ r by omega) (show 0 ≤ c by omega); omega
  by_cases h3 : 2000 < r
  · have HF : Hid (false = R) := by show _ = _; rw [HG.out, show gsidesB r c n = false by simp [gsidesB]; omega]; rfl
    clear grow1 grow2
    go_enter Tryz.func18, Tryz.ntmps18
    go_wp2_with fail
    go_ret
    exact ⟨ret_bool HF.out, X0⟩
  by_cases h4 : 2000 < c
  · have HF : Hid (false = R) := by show _ = _; rw [HG.out, show gsidesB r c n = false by simp [gsidesB]; omega]; rfl
    clear grow1 grow2
    go_enter Tryz.func18, Tryz.ntmps18
    go_wp2_with fail
    go_ret
    exact ⟨ret_bool HF.out, X0⟩
  obtain ⟨m, hm⟩ : ∃ m, r * c = m := ⟨_, rfl⟩
  have m0 : m ≤ 4000000 := by rw [← hm]; have := Int.mul_le_mul (show r ≤ 2000 by omega) (show c ≤ 2000 by omega) (by omega) (by omega); omega
  have m1 : 1 ≤ m := by omega
  have hwr : IntKind.i64.wrap (r * c) = m := by rw [hm, IntKind.wrap_i64]; omega
  have HS : Hid (gsidesB r c n = decide (m ≤ 2000 ∧ (n : Int) = m)) := by
    show _ = _
    unfold gsidesB
    rw [hm]
    exact decide_eq_decide.2 (by omega)
  clear grow1 grow2
  by_cases h5 : 2000 < m
  · have HF : Hid (false = R) := by show _ = _; rw [HG.out, HS.out, decide_eq_false (by omega)]; rfl
    clear hm
    go_enter Tryz.func18, Tryz.ntmps18
    go_wp2_with fail
    go_ret
    exact ⟨ret_bool HF.out, X0⟩
  by_cases h6 : (n : Int) ≠ m
  · have HF : Hid (false = R) := by show _ = _; rw [HG.out, HS.out, decide_eq_false (by omega)]; rfl
    clear hm
    go_enter Tryz.func18, Tryz.ntmps18
    go_wp2_with fail
    go_ret
    exact ⟨ret_bool HF.out, X0⟩
  have h6' : (n : Int) = m := by omega
  have HF : Hid (l.all VT.good = R) := by show _ = _; rw [HG.out, HS.out, decide_eq_true (by omega)]; rfl
  clear hm h6 HS HG
  subst h6'
  go_enter Tryz.func18, Tryz.ntmps18
  go_wp2_with fail
  clear hwr
  go_loopw [45] (fun i wr => ∃ k : Nat, k ≤ n ∧ i = .int .i64 k ∧ Hid ((l.take k).all VT.good = true) ∧ Ext w wr) (fun i _ => n - (intOf i).toNat)
  case atStart => exact ⟨0, by omega, rfl, by show _ = _; simp, X0⟩
  case round =>
    obtain ⟨k, hk, rfl, HA, X⟩ := hrel
    by_cases hlt : k < n
    · obtain ⟨e, he⟩ : ∃ e, l[k]? = some e := ⟨_, List.getElem?_eq_getElem (by rw [HN.out]; exact hlt)⟩
      obtain ⟨b, o, rfl, hR⟩ := HRow.out (by omega)
      obtain ⟨a0, a1, a2, a3, a4⟩ := (hR.later X).five he
      have het := HT.out e (List.mem_of_getElem? he)
      have HY : Hid ((l.take (k + 1)).all VT.good = e.good) := by show _ = _; rw [all_step he, HA.out]; rfl
      have HZ : Hid (e.good = false → l.all VT.good = false) := fun hb => all_bad he hb
      have Y := x1 wr (.cells #[.int .i64 e.k, .bool e.n, .int .i64 e.d, .int .i64 e.x, sV e.t] 50)
      have C := fun W => goodVS e.k e.n e.d e.x e.t W het
      change ∀ W, Calls _ _ _ _ fun r w' => r = .returned (.bool e.good) ∧ _ at C
      obtain ⟨q, hq⟩ : ∃ q, e.good = q := ⟨_, rfl⟩
      rw [hq] at C HY HZ
      clear hq
      obtain ⟨ek, en, ed, ex, et⟩ := e
      have i2 : (k : Int) < (n : Int) := by omega
      clear hR he HA
      dsimp only at a0 a1 a2 a3 a4 C Y
      go_wp2_with fail
      clear a0 a1 a2 a3 a4
      refine (C _).mono ?_
      rintro rr w' ⟨rfl, E⟩
      cases q
      · have HB : Hid (false = R) := by show _ = _; rw [← HF.out]; exact (HZ.out rfl).symm
        go_wp2_with fail
        go_ret
        exact ⟨ret_bool HB.out, xt (xt X Y) E⟩
      · go_wp2_with fail
        go_roundw
        case rel => exact ⟨k + 1, by omega, by go_num, HY, xt (xt X Y) E⟩
        case measure => simp [intOf]; omega
    · obtain rfl : k = n := by omega
      have HB : Hid (true = R) := by
        show _ = _
        rw [← HF.out]
        have := HA.out
        rw [List.take_of_length_le (by rw [HN.out]; exact Nat.le_refl _)] at this
        exact this.symm
      clear HA
      go_wp2_with fail
      go_ret
      exact ⟨ret_bool HB.out, X⟩
/-- What is asked of a value's room. -/
def VT.room (e : VT) : Prop := e.t.length ≤ 2000000 ∧ -9223372036854775808 ≤ e.d ∧ e.d ≤ 9223372036854775807

theorem xdNv {a b : World} (h : Ext a b) (n : Nat) : Ext a (b.drewN n) := ⟨h.os, h.tape, h.output, h.size, h.block⟩
set_option maxRecDepth 8000 in
set_option maxHeartbeats 2000000 in
theorem goodGI (r c : Int) (v : Value) (l : List VT) (w : World) (h : ValsIn w v l) (hl : l.length ≤ 2000000) (ht : ∀ e ∈ l, e.t.length ≤ 2000000) (hd : ∀ e ∈ l, -9223372036854775808 ≤ e.d ∧ e.d ≤ 9223372036854775807) (hT : Tens w) (hE : ErrTab w) :
    Calls Tryz.prog 23 #[grV r c v] w fun e w' => e = .returned (.bool (goodG r c l)) ∧ Ext w w' := by
  obtain ⟨p, cap, rfl, hcap, hrow⟩ := h
  obtain ⟨n, hn⟩ : ∃ n, l.length = n := ⟨_, rfl⟩
  have HN : Hid (l.length = n) := hn
  have HG : Hid (goodG r c l = (gsidesB r c n && l.all VT.good)) := by show _ = _; unfold goodG; rw [hn]
  obtain ⟨R, hR⟩ : ∃ R, goodG r c l = R := ⟨_, rfl⟩
  rw [hR] at HG ⊢
  rw [hn] at hcap hl hrow ⊢
  have HRow : Hid (0 < n → ∃ b o, p = some ⟨b, o, none⟩ ∧ RowV w b o l) := hrow
  have HT : Hid (∀ e ∈ l, e.t.length ≤ 2000000) := ht
  have X0 := x1 w (.cells #[.int .i64 r, .int .i64 c, .slice p n cap] 25)
  have HD : Hid (∀ e ∈ l, -9223372036854775808 ≤ e.d ∧ e.d ≤ 9223372036854775807) := hd
  have HTT : Hid (Tens w) := hT
  have HEE : Hid (ErrTab w) := hE
  clear hn hrow hR ht hd hT hE
  by_cases h1 : r < 1
  · have HF : Hid (false = R) := by show _ = _; rw [HG.out, show gsidesB r c n = false by simp [gsidesB]; omega]; rfl
    have g1 : decide (r < 1) = true := by simpa using h1
    go_enter Tryz.func23, Tryz.ntmps23
    go_wp2_with fail
    go_quiet (fail)
    go_wp2_with fail
    go_ret
    exact ⟨ret_bool HF.out, xdNv X0 _⟩
  have g1 : decide (r < 1) = false := by simpa using h1
  by_cases h2 : c < 1
  · have HF : Hid (false = R) := by show _ = _; rw [HG.out, show gsidesB r c n = false by simp [gsidesB]; omega]; rfl
    have g2 : decide (c < 1) = true := by simpa using h2
    go_enter Tryz.func23, Tryz.ntmps23
    go_wp2_with fail
    go_quiet (fail)
    go_wp2_with fail
    go_ret
    exact ⟨ret_bool HF.out, xdNv X0 _⟩
  have g2 : decide (c < 1) = false := by simpa using h2
  have hdiv : r ≤ 2000 / c ↔ r * c ≤ 2000 := Int.le_ediv_iff_mul_le (by omega)
  have htd : Int.tdiv 2000 c = 2000 / c := Int.tdiv_eq_ediv_of_nonneg (by omega)
  obtain ⟨dv, hdv⟩ : ∃ dv, 2000 / c = dv := ⟨_, rfl⟩
  have dv0 : 0 ≤ dv := by rw [← hdv]; exact Int.ediv_nonneg (by omega) (by omega)
  have dv1 : dv ≤ 2000 := by rw [← hdv]; exact Int.ediv_le_self c (by omega)
  rw [hdv] at hdiv htd
  clear hdv
  by_cases h5 : dv < r
  · have HF : Hid (false = R) := by
      show _ = _
      rw [HG.out, show gsidesB r c n = false by simp only [gsidesB, decide_eq_false_iff_not]; omega]; rfl
    have g5 : decide (dv < r) = true := by simpa using h5
    clear hdiv
    go_enter Tryz.func23, Tryz.ntmps23
    go_wp2_with fail
    go_quiet (fail)
    go_wp2_with fail
    go_ret
    exact ⟨ret_bool HF.out, xdNv X0 _⟩
  have g5 : decide (dv < r) = false := by simpa using h5
  obtain ⟨m, hm⟩ : ∃ m, r * c = m := ⟨_, rfl⟩
  rw [hm] at hdiv
  have m2 : m ≤ 2000 := by omega
  have m1 : 1 ≤ m := by rw [← hm]; have := Int.mul_le_mul_of_nonneg_left (show (1 : Int) ≤ c by omega) (show 0 ≤ r by omega); omega
  have hwr : IntKind.i64.wrap (r * c) = m := by rw [hm, IntKind.wrap_i64]; omega
  have HS : Hid (gsidesB r c n = decide (m ≤ 2000 ∧ (n : Int) = m)) := by
    show _ = _
    unfold gsidesB
    rw [hm]
    exact decide_eq_decide.2 (by omega)
  clear hdiv
  by_cases h6 : (n : Int) ≠ m
  · have HF : Hid (false = R) := by show _ = _; rw [HG.out, HS.out, decide_eq_false (by omega)]; rfl
    clear hm
    have g6 : ((n : Int) != m) = true := by simpa using h6
    go_enter Tryz.func23, Tryz.ntmps23
    go_wp2_with fail
    go_quiet (fail)
    go_wp2_with fail
    go_ret
    exact ⟨ret_bool HF.out, xdNv X0 _⟩
  have h6' : (n : Int) = m := by omega
  have HF : Hid (l.all VT.good = R) := by show _ = _; rw [HG.out, HS.out, decide_eq_true (by omega)]; rfl
  clear hm h6 HS HG
  subst h6'
  go_enter Tryz.func23, Tryz.ntmps23
  go_wp2_with fail
  go_quiet (fail)
  go_wp2_with fail
  clear hwr htd
  go_loopw [35] (fun i wr => ∃ k : Nat, k ≤ n ∧ i = .int .i64 k ∧ Hid ((l.take k).all VT.good = true) ∧ Ext w wr) (fun i _ => n - (intOf i).toNat)
  case atStart => exact ⟨0, by omega, rfl, by show _ = _; simp, xdNv X0 _⟩
  case round =>
    obtain ⟨k, hk, rfl, HA, X⟩ := hrel
    by_cases hlt : k < n
    · obtain ⟨e, he⟩ : ∃ e, l[k]? = some e := ⟨_, List.getElem?_eq_getElem (by rw [HN.out]; exact hlt)⟩
      obtain ⟨b, o, rfl, hR⟩ := HRow.out (by omega)
      obtain ⟨a0, a1, a2, a3, a4⟩ := (hR.later X).five he
      have het := HT.out e (List.mem_of_getElem? he)
      have HY : Hid ((l.take (k + 1)).all VT.good = e.good) := by show _ = _; rw [all_step he, HA.out]; rfl
      have HZ : Hid (e.good = false → l.all VT.good = false) := fun hb => all_bad he hb
      have Y := x1 wr (.cells #[.int .i64 e.k, .bool e.n, .int .i64 e.d, .int .i64 e.x, sV e.t] 50)
      have hed := HD.out e (List.mem_of_getElem? he)
      have C := goodVI e.k e.n e.d e.x e.t _ het hed.1 hed.2 (HTT.out.later (xt X Y)) (HEE.out.later (xt X Y))
      change Calls _ _ _ _ fun r w' => r = .returned (.bool e.good) ∧ _ at C
      clear hed
      obtain ⟨q, hq⟩ : ∃ q, e.good = q := ⟨_, rfl⟩
      rw [hq] at C HY HZ
      clear hq
      obtain ⟨ek, en, ed, ex, et⟩ := e
      have i2 : (k : Int) < (n : Int) := by omega
      clear hR he HA
      dsimp only at a0 a1 a2 a3 a4 C Y
      go_wp2_with fail
      clear a0 a1 a2 a3 a4
      refine C.mono ?_
      rintro rr w' ⟨rfl, E⟩
      cases q
      · have HB : Hid (false = R) := by show _ = _; rw [← HF.out]; exact (HZ.out rfl).symm
        go_wp2_with fail
        go_ret
        exact ⟨ret_bool HB.out, xt (xt X Y) E⟩
      · go_wp2_with fail
        go_roundw
        case rel => exact ⟨k + 1, by omega, by go_num, HY, xt (xt X Y) E⟩
        case measure => simp [intOf]; omega
    · obtain rfl : k = n := by omega
      have HB : Hid (true = R) := by
        show _ = _
        rw [← HF.out]
        have := HA.out
        rw [List.take_of_length_le (by rw [HN.out]; exact Nat.le_refl _)] at this
        exact this.symm
      clear HA
      go_wp2_with fail
      go_ret
      exact ⟨ret_bool HB.out, X⟩

def flatV : List VT → List Value
  | [] => []
  | x :: l => x.cells ++ flatV l
theorem flatV_append (l m : List VT) : flatV (l ++ m) = flatV l ++ flatV m := by
  induction l with
  | nil => rfl
  | cons x l ih => simp [flatV, ih]
theorem flatV_length (l : List VT) : (flatV l).length = l.length * 5 := by
  induction l with
  | nil => rfl
  | cons x l ih => simp [flatV, VT.cells, valL, ih]; omega
theorem flatV_at {l : List VT} {i : Nat} {x : VT} (h : l[i]? = some x) (j : Nat) (hj : j < 5) : (flatV l)[i * 5 + j]? = x.cells[j]? := by
  induction l generalizing i with
  | nil => cases h
  | cons y l ih =>
    have h5 : y.cells.length = 5 := rfl
    cases i with
    | zero =>
      have : y = x := by simpa using h
      subst this
      show (y.cells ++ flatV l)[0 * 5 + j]? = _
      rw [Nat.zero_mul, Nat.zero_add, List.getElem?_append_left (by omega)]
    | succ i =>
      show (y.cells ++ flatV l)[(i + 1) * 5 + j]? = _
      rw [List.getElem?_append_right (by omega), show (i + 1) * 5 + j - y.cells.length = i * 5 + j by omega]
      exact ih (by simpa using h)
/-- A row of values of one's own, that may grow. -/
abbrev OwnW (w : World) (base : Nat) (v : Value) (l : List VT) : Prop := w.ownsRow base 50 5 v l.length (flatV l)
theorem ownW_later {w w' : World} {base : Nat} {v : Value} {l : List VT} (h : OwnW w base v l) (hx : Ext w w') : OwnW w' base v l := by
  refine ⟨h.1, h.2.imp id ?_⟩
  rintro ⟨g, cap, cur, h1, h2, h3, h4⟩
  have hlt : g < w.heap.size := by
    rcases Nat.lt_or_ge g w.heap.size with h' | h'
    · exact h'
    · rw [Array.getElem?_eq_none h'] at h3; cases h3
  exact ⟨g, cap, cur, h1, h2, by rw [hx.block g hlt]; exact h3, h4⟩
theorem ownW_block {w : World} {base : Nat} {v : Value} {l : List VT} (h : OwnW w base v l) : ∀ r, v.ownBlock = some r → base ≤ r := by
  intro r hr
  rcases h.2 with ⟨rfl, _⟩ | ⟨g, cap, cur, rfl, h2, _⟩
  · cases hr
  · have : g = r := by simpa [Value.ownBlock] using hr
    omega
theorem ownW_base {w : World} {base base' : Nat} {v : Value} {l : List VT} (h : OwnW w base v l) (hb : base' ≤ base) : OwnW w base' v l := by
  refine ⟨h.1, h.2.imp id ?_⟩
  rintro ⟨g, cap, cur, h1, h2, h3⟩
  exact ⟨g, cap, cur, h1, Nat.le_trans hb h2, h3⟩
theorem ownW_keep {w w' : World} {base : Nat} {v : Value} {l : List VT} {row : Option Nat} (h : OwnW w base v l) (hg : w.grownBy w' row) (hr : ∀ k, row = some k → k < base) : OwnW w' base v l := by
  refine ⟨h.1, h.2.imp id ?_⟩
  rintro ⟨g, cap, cur, h1, h2, h3, h4⟩
  have hlt : g < w.heap.size := by
    rcases Nat.lt_or_ge g w.heap.size with h' | h'
    · exact h'
    · rw [Array.getElem?_eq_none h'] at h3; cases h3
  exact ⟨g, cap, cur, h1, h2, by rw [hg.block g hlt (fun e => by have := hr g e.symm; omega)]; exact h3, h4⟩
theorem ownW_lt {w : World} {base : Nat} {v : Value} {l : List VT} (h : OwnW w base v l) : ∀ g, v.ownBlock = some g → g < w.heap.size := by
  intro r hr
  rcases h.2 with ⟨rfl, _⟩ | ⟨g, cap, cur, rfl, _, h3, _⟩
  · cases hr
  · have : g = r := by simpa [Value.ownBlock] using hr
    subst this
    rcases Nat.lt_or_ge g w.heap.size with h' | h'
    · exact h'
    · rw [Array.getElem?_eq_none h'] at h3; cases h3
theorem ownW_slice {w : World} {base : Nat} {v : Value} {l : List VT} (h : OwnW w base v l) : ∃ p n c, v = .slice p n c := by
  rcases h.2 with ⟨rfl, _⟩ | ⟨g, cap, cur, rfl, _⟩
  · exact ⟨_, _, _, rfl⟩
  · exact ⟨_, _, _, rfl⟩
theorem ownW_vals {w : World} {base : Nat} {v : Value} {l : List VT} (h : OwnW w base v l) : ValsIn w v l := by
  rcases h.2 with ⟨rfl, h0⟩ | ⟨g, cap, cur, rfl, hb, hg, hc, _, hcs, htake⟩
  · exact ⟨none, 0, by rw [h0], by omega, fun h => absurd h0 (by omega)⟩
  · refine ⟨_, cap, rfl, hc, fun _ => ⟨g, 0, rfl, fun i e hi c u hu => ?_⟩⟩
    have := h.cells (g := g) rfl (i * 5 + c) u ((flatV_at hi c (cells_lt hu)).trans hu)
    rw [show (⟨g, 0, none⟩ : Addr).add (i * 5 + c) = ⟨g, 0 + i * 5 + c, none⟩ by unfold Addr.add; split <;> simp_all] at this
    exact this
/-- A store elsewhere leaves the row. -/
theorem ownW_far {w : World} {base : Nat} {v : Value} {l : List VT} (h : OwnW w base v l) {p : Addr} (hp : p.block < base) (u : Value) : OwnW (w.setCell p u) base v l := by
  refine ⟨h.1, h.2.imp id ?_⟩
  rintro ⟨g, cap, cur, h1, h2, h3, h4⟩
  exact ⟨g, cap, cur, h1, h2, by rw [heap_setCell_other _ _ _ _ (by omega)]; exact h3, h4⟩
theorem vec_same {w w' : World} {b : Nat} {l : List Value} (h : Vec w b l) (e : w'.heap[b]? = w.heap[b]?) : Vec w' b l := fun i u hi => by
  have := h i u hi
  unfold World.cell? World.frozen? at this ⊢
  simp only [e]
  exact this
theorem finG {a w : World} {b : Nat} (V : Vec w b [.int .i64 0, .int .i64 0, .slice none 0 0]) (X : Ext a w) (hb : a.heap.size ≤ b) (R C : Int) (sv : Value) :
    ∃ wy, ((w.setCell ⟨b, 0, none⟩ (.int .i64 R)).setCell ⟨b, 1, none⟩ (.int .i64 C)).setCell ⟨b, 2, none⟩ sv = wy ∧ Ext a wy ∧ (w.cell? ⟨b, 0, none⟩ = some (.int .i64 0) ∧ w.cell? ⟨b, 1, none⟩ = some (.int .i64 0) ∧ w.cell? ⟨b, 2, none⟩ = some (.slice none 0 0)) ∧ (w.frozen? ⟨b, 0, none⟩ = false ∧ w.frozen? ⟨b, 1, none⟩ = false ∧ w.frozen? ⟨b, 2, none⟩ = false) ∧ wy.cell? ⟨b, 0, none⟩ = some (.int .i64 R) ∧ wy.cell? ⟨b, 1, none⟩ = some (.int .i64 C) ∧ wy.cell? ⟨b, 2, none⟩ = some sv :=
  ⟨_, rfl, Ext.setL (b := b) hb [.int .i64 R, .int .i64 C, sv] 0 X, V.three, V.threeF, Vec.three (((V.put 0 (by simp) (.int .i64 R)).put 1 (by simp) (.int .i64 C)).put 2 (by simp) sv)⟩
theorem newG (w : World) (R C : Int) (p : Option Addr) (n c : Nat) :
    ∃ wz wy, w.alloc (.cells #[.int .i64 0, .int .i64 0, .slice none 0 0] 25) = wz ∧ ((wz.setCell ⟨w.heap.size, 0, none⟩ (.int .i64 R)).setCell ⟨w.heap.size, 1, none⟩ (.int .i64 C)).setCell ⟨w.heap.size, 2, none⟩ (.slice p n c) = wy ∧ Vec wy w.heap.size [.int .i64 R, .int .i64 C, .slice p n c] ∧ Ext w wy ∧ (wz.cell? ⟨w.heap.size, 0, none⟩ = some (.int .i64 0) ∧ wz.cell? ⟨w.heap.size, 1, none⟩ = some (.int .i64 0) ∧ wz.cell? ⟨w.heap.size, 2, none⟩ = some (.slice none 0 0)) ∧ wz.frozen? ⟨w.heap.size, 0, none⟩ = false ∧ wz.frozen? ⟨w.heap.size, 1, none⟩ = false ∧ wz.frozen? ⟨w.heap.size, 2, none⟩ = false := by
  have Z := vec_made w [.int .i64 0, .int .i64 0, .slice none 0 0] 25
  exact ⟨_, _, rfl, rfl, ((Z.put 0 (by simp) (.int .i64 R)).put 1 (by simp) (.int .i64 C)).put 2 (by simp) _, Ext.setL (b := w.heap.size) (Nat.le_refl _) [.int .i64 R, .int .i64 C, .slice p n c] 0 (x1 w _), Z.three, Z.threeF⟩
theorem goodG_all {r c : Int} {l : List VT} (h : goodG r c l = true) : gsidesB r c l.length = true ∧ (∀ e ∈ l, e.good = true) ∧ (1 ≤ r ∧ r ≤ 2000) ∧ 1 ≤ c ∧ c ≤ 2000 := by
  unfold goodG at h
  rw [Bool.and_eq_true] at h
  have hs : 1 ≤ r ∧ 1 ≤ c ∧ r * c ≤ 2000 ∧ (l.length : Int) = r * c := of_decide_eq_true h.1
  have g1 : r ≤ r * c := by have := Int.mul_le_mul_of_nonneg_left (show (1 : Int) ≤ c by omega) (show 0 ≤ r by omega); omega
  have g2 : c ≤ r * c := by have := Int.mul_le_mul_of_nonneg_right (show (1 : Int) ≤ r by omega) (show 0 ≤ c by omega); omega
  exact ⟨h.1, List.all_eq_true.1 h.2, by omega⟩
theorem infoW : ∃ inf, Tryz.prog.info? 50 = some inf ∧ inf.zero = some (valV 0 false 0 0 []) ∧ inf.size = 5 ∧ inf.bytes = 48 := by
  obtain ⟨inf, e1, e2⟩ := Option.map_eq_some_iff.1 infoV
  simp only [Prod.mk.injEq] at e2
  exact ⟨inf, e1, e2.1, e2.2.1, e2.2.2⟩

def okE (e : VT) : Prop := 0 ≤ e.d ∧ e.d < 1000000000000000 ∧ e.t.length ≤ 2000
theorem Only.own {w w' : World} {b base : Nat} {v : Value} {l : List VT} (o : Only b w w') (h : OwnW w base v l) (hb : b < base) : OwnW w' base v l := ownW_keep h o.to_grown (fun k hk => by cases hk; exact hb)

theorem Vec.put3 {w : World} {b : Nat} {v0 v1 v2 : Value} (h : Vec w b [v0, v1, v2]) (u0 u1 u2 : Value) : Vec (((w.setCell ⟨b, 0, none⟩ u0).setCell ⟨b, 1, none⟩ u1).setCell ⟨b, 2, none⟩ u2) b [u0, u1, u2] :=
  ((h.put 0 (by simp) u0).put 1 (by simp) u1).put 2 (by simp) u2

/-- A slice of values, by its cells. -/
def RowAt (w : World) (v : Value) (n : Nat) (M : List Value) : Prop :=
  M.length = n * 5 ∧ ∃ p cap, v = .slice p n cap ∧ n ≤ cap ∧ (0 < n → ∃ g, p = some ⟨g, 0, none⟩ ∧ Vec w g M)
theorem RowAt.later {w w' : World} {v : Value} {n : Nat} {M : List Value} (h : RowAt w v n M) (e : Ext w w') : RowAt w' v n M := by
  obtain ⟨h1, p, cap, hv, hc, hg⟩ := h
  refine ⟨h1, p, cap, hv, hc, fun h0 => ?_⟩
  obtain ⟨g, hp, hV⟩ := hg h0
  exact ⟨g, hp, hV.later e⟩
theorem RowAt.of_row {w : World} {base : Nat} {v : Value} {l : List VT} (h : OwnW w base v l) : RowAt w v l.length (flatV l) := by
  refine ⟨flatV_length l, ?_⟩
  rcases h.2 with ⟨rfl, h0⟩ | ⟨g, cap, cur, rfl, hb, hg, hc, _, hcs, htake⟩
  · exact ⟨none, 0, by rw [h0], by omega, fun h => absurd h0 (by omega)⟩
  · refine ⟨_, cap, rfl, hc, fun _ => ⟨g, rfl, fun i u hi => ⟨?_, ?_⟩⟩⟩
    · have := h.cells (g := g) rfl i u hi
      rw [show (⟨g, 0, none⟩ : Addr).add i = ⟨g, i, none⟩ by unfold Addr.add; split <;> simp_all] at this
      exact this
    · simp [World.frozen?, hg]
theorem RowAt.vals {w : World} {v : Value} {l : List VT} (h : RowAt w v l.length (flatV l)) : ValsIn w v l := by
  obtain ⟨_, p, cap, rfl, hc, hg⟩ := h
  refine ⟨p, cap, rfl, hc, fun h0 => ?_⟩
  obtain ⟨g, hp, V⟩ := hg h0
  refine ⟨g, 0, hp, fun i e hi c u hu => ?_⟩
  rw [Nat.zero_add]
  exact (V _ u ((flatV_at hi c (cells_lt hu)).trans hu)).1
/-- Values do not lie in a grid's box. -/
theorem RowAt.far {w : World} {v : Value} {l : List VT} (h : RowAt w v l.length (flatV l)) {b : Nat} {i0 i1 : Int} {s : Value} (B : Vec w b [.int .i64 i0, .int .i64 i1, s]) (us : List Value) : RowAt (setL w b 0 us) v l.length (flatV l) := by
  obtain ⟨h1, p, cap, rfl, hc, hg⟩ := h
  refine ⟨h1, p, cap, rfl, hc, fun h0 => ?_⟩
  obtain ⟨g, hp, V⟩ := hg h0
  refine ⟨g, hp, Vec.farL (fun e => ?_) us 0 V⟩
  subst e
  obtain ⟨e0, he⟩ : ∃ e, l[0]? = some e := ⟨_, List.getElem?_eq_getElem h0⟩
  have q1 := (V (0 * 5 + 1) _ ((flatV_at he 1 (by omega)).trans rfl)).1
  have q2 := (B 1 _ rfl).1
  rw [show 0 * 5 + 1 = 1 from rfl, q2] at q1
  cases q1
theorem RowAt.keep {w w' : World} {v : Value} {n : Nat} {M : List Value} {row : Option Nat} (h : RowAt w v n M) (hg : w.grownBy w' row) (hr : ∀ g, 0 < n → v.ownBlock = some g → some g ≠ row) : RowAt w' v n M := by
  obtain ⟨h1, p, cap, rfl, hc, hp⟩ := h
  refine ⟨h1, p, cap, rfl, hc, fun h0 => ?_⟩
  obtain ⟨g, rfl, V⟩ := hp h0
  have hlt : g < w.heap.size := World.block_lt_of_cell? w ⟨g, 0, none⟩ (V 0 _ (List.getElem?_eq_getElem (by omega))).1
  exact ⟨g, rfl, vec_same V (hg.block g hlt (hr g h0 rfl))⟩
theorem grown_set {w w' : World} {g o : Nat} (h : w.grownBy w' (some g)) (u : Value) : w.grownBy (w'.setCell ⟨g, o, none⟩ u) (some g) :=
  ⟨h.os, h.tape, h.output, by rw [World.size_setCell]; exact h.size, fun k hk hne => by rw [heap_setCell_other _ _ _ _ (fun e => hne (congrArg some e))]; exact h.block k hk hne⟩
theorem grown_ext {w w' w'' : World} {r : Option Nat} (h : w.grownBy w' r) (e : Ext w' w'') : w.grownBy w'' r :=
  ⟨e.os.trans h.os, e.tape.trans h.tape, e.output.trans h.output, Nat.le_trans h.size e.size, fun k hk hne => (e.block k (Nat.lt_of_lt_of_le hk h.size)).trans (h.block k hk hne)⟩
theorem grown_refl (w : World) (r : Option Nat) : w.grownBy w r := ⟨rfl, rfl, rfl, Nat.le_refl _, fun _ _ _ => rfl⟩

end Go.Proofs.YtbomplppgobkdaaGreatDoor

