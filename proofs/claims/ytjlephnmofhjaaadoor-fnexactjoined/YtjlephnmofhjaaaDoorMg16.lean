/-
  Several texts in one: Rf, Ri, Rg, V6u, Qe, J1.
-/
import Derived.Test.YtjlephnmofhjaaaDoorMg0
import Derived.Orders
import Derived.Test.YtjlephnmofhjaaaDoorMg5
import Derived.Test.YtjlephnmofhjaaaDoorMg15
import Derived.Deep.DeepCutAuto
import Derived.Test.YtjlephnmofhjaaaDoorMg8
namespace Go.Proofs.YtjlephnmofhjaaaDoor
open Go.RowKit

section
variable {P : Program} {ops : Array Oper} {Q : Exit → Act → World → Prop} {md : Region.Mode}

/-- Each operation waits for all that leave a value where it looks, waits for earlier ones alone, and is not guarded. -/
def rfOk (md : Region.Mode) (ops : Array Oper) : Bool :=
 (List.range ops.size).all fun i =>
  match ops[i]? with
  | none => true
  | some o => o.guard.isNone && (o.after.all fun e => !Region.binds md e || decide (e.on < i)) &&
    o.op.operands.all fun x => match x with
     | .tmp d => (List.range ops.size).all fun j => !((ops[j]?).bind (·.dst) == some d) || o.after.any fun e => Region.binds md e && e.on == j
     | _ => true

theorem rfOk_spec (h : rfOk md ops = true) {i : Nat} {o : Oper} (hi : ops[i]? = some o) :
  o.guard = none ∧ (∀ e ∈ o.after, Region.binds md e = true → e.on < i) ∧
  ∀ d, .tmp d ∈ o.op.operands → ∀ j oj, ops[j]? = some oj → oj.dst = some d → ∃ e ∈ o.after, Region.binds md e = true ∧ e.on = j := by
 have hlt : i < ops.size := by
  rcases Nat.lt_or_ge i ops.size with h' | h'
  ·
   exact h'
  ·
   rw [Array.getElem?_eq_none h'] at hi; cases hi
 have h1 := (List.all_eq_true.1 h) i (List.mem_range.2 hlt)
 rw [hi] at h1
 simp only [Bool.and_eq_true] at h1
 obtain ⟨⟨hg, ha⟩, hx⟩ := h1
 refine ⟨by cases hgo : o.guard <;> simp_all, fun e he hb => ?_, fun d hd j oj hj hdj => ?_⟩
 ·
  have := (Array.all_eq_true_iff_forall_mem.1 ha) e he
  simpa [hb] using this
 ·
  have h2 := (Array.all_eq_true_iff_forall_mem.1 hx) _ hd
  have hjlt : j < ops.size := by
   rcases Nat.lt_or_ge j ops.size with h' | h'
   ·
    exact h'
   ·
    rw [Array.getElem?_eq_none h'] at hj; cases hj
  have h3 := (List.all_eq_true.1 h2) j (List.mem_range.2 hjlt)
  rw [hj] at h3
  simp only [Option.bind_some, hdj, beq_self_eq_true, Bool.not_true, Bool.false_or] at h3
  obtain ⟨e, he, hee⟩ : ∃ e ∈ o.after, (Region.binds md e && e.on == j) = true := by
   rw [Array.any_eq_true'] at h3
   exact h3
  simp only [Bool.and_eq_true, beq_iff_eq] at hee
  exact ⟨e, he, hee.1, hee.2⟩

/-- How a frame on the way stands to the frame at the end. -/
structure RS (ops : Array Oper) (md : Region.Mode) (A : Act) (listed : Array Bool) (a : Act) : Prop where
 size : listed.size = ops.size
 defers : a.defers = A.defers
 tsize : a.tmps.size = A.tmps.size
 vals : ∀ d, (∀ i o, ops[i]? = some o → o.dst = some d → listed.getD i false = true) → a.tmps[d]? = A.tmps[d]?
 closed : ∀ i o, ops[i]? = some o → listed.getD i false = true → ∀ e ∈ o.after, Region.binds md e = true → listed.getD e.on false = true

theorem all_listed (hc : rfOk md ops = true) {listed : Array Bool} (hsz : listed.size = ops.size) (hr : Region.ready md ops listed = []) : ∀ i, i < ops.size → listed.getD i false = true := by
 intro i
 induction i using Nat.strongRecOn with
 | ind i ih =>
  intro hi
  cases hl : listed.getD i false with
  | true => rfl
  | false =>
   exfalso
   have hlt : i < listed.size := by omega
   have h1 : listed.getD i true = false := by
    rw [Array.getD_eq_getD_getElem?, Array.getElem?_eq_getElem hlt] at hl ⊢
    exact hl
   have ho : ops[i]? = some ops[i] := Array.getElem?_eq_getElem hi
   obtain ⟨_, hlow, _⟩ := rfOk_spec hc ho
   have : i ∈ Region.ready md ops listed := mem_ready.2 ⟨h1, _, ho, fun e he hb => ih e.on (hlow e he hb) (Nat.lt_trans (hlow e he hb) hi)⟩
   rw [hr] at this
   cases this

/-- How many have not come up yet. -/
theorem count_set {listed : Array Bool} {i : Nat} (h : listed.getD i true = false) : (listed.setIfInBounds i true).toList.count false + 1 = listed.toList.count false := by
 have hlt : i < listed.size := by
  rcases Nat.lt_or_ge i listed.size with h' | h'
  ·
   exact h'
  ·
   rw [Array.getD_eq_getD_getElem?, Array.getElem?_eq_none h'] at h; cases h
 have hv : listed[i] = false := by
  rw [Array.getD_eq_getD_getElem?, Array.getElem?_eq_getElem hlt] at h; exact h
 rw [Array.toList_setIfInBounds, List.count_set (by simpa using hlt)]
 have hv' : listed.toList[i]'(by simpa using hlt) = false := by simpa using hv
 have hpos : 0 < listed.toList.count false := List.count_pos_iff.2 (by rw [← hv']; exact List.getElem_mem _)
 simp only [hv', beq_self_eq_true, if_true]
 rw [if_neg (by decide)]
 omega

section
variable {ρ : Operand → Value} {o : Oper} {w w' : World} {v : Value}
end

end

section
variable {P : Program} {ops : Array Oper} {Q : Exit → Act → World → Prop} {md : Region.Mode}

theorem wpAny_inv (J : Array Bool → Act → World → Prop)
  (step : ∀ listed a w i o, J listed a w → i ∈ Region.ready md ops listed → ops[i]? = some o → wpOp P ops Q i (fun a' w' => J (listed.setIfInBounds i true) a' w') a w)
  (fin : ∀ listed a w, Region.ready md ops listed = [] → J listed a w → Q .normal a w) :
  ∀ (fuel : Nat) (listed : Array Bool) (a : Act) (w : World), listed.toList.count false ≤ fuel → J listed a w → wpAny P md ops Q fuel listed a w := by
 intro fuel
 induction fuel with
 | zero =>
  intro listed a w hf hJ
  have hr : Region.ready md ops listed = [] := by
   cases hr : Region.ready md ops listed with
   | nil => rfl
   | cons x xs =>
    have := count_set (mem_ready.1 (hr ▸ List.mem_cons_self : x ∈ Region.ready md ops listed)).1
    omega
  exact ⟨hr, fin listed a w hr hJ⟩
 | succ fuel ih =>
  intro listed a w hf hJ
  refine ⟨fun hr => fin listed a w hr hJ, fun i hi => ?_⟩
  obtain ⟨hun, o, ho, _⟩ := mem_ready.1 hi
  refine wpOp_mono (fun a' w' hh => ih _ a' w' ?_ hh) (step listed a w i o hJ hi ho)
  have := count_set hun
  omega

/-- THE REGION. -/
theorem wp_region_inv {id : Nat} {a : Act} {w : World} (J : Array Bool → Act → World → Prop) (hm : P.follows .mixedOrders = true)
  (hJ : J (Array.replicate ops.size false) a { w with drawn := w.drawn + 1 })
  (step : ∀ listed a w i o, J listed a w → i ∈ Region.ready .any ops listed → ops[i]? = some o → wpOp P ops Q i (fun a' w' => J (listed.setIfInBounds i true) a' w') a w)
  (fin : ∀ listed a w, Region.ready .any ops listed = [] → J listed a w → Q .normal a w) : (Code.region id ops true).wp P Q a w :=
 wp_region_any hm (wpAny_inv J step fin ops.size _ a _ (by simp) hJ)
end

section
variable {P : Program} {ops : Array Oper} {Q : Exit → Act → World → Prop}

theorem wpOp_of_ops {i : Nat} {o : Oper} {K : Act → World → Prop} {a : Act} {w : World} (ho : ops[i]? = some o) (hg : o.guard = none)
  (h : wpList P #[o] (Exit.then K Q) [o] a w) : wpOp P ops Q i K a w := by
 unfold wpOp
 simp only [ho, Region.wanted, hg, if_true]
 simp only [wpList, Region.wanted, hg, if_true] at h
 rcases h with h | ⟨h1, h2⟩
 ·
  left
  unfold Oper.wp at *
  generalize (execOp a.eval o).run P w = r at *
  cases r with
  | ok n w' =>
   cases n
   case enter f args =>
    refine Calls.mono h fun e w'' he => ?_
    cases e <;> exact he
   all_goals exact h
  | halt x w' => cases x <;> exact h
 ·
  exact .inr ⟨h1, h2⟩

/-- THE REGION. -/
theorem wp_region_letters {X : Type} {id : Nat} {a : Act} {w : World} (F : X → Act) (I : (Nat → Bool) → X → World → Prop) (hm : P.follows .mixedOrders = true) (hc : rfOk .any ops = true)
  (x0 : X) (h0 : a = F x0) (hI : I (fun _ => false) x0 { w with drawn := w.drawn + 1 })
  (step : ∀ L x w i o (K : Act → World → Prop), (∀ x' w', I (fun j => if j = i then true else L j) x' w' → K (F x') w') → ops[i]? = some o → L i = false → (∀ e ∈ o.after, Region.binds .any e = true → L e.on = true) → I L x w →
   wpList P #[o] (Exit.then K Q) [o] (F x) w)
  (fin : ∀ L x w, (∀ j, j < ops.size → L j = true) → I L x w → Q .normal (F x) w) : (Code.region id ops true).wp P Q a w := by
 refine wp_region_inv (fun listed a w => listed.size = ops.size ∧ ∃ x, a = F x ∧ I (fun j => listed.getD j false) x w) hm ?_ ?_ ?_
 ·
  refine ⟨by simp, x0, h0, ?_⟩
  have e : (fun j => (Array.replicate ops.size false).getD j false) = fun _ => false := by
   funext j
   rw [Array.getD_eq_getD_getElem?]
   rcases Nat.lt_or_ge j ops.size with h' | h'
   ·
    rw [Array.getElem?_eq_getElem (by simpa using h')]; simp
   ·
    rw [Array.getElem?_eq_none (by simpa using h')]; simp
  rw [e]
  exact hI
 ·
  rintro listed a w i o ⟨hs, x, rfl, hx⟩ hi ho
  obtain ⟨hun, o', ho', hall⟩ := mem_ready.1 hi
  have : o' = o := by rw [ho] at ho'; exact (Option.some.inj ho').symm
  subst this
  obtain ⟨hg, _, _⟩ := rfOk_spec hc ho
  have hlt : i < listed.size := by
   rcases Nat.lt_or_ge i listed.size with h' | h'
   ·
    exact h'
   ·
    rw [Array.getD_eq_getD_getElem?, Array.getElem?_eq_none h'] at hun; cases hun
  have hun' : listed.getD i false = false := by
   rw [Array.getD_eq_getD_getElem?, Array.getElem?_eq_getElem hlt] at hun ⊢
   exact hun
  refine wpOp_mono ?_ (wpOp_of_ops ho hg (step _ x w i o' (fun a' w' => ∃ x', a' = F x' ∧ I (fun j => if j = i then true else listed.getD j false) x' w') (fun x' w' h => ⟨x', rfl, h⟩) ho hun' hall hx))
  rintro a' w' ⟨x', rfl, hx'⟩
  refine ⟨by simp [hs], x', rfl, ?_⟩
  have e : (fun j => (listed.setIfInBounds i true).getD j false) = fun j => if j = i then true else listed.getD j false := by
   funext j
   by_cases hj : j = i
   ·
    subst hj
    rw [if_pos rfl, Array.getD_eq_getD_getElem?, Array.getElem?_setIfInBounds_self_of_lt hlt]
    rfl
   ·
    rw [if_neg hj, getD_set_ne false (fun e => hj e.symm)]
  rw [e]
  exact hx'
 ·
  rintro listed a w hr ⟨hs, x, rfl, hx⟩
  exact fin _ x w (all_listed hc hs hr) hx
end

def sameQ (a b : VT) : Bool := decide (a.k = b.k ∧ a.n = b.n ∧ a.d = b.d ∧ a.x = b.x ∧ a.t = b.t)
def cmpQ (a b : VT) : Int := compareV a.k a.n a.d a.x a.t b.k b.n b.d b.x b.t
/-- Two cells are the same: the same kind, and Compare 0, or the same error. -/
def likeB (a b : VT) : Bool := decide (a.k = b.k) && (if a.k = 4 then sameQ a b else decide (cmpQ a b = 0))
set_option maxHeartbeats 1000000 in
theorem valQ_eql (k : Int) (n : Bool) (d x : Int) (t : List UInt8) (k' : Int) (n' : Bool) (d' x' : Int) (t' : List UInt8) (W : World) :
  (binOp BinOp.eql 39 (valV k n d x t) (valV k' n' d' x' t')).run Tryd.prog W = .ok (.bool (sameQ ⟨k, n, d, x, t⟩ ⟨k', n', d', x', t'⟩)) W := by
 unfold sameQ
 by_cases h : k = k' ∧ n = n' ∧ d = d' ∧ x = x' ∧ t = t'
 ·
  obtain ⟨rfl, rfl, rfl, rfl, rfl⟩ := h
  go_simp
 ·
  rw [decide_eq_false h]
  have H : Hid (¬ (k = k' ∧ n = n' ∧ d = d' ∧ x = x' ∧ t = t')) := h
  clear h
  go_simp
  intros
  have := H.out
  simp_all
/-- What is asked of a value's room. -/
def VT.room (e : VT) : Prop := e.t.length ≤ 2000000 ∧ -9223372036854775808 ≤ e.d ∧ e.d ≤ 9223372036854775807

/-- What is the same for values that are the same. -/
def nrm (e : VT) : VT := ⟨e.k, e.n, e.d, e.x, e.t.map upC⟩
theorem bytes_zero : ∀ (a b : List UInt8), Lib.compareBytes a b = 0 ↔ a = b
 | [], [] => by simp [Lib.compareBytes]
 | [], b :: bs => by simp [Lib.compareBytes]
 | a :: ar, [] => by simp [Lib.compareBytes]
 | a :: ar, b :: bs => by
  unfold Lib.compareBytes
  by_cases h1 : a < b
  ·
   rw [if_pos h1]
   constructor
   ·
    intro h; cases h
   ·
    intro h; cases h; exact absurd h1 (by simp)
  ·
   by_cases h2 : b < a
   ·
    rw [if_neg h1, if_pos h2]
    constructor
    ·
     intro h; cases h
    ·
     intro h; cases h; exact absurd h2 (by simp)
   ·
    rw [if_neg h1, if_neg h2, bytes_zero ar bs]
    have : a = b := by
     have e1 : ¬ a.toNat < b.toNat := fun h => h1 h
     have e2 : ¬ b.toNat < a.toNat := fun h => h2 h
     exact UInt8.toNat_inj.1 (by omega)
    simp [this]
theorem cmpI_zero {a b : Int} : cmpI a b = 0 ↔ a = b := by
 unfold cmpI
 split
 ·
  constructor
  ·
   intro h; omega
  ·
   intro h; omega
 ·
  split <;> constructor <;> intro h <;> omega
theorem ten_dvd {n : Nat} (h : n ≠ 0) : (10 : Int) ∣ 10 ^ n := by
 obtain ⟨m, rfl⟩ : ∃ m, n = m + 1 := ⟨n - 1, by omega⟩
 exact ⟨10 ^ m, by rw [Int.pow_succ, Int.mul_comm]⟩
theorem goodB_parts {n : Bool} {d x : Int} (h : goodB n d x = true) : (d = 0 ∧ n = false ∧ x = 0) ∨ (0 < d ∧ d % 10 ≠ 0) := by
 unfold goodB at h
 split at h
 ·
  left
  rename_i h0
  simp at h
  exact ⟨h0, h.1, h.2⟩
 ·
  right
  have := of_decide_eq_true h
  exact ⟨this.1, this.2.2.1⟩
theorem dec_one_lt {n n' : Bool} {d d' x x' : Int} (g : goodB n d x = true) (hx : x < x') (e : sgn n d = sgn n' d' * 10 ^ (x' - x).toNat) : d = 0 := by
 rcases goodB_parts g with ⟨h, _, _⟩ | ⟨h, hm⟩
 ·
  exact h
 ·
  exfalso
  have hd : (10 : Int) ∣ sgn n d := by
   have hn : (x' - x).toNat ≠ 0 := by omega
   rw [e]
   exact Int.dvd_trans (ten_dvd hn) ⟨sgn n' d', by rw [Int.mul_comm]⟩
  have : (10 : Int) ∣ d := by
   unfold sgn at hd
   split at hd
   ·
    exact (Int.dvd_neg).1 hd
   ·
    exact hd
  omega
theorem pow_ne (k : Nat) : (10 : Int) ^ k ≠ 0 := by
 have : (0 : Int) < 10 ^ k := Int.pow_pos (by omega)
 omega
theorem sgn_zero {n : Bool} {d : Int} : sgn n d = 0 ↔ d = 0 := by unfold sgn; split <;> omega
theorem dec_one {n n' : Bool} {d d' x x' : Int} (g : goodB n d x = true) (g' : goodB n' d' x' = true) (e : sgn n d * 10 ^ (x - min x x').toNat = sgn n' d' * 10 ^ (x' - min x x').toNat) : n = n' ∧ d = d' ∧ x = x' := by
 have zero : d = 0 → d' = 0 → n = n' ∧ d = d' ∧ x = x' := fun h h' => by
  rcases goodB_parts g with ⟨_, a, b⟩ | ⟨a, _⟩
  ·
   rcases goodB_parts g' with ⟨_, a', b'⟩ | ⟨a', _⟩
   ·
    exact ⟨by rw [a, a'], by rw [h, h'], by rw [b, b']⟩
   ·
    omega
  ·
   omega
 rcases Int.lt_trichotomy x x' with hx | hx | hx
 ·
  rw [show min x x' = x by omega, Int.sub_self, show (0 : Int).toNat = 0 from rfl, Int.pow_zero, Int.mul_one] at e
  have d0 := dec_one_lt g hx e
  have : sgn n' d' = 0 := by
   have e0 : sgn n d = 0 := sgn_zero.2 d0
   rw [e0] at e
   rcases Int.mul_eq_zero.1 e.symm with h | h
   ·
    exact h
   ·
    exact absurd h (pow_ne _)
  exact zero d0 (sgn_zero.1 this)
 ·
  subst hx
  rw [show min x x = x by omega, Int.sub_self, show (0 : Int).toNat = 0 from rfl, Int.pow_zero, Int.mul_one, Int.mul_one] at e
  rcases goodB_parts g with ⟨h, a, _⟩ | ⟨h, _⟩
  ·
   have : d' = 0 := sgn_zero.1 (by rw [← e]; exact sgn_zero.2 h)
   exact zero h this
  ·
   rcases goodB_parts g' with ⟨h', _, _⟩ | ⟨h', _⟩
   ·
    have : d = 0 := sgn_zero.1 (by rw [e]; exact sgn_zero.2 h')
    omega
   ·
    unfold sgn at e
    cases n <;> cases n' <;> simp at e <;> first | exact ⟨rfl, by omega, rfl⟩ | omega
 ·
  rw [show min x x' = x' by omega, Int.sub_self, show (0 : Int).toNat = 0 from rfl, Int.pow_zero, Int.mul_one] at e
  have d0 := dec_one_lt g' hx e.symm
  have : sgn n d = 0 := by
   have e0 : sgn n' d' = 0 := sgn_zero.2 d0
   rw [e0] at e
   rcases Int.mul_eq_zero.1 e with h | h
   ·
    exact h
   ·
    exact absurd h (pow_ne _)
  exact zero (sgn_zero.1 this) d0
theorem upC_err {t : List UInt8} (h : memB errL t = true) : t.map upC = t := by
 have : t ∈ errL := by simpa [memB] using h
 simp only [errL, List.mem_cons, List.not_mem_nil, or_false] at this
 rcases this with rfl | rfl | rfl | rfl | rfl | rfl | rfl | rfl | rfl <;> decide
theorem goodV_kinds {k : Int} {n : Bool} {d x : Int} {t : List UInt8} (h : goodV k n d x t = true) : k = 0 ∨ k = 1 ∨ k = 2 ∨ (k = 3 ∧ boolB t = true) ∨ (k = 4 ∧ memB errL t = true) := by
 unfold goodV at h
 by_cases h1 : k = 1
 ·
  exact Or.inr (Or.inl h1)
 rw [if_neg h1] at h
 have h2 := (Bool.and_eq_true _ _ ▸ h : _ ∧ _).2
 by_cases h0 : k = 0
 ·
  exact Or.inl h0
 rw [if_neg h0] at h2
 by_cases h2' : k = 2
 ·
  exact Or.inr (Or.inr (Or.inl h2'))
 rw [if_neg h2'] at h2
 by_cases h3 : k = 3
 ·
  rw [if_pos h3] at h2
  exact Or.inr (Or.inr (Or.inr (Or.inl ⟨h3, h2⟩)))
 rw [if_neg h3] at h2
 by_cases h4 : k = 4
 ·
  rw [if_pos h4] at h2
  exact Or.inr (Or.inr (Or.inr (Or.inr ⟨h4, h2⟩)))
 rw [if_neg h4] at h2
 cases h2
/-- Values that are the same, and these alone, have one likeness. -/
theorem like_nrm {a b : VT} (ga : a.good = true) (gb : b.good = true) : likeB a b = true ↔ nrm a = nrm b := by
 obtain ⟨k, n, d, x, t⟩ := a
 obtain ⟨k', n', d', x', t'⟩ := b
 have ga' : goodV k n d x t = true := ga
 have gb' : goodV k' n' d' x' t' = true := gb
 unfold likeB nrm
 simp only [VT.mk.injEq]
 by_cases hk : k = k'
 ·
  subst hk
  rw [decide_eq_true rfl, Bool.true_and]
  have hz : k ≠ 1 → n = n' ∧ d = d' ∧ x = x' := fun h => by
   obtain ⟨h1, h2, h3⟩ := goodV_zero ga' h
   obtain ⟨h1', h2', h3'⟩ := goodV_zero gb' h
   exact ⟨by rw [h1, h1'], by rw [h2, h2'], by rw [h3, h3']⟩
  have hc : k ≠ 4 → cmpQ ⟨k, n, d, x, t⟩ ⟨k, n', d', x', t'⟩ = cmpR (bk k k) n d x (bt k t k) (bk k k) n' d' x' (bt k t' k) := fun h => by
   unfold cmpQ compareV
   rw [if_pos ⟨ga', gb', h, h⟩]
  rcases goodV_kinds ga' with rfl | rfl | rfl | ⟨rfl, hb⟩ | ⟨rfl, hb⟩
  ·
   obtain rfl := goodV_empty ga'
   obtain rfl := goodV_empty gb'
   rw [if_neg (by decide), hc (by decide)]
   obtain ⟨rfl, rfl, rfl⟩ := hz (by decide)
   simp [cmpR, bk]
  ·
   obtain ⟨g, rfl⟩ := goodV_num ga'
   obtain ⟨g', rfl⟩ := goodV_num gb'
   rw [if_neg (by decide), hc (by decide)]
   have : cmpR (bk 1 1) n d x (bt 1 [] 1) (bk 1 1) n' d' x' (bt 1 [] 1) = cmpI (sgn n d * 10 ^ (x - min x x').toNat) (sgn n' d' * 10 ^ (x' - min x x').toNat) := by
    have : bk 1 1 = 1 := by decide
    rw [this]
    unfold cmpR
    rw [if_neg (by simp), if_pos rfl]
   rw [this]
   constructor
   ·
    intro h
    obtain ⟨rfl, rfl, rfl⟩ := dec_one g g' (cmpI_zero.1 (of_decide_eq_true h))
    simp
   ·
    rintro ⟨_, rfl, rfl, rfl, _⟩
    exact decide_eq_true (cmpI_zero.2 rfl)
  ·
   rw [if_neg (by decide), hc (by decide)]
   obtain ⟨rfl, rfl, rfl⟩ := hz (by decide)
   have : cmpR (bk 2 2) n d x (bt 2 t 2) (bk 2 2) n d x (bt 2 t' 2) = Lib.compareBytes (t.map upC) (t'.map upC) := by
    have e1 : bk 2 2 = 2 := by decide
    have e2 : ∀ u, bt 2 u 2 = u := fun u => by unfold bt; rw [if_neg (by decide)]
    rw [e1, e2, e2]
    unfold cmpR
    rw [if_neg (by simp), if_neg (by decide), if_pos rfl]
   rw [this]
   constructor
   ·
    intro h
    exact ⟨rfl, rfl, rfl, rfl, (bytes_zero _ _).1 (of_decide_eq_true h)⟩
   ·
    rintro ⟨_, _, _, _, h⟩
    exact decide_eq_true ((bytes_zero _ _).2 h)
  ·
   rw [if_neg (by decide), hc (by decide)]
   obtain ⟨rfl, rfl, rfl⟩ := hz (by decide)
   have hb' : boolB t' = true := by
    rcases goodV_kinds gb' with h | h | h | ⟨_, h⟩ | ⟨h, _⟩
    ·
     exact absurd h (by decide)
    ·
     exact absurd h (by decide)
    ·
     exact absurd h (by decide)
    ·
     exact h
    ·
     exact absurd h (by decide)
   have : cmpR (bk 3 3) n d x (bt 3 t 3) (bk 3 3) n d x (bt 3 t' 3) = Lib.compareBytes t t' := by
    have e1 : bk 3 3 = 3 := by decide
    have e2 : ∀ u, bt 3 u 3 = u := fun u => by unfold bt; rw [if_neg (by decide)]
    rw [e1, e2, e2]
    unfold cmpR
    rw [if_neg (by simp), if_neg (by decide), if_neg (by decide), if_pos rfl]
   rw [this, upC_bool hb, upC_bool hb']
   constructor
   ·
    intro h
    exact ⟨rfl, rfl, rfl, rfl, (bytes_zero _ _).1 (of_decide_eq_true h)⟩
   ·
    rintro ⟨_, _, _, _, h⟩
    exact decide_eq_true ((bytes_zero _ _).2 h)
  ·
   have hb' : memB errL t' = true := by
    rcases goodV_kinds gb' with h | h | h | ⟨h, _⟩ | ⟨_, h⟩
    ·
     exact absurd h (by decide)
    ·
     exact absurd h (by decide)
    ·
     exact absurd h (by decide)
    ·
     exact absurd h (by decide)
    ·
     exact h
   rw [if_pos rfl, upC_err hb, upC_err hb']
   unfold sameQ
   simp
 ·
  simp [hk]

end Go.Proofs.YtjlephnmofhjaaaDoor

