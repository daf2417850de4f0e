/-
  Several texts in one: E6, Rh.
-/
import Derived.Test.YtgpfddneablcpaaGreatDoorMg23
import Derived.Maps.RangeWalk
import Derived.Laws.IdiomRangeMap
import Derived.Test.YtgpfddneablcpaaGreatDoorMg20
namespace Go.Proofs.YtgpfddneablcpaaGreatDoor
open Go.RowKit

/-- Four values. -/
structure QT where
 a : VT
 b : VT
 c : VT
 d : VT
abbrev QT.cells (K : QT) : List Value := [.int .i64 K.a.k, .bool K.a.n, .int .i64 K.a.d, .int .i64 K.a.x, sV K.a.t, .int .i64 K.b.k, .bool K.b.n, .int .i64 K.b.d, .int .i64 K.b.x, sV K.b.t, .int .i64 K.c.k, .bool K.c.n, .int .i64 K.c.d, .int .i64 K.c.x, sV K.c.t, .int .i64 K.d.k, .bool K.d.n, .int .i64 K.d.d, .int .i64 K.d.x, sV K.d.t]
abbrev QT.val (K : QT) : Value := .agg #[.int .i64 K.a.k, .bool K.a.n, .int .i64 K.a.d, .int .i64 K.a.x, sV K.a.t, .int .i64 K.b.k, .bool K.b.n, .int .i64 K.b.d, .int .i64 K.b.x, sV K.b.t, .int .i64 K.c.k, .bool K.c.n, .int .i64 K.c.d, .int .i64 K.c.x, sV K.c.t, .int .i64 K.d.k, .bool K.d.n, .int .i64 K.d.d, .int .i64 K.d.x, sV K.d.t]
theorem quad_law : WideMaps.KeyLaw Tryz.prog 52 :=
 deep_law (m := 5) (by decide) (by kernel_rfl) (by kernel_rfl) (by kernel_rfl)
theorem quadK : Maps.Keyed Tryz.prog 52 := Maps.Keyed.of_law quad_law
theorem mapQ_type : Tryz.prog.underlying 47 = some (.map 52 25) := by kernel_rfl
def InQ (K : QT) : Prop := InK K.a ∧ InK K.b ∧ InK K.c ∧ InK K.d
theorem val_lits {e : VT} (h : InK e) (N : Nat) : ∃ l, Tryz.prog.keyLits (N + 1 + 1 + 1) 51 [.int .i64 e.k, .bool e.n, .int .i64 e.d, .int .i64 e.x, sV e.t] = some l := by
 obtain ⟨k, n, d, x, t⟩ := e
 obtain ⟨hk, hd, hx, ht⟩ := h
 simp only at hk hd hx ht
 have hu := Tryz.underlying51
 have hv := Tryz.underlying49
 have h3 := Tryz.underlying3
 have h4 := Tryz.underlying4
 have h9 := Tryz.underlying9
 have hc : Tryz.prog.cellsOf 51 = 5 := by kernel_rfl
 have hcd : Tryz.prog.cellsOf 49 = 3 := by kernel_rfl
 have hc3 : Tryz.prog.cellsOf 3 = 1 := by kernel_rfl
 have hc4 : Tryz.prog.cellsOf 4 = 1 := by kernel_rfl
 have hc9 : Tryz.prog.cellsOf 9 = 1 := by kernel_rfl
 have m0 : IntKind.i64.min = -9223372036854775808 := by decide
 have m1 : IntKind.i64.max = 9223372036854775807 := by decide
 have wk : (Lit.int .i64 k).wf = true := by simp [Lit.wf, m0, m1]; omega
 have wd : (Lit.int .i64 d).wf = true := by simp [Lit.wf, m0, m1]; omega
 have wx : (Lit.int .i64 x).wf = true := by simp [Lit.wf, m0, m1]; omega
 have ws : (⟨t.toArray⟩ : ByteArray).size ≤ maxLen := by show t.toArray.size ≤ maxLen; unfold maxLen; simp; omega
 simp [Program.keyLits, hu, hv, h3, h4, h9, hc, hcd, hc3, hc4, hc9, wk, wd, wx, ws]
 rw [if_pos (fun i hi => by
  match i, hi with
  | 0, _ => simp
  | 1, _ => simp
  | 2, _ => simp)]
 exact ⟨_, rfl⟩
theorem quad_key {K : QT} (h : InQ K) : ∃ l, keyOf Tryz.prog 52 K.val = some l := by
 obtain ⟨h0, h1, h2, h3⟩ := h
 have hu := Tryz.underlying52
 have hT : Tryz.prog.keyType 52 = true := by kernel_rfl
 have hc : Tryz.prog.cellsOf 52 = 20 := by kernel_rfl
 have hcv : Tryz.prog.cellsOf 51 = 5 := by kernel_rfl
 obtain ⟨N, hN⟩ : ∃ N, Tryz.prog.types.size = N + 1 + 1 + 1 := ⟨_, rfl⟩
 obtain ⟨l0, e0⟩ := val_lits h0 N
 obtain ⟨l1, e1⟩ := val_lits h1 N
 obtain ⟨l2, e2⟩ := val_lits h2 N
 obtain ⟨l3, e3⟩ := val_lits h3 N
 have hf : K.val.formed Tryz.prog 52 = true := by simp [Value.formed, hc]
 have hr : List.range 4 = [0, 1, 2, 3] := rfl
 have main : ∃ l, Tryz.prog.keyLits (N + 1 + 1 + 1 + 1) 52 K.cells = some l := by
  unfold Program.keyLits
  simp only [hu, hc, hcv, hr, List.mapM_cons, List.mapM_nil]
  simp [e0, e1, e2, e3]
 obtain ⟨l, hl⟩ := main
 unfold keyOf
 rw [hu]
 simp only [hT, hf, hN]
 have hcs : K.val.cells.toList = K.cells := rfl
 rw [hcs, hl]
 exact ⟨_, rfl⟩
noncomputable def kqOf (K : QT) : Lit := (keyOf Tryz.prog 52 K.val).getD (.bool false)
theorem kqOf_key {K : QT} (h : InQ K) : keyOf Tryz.prog 52 K.val = some (kqOf K) := by
 obtain ⟨l, hl⟩ := quad_key h
 unfold kqOf
 rw [hl]
 rfl
theorem kqOf_inj {a b : QT} (ha : InQ a) (hb : InQ b) (h : kqOf a = kqOf b) : a = b := by
 have := quadK.inj (kqOf_key ha) (by rw [h]; exact kqOf_key hb)
 obtain ⟨⟨k1, n1, d1, x1, t1⟩, ⟨k2, n2, d2, x2, t2⟩, ⟨k3, n3, d3, x3, t3⟩, ⟨k4, n4, d4, x4, t4⟩⟩ := a
 obtain ⟨⟨k5, n5, d5, x5, t5⟩, ⟨k6, n6, d6, x6, t6⟩, ⟨k7, n7, d7, x7, t7⟩, ⟨k8, n8, d8, x8, t8⟩⟩ := b
 simpa [and_assoc] using this
instance decQT : DecidableEq QT := fun a b => decidable_of_iff (a.a = b.a ∧ a.b = b.b ∧ a.c = b.c ∧ a.d = b.d) (by cases a; cases b; simp)
set_option maxRecDepth 20000 in
theorem kqOf_lit {K : QT} (h : InQ K) : WideAt.IsKeyLit (kqOf K) := quadK.key (kqOf_key h)
noncomputable def isKq (K : QT) (k : Lit) : Bool := @decide (kqOf K = k) (Classical.propDecidable _)
theorem isKq_iff {K : QT} {k : Lit} : isKq K k = true ↔ kqOf K = k := by unfold isKq; exact @decide_eq_true_iff _ (Classical.propDecidable _)
theorem isKq_false {K : QT} {k : Lit} : isKq K k = false ↔ kqOf K ≠ k := by rw [← Bool.not_eq_true, isKq_iff]

def updQ (f : QT → Option GE) (K : QT) (e : GE) : QT → Option GE := fun Q => if K = Q then some e else f Q
theorem updQ_same (f : QT → Option GE) (K : QT) (e : GE) : updQ f K e K = some e := by unfold updQ; rw [if_pos rfl]
theorem updQ_other {f : QT → Option GE} {K Q : QT} {e : GE} (h : K ≠ Q) : updQ f K e Q = f Q := by unfold updQ; rw [if_neg h]
/-- What a map says of keys, and which it has. -/
def HoldsQ (D : DataW Unit) (f : QT → Option GE) (T : List QT) : Prop :=
 Maps.IsMap D ∧ (∀ k, Maps.has D k = T.any fun K => isKq K k) ∧ ∀ K, InQ K → ∀ z, D.atKey (kqOf K) z = match f K with | some e => e.d | none => z
/-- One more key, if it is new. -/
def addK (T : List QT) (K : QT) : List QT := if K ∈ T then T else T ++ [K]
set_option maxRecDepth 20000 in
theorem HoldsQ.put {D : DataW Unit} {f : QT → Option GE} {T : List QT} (h : HoldsQ D f T) {K : QT} (hK : InQ K) (e : GE) : HoldsQ (D.put (kqOf K) e.d) (updQ f K e) (addK T K) := by
 obtain ⟨h1, h2, h3⟩ := h
 refine ⟨h1.put _ _, fun j => ?_, fun Q hQ z => ?_⟩
 ·
  unfold addK
  by_cases q : kqOf K = j
  ·
   subst q
   rw [Maps.has_put_same h1 (kqOf_lit hK)]
   symm
   rw [List.any_eq_true]
   refine ⟨K, ?_, isKq_iff.2 rfl⟩
   by_cases m : K ∈ T
   ·
    rw [if_pos m]; exact m
   ·
    rw [if_neg m]; simp
  ·
   rw [Maps.has_put_other (Ne.symm q), h2]
   by_cases m : K ∈ T
   ·
    rw [if_pos m]
   ·
    rw [if_neg m, List.any_append, List.any_cons, List.any_nil, isKq_false.2 q]
    simp
 ·
  by_cases q : K = Q
  ·
   subst q
   rw [Maps.atKey_put_same h1 (kqOf_lit hK), updQ_same]
  ·
   rw [Maps.atKey_put_other (fun e => q (kqOf_inj hK hQ e.symm)), h3 Q hQ, updQ_other q]
/-- The map at m says so of keys, and holds at most n. -/
def MapQ (w : World) (m n : Nat) (f : QT → Option GE) (T : List QT) : Prop := ∃ D, w.ownsMap Tryz.prog 52 glR m n D ∧ HoldsQ D f T
theorem MapQ.lt {w : World} {m n : Nat} {f : QT → Option GE} {T : List QT} (h : MapQ w m n f T) : m < w.heap.size := by
 obtain ⟨D, h1, h2⟩ := h
 exact h1.lt
theorem MapQ.later {w w' : World} {m n : Nat} {f : QT → Option GE} {T : List QT} (h : MapQ w m n f T) (x : Ext w w') : MapQ w' m n f T := by
 obtain ⟨D, h1, h2⟩ := h
 have hlt := h1.lt
 obtain ⟨es, c, hb, h3⟩ := h1
 exact ⟨D, ⟨es, c, by rw [x.block m hlt]; exact hb, h3⟩, h2⟩
theorem MapQ.kept {w w' : World} {m n : Nat} {f : QT → Option GE} {T : List QT} {row : Option Nat} (h : MapQ w m n f T) (g : w.grownBy w' row) (hne : some m ≠ row) : MapQ w' m n f T := by
 obtain ⟨D, h1, h2⟩ := h
 exact ⟨D, h1.kept g hne, h2⟩
theorem MapQ.made (w : World) : MapQ (w.alloc (.map #[] 0)) w.heap.size 0 (fun _ => none) [] := ⟨_, World.ownsMap_made w _ _ _, ⟨⟨[], rfl⟩, fun _ => rfl, fun _ _ _ => rfl⟩⟩
set_option maxRecDepth 20000 in
theorem MapQ.put {w : World} {m n : Nat} {f : QT → Option GE} {T : List QT} (h : MapQ w m n f T) (hn : n ≤ 2000000) {K : QT} (hK : InQ K) (e : GE) :
  ∃ u, (Instr.mapUpdate 47 (.map (some m)) K.val e.sl).run Tryz.prog w = .ok () u ∧ MapQ u m (n + 1) (updQ f K e) (addK T K) ∧ w.grownBy u (some m) := by
 obtain ⟨D, h1, h2⟩ := h
 obtain ⟨u, r, o, g⟩ := h1.update quadK mapQ_type (show n < maxLen by unfold maxLen; omega) (kqOf_key hK) (glR_of e)
 exact ⟨u, r, ⟨_, o, h2.put hK e⟩, g⟩
def lookQ (f : QT → Option GE) (K : QT) : Value := match f K with | some e => e.sl | none => .slice none 0 0
set_option maxRecDepth 20000 in
theorem MapQ.look {w : World} {m n : Nat} {f : QT → Option GE} {T : List QT} (h : MapQ w m n f T) {K : QT} (hK : InQ K) :
  (Instr.lookup 47 (.map (some m)) K.val false).run Tryz.prog w = .ok (lookQ f K) w := by
 obtain ⟨D, h1, h2⟩ := h
 obtain ⟨v, ps, hrun, hv⟩ := h1.lookup quadK mapQ_type (zero_ints w) (show glR (.slice none 0 0) = some (.nil, []) from rfl) (kqOf_key hK)
 rw [hrun]
 congr 1
 rw [h2.2.2 K hK] at hv
 unfold lookQ
 cases hf : f K with
 | none =>
  rw [hf] at hv
  rcases glR_inv hv with ⟨rfl, _⟩ | ⟨g, n, c, rfl, e⟩
  ·
   rfl
  ·
   cases congrArg Prod.fst e
 | some q =>
  rw [hf] at hv
  rcases glR_inv hv with ⟨rfl, e⟩ | ⟨g, n, c, rfl, e⟩
  ·
   cases congrArg Prod.fst e
  ·
   have e1 := congrArg Prod.fst e
   simp [GE.d] at e1
   obtain ⟨a, b, c'⟩ := e1
   have a' : q.g = g := by omega
   have b' : q.ns.length = n := by omega
   have c'' : q.cp = c := by omega
   simp only
   rw [← a', ← b', ← c'']

section
variable {P : Program} {ops : Array Oper} {Q : Exit → Act → World → Prop}

/-- The edges go back. -/
def rhOk (md : Region.Mode) (ops : Array Oper) : Bool :=
 (List.range ops.size).all fun i =>
  match ops[i]? with
  | none => true
  | some o => o.after.all fun e => !Region.binds md e || decide (e.on < i)
theorem rhOk_spec {md : Region.Mode} (h : rhOk md ops = true) {i : Nat} {o : Oper} (hi : ops[i]? = some o) : ∀ e ∈ o.after, Region.binds md e = true → e.on < i := by
 have hlt : i < ops.size := by
  rcases Nat.lt_or_ge i ops.size with h' | h'
  ·
   exact h'
  ·
   rw [Array.getElem?_eq_none h'] at hi; cases hi
 have := (List.all_eq_true.1 h) i (List.mem_range.2 hlt)
 rw [hi] at this
 intro e he hb
 have h2 := (Array.all_eq_true_iff_forall_mem.1 this) e he
 rw [hb] at h2
 simpa using h2
theorem wpOp_of_ops_g {i : Nat} {o : Oper} {K : Act → World → Prop} {a : Act} {w : World} (ho : ops[i]? = some o)
  (h : if Region.wanted o (yielded ops a.tmps) = true then wpList P #[{ o with guard := none }] (Exit.then K Q) [{ o with guard := none }] a w else K (a.put o.dst undef) w) : wpOp P ops Q i K a w := by
 unfold wpOp
 simp only [ho]
 split
 ·
  next hw =>
  rw [if_pos hw] at h
  simp only [wpList, Region.wanted, if_true] at h
  rcases h with h | ⟨h1, h2⟩
  ·
   left
   unfold Oper.wp at *
   have e : execOp a.eval { o with guard := none } = execOp a.eval o := rfl
   rw [e] at h
   generalize (execOp a.eval o).run P w = r at *
   cases r with
   | ok n w' =>
    cases n
    case enter f args =>
     refine Calls.mono h fun e w'' he => ?_
     cases e <;> exact he
    all_goals exact h
   | halt x w' => cases x <;> exact h
  ·
   exact .inr ⟨h1, h2⟩
 ·
  next hw =>
  rw [if_neg hw] at h
  exact h

theorem all_listed_g {md : Region.Mode} (hc : rhOk md ops = true) {listed : Array Bool} (hsz : listed.size = ops.size) (hr : Region.ready md ops listed = []) : ∀ i, i < ops.size → listed.getD i false = true := by
 intro i
 induction i using Nat.strongRecOn with
 | ind i ih =>
  intro hi
  cases hl : listed.getD i false with
  | true => rfl
  | false =>
   exfalso
   have hlt : i < listed.size := by omega
   have h1 : listed.getD i true = false := by
    rw [Array.getD_eq_getD_getElem?, Array.getElem?_eq_getElem hlt] at hl ⊢
    exact hl
   have ho : ops[i]? = some ops[i] := Array.getElem?_eq_getElem hi
   have hlow := rhOk_spec hc ho
   have : i ∈ Region.ready md ops listed := mem_ready.2 ⟨h1, _, ho, fun e he hb => ih e.on (hlow e he hb) (Nat.lt_trans (hlow e he hb) hi)⟩
   rw [hr] at this
   cases this

/-- THE REGION. -/
theorem wp_region_letters_g {X : Type} {id : Nat} {a : Act} {w : World} (F : X → Act) (I : (Nat → Bool) → X → World → Prop) (hm : P.follows .mixedOrders = true) (hc : rhOk .any ops = true)
  (x0 : X) (h0 : a = F x0) (hI : I (fun _ => false) x0 { w with drawn := w.drawn + 1 })
  (step : ∀ L x w i o (K : Act → World → Prop), (∀ x' w', I (fun j => if j = i then true else L j) x' w' → K (F x') w') → ops[i]? = some o → L i = false → (∀ e ∈ o.after, Region.binds .any e = true → L e.on = true) → I L x w →
   if Region.wanted o (yielded ops (F x).tmps) = true then wpList P #[{ o with guard := none }] (Exit.then K Q) [{ o with guard := none }] (F x) w else K ((F x).put o.dst undef) w)
  (fin : ∀ L x w, (∀ j, j < ops.size → L j = true) → I L x w → Q .normal (F x) w) : (Code.region id ops true).wp P Q a w := by
 refine wp_region_inv (fun listed a w => listed.size = ops.size ∧ ∃ x, a = F x ∧ I (fun j => listed.getD j false) x w) hm ?_ ?_ ?_
 ·
  refine ⟨by simp, x0, h0, ?_⟩
  have e : (fun j => (Array.replicate ops.size false).getD j false) = fun _ => false := by
   funext j
   rw [Array.getD_eq_getD_getElem?]
   rcases Nat.lt_or_ge j ops.size with h' | h'
   ·
    rw [Array.getElem?_eq_getElem (by simpa using h')]; simp
   ·
    rw [Array.getElem?_eq_none (by simpa using h')]; simp
  rw [e]
  exact hI
 ·
  rintro listed a w i o ⟨hs, x, rfl, hx⟩ hi ho
  obtain ⟨hun, o', ho', hall⟩ := mem_ready.1 hi
  have : o' = o := by rw [ho] at ho'; exact (Option.some.inj ho').symm
  subst this
  have hlt : i < listed.size := by
   rcases Nat.lt_or_ge i listed.size with h' | h'
   ·
    exact h'
   ·
    rw [Array.getD_eq_getD_getElem?, Array.getElem?_eq_none h'] at hun; cases hun
  have hun' : listed.getD i false = false := by
   rw [Array.getD_eq_getD_getElem?, Array.getElem?_eq_getElem hlt] at hun ⊢
   exact hun
  refine wpOp_mono ?_ (wpOp_of_ops_g ho (step _ x w i o' (fun a' w' => ∃ x', a' = F x' ∧ I (fun j => if j = i then true else listed.getD j false) x' w') (fun x' w' h => ⟨x', rfl, h⟩) ho hun' hall hx))
  rintro a' w' ⟨x', rfl, hx'⟩
  refine ⟨by simp [hs], x', rfl, ?_⟩
  have e : (fun j => (listed.setIfInBounds i true).getD j false) = fun j => if j = i then true else listed.getD j false := by
   funext j
   by_cases hj : j = i
   ·
    subst hj
    rw [if_pos rfl, Array.getD_eq_getD_getElem?, Array.getElem?_setIfInBounds_self_of_lt hlt]
    rfl
   ·
    rw [if_neg hj, getD_set_ne false (fun e => hj e.symm)]
  rw [e]
  exact hx'
 ·
  rintro listed a w hr ⟨hs, x, rfl, hx⟩
  exact fin _ x w (all_listed_g hc hs hr) hx

end

end Go.Proofs.YtgpfddneablcpaaGreatDoor

