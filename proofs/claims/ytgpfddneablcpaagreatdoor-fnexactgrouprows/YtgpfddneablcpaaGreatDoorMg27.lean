/-
  Several texts in one: E15, Pv1, Pv3, Pv4, Pv5, Pv6, Qf, Qg, Y1b, Y1d.
-/
import Derived.Test.YtgpfddneablcpaaGreatDoorMg26
import Derived.Test.YtgpfddneablcpaaGreatDoorMg5
import Derived.Deep.RegionHeld3
import Derived.Test.YtgpfddneablcpaaGreatDoorMg4
import Derived.Deep.AppendSrc
import Derived.Deep.Upon
import Derived.OwnWalk
import Derived.Laws.OwnMore
import Derived.Test.YtgpfddneablcpaaGreatDoorMg24
import Derived.Lib.AppendZerosOnto
import Derived.Lib.SliceRun
import Derived.Lib.Walk
import Derived.Shelf.Abstract
import Derived.Test.YtgpfddneablcpaaGreatDoorMg22
namespace Go.Proofs.YtgpfddneablcpaaGreatDoor
open Go.RowKit

/-- Groups that lie somewhere. -/
def GroupsAt (w : World) (v : Value) (L : List GG) : Prop :=
 (∃ p cap, v = .slice p L.length cap ∧ L.length ≤ cap ∧ (0 < L.length → ∃ g, p = some ⟨g, 0, none⟩ ∧ ∀ i x, L[i]? = some x → w.cell? ⟨g, i * 2, none⟩ = some x.kv ∧ w.cell? ⟨g, i * 2 + 1, none⟩ = some x.e.sl)) ∧ ∀ x ∈ L, ValsIn w x.kv x.K ∧ NumsAt w x.e.sl x.e.ns
theorem GroupsAt.later {w w' : World} {v : Value} {L : List GG} (h : GroupsAt w v L) (x : Ext w w') : GroupsAt w' v L := by
 obtain ⟨⟨p, cap, h1, h2, h3⟩, h4⟩ := h
 refine ⟨⟨p, cap, h1, h2, fun h0 => ?_⟩, fun y hy => ⟨(h4 y hy).1.later x, (h4 y hy).2.later x⟩⟩
 obtain ⟨g, h5, h6⟩ := h3 h0
 exact ⟨g, h5, fun i y hi => ⟨cell_later x (h6 i y hi).1, cell_later x (h6 i y hi).2⟩⟩
/-- What is told of a group. -/
def GG.told (g : GG) : List VT × List Nat := (g.K, g.e.ns)
set_option maxHeartbeats 1000000 in
theorem eqGroupL (a b u v : Value) (K : List VT) (N : List Nat) (w : World) (ha : ValsIn w a K) (hb : ValsIn w b K) (hu : NumsAt w u N) (hv : NumsAt w v N) (l1 : K.length ≤ 2000000) (l2 : N.length ≤ 1048576) :
  Calls Tryz.prog 28 #[.agg #[a, u], .agg #[b, v]] w fun e w' => e = .returned (.bool true) ∧ Ext w w' := by
 obtain ⟨u0, u1, h0, h1, s0, s1, B0, B1, X⟩ := mkB2 w [a, u] [b, v] 57 57
 have CV := eqVals a b K u1 (ha.later X) (hb.later X) l1
 have CN : Hid (∀ W, Ext w W → Calls Tryz.prog 11 #[u, v] W fun e w' => e = .returned (.bool true) ∧ Ext W w') := fun W hW => eqNums u v N W (hu.later hW) (hv.later hW) l2
 have a0 := (B0 0 _ rfl).1
 have a1 := (B0 1 _ rfl).1
 have b0 := (B1 0 _ rfl).1
 have b1 := (B1 1 _ rfl).1
 clear ha hb hu hv
 go_enter Tryz.func28, Tryz.ntmps28
 go_wp2_with fail
 refine CV.mono ?_
 rintro e w1 ⟨rfl, e1⟩
 have a0 := cell_later e1 a0
 have a1 := cell_later e1 a1
 have b0 := cell_later e1 b0
 have b1 := cell_later e1 b1
 have C2 := CN.out w1 (xt X e1)
 go_wp2_with fail
 refine C2.mono ?_
 rintro e w2 ⟨rfl, e2⟩
 go_wp2_with fail
 go_ret
 exact ⟨rfl, xt X (xt e1 e2)⟩
set_option maxRecDepth 8000 in
set_option maxHeartbeats 2000000 in
theorem eqGroups (va vb : Value) (La Lb : List GG) (w : World) (ha : GroupsAt w va La) (hb : GroupsAt w vb Lb) (he : La.map GG.told = Lb.map GG.told) (hl : La.length ≤ 2000) (hs : ∀ x ∈ La, x.K.length ≤ 2000000 ∧ x.e.ns.length ≤ 1048576) :
  Calls Tryz.prog 9 #[va, vb] w fun e w' => e = .returned (.bool true) ∧ Ext w w' := by
 have hlen : Lb.length = La.length := by have := congrArg List.length he; simpa using this.symm
 have CE : Hid (∀ (W : World) (k : Nat) (x y : GG), Ext w W → La[k]? = some x → Lb[k]? = some y → Calls Tryz.prog 28 #[.agg #[x.kv, x.e.sl], .agg #[y.kv, y.e.sl]] W fun e w' => e = .returned (.bool true) ∧ Ext W w') := fun W k x y hW hx hy => by
  have ex : x.told = y.told := by
   have := congrArg (fun l => l[k]?) he
   simp only [List.getElem?_map, hx, hy, Option.map_some, Option.some.injEq] at this
   exact this
  have e1 : x.K = y.K := congrArg Prod.fst ex
  have e2 : x.e.ns = y.e.ns := congrArg Prod.snd ex
  have m1 := List.mem_of_getElem? hx
  have m2 := List.mem_of_getElem? hy
  exact eqGroupL x.kv y.kv x.e.sl y.e.sl x.K x.e.ns W ((ha.2 x m1).1.later hW) (by rw [e1]; exact (hb.2 y m2).1.later hW) ((ha.2 x m1).2.later hW) (by rw [e2]; exact (hb.2 y m2).2.later hW) (hs x m1).1 (hs x m1).2
 obtain ⟨⟨pa, ca, rfl, hca, hra⟩, -⟩ := ha
 obtain ⟨⟨pb, cb, rfl, hcb, hrb⟩, -⟩ := hb
 rw [hlen] at hcb hrb ⊢
 obtain ⟨n, hn⟩ : ∃ n, La.length = n := ⟨_, rfl⟩
 have HN : Hid (La.length = n ∧ Lb.length = n) := ⟨hn, by rw [hlen]; exact hn⟩
 rw [hn] at hca hcb hra hrb hl ⊢
 have HA : Hid (0 < n → ∃ g, pa = some ⟨g, 0, none⟩ ∧ ∀ i x, La[i]? = some x → w.cell? ⟨g, i * 2, none⟩ = some x.kv ∧ w.cell? ⟨g, i * 2 + 1, none⟩ = some x.e.sl) := hra
 have HB : Hid (0 < n → ∃ g, pb = some ⟨g, 0, none⟩ ∧ ∀ i x, Lb[i]? = some x → w.cell? ⟨g, i * 2, none⟩ = some x.kv ∧ w.cell? ⟨g, i * 2 + 1, none⟩ = some x.e.sl) := hrb
 clear hra hrb hn hlen he hs
 go_enter Tryz.func9, Tryz.ntmps9
 go_wp2_with fail
 go_loopw [5] (fun i wr => ∃ k : Nat, k ≤ n ∧ i = .int .i64 k ∧ Hid (Ext w wr)) (fun i _ => n - (intOf i).toNat)
 case atStart => exact ⟨0, by omega, rfl, xr _⟩
 case round =>
  obtain ⟨k, hk, rfl, HO⟩ := hrel
  by_cases hlt : k < n
  ·
   have i2 : (k : Int) < (n : Int) := by omega
   obtain ⟨x, hx⟩ : ∃ x, La[k]? = some x := ⟨_, List.getElem?_eq_getElem (by rw [HN.out.1]; exact hlt)⟩
   obtain ⟨y, hy⟩ : ∃ y, Lb[k]? = some y := ⟨_, List.getElem?_eq_getElem (by rw [HN.out.2]; exact hlt)⟩
   obtain ⟨g, rfl, RA⟩ := HA.out (by omega)
   obtain ⟨g', rfl, RB⟩ := HB.out (by omega)
   have c0 := cell_later HO.out (RA k x hx).1
   have c1 := cell_later HO.out (RA k x hx).2
   have d0 := cell_later HO.out (RB k y hy).1
   have d1 := cell_later HO.out (RB k y hy).2
   have CL : Hid (∀ W, Ext w W → Calls Tryz.prog 28 #[.agg #[x.kv, x.e.sl], .agg #[y.kv, y.e.sl]] W fun e w' => e = .returned (.bool true) ∧ Ext W w') := fun W hW => CE.out W k x y hW hx hy
   obtain ⟨q1, hq1⟩ : ∃ q, x.kv = q := ⟨_, rfl⟩
   obtain ⟨q2, hq2⟩ : ∃ q, x.e.sl = q := ⟨_, rfl⟩
   obtain ⟨q3, hq3⟩ : ∃ q, y.kv = q := ⟨_, rfl⟩
   obtain ⟨q4, hq4⟩ : ∃ q, y.e.sl = q := ⟨_, rfl⟩
   rw [hq1] at c0 CL
   rw [hq2] at c1 CL
   rw [hq3] at d0 CL
   rw [hq4] at d1 CL
   clear hx hy RA RB hq1 hq2 hq3 hq4
   go_wp2_with fail
   go_region_held3 (fun w' => w'.cell? ⟨g, k * 2, none⟩ = some q1 ∧ w'.cell? ⟨g, k * 2 + 1, none⟩ = some q2 ∧ w'.cell? ⟨g', k * 2, none⟩ = some q3 ∧ w'.cell? ⟨g', k * 2 + 1, none⟩ = some q4) (go_keep)
    (first
     | (go_at_call 28; refine (CL.out _ (xd HO.out)).mono ?_; rintro e w' ⟨rfl, E⟩; have Y := xt (xd (xr _)) E; have rc0 := cell_later Y c0; have rc1 := cell_later Y c1; have rd0 := cell_later Y d0; have rd1 := cell_later Y d1))
   have HM : Hid (Ext w w') := xt HO.out Y
   clear CL
   go_wp2_with fail
   go_roundw
   case rel => exact ⟨k + 1, by omega, by go_num, HM⟩
   case measure => simp [intOf]; omega
  ·
   obtain rfl : k = n := by omega
   have i2 : ¬ (k : Int) < (k : Int) := by omega
   go_wp2_with fail
   go_ret
   exact ⟨rfl, HO.out⟩

/-- Whether a column is there, and not told before. -/
def okAt (c : Int) (l : List Int) (i : Nat) : Bool := !(decide (l.getD i 0 < 1 ∨ c < l.getD i 0)) && !((l.take i).contains (l.getD i 0))
def onceB (c : Int) (l : List Int) : Bool := (List.range l.length).all (okAt c l)
theorem onceB_true {c : Int} {l : List Int} (h : ∀ i, i < l.length → okAt c l i = true) : onceB c l = true := by
 unfold onceB
 rw [List.all_eq_true]
 intro i hi
 exact h i (by simpa using hi)
theorem onceB_false {c : Int} {l : List Int} {i : Nat} (hi : i < l.length) (h : okAt c l i = false) : onceB c l = false := by
 cases hb : onceB c l with
 | false => rfl
 | true =>
  unfold onceB at hb
  rw [List.all_eq_true] at hb
  have := hb i (by simpa using hi)
  rw [h] at this
  cases this
theorem getD_at {l : List Int} {i : Nat} (h : i < l.length) : l[i]? = some (l.getD i 0) := by
 rw [List.getElem?_eq_getElem h]; simp [h]
theorem contains_at {l : List Int} {i j : Nat} {x : Int} (hj : j < i) (hi : i ≤ l.length) (h : l.getD j 0 = x) : (l.take i).contains x = true := by
 rw [List.contains_iff_mem]
 refine List.mem_of_getElem? (i := j) ?_
 rw [List.getElem?_take, if_pos hj, getD_at (by omega), h]
theorem contains_none {l : List Int} {i : Nat} {x : Int} (h : ∀ j, j < i → l.getD j 0 ≠ x) : (l.take i).contains x = false := by
 cases hb : (l.take i).contains x with
 | false => rfl
 | true =>
  rw [List.contains_iff_mem] at hb
  obtain ⟨j, hj, he⟩ := List.getElem_of_mem hb
  rw [List.length_take] at hj
  exfalso
  refine h j (by omega) ?_
  rw [List.getElem_take] at he
  rw [← he]
  simp [show j < l.length by omega]

/-- A row of whole numbers of one's own, that may grow. -/
abbrev OwnZ (w : World) (base : Nat) (v : Value) (l : List Int) : Prop := w.ownsRow base 3 1 v l.length (l.map (Value.int .i64))

/-- Whether a number is in a row. -/
theorem indexZ (v : Value) (l : List Int) (x : Int) (w : World) (h : IntsIn w v l) (hl : l.length ≤ 2000) :
  Calls Tryz.prog 62 #[v, .int .i64 x] w fun e w' => ((e = .returned (.int .i64 (-1)) ∧ l.contains x = false) ∨ ∃ m : Nat, e = .returned (.int .i64 m) ∧ l.contains x = true ∧ m < 2000) ∧ Ext w w' := by
 obtain ⟨p, cap, rfl, hcap, hi⟩ := h
 obtain ⟨n, hn⟩ : ∃ n, l.length = n := ⟨_, rfl⟩
 have HN : Hid (l.length = n) := hn
 rw [hn] at hcap hl hi ⊢
 have HI : Hid (0 < n → ∃ b o, p = some ⟨b, o, none⟩ ∧ ∀ i, i < n → w.cell? ⟨b, o + i, none⟩ = some (.int .i64 (l.getD i 0))) := hi
 clear hn hi
 go_enter Tryz.func62, Tryz.ntmps62
 go_wp2_with fail
 go_loopw [8] (fun i wr => ∃ k : Nat, k ≤ n ∧ i = .int .i64 k ∧ Hid (Ext w wr ∧ ∀ j, j < k → l.getD j 0 ≠ x)) (fun i _ => n - (intOf i).toNat)
 case atStart => exact ⟨0, by omega, rfl, xr _, fun j hj => absurd hj (by omega)⟩
 case round =>
  obtain ⟨k, hk, rfl, HO⟩ := hrel
  by_cases hlt : k < n
  ·
   have i2 : (k : Int) < (n : Int) := by omega
   obtain ⟨b, o, rfl, hc⟩ := HI.out (by omega)
   have c1 := cell_later HO.out.1 (hc k hlt)
   obtain ⟨y, hy⟩ : ∃ y, l.getD k 0 = y := ⟨_, rfl⟩
   have HY : Hid (l.getD k 0 = y) := hy
   rw [hy] at c1
   clear hy hc
   by_cases hxy : x = y
   ·
    subst hxy
    have HT : Hid (l.contains x = true) := by
     show _ = _
     rw [List.contains_iff_mem]
     refine List.mem_of_getElem? (i := k) ?_
     rw [List.getElem?_eq_getElem (by rw [HN.out]; exact hlt)]
     have := HY.out
     simp [show k < l.length by rw [HN.out]; exact hlt] at this
     rw [this]
    have HF : Hid (Ext w wr) := HO.out.1
    go_wp2_with fail
    go_ret
    exact ⟨Or.inr ⟨k, rfl, HT.out, by omega⟩, HF.out⟩
   ·
    have HM : Hid (Ext w wr ∧ ∀ j, j < k + 1 → l.getD j 0 ≠ x) := ⟨HO.out.1, fun j hj => by
     by_cases e : j = k
     ·
      subst e; rw [HY.out]; exact fun e => hxy e.symm
     ·
      exact HO.out.2 j (by omega)⟩
    go_wp2_with fail
    go_roundw
    case rel => exact ⟨k + 1, by omega, by go_num, HM⟩
    case measure => simp [intOf]; omega
  ·
   obtain rfl : k = n := by omega
   have HT : Hid (l.contains x = false) := by
    show _ = _
    cases hb : l.contains x with
    | false => rfl
    | true =>
     rw [List.contains_iff_mem] at hb
     obtain ⟨j, hj, he⟩ := List.getElem_of_mem hb
     exact absurd (by rw [← he]; simp [hj]) (HO.out.2 j (by rw [← HN.out]; exact hj))
   have HF : Hid (Ext w wr) := HO.out.1
   go_wp2_with fail
   go_ret
   exact ⟨Or.inl ⟨rfl, HT.out⟩, HF.out⟩
theorem containsZ (v : Value) (l : List Int) (x : Int) (w : World) (h : IntsIn w v l) (hl : l.length ≤ 2000) :
  Calls Tryz.prog 41 #[v, .int .i64 x] w fun e w' => e = .returned (.bool (l.contains x)) ∧ Ext w w' := by
 have C0 := indexZ v l x w h hl
 obtain ⟨pk, nk, rfl, _, _⟩ := h
 obtain ⟨R, hR⟩ : ∃ R, l.contains x = R := ⟨_, rfl⟩
 rw [hR] at C0 ⊢
 obtain ⟨n, hn⟩ : ∃ n, l.length = n := ⟨_, rfl⟩
 rw [hn] at C0 hl ⊢
 clear hR hn
 go_enter Tryz.func41, Tryz.ntmps41
 go_wp2_with fail
 refine C0.mono ?_
 rintro e w1 ⟨⟨rfl, rfl⟩ | ⟨m, rfl, rfl, hm⟩, e1⟩
 ·
  go_wp2_with fail
  go_ret
  exact ⟨rfl, e1⟩
 ·
  have m0 : (0 : Int) ≤ (m : Int) := by omega
  have m1 : decide ((m : Int) ≥ 0) = true := decide_eq_true m0
  go_wp2_with fail
  go_ret
  exact ⟨rfl, e1⟩

theorem lacksP (r c : Int) (v : Value) (x : Int) (w : World) :
  Calls Tryz.prog 40 #[grV r c v, .int .i64 x] w fun e w' => e = .returned (.bool (decide (x < 1 ∨ c < x))) ∧ Ext w w' := by
 have X0 := x1 w (.cells #[.int .i64 r, .int .i64 c, v] 31)
 have B0 := vec_made w [.int .i64 r, .int .i64 c, v] 31
 obtain ⟨a0, a1, a2⟩ := Vec.three B0
 by_cases h1 : x < 1
 ·
  rw [decide_eq_true (Or.inl h1)]
  have f1 : decide (x < 1) = true := decide_eq_true h1
  go_enter Tryz.func40, Tryz.ntmps40
  go_wp2_with fail
  go_ret
  exact ⟨rfl, X0⟩
 ·
  have f1 : decide (x < 1) = false := decide_eq_false h1
  have e : decide (x < 1 ∨ c < x) = decide (c < x) := decide_eq_decide.2 ⟨fun h => h.resolve_left h1, Or.inr⟩
  rw [e]
  go_enter Tryz.func40, Tryz.ntmps40
  go_wp2_with fail
  go_ret
  exact ⟨rfl, X0⟩
theorem IntsIn.take {w : World} {p : Option Addr} {n cap : Nat} {l : List Int} (h : IntsIn w (.slice p n cap) l) (hn : l.length = n) {k : Nat} (hk : k ≤ n) : IntsIn w (.slice p k cap) (l.take k) := by
 obtain ⟨p', cap', e, hc, hi⟩ := h
 cases e
 have hlen : (l.take k).length = k := by rw [List.length_take]; omega
 refine ⟨p, cap, by rw [hlen], by rw [hlen]; omega, fun h0 => ?_⟩
 rw [hlen] at h0
 obtain ⟨b, o, e, hc⟩ := hi (by omega)
 refine ⟨b, o, e, fun i hi' => ?_⟩
 rw [hlen] at hi'
 rw [hc i (by omega)]
 have : (l.take k).getD i 0 = l.getD i 0 := by simp [List.getD_eq_getElem?_getD, hi']
 rw [this]
set_option maxRecDepth 8000 in
set_option maxHeartbeats 2000000 in
theorem hasOnceI (r c : Int) (v u : Value) (l : List Int) (w : World) (h : IntsIn w u l) (hl : l.length ≤ 6) :
  Calls Tryz.prog 22 #[grV r c v, u] w fun e w' => e = .returned (.bool (onceB c l)) ∧ Ext w w' := by
 obtain ⟨n, hn⟩ : ∃ n, l.length = n := ⟨_, rfl⟩
 have HN : Hid (l.length = n) := hn
 have h' := h
 obtain ⟨p, cap, e, hcap, hi⟩ := h
 rw [hn] at e hcap hl hi
 subst e
 have HW : Hid (IntsIn w (.slice p n cap) l) := h'
 have HI : Hid (0 < n → ∃ b o, p = some ⟨b, o, none⟩ ∧ ∀ i, i < n → w.cell? ⟨b, o + i, none⟩ = some (.int .i64 (l.getD i 0))) := hi
 obtain ⟨R, hR⟩ : ∃ R, onceB c l = R := ⟨_, rfl⟩
 have HR : Hid (onceB c l = R) := hR
 rw [hR]
 have X0 := x1 w (.cells #[.int .i64 r, .int .i64 c, v] 31)
 have B0 := vec_made w [.int .i64 r, .int .i64 c, v] 31
 obtain ⟨u0, hu0⟩ : ∃ u, w.alloc (.cells #[.int .i64 r, .int .i64 c, v] 31) = u := ⟨_, rfl⟩
 change Vec (w.alloc (.cells #[.int .i64 r, .int .i64 c, v] 31)) _ _ at B0
 rw [hu0] at X0 B0
 clear hn hi hR h'
 go_enter Tryz.func22, Tryz.ntmps22
 go_wp2_with fail
 go_loopw [9] (fun i wr => ∃ k : Nat, k ≤ n ∧ i = .int .i64 k ∧ Hid (Ext u0 wr ∧ ∀ j, j < k → okAt c l j = true)) (fun i _ => n - (intOf i).toNat)
 case atStart => exact ⟨0, by omega, rfl, xr _, fun j hj => absurd hj (by omega)⟩
 case round =>
  obtain ⟨k, hk, rfl, HO⟩ := hrel
  by_cases hlt : k < n
  ·
   have i2 : (k : Int) < (n : Int) := by omega
   have kc : (k : Int) ≤ (cap : Int) := by omega
   obtain ⟨b, o, e, hc⟩ := HI.out (by omega)
   have c1 := cell_later (xt X0 HO.out.1) (hc k hlt)
   have HT : Hid (IntsIn w (.slice p k cap) (l.take k)) := HW.out.take HN.out (by omega)
   have hlk : (l.take k).length ≤ 2000 := by rw [List.length_take]; omega
   subst e
   obtain ⟨b0, b1, b2⟩ := Vec.three (B0.later HO.out.1)
   obtain ⟨x, hx⟩ : ∃ x, l.getD k 0 = x := ⟨_, rfl⟩
   have HX : Hid (l.getD k 0 = x) := hx
   rw [hx] at c1
   clear hx hc
   have CL := lacksP r c v x wr
   have HK : Hid (okAt c l k = (!(decide (x < 1 ∨ c < x)) && !((l.take k).contains x))) := by show _ = _; unfold okAt; rw [HX.out]
   cases hb : decide (x < 1 ∨ c < x) with
   | true =>
    rw [hb] at CL
    have hr0 : R = false := by rw [← HR.out]; exact onceB_false (i := k) (by rw [HN.out]; exact hlt) (by rw [HK.out, hb]; rfl)
    subst hr0
    have HE : Hid (Ext w wr) := xt X0 HO.out.1
    clear hb HT hlk
    go_wp2_with (go_at_call 40; refine CL.mono ?_; rintro e w1 ⟨rfl, e1⟩)
    go_ret
    exact ⟨rfl, xt HE.out e1⟩
   | false =>
    rw [hb] at CL
    have HB : Hid (decide (x < 1 ∨ c < x) = false) := hb
    clear hb
    go_wp2_with fail
    clear c1 b0 b1 b2
    refine CL.mono ?_
    rintro e w1 ⟨rfl, e1⟩
    have CC := containsZ (.slice (some ⟨b, o, none⟩) k cap) (l.take k) x w1 (HT.out.later (xt (xt X0 HO.out.1) e1)) hlk
    have HE1 : Hid (Ext u0 w1) := xt HO.out.1 e1
    clear hlk CL
    go_wp2_with fail
    cases hq : (l.take k).contains x with
    | true =>
     rw [hq] at CC
     have hr0 : R = false := by rw [← HR.out]; exact onceB_false (i := k) (by rw [HN.out]; exact hlt) (by rw [HK.out, HB.out, hq]; rfl)
     subst hr0
     clear hq
     refine CC.mono ?_
     rintro e w2 ⟨rfl, e2⟩
     go_wp2_with fail
     go_ret
     exact ⟨rfl, xt X0 (xt HE1.out e2)⟩
    | false =>
     rw [hq] at CC
     have HM : Hid (∀ j, j < k + 1 → okAt c l j = true) := fun j hj => by
      by_cases e : j = k
      ·
       subst e; rw [HK.out, HB.out, hq]; rfl
      ·
       exact HO.out.2 j (by omega)
     clear hq
     refine CC.mono ?_
     rintro e w2 ⟨rfl, e2⟩
     have HE2 : Hid (Ext u0 w2) := xt HE1.out e2
     go_wp2_with fail
     go_roundw
     case rel => exact ⟨k + 1, by omega, by go_num, HE2.out, HM.out⟩
     case measure => simp [intOf]; omega
  ·
   obtain rfl : k = n := by omega
   have hr : R = true := by
    rw [← HR.out]
    exact onceB_true fun i hi => HO.out.2 i (by rw [← HN.out]; exact hi)
   subst hr
   have HF : Hid (Ext w wr) := xt X0 HO.out.1
   go_wp2_with fail
   go_ret
   exact ⟨rfl, HF.out⟩
abbrev MT.val (e : MT) : Value := measureV e.cl e.fd
/-- What a function says of measures. -/
structure AsksM (w : World) (f : Nat) (lb : Array Value) (p : MT → Bool) : Prop where
 ent : ∀ args w, (callFunc f args).run Tryz.prog w = .ok (.enter f args) w
 says : ∀ W e, Ext w W → Calls Tryz.prog f (#[MT.val e] ++ lb) W fun z w' => z = .returned (.bool (p e)) ∧ Ext W w'

/-- What a function value says of a column's rows. -/
structure Takes (w : World) (fi : Nat) (li : Array Value) (L : List VT) (q : Nat → Bool) : Prop where
 ent : ∀ args w, (callFunc fi args).run Tryz.prog w = .ok (.enter fi args) w
 says : ∀ W sv i, Ext w W → ValsIn W sv L → i < L.length → Calls Tryz.prog fi (#[sv, numV i] ++ li) W fun e w' => e = .returned (.bool (q i)) ∧ Ext W w'

theorem good_dims {r c : Int} {l : List VT} (h : goodG r c l = true) : ∃ R C : Nat, r = R ∧ c = C ∧ l.length = R * C ∧ R * C ≤ 2000 ∧ 1 ≤ R ∧ 1 ≤ C ∧ R ≤ 2000 ∧ C ≤ 2000 := by
 have hg := goodG_all h
 have hs : 1 ≤ r ∧ 1 ≤ c ∧ r * c ≤ 2000 ∧ (l.length : Int) = r * c := of_decide_eq_true hg.1
 obtain ⟨R, rfl⟩ := Int.eq_ofNat_of_zero_le (show 0 ≤ r by omega)
 obtain ⟨C, rfl⟩ := Int.eq_ofNat_of_zero_le (show 0 ≤ c by omega)
 have e : ((R * C : Nat) : Int) = (R : Int) * (C : Int) := by simp
 refine ⟨R, C, rfl, rfl, ?_, ?_, ?_, ?_, ?_, ?_⟩ <;> omega

end Go.Proofs.YtgpfddneablcpaaGreatDoor

