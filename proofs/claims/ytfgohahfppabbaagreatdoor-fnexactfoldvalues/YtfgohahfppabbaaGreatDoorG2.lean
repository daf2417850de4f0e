/-
  Chapter 12: slices.Clone and slices.DeleteFunc over rows of values.
-/
import Derived.Test.YtfgohahfppabbaaGreatDoorMg29
import Derived.Test.YtfgohahfppabbaaGreatDoorMg32
import Derived.Lib.AppendZeros
import Derived.Lib.SliceRun
import Derived.Lib.SlKept
import Derived.Shelf.SlicesE.Compact
import Derived.Laws.IdiomCopy
namespace Go.Proofs.YtfgohahfppabbaaGreatDoor
open Go.RowKit

/-- What stands in a row while others are struck. -/
structure KeptV (l : List VT) (p : VT → Bool) (j i : Nat) (M : List VT) : Prop where
 len : M.length = l.length
 lt : i < j
 le : j ≤ l.length
 ahead : M.take i = (l.take j).filter fun x => !p x
 rest : ∀ t, j ≤ t → M[t]? = l[t]?
theorem KeptV.num {l : List VT} {p : VT → Bool} {j i : Nat} {M : List VT} (K : KeptV l p j i M) : ((l.take j).filter fun x => !p x).length = i := by
 rw [← K.ahead, List.length_take, K.len]
 have := K.lt
 have := K.le
 omega
theorem KeptV.start {l : List VT} {p : VT → Bool} {k : Nat} (hk : k < l.length) (hp : ∀ x, l[k]? = some x → p x = true) (ha : ∀ j x, j < k → l[j]? = some x → p x = false) : KeptV l p (k + 1) k l := by
 refine ⟨rfl, Nat.lt_succ_self _, hk, ?_, fun _ _ => rfl⟩
 rw [List.take_add_one, List.getElem?_eq_getElem hk, List.filter_append]
 have e1 : (l.take k).filter (fun x => !p x) = l.take k := by
  rw [List.filter_eq_self]
  intro x hx
  obtain ⟨j, hj, rfl⟩ := List.getElem_of_mem hx
  rw [List.length_take] at hj
  rw [List.getElem_take, ha j _ (by omega) (List.getElem?_eq_getElem (by omega))]
  rfl
 rw [e1]
 have := hp _ (List.getElem?_eq_getElem hk)
 simp [this]
theorem KeptV.keep {l : List VT} {p : VT → Bool} {j i : Nat} {x : VT} {M : List VT} (K : KeptV l p j i M) (hx : l[j]? = some x) (hp : p x = false) : KeptV l p (j + 1) (i + 1) (M.set i x) := by
 have hj : j < l.length := (List.getElem?_eq_some_iff.1 hx).1
 have h1 := K.lt
 have h2 := K.len
 refine ⟨by simp [K.len], by omega, hj, ?_, fun t ht => ?_⟩
 ·
  have e1 : (l.take (j + 1)).filter (fun x => !p x) = (l.take j).filter (fun x => !p x) ++ [x] := by
   rw [List.take_add_one, hx, List.filter_append]
   simp [hp]
  have e2 : (M.set i x).take (i + 1) = M.take i ++ [x] := by
   rw [List.take_add_one, List.getElem?_set_self (by omega), List.take_set_of_le (Nat.le_refl _)]
   rfl
  rw [e1, e2, K.ahead]
 ·
  rw [List.getElem?_set_ne (by omega)]
  exact K.rest t (by omega)
theorem KeptV.skip {l : List VT} {p : VT → Bool} {j i : Nat} {x : VT} {M : List VT} (K : KeptV l p j i M) (hx : l[j]? = some x) (hp : p x = true) : KeptV l p (j + 1) i M := by
 have hj : j < l.length := (List.getElem?_eq_some_iff.1 hx).1
 refine ⟨K.len, Nat.lt_succ_of_lt K.lt, hj, ?_, fun t ht => K.rest t (by omega)⟩
 rw [List.take_add_one, hx, List.filter_append, ← K.ahead]
 simp [hp]
theorem ext_grownF {w a b : World} {r : Option Nat} (X : Ext w a) (G : a.grownBy b r) (hr : ∀ k, r = some k → w.heap.size ≤ k) : Ext w b := by
 refine ⟨by rw [← X.os]; exact G.os, by rw [← X.tape]; exact G.tape, by rw [← X.output]; exact G.output, Nat.le_trans X.size G.size, fun k hk => ?_⟩
 rw [G.block k (Nat.lt_of_lt_of_le hk X.size) (fun e => by have := hr k e.symm; omega)]
 exact X.block k hk
theorem ownW_own {w : World} {base : Nat} {v : Value} {l : List VT} (h : OwnW w base v l) {g : Nat} (hg : v.ownBlock = some g) : ∃ c, v = .slice (some ⟨g, 0, none⟩) l.length c ∧ l.length ≤ c ∧ base ≤ g ∧ OwnV w g l := by
 obtain ⟨hx, h1 | ⟨g', cap, cur, rfl, hb, hh, hn, -, hs, ht⟩⟩ := h
 ·
  rw [h1.1] at hg; cases hg
 ·
  cases hg
  refine ⟨cap, rfl, hn, hb, fun i e hi c u hc => ?_⟩
  have h5 := cells_lt hc
  have hil : i < l.length := (List.getElem?_eq_some_iff.1 hi).1
  have hlt : i * 5 + c < l.length * 5 := by omega
  have hf := flatV_at hi c h5
  rw [hc, ← ht, List.getElem?_take_of_lt hlt] at hf
  have e1 : cur[i * 5 + c]? = some u := by rw [← hf]; simp
  refine ⟨?_, ?_⟩
  ·
   unfold World.cell?
   simp only [hh]
   simpa using e1
  ·
   unfold World.frozen?
   simp only [hh]
   simp
set_option maxRecDepth 8000 in
set_option maxHeartbeats 2000000 in
theorem cloneI (b o n cap : Nat) (l : List VT) (w : World) (h : RowV w b o l) (hn : l.length = n) (hcap : n ≤ cap) (hl : n ≤ 2000) :
  Calls Tryz.prog 28 #[.slice (some ⟨b, o, none⟩) n cap] w fun e w' => ∃ g c, e = .returned (.slice (some ⟨g, 0, none⟩) n c) ∧ n ≤ c ∧ w.heap.size ≤ g ∧ OwnV w' g l ∧ Ext w w' := by
 have hq : ∀ W, Sem.run Tryz.prog (binOp BinOp.eql 29 (.slice (some ⟨b, o, none⟩) n cap) (.slice none 0 0)) W = .ok (.bool false) W := fun W => by kernel_rfl
 obtain ⟨inf, hi, hz, hsz, hby⟩ := infoW
 have X0 := x1 w (.cells #[] 27)
 have V0 : ValsIn (w.alloc (.cells #[] 27)) (.slice (some ⟨b, o, none⟩) n cap) l := ⟨_, cap, by rw [hn], by omega, fun _ => ⟨b, o, rfl, h.later X0⟩⟩
 obtain ⟨v', w', hrun, O', GW, hb⟩ := app_srcG (P := Tryz.prog) (w.alloc (.cells #[] 27)) w.heap.size 29 29 29 27 inf _ Tryz.underlying29 hi hz 5 hsz (by rw [hby]; omega) rfl _ 0 [] (World.ownsRow_made w #[] 0 (Nat.le_refl _) (by simp) (by simp)) (.slice (some ⟨b, o, none⟩) n cap) l.length _ (vals_src V0) (by omega) X0.size
 have HB : ∃ g, v'.ownBlock = some g := by
  rcases hb with hb | hb
  ·
   exact ⟨_, hb⟩
  ·
   exact ⟨_, hb⟩
 obtain ⟨g, hg⟩ := HB
 rw [Nat.zero_add, List.nil_append] at O'
 obtain ⟨c, rfl, hc, hbg, OV⟩ := ownW_own (l := l) O' hg
 have XE := ext_grownF X0 GW (fun k hk => by cases hk; exact Nat.le_refl _)
 rw [hn] at hrun hc
 have HO : Hid (OwnV w' g l) := OV
 clear O' hg hb OV GW V0 hi hz hsz hby h
 go_enter Tryz.func28, Tryz.ntmps28
 go_wp2_with (at_builtin; refine Lib.wpList_append_run _ rfl _ _ _ _ rfl _ _ rfl rfl _ _ hrun ?_)
 go_ret
 exact ⟨g, c, rfl, hc, hbg, HO.out, XE⟩
theorem run_clear_vals (w : World) (ty : TypeId) (b o n c : Nat) (hn : 0 < n) (hc : ∀ j, j < n * 5 → (w.cell? ⟨b, o + j, none⟩).isSome = true) (hf : ∀ j, j < n * 5 → w.frozen? ⟨b, o + j, none⟩ = false) :
  (Builtin.clear_ #[29] ty #[.slice (some ⟨b, o, none⟩) n c]).run Tryz.prog w = .ok (.tuple #[]) (w.setCells b o (Builtin.zeroCells #[.int .i64 0, .bool false, .int .i64 0, .int .i64 0, sV []] n).toList) := by
 have hlen : (Builtin.zeroCells #[.int .i64 0, .bool false, .int .i64 0, .int .i64 0, sV []] n).toList.length = n * 5 := by simp [Builtin.zeroCells]
 have hst := run_storeCells_cells (P := Tryz.prog) b o (Builtin.zeroCells #[.int .i64 0, .bool false, .int .i64 0, .int .i64 0, sV []] n).toList 0 w (by intro j hj; rw [hlen] at hj; simpa using hc j hj) (by intro j hj; rw [hlen] at hj; simpa using hf j hj) (by
  intro v hv'
  simp only [Builtin.zeroCells, Array.toList_map, List.mem_map] at hv'
  obtain ⟨j, -, rfl⟩ := hv'
  have h5 : j % 5 < 5 := by omega
  have hs : (#[.int .i64 0, .bool false, .int .i64 0, .int .i64 0, sV []] : Array Value).size = 5 := rfl
  rw [hs]
  generalize j % 5 = q at h5
  match q, h5 with
  | 0, _ => rfl
  | 1, _ => rfl
  | 2, _ => rfl
  | 3, _ => rfl
  | 4, _ => rfl)
 simp only [Nat.add_zero] at hst
 obtain ⟨m, rfl⟩ : ∃ m, n = m + 1 := ⟨n - 1, by omega⟩
 have hv : ∀ w, (zeroValue 27).run Tryz.prog w = .ok (.agg #[.int .i64 0, .bool false, .int .i64 0, .int .i64 0, sV []]) w := fun w => Tryz.zeroValue27 w
 simp [Builtin.clear_, run_underlying Tryz.underlying29, hv, Value.cells, hst]
theorem grownV_set {w w' : World} {g o : Nat} (h : w.grownBy w' (some g)) (u : Value) : w.grownBy (w'.setCell ⟨g, o, none⟩ u) (some g) :=
 ⟨h.os, h.tape, h.output, by rw [World.size_setCell]; exact h.size, fun k hk hne => by rw [heap_setCell_other _ _ _ _ (fun e => hne (congrArg some e))]; exact h.block k hk hne⟩
theorem grownV_ext {w w' w'' : World} {r : Option Nat} (h : w.grownBy w' r) (e : Ext w' w'') : w.grownBy w'' r :=
 ⟨e.os.trans h.os, e.tape.trans h.tape, e.output.trans h.output, Nat.le_trans h.size e.size, fun k hk hne => (e.block k (Nat.lt_of_lt_of_le hk h.size)).trans (h.block k hk hne)⟩
theorem grownV_refl (w : World) (r : Option Nat) : w.grownBy w r := ⟨rfl, rfl, rfl, Nat.le_refl _, fun _ _ _ => rfl⟩
theorem OwnV.cut {w : World} {g : Nat} {l : List VT} (h : OwnV w g l) (i : Nat) : ∀ (us : List Value) (o : Nat), i * 5 ≤ o → OwnV (w.setCells g o us) g (l.take i)
 | [], _, _ => fun k e hk c u hc => by
  have hkl := (List.getElem?_eq_some_iff.1 hk).1
  rw [List.length_take] at hkl
  rw [List.getElem?_take_of_lt (by omega)] at hk
  exact h k e hk c u hc
 | u0 :: us, o, ho => by
  have h' : OwnV (w.setCell ⟨g, o, none⟩ u0) g (l.take i) := fun k e hk c u hc => by
   have hkl := (List.getElem?_eq_some_iff.1 hk).1
   rw [List.length_take] at hkl
   rw [List.getElem?_take_of_lt (by omega)] at hk
   have h5 := cells_lt hc
   obtain ⟨a, f⟩ := h k e hk c u hc
   refine ⟨?_, by rw [World.frozen?_setCell]; exact f⟩
   rw [World.cell?_setCell_other _ _ _ _ (fun q => by have := congrArg Addr.off q; simp at this; omega)]
   exact a
  have := OwnV.cut h' i us (o + 1) (by omega)
  rw [List.take_take, Nat.min_self] at this
  exact this
theorem setCells_grownV {w : World} {g : Nat} : ∀ (us : List Value) (o : Nat) (w' : World), w.grownBy w' (some g) → w.grownBy (w'.setCells g o us) (some g)
 | [], _, _, h => h
 | u :: us, o, _, h => setCells_grownV us (o + 1) _ (grownV_set h u)
set_option maxRecDepth 8000 in
set_option maxHeartbeats 4000000 in
theorem deleteF (f : Nat) (l : List VT) (p : VT → Bool) (g cap : Nat) (w : World) (h : OwnV w g l) (hc : l.length ≤ cap) (hl : l.length ≤ 2000) (ent : ∀ args w, (callFunc f args).run Tryz.prog w = .ok (.enter f args) w)
  (A : ∀ W e, Calls Tryz.prog f #[e.val] W fun z w' => z = .returned (.bool (p e)) ∧ Ext W w') :
  Calls Tryz.prog 27 #[.slice (some ⟨g, 0, none⟩) l.length cap, .func (.func f) #[] #[]] w fun e w' =>
   ∃ m, e = .returned (.slice (some ⟨g, 0, none⟩) m cap) ∧ m = (l.filter fun x => !p x).length ∧ OwnV w' g (l.filter fun x => !p x) ∧ w.grownBy w' (some g) := by
 have C0 := indexF f (.slice (some ⟨g, 0, none⟩) l.length cap) l p w ⟨ent, fun W e _ _ => A W e⟩ ⟨_, cap, rfl, hc, fun _ => ⟨g, 0, rfl, h.row⟩⟩ (by omega)
 have HA : Hid (∀ W e, Calls Tryz.prog f #[e.val] W fun z w' => z = .returned (.bool (p e)) ∧ Ext W w') := A
 have HV : Hid (OwnV w g l) := h
 obtain ⟨n, hn⟩ : ∃ n, l.length = n := ⟨_, rfl⟩
 have HN : Hid (l.length = n) := hn
 rw [hn] at hc hl C0 ⊢
 clear h A hn
 go_enter Tryz.func27, Tryz.ntmps27
 go_wp2_with fail
 refine C0.mono ?_
 rintro e w1 ⟨⟨rfl, hall⟩ | ⟨m, xm, rfl, hm, hpm, hbe⟩, e1⟩
 ·
  have e2 : (l.filter fun x => !p x) = l := by
   rw [List.filter_eq_self]
   intro x hx
   rw [hall x hx]; rfl
  have HF : Hid ((l.filter fun x => !p x) = l) := e2
  have HW : Hid (OwnV w1 g l) := HV.out.later e1
  clear hall e2 C0
  go_wp2_with fail
  go_ret
  exact ⟨n, rfl, by rw [HF.out, HN.out], by rw [HF.out]; exact HW.out, grownV_ext (grownV_refl w _) e1⟩
 ·
  have hmn : m < n := by rw [← HN.out]; exact (List.getElem?_eq_some_iff.1 hm).1
  have K0 : Hid (KeptV l p (m + 1) m l ∧ OwnV w1 g l ∧ w.grownBy w1 (some g)) := ⟨KeptV.start (by rw [HN.out]; exact hmn) (fun x hx => by rw [hm] at hx; cases hx; exact hpm) hbe, HV.out.later e1, grownV_ext (grownV_refl w _) e1⟩
  have hne1 : ((m : Int) == -1) = false := beq_eq_false_iff_ne.2 (by omega)
  clear hpm hbe C0 HV e1 hm
  go_wp2_with fail
  go_loopw [5, 6] (fun s5 s6 wr => ∃ (i j : Nat) (M : List VT), s5 = .int .i64 i ∧ s6 = .int .i64 j ∧ j ≤ n ∧ i < j ∧ Hid (KeptV l p j i M ∧ OwnV wr g M ∧ w.grownBy wr (some g))) (fun _ s6 _ => n - (intOf s6).toNat)
  case atStart => exact ⟨m, m + 1, l, rfl, by go_num, by omega, by omega, K0⟩
  case round =>
   obtain ⟨i, j, M, rfl, rfl, hjn, hij, HO⟩ := hrel
   by_cases hlt : j < n
   ·
    have i2 : (j : Int) < (n : Int) := by omega
    obtain ⟨x, hx⟩ : ∃ x, l[j]? = some x := ⟨_, List.getElem?_eq_getElem (by rw [HN.out]; exact hlt)⟩
    have hMl : M.length = n := HO.out.1.len.trans HN.out
    obtain ⟨⟨a0, a1, a2, a3, a4⟩, -⟩ := HO.out.2.1.five (k := j) (e := x) (by rw [HO.out.1.rest j (Nat.le_refl _), hx])
    have Y := x1 wr (.cells #[.int .i64 x.k, .bool x.n, .int .i64 x.d, .int .i64 x.x, sV x.t] 27)
    have KB := vec_made wr (valL x.k x.n x.d x.x x.t) 27
    change Vec (wr.alloc (.cells #[.int .i64 x.k, .bool x.n, .int .i64 x.d, .int .i64 x.x, sV x.t] 27)) _ _ at KB
    obtain ⟨wx, hwx⟩ : ∃ wx, wr.alloc (.cells #[.int .i64 x.k, .bool x.n, .int .i64 x.d, .int .i64 x.x, sV x.t] 27) = wx := ⟨_, rfl⟩
    rw [hwx] at Y KB
    have CA := HA.out wx x
    have HX : Hid (l[j]? = some x) := hx
    have HMl : Hid (M.length = n) := hMl
    obtain ⟨q, hq⟩ : ∃ q, p x = q := ⟨_, rfl⟩
    have HQ : Hid (p x = q) := hq
    rw [hq] at CA
    have hgr : g ≠ wr.heap.size := by
     obtain ⟨y, hy⟩ : ∃ y, M[j]? = some y := ⟨_, List.getElem?_eq_getElem (by rw [hMl]; omega)⟩
     have := World.block_lt_of_cell? _ _ (HO.out.2.1 j y hy 0 _ rfl).1
     change g < _ at this
     omega
    clear hx hq hMl K0
    cases q
    ·
     obtain ⟨y, hy⟩ : ∃ y, M[i]? = some y := ⟨_, List.getElem?_eq_getElem (by rw [HMl.out]; omega)⟩
     have HY : Hid (M[i]? = some y) := hy
     have i3 : (i : Int) < (n : Int) := by omega
     obtain ⟨xk, xn, xd, xx, xt'⟩ := x
     dsimp only at a0 a1 a2 a3 a4 hwx CA KB
     obtain ⟨k0, k1, k2, k3, k4⟩ := Vec.five KB
     clear hy
     go_wp2_with (go_at_fn f; clear a0 a1 a2 a3 a4 k0 k1 k2 k3 k4 hwx; refine CA.mono ?_; rintro e w2 ⟨rfl, e2⟩; have E2 := xt Y e2; obtain ⟨c0, c1, c2, c3, c4⟩ := Vec.five (KB.later e2); have O2 := HO.out.2.1.later E2; obtain ⟨⟨b0, b1, b2, b3, b4⟩, f0, f1, f2, f3, f4⟩ := O2.five HY.out; have O3 := O2.put (k := i) (by rw [HMl.out]; omega) ⟨xk, xn, xd, xx, xt'⟩; have G3 := grownV_set (grownV_set (grownV_set (grownV_set (grownV_set (grownV_ext HO.out.2.2 E2) (o := i * 5) (.int .i64 xk)) (o := i * 5 + 1) (.bool xn)) (o := i * 5 + 2) (.int .i64 xd)) (o := i * 5 + 3) (.int .i64 xx)) (o := i * 5 + 4) (sV xt'); dsimp only at O3; obtain ⟨wy, hwy⟩ : ∃ wy, (((((w2.setCell ⟨g, i * 5, none⟩ (.int .i64 xk)).setCell ⟨g, i * 5 + 1, none⟩ (.bool xn)).setCell ⟨g, i * 5 + 2, none⟩ (.int .i64 xd)).setCell ⟨g, i * 5 + 3, none⟩ (.int .i64 xx)).setCell ⟨g, i * 5 + 4, none⟩ (sV xt')) = wy := ⟨_, rfl⟩; rw [hwy] at O3 G3; have HM : Hid (KeptV l p (j + 1) (i + 1) (M.set i ⟨xk, xn, xd, xx, xt'⟩) ∧ OwnV wy g (M.set i ⟨xk, xn, xd, xx, xt'⟩) ∧ w.grownBy wy (some g)) := ⟨HO.out.1.keep HX.out HQ.out, O3, G3⟩)
     clear HO
     go_roundw
     case rel => exact ⟨i + 1, j + 1, _, by go_num, by go_num, by omega, by omega, HM⟩
     case measure => simp [intOf]; omega
    ·
     obtain ⟨xk, xn, xd, xx, xt'⟩ := x
     dsimp only at a0 a1 a2 a3 a4 hwx CA KB
     obtain ⟨k0, k1, k2, k3, k4⟩ := Vec.five KB
     go_wp2_with (go_at_fn f; clear a0 a1 a2 a3 a4 k0 k1 k2 k3 k4 hwx; refine CA.mono ?_; rintro e w2 ⟨rfl, e2⟩)
     have E2 := xt Y e2
     have HM : Hid (KeptV l p (j + 1) i M ∧ OwnV w2 g M ∧ w.grownBy w2 (some g)) := ⟨HO.out.1.skip HX.out HQ.out, HO.out.2.1.later E2, grownV_ext HO.out.2.2 E2⟩
     clear HO
     go_roundw
     case rel => exact ⟨i, j + 1, M, rfl, by go_num, by omega, by omega, HM⟩
     case measure => simp [intOf]; omega
   ·
    obtain rfl : j = n := by omega
    have i2 : ¬ (j : Int) < (j : Int) := by omega
    have HMl : M.length = j := HO.out.1.len.trans HN.out
    have CE : ∀ t, t < (j - i) * 5 → ∃ v, wr.cell? ⟨g, i * 5 + t, none⟩ = some v ∧ wr.frozen? ⟨g, i * 5 + t, none⟩ = false := fun t ht => by
     obtain ⟨y, hy⟩ : ∃ y, M[i + t / 5]? = some y := ⟨_, List.getElem?_eq_getElem (by rw [HMl]; omega)⟩
     obtain ⟨v, hv⟩ : ∃ v, y.cells[t % 5]? = some v := ⟨_, List.getElem?_eq_getElem (show t % 5 < y.cells.length from (by show t % 5 < 5; omega))⟩
     have := HO.out.2.1 _ y hy _ v hv
     rw [show (i + t / 5) * 5 + t % 5 = i * 5 + t by omega] at this
     exact ⟨v, this⟩
    have hcl : ∀ ty, (Builtin.clear_ #[29] ty #[.slice (some ⟨g, i * 5, none⟩) (j - i) (cap - i)]).run Tryz.prog wr = .ok (.tuple #[]) (wr.setCells g (i * 5) (Builtin.zeroCells #[.int .i64 0, .bool false, .int .i64 0, .int .i64 0, sV []] (j - i)).toList) := fun ty =>
     run_clear_vals wr ty g (i * 5) (j - i) (cap - i) (by omega) (fun t ht => by obtain ⟨v, hv, -⟩ := CE t ht; rw [hv]; rfl) (fun t ht => by obtain ⟨v, -, hf⟩ := CE t ht; exact hf)
    have HE : Hid (i = (l.filter fun x => !p x).length ∧ OwnV (wr.setCells g (i * 5) (Builtin.zeroCells #[.int .i64 0, .bool false, .int .i64 0, .int .i64 0, sV []] (j - i)).toList) g (l.filter fun x => !p x) ∧ w.grownBy (wr.setCells g (i * 5) (Builtin.zeroCells #[.int .i64 0, .bool false, .int .i64 0, .int .i64 0, sV []] (j - i)).toList) (some g)) := by
     have hnum := HO.out.1.num
     have hah := HO.out.1.ahead
     have htl0 : l.take j = l := List.take_of_length_le (by rw [HN.out]; exact Nat.le_refl _)
     rw [htl0] at hnum hah
     refine ⟨hnum.symm, ?_, setCells_grownV _ _ _ HO.out.2.2⟩
     rw [← hah]
     exact OwnV.cut HO.out.2.1 i _ _ (Nat.le_refl _)
    obtain ⟨wz, hwz⟩ : ∃ wz, wr.setCells g (i * 5) (Builtin.zeroCells #[.int .i64 0, .bool false, .int .i64 0, .int .i64 0, sV []] (j - i)).toList = wz := ⟨_, rfl⟩
    rw [hwz] at HE
    simp only [hwz] at hcl
    have i5 : (i : Int) ≤ (j : Int) := by omega
    have i6 : (j : Int) ≤ (cap : Int) := by omega
    clear HO HMl K0 CE hwz
    go_wp2_with fail
    go_ret
    exact ⟨i, rfl, HE.out.1, HE.out.2.1, HE.out.2.2⟩

end Go.Proofs.YtfgohahfppabbaaGreatDoor

