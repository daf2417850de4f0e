/-
  Several texts in one: G2, G6.
-/
import Derived.Test.YtfgohahfppabbaaGreatDoorMg23
import Derived.Test.YtfgohahfppabbaaGreatDoorMg28
import Derived.Lib.AppendZeros
import Derived.Lib.SliceRun
import Derived.Lib.SlKept
import Derived.Shelf.SlicesE.Compact
import Derived.Laws.IdiomCopy
import Derived.Test.YtfgohahfppabbaaGreatDoorMg27
namespace Go.Proofs.YtfgohahfppabbaaGreatDoor
open Go.RowKit

/-- What stands in a row while others are struck. -/
structure KeptV (l : List VT) (p : VT → Bool) (j i : Nat) (M : List VT) : Prop where
 len : M.length = l.length
 lt : i < j
 le : j ≤ l.length
 ahead : M.take i = (l.take j).filter fun x => !p x
 rest : ∀ t, j ≤ t → M[t]? = l[t]?
theorem KeptV.num {l : List VT} {p : VT → Bool} {j i : Nat} {M : List VT} (K : KeptV l p j i M) : ((l.take j).filter fun x => !p x).length = i := by
 rw [← K.ahead, List.length_take, K.len]
 have := K.lt
 have := K.le
 omega
theorem KeptV.start {l : List VT} {p : VT → Bool} {k : Nat} (hk : k < l.length) (hp : ∀ x, l[k]? = some x → p x = true) (ha : ∀ j x, j < k → l[j]? = some x → p x = false) : KeptV l p (k + 1) k l := by
 refine ⟨rfl, Nat.lt_succ_self _, hk, ?_, fun _ _ => rfl⟩
 rw [List.take_add_one, List.getElem?_eq_getElem hk, List.filter_append]
 have e1 : (l.take k).filter (fun x => !p x) = l.take k := by
  rw [List.filter_eq_self]
  intro x hx
  obtain ⟨j, hj, rfl⟩ := List.getElem_of_mem hx
  rw [List.length_take] at hj
  rw [List.getElem_take, ha j _ (by omega) (List.getElem?_eq_getElem (by omega))]
  rfl
 rw [e1]
 have := hp _ (List.getElem?_eq_getElem hk)
 simp [this]
theorem KeptV.keep {l : List VT} {p : VT → Bool} {j i : Nat} {x : VT} {M : List VT} (K : KeptV l p j i M) (hx : l[j]? = some x) (hp : p x = false) : KeptV l p (j + 1) (i + 1) (M.set i x) := by
 have hj : j < l.length := (List.getElem?_eq_some_iff.1 hx).1
 have h1 := K.lt
 have h2 := K.len
 refine ⟨by simp [K.len], by omega, hj, ?_, fun t ht => ?_⟩
 ·
  have e1 : (l.take (j + 1)).filter (fun x => !p x) = (l.take j).filter (fun x => !p x) ++ [x] := by
   rw [List.take_add_one, hx, List.filter_append]
   simp [hp]
  have e2 : (M.set i x).take (i + 1) = M.take i ++ [x] := by
   rw [List.take_add_one, List.getElem?_set_self (by omega), List.take_set_of_le (Nat.le_refl _)]
   rfl
  rw [e1, e2, K.ahead]
 ·
  rw [List.getElem?_set_ne (by omega)]
  exact K.rest t (by omega)
theorem KeptV.skip {l : List VT} {p : VT → Bool} {j i : Nat} {x : VT} {M : List VT} (K : KeptV l p j i M) (hx : l[j]? = some x) (hp : p x = true) : KeptV l p (j + 1) i M := by
 have hj : j < l.length := (List.getElem?_eq_some_iff.1 hx).1
 refine ⟨K.len, Nat.lt_succ_of_lt K.lt, hj, ?_, fun t ht => K.rest t (by omega)⟩
 rw [List.take_add_one, hx, List.filter_append, ← K.ahead]
 simp [hp]
theorem ext_grownF {w a b : World} {r : Option Nat} (X : Ext w a) (G : a.grownBy b r) (hr : ∀ k, r = some k → w.heap.size ≤ k) : Ext w b := by
 refine ⟨by rw [← X.os]; exact G.os, by rw [← X.tape]; exact G.tape, by rw [← X.output]; exact G.output, Nat.le_trans X.size G.size, fun k hk => ?_⟩
 rw [G.block k (Nat.lt_of_lt_of_le hk X.size) (fun e => by have := hr k e.symm; omega)]
 exact X.block k hk
theorem ownW_own {w : World} {base : Nat} {v : Value} {l : List VT} (h : OwnW w base v l) {g : Nat} (hg : v.ownBlock = some g) : ∃ c, v = .slice (some ⟨g, 0, none⟩) l.length c ∧ l.length ≤ c ∧ base ≤ g ∧ OwnV w g l := by
 obtain ⟨hx, h1 | ⟨g', cap, cur, rfl, hb, hh, hn, -, hs, ht⟩⟩ := h
 ·
  rw [h1.1] at hg; cases hg
 ·
  cases hg
  refine ⟨cap, rfl, hn, hb, fun i e hi c u hc => ?_⟩
  have h5 := cells_lt hc
  have hil : i < l.length := (List.getElem?_eq_some_iff.1 hi).1
  have hlt : i * 5 + c < l.length * 5 := by omega
  have hf := flatV_at hi c h5
  rw [hc, ← ht, List.getElem?_take_of_lt hlt] at hf
  have e1 : cur[i * 5 + c]? = some u := by rw [← hf]; simp
  refine ⟨?_, ?_⟩
  ·
   unfold World.cell?
   simp only [hh]
   simpa using e1
  ·
   unfold World.frozen?
   simp only [hh]
   simp
set_option maxRecDepth 8000 in
set_option maxHeartbeats 2000000 in
theorem cloneI (b o n cap : Nat) (l : List VT) (w : World) (h : RowV w b o l) (hn : l.length = n) (hcap : n ≤ cap) (hl : n ≤ 2000) :
  Calls Tryz.prog 28 #[.slice (some ⟨b, o, none⟩) n cap] w fun e w' => ∃ g c, e = .returned (.slice (some ⟨g, 0, none⟩) n c) ∧ n ≤ c ∧ w.heap.size ≤ g ∧ OwnV w' g l ∧ Ext w w' := by
 have hq : ∀ W, Sem.run Tryz.prog (binOp BinOp.eql 29 (.slice (some ⟨b, o, none⟩) n cap) (.slice none 0 0)) W = .ok (.bool false) W := fun W => by kernel_rfl
 obtain ⟨inf, hi, hz, hsz, hby⟩ := infoW
 have X0 := x1 w (.cells #[] 27)
 have V0 : ValsIn (w.alloc (.cells #[] 27)) (.slice (some ⟨b, o, none⟩) n cap) l := ⟨_, cap, by rw [hn], by omega, fun _ => ⟨b, o, rfl, h.later X0⟩⟩
 obtain ⟨v', w', hrun, O', GW, hb⟩ := app_srcG (P := Tryz.prog) (w.alloc (.cells #[] 27)) w.heap.size 29 29 29 27 inf _ Tryz.underlying29 hi hz 5 hsz (by rw [hby]; omega) rfl _ 0 [] (World.ownsRow_made w #[] 0 (Nat.le_refl _) (by simp) (by simp)) (.slice (some ⟨b, o, none⟩) n cap) l.length _ (vals_src V0) (by omega) X0.size
 have HB : ∃ g, v'.ownBlock = some g := by
  rcases hb with hb | hb
  ·
   exact ⟨_, hb⟩
  ·
   exact ⟨_, hb⟩
 obtain ⟨g, hg⟩ := HB
 rw [Nat.zero_add, List.nil_append] at O'
 obtain ⟨c, rfl, hc, hbg, OV⟩ := ownW_own (l := l) O' hg
 have XE := ext_grownF X0 GW (fun k hk => by cases hk; exact Nat.le_refl _)
 rw [hn] at hrun hc
 have HO : Hid (OwnV w' g l) := OV
 clear O' hg hb OV GW V0 hi hz hsz hby h
 go_enter Tryz.func28, Tryz.ntmps28
 go_wp2_with (at_builtin; refine Lib.wpList_append_run _ rfl _ _ _ _ rfl _ _ rfl rfl _ _ hrun ?_)
 go_ret
 exact ⟨g, c, rfl, hc, hbg, HO.out, XE⟩
theorem run_clear_vals (w : World) (ty : TypeId) (b o n c : Nat) (hn : 0 < n) (hc : ∀ j, j < n * 5 → (w.cell? ⟨b, o + j, none⟩).isSome = true) (hf : ∀ j, j < n * 5 → w.frozen? ⟨b, o + j, none⟩ = false) :
  (Builtin.clear_ #[29] ty #[.slice (some ⟨b, o, none⟩) n c]).run Tryz.prog w = .ok (.tuple #[]) (w.setCells b o (Builtin.zeroCells #[.int .i64 0, .bool false, .int .i64 0, .int .i64 0, sV []] n).toList) := by
 have hlen : (Builtin.zeroCells #[.int .i64 0, .bool false, .int .i64 0, .int .i64 0, sV []] n).toList.length = n * 5 := by simp [Builtin.zeroCells]
 have hst := run_storeCells_cells (P := Tryz.prog) b o (Builtin.zeroCells #[.int .i64 0, .bool false, .int .i64 0, .int .i64 0, sV []] n).toList 0 w (by intro j hj; rw [hlen] at hj; simpa using hc j hj) (by intro j hj; rw [hlen] at hj; simpa using hf j hj) (by
  intro v hv'
  simp only [Builtin.zeroCells, Array.toList_map, List.mem_map] at hv'
  obtain ⟨j, -, rfl⟩ := hv'
  have h5 : j % 5 < 5 := by omega
  have hs : (#[.int .i64 0, .bool false, .int .i64 0, .int .i64 0, sV []] : Array Value).size = 5 := rfl
  rw [hs]
  generalize j % 5 = q at h5
  match q, h5 with
  | 0, _ => rfl
  | 1, _ => rfl
  | 2, _ => rfl
  | 3, _ => rfl
  | 4, _ => rfl)
 simp only [Nat.add_zero] at hst
 obtain ⟨m, rfl⟩ : ∃ m, n = m + 1 := ⟨n - 1, by omega⟩
 have hv : ∀ w, (zeroValue 27).run Tryz.prog w = .ok (.agg #[.int .i64 0, .bool false, .int .i64 0, .int .i64 0, sV []]) w := fun w => Tryz.zeroValue27 w
 simp [Builtin.clear_, run_underlying Tryz.underlying29, hv, Value.cells, hst]
theorem grownV_set {w w' : World} {g o : Nat} (h : w.grownBy w' (some g)) (u : Value) : w.grownBy (w'.setCell ⟨g, o, none⟩ u) (some g) :=
 ⟨h.os, h.tape, h.output, by rw [World.size_setCell]; exact h.size, fun k hk hne => by rw [heap_setCell_other _ _ _ _ (fun e => hne (congrArg some e))]; exact h.block k hk hne⟩
theorem grownV_ext {w w' w'' : World} {r : Option Nat} (h : w.grownBy w' r) (e : Ext w' w'') : w.grownBy w'' r :=
 ⟨e.os.trans h.os, e.tape.trans h.tape, e.output.trans h.output, Nat.le_trans h.size e.size, fun k hk hne => (e.block k (Nat.lt_of_lt_of_le hk h.size)).trans (h.block k hk hne)⟩
theorem grownV_refl (w : World) (r : Option Nat) : w.grownBy w r := ⟨rfl, rfl, rfl, Nat.le_refl _, fun _ _ _ => rfl⟩
theorem OwnV.cut {w : World} {g : Nat} {l : List VT} (h : OwnV w g l) (i : Nat) : ∀ (us : List Value) (o : Nat), i * 5 ≤ o → OwnV (w.setCells g o us) g (l.take i)
 | [], _, _ => fun k e hk c u hc => by
  have hkl := (List.getElem?_eq_some_iff.1 hk).1
  rw [List.length_take] at hkl
  rw [List.getElem?_take_of_lt (by omega)] at hk
  exact h k e hk c u hc
 | u0 :: us, o, ho => by
  have h' : OwnV (w.setCell ⟨g, o, none⟩ u0) g (l.take i) := fun k e hk c u hc => by
   have hkl := (List.getElem?_eq_some_iff.1 hk).1
   rw [List.length_take] at hkl
   rw [List.getElem?_take_of_lt (by omega)] at hk
   have h5 := cells_lt hc
   obtain ⟨a, f⟩ := h k e hk c u hc
   refine ⟨?_, by rw [World.frozen?_setCell]; exact f⟩
   rw [World.cell?_setCell_other _ _ _ _ (fun q => by have := congrArg Addr.off q; simp at this; omega)]
   exact a
  have := OwnV.cut h' i us (o + 1) (by omega)
  rw [List.take_take, Nat.min_self] at this
  exact this
theorem setCells_grownV {w : World} {g : Nat} : ∀ (us : List Value) (o : Nat) (w' : World), w.grownBy w' (some g) → w.grownBy (w'.setCells g o us) (some g)
 | [], _, _, h => h
 | u :: us, o, _, h => setCells_grownV us (o + 1) _ (grownV_set h u)
set_option maxRecDepth 8000 in
set_option maxHeartbeats 4000000 in
theorem deleteF (f : Nat) (l : List VT) (p : VT → Bool) (g cap : Nat) (w : World) (h : OwnV w g l) (hc : l.length ≤ cap) (hl : l.length ≤ 2000) (ent : ∀ args w, (callFunc f args).run Tryz.prog w = .ok (.enter f args) w)
  (A : ∀ W e, Calls Tryz.prog f #[e.val] W fun z w' => z = .returned (.bool (p e)) ∧ Ext W w') :
  Calls Tryz.prog 27 #[.slice (some ⟨g, 0, none⟩) l.length cap, .func (.func f) #[] #[]] w fun e w' =>
   ∃ m, e = .returned (.slice (some ⟨g, 0, none⟩) m cap) ∧ m = (l.filter fun x => !p x).length ∧ OwnV w' g (l.filter fun x => !p x) ∧ w.grownBy w' (some g) := by
 have C0 := indexF f (.slice (some ⟨g, 0, none⟩) l.length cap) l p w ⟨ent, fun W e _ _ => A W e⟩ ⟨_, cap, rfl, hc, fun _ => ⟨g, 0, rfl, h.row⟩⟩ (by omega)
 have HA : Hid (∀ W e, Calls Tryz.prog f #[e.val] W fun z w' => z = .returned (.bool (p e)) ∧ Ext W w') := A
 have HV : Hid (OwnV w g l) := h
 obtain ⟨n, hn⟩ : ∃ n, l.length = n := ⟨_, rfl⟩
 have HN : Hid (l.length = n) := hn
 rw [hn] at hc hl C0 ⊢
 clear h A hn
 go_enter Tryz.func27, Tryz.ntmps27
 go_wp2_with fail
 refine C0.mono ?_
 rintro e w1 ⟨⟨rfl, hall⟩ | ⟨m, xm, rfl, hm, hpm, hbe⟩, e1⟩
 ·
  have e2 : (l.filter fun x => !p x) = l := by
   rw [List.filter_eq_self]
   intro x hx
   rw [hall x hx]; rfl
  have HF : Hid ((l.filter fun x => !p x) = l) := e2
  have HW : Hid (OwnV w1 g l) := HV.out.later e1
  clear hall e2 C0
  go_wp2_with fail
  go_ret
  exact ⟨n, rfl, by rw [HF.out, HN.out], by rw [HF.out]; exact HW.out, grownV_ext (grownV_refl w _) e1⟩
 ·
  have hmn : m < n := by rw [← HN.out]; exact (List.getElem?_eq_some_iff.1 hm).1
  have K0 : Hid (KeptV l p (m + 1) m l ∧ OwnV w1 g l ∧ w.grownBy w1 (some g)) := ⟨KeptV.start (by rw [HN.out]; exact hmn) (fun x hx => by rw [hm] at hx; cases hx; exact hpm) hbe, HV.out.later e1, grownV_ext (grownV_refl w _) e1⟩
  have hne1 : ((m : Int) == -1) = false := beq_eq_false_iff_ne.2 (by omega)
  clear hpm hbe C0 HV e1 hm
  go_wp2_with fail
  go_loopw [5, 6] (fun s5 s6 wr => ∃ (i j : Nat) (M : List VT), s5 = .int .i64 i ∧ s6 = .int .i64 j ∧ j ≤ n ∧ i < j ∧ Hid (KeptV l p j i M ∧ OwnV wr g M ∧ w.grownBy wr (some g))) (fun _ s6 _ => n - (intOf s6).toNat)
  case atStart => exact ⟨m, m + 1, l, rfl, by go_num, by omega, by omega, K0⟩
  case round =>
   obtain ⟨i, j, M, rfl, rfl, hjn, hij, HO⟩ := hrel
   by_cases hlt : j < n
   ·
    have i2 : (j : Int) < (n : Int) := by omega
    obtain ⟨x, hx⟩ : ∃ x, l[j]? = some x := ⟨_, List.getElem?_eq_getElem (by rw [HN.out]; exact hlt)⟩
    have hMl : M.length = n := HO.out.1.len.trans HN.out
    obtain ⟨⟨a0, a1, a2, a3, a4⟩, -⟩ := HO.out.2.1.five (k := j) (e := x) (by rw [HO.out.1.rest j (Nat.le_refl _), hx])
    have Y := x1 wr (.cells #[.int .i64 x.k, .bool x.n, .int .i64 x.d, .int .i64 x.x, sV x.t] 27)
    have KB := vec_made wr (valL x.k x.n x.d x.x x.t) 27
    change Vec (wr.alloc (.cells #[.int .i64 x.k, .bool x.n, .int .i64 x.d, .int .i64 x.x, sV x.t] 27)) _ _ at KB
    obtain ⟨wx, hwx⟩ : ∃ wx, wr.alloc (.cells #[.int .i64 x.k, .bool x.n, .int .i64 x.d, .int .i64 x.x, sV x.t] 27) = wx := ⟨_, rfl⟩
    rw [hwx] at Y KB
    have CA := HA.out wx x
    have HX : Hid (l[j]? = some x) := hx
    have HMl : Hid (M.length = n) := hMl
    obtain ⟨q, hq⟩ : ∃ q, p x = q := ⟨_, rfl⟩
    have HQ : Hid (p x = q) := hq
    rw [hq] at CA
    have hgr : g ≠ wr.heap.size := by
     obtain ⟨y, hy⟩ : ∃ y, M[j]? = some y := ⟨_, List.getElem?_eq_getElem (by rw [hMl]; omega)⟩
     have := World.block_lt_of_cell? _ _ (HO.out.2.1 j y hy 0 _ rfl).1
     change g < _ at this
     omega
    clear hx hq hMl K0
    cases q
    ·
     obtain ⟨y, hy⟩ : ∃ y, M[i]? = some y := ⟨_, List.getElem?_eq_getElem (by rw [HMl.out]; omega)⟩
     have HY : Hid (M[i]? = some y) := hy
     have i3 : (i : Int) < (n : Int) := by omega
     obtain ⟨xk, xn, xd, xx, xt'⟩ := x
     dsimp only at a0 a1 a2 a3 a4 hwx CA KB
     obtain ⟨k0, k1, k2, k3, k4⟩ := Vec.five KB
     clear hy
     go_wp2_with (go_at_fn f; clear a0 a1 a2 a3 a4 k0 k1 k2 k3 k4 hwx; refine CA.mono ?_; rintro e w2 ⟨rfl, e2⟩; have E2 := xt Y e2; obtain ⟨c0, c1, c2, c3, c4⟩ := Vec.five (KB.later e2); have O2 := HO.out.2.1.later E2; obtain ⟨⟨b0, b1, b2, b3, b4⟩, f0, f1, f2, f3, f4⟩ := O2.five HY.out; have O3 := O2.put (k := i) (by rw [HMl.out]; omega) ⟨xk, xn, xd, xx, xt'⟩; have G3 := grownV_set (grownV_set (grownV_set (grownV_set (grownV_set (grownV_ext HO.out.2.2 E2) (o := i * 5) (.int .i64 xk)) (o := i * 5 + 1) (.bool xn)) (o := i * 5 + 2) (.int .i64 xd)) (o := i * 5 + 3) (.int .i64 xx)) (o := i * 5 + 4) (sV xt'); dsimp only at O3; obtain ⟨wy, hwy⟩ : ∃ wy, (((((w2.setCell ⟨g, i * 5, none⟩ (.int .i64 xk)).setCell ⟨g, i * 5 + 1, none⟩ (.bool xn)).setCell ⟨g, i * 5 + 2, none⟩ (.int .i64 xd)).setCell ⟨g, i * 5 + 3, none⟩ (.int .i64 xx)).setCell ⟨g, i * 5 + 4, none⟩ (sV xt')) = wy := ⟨_, rfl⟩; rw [hwy] at O3 G3; have HM : Hid (KeptV l p (j + 1) (i + 1) (M.set i ⟨xk, xn, xd, xx, xt'⟩) ∧ OwnV wy g (M.set i ⟨xk, xn, xd, xx, xt'⟩) ∧ w.grownBy wy (some g)) := ⟨HO.out.1.keep HX.out HQ.out, O3, G3⟩)
     clear HO
     go_roundw
     case rel => exact ⟨i + 1, j + 1, _, by go_num, by go_num, by omega, by omega, HM⟩
     case measure => simp [intOf]; omega
    ·
     obtain ⟨xk, xn, xd, xx, xt'⟩ := x
     dsimp only at a0 a1 a2 a3 a4 hwx CA KB
     obtain ⟨k0, k1, k2, k3, k4⟩ := Vec.five KB
     go_wp2_with (go_at_fn f; clear a0 a1 a2 a3 a4 k0 k1 k2 k3 k4 hwx; refine CA.mono ?_; rintro e w2 ⟨rfl, e2⟩)
     have E2 := xt Y e2
     have HM : Hid (KeptV l p (j + 1) i M ∧ OwnV w2 g M ∧ w.grownBy w2 (some g)) := ⟨HO.out.1.skip HX.out HQ.out, HO.out.2.1.later E2, grownV_ext HO.out.2.2 E2⟩
     clear HO
     go_roundw
     case rel => exact ⟨i, j + 1, M, rfl, by go_num, by omega, by omega, HM⟩
     case measure => simp [intOf]; omega
   ·
    obtain rfl : j = n := by omega
    have i2 : ¬ (j : Int) < (j : Int) := by omega
    have HMl : M.length = j := HO.out.1.len.trans HN.out
    have CE : ∀ t, t < (j - i) * 5 → ∃ v, wr.cell? ⟨g, i * 5 + t, none⟩ = some v ∧ wr.frozen? ⟨g, i * 5 + t, none⟩ = false := fun t ht => by
     obtain ⟨y, hy⟩ : ∃ y, M[i + t / 5]? = some y := ⟨_, List.getElem?_eq_getElem (by rw [HMl]; omega)⟩
     obtain ⟨v, hv⟩ : ∃ v, y.cells[t % 5]? = some v := ⟨_, List.getElem?_eq_getElem (show t % 5 < y.cells.length from (by show t % 5 < 5; omega))⟩
     have := HO.out.2.1 _ y hy _ v hv
     rw [show (i + t / 5) * 5 + t % 5 = i * 5 + t by omega] at this
     exact ⟨v, this⟩
    have hcl : ∀ ty, (Builtin.clear_ #[29] ty #[.slice (some ⟨g, i * 5, none⟩) (j - i) (cap - i)]).run Tryz.prog wr = .ok (.tuple #[]) (wr.setCells g (i * 5) (Builtin.zeroCells #[.int .i64 0, .bool false, .int .i64 0, .int .i64 0, sV []] (j - i)).toList) := fun ty =>
     run_clear_vals wr ty g (i * 5) (j - i) (cap - i) (by omega) (fun t ht => by obtain ⟨v, hv, -⟩ := CE t ht; rw [hv]; rfl) (fun t ht => by obtain ⟨v, -, hf⟩ := CE t ht; exact hf)
    have HE : Hid (i = (l.filter fun x => !p x).length ∧ OwnV (wr.setCells g (i * 5) (Builtin.zeroCells #[.int .i64 0, .bool false, .int .i64 0, .int .i64 0, sV []] (j - i)).toList) g (l.filter fun x => !p x) ∧ w.grownBy (wr.setCells g (i * 5) (Builtin.zeroCells #[.int .i64 0, .bool false, .int .i64 0, .int .i64 0, sV []] (j - i)).toList) (some g)) := by
     have hnum := HO.out.1.num
     have hah := HO.out.1.ahead
     have htl0 : l.take j = l := List.take_of_length_le (by rw [HN.out]; exact Nat.le_refl _)
     rw [htl0] at hnum hah
     refine ⟨hnum.symm, ?_, setCells_grownV _ _ _ HO.out.2.2⟩
     rw [← hah]
     exact OwnV.cut HO.out.2.1 i _ _ (Nat.le_refl _)
    obtain ⟨wz, hwz⟩ : ∃ wz, wr.setCells g (i * 5) (Builtin.zeroCells #[.int .i64 0, .bool false, .int .i64 0, .int .i64 0, sV []] (j - i)).toList = wz := ⟨_, rfl⟩
    rw [hwz] at HE
    simp only [hwz] at hcl
    have i5 : (i : Int) ≤ (j : Int) := by omega
    have i6 : (j : Int) ≤ (cap : Int) := by omega
    clear HO HMl K0 CE hwz
    go_wp2_with fail
    go_ret
    exact ⟨i, rfl, HE.out.1, HE.out.2.1, HE.out.2.2⟩

theorem enterF_cmp : ∀ ar w, (callFunc 63 ar).run Tryz.prog w = .ok (.enter 63 ar) w := fun ar w => by kernel_rfl
theorem isN_room {e : VT} (h : e.isN) : e.t.length ≤ 2000000 ∧ -9223372036854775808 ≤ e.d ∧ e.d ≤ 9223372036854775807 := by
 obtain ⟨_, ht, hg⟩ := h
 have := good_all hg
 rw [ht]
 exact ⟨by simp, by omega, by omega⟩
theorem cmpTI (a b : VT) (w : World) (ha : a.isN) (hb : b.isN) (hT : Tens w) (hE : ErrTab w) :
  Calls Tryz.prog 63 #[a.val, b.val] w fun e w' => e = .returned (.int .i64 (cmpT a b)) ∧ Ext w w' :=
 compareI a.k a.n a.d a.x a.t b.k b.n b.d b.x b.t w (isN_room ha).1 (isN_room hb).1 (isN_room ha).2.1 (isN_room ha).2.2 (isN_room hb).2.1 (isN_room hb).2.2 hT hE
set_option maxRecDepth 8000 in
set_option maxHeartbeats 4000000 in
theorem minFI (v : Value) (l : List VT) (a : VT) (w : World) (h : ValsIn w v l) (ha : l[0]? = some a) (hl : l.length ≤ 2000) (hv : ∀ e ∈ l, e.isN) (hT : Tens w) (hE : ErrTab w) :
  Calls Tryz.prog 62 #[v, fnV 63] w fun e w' => e = .returned (endT true a (l.drop 1)).val ∧ Ext w w' := by
 obtain ⟨p, cap, rfl, hcap, hrow⟩ := h
 obtain ⟨n, hn⟩ : ∃ n, l.length = n := ⟨_, rfl⟩
 have HN : Hid (l.length = n) := hn
 have n1 : 0 < n := by rw [← hn]; exact (List.getElem?_eq_some_iff.1 ha).1
 rw [hn] at hcap hl hrow ⊢
 obtain ⟨b, o, rfl, hR⟩ := hrow n1
 have HRow : Hid (RowV w b o l) := hR
 have HV : Hid (∀ e ∈ l, e.isN) := hv
 have HA : Hid (a ∈ l) := List.mem_of_getElem? ha
 have HT : Hid (Tens w ∧ ErrTab w) := ⟨hT, hE⟩
 obtain ⟨u0, u1, e0, e1, z0, z1, B0, B1, X⟩ := mkB2 w (valL 0 false 0 0 []) (valL a.k a.n a.d a.x a.t) 27 27
 have HS : Hid (Vec u1 (w.heap.size + 1) (endT true a ((l.drop 1).take (1 - 1))).cells ∧ Vec u1 w.heap.size (valL 0 false 0 0 [])) := ⟨B1, B0⟩
 obtain ⟨R, hRR⟩ : ∃ R, endT true a (l.drop 1) = R := ⟨_, rfl⟩
 have HR : Hid (endT true a (l.drop 1) = R) := hRR
 rw [hRR]
 have X0 : Ext w u0 := by rw [← e0]; exact x1 w _
 have A5 : u0.cell? ⟨b, o, none⟩ = some (.int .i64 a.k) ∧ u0.cell? ⟨b, o + 1, none⟩ = some (.bool a.n) ∧ u0.cell? ⟨b, o + 2, none⟩ = some (.int .i64 a.d) ∧ u0.cell? ⟨b, o + 3, none⟩ = some (.int .i64 a.x) ∧ u0.cell? ⟨b, o + 4, none⟩ = some (sV a.t) := by
  have := (hR.later X0).five ha
  simpa using this
 obtain ⟨a0, a1, a2, a3, a4⟩ := A5
 obtain ⟨B, hB⟩ : ∃ B, w.heap.size = B := ⟨_, rfl⟩
 have HB : Hid (w.heap.size = B) := hB
 rw [hB] at HS z0 z1
 have HAd : Hid (∃ a', a' = a) := ⟨a, rfl⟩
 obtain ⟨aa, haa⟩ : ∃ aa, aa = a := ⟨_, rfl⟩
 rw [← haa] at HS HR HA
 have HN1 : Hid (aa.isN) := HV.out aa HA.out
 obtain ⟨ak, an, ad, ax, at'⟩ := a
 dsimp only at e1 a0 a1 a2 a3 a4
 have g1 : ¬ (n : Int) < 1 := by omega
 clear hn hrow hv hT hE B0 B1 hRR hR ha haa HAd
 go_enter Tryz.func62, Tryz.ntmps62
 go_wp2_with fail
 clear e0 e1 z0 z1 hB a0 a1 a2 a3 a4
 go_loopw [6] (fun i wr => ∃ j : Nat, 1 ≤ j ∧ j ≤ n ∧ i = .int .i64 j ∧ Hid ((Vec wr (B + 1) (endT true aa ((l.drop 1).take (j - 1))).cells ∧ Vec wr B (valL 0 false 0 0 [])) ∧ Ext w wr)) (fun i _ => n - (intOf i).toNat)
 case atStart => exact ⟨1, by omega, by omega, rfl, HS.out, X⟩
 case round =>
  obtain ⟨j, hj1, hjn, rfl, HO⟩ := hrel
  have HI : Hid ((endT true aa ((l.drop 1).take (j - 1))).isN) := endT_mem _ HN1.out (fun e he => HV.out e (List.mem_of_mem_drop (List.mem_of_mem_take he)))
  obtain ⟨⟨ck, cn, cd, cx, ct⟩, hs⟩ : ∃ s, endT true aa ((l.drop 1).take (j - 1)) = s := ⟨_, rfl⟩
  have HSk : Hid (endT true aa ((l.drop 1).take (j - 1)) = ⟨ck, cn, cd, cx, ct⟩) := hs
  rw [hs] at HO HI
  clear hs HS X
  by_cases hlt : j < n
  ·
   have i2 : (j : Int) < (n : Int) := by omega
   obtain ⟨e, hx⟩ : ∃ x, l[j]? = some x := ⟨_, List.getElem?_eq_getElem (by rw [HN.out]; exact hlt)⟩
   obtain ⟨a0, a1, a2, a3, a4⟩ := (HRow.out.later HO.out.2).five hx
   have HX : Hid (endT true aa ((l.drop 1).take (j + 1 - 1)) = pickT true ⟨ck, cn, cd, cx, ct⟩ e) := by
    show _ = _
    have := endT_step (low := true) (a := aa) (l := l) (k := j - 1) (e := e) (by rw [show j - 1 + 1 = j by omega]; exact hx)
    rw [show j - 1 + 1 = j by omega, HSk.out] at this
    rw [show j + 1 - 1 = j by omega]
    exact this
   have CC := fun W (x : Ext wr W) => cmpTI e ⟨ck, cn, cd, cx, ct⟩ W (HV.out e (List.mem_of_getElem? hx)) HI.out (HT.out.1.later (xt HO.out.2 x)) (HT.out.2.later (xt HO.out.2 x))
   have HP : Hid (pickT true ⟨ck, cn, cd, cx, ct⟩ e = if decide (cmpT e ⟨ck, cn, cd, cx, ct⟩ < 0) = true then e else ⟨ck, cn, cd, cx, ct⟩) := rfl
   obtain ⟨c, hc⟩ : ∃ c, cmpT e ⟨ck, cn, cd, cx, ct⟩ = c := ⟨_, rfl⟩
   simp only [hc] at CC
   rw [hc] at HP
   have HCC : Hid (∀ W, Ext wr W → Calls Tryz.prog 63 #[.agg #[.int .i64 e.k, .bool e.n, .int .i64 e.d, .int .i64 e.x, sV e.t], .agg #[.int .i64 ck, .bool cn, .int .i64 cd, .int .i64 cx, sV ct]] W fun z w' => z = .returned (.int .i64 c) ∧ Ext W w') := CC
   have V0 := HO.out.1.1
   have V1 := HO.out.1.2
   have XW := HO.out.2
   obtain ⟨ek, en, ed, ex, et⟩ := e
   dsimp only at a0 a1 a2 a3 a4 HCC
   obtain ⟨c0, c1, c2, c3, c4⟩ := Vec.five V0
   have ent := enterF_cmp
   clear hx HO HSk hc CC
   by_cases hq : c < 0
   ·
    have q1 : decide (c < 0) = true := decide_eq_true hq
    have HQ : Hid (endT true aa ((l.drop 1).take (j + 1 - 1)) = ⟨ek, en, ed, ex, et⟩) := by show _ = _; rw [HX.out, HP.out, q1]; rfl
    clear HX HP
    go_wp2_with fail
    go_region_held3 (fun w' => (w'.cell? ⟨b, o + j * 5, none⟩ = some (.int .i64 ek) ∧ w'.cell? ⟨b, o + j * 5 + 1, none⟩ = some (.bool en) ∧ w'.cell? ⟨b, o + j * 5 + 2, none⟩ = some (.int .i64 ed) ∧ w'.cell? ⟨b, o + j * 5 + 3, none⟩ = some (.int .i64 ex) ∧ w'.cell? ⟨b, o + j * 5 + 4, none⟩ = some (sV et)) ∧ w'.cell? ⟨B + 1, 0, none⟩ = some (.int .i64 ck) ∧ w'.cell? ⟨B + 1, 1, none⟩ = some (.bool cn) ∧ w'.cell? ⟨B + 1, 2, none⟩ = some (.int .i64 cd) ∧ w'.cell? ⟨B + 1, 3, none⟩ = some (.int .i64 cx) ∧ w'.cell? ⟨B + 1, 4, none⟩ = some (sV ct)) (go_keep)
     (first | (go_at_call 63; refine (HCC.out _ (xd (xr _))).mono ?_; rintro z w2 ⟨rfl, e2⟩; have Y := xt (xd (xr _)) e2; have r0 := cell_later Y a0; have r1 := cell_later Y a1; have r2 := cell_later Y a2; have r3 := cell_later Y a3; have r4 := cell_later Y a4; obtain ⟨s0, s1, s2, s3, s4⟩ := Vec.five (V0.later Y)))
    obtain ⟨wy, hy, XY, VY, ⟨o0, o1, o2, o3, o4⟩, ⟨f0, f1, f2, f3, f4⟩, KY⟩ := fin5g (V0.later Y) (xt XW Y) (by have := HB.out; omega) ek en ed ex et
    have HQ2 : Hid ((Vec wy (B + 1) (endT true aa ((l.drop 1).take (j + 1 - 1))).cells ∧ Vec wy B (valL 0 false 0 0 [])) ∧ Ext w wy) := by
     refine ⟨⟨?_, KY _ _ (by omega) (V1.later Y)⟩, XY⟩
     rw [HQ.out]
     exact VY
    clear V0 V1 VY KY XY HQ
    go_wp2_with fail
    go_roundw
    case rel => exact ⟨j + 1, by omega, by omega, by go_num, HQ2⟩
    case measure => simp [intOf]; omega
   ·
    have q1 : decide (c < 0) = false := decide_eq_false hq
    have HQ : Hid (endT true aa ((l.drop 1).take (j + 1 - 1)) = ⟨ck, cn, cd, cx, ct⟩) := by show _ = _; rw [HX.out, HP.out, q1]; rfl
    clear HX HP
    go_wp2_with fail
    go_region_held3 (fun w' => (w'.cell? ⟨b, o + j * 5, none⟩ = some (.int .i64 ek) ∧ w'.cell? ⟨b, o + j * 5 + 1, none⟩ = some (.bool en) ∧ w'.cell? ⟨b, o + j * 5 + 2, none⟩ = some (.int .i64 ed) ∧ w'.cell? ⟨b, o + j * 5 + 3, none⟩ = some (.int .i64 ex) ∧ w'.cell? ⟨b, o + j * 5 + 4, none⟩ = some (sV et)) ∧ w'.cell? ⟨B + 1, 0, none⟩ = some (.int .i64 ck) ∧ w'.cell? ⟨B + 1, 1, none⟩ = some (.bool cn) ∧ w'.cell? ⟨B + 1, 2, none⟩ = some (.int .i64 cd) ∧ w'.cell? ⟨B + 1, 3, none⟩ = some (.int .i64 cx) ∧ w'.cell? ⟨B + 1, 4, none⟩ = some (sV ct)) (go_keep)
     (first | (go_at_call 63; refine (HCC.out _ (xd (xr _))).mono ?_; rintro z w2 ⟨rfl, e2⟩; have Y := xt (xd (xr _)) e2; have r0 := cell_later Y a0; have r1 := cell_later Y a1; have r2 := cell_later Y a2; have r3 := cell_later Y a3; have r4 := cell_later Y a4; obtain ⟨s0, s1, s2, s3, s4⟩ := Vec.five (V0.later Y)))
    have HQ2 : Hid ((Vec w2 (B + 1) (endT true aa ((l.drop 1).take (j + 1 - 1))).cells ∧ Vec w2 B (valL 0 false 0 0 [])) ∧ Ext w w2) := by
     refine ⟨⟨?_, V1.later Y⟩, xt XW Y⟩
     rw [HQ.out]
     exact V0.later Y
    clear V0 V1 HQ
    go_wp2_with fail
    go_roundw
    case rel => exact ⟨j + 1, by omega, by omega, by go_num, HQ2⟩
    case measure => simp [intOf]; omega
  ·
   obtain rfl : j = n := by omega
   have i2 : ¬ (j : Int) < (j : Int) := by omega
   have e3 : R = ⟨ck, cn, cd, cx, ct⟩ := by
    rw [← HR.out, ← HSk.out, List.take_of_length_le (by rw [List.length_drop, HN.out]; exact Nat.le_refl _)]
   obtain ⟨c0, c1, c2, c3, c4⟩ := Vec.five HO.out.1.1
   obtain ⟨wy, hy, FX, ⟨b0, b1, b2, b3, b4⟩, ⟨fb0, fb1, fb2, fb3, fb4⟩, fd0, fd1, fd2, fd3, fd4⟩ := fin5 HO.out.1.2 HO.out.2 (by have := HB.out; omega) ck cn cd cx ct
   subst e3
   clear HO HSk HI
   go_wp2_with fail
   exact bodyPost_ret (v := valV ck cn cd cx ct) (by simp [results, Tryz.results62, go_sem, fd0, fd1, fd2, fd3, fd4]) rfl ⟨rfl, FX⟩
set_option maxRecDepth 8000 in
set_option maxHeartbeats 4000000 in
theorem maxFI (v : Value) (l : List VT) (a : VT) (w : World) (h : ValsIn w v l) (ha : l[0]? = some a) (hl : l.length ≤ 2000) (hv : ∀ e ∈ l, e.isN) (hT : Tens w) (hE : ErrTab w) :
  Calls Tryz.prog 64 #[v, fnV 63] w fun e w' => e = .returned (endT false a (l.drop 1)).val ∧ Ext w w' := by
 obtain ⟨p, cap, rfl, hcap, hrow⟩ := h
 obtain ⟨n, hn⟩ : ∃ n, l.length = n := ⟨_, rfl⟩
 have HN : Hid (l.length = n) := hn
 have n1 : 0 < n := by rw [← hn]; exact (List.getElem?_eq_some_iff.1 ha).1
 rw [hn] at hcap hl hrow ⊢
 obtain ⟨b, o, rfl, hR⟩ := hrow n1
 have HRow : Hid (RowV w b o l) := hR
 have HV : Hid (∀ e ∈ l, e.isN) := hv
 have HA : Hid (a ∈ l) := List.mem_of_getElem? ha
 have HT : Hid (Tens w ∧ ErrTab w) := ⟨hT, hE⟩
 obtain ⟨u0, u1, e0, e1, z0, z1, B0, B1, X⟩ := mkB2 w (valL 0 false 0 0 []) (valL a.k a.n a.d a.x a.t) 27 27
 have HS : Hid (Vec u1 (w.heap.size + 1) (endT false a ((l.drop 1).take (1 - 1))).cells ∧ Vec u1 w.heap.size (valL 0 false 0 0 [])) := ⟨B1, B0⟩
 obtain ⟨R, hRR⟩ : ∃ R, endT false a (l.drop 1) = R := ⟨_, rfl⟩
 have HR : Hid (endT false a (l.drop 1) = R) := hRR
 rw [hRR]
 have X0 : Ext w u0 := by rw [← e0]; exact x1 w _
 have A5 : u0.cell? ⟨b, o, none⟩ = some (.int .i64 a.k) ∧ u0.cell? ⟨b, o + 1, none⟩ = some (.bool a.n) ∧ u0.cell? ⟨b, o + 2, none⟩ = some (.int .i64 a.d) ∧ u0.cell? ⟨b, o + 3, none⟩ = some (.int .i64 a.x) ∧ u0.cell? ⟨b, o + 4, none⟩ = some (sV a.t) := by
  have := (hR.later X0).five ha
  simpa using this
 obtain ⟨a0, a1, a2, a3, a4⟩ := A5
 obtain ⟨B, hB⟩ : ∃ B, w.heap.size = B := ⟨_, rfl⟩
 have HB : Hid (w.heap.size = B) := hB
 rw [hB] at HS z0 z1
 have HAd : Hid (∃ a', a' = a) := ⟨a, rfl⟩
 obtain ⟨aa, haa⟩ : ∃ aa, aa = a := ⟨_, rfl⟩
 rw [← haa] at HS HR HA
 have HN1 : Hid (aa.isN) := HV.out aa HA.out
 obtain ⟨ak, an, ad, ax, at'⟩ := a
 dsimp only at e1 a0 a1 a2 a3 a4
 have g1 : ¬ (n : Int) < 1 := by omega
 clear hn hrow hv hT hE B0 B1 hRR hR ha haa HAd
 go_enter Tryz.func64, Tryz.ntmps64
 go_wp2_with fail
 clear e0 e1 z0 z1 hB a0 a1 a2 a3 a4
 go_loopw [6] (fun i wr => ∃ j : Nat, 1 ≤ j ∧ j ≤ n ∧ i = .int .i64 j ∧ Hid ((Vec wr (B + 1) (endT false aa ((l.drop 1).take (j - 1))).cells ∧ Vec wr B (valL 0 false 0 0 [])) ∧ Ext w wr)) (fun i _ => n - (intOf i).toNat)
 case atStart => exact ⟨1, by omega, by omega, rfl, HS.out, X⟩
 case round =>
  obtain ⟨j, hj1, hjn, rfl, HO⟩ := hrel
  have HI : Hid ((endT false aa ((l.drop 1).take (j - 1))).isN) := endT_mem _ HN1.out (fun e he => HV.out e (List.mem_of_mem_drop (List.mem_of_mem_take he)))
  obtain ⟨⟨ck, cn, cd, cx, ct⟩, hs⟩ : ∃ s, endT false aa ((l.drop 1).take (j - 1)) = s := ⟨_, rfl⟩
  have HSk : Hid (endT false aa ((l.drop 1).take (j - 1)) = ⟨ck, cn, cd, cx, ct⟩) := hs
  rw [hs] at HO HI
  clear hs HS X
  by_cases hlt : j < n
  ·
   have i2 : (j : Int) < (n : Int) := by omega
   obtain ⟨e, hx⟩ : ∃ x, l[j]? = some x := ⟨_, List.getElem?_eq_getElem (by rw [HN.out]; exact hlt)⟩
   obtain ⟨a0, a1, a2, a3, a4⟩ := (HRow.out.later HO.out.2).five hx
   have HX : Hid (endT false aa ((l.drop 1).take (j + 1 - 1)) = pickT false ⟨ck, cn, cd, cx, ct⟩ e) := by
    show _ = _
    have := endT_step (low := false) (a := aa) (l := l) (k := j - 1) (e := e) (by rw [show j - 1 + 1 = j by omega]; exact hx)
    rw [show j - 1 + 1 = j by omega, HSk.out] at this
    rw [show j + 1 - 1 = j by omega]
    exact this
   have CC := fun W (x : Ext wr W) => cmpTI e ⟨ck, cn, cd, cx, ct⟩ W (HV.out e (List.mem_of_getElem? hx)) HI.out (HT.out.1.later (xt HO.out.2 x)) (HT.out.2.later (xt HO.out.2 x))
   have HP : Hid (pickT false ⟨ck, cn, cd, cx, ct⟩ e = if decide (0 < cmpT e ⟨ck, cn, cd, cx, ct⟩) = true then e else ⟨ck, cn, cd, cx, ct⟩) := rfl
   obtain ⟨c, hc⟩ : ∃ c, cmpT e ⟨ck, cn, cd, cx, ct⟩ = c := ⟨_, rfl⟩
   simp only [hc] at CC
   rw [hc] at HP
   have HCC : Hid (∀ W, Ext wr W → Calls Tryz.prog 63 #[.agg #[.int .i64 e.k, .bool e.n, .int .i64 e.d, .int .i64 e.x, sV e.t], .agg #[.int .i64 ck, .bool cn, .int .i64 cd, .int .i64 cx, sV ct]] W fun z w' => z = .returned (.int .i64 c) ∧ Ext W w') := CC
   have V0 := HO.out.1.1
   have V1 := HO.out.1.2
   have XW := HO.out.2
   obtain ⟨ek, en, ed, ex, et⟩ := e
   dsimp only at a0 a1 a2 a3 a4 HCC
   obtain ⟨c0, c1, c2, c3, c4⟩ := Vec.five V0
   have ent := enterF_cmp
   clear hx HO HSk hc CC
   by_cases hq : 0 < c
   ·
    have q1 : decide (0 < c) = true := decide_eq_true hq
    have HQ : Hid (endT false aa ((l.drop 1).take (j + 1 - 1)) = ⟨ek, en, ed, ex, et⟩) := by show _ = _; rw [HX.out, HP.out, q1]; rfl
    clear HX HP
    go_wp2_with fail
    go_region_held3 (fun w' => (w'.cell? ⟨b, o + j * 5, none⟩ = some (.int .i64 ek) ∧ w'.cell? ⟨b, o + j * 5 + 1, none⟩ = some (.bool en) ∧ w'.cell? ⟨b, o + j * 5 + 2, none⟩ = some (.int .i64 ed) ∧ w'.cell? ⟨b, o + j * 5 + 3, none⟩ = some (.int .i64 ex) ∧ w'.cell? ⟨b, o + j * 5 + 4, none⟩ = some (sV et)) ∧ w'.cell? ⟨B + 1, 0, none⟩ = some (.int .i64 ck) ∧ w'.cell? ⟨B + 1, 1, none⟩ = some (.bool cn) ∧ w'.cell? ⟨B + 1, 2, none⟩ = some (.int .i64 cd) ∧ w'.cell? ⟨B + 1, 3, none⟩ = some (.int .i64 cx) ∧ w'.cell? ⟨B + 1, 4, none⟩ = some (sV ct)) (go_keep)
     (first | (go_at_call 63; refine (HCC.out _ (xd (xr _))).mono ?_; rintro z w2 ⟨rfl, e2⟩; have Y := xt (xd (xr _)) e2; have r0 := cell_later Y a0; have r1 := cell_later Y a1; have r2 := cell_later Y a2; have r3 := cell_later Y a3; have r4 := cell_later Y a4; obtain ⟨s0, s1, s2, s3, s4⟩ := Vec.five (V0.later Y)))
    obtain ⟨wy, hy, XY, VY, ⟨o0, o1, o2, o3, o4⟩, ⟨f0, f1, f2, f3, f4⟩, KY⟩ := fin5g (V0.later Y) (xt XW Y) (by have := HB.out; omega) ek en ed ex et
    have HQ2 : Hid ((Vec wy (B + 1) (endT false aa ((l.drop 1).take (j + 1 - 1))).cells ∧ Vec wy B (valL 0 false 0 0 [])) ∧ Ext w wy) := by
     refine ⟨⟨?_, KY _ _ (by omega) (V1.later Y)⟩, XY⟩
     rw [HQ.out]
     exact VY
    clear V0 V1 VY KY XY HQ
    go_wp2_with fail
    go_roundw
    case rel => exact ⟨j + 1, by omega, by omega, by go_num, HQ2⟩
    case measure => simp [intOf]; omega
   ·
    have q1 : decide (0 < c) = false := decide_eq_false hq
    have HQ : Hid (endT false aa ((l.drop 1).take (j + 1 - 1)) = ⟨ck, cn, cd, cx, ct⟩) := by show _ = _; rw [HX.out, HP.out, q1]; rfl
    clear HX HP
    go_wp2_with fail
    go_region_held3 (fun w' => (w'.cell? ⟨b, o + j * 5, none⟩ = some (.int .i64 ek) ∧ w'.cell? ⟨b, o + j * 5 + 1, none⟩ = some (.bool en) ∧ w'.cell? ⟨b, o + j * 5 + 2, none⟩ = some (.int .i64 ed) ∧ w'.cell? ⟨b, o + j * 5 + 3, none⟩ = some (.int .i64 ex) ∧ w'.cell? ⟨b, o + j * 5 + 4, none⟩ = some (sV et)) ∧ w'.cell? ⟨B + 1, 0, none⟩ = some (.int .i64 ck) ∧ w'.cell? ⟨B + 1, 1, none⟩ = some (.bool cn) ∧ w'.cell? ⟨B + 1, 2, none⟩ = some (.int .i64 cd) ∧ w'.cell? ⟨B + 1, 3, none⟩ = some (.int .i64 cx) ∧ w'.cell? ⟨B + 1, 4, none⟩ = some (sV ct)) (go_keep)
     (first | (go_at_call 63; refine (HCC.out _ (xd (xr _))).mono ?_; rintro z w2 ⟨rfl, e2⟩; have Y := xt (xd (xr _)) e2; have r0 := cell_later Y a0; have r1 := cell_later Y a1; have r2 := cell_later Y a2; have r3 := cell_later Y a3; have r4 := cell_later Y a4; obtain ⟨s0, s1, s2, s3, s4⟩ := Vec.five (V0.later Y)))
    have HQ2 : Hid ((Vec w2 (B + 1) (endT false aa ((l.drop 1).take (j + 1 - 1))).cells ∧ Vec w2 B (valL 0 false 0 0 [])) ∧ Ext w w2) := by
     refine ⟨⟨?_, V1.later Y⟩, xt XW Y⟩
     rw [HQ.out]
     exact V0.later Y
    clear V0 V1 HQ
    go_wp2_with fail
    go_roundw
    case rel => exact ⟨j + 1, by omega, by omega, by go_num, HQ2⟩
    case measure => simp [intOf]; omega
  ·
   obtain rfl : j = n := by omega
   have i2 : ¬ (j : Int) < (j : Int) := by omega
   have e3 : R = ⟨ck, cn, cd, cx, ct⟩ := by
    rw [← HR.out, ← HSk.out, List.take_of_length_le (by rw [List.length_drop, HN.out]; exact Nat.le_refl _)]
   obtain ⟨c0, c1, c2, c3, c4⟩ := Vec.five HO.out.1.1
   obtain ⟨wy, hy, FX, ⟨b0, b1, b2, b3, b4⟩, ⟨fb0, fb1, fb2, fb3, fb4⟩, fd0, fd1, fd2, fd3, fd4⟩ := fin5 HO.out.1.2 HO.out.2 (by have := HB.out; omega) ck cn cd cx ct
   subst e3
   clear HO HSk HI
   go_wp2_with fail
   exact bodyPost_ret (v := valV ck cn cd cx ct) (by simp [results, Tryz.results64, go_sem, fd0, fd1, fd2, fd3, fd4]) rfl ⟨rfl, FX⟩
/-- The leastOf of numbers, 0 where there are none. -/
def lowT (l : List VT) : VT := match l with
 | [] => cntT 0
 | a :: l => endT true a l
set_option maxHeartbeats 2000000 in
theorem leastOfI (v : Value) (l : List VT) (w : World) (h : ValsIn w v l) (hl : l.length ≤ 2000) (hv : ∀ e ∈ l, e.isN) (hT : Tens w) (hE : ErrTab w) :
  Calls Tryz.prog 49 #[v] w fun e w' => e = .returned (lowT l).val ∧ Ext w w' := by
 have X0 := x1 w (.cells #[.int .i64 0, .bool false, .int .i64 0, .int .i64 0, sV []] 27)
 have B0 := vec_made w (valL 0 false 0 0 []) 27
 change Vec (w.alloc (.cells #[.int .i64 0, .bool false, .int .i64 0, .int .i64 0, sV []] 27)) _ _ at B0
 cases l with
 | nil =>
  have CC := countI 0 (w.alloc (.cells #[.int .i64 0, .bool false, .int .i64 0, .int .i64 0, sV []] 27)) (by omega) (hT.later X0)
  change Calls _ _ _ _ fun e w' => e = .returned (lowT []).val ∧ _ at CC
  obtain ⟨p, cap, rfl, -, -⟩ := h
  obtain ⟨⟨k2, n2, d2, x2, t2⟩, hc⟩ : ∃ r, lowT [] = r := ⟨_, rfl⟩
  rw [hc] at CC ⊢
  clear hc hv hT hE
  go_enter Tryz.func49, Tryz.ntmps49
  go_wp2_with fail
  refine CC.mono ?_
  rintro rr w1 ⟨rfl, e1⟩
  obtain ⟨wy, hy, FX, ⟨b0, b1, b2, b3, b4⟩, ⟨fb0, fb1, fb2, fb3, fb4⟩, fd0, fd1, fd2, fd3, fd4⟩ := fin5 (B0.later e1) (xt X0 e1) (by omega) k2 n2 d2 x2 t2
  go_wp2_with fail
  exact bodyPost_ret (v := valV k2 n2 d2 x2 t2) (by simp [results, Tryz.results49, go_sem, fd0, fd1, fd2, fd3, fd4]) rfl ⟨rfl, FX⟩
 | cons a l =>
  have CM := minFI v (a :: l) a (w.alloc (.cells #[.int .i64 0, .bool false, .int .i64 0, .int .i64 0, sV []] 27)) (h.later X0) rfl hl hv (hT.later X0) (hE.later X0)
  change Calls _ _ _ _ fun e w' => e = .returned (lowT (a :: l)).val ∧ _ at CM
  obtain ⟨p, cap, rfl, -, -⟩ := h
  obtain ⟨⟨k2, n2, d2, x2, t2⟩, hc⟩ : ∃ r, lowT (a :: l) = r := ⟨_, rfl⟩
  rw [hc] at CM ⊢
  obtain ⟨n, hn⟩ : ∃ n, (a :: l).length = n := ⟨_, rfl⟩
  have n0 : ((n : Int) == 0) = false := beq_eq_false_iff_ne.2 (by rw [← hn]; simp; omega)
  rw [hn] at CM ⊢
  clear hc hv hT hE hn
  go_enter Tryz.func49, Tryz.ntmps49
  go_wp2_with fail
  refine CM.mono ?_
  rintro rr w1 ⟨rfl, e1⟩
  obtain ⟨wy, hy, FX, ⟨b0, b1, b2, b3, b4⟩, ⟨fb0, fb1, fb2, fb3, fb4⟩, fd0, fd1, fd2, fd3, fd4⟩ := fin5 (B0.later e1) (xt X0 e1) (by omega) k2 n2 d2 x2 t2
  go_wp2_with fail
  exact bodyPost_ret (v := valV k2 n2 d2 x2 t2) (by simp [results, Tryz.results49, go_sem, fd0, fd1, fd2, fd3, fd4]) rfl ⟨rfl, FX⟩
/-- The greatestOf of numbers, 0 where there are none. -/
def highT (l : List VT) : VT := match l with
 | [] => cntT 0
 | a :: l => endT false a l
set_option maxHeartbeats 2000000 in
theorem greatestOfI (v : Value) (l : List VT) (w : World) (h : ValsIn w v l) (hl : l.length ≤ 2000) (hv : ∀ e ∈ l, e.isN) (hT : Tens w) (hE : ErrTab w) :
  Calls Tryz.prog 50 #[v] w fun e w' => e = .returned (highT l).val ∧ Ext w w' := by
 have X0 := x1 w (.cells #[.int .i64 0, .bool false, .int .i64 0, .int .i64 0, sV []] 27)
 have B0 := vec_made w (valL 0 false 0 0 []) 27
 change Vec (w.alloc (.cells #[.int .i64 0, .bool false, .int .i64 0, .int .i64 0, sV []] 27)) _ _ at B0
 cases l with
 | nil =>
  have CC := countI 0 (w.alloc (.cells #[.int .i64 0, .bool false, .int .i64 0, .int .i64 0, sV []] 27)) (by omega) (hT.later X0)
  change Calls _ _ _ _ fun e w' => e = .returned (highT []).val ∧ _ at CC
  obtain ⟨p, cap, rfl, -, -⟩ := h
  obtain ⟨⟨k2, n2, d2, x2, t2⟩, hc⟩ : ∃ r, highT [] = r := ⟨_, rfl⟩
  rw [hc] at CC ⊢
  clear hc hv hT hE
  go_enter Tryz.func50, Tryz.ntmps50
  go_wp2_with fail
  refine CC.mono ?_
  rintro rr w1 ⟨rfl, e1⟩
  obtain ⟨wy, hy, FX, ⟨b0, b1, b2, b3, b4⟩, ⟨fb0, fb1, fb2, fb3, fb4⟩, fd0, fd1, fd2, fd3, fd4⟩ := fin5 (B0.later e1) (xt X0 e1) (by omega) k2 n2 d2 x2 t2
  go_wp2_with fail
  exact bodyPost_ret (v := valV k2 n2 d2 x2 t2) (by simp [results, Tryz.results50, go_sem, fd0, fd1, fd2, fd3, fd4]) rfl ⟨rfl, FX⟩
 | cons a l =>
  have CM := maxFI v (a :: l) a (w.alloc (.cells #[.int .i64 0, .bool false, .int .i64 0, .int .i64 0, sV []] 27)) (h.later X0) rfl hl hv (hT.later X0) (hE.later X0)
  change Calls _ _ _ _ fun e w' => e = .returned (highT (a :: l)).val ∧ _ at CM
  obtain ⟨p, cap, rfl, -, -⟩ := h
  obtain ⟨⟨k2, n2, d2, x2, t2⟩, hc⟩ : ∃ r, highT (a :: l) = r := ⟨_, rfl⟩
  rw [hc] at CM ⊢
  obtain ⟨n, hn⟩ : ∃ n, (a :: l).length = n := ⟨_, rfl⟩
  have n0 : ((n : Int) == 0) = false := beq_eq_false_iff_ne.2 (by rw [← hn]; simp; omega)
  rw [hn] at CM ⊢
  clear hc hv hT hE hn
  go_enter Tryz.func50, Tryz.ntmps50
  go_wp2_with fail
  refine CM.mono ?_
  rintro rr w1 ⟨rfl, e1⟩
  obtain ⟨wy, hy, FX, ⟨b0, b1, b2, b3, b4⟩, ⟨fb0, fb1, fb2, fb3, fb4⟩, fd0, fd1, fd2, fd3, fd4⟩ := fin5 (B0.later e1) (xt X0 e1) (by omega) k2 n2 d2 x2 t2
  go_wp2_with fail
  exact bodyPost_ret (v := valV k2 n2 d2 x2 t2) (by simp [results, Tryz.results50, go_sem, fd0, fd1, fd2, fd3, fd4]) rfl ⟨rfl, FX⟩

end Go.Proofs.YtfgohahfppabbaaGreatDoor

