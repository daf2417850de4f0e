/-
  Several texts in one: As0, De, G8, Gs, Big, G9, V7e, W9a, W9b, Av.
-/
import Derived.Test.YtfgohahfppabbaaGreatDoorMg6
import Derived.Deep.AppendSrc
import Derived.Deep.Upon
import Derived.OwnWalk
import Derived.Laws.OwnMore
import Derived.Test.YtfgohahfppabbaaGreatDoorMg31
import Derived.Deep.DeepCutAuto
import Derived.Deep.AppendLies
import Derived.Test.YtfgohahfppabbaaGreatDoorMg30
import Derived.Test.YtfgohahfppabbaaGreatDoorMg26
import Derived.Test.YtfgohahfppabbaaGreatDoorMg4
import Derived.Test.YtfgohahfppabbaaGreatDoorMg7
namespace Go.Proofs.YtfgohahfppabbaaGreatDoor
open Go.RowKit

theorem app_srcG {P : Program} (w : World) (base : Nat) (t tx ty e : TypeId) (i : TypeInfo) (z : Value) (ht : P.underlying t = some (.slice e)) (hi : P.info? e = some i) (hz : i.zero = some z)
  (sz : Nat) (hsize : i.size = sz) (hby : i.bytes ≤ 64) (hzs : z.cells.size = sz) (v : Value) (n : Nat) (xs : List Value) (hown : w.ownsRow base e sz v n xs) (x : Value) (m : Nat) (news : List Value) (hs : Src P sz tx x m news w)
  (hnm : n + m ≤ 1000000000) (hbase : base ≤ w.heap.size) :
  ∃ v' w', (Builtin.append_ #[t, tx] ty #[v, x]).run P w = .ok v' w' ∧ w'.ownsRow base e sz v' (n + m) (xs ++ news) ∧ w.grownBy w' v.ownBlock ∧ (v'.ownBlock = v.ownBlock ∨ v'.ownBlock = some w.heap.size) := by
 have hs' : Src P i.size tx x m news w := by rw [hsize]; exact hs
 have hml : n + m ≤ maxLen := by simp only [maxLen]; omega
 have hlen : (xs ++ news).length = (n + m) * sz := by rw [List.length_append, hown.1, hs.newsLen, Nat.add_mul]
 have grown : ∀ (old : Nat) (row : Option Nat),
   (w.drew.alloc (.cells ((xs ++ news).toArray ++ Builtin.zeroCells z.cells (grownCap w (n + m) old e - (n + m))) e)).ownsRow base e sz (.slice (some ⟨w.heap.size, 0, none⟩) (n + m) (grownCap w (n + m) old e)) (n + m) (xs ++ news) ∧
   w.grownBy (w.drew.alloc (.cells ((xs ++ news).toArray ++ Builtin.zeroCells z.cells (grownCap w (n + m) old e - (n + m))) e)) row := by
  intro old row
  have hge := grownCap_ge w (n + m) old e
  refine ⟨⟨hlen, .inr ⟨w.heap.size, _, _, rfl, hbase, heap_alloc_new w.drew _, hge, grownCap_le_maxLen w (n + m) old e hml, ?_, ?_⟩⟩, ⟨rfl, rfl, rfl, by simp, fun k hk _ => heap_alloc_old w.drew _ hk⟩⟩
  ·
   rw [Array.size_append, List.size_toArray, size_zeroCells, hzs, hlen, ← Nat.add_mul]
   congr 1
   omega
  ·
   rw [Array.toList_append, ← hlen]
   exact List.take_left
 rcases hown.2 with ⟨rfl, rfl⟩ | ⟨g, cap, cur, rfl, hbg, hg, hnc, hcm, hcs, htake⟩
 ·
  have hx : xs = [] := List.eq_nil_of_length_eq_zero (by have := hown.1; rw [Nat.zero_mul] at this; exact this)
  subst hx
  by_cases hm : m = 0
  ·
   subst hm
   have hn : news = [] := List.eq_nil_of_length_eq_zero (by have := hs.newsLen; rw [Nat.zero_mul] at this; exact this)
   subst hn
   exact ⟨_, _, run_append_nothing w t tx ty e i ht hi none 0 0 (Nat.le_refl _) x hs', World.ownsRow_nil w base e sz, ⟨rfl, rfl, rfl, Nat.le_refl _, fun _ _ _ => rfl⟩, Or.inl rfl⟩
  ·
   have hr := run_append_grow_src (P := P) w t tx ty e i z ht hi hz none 0 0 [] (run_firstCells_none w.drew i.size 0 0 0) x m news hs' (by omega) (by omega) (growslice_fits (by omega) (by have := Nat.mul_le_mul hnm hby; omega))
   have hgr := grown 0 (Value.ownBlock (.slice none 0 0))
   exact ⟨_, _, hr, hgr.1, hgr.2, Or.inr rfl⟩
 ·
  by_cases hroom : n + m ≤ cap
  ·
   have hfit : n * i.size + news.length ≤ cur.size := by rw [hs'.newsLen, hcs, hsize, ← Nat.add_mul]; exact Nat.mul_le_mul_right _ hroom
   have hst := run_storeCells_at P g (n * i.size) e news 0 cur w hg (by simpa using hfit) hs.one
   simp only [Nat.add_zero] at hst
   have hr : (Builtin.append_ #[t, tx] ty #[.slice (some ⟨g, 0, none⟩) n cap, x]).run P w = .ok (.slice (some ⟨g, 0, none⟩) (n + m) cap) (w.setRow g (cur.toList.take (n * i.size) ++ news ++ cur.toList.drop (n * i.size + news.length)).toArray) := by
    rcases hs'.kind with ⟨e', hk⟩ | hk <;> simp [Builtin.append_, run_underlying ht, run_underlying hk, sizeOf, typeInfo, hi, hs'.len, hroom, hs'.cells, Addr.add_lit, hst]
   refine ⟨_, _, hr, ⟨hlen, .inr ⟨g, cap, _, rfl, hbg, setRow_heap w g cur _ e _ hg, hroom, hcm, ?_, ?_⟩⟩, ⟨rfl, rfl, rfl, by simp, fun k _ hk => setRow_other w g k _ (fun e => hk (by simp [Value.ownBlock, e]))⟩, Or.inl rfl⟩
   ·
    simp only [List.size_toArray, List.length_append, List.length_take, List.length_drop, Array.length_toList]
    omega
   ·
    rw [hsize, htake, ← hlen]
    exact List.take_left
  ·
   have holds : ∀ j u, xs[j]? = some u → w.cell? ((⟨g, 0, none⟩ : Addr).add j) = some u := hown.cells (g := g) rfl
   have hr := run_append_grow_src (P := P) w t tx ty e i z ht hi hz (some ⟨g, 0, none⟩) n cap xs (run_firstCells_some (P := P) w.drew i.size n ⟨g, 0, none⟩ n cap xs (by rw [hsize]; exact hown.1) (by simpa using holds)) x m news hs' (by omega) (by omega) (growslice_fits (by omega) (by have := Nat.mul_le_mul hnm hby; omega))
   have hgr := grown cap (Value.ownBlock (.slice (some ⟨g, 0, none⟩) n cap))
   exact ⟨_, _, hr, hgr.1, hgr.2, Or.inr rfl⟩

def flatD : List DT → List Value
 | [] => []
 | x :: l => x.cells ++ flatD l
theorem flatD_append (l m : List DT) : flatD (l ++ m) = flatD l ++ flatD m := by
 induction l with
 | nil => rfl
 | cons x l ih => simp [flatD, ih]
theorem flatD_length (l : List DT) : (flatD l).length = l.length * 3 := by
 induction l with
 | nil => rfl
 | cons x l ih => simp [flatD, ih]; omega
theorem flatD_at {l : List DT} {i : Nat} {x : DT} (h : l[i]? = some x) (j : Nat) (hj : j < 3) : (flatD l)[i * 3 + j]? = x.cells[j]? := by
 induction l generalizing i with
 | nil => cases h
 | cons y l ih =>
  have h5 : y.cells.length = 3 := rfl
  cases i with
  | zero =>
   have : y = x := by simpa using h
   subst this
   show (y.cells ++ flatD l)[0 * 3 + j]? = _
   rw [Nat.zero_mul, Nat.zero_add, List.getElem?_append_left (by omega)]
  | succ i =>
   show (y.cells ++ flatD l)[(i + 1) * 3 + j]? = _
   rw [List.getElem?_append_right (by omega), show (i + 1) * 3 + j - y.cells.length = i * 3 + j by omega]
   exact ih (by simpa using h)
/-- A row of values of one's own, that may grow. -/
abbrev OwnE (w : World) (base : Nat) (v : Value) (l : List DT) : Prop := w.ownsRow base 25 3 v l.length (flatD l)
theorem ownE_later {w w' : World} {base : Nat} {v : Value} {l : List DT} (h : OwnE w base v l) (hx : Ext w w') : OwnE w' base v l := by
 refine ⟨h.1, h.2.imp id ?_⟩
 rintro ⟨g, cap, cur, h1, h2, h3, h4⟩
 have hlt : g < w.heap.size := by
  rcases Nat.lt_or_ge g w.heap.size with h' | h'
  ·
   exact h'
  ·
   rw [Array.getElem?_eq_none h'] at h3; cases h3
 exact ⟨g, cap, cur, h1, h2, by rw [hx.block g hlt]; exact h3, h4⟩
theorem ownE_block {w : World} {base : Nat} {v : Value} {l : List DT} (h : OwnE w base v l) : ∀ r, v.ownBlock = some r → base ≤ r := by
 intro r hr
 rcases h.2 with ⟨rfl, _⟩ | ⟨g, cap, cur, rfl, h2, _⟩
 ·
  cases hr
 ·
  have : g = r := by simpa [Value.ownBlock] using hr
  omega
theorem ownE_slice {w : World} {base : Nat} {v : Value} {l : List DT} (h : OwnE w base v l) : ∃ p n c, v = .slice p n c := by
 rcases h.2 with ⟨rfl, _⟩ | ⟨g, cap, cur, rfl, _⟩
 ·
  exact ⟨_, _, _, rfl⟩
 ·
  exact ⟨_, _, _, rfl⟩
theorem ownE_decs {w : World} {base : Nat} {v : Value} {l : List DT} (h : OwnE w base v l) : DecsIn w v l := by
 rcases h.2 with ⟨rfl, h0⟩ | ⟨g, cap, cur, rfl, hb, hg, hc, _, hcs, htake⟩
 ·
  exact ⟨none, 0, by rw [h0], by omega, fun h => absurd h0 (by omega)⟩
 ·
  refine ⟨_, cap, rfl, hc, fun _ => ⟨g, 0, rfl, fun i e hi c u hu => ?_⟩⟩
  have := h.cells (g := g) rfl (i * 3 + c) u ((flatD_at hi c (DT.cells_lt hu)).trans hu)
  rw [show (⟨g, 0, none⟩ : Addr).add (i * 3 + c) = ⟨g, 0 + i * 3 + c, none⟩ by unfold Addr.add; split <;> simp_all] at this
  exact this
/-- A store elsewhere leaves the row. -/
theorem ownE_far {w : World} {base : Nat} {v : Value} {l : List DT} (h : OwnE w base v l) {p : Addr} (hp : p.block < base) (u : Value) : OwnE (w.setCell p u) base v l := by
 refine ⟨h.1, h.2.imp id ?_⟩
 rintro ⟨g, cap, cur, h1, h2, h3, h4⟩
 exact ⟨g, cap, cur, h1, h2, by rw [heap_setCell_other _ _ _ _ (by omega)]; exact h3, h4⟩
theorem infoE : ∃ inf, Tryz.prog.info? 25 = some inf ∧ inf.zero = some (decV false 0 0) ∧ inf.size = 3 ∧ inf.bytes = 24 := by
 have h0 : (Tryz.prog.info? 25).map (fun i => (i.zero, i.size, i.bytes)) = some (some (decV false 0 0), 3, 24) := by kernel_rfl
 obtain ⟨inf, e1, e2⟩ := Option.map_eq_some_iff.1 h0
 simp only [Prod.mk.injEq] at e2
 exact ⟨inf, e1, e2.1, e2.2.1, e2.2.2⟩
theorem decs_src {w : World} {v : Value} {l : List DT} (h : DecsIn w v l) : Src Tryz.prog 3 59 v l.length (flatD l) w := by
 obtain ⟨p, cap, rfl, hcap, hi⟩ := h
 cases p with
 | none =>
  have h0 : l.length = 0 := by
   rcases Nat.eq_zero_or_pos l.length with h | h
   ·
    exact h
   ·
    obtain ⟨b, o, e, _⟩ := hi h; cases e
  have : l = [] := List.eq_nil_of_length_eq_zero h0
  subst this
  exact Src.ofNil _ Tryz.underlying59 cap
 | some a =>
  refine Src.ofSlice (size := 3) _ Tryz.underlying59 a l.length cap (flatD l) (flatD_length l) (fun j u hj => ?_) (fun u hu => ?_)
  ·
   have hjl : j < (flatD l).length := (List.getElem?_eq_some_iff.1 hj).1
   rw [flatD_length] at hjl
   have hil : j / 3 < l.length := by omega
   obtain ⟨e, he⟩ : ∃ e, l[j / 3]? = some e := ⟨_, List.getElem?_eq_getElem hil⟩
   have hc := flatD_at he (j % 3) (by omega)
   rw [show j / 3 * 3 + j % 3 = j by omega, hj] at hc
   obtain ⟨b, o, e', hR⟩ := hi (by omega)
   cases e'
   have := hR (j / 3) e he (j % 3) u hc.symm
   rw [Addr.add_lit, show o + j = o + j / 3 * 3 + j % 3 by omega]
   exact this
  ·
   obtain ⟨j, hj, rfl⟩ := List.getElem_of_mem hu
   rw [flatD_length] at hj
   obtain ⟨e, he⟩ : ∃ e, l[j / 3]? = some e := ⟨_, List.getElem?_eq_getElem (by omega)⟩
   have hc := flatD_at he (j % 3) (by omega)
   rw [show j / 3 * 3 + j % 3 = j by omega, List.getElem?_eq_getElem (by rw [flatD_length]; exact hj)] at hc
   have h5 : j % 3 < 3 := by omega
   generalize j % 3 = q at hc h5
   match q, h5, hc with
   | 0, _, hc => rw [Option.some.inj (show some _ = some _ from hc)]; rfl
   | 1, _, hc => rw [Option.some.inj (show some _ = some _ from hc)]; rfl
   | 2, _, hc => rw [Option.some.inj (show some _ = some _ from hc)]; rfl
theorem ownE_own {w : World} {base : Nat} {v : Value} {l : List DT} (h : OwnE w base v l) {g : Nat} (hg : v.ownBlock = some g) : ∃ c, v = .slice (some ⟨g, 0, none⟩) l.length c ∧ l.length ≤ c ∧ base ≤ g ∧ OwnDc w g l := by
 obtain ⟨hx, h1 | ⟨g', cap, cur, rfl, hb, hh, hn, -, hs, ht⟩⟩ := h
 ·
  rw [h1.1] at hg; cases hg
 ·
  cases hg
  refine ⟨cap, rfl, hn, hb, fun i e hi c u hc => ?_⟩
  have h5 := DT.cells_lt hc
  have hil : i < l.length := (List.getElem?_eq_some_iff.1 hi).1
  have hlt : i * 3 + c < l.length * 3 := by omega
  have hf := flatD_at hi c h5
  rw [hc, ← ht, List.getElem?_take_of_lt hlt] at hf
  have e1 : cur[i * 3 + c]? = some u := by rw [← hf]; simp
  refine ⟨?_, ?_⟩
  ·
   unfold World.cell?
   simp only [hh]
   simpa using e1
  ·
   unfold World.frozen?
   simp only [hh]
   simp

theorem isErrG (k : Int) (n : Bool) (d x : Int) (t : List UInt8) (w : World) :
  Calls Tryz.prog 36 #[valV k n d x t] w fun e w' => e = .returned (.bool (decide (k = 4))) ∧ Ext w w' := by
 have X0 := x1 w (.cells #[.int .i64 k, .bool n, .int .i64 d, .int .i64 x, sV t] 27)
 have B0 := vec_made w (valL k n d x t) 27
 change Vec (w.alloc (.cells #[.int .i64 k, .bool n, .int .i64 d, .int .i64 x, sV t] 27)) _ _ at B0
 obtain ⟨a0, a1, a2, a3, a4⟩ := Vec.five B0
 have e : decide (k = 4) = (k == 4) := rfl
 rw [e]
 clear e
 go_enter Tryz.func36, Tryz.ntmps36
 go_wp2_with fail
 go_ret
 exact ⟨rfl, X0⟩
theorem smallG (z : Int) (w : World) (s1 : -1000000000000000000 < z) (s2 : z < 1000000000000000000) :
  Calls Tryz.prog 53 #[.int .i64 z] w fun e w' => e = .returned (zS z) ∧ Ext w w' := by
 go_enter Tryz.func53, Tryz.ntmps53
 go_wp2
 exact bodyPost_ret (v := zS z) (by simp [results, Tryz.results53, go_sem]) rfl ⟨rfl, x1 _ _⟩
theorem field_decG (ok n : Bool) (d x : Int) (W : World) : (Instr.field 70 (.agg #[.bool ok, .bool n, .int .i64 d, .int .i64 x]) 1).run Tryz.prog W = .ok (decV n d x) W := by kernel_rfl
set_option maxHeartbeats 2000000 in
theorem countS (n : Nat) (w : World) (h : n ≤ 2000) :
  Calls Tryz.prog 34 #[.int .i64 n] w fun e w' => e = .returned (cntT n).val ∧ Ext w w' := by
 have X0 := x1 w (.cells #[.int .i64 0, .bool false, .int .i64 0, .int .i64 0, sV []] 27)
 have B0 := vec_made w (valL 0 false 0 0 []) 27
 change Vec (w.alloc (.cells #[.int .i64 0, .bool false, .int .i64 0, .int .i64 0, sV []] 27)) _ _ at B0
 have HK : Hid ((putR false n 0 false).ok = true) := count_ok h
 have CP : Hid (∀ W, Calls Tryz.prog 52 #[zS (n : Int), .int .i64 0, .bool false] W fun r w' => r = .returned (resV (putR false n 0 false)) ∧ Ext W w') := fun W => by
  have hp : ((1000000000 : Int) ^ 3) = 1000000000000000000000000000 := by decide
  have := put_spec 0 false W (ZV.small (w := W) (z := (n : Int)) (by omega) (by omega)) 3 (by omega) (by rw [hp]; omega) (by omega) (by omega) false n rfl (fun _ => decide_eq_false (by omega))
  exact this
 have HC : Hid (cntT n = putT (putR false n 0 false)) := rfl
 obtain ⟨⟨ok, pn, pd, pe⟩, hr⟩ : ∃ r, putR false n 0 false = r := ⟨_, rfl⟩
 rw [hr] at CP HC HK
 obtain rfl : ok = true := HK.out
 have e1 : cntT n = ⟨1, pn, pd, pe, []⟩ := by rw [HC.out]; rfl
 rw [e1]
 have hfd := field_decG true pn pd pe
 clear e1 hr HC HK
 go_enter Tryz.func34, Tryz.ntmps34
 go_wp2_with fail
 refine (smallG (n : Int) _ (by omega) (by omega)).mono ?_
 rintro rr w1 ⟨rfl, e1⟩
 go_wp2_with fail
 refine (CP.out w1).mono ?_
 rintro rr w2 ⟨rfl, e2⟩
 go_wp2_with fail
 refine (numVS pn pd pe w2).mono ?_
 rintro rr w3 ⟨rfl, e3⟩
 obtain ⟨wy, hy, FX, ⟨b0, b1, b2, b3, b4⟩, ⟨fb0, fb1, fb2, fb3, fb4⟩, fd0, fd1, fd2, fd3, fd4⟩ := fin5 (((B0.later e1).later e2).later e3) (xt (xt (xt X0 e1) e2) e3) (by omega) 1 pn pd pe []
 go_wp2_with fail
 exact bodyPost_ret (v := valV 1 pn pd pe []) (by simp [results, Tryz.results34, go_sem, fd0, fd1, fd2, fd3, fd4]) rfl ⟨rfl, FX⟩

theorem Vec.putF {w : World} {b : Nat} {v0 v1 v2 v3 : Value} (h : Vec w b [v0, v1, v2, v3]) (u0 u1 u2 u3 : Value) : Vec ((((w.setCell ⟨b, 0, none⟩ u0).setCell ⟨b, 1, none⟩ u1).setCell ⟨b, 2, none⟩ u2).setCell ⟨b, 3, none⟩ u3) b [u0, u1, u2, u3] :=
 (((h.put 0 (by simp) u0).put 1 (by simp) u1).put 2 (by simp) u2).put 3 (by simp) u3
theorem ext_putF {a w : World} {b : Nat} (h : Ext a w) (hb : a.heap.size ≤ b) (u0 u1 u2 u3 : Value) : Ext a ((((w.setCell ⟨b, 0, none⟩ u0).setCell ⟨b, 1, none⟩ u1).setCell ⟨b, 2, none⟩ u2).setCell ⟨b, 3, none⟩ u3) :=
 xset (p := ⟨b, 3, none⟩) (xset (p := ⟨b, 2, none⟩) (xset (p := ⟨b, 1, none⟩) (xset (p := ⟨b, 0, none⟩) h hb _) hb _) hb _) hb _
theorem Vec.farF {w : World} {b k : Nat} {l : List Value} (hk : b ≠ k) (u0 u1 u2 u3 : Value) (h : Vec w k l) : Vec ((((w.setCell ⟨b, 0, none⟩ u0).setCell ⟨b, 1, none⟩ u1).setCell ⟨b, 2, none⟩ u2).setCell ⟨b, 3, none⟩ u3) k l :=
 Vec.farL (k := b) hk [u0, u1, u2, u3] 0 h

set_option maxRecDepth 8000 in
set_option maxHeartbeats 2000000 in
theorem plusS (n : Bool) (d e : Int) (n' : Bool) (d' e' : Int) (w : World)  :
  Calls Tryz.prog 54 #[sV [43], decV n d e, decV n' d' e'] w fun rr w' => rr = .returned (putV (addR n d e n' d' e')) ∧ Ext w w' := by
 obtain ⟨⟨rk, rn, rd, re⟩, hr⟩ : ∃ r, addR n d e n' d' e' = r := ⟨_, rfl⟩
 have HP : Hid (∀ W, Calls Tryz.prog 74 #[decV n d e, decV n' d' e'] W fun r w' => r = .returned (.agg #[.bool rk, .bool rn, .int .i64 rd, .int .i64 re]) ∧ Ext W w') := fun W => by have := addSpec n n' d e d' e' W; rw [hr] at this; exact this
 rw [hr]
 clear hr
 obtain ⟨R, hR⟩ : ∃ R, putV ⟨rk, rn, rd, re⟩ = R := ⟨_, rfl⟩
 have HV : Hid (putV ⟨rk, rn, rd, re⟩ = R) := hR
 rw [hR]
 clear hR
 obtain ⟨u0, u1, u2, u3, h0, h1, h2, h3, s0, s1, s2, s3, B0, B1, B2, B3, X⟩ := mkB4 w [.bool n, .int .i64 d, .int .i64 e] [.bool n', .int .i64 d', .int .i64 e'] [.int .i64 0, .bool false, .int .i64 0, .int .i64 0, sV []] [.bool false, .bool false, .int .i64 0, .int .i64 0] 25 25 27 70
 obtain ⟨wz, hz⟩ : ∃ wz, u3 = wz := ⟨_, rfl⟩
 rw [hz] at h3 s3 B0 B1 B2 B3 X
 clear hz
 have BQ := B3.putF (.bool false) (.bool false) (.int .i64 0) (.int .i64 0)
 have XQ := ext_putF (b := w.heap.size + 1 + 1 + 1) X (by omega) (.bool false) (.bool false) (.int .i64 0) (.int .i64 0)
 have D0 := Vec.farF (b := w.heap.size + 1 + 1 + 1) (by omega) (.bool false) (.bool false) (.int .i64 0) (.int .i64 0) B0
 have D1 := Vec.farF (b := w.heap.size + 1 + 1 + 1) (by omega) (.bool false) (.bool false) (.int .i64 0) (.int .i64 0) B1
 have D2 := Vec.farF (b := w.heap.size + 1 + 1 + 1) (by omega) (.bool false) (.bool false) (.int .i64 0) (.int .i64 0) B2
 obtain ⟨wq, hq⟩ : ∃ wq, ((((wz.setCell ⟨w.heap.size + 1 + 1 + 1, 0, none⟩ (.bool false)).setCell ⟨w.heap.size + 1 + 1 + 1, 1, none⟩ (.bool false)).setCell ⟨w.heap.size + 1 + 1 + 1, 2, none⟩ (.int .i64 0)).setCell ⟨w.heap.size + 1 + 1 + 1, 3, none⟩ (.int .i64 0)) = wq := ⟨_, rfl⟩
 rw [hq] at BQ XQ D0 D1 D2
 obtain ⟨z0, z1, z2, z3⟩ := B3.four
 obtain ⟨y0, y1, y2, y3⟩ := B3.fourF
 have X := XQ
 clear B0 B1 B2 B3 XQ
 obtain ⟨a0, a1, a2⟩ := Vec.three (D0)
 obtain ⟨c0, c1, c2⟩ := Vec.three (D1)
 go_enter Tryz.func54, Tryz.ntmps54
 go_wp2_with fail
 clear h0 h1 h2 h3 s0 s1 s2 s3 hq z0 y0 z1 y1 z2 y2 z3 y3 a0 a1 a2 c0 c1 c2
 refine (HP.out wq).mono ?_
 rintro rr w2 ⟨rfl, e2⟩
 have GQ := (BQ.later e2).putF (.bool rk) (.bool rn) (.int .i64 rd) (.int .i64 re)
 have GX := ext_putF (a := w) (b := w.heap.size + 1 + 1 + 1) (xt X e2) (by omega) (.bool rk) (.bool rn) (.int .i64 rd) (.int .i64 re)
 have G2 := Vec.farF (b := w.heap.size + 1 + 1 + 1) (by omega) (.bool rk) (.bool rn) (.int .i64 rd) (.int .i64 re) (D2.later e2)
 obtain ⟨wg, hgw⟩ : ∃ wg, ((((w2.setCell ⟨w.heap.size + 1 + 1 + 1, 0, none⟩ (.bool rk)).setCell ⟨w.heap.size + 1 + 1 + 1, 1, none⟩ (.bool rn)).setCell ⟨w.heap.size + 1 + 1 + 1, 2, none⟩ (.int .i64 rd)).setCell ⟨w.heap.size + 1 + 1 + 1, 3, none⟩ (.int .i64 re)) = wg := ⟨_, rfl⟩
 rw [hgw] at GQ GX G2
 obtain ⟨m0, m1, m2, m3⟩ := Vec.four (BQ.later e2)
 obtain ⟨o0, o1, o2, o3⟩ := Vec.fourF (BQ.later e2)
 obtain ⟨r0, r1, r2, r3⟩ := Vec.four GQ
 cases rk
 ·
  have HV2 := HV
  go_wp2_with fail
  clear hgw m0 o0 r0 m1 o1 r1 m2 o2 r2 m3 o3 r3
  refine (errVS numbT wg).mono ?_
  rintro rr w8 ⟨rfl, e8⟩
  obtain ⟨wy, hy, FX, ⟨b0, b1, b2, b3, b4⟩, ⟨fb0, fb1, fb2, fb3, fb4⟩, fd0, fd1, fd2, fd3, fd4⟩ := fin5 (G2.later e8) (xt GX e8) (by omega) 4 false 0 0 numbT
  go_wp2_with fail
  exact bodyPost_ret (v := valV 4 false 0 0 numbT) (by simp [results, Tryz.results54, go_sem, fd0, fd1, fd2, fd3, fd4]) rfl ⟨congrArg Ending.returned HV2.out, FX⟩
 ·
  have HV2 := HV
  go_wp2_with fail
  clear hgw m0 o0 r0 m1 o1 r1 m2 o2 r2 m3 o3 r3
  refine (numVS rn rd re wg).mono ?_
  rintro rr w8 ⟨rfl, e8⟩
  obtain ⟨wy, hy, FX, ⟨b0, b1, b2, b3, b4⟩, ⟨fb0, fb1, fb2, fb3, fb4⟩, fd0, fd1, fd2, fd3, fd4⟩ := fin5 (G2.later e8) (xt GX e8) (by omega) 1 rn rd re []
  go_wp2_with fail
  exact bodyPost_ret (v := valV 1 rn rd re []) (by simp [results, Tryz.results54, go_sem, fd0, fd1, fd2, fd3, fd4]) rfl ⟨congrArg Ending.returned HV2.out, FX⟩
set_option maxRecDepth 8000 in
set_option maxHeartbeats 2000000 in
theorem overS (n : Bool) (d e : Int) (n' : Bool) (d' e' : Int) (w : World)  :
  Calls Tryz.prog 54 #[sV [47], decV n d e, decV n' d' e'] w fun rr w' => rr = .returned ((if d' = 0 then evV divT else putV (divR n d e n' d' e'))) ∧ Ext w w' := by
 by_cases h00 : d' = 0
 ·
  rw [if_pos h00]
  subst h00
  have HR : Hid (evV divT = evV divT) := rfl
  obtain ⟨u0, u1, u2, u3, h0, h1, h2, h3, s0, s1, s2, s3, B0, B1, B2, B3, X⟩ := mkB4 w [.bool n, .int .i64 d, .int .i64 e] [.bool n', .int .i64 0, .int .i64 e'] [.int .i64 0, .bool false, .int .i64 0, .int .i64 0, sV []] [.bool false, .bool false, .int .i64 0, .int .i64 0] 25 25 27 70
  obtain ⟨wz, hz⟩ : ∃ wz, u3 = wz := ⟨_, rfl⟩
  rw [hz] at h3 s3 B0 B1 B2 B3 X
  clear hz
  have BQ := B3.putF (.bool false) (.bool false) (.int .i64 0) (.int .i64 0)
  have XQ := ext_putF (b := w.heap.size + 1 + 1 + 1) X (by omega) (.bool false) (.bool false) (.int .i64 0) (.int .i64 0)
  have D0 := Vec.farF (b := w.heap.size + 1 + 1 + 1) (by omega) (.bool false) (.bool false) (.int .i64 0) (.int .i64 0) B0
  have D1 := Vec.farF (b := w.heap.size + 1 + 1 + 1) (by omega) (.bool false) (.bool false) (.int .i64 0) (.int .i64 0) B1
  have D2 := Vec.farF (b := w.heap.size + 1 + 1 + 1) (by omega) (.bool false) (.bool false) (.int .i64 0) (.int .i64 0) B2
  obtain ⟨wq, hq⟩ : ∃ wq, ((((wz.setCell ⟨w.heap.size + 1 + 1 + 1, 0, none⟩ (.bool false)).setCell ⟨w.heap.size + 1 + 1 + 1, 1, none⟩ (.bool false)).setCell ⟨w.heap.size + 1 + 1 + 1, 2, none⟩ (.int .i64 0)).setCell ⟨w.heap.size + 1 + 1 + 1, 3, none⟩ (.int .i64 0)) = wq := ⟨_, rfl⟩
  rw [hq] at BQ XQ D0 D1 D2
  obtain ⟨z0, z1, z2, z3⟩ := B3.four
  obtain ⟨y0, y1, y2, y3⟩ := B3.fourF
  have X := XQ
  clear B0 B1 B2 B3 XQ
  obtain ⟨a0, a1, a2⟩ := Vec.three (D0)
  obtain ⟨c0, c1, c2⟩ := Vec.three (D1)
  go_enter Tryz.func54, Tryz.ntmps54
  go_wp2_with fail
  clear h0 h1 h2 h3 s0 s1 s2 s3 hq z0 y0 z1 y1 z2 y2 z3 y3 a0 a1 a2 c0 c1 c2
  refine (errVS divT wq).mono ?_
  rintro rr w2 ⟨rfl, e2⟩
  obtain ⟨wy, hy, FX, ⟨b0, b1, b2, b3, b4⟩, ⟨fb0, fb1, fb2, fb3, fb4⟩, fd0, fd1, fd2, fd3, fd4⟩ := fin5 (D2.later e2) (xt X e2) (by omega) 4 false 0 0 divT
  go_wp2_with fail
  exact bodyPost_ret (v := valV 4 false 0 0 divT) (by simp [results, Tryz.results54, go_sem, fd0, fd1, fd2, fd3, fd4]) rfl ⟨rfl, FX⟩
 ·
  rw [if_neg h00]
  have hd0 : (d' == 0) = false := by simpa using h00
  obtain ⟨⟨rk, rn, rd, re⟩, hr⟩ : ∃ r, divR n d e n' d' e' = r := ⟨_, rfl⟩
  have HP : Hid (∀ W, Calls Tryz.prog 77 #[decV n d e, decV n' d' e'] W fun r w' => r = .returned (.agg #[.bool rk, .bool rn, .int .i64 rd, .int .i64 re]) ∧ Ext W w') := fun W => by have := divS n n' d e d' e' W; rw [hr] at this; exact this
  rw [hr]
  clear hr
  obtain ⟨R, hR⟩ : ∃ R, putV ⟨rk, rn, rd, re⟩ = R := ⟨_, rfl⟩
  have HV : Hid (putV ⟨rk, rn, rd, re⟩ = R) := hR
  rw [hR]
  clear hR
  obtain ⟨u0, u1, u2, u3, h0, h1, h2, h3, s0, s1, s2, s3, B0, B1, B2, B3, X⟩ := mkB4 w [.bool n, .int .i64 d, .int .i64 e] [.bool n', .int .i64 d', .int .i64 e'] [.int .i64 0, .bool false, .int .i64 0, .int .i64 0, sV []] [.bool false, .bool false, .int .i64 0, .int .i64 0] 25 25 27 70
  obtain ⟨wz, hz⟩ : ∃ wz, u3 = wz := ⟨_, rfl⟩
  rw [hz] at h3 s3 B0 B1 B2 B3 X
  clear hz
  have BQ := B3.putF (.bool false) (.bool false) (.int .i64 0) (.int .i64 0)
  have XQ := ext_putF (b := w.heap.size + 1 + 1 + 1) X (by omega) (.bool false) (.bool false) (.int .i64 0) (.int .i64 0)
  have D0 := Vec.farF (b := w.heap.size + 1 + 1 + 1) (by omega) (.bool false) (.bool false) (.int .i64 0) (.int .i64 0) B0
  have D1 := Vec.farF (b := w.heap.size + 1 + 1 + 1) (by omega) (.bool false) (.bool false) (.int .i64 0) (.int .i64 0) B1
  have D2 := Vec.farF (b := w.heap.size + 1 + 1 + 1) (by omega) (.bool false) (.bool false) (.int .i64 0) (.int .i64 0) B2
  obtain ⟨wq, hq⟩ : ∃ wq, ((((wz.setCell ⟨w.heap.size + 1 + 1 + 1, 0, none⟩ (.bool false)).setCell ⟨w.heap.size + 1 + 1 + 1, 1, none⟩ (.bool false)).setCell ⟨w.heap.size + 1 + 1 + 1, 2, none⟩ (.int .i64 0)).setCell ⟨w.heap.size + 1 + 1 + 1, 3, none⟩ (.int .i64 0)) = wq := ⟨_, rfl⟩
  rw [hq] at BQ XQ D0 D1 D2
  obtain ⟨z0, z1, z2, z3⟩ := B3.four
  obtain ⟨y0, y1, y2, y3⟩ := B3.fourF
  have X := XQ
  clear B0 B1 B2 B3 XQ
  obtain ⟨a0, a1, a2⟩ := Vec.three (D0)
  obtain ⟨c0, c1, c2⟩ := Vec.three (D1)
  go_enter Tryz.func54, Tryz.ntmps54
  go_wp2_with fail
  clear h0 h1 h2 h3 s0 s1 s2 s3 hq z0 y0 z1 y1 z2 y2 z3 y3 a0 a1 a2 c0 c1 c2
  refine (HP.out wq).mono ?_
  rintro rr w2 ⟨rfl, e2⟩
  have GQ := (BQ.later e2).putF (.bool rk) (.bool rn) (.int .i64 rd) (.int .i64 re)
  have GX := ext_putF (a := w) (b := w.heap.size + 1 + 1 + 1) (xt X e2) (by omega) (.bool rk) (.bool rn) (.int .i64 rd) (.int .i64 re)
  have G2 := Vec.farF (b := w.heap.size + 1 + 1 + 1) (by omega) (.bool rk) (.bool rn) (.int .i64 rd) (.int .i64 re) (D2.later e2)
  obtain ⟨wg, hgw⟩ : ∃ wg, ((((w2.setCell ⟨w.heap.size + 1 + 1 + 1, 0, none⟩ (.bool rk)).setCell ⟨w.heap.size + 1 + 1 + 1, 1, none⟩ (.bool rn)).setCell ⟨w.heap.size + 1 + 1 + 1, 2, none⟩ (.int .i64 rd)).setCell ⟨w.heap.size + 1 + 1 + 1, 3, none⟩ (.int .i64 re)) = wg := ⟨_, rfl⟩
  rw [hgw] at GQ GX G2
  obtain ⟨m0, m1, m2, m3⟩ := Vec.four (BQ.later e2)
  obtain ⟨o0, o1, o2, o3⟩ := Vec.fourF (BQ.later e2)
  obtain ⟨r0, r1, r2, r3⟩ := Vec.four GQ
  cases rk
  ·
   have HV2 := HV
   go_wp2_with fail
   clear hgw m0 o0 r0 m1 o1 r1 m2 o2 r2 m3 o3 r3
   refine (errVS numbT wg).mono ?_
   rintro rr w8 ⟨rfl, e8⟩
   obtain ⟨wy, hy, FX, ⟨b0, b1, b2, b3, b4⟩, ⟨fb0, fb1, fb2, fb3, fb4⟩, fd0, fd1, fd2, fd3, fd4⟩ := fin5 (G2.later e8) (xt GX e8) (by omega) 4 false 0 0 numbT
   go_wp2_with fail
   exact bodyPost_ret (v := valV 4 false 0 0 numbT) (by simp [results, Tryz.results54, go_sem, fd0, fd1, fd2, fd3, fd4]) rfl ⟨congrArg Ending.returned HV2.out, FX⟩
  ·
   have HV2 := HV
   go_wp2_with fail
   clear hgw m0 o0 r0 m1 o1 r1 m2 o2 r2 m3 o3 r3
   refine (numVS rn rd re wg).mono ?_
   rintro rr w8 ⟨rfl, e8⟩
   obtain ⟨wy, hy, FX, ⟨b0, b1, b2, b3, b4⟩, ⟨fb0, fb1, fb2, fb3, fb4⟩, fd0, fd1, fd2, fd3, fd4⟩ := fin5 (G2.later e8) (xt GX e8) (by omega) 1 rn rd re []
   go_wp2_with fail
   exact bodyPost_ret (v := valV 1 rn rd re []) (by simp [results, Tryz.results54, go_sem, fd0, fd1, fd2, fd3, fd4]) rfl ⟨congrArg Ending.returned HV2.out, FX⟩

/-- A number of exponents from -300 on, by one scale. -/
def bigN (n : Bool) (d x : Int) : Int := sgn n d * 10 ^ (x + 300).toNat
theorem cmpI_le (a b : Int) : cmpI a b ≤ 0 ↔ a ≤ b := by unfold cmpI; split <;> (try split) <;> constructor <;> intro <;> omega
theorem pow_pos10 (n : Nat) : (0 : Int) < 10 ^ n := Int.pow_pos (by decide)
theorem scale_le {n n' : Bool} {d x d' x' : Int} (hx : -300 ≤ x) (hx' : -300 ≤ x') : sgn n d * 10 ^ (x - min x x').toNat ≤ sgn n' d' * 10 ^ (x' - min x x').toNat ↔ bigN n d x ≤ bigN n' d' x' := by
 unfold bigN
 have hm : -300 ≤ min x x' := by omega
 have e1 : (x + 300).toNat = (x - min x x').toNat + (min x x' + 300).toNat := by omega
 have e2 : (x' + 300).toNat = (x' - min x x').toNat + (min x x' + 300).toNat := by omega
 rw [e1, e2, Int.pow_add, Int.pow_add, ← Int.mul_assoc, ← Int.mul_assoc]
 exact ⟨fun h => Int.mul_le_mul_of_nonneg_right h (Int.le_of_lt (pow_pos10 _)), fun h => Int.le_of_mul_le_mul_right h (pow_pos10 _)⟩
theorem ten_dvd {n : Nat} (h : n ≠ 0) : (10 : Int) ∣ 10 ^ n := by
 obtain ⟨m, rfl⟩ : ∃ m, n = m + 1 := ⟨n - 1, by omega⟩
 exact ⟨10 ^ m, by rw [Int.pow_succ, Int.mul_comm]⟩
theorem goodB_parts {n : Bool} {d x : Int} (h : goodB n d x = true) : (d = 0 ∧ n = false ∧ x = 0) ∨ (0 < d ∧ d % 10 ≠ 0) := by
 unfold goodB at h
 split at h
 ·
  left
  rename_i h0
  simp at h
  exact ⟨h0, h.1, h.2⟩
 ·
  right
  have := of_decide_eq_true h
  exact ⟨this.1, this.2.2.1⟩
theorem dec_one_lt {n n' : Bool} {d d' x x' : Int} (g : goodB n d x = true) (hx : x < x') (e : sgn n d = sgn n' d' * 10 ^ (x' - x).toNat) : d = 0 := by
 rcases goodB_parts g with ⟨h, _, _⟩ | ⟨h, hm⟩
 ·
  exact h
 ·
  exfalso
  have hd : (10 : Int) ∣ sgn n d := by
   have hn : (x' - x).toNat ≠ 0 := by omega
   rw [e]
   exact Int.dvd_trans (ten_dvd hn) ⟨sgn n' d', by rw [Int.mul_comm]⟩
  have : (10 : Int) ∣ d := by
   unfold sgn at hd
   split at hd
   ·
    exact (Int.dvd_neg).1 hd
   ·
    exact hd
  omega
theorem pow_ne (k : Nat) : (10 : Int) ^ k ≠ 0 := by
 have : (0 : Int) < 10 ^ k := Int.pow_pos (by omega)
 omega
theorem sgn_zero {n : Bool} {d : Int} : sgn n d = 0 ↔ d = 0 := by unfold sgn; split <;> omega
theorem dec_one {n n' : Bool} {d d' x x' : Int} (g : goodB n d x = true) (g' : goodB n' d' x' = true) (e : sgn n d * 10 ^ (x - min x x').toNat = sgn n' d' * 10 ^ (x' - min x x').toNat) : n = n' ∧ d = d' ∧ x = x' := by
 have zero : d = 0 → d' = 0 → n = n' ∧ d = d' ∧ x = x' := fun h h' => by
  rcases goodB_parts g with ⟨_, a, b⟩ | ⟨a, _⟩
  ·
   rcases goodB_parts g' with ⟨_, a', b'⟩ | ⟨a', _⟩
   ·
    exact ⟨by rw [a, a'], by rw [h, h'], by rw [b, b']⟩
   ·
    omega
  ·
   omega
 rcases Int.lt_trichotomy x x' with hx | hx | hx
 ·
  rw [show min x x' = x by omega, Int.sub_self, show (0 : Int).toNat = 0 from rfl, Int.pow_zero, Int.mul_one] at e
  have d0 := dec_one_lt g hx e
  have : sgn n' d' = 0 := by
   have e0 : sgn n d = 0 := sgn_zero.2 d0
   rw [e0] at e
   rcases Int.mul_eq_zero.1 e.symm with h | h
   ·
    exact h
   ·
    exact absurd h (pow_ne _)
  exact zero d0 (sgn_zero.1 this)
 ·
  subst hx
  rw [show min x x = x by omega, Int.sub_self, show (0 : Int).toNat = 0 from rfl, Int.pow_zero, Int.mul_one, Int.mul_one] at e
  rcases goodB_parts g with ⟨h, a, _⟩ | ⟨h, _⟩
  ·
   have : d' = 0 := sgn_zero.1 (by rw [← e]; exact sgn_zero.2 h)
   exact zero h this
  ·
   rcases goodB_parts g' with ⟨h', _, _⟩ | ⟨h', _⟩
   ·
    have : d = 0 := sgn_zero.1 (by rw [e]; exact sgn_zero.2 h')
    omega
   ·
    unfold sgn at e
    cases n <;> cases n' <;> simp at e <;> first | exact ⟨rfl, by omega, rfl⟩ | omega
 ·
  rw [show min x x' = x' by omega, Int.sub_self, show (0 : Int).toNat = 0 from rfl, Int.pow_zero, Int.mul_one] at e
  have d0 := dec_one_lt g' hx e.symm
  have : sgn n d = 0 := by
   have e0 : sgn n' d' = 0 := sgn_zero.2 d0
   rw [e0] at e
   rcases Int.mul_eq_zero.1 e with h | h
   ·
    exact h
   ·
    exact absurd h (pow_ne _)
  exact zero (sgn_zero.1 this) d0

/-- A decimal as a value. -/
def DT.num (e : DT) : VT := ⟨1, e.ng, e.dg, e.ex, []⟩
theorem cntT_zero : cntT 0 = ⟨1, false, 0, 0, []⟩ := by
 unfold cntT putR
 rw [if_neg (by rw [nd_zero]; omega)]
 unfold fitR
 rw [if_pos rfl]
 rfl
theorem sumT_err {s : VT} (h : s.k = 4) (l : List VT) : sumT s l = s := by
 induction l with
 | nil => rfl
 | cons a l ih =>
  show sumT (stepT s a) l = s
  have : stepT s a = s := by unfold stepT; rw [if_pos h]
  rw [this]
  exact ih
theorem stepT_num {s : VT} (h : s.k ≠ 4) (e : DT) : stepT s e.num = putT (addR s.n s.d s.x e.ng e.dg e.ex) := by
 unfold stepT
 rw [if_neg h]
 rfl
set_option maxRecDepth 8000 in
set_option maxHeartbeats 4000000 in
theorem sumS (v : Value) (l : List DT) (w : World) (h : DecsIn w v l) (hl : l.length ≤ 2000) :
  Calls Tryz.prog 37 #[sV [43], decV false 0 0, v] w fun e w' => e = .returned (sumT (cntT 0) (l.map DT.num)).val ∧ Ext w w' := by
 rw [cntT_zero]
 obtain ⟨p, cap, rfl, hcap, hrow⟩ := h
 obtain ⟨n, hn⟩ : ∃ n, l.length = n := ⟨_, rfl⟩
 have HN : Hid (l.length = n) := hn
 rw [hn] at hcap hl hrow ⊢
 have HRow : Hid (0 < n → ∃ b o, p = some ⟨b, o, none⟩ ∧ RowDc w b o l) := hrow
 obtain ⟨u0, u1, e0, e1, z0, z1, B0, B1, X⟩ := mkB2 w [.bool false, .int .i64 0, .int .i64 0] (valL 0 false 0 0 []) 25 27
 obtain ⟨B, hB⟩ : ∃ B, w.heap.size = B := ⟨_, rfl⟩
 have HB : Hid (w.heap.size = B) := hB
 obtain ⟨R, hR⟩ : ∃ R, sumT ⟨1, false, 0, 0, []⟩ (l.map DT.num) = R := ⟨_, rfl⟩
 have HR : Hid (sumT ⟨1, false, 0, 0, []⟩ (l.map DT.num) = R) := hR
 rw [hR]
 rw [hB] at B0 B1 z0 z1
 obtain ⟨a0, a1, a2⟩ := Vec.three B0
 clear hn hrow hR
 go_enter Tryz.func37, Tryz.ntmps37
 go_wp2_with fail
 clear a0 a1 a2 e0 e1 hB
 refine (numVS false 0 0 u1).mono ?_
 rintro rr w1 ⟨rfl, e1⟩
 have X1 := xt X e1
 have z1' : B + 1 + 1 ≤ w1.heap.size := by have := e1.size; have := HB.out; omega
 have Y := x1 w1 (.cells #[.int .i64 1, .bool false, .int .i64 0, .int .i64 0, sV []] 27)
 have KB := vec_made w1 (valL 1 false 0 0 []) 27
 change Vec (w1.alloc (.cells #[.int .i64 1, .bool false, .int .i64 0, .int .i64 0, sV []] 27)) _ _ at KB
 obtain ⟨C, hC⟩ : ∃ C, w1.heap.size = C := ⟨_, rfl⟩
 rw [hC] at KB z1'
 have B1' : Vec w1 (B + 1) (valL 0 false 0 0 []) := B1.later e1
 have HS : Hid ((Vec (w1.alloc (.cells #[.int .i64 1, .bool false, .int .i64 0, .int .i64 0, sV []] 27)) C (sumT ⟨1, false, 0, 0, []⟩ ((l.map DT.num).take 0)).cells ∧ Vec (w1.alloc (.cells #[.int .i64 1, .bool false, .int .i64 0, .int .i64 0, sV []] 27)) (B + 1) (valL 0 false 0 0 [])) ∧ Ext w (w1.alloc (.cells #[.int .i64 1, .bool false, .int .i64 0, .int .i64 0, sV []] 27))) := ⟨⟨KB, B1'.later Y⟩, xt X1 Y⟩
 have hBs := HB.out
 clear B0 B1 B1' X X1 KB Y e1 z0 z1
 go_wp2_with fail
 obtain ⟨wa, hwa⟩ : ∃ wa, w1.alloc (.cells #[.int .i64 1, .bool false, .int .i64 0, .int .i64 0, sV []] 27) = wa := ⟨_, rfl⟩
 rw [hwa] at HS ⊢
 clear hwa hC hBs
 go_loopw [14] (fun i wr => ∃ k : Nat, k ≤ n ∧ i = .int .i64 k ∧ Hid (((Vec wr C (sumT ⟨1, false, 0, 0, []⟩ ((l.map DT.num).take k)).cells ∧ Vec wr (B + 1) (valL 0 false 0 0 [])) ∧ Ext w wr) ∧ (sumT ⟨1, false, 0, 0, []⟩ ((l.map DT.num).take k)).k ≠ 4)) (fun i _ => n - (intOf i).toNat)
 case atStart => exact ⟨0, by omega, rfl, HS.out, by simp [sumT]⟩
 case round =>
  obtain ⟨k, hk, rfl, HO⟩ := hrel
  obtain ⟨⟨ck, cn, cd, cx, ct⟩, hs⟩ : ∃ s, sumT ⟨1, false, 0, 0, []⟩ ((l.map DT.num).take k) = s := ⟨_, rfl⟩
  have HSk : Hid (sumT ⟨1, false, 0, 0, []⟩ ((l.map DT.num).take k) = ⟨ck, cn, cd, cx, ct⟩) := hs
  rw [hs] at HO
  clear hs HS
  by_cases hlt : k < n
  ·
   have i2 : (k : Int) < (n : Int) := by omega
   obtain ⟨e, hx⟩ : ∃ x, l[k]? = some x := ⟨_, List.getElem?_eq_getElem (by rw [HN.out]; exact hlt)⟩
   obtain ⟨b, o, rfl, RW⟩ := HRow.out (by omega)
   obtain ⟨a0, a1, a2⟩ := (RW.later HO.out.1.2).all hx
   have HX : Hid (sumT ⟨1, false, 0, 0, []⟩ ((l.map DT.num).take (k + 1)) = putT (addR cn cd cx e.ng e.dg e.ex)) := by
    show _ = _
    rw [sumT_step (e := e.num) (by rw [List.getElem?_map, hx]; rfl), HSk.out]
    exact stepT_num HO.out.2 e
   have HE : Hid ((putT (addR cn cd cx e.ng e.dg e.ex)).k = 4 → sumT ⟨1, false, 0, 0, []⟩ (l.map DT.num) = putT (addR cn cd cx e.ng e.dg e.ex)) := fun h4 => by
    have e3 : l.map DT.num = (l.map DT.num).take (k + 1) ++ (l.map DT.num).drop (k + 1) := (List.take_append_drop _ _).symm
    rw [e3]
    unfold sumT
    rw [List.foldl_append]
    change sumT (sumT _ _) _ = _
    rw [HX.out]
    exact sumT_err h4 _
   have Y := x1 wr (.cells #[.bool e.ng, .int .i64 e.dg, .int .i64 e.ex] 25)
   have KB := vec_made wr [.bool e.ng, .int .i64 e.dg, .int .i64 e.ex] 25
   change Vec (wr.alloc (.cells #[.bool e.ng, .int .i64 e.dg, .int .i64 e.ex] 25)) _ _ at KB
   obtain ⟨wx, hwx⟩ : ∃ wx, wr.alloc (.cells #[.bool e.ng, .int .i64 e.dg, .int .i64 e.ex] 25) = wx := ⟨_, rfl⟩
   rw [hwx] at Y KB
   have XW := xt HO.out.1.2 Y
   have CS := plusS cn cd cx e.ng e.dg e.ex wx
   rw [← putT_val] at CS
   obtain ⟨⟨rk, rn, rd, rx, rt⟩, hr⟩ : ∃ r, putT (addR cn cd cx e.ng e.dg e.ex) = r := ⟨_, rfl⟩
   rw [hr] at CS HX HE
   have V0 := HO.out.1.1.1.later Y
   have V1 := HO.out.1.1.2.later Y
   obtain ⟨en, ed, ex⟩ := e
   dsimp only at a0 a1 a2 hwx CS KB
   obtain ⟨c0, c1, c2, c3, c4⟩ := Vec.five V0
   obtain ⟨k0, k1, k2⟩ := Vec.three KB
   clear hx RW HO hr HSk
   go_wp2_with fail
   clear a0 a1 a2 c0 c1 c2 c3 c4 k0 k1 k2 hwx
   refine CS.mono ?_
   rintro z w2 ⟨rfl, e2⟩
   obtain ⟨wy, hy, XY, VY, ⟨o0, o1, o2, o3, o4⟩, ⟨f0, f1, f2, f3, f4⟩, KY⟩ := fin5g (V0.later e2) (xt XW e2) (by have := HB.out; omega) rk rn rd rx rt
   have VB := KY (B + 1) _ (by omega) (V1.later e2)
   obtain ⟨q0, q1, q2, q3, q4⟩ := Vec.five VY
   have CE := isErrG rk rn rd rx rt wy
   clear V0 V1 KY
   go_wp2_with fail
   clear o0 o1 o2 o3 o4 f0 f1 f2 f3 f4 hy q0 q1 q2 q3 q4
   refine CE.mono ?_
   rintro z w3 ⟨rfl, e3⟩
   by_cases h4 : rk = 4
   ·
    rw [decide_eq_true h4]
    have e4 : R = ⟨rk, rn, rd, rx, rt⟩ := by rw [← HR.out]; exact HE.out h4
    obtain ⟨q0, q1, q2, q3, q4⟩ := Vec.five (VY.later e3)
    obtain ⟨wz, hz, FX, ⟨b0, b1, b2, b3, b4⟩, ⟨fb0, fb1, fb2, fb3, fb4⟩, fd0, fd1, fd2, fd3, fd4⟩ := fin5 (VB.later e3) (xt XY e3) (by have := HB.out; omega) rk rn rd rx rt
    subst e4
    clear HX HE h4
    go_wp2_with fail
    exact bodyPost_ret (v := valV rk rn rd rx rt) (by simp [results, Tryz.results37, go_sem, fd0, fd1, fd2, fd3, fd4]) rfl ⟨rfl, FX⟩
   ·
    rw [decide_eq_false h4]
    have HQ : Hid (((Vec w3 C (sumT ⟨1, false, 0, 0, []⟩ ((l.map DT.num).take (k + 1))).cells ∧ Vec w3 (B + 1) (valL 0 false 0 0 [])) ∧ Ext w w3) ∧ (sumT ⟨1, false, 0, 0, []⟩ ((l.map DT.num).take (k + 1))).k ≠ 4) := by
     rw [HX.out]
     exact ⟨⟨⟨VY.later e3, VB.later e3⟩, xt XY e3⟩, h4⟩
    clear VY VB XY HX HE h4
    go_wp2_with fail
    go_roundw
    case rel => exact ⟨k + 1, by omega, by go_num, HQ⟩
    case measure => simp [intOf]; omega
  ·
   obtain rfl : k = n := by omega
   have i2 : ¬ (k : Int) < (k : Int) := by omega
   have e3 : R = ⟨ck, cn, cd, cx, ct⟩ := by
    rw [← HR.out, ← HSk.out, List.take_of_length_le (by rw [List.length_map, HN.out]; exact Nat.le_refl _)]
   obtain ⟨c0, c1, c2, c3, c4⟩ := Vec.five HO.out.1.1.1
   obtain ⟨wy, hy, FX, ⟨b0, b1, b2, b3, b4⟩, ⟨fb0, fb1, fb2, fb3, fb4⟩, fd0, fd1, fd2, fd3, fd4⟩ := fin5 HO.out.1.1.2 HO.out.1.2 (by have := HB.out; omega) ck cn cd cx ct
   subst e3
   clear HO HSk
   go_wp2_with fail
   exact bodyPost_ret (v := valV ck cn cd cx ct) (by simp [results, Tryz.results37, go_sem, fd0, fd1, fd2, fd3, fd4]) rfl ⟨rfl, FX⟩

def flatV : List VT → List Value
 | [] => []
 | x :: l => x.cells ++ flatV l
theorem flatV_length (l : List VT) : (flatV l).length = l.length * 5 := by
 induction l with
 | nil => rfl
 | cons x l ih => simp [flatV, VT.cells, valL, ih]; omega
theorem flatV_at {l : List VT} {i : Nat} {x : VT} (h : l[i]? = some x) (j : Nat) (hj : j < 5) : (flatV l)[i * 5 + j]? = x.cells[j]? := by
 induction l generalizing i with
 | nil => cases h
 | cons y l ih =>
  have h5 : y.cells.length = 5 := rfl
  cases i with
  | zero =>
   have : y = x := by simpa using h
   subst this
   show (y.cells ++ flatV l)[0 * 5 + j]? = _
   rw [Nat.zero_mul, Nat.zero_add, List.getElem?_append_left (by omega)]
  | succ i =>
   show (y.cells ++ flatV l)[(i + 1) * 5 + j]? = _
   rw [List.getElem?_append_right (by omega), show (i + 1) * 5 + j - y.cells.length = i * 5 + j by omega]
   exact ih (by simpa using h)
/-- A row of values of one's own, that may grow. -/
abbrev OwnW (w : World) (base : Nat) (v : Value) (l : List VT) : Prop := w.ownsRow base 27 5 v l.length (flatV l)
theorem vec_same {w w' : World} {b : Nat} {l : List Value} (h : Vec w b l) (e : w'.heap[b]? = w.heap[b]?) : Vec w' b l := fun i u hi => by
 have := h i u hi
 unfold World.cell? World.frozen? at this ⊢
 simp only [e]
 exact this
theorem infoW : ∃ inf, Tryz.prog.info? 27 = some inf ∧ inf.zero = some (valV 0 false 0 0 []) ∧ inf.size = 5 ∧ inf.bytes = 48 := by
 obtain ⟨inf, e1, e2⟩ := Option.map_eq_some_iff.1 infoV
 simp only [Prod.mk.injEq] at e2
 exact ⟨inf, e1, e2.1, e2.2.1, e2.2.2⟩

theorem vals_src {w : World} {v : Value} {l : List VT} (h : ValsIn w v l) : Src Tryz.prog 5 29 v l.length (flatV l) w := by
 obtain ⟨p, cap, rfl, hcap, hi⟩ := h
 cases p with
 | none =>
  have h0 : l.length = 0 := by
   rcases Nat.eq_zero_or_pos l.length with h | h
   ·
    exact h
   ·
    obtain ⟨b, o, e, _⟩ := hi h; cases e
  have : l = [] := List.eq_nil_of_length_eq_zero h0
  subst this
  exact Src.ofNil _ Tryz.underlying29 cap
 | some a =>
  refine Src.ofSlice (size := 5) _ Tryz.underlying29 a l.length cap (flatV l) (flatV_length l) (fun j u hj => ?_) (fun u hu => ?_)
  ·
   have hjl : j < (flatV l).length := (List.getElem?_eq_some_iff.1 hj).1
   rw [flatV_length] at hjl
   have hil : j / 5 < l.length := by omega
   obtain ⟨e, he⟩ : ∃ e, l[j / 5]? = some e := ⟨_, List.getElem?_eq_getElem hil⟩
   have hc := flatV_at he (j % 5) (by omega)
   rw [show j / 5 * 5 + j % 5 = j by omega, hj] at hc
   obtain ⟨b, o, e', hR⟩ := hi (by omega)
   cases e'
   have := hR (j / 5) e he (j % 5) u hc.symm
   rw [Addr.add_lit, show o + j = o + j / 5 * 5 + j % 5 by omega]
   exact this
  ·
   obtain ⟨j, hj, rfl⟩ := List.getElem_of_mem hu
   rw [flatV_length] at hj
   obtain ⟨e, he⟩ : ∃ e, l[j / 5]? = some e := ⟨_, List.getElem?_eq_getElem (by omega)⟩
   have hc := flatV_at he (j % 5) (by omega)
   rw [show j / 5 * 5 + j % 5 = j by omega, List.getElem?_eq_getElem (by rw [flatV_length]; exact hj)] at hc
   have h5 : j % 5 < 5 := by omega
   generalize j % 5 = q at hc h5
   match q, h5, hc with
   | 0, _, hc => rw [Option.some.inj (show some _ = some _ from hc)]; rfl
   | 1, _, hc => rw [Option.some.inj (show some _ = some _ from hc)]; rfl
   | 2, _, hc => rw [Option.some.inj (show some _ = some _ from hc)]; rfl
   | 3, _, hc => rw [Option.some.inj (show some _ = some _ from hc)]; rfl
   | 4, _, hc => rw [Option.some.inj (show some _ = some _ from hc)]; rfl

end Go.Proofs.YtfgohahfppabbaaGreatDoor

