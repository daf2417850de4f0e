/-
  Several texts in one: G10, G11, G12.
-/
import Derived.Test.YtfgohahfppabbaaGreatDoorMg32
import Derived.Test.YtfgohahfppabbaaGreatDoorG7
import Derived.Lib.AppendZeros
namespace Go.Proofs.YtfgohahfppabbaaGreatDoor
open Go.RowKit

set_option maxHeartbeats 2000000 in
theorem stepDS (s c : VT) (w : World) (hs : s.isP) (hc : c.isN) :
  Calls Tryz.prog 55 #[sV [47], s.val, c.val] w fun e w' => e = .returned (if s.k = 4 then s else overT s.n s.d s.x c.n c.d c.x).val ∧ Ext w w' := by
 obtain ⟨ck, cn, cd, cx, ct⟩ := c
 obtain ⟨rfl, rfl, gc⟩ : ck = 1 ∧ ct = [] ∧ goodB cn cd cx = true := hc
 rcases hs with hs | rfl
 ·
  obtain ⟨sk, sn, sd, sx, st⟩ := s
  obtain ⟨rfl, rfl, gs⟩ : sk = 1 ∧ st = [] ∧ goodB sn sd sx = true := hs
  rw [if_neg (show ¬ (1 : Int) = 4 by decide)]
  obtain ⟨u0, u1, u2, h0, h1, h2, s0, s1, s2, B0, B1, B2, X⟩ := mkB3 w [.int .i64 1, .bool sn, .int .i64 sd, .int .i64 sx, sV []] [.int .i64 1, .bool cn, .int .i64 cd, .int .i64 cx, sV []] [.int .i64 0, .bool false, .int .i64 0, .int .i64 0, sV []] 27 27 27
  have HO : Hid (∀ W, Calls Tryz.prog 54 #[sV [47], decV sn sd sx, decV cn cd cx] W fun rr w' => rr = .returned (overT sn sd sx cn cd cx).val ∧ Ext W w') := fun W => by
   have := overS sn sd sx cn cd cx W
   unfold overT
   split
   ·
    next h0 => rw [if_pos h0] at this; exact this
   ·
    next h0 => rw [if_neg h0] at this; rw [putT_val]; exact this
  dsimp only
  obtain ⟨⟨k2, n2, d2, x2, t2⟩, hr⟩ : ∃ r, overT sn sd sx cn cd cx = r := ⟨_, rfl⟩
  rw [hr] at HO ⊢
  have C1 := isErrG 1 sn sd sx [] u2
  have C2 := fun W => isErrG 1 cn cd cx [] W
  rw [show decide ((1 : Int) = 4) = false by decide] at C1
  simp only [show decide ((1 : Int) = 4) = false by decide] at C2
  obtain ⟨a0, a1, a2, a3, a4⟩ := Vec.five B0
  clear hr gc gs
  go_enter Tryz.func55, Tryz.ntmps55
  go_wp2_with fail
  clear a0 a1 a2 a3 a4 h0 h1 h2 s0 s1 s2
  refine C1.mono ?_
  rintro rr w1 ⟨rfl, e1⟩
  obtain ⟨c0, c1, c2, c3, c4⟩ := Vec.five (B1.later e1)
  go_wp2_with fail
  clear c0 c1 c2 c3 c4
  refine (C2 w1).mono ?_
  rintro rr w2 ⟨rfl, e2⟩
  obtain ⟨a0, a1, a2, a3, a4⟩ := Vec.five ((B0.later e1).later e2)
  obtain ⟨c0, c1, c2, c3, c4⟩ := Vec.five ((B1.later e1).later e2)
  go_wp2_with fail
  clear a0 a1 a2 a3 a4 c0 c1 c2 c3 c4
  refine (HO.out w2).mono ?_
  rintro rr w3 ⟨rfl, e3⟩
  obtain ⟨wy, hy, FX, ⟨b0, b1, b2, b3, b4⟩, ⟨fb0, fb1, fb2, fb3, fb4⟩, fd0, fd1, fd2, fd3, fd4⟩ := fin5 (((B2.later e1).later e2).later e3) (xt (xt (xt X e1) e2) e3) (by omega) k2 n2 d2 x2 t2
  go_wp2_with fail
  exact bodyPost_ret (v := valV k2 n2 d2 x2 t2) (by simp [results, Tryz.results55, go_sem, fd0, fd1, fd2, fd3, fd4]) rfl ⟨rfl, FX⟩
 ·
  rw [if_pos rfl]
  obtain ⟨u0, u1, u2, h0, h1, h2, s0, s1, s2, B0, B1, B2, X⟩ := mkB3 w [.int .i64 4, .bool false, .int .i64 0, .int .i64 0, sV numbT] [.int .i64 1, .bool cn, .int .i64 cd, .int .i64 cx, sV []] [.int .i64 0, .bool false, .int .i64 0, .int .i64 0, sV []] 27 27 27
  have C1 := isErrG 4 false 0 0 numbT u2
  rw [show decide ((4 : Int) = 4) = true by decide] at C1
  obtain ⟨a0, a1, a2, a3, a4⟩ := Vec.five B0
  clear gc
  go_enter Tryz.func55, Tryz.ntmps55
  go_wp2_with fail
  clear a0 a1 a2 a3 a4 h0 h1 h2 s0 s1 s2
  refine C1.mono ?_
  rintro rr w1 ⟨rfl, e1⟩
  obtain ⟨a0, a1, a2, a3, a4⟩ := Vec.five (B0.later e1)
  obtain ⟨wy, hy, FX, ⟨b0, b1, b2, b3, b4⟩, ⟨fb0, fb1, fb2, fb3, fb4⟩, fd0, fd1, fd2, fd3, fd4⟩ := fin5 (B2.later e1) (xt X e1) (by omega) 4 false 0 0 numbT
  go_wp2_with fail
  exact bodyPost_ret (v := valV 4 false 0 0 numbT) (by simp [results, Tryz.results55, go_sem, fd0, fd1, fd2, fd3, fd4]) rfl ⟨rfl, FX⟩
theorem mean_nil : meanT [] = ⟨4, false, 0, 0, divT⟩ := by
 unfold meanT
 show (if (cntT 0).k = 4 then _ else _) = _
 rw [cntT_zero, if_neg (by decide)]
 show overT _ _ _ (cntT 0).n (cntT 0).d (cntT 0).x = _
 rw [cntT_zero]
 rfl
set_option maxHeartbeats 2000000 in
theorem meanS (v : Value) (l : List DT) (w : World) (h : DecsIn w v l) (hl : l.length ≤ 2000) :
  Calls Tryz.prog 38 #[v] w fun e w' => e = .returned (meanT (l.map DT.num)).val ∧ Ext w w' := by
 have X0 := x1 w (.cells #[.int .i64 0, .bool false, .int .i64 0, .int .i64 0, sV []] 27)
 have B0 := vec_made w (valL 0 false 0 0 []) 27
 change Vec (w.alloc (.cells #[.int .i64 0, .bool false, .int .i64 0, .int .i64 0, sV []] 27)) _ _ at B0
 cases l with
 | nil =>
  obtain ⟨p, cap, rfl, -, -⟩ := h
  have e0 : meanT (([] : List DT).map DT.num) = ⟨4, false, 0, 0, divT⟩ := mean_nil
  rw [e0]
  clear e0
  go_enter Tryz.func38, Tryz.ntmps38
  go_wp2_with fail
  refine (errVS divT _).mono ?_
  rintro rr w1 ⟨rfl, e1⟩
  obtain ⟨wy, hy, FX, ⟨b0, b1, b2, b3, b4⟩, ⟨fb0, fb1, fb2, fb3, fb4⟩, fd0, fd1, fd2, fd3, fd4⟩ := fin5 (B0.later e1) (xt X0 e1) (by omega) 4 false 0 0 divT
  go_wp2_with fail
  exact bodyPost_ret (v := valV 4 false 0 0 divT) (by simp [results, Tryz.results38, go_sem, fd0, fd1, fd2, fd3, fd4]) rfl ⟨rfl, FX⟩
 | cons a l =>
  have CS := sumS v (a :: l) (w.alloc (.cells #[.int .i64 0, .bool false, .int .i64 0, .int .i64 0, sV []] 27)) (h.later X0) hl
  have HC : Hid (∀ W, Calls Tryz.prog 34 #[.int .i64 ((a :: l).length : Int)] W fun e w' => e = .returned (cntT (a :: l).length).val ∧ Ext W w') := fun W => countS (a :: l).length W hl
  have HO : Hid (∀ W, Calls Tryz.prog 55 #[sV [47], (sumT (cntT 0) ((a :: l).map DT.num)).val, (cntT (a :: l).length).val] W fun e w' => e = .returned (meanT ((a :: l).map DT.num)).val ∧ Ext W w') := fun W => by
   have := stepDS (sumT (cntT 0) ((a :: l).map DT.num)) (cntT (a :: l).length) W (sumT_isP _ (Or.inl (cntT_isN (by omega)))) (cntT_isN hl)
   unfold meanT
   rw [List.length_map]
   exact this
  obtain ⟨p, cap, rfl, -, -⟩ := h
  obtain ⟨⟨k2, n2, d2, x2, t2⟩, hc⟩ : ∃ r, meanT ((a :: l).map DT.num) = r := ⟨_, rfl⟩
  obtain ⟨⟨k3, n3, d3, x3, t3⟩, hz⟩ : ∃ r, cntT (a :: l).length = r := ⟨_, rfl⟩
  obtain ⟨⟨k4, n4, d4, x4, t4⟩, hs⟩ : ∃ r, sumT (cntT 0) ((a :: l).map DT.num) = r := ⟨_, rfl⟩
  rw [hc]
  rw [hc, hz, hs] at HO
  rw [hz] at HC
  rw [hs] at CS
  obtain ⟨n, hn⟩ : ∃ n, (a :: l).length = n := ⟨_, rfl⟩
  have n0 : ((n : Int) == 0) = false := beq_eq_false_iff_ne.2 (by rw [← hn]; simp; omega)
  rw [hn] at CS HC ⊢
  clear hc hz hn hs
  go_enter Tryz.func38, Tryz.ntmps38
  go_wp2_with fail
  refine CS.mono ?_
  rintro rr w1 ⟨rfl, e1⟩
  go_wp2_with fail
  refine (HC.out w1).mono ?_
  rintro rr w2 ⟨rfl, e2⟩
  go_wp2_with fail
  refine (HO.out w2).mono ?_
  rintro rr w3 ⟨rfl, e3⟩
  obtain ⟨wy, hy, FX, ⟨b0, b1, b2, b3, b4⟩, ⟨fb0, fb1, fb2, fb3, fb4⟩, fd0, fd1, fd2, fd3, fd4⟩ := fin5 (((B0.later e1).later e2).later e3) (xt (xt (xt X0 e1) e2) e3) (by omega) k2 n2 d2 x2 t2
  go_wp2_with fail
  exact bodyPost_ret (v := valV k2 n2 d2 x2 t2) (by simp [results, Tryz.results38, go_sem, fd0, fd1, fd2, fd3, fd4]) rfl ⟨rfl, FX⟩
/-- The number of a value. -/
def VT.dec (e : VT) : DT := ⟨e.n, e.d, e.x⟩
theorem num_dec {e : VT} (h : e.isN) : e.dec.num = e := by
 obtain ⟨k, n, d, x, t⟩ := e
 obtain ⟨rfl, rfl, _⟩ : k = 1 ∧ t = [] ∧ goodB n d x = true := h
 rfl
def decsT (l : List VT) : List DT := (numsT l).map VT.dec
theorem decsT_num {l : List VT} (h : l.all VT.good = true) : (decsT l).map DT.num = numsT l := by
 unfold decsT
 rw [List.map_map]
 have : ∀ e ∈ numsT l, (DT.num ∘ VT.dec) e = e := fun e he => num_dec (numsT_isN h e he)
 rw [List.map_congr_left this, List.map_id']
theorem decsT_step {l : List VT} {k : Nat} {e : VT} (he : l[k]? = some e) : decsT (l.take (k + 1)) = decsT (l.take k) ++ (if e.k = 1 then [e.dec] else []) := by
 unfold decsT numsT
 rw [List.take_add_one, he, List.filter_append, List.map_append]
 congr 1
 by_cases h1 : e.k = 1
 ·
  rw [if_pos h1]; simp [h1]
 ·
  rw [if_neg h1]; simp [h1]
/-- What l7Numbers answers. -/
def NumsAns (w w' : World) (l : List VT) (e : Ending) : Prop := (∃ x, l.find? (fun e => decide (e.k = 4)) = some x ∧ e = .returned (.tuple #[.slice none 0 0, x.val]) ∧ Ext w w') ∨
 (∃ u, l.find? (fun e => decide (e.k = 4)) = none ∧ e = .returned (.tuple #[u, valV 0 false 0 0 []]) ∧ OwnE w' (w.heap.size + 1) u (decsT l) ∧ Ext w w')
set_option maxRecDepth 8000 in
set_option maxHeartbeats 4000000 in
theorem numsS (v : Value) (l : List VT) (w : World) (h : ValsIn w v l) (hl : l.length ≤ 2000) :
  Calls Tryz.prog 35 #[v] w fun e w' => NumsAns w w' l e := by
 obtain ⟨p, cap, rfl, hcap, hrow⟩ := h
 obtain ⟨n, hn⟩ : ∃ n, l.length = n := ⟨_, rfl⟩
 have HN : Hid (l.length = n) := hn
 rw [hn] at hcap hl hrow ⊢
 have HRow : Hid (0 < n → ∃ b o, p = some ⟨b, o, none⟩ ∧ RowV w b o l) := hrow
 have X0 := x1 w (.cells #[.int .i64 0, .bool false, .int .i64 0, .int .i64 0, sV []] 27)
 have B0 := vec_made w (valL 0 false 0 0 []) 27
 have s0 : (w.alloc (.cells #[.int .i64 0, .bool false, .int .i64 0, .int .i64 0, sV []] 27)).heap.size = w.heap.size + 1 := World.size_alloc _ _
 change Vec (w.alloc (.cells #[.int .i64 0, .bool false, .int .i64 0, .int .i64 0, sV []] 27)) _ _ at B0
 obtain ⟨u0, hu0⟩ : ∃ u, w.alloc (.cells #[.int .i64 0, .bool false, .int .i64 0, .int .i64 0, sV []] 27) = u := ⟨_, rfl⟩
 rw [hu0] at X0 B0 s0
 obtain ⟨B, hB⟩ : ∃ B, w.heap.size = B := ⟨_, rfl⟩
 have HB : Hid (w.heap.size = B) := hB
 rw [hB] at B0 s0
 have HS : Hid (OwnE u0 (B + 1) (.slice none 0 0) (decsT (l.take 0)) ∧ Vec u0 B (valL 0 false 0 0 []) ∧ Ext w u0 ∧ (∀ x ∈ l.take 0, decide (x.k = 4) = false) ∧ B + 1 ≤ u0.heap.size) := ⟨World.ownsRow_nil _ _ _ _, B0, X0, by simp, by omega⟩
 clear hn hrow B0 X0
 go_enter Tryz.func35, Tryz.ntmps35
 go_wp2_with fail
 clear hu0 s0 hB
 go_loopw [4, 9] (fun s4 i wr => ∃ (k : Nat) (q : Option Addr) (n2 c2 : Nat), k ≤ n ∧ i = .int .i64 k ∧ s4 = .slice q n2 c2 ∧ Hid (OwnE wr (B + 1) (.slice q n2 c2) (decsT (l.take k)) ∧ Vec wr B (valL 0 false 0 0 []) ∧ Ext w wr ∧ (∀ x ∈ l.take k, decide (x.k = 4) = false) ∧ B + 1 ≤ wr.heap.size)) (fun _ i _ => n - (intOf i).toNat)
 case atStart => exact ⟨0, none, 0, 0, by omega, rfl, rfl, HS⟩
 case round =>
  obtain ⟨k, q, n2, c2, hk, rfl, rfl, HO⟩ := hrel
  clear HS
  by_cases hlt : k < n
  ·
   have i2 : (k : Int) < (n : Int) := by omega
   obtain ⟨e, hx⟩ : ∃ x, l[k]? = some x := ⟨_, List.getElem?_eq_getElem (by rw [HN.out]; exact hlt)⟩
   obtain ⟨b, o, rfl, RW⟩ := HRow.out (by omega)
   obtain ⟨OE, VB, XW, HNo, hsz⟩ := HO.out
   obtain ⟨a0, a1, a2, a3, a4⟩ := (RW.later XW).five hx
   have HStep : Hid (decsT (l.take (k + 1)) = decsT (l.take k) ++ (if e.k = 1 then [e.dec] else [])) := decsT_step hx
   have HFst : Hid (decide (e.k = 4) = true → l.find? (fun e => decide (e.k = 4)) = some e) := fun h4 => find_first hx h4 (fun j y hj hy => HNo y (by
    rw [List.mem_iff_getElem?]
    exact ⟨j, by rw [List.getElem?_take_of_lt hj]; exact hy⟩))
   have HNx : Hid (decide (e.k = 4) = false → ∀ x ∈ l.take (k + 1), decide (x.k = 4) = false) := fun h4 x hm => by
    rw [List.take_add_one, hx] at hm
    rcases List.mem_append.1 hm with hm | hm
    ·
     exact HNo x hm
    ·
     simp at hm; subst hm; exact h4
   have Y := x1 wr (.cells #[.int .i64 e.k, .bool e.n, .int .i64 e.d, .int .i64 e.x, sV e.t] 27)
   have KB := vec_made wr (valL e.k e.n e.d e.x e.t) 27
   change Vec (wr.alloc (.cells #[.int .i64 e.k, .bool e.n, .int .i64 e.d, .int .i64 e.x, sV e.t] 27)) _ _ at KB
   obtain ⟨C, hC⟩ : ∃ C, wr.heap.size = C := ⟨_, rfl⟩
   rw [hC] at KB hsz
   obtain ⟨wx, hwx⟩ : ∃ wx, wr.alloc (.cells #[.int .i64 e.k, .bool e.n, .int .i64 e.d, .int .i64 e.x, sV e.t] 27) = wx := ⟨_, rfl⟩
   have sx : wx.heap.size = C + 1 := by rw [← hwx, World.size_alloc, hC]
   rw [hwx] at Y KB
   have CE := isErrG e.k e.n e.d e.x e.t wx
   have HOx : Hid (OwnE wx (B + 1) (.slice q n2 c2) (decsT (l.take k)) ∧ Vec wx B (valL 0 false 0 0 []) ∧ Ext w wx) := ⟨ownE_later OE Y, VB.later Y, xt XW Y⟩
   obtain ⟨h4, hh4⟩ : ∃ q, decide (e.k = 4) = q := ⟨_, rfl⟩
   rw [hh4] at CE HFst HNx
   obtain ⟨ek, en, ed, ex, et⟩ := e
   dsimp only at a0 a1 a2 a3 a4 hwx CE KB HStep
   obtain ⟨k0, k1, k2, k3, k4⟩ := Vec.five KB
   clear hx RW HO OE VB XW HNo hh4
   go_wp2_with fail
   clear a0 a1 a2 a3 a4 k0 k1 k2 k3 k4 hwx hC
   refine CE.mono ?_
   rintro z w2 ⟨rfl, e2⟩
   have K2 := KB.later e2
   cases h4
   ·
    obtain ⟨OE, VB, XW⟩ := HOx.out
    have sz2 : C + 1 ≤ w2.heap.size := by have := e2.size; omega
    have O2 := ownE_later OE e2
    have V2 := VB.later e2
    have X2 := xt XW e2
    obtain ⟨k0, k1, k2, k3, k4⟩ := Vec.five K2
    by_cases h1 : ek = 1
    ·
     subst h1
     have HD : Hid (decsT (l.take (k + 1)) = decsT (l.take k) ++ [⟨en, ed, ex⟩]) := by show _ = _; rw [HStep.out, if_pos rfl]; rfl
     have hlen : (decsT (l.take k)).length ≤ 2000 := by
      unfold decsT numsT
      rw [List.length_map]
      have := List.length_filter_le (fun e : VT => !(e.k != 1)) (l.take k)
      rw [List.length_take] at this
      omega
     obtain ⟨inf, hi, hz, hz1, hz2⟩ := infoE
     have HO2 : Hid (OwnE w2 (B + 1) (.slice q n2 c2) (decsT (l.take k)) ∧ Vec w2 B (valL 0 false 0 0 []) ∧ Ext w w2) := ⟨O2, V2, X2⟩
     clear OE VB XW O2 V2 X2 HOx K2 KB HStep HFst
     go_wp2_with (at_builtin; refine wpList_append_own _ rfl _ _ 59 rfl (B + 1) 25 inf (decV false 0 0) 3 24 Tryz.underlying59 hi hz hz1 hz2 rfl (by decide) _ _ _ rfl (HO2.out.1.alloc _) ⟨w2.heap.size, 0, none⟩ 1 1 [.bool en, .int .i64 ed, .int .i64 ex] rfl rfl (World.news_of_block (heap_alloc_new _ _)) (by simp [Value.oneCell']) (by simp only [maxLen]; omega) (by omega) (by simp; omega) ?_)
     intro v7 wC ownC gC _
     obtain ⟨O2, V2, X2⟩ := HO2.out
     have lb := ownE_block O2
     have XC : Ext w wC := (xa X2 _).grown gC (xa X2 _).size (fun r hr => by have := lb r hr; have := HB.out; omega)
     have VC := vec_same (V2.later (x1 w2 _)) (gC.block B (by rw [World.size_alloc]; omega) (fun q => by have := lb _ q.symm; omega))
     have OC : OwnE wC (B + 1) v7 (decsT (l.take (k + 1))) := by
      rw [HD.out]
      show World.ownsRow _ _ _ _ _ _ _
      rw [List.length_append, flatD_append]
      exact ownC
     obtain ⟨q7, n7, c7, rfl⟩ := ownE_slice OC
     have HQ : Hid (OwnE wC (B + 1) (.slice q7 n7 c7) (decsT (l.take (k + 1))) ∧ Vec wC B (valL 0 false 0 0 []) ∧ Ext w wC ∧ (∀ x ∈ l.take (k + 1), decide (x.k = 4) = false) ∧ B + 1 ≤ wC.heap.size) := ⟨OC, VC, XC, HNx.out (by first | rfl | trivial), by have := gC.size; rw [World.size_alloc] at this; omega⟩
     clear HO2 O2 V2 X2 lb XC VC OC ownC gC hlen
     go_wp2_with fail
     go_roundw
     case rel => exact ⟨k + 1, q7, n7, c7, by omega, by go_num, rfl, HQ⟩
     case measure => simp [intOf]; omega
    ·
     have h1' : (ek == 1) = false := beq_eq_false_iff_ne.2 h1
     have HD : Hid (decsT (l.take (k + 1)) = decsT (l.take k)) := by show _ = _; rw [HStep.out, if_neg h1, List.append_nil]
     have HQ : Hid (OwnE w2 (B + 1) (.slice q n2 c2) (decsT (l.take (k + 1))) ∧ Vec w2 B (valL 0 false 0 0 []) ∧ Ext w w2 ∧ (∀ x ∈ l.take (k + 1), decide (x.k = 4) = false) ∧ B + 1 ≤ w2.heap.size) := ⟨by rw [HD.out]; exact O2, V2, X2, HNx.out (by first | rfl | trivial), by omega⟩
     clear OE VB XW O2 V2 X2 HOx K2 KB HStep HFst HD
     go_wp2_with fail
     go_roundw
     case rel => exact ⟨k + 1, q, n2, c2, by omega, by go_num, rfl, HQ⟩
     case measure => simp [intOf]; omega
   ·
    obtain ⟨OE, VB, XW⟩ := HOx.out
    obtain ⟨k0, k1, k2, k3, k4⟩ := Vec.five K2
    obtain ⟨wy, hy, FX, ⟨b0, b1, b2, b3, b4⟩, ⟨fb0, fb1, fb2, fb3, fb4⟩, fd0, fd1, fd2, fd3, fd4⟩ := fin5 (VB.later e2) (xt XW e2) (by have := HB.out; omega) ek en ed ex et
    clear OE VB XW HOx K2 KB HStep HNx
    have HF4 : Hid (l.find? (fun e => decide (e.k = 4)) = some ⟨ek, en, ed, ex, et⟩) := HFst.out (by first | rfl | trivial)
    clear HFst
    go_wp2_with fail
    go_region
    go_wp2_with fail
    exact bodyPost_ret (v := .tuple #[.slice none 0 0, valV ek en ed ex et]) (by simp [results, Tryz.results35, go_sem, fd0, fd1, fd2, fd3, fd4]) rfl (Or.inl ⟨_, HF4.out, rfl, xd FX⟩)
  ·
   obtain rfl : k = n := by omega
   have i2 : ¬ (k : Int) < (k : Int) := by omega
   obtain ⟨OE, VB, XW, HNo, hsz⟩ := HO.out
   have hfull : l.take k = l := List.take_of_length_le (by rw [HN.out]; exact Nat.le_refl _)
   rw [hfull] at OE HNo
   have HF : Hid (l.find? (fun e => decide (e.k = 4)) = none) := find_none HNo
   obtain ⟨wy, hy, FX, ⟨b0, b1, b2, b3, b4⟩, ⟨fb0, fb1, fb2, fb3, fb4⟩, fd0, fd1, fd2, fd3, fd4⟩ := fin5 VB XW (by have := HB.out; omega) 0 false 0 0 []
   have HOY : Hid (OwnE wy (B + 1) (.slice q n2 c2) (decsT l)) := by
    have h0 : ∀ c : Nat, (⟨B, c, none⟩ : Addr).block < B + 1 := fun c => Nat.lt_succ_self B
    show OwnE _ _ _ _
    rw [← hy]
    exact ownE_far (ownE_far (ownE_far (ownE_far (ownE_far OE (h0 0) _) (h0 1) _) (h0 2) _) (h0 3) _) (h0 4) _
   clear OE VB XW HNo hfull HO
   go_wp2_with fail
   exact bodyPost_ret (v := .tuple #[.slice q n2 c2, valV 0 false 0 0 []]) (by simp [results, Tryz.results35, go_sem, fd0, fd1, fd2, fd3, fd4]) rfl (Or.inr ⟨_, HF.out, rfl, by rw [HB.out]; exact HOY.out, FX⟩)

/-- A decimal's value, as a great whole number. -/
def DT.big (e : DT) : Int := bigN e.ng e.dg e.ex
def DT.good (e : DT) : Prop := goodB e.ng e.dg e.ex = true
def szT (a b : DT) : Int := cmpI (sgn a.ng a.dg * 10 ^ (a.ex - min a.ex b.ex).toNat) (sgn b.ng b.dg * 10 ^ (b.ex - min a.ex b.ex).toNat)
theorem szT_lt {a b : DT} (ha : a.good) (hb : b.good) : szT a b < 0 ↔ a.big < b.big := by
 have h1 := (good_all ha).2.2.1
 have h2 := (good_all hb).2.2.1
 have e1 := cmpI_le (sgn b.ng b.dg * 10 ^ (b.ex - min a.ex b.ex).toNat) (sgn a.ng a.dg * 10 ^ (a.ex - min a.ex b.ex).toNat)
 have e2 := scale_le (n := b.ng) (n' := a.ng) (d := b.dg) (d' := a.dg) h2 h1
 rw [Int.min_comm b.ex a.ex] at e2
 have e3 : cmpI (sgn b.ng b.dg * 10 ^ (b.ex - min a.ex b.ex).toNat) (sgn a.ng a.dg * 10 ^ (a.ex - min a.ex b.ex).toNat) = -szT a b := by
  unfold szT cmpI
  split <;> (try split) <;> (try split) <;> (try split) <;> omega
 rw [e3, e2] at e1
 unfold DT.big
 omega
theorem sizedS (a b : DT) (w : World) (ha : a.good) (hb : b.good) :
  Calls Tryz.prog 56 #[decV a.ng a.dg a.ex, decV b.ng b.dg b.ex] w fun e w' => e = .returned (.int .i64 (szT a b)) ∧ Ext w w' := by
 have h1 := good_all ha
 have h2 := good_all hb
 exact sized_any a.ng b.ng a.dg a.ex b.dg b.ex w h1.1 h1.2.1 h2.1 h2.2.1 h1.2.2.1 h1.2.2.2.1 h2.2.2.1 h2.2.2.2.1
def atD (M : List DT) (j : Nat) : DT := M.getD j zeroDT
theorem atD_get {M : List DT} {j : Nat} (h : j < M.length) : M[j]? = some (atD M j) := by
 rw [List.getElem?_eq_getElem h]; simp [atD, h]
def swapD (M : List DT) (i j : Nat) : List DT := (M.set i (atD M j)).set j (atD M i)
theorem swapD_at {M : List DT} {i j : Nat} (hi : i < M.length) (hj : j < M.length) (k : Nat) :
  atD (swapD M i j) k = if k = j then atD M i else if k = i then atD M j else atD M k := by
 unfold swapD atD
 simp only [List.getD_eq_getElem?_getD, List.getElem?_set, List.length_set]
 by_cases h1 : k = j
 ·
  subst h1; simp [hj]
 ·
  rw [if_neg (fun e => h1 e.symm), if_neg h1]
  by_cases h2 : k = i
  ·
   subst h2; simp [hi]
  ·
   rw [if_neg (fun e => h2 e.symm), if_neg h2]
theorem swapD_perm {M : List DT} {i j : Nat} (hi : i < M.length) (hj : j < M.length) : (swapD M i j).Perm M := by
 have e := Array.swap_perm (xs := M.toArray) (i := i) (j := j) (by simpa using hi) (by simpa using hj)
 rw [Array.perm_iff_toList_perm, List.swap_toArray] at e
 have e2 : swapD M i j = (M.set i M[j]).set j M[i] := by
  unfold swapD atD
  simp [hi, hj]
 rw [e2]
 simpa using e
/-- The first i stand in order. -/
def UpTo (M : List DT) (i : Nat) : Prop := ∀ a b, a < b → b < i → (atD M a).big ≤ (atD M b).big
/-- One is being put in its place. -/
def Ins (M : List DT) (i k : Nat) : Prop := k ≤ i ∧ (∀ a b, a < b → b ≤ i → a ≠ k → b ≠ k → (atD M a).big ≤ (atD M b).big) ∧ (∀ b, k < b → b ≤ i → (atD M k).big < (atD M b).big)
theorem Ins.start {M : List DT} {i : Nat} (h : UpTo M i) : Ins M i i := ⟨Nat.le_refl _, fun a b hab hb _ hbi => h a b hab (by omega), fun b h1 h2 => by omega⟩
theorem Ins.step {M : List DT} {i k : Nat} (h : Ins M i (k + 1)) (hi : i < M.length) (hl : (atD M (k + 1)).big < (atD M k).big) : Ins (swapD M (k + 1) k) i k := by
 obtain ⟨h0, h1, h2⟩ := h
 have A := fun t => swapD_at (M := M) (i := k + 1) (j := k) (by omega) (by omega) t
 refine ⟨by omega, fun a b hab hbi hak hbk => ?_, fun b hkb hbi => ?_⟩
 ·
  rw [A a, A b, if_neg hak, if_neg hbk]
  by_cases ha : a = k + 1
  ·
   rw [if_pos ha, if_neg (show ¬ b = k + 1 by omega)]
   exact h1 k b (by omega) hbi (by omega) (by omega)
  ·
   rw [if_neg ha]
   by_cases hb : b = k + 1
   ·
    rw [if_pos hb]
    exact h1 a k (by omega) (by omega) ha (by omega)
   ·
    rw [if_neg hb]
    exact h1 a b hab hbi ha hb
 ·
  rw [A k, A b, if_pos rfl, if_neg (show ¬ b = k by omega)]
  by_cases hb : b = k + 1
  ·
   rw [if_pos hb]; exact hl
  ·
   rw [if_neg hb]; exact h2 b (by omega) hbi
theorem Ins.done {M : List DT} {i k : Nat} (h : Ins M i k) (hd : k = 0 ∨ ¬ (atD M k).big < (atD M (k - 1)).big) : UpTo M (i + 1) := by
 obtain ⟨h0, h1, h2⟩ := h
 intro a b hab hb
 by_cases ha : a = k
 ·
  subst ha
  have := h2 b hab (by omega)
  omega
 ·
  by_cases hbk : b = k
  ·
   subst hbk
   rcases hd with rfl | hd
   ·
    omega
   ·
    by_cases hab' : a = b - 1
    ·
     subst hab'; omega
    ·
     have := h1 a (b - 1) (by omega) (by omega) ha (by omega)
     omega
  ·
   exact h1 a b hab (by omega) ha hbk
theorem ext_setD {w w' : World} {g : Nat} (X : Ext w w') (hg : w.heap.size ≤ g) (o : Nat) (n : Bool) (d x : Int) : Ext w (((w'.setCell ⟨g, o, none⟩ (.bool n)).setCell ⟨g, o + 1, none⟩ (.int .i64 d)).setCell ⟨g, o + 2, none⟩ (.int .i64 x)) :=
 xset (xset (xset X (p := ⟨g, o, none⟩) hg _) (p := ⟨g, o + 1, none⟩) hg _) (p := ⟨g, o + 2, none⟩) hg _
theorem xdNf {a b : World} (h : Ext a b) (n : Nat) : Ext a (b.drewN n) := ⟨h.os, h.tape, h.output, h.size, h.block⟩
/-- What is held while they are put in order. -/
structure SortD (w wr : World) (g : Nat) (l M : List DT) : Prop where
 own : OwnDc wr g M
 perm : M.Perm l
 ext : Ext w wr
/-- What l7Sorted answers. -/
def SortAns (w w' : World) (l : List DT) (n : Nat) (e : Ending) : Prop := ∃ u M, e = .returned u ∧ DecsIn w' u M ∧ M.Perm l ∧ UpTo M n ∧ Ext w w'
set_option maxRecDepth 8000 in
set_option maxHeartbeats 4000000 in
theorem sortDS (v : Value) (l : List DT) (w : World) (h : DecsIn w v l) (hl : l.length ≤ 2000) (hg : ∀ e ∈ l, e.good) :
  Calls Tryz.prog 39 #[v] w fun e w' => SortAns w w' l l.length e := by
 obtain ⟨inf, hi, hz, hsz, hby⟩ := infoE
 obtain ⟨v', w', hrun, O', GW, hb⟩ := app_srcG (P := Tryz.prog) w w.heap.size 59 59 59 25 inf _ Tryz.underlying59 hi hz 3 hsz (by rw [hby]; omega) rfl (.slice none 0 0) 0 [] (World.ownsRow_nil _ _ _ _) v l.length _ (decs_src h) (by omega) (Nat.le_refl _)
 rw [Nat.zero_add, List.nil_append] at O'
 have XE := ext_grownF (xr w) GW (fun k hk => by cases hk)
 have O2 : OwnE w' w.heap.size v' l := O'
 have D2 := ownE_decs O2
 have HG : Hid (∀ e ∈ l, e.good) := hg
 obtain ⟨pv, cv, rfl, -, -⟩ := h
 by_cases hn0 : l.length = 0
 ·
  have HD : Hid (DecsIn w' v' l) := D2
  obtain ⟨p2, c2, rfl, -, -⟩ := D2
  have HU : Hid (UpTo l l.length) := fun a b hab hb => by omega
  rw [hn0] at hrun ⊢
  have HU0 : Hid (UpTo l 0) := fun a b hab hb => by omega
  rw [hn0] at HD
  clear O' O2 GW hb hi hz hsz hby HU
  go_enter Tryz.func39, Tryz.ntmps39
  go_wp2_with (at_builtin; refine Lib.wpList_append_run _ rfl _ _ _ _ rfl _ _ rfl rfl _ _ hrun ?_)
  go_loopw [12] (fun i wr => i = .int .i64 0 ∧ Hid (wr = w')) (fun _ _ => 0)
  case atStart => exact ⟨rfl, rfl⟩
  case round =>
   obtain ⟨rfl, hw⟩ := hrel
   have XF : Hid (DecsIn wr (.slice p2 0 c2) l ∧ Ext w wr) := by rw [hw.out]; exact ⟨HD.out, XE⟩
   clear hw
   go_wp2_with fail
   go_ret
   exact ⟨_, l, rfl, XF.out.1, List.Perm.refl _, HU0.out, XF.out.2⟩
 ·
  have HB : ∃ g, v'.ownBlock = some g := by
   rcases hb with hb | hb
   ·
    rcases O2.2 with ⟨_, h0⟩ | ⟨g, cap, cur, rfl, _⟩
    ·
     exact absurd h0 hn0
    ·
     exact ⟨_, rfl⟩
   ·
    exact ⟨_, hb⟩
  obtain ⟨g, hgb⟩ := HB
  obtain ⟨c, rfl, hc, hbg, OV⟩ := ownE_own O2 hgb
  have HS : Hid (SortD w w' g l l ∧ UpTo l 0) := ⟨⟨OV, List.Perm.refl _, XE⟩, fun a b _ hb => by omega⟩
  have HBG : Hid (w.heap.size ≤ g) := hbg
  obtain ⟨n, hn⟩ : ∃ n, l.length = n := ⟨_, rfl⟩
  have HN : Hid (l.length = n) := hn
  rw [hn] at hrun hc hl ⊢
  clear O' O2 GW hb hi hz hsz hby hgb OV D2 XE hg hn hbg hn0
  go_enter Tryz.func39, Tryz.ntmps39
  go_wp2_with (at_builtin; refine Lib.wpList_append_run _ rfl _ _ _ _ rfl _ _ rfl rfl _ _ hrun ?_)
  clear hrun
  go_loopw [12] (fun i wr => ∃ k : Nat, k ≤ n ∧ i = .int .i64 k ∧ Hid (∃ M, SortD w wr g l M ∧ UpTo M k)) (fun i _ => n - (intOf i).toNat)
  case atStart => exact ⟨0, by omega, rfl, ⟨l, HS.out⟩⟩
  case round =>
   obtain ⟨i, hin, rfl, HO⟩ := hrel
   clear HS
   by_cases hlt : i < n
   ·
    have i2 : (i : Int) < (n : Int) := by omega
    have HO2 : Hid (∃ M, SortD w wr g l M ∧ Ins M i i) := by
     obtain ⟨M, h1, h2⟩ := HO.out
     exact ⟨M, h1, Ins.start h2⟩
    obtain ⟨wo, hwo⟩ : ∃ wo, wo = wr := ⟨_, rfl⟩
    subst hwo
    clear HO
    go_wp2_with fail
    go_loopw [5] (fun s5 wr => ∃ k : Nat, k ≤ i ∧ s5 = .int .i64 k ∧ Hid (∃ M, SortD w wr g l M ∧ Ins M i k)) (fun s5 _ => (intOf s5).toNat)
    case atStart => exact ⟨i, by omega, rfl, HO2⟩
    case round =>
     obtain ⟨k, hki, rfl, HO⟩ := hrel
     clear HO2
     obtain ⟨M, HM⟩ : ∃ M, Hid (SortD w wr g l M ∧ Ins M i k) := HO.out
     have hML : M.length = n := by rw [HM.out.1.perm.length_eq, HN.out]
     clear HO
     rcases Nat.eq_zero_or_pos k with hk0 | hk0
     ·
      subst hk0
      have HF : Hid (∃ M, SortD w wr g l M ∧ UpTo M (i + 1)) := ⟨M, HM.out.1, HM.out.2.done (Or.inl rfl)⟩
      have HF2 : Hid (∀ q, Hid (∃ M, SortD w (wr.drewN q) g l M ∧ UpTo M (i + 1))) := fun q => by
       obtain ⟨M, h1, h2⟩ := HF.out
       have e : Ext wr (wr.drewN q) := xdNf (xr _) q
       exact ⟨M, ⟨h1.own.later e, h1.perm, xt h1.ext e⟩, h2⟩
      have g0 : decide ((0 : Int) < ((0 : Nat) : Int)) = false := by decide
      clear HF
      clear HM hML
      go_wp2_with fail
      go_quiet (fail)
      go_wp2_with fail
      go_roundw
      case rel => exact ⟨i + 1, by omega, by go_num, HF2.out _⟩
      case measure => simp [intOf]; omega
     ·
      obtain ⟨y, rfl⟩ : ∃ y, k = y + 1 := ⟨k - 1, by omega⟩
      obtain ⟨K, hK⟩ : ∃ K, y + 1 = K := ⟨_, rfl⟩
      have HK : Hid (y + 1 = K) := hK
      rw [hK] at hki hk0 HM ⊢
      have k1 : (0 : Int) < (K : Int) := by omega
      have k2 : (K : Int) < (n : Int) := by omega
      have k3 : (y : Int) < (n : Int) := by omega
      have k4 : IntKind.i64.wrap ((K : Int) - 1) = (y : Int) := by rw [IntKind.wrap_i64]; omega
      have g0 : decide ((0 : Int) < (K : Int)) = true := decide_eq_true k1
      have HX : Hid (M[K]? = some (atD M K)) := atD_get (by omega)
      have HY : Hid (M[y]? = some (atD M y)) := atD_get (by omega)
      have GX : (atD M K).good := HG.out _ (HM.out.1.perm.mem_iff.1 (List.mem_of_getElem? HX.out))
      have GY : (atD M y).good := HG.out _ (HM.out.1.perm.mem_iff.1 (List.mem_of_getElem? HY.out))
      have HL := szT_lt GX GY
      have CC := fun W => sizedS (atD M K) (atD M y) W GX GY
      have HSw : Hid (swapD M K y = (M.set K (atD M y)).set y (atD M K)) := rfl
      obtain ⟨⟨a0, a1, a2⟩, -⟩ := HM.out.1.own.all HX.out
      obtain ⟨⟨b0, b1, b2⟩, -⟩ := HM.out.1.own.all HY.out
      obtain ⟨q, hq⟩ : ∃ q, szT (atD M K) (atD M y) = q := ⟨_, rfl⟩
      simp only [hq] at CC
      rw [hq] at HL
      have HLL : Hid (q < 0 ↔ (atD M K).big < (atD M y).big) := HL
      obtain ⟨⟨pn, pd, pe⟩, hx⟩ : ∃ x, atD M K = x := ⟨_, rfl⟩
      obtain ⟨⟨yn, yd, ye⟩, hy⟩ : ∃ x, atD M y = x := ⟨_, rfl⟩
      rw [hx] at HX a0 a1 a2
      rw [hy] at HY b0 b1 b2
      rw [hx, hy] at HSw
      simp only [hx, hy] at CC
      dsimp only at a0 a1 a2 b0 b1 b2
      have HCC : Hid (∀ W, Calls Tryz.prog 56 #[.agg #[.bool pn, .int .i64 pd, .int .i64 pe], .agg #[.bool yn, .int .i64 yd, .int .i64 ye]] W fun e w' => e = .returned (.int .i64 q) ∧ Ext W w') := CC
      have OWN := HM.out.1.own
      clear hq CC HL GX GY hx hy
      by_cases hql : q < 0
      ·
       have g1 : decide (q < 0) = true := decide_eq_true hql
       have HS2 : Hid (Ins (swapD M K y) i y ∧ (swapD M K y).Perm l) := by
        have h2 := HLL.out.1 hql
        have := HM.out.2
        rw [← HK.out] at this h2 ⊢
        exact ⟨this.step (by omega) h2, (swapD_perm (by omega) (by omega)).trans HM.out.1.perm⟩
       have HE : Hid (Ext w wr) := HM.out.1.ext
       clear HM HLL hql
       go_wp2_with fail
       go_region_held3 (fun w' => (w'.cell? ⟨g, K * 3, none⟩ = some (.bool pn) ∧ w'.cell? ⟨g, K * 3 + 1, none⟩ = some (.int .i64 pd) ∧ w'.cell? ⟨g, K * 3 + 2, none⟩ = some (.int .i64 pe)) ∧ w'.cell? ⟨g, y * 3, none⟩ = some (.bool yn) ∧ w'.cell? ⟨g, y * 3 + 1, none⟩ = some (.int .i64 yd) ∧ w'.cell? ⟨g, y * 3 + 2, none⟩ = some (.int .i64 ye)) (go_keep)
        (first | (go_at_call 56; refine (HCC.out _).mono ?_; rintro z w2 ⟨rfl, e2⟩; have Y := xt (xd (xr _)) e2; have r0 := cell_later Y a0; have r1 := cell_later Y a1; have r2 := cell_later Y a2; have s0 := cell_later Y b0; have s1 := cell_later Y b1; have s2 := cell_later Y b2))
       have O2 := OWN.later Y
       have E3 := x1 w2 (.cells #[.bool pn, .int .i64 pd, .int .i64 pe] 25)
       have KB := vec_made w2 [.bool pn, .int .i64 pd, .int .i64 pe] 25
       change Vec (w2.alloc (.cells #[.bool pn, .int .i64 pd, .int .i64 pe] 25)) _ _ at KB
       have hgl : g ≠ w2.heap.size := by
        have := World.block_lt_of_cell? _ _ r0
        change g < _ at this
        omega
       obtain ⟨w3, hw3⟩ : ∃ w3, w2.alloc (.cells #[.bool pn, .int .i64 pd, .int .i64 pe] 25) = w3 := ⟨_, rfl⟩
       rw [hw3] at E3 KB
       have O3 := O2.later E3
       obtain ⟨⟨c0, c1, c2⟩, f0, f1, f2⟩ := O3.all HX.out
       obtain ⟨⟨d0, d1, d2⟩, -⟩ := O3.all HY.out
       have O4 := O3.put (k := K) (by rw [hML]; omega) ⟨yn, yd, ye⟩
       have X4 := ext_setD (xt (xt HE.out Y) E3) HBG.out (K * 3) yn yd ye
       have KB4 := ((KB.far (p := ⟨g, K * 3, none⟩) hgl (.bool yn)).far (p := ⟨g, K * 3 + 1, none⟩) hgl (.int .i64 yd)).far (p := ⟨g, K * 3 + 2, none⟩) hgl (.int .i64 ye)
       dsimp only at O4
       obtain ⟨w4, hw4⟩ : ∃ w4, ((w3.setCell ⟨g, K * 3, none⟩ (.bool yn)).setCell ⟨g, K * 3 + 1, none⟩ (.int .i64 yd)).setCell ⟨g, K * 3 + 2, none⟩ (.int .i64 ye) = w4 := ⟨_, rfl⟩
       rw [hw4] at O4 X4 KB4
       have HY4 : (M.set K ⟨yn, yd, ye⟩)[y]? = some ⟨yn, yd, ye⟩ := by rw [List.getElem?_set_ne (by have := HK.out; omega)]; exact HY.out
       obtain ⟨⟨h0, h1, h2⟩, m0, m1, m2⟩ := O4.all HY4
       obtain ⟨t0, t1, t2⟩ := Vec.three KB4
       have O5 := O4.put (k := y) (by rw [List.length_set, hML]; have := HK.out; omega) ⟨pn, pd, pe⟩
       have X5 := ext_setD X4 HBG.out (y * 3) pn pd pe
       dsimp only at O5
       obtain ⟨w5, hw5⟩ : ∃ w5, ((w4.setCell ⟨g, y * 3, none⟩ (.bool pn)).setCell ⟨g, y * 3 + 1, none⟩ (.int .i64 pd)).setCell ⟨g, y * 3 + 2, none⟩ (.int .i64 pe) = w5 := ⟨_, rfl⟩
       rw [hw5] at O5 X5
       have HFin : Hid (∃ M, SortD w w5 g l M ∧ Ins M i y) := ⟨swapD M K y, ⟨by rw [HSw.out]; exact O5, HS2.out.2, X5⟩, HS2.out.1⟩
       have k5 : (K : Int) - 1 = (y : Int) := by have := HK.out; omega
       dsimp only at c0 c1 c2 d0 d1 d2 h0 h1 h2
       clear O2 O3 O4 O5 X4 X5 KB KB4 E3 OWN HS2 HE HY4 HX HY HSw a0 a1 a2 b0 b1 b2 s0 s1 s2
       go_wp2_with fail
       go_roundw
       case rel => exact ⟨y, by have := HK.out; omega, by first | rfl | go_num, HFin⟩
       case measure => have := HK.out; simp [intOf]; omega
      ·
       have g1 : decide (q < 0) = false := decide_eq_false hql
       have HFn : Hid (∀ W, Ext wr W → Hid (∃ M, SortD w W g l M ∧ UpTo M (i + 1))) := fun W x => by
        have hnl : ¬ (atD M K).big < (atD M y).big := fun h => hql (HLL.out.2 h)
        refine ⟨M, ⟨HM.out.1.own.later x, HM.out.1.perm, xt HM.out.1.ext x⟩, HM.out.2.done (Or.inr ?_)⟩
        rw [show K - 1 = y by have := HK.out; omega]
        exact hnl
       clear HM HLL hql
       go_wp2_with fail
       go_region_held3 (fun w' => (w'.cell? ⟨g, K * 3, none⟩ = some (.bool pn) ∧ w'.cell? ⟨g, K * 3 + 1, none⟩ = some (.int .i64 pd) ∧ w'.cell? ⟨g, K * 3 + 2, none⟩ = some (.int .i64 pe)) ∧ w'.cell? ⟨g, y * 3, none⟩ = some (.bool yn) ∧ w'.cell? ⟨g, y * 3 + 1, none⟩ = some (.int .i64 yd) ∧ w'.cell? ⟨g, y * 3 + 2, none⟩ = some (.int .i64 ye)) (go_keep)
        (first | (go_at_call 56; refine (HCC.out _).mono ?_; rintro z w2 ⟨rfl, e2⟩; have Y := xt (xd (xr _)) e2; have r0 := cell_later Y a0; have r1 := cell_later Y a1; have r2 := cell_later Y a2; have s0 := cell_later Y b0; have s1 := cell_later Y b1; have s2 := cell_later Y b2))
       have HQ := HFn.out w2 Y
       clear HFn OWN
       go_wp2_with fail
       go_roundw
       case rel => exact ⟨i + 1, by omega, by go_num, HQ⟩
       case measure => simp [intOf]; omega
   ·
    obtain rfl : i = n := by omega
    have j2 : ¬ (i : Int) < (i : Int) := by omega
    have HF : Hid (∃ M, DecsIn wr (.slice (some ⟨g, 0, none⟩) i c) M ∧ M.Perm l ∧ UpTo M i ∧ Ext w wr) := by
     obtain ⟨M, h1, h2⟩ := HO.out
     have hML : M.length = i := by rw [h1.perm.length_eq, HN.out]
     exact ⟨M, ⟨_, c, by rw [hML], by rw [hML]; exact hc, fun _ => ⟨g, 0, rfl, h1.own.row⟩⟩, h1.perm, h2, h1.ext⟩
    clear HO
    go_wp2_with fail
    go_ret
    obtain ⟨M, h1, h2, h3, h4⟩ := HF.out
    exact ⟨_, M, rfl, h1, h2, h3, h4⟩

theorem isN_good {e : VT} (h : e.isN) : e.dec.good := h.2.2
theorem cmpT_sz {a b : VT} (ha : a.isN) (hb : b.isN) : cmpT a b = szT a.dec b.dec := by
 obtain ⟨ak, an, ad, ax, at'⟩ := a
 obtain ⟨bk', bn, bd, bx, bt'⟩ := b
 obtain ⟨rfl, rfl, ga⟩ : ak = 1 ∧ at' = [] ∧ goodB an ad ax = true := ha
 obtain ⟨rfl, rfl, gb⟩ : bk' = 1 ∧ bt' = [] ∧ goodB bn bd bx = true := hb
 unfold cmpT compareV
 rw [if_pos ⟨by simp [goodV, ga], by simp [goodV, gb], show (1 : Int) ≠ 4 by decide, show (1 : Int) ≠ 4 by decide⟩]
 simp [bk, cmpR, szT, VT.dec]
theorem big_one {a b : DT} (ha : a.good) (hb : b.good) (h : a.big = b.big) : a = b := by
 have h1 := (good_all ha).2.2.1
 have h2 := (good_all hb).2.2.1
 have e1 := (scale_le (n := a.ng) (n' := b.ng) (d := a.dg) (d' := b.dg) h1 h2).2 (Int.le_of_eq h)
 have e2 := (scale_le (n := b.ng) (n' := a.ng) (d := b.dg) (d' := a.dg) h2 h1).2 (Int.le_of_eq h.symm)
 rw [Int.min_comm b.ex a.ex] at e2
 have := dec_one ha hb (Int.le_antisymm e1 e2)
 obtain ⟨an, ad, ax⟩ := a
 obtain ⟨bn, bd, bx⟩ := b
 obtain ⟨rfl, rfl, rfl⟩ := this
 rfl
theorem pick_low {m x : VT} (hm : m.isN) (hx : x.isN) : (pickT true m x).dec.big ≤ m.dec.big ∧ (pickT true m x).dec.big ≤ x.dec.big := by
 have h := szT_lt (isN_good hx) (isN_good hm)
 unfold pickT beatB
 rw [if_pos rfl, cmpT_sz hx hm]
 by_cases hl : szT x.dec m.dec < 0
 ·
  rw [decide_eq_true hl, if_pos rfl]
  have := h.1 hl
  omega
 ·
  rw [decide_eq_false hl, if_neg (by decide)]
  have : ¬ x.dec.big < m.dec.big := fun q => hl (h.2 q)
  omega
theorem szT_gt {a b : DT} (ha : a.good) (hb : b.good) : 0 < szT a b ↔ b.big < a.big := by
 have h1 := szT_lt hb ha
 have : szT b a = -szT a b := by
  unfold szT
  rw [Int.min_comm b.ex a.ex]
  unfold cmpI
  split <;> (try split) <;> (try split) <;> (try split) <;> omega
 rw [this] at h1
 omega
theorem pick_high {m x : VT} (hm : m.isN) (hx : x.isN) : m.dec.big ≤ (pickT false m x).dec.big ∧ x.dec.big ≤ (pickT false m x).dec.big := by
 have h := szT_gt (isN_good hx) (isN_good hm)
 unfold pickT beatB
 rw [if_neg (show ¬ (false = true) by decide), cmpT_sz hx hm]
 by_cases hl : 0 < szT x.dec m.dec
 ·
  rw [decide_eq_true hl, if_pos rfl]
  have := h.1 hl
  omega
 ·
  rw [decide_eq_false hl, if_neg (by decide)]
  have : ¬ m.dec.big < x.dec.big := fun q => hl (h.2 q)
  omega
theorem end_low (l : List VT) : ∀ {a : VT}, a.isN → (∀ e ∈ l, e.isN) → (endT true a l) ∈ a :: l ∧ ∀ e ∈ a :: l, (endT true a l).dec.big ≤ e.dec.big := by
 induction l with
 | nil => intro a ha _; exact ⟨by simp [endT], fun e he => by simp at he; subst he; exact Int.le_refl _⟩
 | cons b l ih =>
  intro a ha hl
  have hb := hl b (by simp)
  have hp : (pickT true a b).isN := pickT_mem ha hb
  obtain ⟨h1, h2⟩ := ih hp (fun e he => hl e (by simp [he]))
  have hq := pick_low ha hb
  have h0 := h2 (pickT true a b) (by simp)
  have hm : pickT true a b = a ∨ pickT true a b = b := by unfold pickT; split <;> simp
  have e1 : endT true a (b :: l) = endT true (pickT true a b) l := rfl
  rw [e1]
  refine ⟨?_, fun e he => ?_⟩
  ·
   rcases List.mem_cons.1 h1 with h | h
   ·
    rw [h]; rcases hm with h | h <;> rw [h] <;> simp
   ·
    simp [h]
  ·
   rcases List.mem_cons.1 he with rfl | he
   ·
    omega
   ·
    rcases List.mem_cons.1 he with rfl | he
    ·
     omega
    ·
     exact h2 e (by simp [he])
theorem end_high (l : List VT) : ∀ {a : VT}, a.isN → (∀ e ∈ l, e.isN) → (endT false a l) ∈ a :: l ∧ ∀ e ∈ a :: l, e.dec.big ≤ (endT false a l).dec.big := by
 induction l with
 | nil => intro a ha _; exact ⟨by simp [endT], fun e he => by simp at he; subst he; exact Int.le_refl _⟩
 | cons b l ih =>
  intro a ha hl
  have hb := hl b (by simp)
  have hp : (pickT false a b).isN := pickT_mem ha hb
  obtain ⟨h1, h2⟩ := ih hp (fun e he => hl e (by simp [he]))
  have hq := pick_high ha hb
  have h0 := h2 (pickT false a b) (by simp)
  have hm : pickT false a b = a ∨ pickT false a b = b := by unfold pickT; split <;> simp
  have e1 : endT false a (b :: l) = endT false (pickT false a b) l := rfl
  rw [e1]
  refine ⟨?_, fun e he => ?_⟩
  ·
   rcases List.mem_cons.1 h1 with h | h
   ·
    rw [h]; rcases hm with h | h <;> rw [h] <;> simp
   ·
    simp [h]
  ·
   rcases List.mem_cons.1 he with rfl | he
   ·
    omega
   ·
    rcases List.mem_cons.1 he with rfl | he
    ·
     omega
    ·
     exact h2 e (by simp [he])
theorem upTo_first {M : List DT} {n : Nat} (h : UpTo M n) {j : Nat} (hj : j < n) : (atD M 0).big ≤ (atD M j).big := by
 rcases Nat.eq_zero_or_pos j with rfl | h0
 ·
  exact Int.le_refl _
 ·
  exact h 0 j h0 hj
theorem upTo_last {M : List DT} {n : Nat} (h : UpTo M n) {j : Nat} (hj : j < n) : (atD M j).big ≤ (atD M (n - 1)).big := by
 by_cases h0 : j = n - 1
 ·
  subst h0; exact Int.le_refl _
 ·
  exact h j (n - 1) (by omega) (by omega)
/-- The first of those in order is the least. -/
theorem low_one {N : List VT} {M : List DT} (hN : ∀ e ∈ N, e.isN) (hp : M.Perm (N.map VT.dec)) (hu : UpTo M N.length) (h0 : N ≠ []) : lowT N = (atD M 0).num := by
 obtain ⟨a, l, rfl⟩ : ∃ a l, N = a :: l := by cases N with | nil => exact absurd rfl h0 | cons a l => exact ⟨a, l, rfl⟩
 have hlen : M.length = (a :: l).length := by rw [hp.length_eq, List.length_map]
 have e1 : lowT (a :: l) = endT true a l := rfl
 obtain ⟨h1, h2⟩ := end_low l (hN a (by simp)) (fun e he => hN e (by simp [he]))
 have hi := hN _ h1
 have hm0 : atD M 0 ∈ M := List.mem_of_getElem? (atD_get (by rw [hlen]; simp))
 obtain ⟨x, hx, hxd⟩ := List.mem_map.1 (hp.mem_iff.1 hm0)
 have hr : (endT true a l).dec ∈ M := hp.mem_iff.2 (List.mem_map.2 ⟨_, h1, rfl⟩)
 obtain ⟨j, hj, hje⟩ := List.getElem_of_mem hr
 have hja : atD M j = (endT true a l).dec := by rw [← hje]; simp [atD, hj]
 have b1 := h2 x hx
 have b2 := upTo_first hu (j := j) (by rw [← hlen]; exact hj)
 rw [hja] at b2
 rw [← hxd] at b2 ⊢
 rw [e1, ← num_dec hi, big_one (isN_good hi) (isN_good (hN x hx)) (by omega)]
theorem high_one {N : List VT} {M : List DT} (hN : ∀ e ∈ N, e.isN) (hp : M.Perm (N.map VT.dec)) (hu : UpTo M N.length) (h0 : N ≠ []) : highT N = (atD M (N.length - 1)).num := by
 obtain ⟨a, l, rfl⟩ : ∃ a l, N = a :: l := by cases N with | nil => exact absurd rfl h0 | cons a l => exact ⟨a, l, rfl⟩
 have hlen : M.length = (a :: l).length := by rw [hp.length_eq, List.length_map]
 have e1 : highT (a :: l) = endT false a l := rfl
 obtain ⟨h1, h2⟩ := end_high l (hN a (by simp)) (fun e he => hN e (by simp [he]))
 have hi := hN _ h1
 have hm0 : atD M ((a :: l).length - 1) ∈ M := List.mem_of_getElem? (atD_get (by rw [hlen]; simp))
 obtain ⟨x, hx, hxd⟩ := List.mem_map.1 (hp.mem_iff.1 hm0)
 have hr : (endT false a l).dec ∈ M := hp.mem_iff.2 (List.mem_map.2 ⟨_, h1, rfl⟩)
 obtain ⟨j, hj, hje⟩ := List.getElem_of_mem hr
 have hja : atD M j = (endT false a l).dec := by rw [← hje]; simp [atD, hj]
 have b1 := h2 x hx
 have b2 := upTo_last hu (j := j) (by rw [← hlen]; exact hj)
 rw [hja] at b2
 rw [← hxd] at b2 ⊢
 rw [e1, ← num_dec hi, big_one (isN_good hi) (isN_good (hN x hx)) (by omega)]

end Go.Proofs.YtfgohahfppabbaaGreatDoor

