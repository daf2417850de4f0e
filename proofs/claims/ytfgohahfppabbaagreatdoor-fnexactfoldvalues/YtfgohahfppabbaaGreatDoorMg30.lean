/-
  Several texts in one: G4, G5.
-/
import Derived.Test.YtfgohahfppabbaaGreatDoorG3
import Derived.Test.YtfgohahfppabbaaGreatDoorMg29
import Derived.Deep.RegionHeld3
namespace Go.Proofs.YtfgohahfppabbaaGreatDoor
open Go.RowKit

/-- A store into a value's cells, whatever they held. -/
theorem fin5g {a w : World} {b : Nat} {k0 : Int} {n0 : Bool} {d0 x0 : Int} {t0 : List UInt8} (V : Vec w b (valL k0 n0 d0 x0 t0)) (X : Ext a w) (hb : a.heap.size ≤ b) (k : Int) (n : Bool) (d x : Int) (t : List UInt8) :
  ∃ wy, (((((w.setCell ⟨b, 0, none⟩ (.int .i64 k)).setCell ⟨b, 1, none⟩ (.bool n)).setCell ⟨b, 2, none⟩ (.int .i64 d)).setCell ⟨b, 3, none⟩ (.int .i64 x)).setCell ⟨b, 4, none⟩ (sV t)) = wy ∧ Ext a wy ∧ Vec wy b (valL k n d x t) ∧ (w.cell? ⟨b, 0, none⟩ = some (.int .i64 k0) ∧ w.cell? ⟨b, 1, none⟩ = some (.bool n0) ∧ w.cell? ⟨b, 2, none⟩ = some (.int .i64 d0) ∧ w.cell? ⟨b, 3, none⟩ = some (.int .i64 x0) ∧ w.cell? ⟨b, 4, none⟩ = some (sV t0)) ∧ (w.frozen? ⟨b, 0, none⟩ = false ∧ w.frozen? ⟨b, 1, none⟩ = false ∧ w.frozen? ⟨b, 2, none⟩ = false ∧ w.frozen? ⟨b, 3, none⟩ = false ∧ w.frozen? ⟨b, 4, none⟩ = false) ∧ (∀ c l, c ≠ b → Vec w c l → Vec wy c l) := by
 refine ⟨_, rfl, Ext.setL (b := b) hb [.int .i64 k, .bool n, .int .i64 d, .int .i64 x, sV t] 0 X, V.put5 (.int .i64 k) (.bool n) (.int .i64 d) (.int .i64 x) (sV t), V.five, V.fiveF, fun c l hc h => ?_⟩
 exact ((((h.far (p := ⟨b, 0, none⟩) (fun e => hc e.symm) _).far (p := ⟨b, 1, none⟩) (fun e => hc e.symm) _).far (p := ⟨b, 2, none⟩) (fun e => hc e.symm) _).far (p := ⟨b, 3, none⟩) (fun e => hc e.symm) _).far (p := ⟨b, 4, none⟩) (fun e => hc e.symm) _
def stepT (s v : VT) : VT := if s.k = 4 then s else putT (addR s.n s.d s.x v.n v.d v.x)
def sumT (s : VT) (l : List VT) : VT := l.foldl stepT s
theorem stepT_isS {s : VT} (v : VT) (hs : s.isS) : (stepT s v).isS := by
 unfold stepT
 split
 ·
  exact hs
 ·
  exact putT_isS addR_ok
theorem sumT_isS (l : List VT) : ∀ {s : VT}, s.isS → (sumT s l).isS := by
 induction l with
 | nil => intro s h; exact h
 | cons a l ih => intro s h; exact ih (stepT_isS a h)
theorem sumT_step {s : VT} {l : List VT} {k : Nat} {e : VT} (he : l[k]? = some e) : sumT s (l.take (k + 1)) = stepT (sumT s (l.take k)) e := by
 unfold sumT
 rw [List.take_add_one, he, List.foldl_append]
 rfl
theorem enterF_plus : ∀ ar w, (callFunc 61 ar).run Tryz.prog w = .ok (.enter 61 ar) w := fun ar w => by kernel_rfl
theorem stepOf (s v : VT) (w : World) (hs : s.isS) (hv : v.isN) (hT : Tens w) (hE : ErrTab w) :
  Calls Tryz.prog 83 #[fnV 61, s.val, v.val] w fun e w' => e = .returned (stepT s v).val ∧ Ext w w' := by
 obtain ⟨vk, vn, vd, vx, vt⟩ := v
 obtain ⟨rfl, rfl, gv⟩ : vk = 1 ∧ vt = [] ∧ goodB vn vd vx = true := hv
 rcases hs with hs | rfl | rfl
 ·
  obtain ⟨sk, sn, sd, sx, st⟩ := s
  obtain ⟨rfl, rfl, gs⟩ : sk = 1 ∧ st = [] ∧ goodB sn sd sx = true := hs
  have e : stepT ⟨1, sn, sd, sx, []⟩ ⟨1, vn, vd, vx, []⟩ = putT (addR sn sd sx vn vd vx) := rfl
  rw [e]
  exact of_go 1 sn sd sx [] 1 vn vd vx [] _ enterF_plus (by decide) (by decide) w fun w1 h => plusN sn sd sx vn vd vx w1 gs gv (hT.later h) (hE.later h)
 ·
  exact of_left false 0 0 numbT 1 vn vd vx [] _ w
 ·
  exact of_left false 0 0 divT 1 vn vd vx [] _ w
set_option maxRecDepth 8000 in
set_option maxHeartbeats 4000000 in
theorem foldedI (v : Value) (l : List VT) (s0 : VT) (w : World) (h : ValsIn w v l) (hl : l.length ≤ 2000) (h0 : s0.isS) (hv : ∀ e ∈ l, e.isN) (hT : Tens w) (hE : ErrTab w) :
  Calls Tryz.prog 60 #[fnV 61, s0.val, v] w fun e w' => e = .returned (sumT s0 l).val ∧ Ext w w' := by
 obtain ⟨p, cap, rfl, hcap, hrow⟩ := h
 obtain ⟨n, hn⟩ : ∃ n, l.length = n := ⟨_, rfl⟩
 have HN : Hid (l.length = n) := hn
 rw [hn] at hcap hl hrow ⊢
 have HRow : Hid (0 < n → ∃ b o, p = some ⟨b, o, none⟩ ∧ RowV w b o l) := hrow
 have HV : Hid ((∀ e ∈ l, e.isN) ∧ s0.isS) := ⟨hv, h0⟩
 have HT : Hid (Tens w ∧ ErrTab w) := ⟨hT, hE⟩
 obtain ⟨u0, u1, e0, e1, z0, z1, B0, B1, X⟩ := mkB2 w (valL s0.k s0.n s0.d s0.x s0.t) (valL 0 false 0 0 []) 27 27
 have HS : Hid (Vec u1 w.heap.size (sumT s0 (l.take 0)).cells ∧ Vec u1 (w.heap.size + 1) (valL 0 false 0 0 [])) := ⟨B0, B1⟩
 obtain ⟨B, hB⟩ : ∃ B, w.heap.size = B := ⟨_, rfl⟩
 have HB : Hid (w.heap.size = B) := hB
 obtain ⟨R, hR⟩ : ∃ R, sumT s0 l = R := ⟨_, rfl⟩
 have HR : Hid (sumT s0 l = R) := hR
 rw [hR]
 obtain ⟨sk, sn, sd, sx, st⟩ := s0
 dsimp only at e0
 clear hn hrow hv h0 hT hE B0 B1 hR
 rw [hB] at HS z0 z1
 go_enter Tryz.func60, Tryz.ntmps60
 go_wp2_with fail
 clear e0 e1 z0 z1 hB
 go_loopw [11] (fun i wr => ∃ k : Nat, k ≤ n ∧ i = .int .i64 k ∧ Hid ((Vec wr B (sumT ⟨sk, sn, sd, sx, st⟩ (l.take k)).cells ∧ Vec wr (B + 1) (valL 0 false 0 0 [])) ∧ Ext w wr)) (fun i _ => n - (intOf i).toNat)
 case atStart => exact ⟨0, by omega, rfl, HS.out, X⟩
 case round =>
  obtain ⟨k, hk, rfl, HO⟩ := hrel
  have HI : Hid ((sumT ⟨sk, sn, sd, sx, st⟩ (l.take k)).isS) := sumT_isS _ HV.out.2
  obtain ⟨⟨ck, cn, cd, cx, ct⟩, hs⟩ : ∃ s, sumT ⟨sk, sn, sd, sx, st⟩ (l.take k) = s := ⟨_, rfl⟩
  have HSk : Hid (sumT ⟨sk, sn, sd, sx, st⟩ (l.take k) = ⟨ck, cn, cd, cx, ct⟩) := hs
  rw [hs] at HO HI
  clear hs HS X
  by_cases hlt : k < n
  ·
   have i2 : (k : Int) < (n : Int) := by omega
   obtain ⟨e, hx⟩ : ∃ x, l[k]? = some x := ⟨_, List.getElem?_eq_getElem (by rw [HN.out]; exact hlt)⟩
   obtain ⟨b, o, rfl, RW⟩ := HRow.out (by omega)
   obtain ⟨a0, a1, a2, a3, a4⟩ := (RW.later HO.out.2).five hx
   have HX : Hid (sumT ⟨sk, sn, sd, sx, st⟩ (l.take (k + 1)) = stepT ⟨ck, cn, cd, cx, ct⟩ e) := by show _ = _; rw [sumT_step hx, HSk.out]
   have Y := x1 wr (.cells #[.int .i64 e.k, .bool e.n, .int .i64 e.d, .int .i64 e.x, sV e.t] 27)
   have KB := vec_made wr (valL e.k e.n e.d e.x e.t) 27
   change Vec (wr.alloc (.cells #[.int .i64 e.k, .bool e.n, .int .i64 e.d, .int .i64 e.x, sV e.t] 27)) _ _ at KB
   obtain ⟨wx, hwx⟩ : ∃ wx, wr.alloc (.cells #[.int .i64 e.k, .bool e.n, .int .i64 e.d, .int .i64 e.x, sV e.t] 27) = wx := ⟨_, rfl⟩
   rw [hwx] at Y KB
   have XW := xt HO.out.2 Y
   have CS := stepOf ⟨ck, cn, cd, cx, ct⟩ e wx HI.out (HV.out.1 e (List.mem_of_getElem? hx)) (HT.out.1.later XW) (HT.out.2.later XW)
   obtain ⟨⟨rk, rn, rd, rx, rt⟩, hr⟩ : ∃ r, stepT ⟨ck, cn, cd, cx, ct⟩ e = r := ⟨_, rfl⟩
   rw [hr] at CS HX
   have V0 := HO.out.1.1.later Y
   have V1 := HO.out.1.2.later Y
   obtain ⟨ek, en, ed, ex, et⟩ := e
   dsimp only at a0 a1 a2 a3 a4 hwx CS KB
   obtain ⟨c0, c1, c2, c3, c4⟩ := Vec.five V0
   obtain ⟨k0, k1, k2, k3, k4⟩ := Vec.five KB
   clear hx RW HO hr HSk
   go_wp2_with fail
   clear a0 a1 a2 a3 a4 c0 c1 c2 c3 c4 k0 k1 k2 k3 k4 hwx
   refine CS.mono ?_
   rintro z w2 ⟨rfl, e2⟩
   obtain ⟨wy, hy, XY, VY, ⟨o0, o1, o2, o3, o4⟩, ⟨f0, f1, f2, f3, f4⟩, KY⟩ := fin5g (V0.later e2) (xt XW e2) (by have := HB.out; omega) rk rn rd rx rt
   have HQ : Hid ((Vec wy B (sumT ⟨sk, sn, sd, sx, st⟩ (l.take (k + 1))).cells ∧ Vec wy (B + 1) (valL 0 false 0 0 [])) ∧ Ext w wy) := by
    refine ⟨⟨?_, KY _ _ (by omega) (V1.later e2)⟩, XY⟩
    rw [HX.out]
    exact VY
   clear V0 V1 VY KY XY
   go_wp2_with fail
   go_roundw
   case rel => exact ⟨k + 1, by omega, by go_num, HQ⟩
   case measure => simp [intOf]; omega
  ·
   obtain rfl : k = n := by omega
   have i2 : ¬ (k : Int) < (k : Int) := by omega
   have e3 : R = ⟨ck, cn, cd, cx, ct⟩ := by
    rw [← HR.out, ← HSk.out, List.take_of_length_le (by rw [HN.out]; exact Nat.le_refl _)]
   obtain ⟨c0, c1, c2, c3, c4⟩ := Vec.five HO.out.1.1
   obtain ⟨wy, hy, FX, ⟨b0, b1, b2, b3, b4⟩, ⟨fb0, fb1, fb2, fb3, fb4⟩, fd0, fd1, fd2, fd3, fd4⟩ := fin5 HO.out.1.2 HO.out.2 (by have := HB.out; omega) ck cn cd cx ct
   subst e3
   clear HO HSk HI
   go_wp2_with fail
   exact bodyPost_ret (v := valV ck cn cd cx ct) (by simp [results, Tryz.results60, go_sem, fd0, fd1, fd2, fd3, fd4]) rfl ⟨rfl, FX⟩
set_option maxHeartbeats 2000000 in
theorem sumOfI (v : Value) (l : List VT) (w : World) (h : ValsIn w v l) (hl : l.length ≤ 2000) (hv : ∀ e ∈ l, e.isN) (hT : Tens w) (hE : ErrTab w) :
  Calls Tryz.prog 48 #[v] w fun e w' => e = .returned (sumT (cntT 0) l).val ∧ Ext w w' := by
 have X0 := x1 w (.cells #[.int .i64 0, .bool false, .int .i64 0, .int .i64 0, sV []] 27)
 have B0 := vec_made w (valL 0 false 0 0 []) 27
 change Vec (w.alloc (.cells #[.int .i64 0, .bool false, .int .i64 0, .int .i64 0, sV []] 27)) _ _ at B0
 have CC := countI 0 (w.alloc (.cells #[.int .i64 0, .bool false, .int .i64 0, .int .i64 0, sV []] 27)) (by omega) (hT.later X0)
 have HF : Hid (∀ W, Ext w W → Calls Tryz.prog 60 #[fnV 61, (cntT 0).val, v] W fun e w' => e = .returned (sumT (cntT 0) l).val ∧ Ext W w') := fun W x => foldedI v l (cntT 0) W (h.later x) hl (Or.inl (cntT_isN (by omega))) hv (hT.later x) (hE.later x)
 obtain ⟨p, cap, rfl, -, -⟩ := h
 obtain ⟨⟨k2, n2, d2, x2, t2⟩, hc⟩ : ∃ r, sumT (cntT 0) l = r := ⟨_, rfl⟩
 obtain ⟨⟨k3, n3, d3, x3, t3⟩, hz⟩ : ∃ r, cntT 0 = r := ⟨_, rfl⟩
 obtain ⟨n, hn⟩ : ∃ n, l.length = n := ⟨_, rfl⟩
 rw [hc]
 rw [hc, hz] at HF
 rw [hz] at CC
 rw [hn] at HF ⊢
 clear hc hz hv hT hE hn
 go_enter Tryz.func48, Tryz.ntmps48
 go_wp2_with fail
 refine CC.mono ?_
 rintro rr w1 ⟨rfl, e1⟩
 go_wp2_with fail
 refine (HF.out w1 (xt X0 e1)).mono ?_
 rintro rr w2 ⟨rfl, e2⟩
 obtain ⟨wy, hy, FX, ⟨b0, b1, b2, b3, b4⟩, ⟨fb0, fb1, fb2, fb3, fb4⟩, fd0, fd1, fd2, fd3, fd4⟩ := fin5 ((B0.later e1).later e2) (xt (xt X0 e1) e2) (by omega) k2 n2 d2 x2 t2
 go_wp2_with fail
 exact bodyPost_ret (v := valV k2 n2 d2 x2 t2) (by simp [results, Tryz.results48, go_sem, fd0, fd1, fd2, fd3, fd4]) rfl ⟨rfl, FX⟩

set_option maxHeartbeats 2000000 in
theorem numEI (w : World) (hT : Tens w) (hE : ErrTab w) :
  Calls Tryz.prog 116 #[valV 4 false 0 0 numbT] w fun e w' => e = .returned (valV 4 false 0 0 numbT) ∧ Ext w w' := by
 obtain ⟨u0, u1, h0, h1, s0, s1, B0, B1, X⟩ := mkB2 w [.int .i64 4, .bool false, .int .i64 0, .int .i64 0, sV numbT] [.int .i64 0, .bool false, .int .i64 0, .int .i64 0, sV []] 27 27
 have CG := goodVI 4 false 0 0 numbT u1 (by simp) (by omega) (by omega) (hT.later X) (hE.later X)
 rw [show goodV 4 false 0 0 numbT = true by decide] at CG
 obtain ⟨a0, a1, a2, a3, a4⟩ := Vec.five B0
 clear hT hE
 go_enter Tryz.func116, Tryz.ntmps116
 go_wp2_with fail
 clear a0 a1 a2 a3 a4 h0 h1 s0 s1
 refine CG.mono ?_
 rintro rr w1 ⟨rfl, e1⟩
 obtain ⟨a0, a1, a2, a3, a4⟩ := Vec.five (B0.later e1)
 obtain ⟨wy, hy, FX, ⟨b0, b1, b2, b3, b4⟩, ⟨fb0, fb1, fb2, fb3, fb4⟩, fd0, fd1, fd2, fd3, fd4⟩ := fin5 (B1.later e1) (xt X e1) (by omega) 4 false 0 0 numbT
 go_wp2_with fail
 exact bodyPost_ret (v := valV 4 false 0 0 numbT) (by simp [results, Tryz.results116, go_sem, fd0, fd1, fd2, fd3, fd4]) rfl ⟨rfl, FX⟩
set_option maxHeartbeats 2000000 in
theorem overE (n' : Bool) (d' x' : Int) (w : World) (gb : goodB n' d' x' = true) (hT : Tens w) (hE : ErrTab w) :
  Calls Tryz.prog 65 #[valV 4 false 0 0 numbT, valV 1 n' d' x' []] w fun e w' => e = .returned (valV 4 false 0 0 numbT) ∧ Ext w w' := by
 obtain ⟨u0, u1, u2, h0, h1, h2, s0, s1, s2, B0, B1, B2, X⟩ := mkB3 w [.int .i64 4, .bool false, .int .i64 0, .int .i64 0, sV numbT] [.int .i64 1, .bool n', .int .i64 d', .int .i64 x', sV []] [.int .i64 0, .bool false, .int .i64 0, .int .i64 0, sV []] 27 27 27
 have CR : Calls Tryz.prog 84 #[valV 4 false 0 0 numbT, valV 1 n' d' x' [], fnV 93] u2 fun e w' => e = .returned (valV 4 false 0 0 numbT) ∧ Ext u2 w' :=
  reckW 4 false 0 0 numbT 1 n' d' x' [] _ u2 4 false 0 0 numbT 1 n' d' x' [] (fun w1 h => numEI w1 (hT.later (xt X h)) (hE.later (xt X h))) (fun w1 h => numNI n' d' x' w1 gb (hT.later (xt X h)) (hE.later (xt X h))) fun w1 p _ _ => of_left _ _ _ _ 1 n' d' x' [] _ w1
 obtain ⟨a0, a1, a2, a3, a4⟩ := Vec.five B0
 obtain ⟨c0, c1, c2, c3, c4⟩ := Vec.five B1
 clear gb hT hE
 go_enter Tryz.func65, Tryz.ntmps65
 go_wp2_with fail
 clear a0 a1 a2 a3 a4 c0 c1 c2 c3 c4 h0 h1 h2 s0 s1 s2
 refine CR.mono ?_
 rintro rr w1 ⟨rfl, e1⟩
 obtain ⟨wy, hy, FX, ⟨b0, b1, b2, b3, b4⟩, ⟨fb0, fb1, fb2, fb3, fb4⟩, fd0, fd1, fd2, fd3, fd4⟩ := fin5 (B2.later e1) (xt X e1) (by omega) 4 false 0 0 numbT
 go_wp2_with fail
 exact bodyPost_ret (v := valV 4 false 0 0 numbT) (by simp [results, Tryz.results65, go_sem, fd0, fd1, fd2, fd3, fd4]) rfl ⟨rfl, FX⟩
/-- A sum that is a number, or too great. -/
def VT.isP (e : VT) : Prop := e.isN ∨ e = ⟨4, false, 0, 0, numbT⟩
theorem sumT_isP (l : List VT) : ∀ {s : VT}, s.isP → (sumT s l).isP := by
 induction l with
 | nil => intro s h; exact h
 | cons a l ih =>
  intro s h
  refine ih ?_
  unfold stepT
  split
  ·
   exact h
  ·
   unfold putT
   split
   ·
    next hr => exact Or.inl ⟨rfl, rfl, addR_ok hr⟩
   ·
    exact Or.inr rfl
/-- The mean. -/
def meanT (l : List VT) : VT :=
 if (sumT (cntT 0) l).k = 4 then sumT (cntT 0) l else overT (sumT (cntT 0) l).n (sumT (cntT 0) l).d (sumT (cntT 0) l).x (cntT l.length).n (cntT l.length).d (cntT l.length).x
theorem overAll (s c : VT) (w : World) (hs : s.isP) (hc : c.isN) (hT : Tens w) (hE : ErrTab w) :
  Calls Tryz.prog 65 #[s.val, c.val] w fun e w' => e = .returned (if s.k = 4 then s else overT s.n s.d s.x c.n c.d c.x).val ∧ Ext w w' := by
 obtain ⟨ck, cn, cd, cx, ct⟩ := c
 obtain ⟨rfl, rfl, gc⟩ : ck = 1 ∧ ct = [] ∧ goodB cn cd cx = true := hc
 rcases hs with hs | rfl
 ·
  obtain ⟨sk, sn, sd, sx, st⟩ := s
  obtain ⟨rfl, rfl, gs⟩ : sk = 1 ∧ st = [] ∧ goodB sn sd sx = true := hs
  exact overN sn sd sx cn cd cx w gs gc hT hE
 ·
  exact overE cn cd cx w gc hT hE
set_option maxHeartbeats 2000000 in
theorem meanI (v : Value) (l : List VT) (w : World) (h : ValsIn w v l) (hl : l.length ≤ 2000) (hv : ∀ e ∈ l, e.isN) (hT : Tens w) (hE : ErrTab w) :
  Calls Tryz.prog 51 #[v] w fun e w' => e = .returned (meanT l).val ∧ Ext w w' := by
 have X0 := x1 w (.cells #[.int .i64 0, .bool false, .int .i64 0, .int .i64 0, sV []] 27)
 have B0 := vec_made w (valL 0 false 0 0 []) 27
 change Vec (w.alloc (.cells #[.int .i64 0, .bool false, .int .i64 0, .int .i64 0, sV []] 27)) _ _ at B0
 have CS := sumOfI v l (w.alloc (.cells #[.int .i64 0, .bool false, .int .i64 0, .int .i64 0, sV []] 27)) (h.later X0) hl hv (hT.later X0) (hE.later X0)
 have HC : Hid (∀ W, Ext w W → Calls Tryz.prog 46 #[.int .i64 (l.length : Int)] W fun e w' => e = .returned (cntT l.length).val ∧ Ext W w') := fun W x => countI l.length W hl (hT.later x)
 have HO : Hid (∀ W, Ext w W → Calls Tryz.prog 65 #[(sumT (cntT 0) l).val, (cntT l.length).val] W fun e w' => e = .returned (meanT l).val ∧ Ext W w') := fun W x => overAll _ _ W (sumT_isP l (Or.inl (cntT_isN (by omega)))) (cntT_isN hl) (hT.later x) (hE.later x)
 obtain ⟨p, cap, rfl, -, -⟩ := h
 obtain ⟨⟨k2, n2, d2, x2, t2⟩, hc⟩ : ∃ r, meanT l = r := ⟨_, rfl⟩
 obtain ⟨⟨k3, n3, d3, x3, t3⟩, hz⟩ : ∃ r, cntT l.length = r := ⟨_, rfl⟩
 obtain ⟨⟨k4, n4, d4, x4, t4⟩, hs⟩ : ∃ r, sumT (cntT 0) l = r := ⟨_, rfl⟩
 rw [hc]
 rw [hc, hz, hs] at HO
 rw [hz] at HC
 rw [hs] at CS
 obtain ⟨n, hn⟩ : ∃ n, l.length = n := ⟨_, rfl⟩
 rw [hn] at CS HC ⊢
 clear hc hz hv hT hE hn hs
 go_enter Tryz.func51, Tryz.ntmps51
 go_wp2_with fail
 refine CS.mono ?_
 rintro rr w1 ⟨rfl, e1⟩
 go_wp2_with fail
 refine (HC.out w1 (xt X0 e1)).mono ?_
 rintro rr w2 ⟨rfl, e2⟩
 go_wp2_with fail
 refine (HO.out w2 (xt (xt X0 e1) e2)).mono ?_
 rintro rr w3 ⟨rfl, e3⟩
 obtain ⟨wy, hy, FX, ⟨b0, b1, b2, b3, b4⟩, ⟨fb0, fb1, fb2, fb3, fb4⟩, fd0, fd1, fd2, fd3, fd4⟩ := fin5 (((B0.later e1).later e2).later e3) (xt (xt (xt X0 e1) e2) e3) (by omega) k2 n2 d2 x2 t2
 go_wp2_with fail
 exact bodyPost_ret (v := valV k2 n2 d2 x2 t2) (by simp [results, Tryz.results51, go_sem, fd0, fd1, fd2, fd3, fd4]) rfl ⟨rfl, FX⟩
/-- The order of two values, and the one that stands first or last. -/
def cmpT (a b : VT) : Int := compareV a.k a.n a.d a.x a.t b.k b.n b.d b.x b.t
def beatB (low : Bool) (m x : VT) : Bool := if low = true then decide (cmpT x m < 0) else decide (0 < cmpT x m)
def pickT (low : Bool) (m x : VT) : VT := if beatB low m x = true then x else m
def endT (low : Bool) (a : VT) (l : List VT) : VT := l.foldl (pickT low) a
theorem endT_step {low : Bool} {a : VT} {l : List VT} {k : Nat} {e : VT} (he : l[k + 1]? = some e) : endT low a ((l.drop 1).take (k + 1)) = pickT low (endT low a ((l.drop 1).take k)) e := by
 unfold endT
 have : (l.drop 1)[k]? = some e := by rw [List.getElem?_drop, Nat.add_comm]; exact he
 rw [List.take_add_one, this, List.foldl_append]
 rfl
theorem pickT_mem {low : Bool} {m x : VT} {P : VT → Prop} (hm : P m) (hx : P x) : P (pickT low m x) := by
 unfold pickT
 split
 ·
  exact hx
 ·
  exact hm
theorem endT_mem {low : Bool} {P : VT → Prop} (l : List VT) : ∀ {a : VT}, P a → (∀ e ∈ l, P e) → P (endT low a l) := by
 induction l with
 | nil => intro a h _; exact h
 | cons b l ih => intro a h hl; exact ih (pickT_mem h (hl b (by simp))) (fun e he => hl e (by simp [he]))

end Go.Proofs.YtfgohahfppabbaaGreatDoor

