/-
  Several texts in one: G4, G5, Z1a, Z1d, As0, De, G8.
-/
import Derived.Test.YtfgohahfppabbaaGreatDoorMg22
import Derived.Test.YtfgohahfppabbaaGreatDoorMg23
import Derived.Test.YtfgohahfppabbaaGreatDoorMg26
import Derived.Deep.RegionHeld3
import Derived.Test.YtfgohahfppabbaaGreatDoorMg1
import Derived.Test.YtfgohahfppabbaaGreatDoorMg0
import Derived.Laws.MakeOwn
import Derived.Deep.AppendSrc
import Derived.Deep.Upon
import Derived.OwnWalk
import Derived.Laws.OwnMore
import Derived.Deep.DeepCutAuto
import Derived.Deep.AppendLies
namespace Go.Proofs.YtfgohahfppabbaaGreatDoor
open Go.RowKit

/-- A store into a value's cells, whatever they held. -/
theorem fin5g {a w : World} {b : Nat} {k0 : Int} {n0 : Bool} {d0 x0 : Int} {t0 : List UInt8} (V : Vec w b (valL k0 n0 d0 x0 t0)) (X : Ext a w) (hb : a.heap.size ≤ b) (k : Int) (n : Bool) (d x : Int) (t : List UInt8) :
  ∃ wy, (((((w.setCell ⟨b, 0, none⟩ (.int .i64 k)).setCell ⟨b, 1, none⟩ (.bool n)).setCell ⟨b, 2, none⟩ (.int .i64 d)).setCell ⟨b, 3, none⟩ (.int .i64 x)).setCell ⟨b, 4, none⟩ (sV t)) = wy ∧ Ext a wy ∧ Vec wy b (valL k n d x t) ∧ (w.cell? ⟨b, 0, none⟩ = some (.int .i64 k0) ∧ w.cell? ⟨b, 1, none⟩ = some (.bool n0) ∧ w.cell? ⟨b, 2, none⟩ = some (.int .i64 d0) ∧ w.cell? ⟨b, 3, none⟩ = some (.int .i64 x0) ∧ w.cell? ⟨b, 4, none⟩ = some (sV t0)) ∧ (w.frozen? ⟨b, 0, none⟩ = false ∧ w.frozen? ⟨b, 1, none⟩ = false ∧ w.frozen? ⟨b, 2, none⟩ = false ∧ w.frozen? ⟨b, 3, none⟩ = false ∧ w.frozen? ⟨b, 4, none⟩ = false) ∧ (∀ c l, c ≠ b → Vec w c l → Vec wy c l) := by
 refine ⟨_, rfl, Ext.setL (b := b) hb [.int .i64 k, .bool n, .int .i64 d, .int .i64 x, sV t] 0 X, V.put5 (.int .i64 k) (.bool n) (.int .i64 d) (.int .i64 x) (sV t), V.five, V.fiveF, fun c l hc h => ?_⟩
 exact ((((h.far (p := ⟨b, 0, none⟩) (fun e => hc e.symm) _).far (p := ⟨b, 1, none⟩) (fun e => hc e.symm) _).far (p := ⟨b, 2, none⟩) (fun e => hc e.symm) _).far (p := ⟨b, 3, none⟩) (fun e => hc e.symm) _).far (p := ⟨b, 4, none⟩) (fun e => hc e.symm) _
def stepT (s v : VT) : VT := if s.k = 4 then s else putT (addR s.n s.d s.x v.n v.d v.x)
def sumT (s : VT) (l : List VT) : VT := l.foldl stepT s
theorem stepT_isS {s : VT} (v : VT) (hs : s.isS) : (stepT s v).isS := by
 unfold stepT
 split
 ·
  exact hs
 ·
  exact putT_isS addR_ok
theorem sumT_isS (l : List VT) : ∀ {s : VT}, s.isS → (sumT s l).isS := by
 induction l with
 | nil => intro s h; exact h
 | cons a l ih => intro s h; exact ih (stepT_isS a h)
theorem sumT_step {s : VT} {l : List VT} {k : Nat} {e : VT} (he : l[k]? = some e) : sumT s (l.take (k + 1)) = stepT (sumT s (l.take k)) e := by
 unfold sumT
 rw [List.take_add_one, he, List.foldl_append]
 rfl
theorem enterF_plus : ∀ ar w, (callFunc 61 ar).run Tryz.prog w = .ok (.enter 61 ar) w := fun ar w => by kernel_rfl
theorem stepOf (s v : VT) (w : World) (hs : s.isS) (hv : v.isN) (hT : Tens w) (hE : ErrTab w) :
  Calls Tryz.prog 83 #[fnV 61, s.val, v.val] w fun e w' => e = .returned (stepT s v).val ∧ Ext w w' := by
 obtain ⟨vk, vn, vd, vx, vt⟩ := v
 obtain ⟨rfl, rfl, gv⟩ : vk = 1 ∧ vt = [] ∧ goodB vn vd vx = true := hv
 rcases hs with hs | rfl | rfl
 ·
  obtain ⟨sk, sn, sd, sx, st⟩ := s
  obtain ⟨rfl, rfl, gs⟩ : sk = 1 ∧ st = [] ∧ goodB sn sd sx = true := hs
  have e : stepT ⟨1, sn, sd, sx, []⟩ ⟨1, vn, vd, vx, []⟩ = putT (addR sn sd sx vn vd vx) := rfl
  rw [e]
  exact of_go 1 sn sd sx [] 1 vn vd vx [] _ enterF_plus (by decide) (by decide) w fun w1 h => plusN sn sd sx vn vd vx w1 gs gv (hT.later h) (hE.later h)
 ·
  exact of_left false 0 0 numbT 1 vn vd vx [] _ w
 ·
  exact of_left false 0 0 divT 1 vn vd vx [] _ w
set_option maxRecDepth 8000 in
set_option maxHeartbeats 4000000 in
theorem foldedI (v : Value) (l : List VT) (s0 : VT) (w : World) (h : ValsIn w v l) (hl : l.length ≤ 2000) (h0 : s0.isS) (hv : ∀ e ∈ l, e.isN) (hT : Tens w) (hE : ErrTab w) :
  Calls Tryz.prog 60 #[fnV 61, s0.val, v] w fun e w' => e = .returned (sumT s0 l).val ∧ Ext w w' := by
 obtain ⟨p, cap, rfl, hcap, hrow⟩ := h
 obtain ⟨n, hn⟩ : ∃ n, l.length = n := ⟨_, rfl⟩
 have HN : Hid (l.length = n) := hn
 rw [hn] at hcap hl hrow ⊢
 have HRow : Hid (0 < n → ∃ b o, p = some ⟨b, o, none⟩ ∧ RowV w b o l) := hrow
 have HV : Hid ((∀ e ∈ l, e.isN) ∧ s0.isS) := ⟨hv, h0⟩
 have HT : Hid (Tens w ∧ ErrTab w) := ⟨hT, hE⟩
 obtain ⟨u0, u1, e0, e1, z0, z1, B0, B1, X⟩ := mkB2 w (valL s0.k s0.n s0.d s0.x s0.t) (valL 0 false 0 0 []) 27 27
 have HS : Hid (Vec u1 w.heap.size (sumT s0 (l.take 0)).cells ∧ Vec u1 (w.heap.size + 1) (valL 0 false 0 0 [])) := ⟨B0, B1⟩
 obtain ⟨B, hB⟩ : ∃ B, w.heap.size = B := ⟨_, rfl⟩
 have HB : Hid (w.heap.size = B) := hB
 obtain ⟨R, hR⟩ : ∃ R, sumT s0 l = R := ⟨_, rfl⟩
 have HR : Hid (sumT s0 l = R) := hR
 rw [hR]
 obtain ⟨sk, sn, sd, sx, st⟩ := s0
 dsimp only at e0
 clear hn hrow hv h0 hT hE B0 B1 hR
 rw [hB] at HS z0 z1
 go_enter Tryz.func60, Tryz.ntmps60
 go_wp2_with fail
 clear e0 e1 z0 z1 hB
 go_loopw [11] (fun i wr => ∃ k : Nat, k ≤ n ∧ i = .int .i64 k ∧ Hid ((Vec wr B (sumT ⟨sk, sn, sd, sx, st⟩ (l.take k)).cells ∧ Vec wr (B + 1) (valL 0 false 0 0 [])) ∧ Ext w wr)) (fun i _ => n - (intOf i).toNat)
 case atStart => exact ⟨0, by omega, rfl, HS.out, X⟩
 case round =>
  obtain ⟨k, hk, rfl, HO⟩ := hrel
  have HI : Hid ((sumT ⟨sk, sn, sd, sx, st⟩ (l.take k)).isS) := sumT_isS _ HV.out.2
  obtain ⟨⟨ck, cn, cd, cx, ct⟩, hs⟩ : ∃ s, sumT ⟨sk, sn, sd, sx, st⟩ (l.take k) = s := ⟨_, rfl⟩
  have HSk : Hid (sumT ⟨sk, sn, sd, sx, st⟩ (l.take k) = ⟨ck, cn, cd, cx, ct⟩) := hs
  rw [hs] at HO HI
  clear hs HS X
  by_cases hlt : k < n
  ·
   have i2 : (k : Int) < (n : Int) := by omega
   obtain ⟨e, hx⟩ : ∃ x, l[k]? = some x := ⟨_, List.getElem?_eq_getElem (by rw [HN.out]; exact hlt)⟩
   obtain ⟨b, o, rfl, RW⟩ := HRow.out (by omega)
   obtain ⟨a0, a1, a2, a3, a4⟩ := (RW.later HO.out.2).five hx
   have HX : Hid (sumT ⟨sk, sn, sd, sx, st⟩ (l.take (k + 1)) = stepT ⟨ck, cn, cd, cx, ct⟩ e) := by show _ = _; rw [sumT_step hx, HSk.out]
   have Y := x1 wr (.cells #[.int .i64 e.k, .bool e.n, .int .i64 e.d, .int .i64 e.x, sV e.t] 27)
   have KB := vec_made wr (valL e.k e.n e.d e.x e.t) 27
   change Vec (wr.alloc (.cells #[.int .i64 e.k, .bool e.n, .int .i64 e.d, .int .i64 e.x, sV e.t] 27)) _ _ at KB
   obtain ⟨wx, hwx⟩ : ∃ wx, wr.alloc (.cells #[.int .i64 e.k, .bool e.n, .int .i64 e.d, .int .i64 e.x, sV e.t] 27) = wx := ⟨_, rfl⟩
   rw [hwx] at Y KB
   have XW := xt HO.out.2 Y
   have CS := stepOf ⟨ck, cn, cd, cx, ct⟩ e wx HI.out (HV.out.1 e (List.mem_of_getElem? hx)) (HT.out.1.later XW) (HT.out.2.later XW)
   obtain ⟨⟨rk, rn, rd, rx, rt⟩, hr⟩ : ∃ r, stepT ⟨ck, cn, cd, cx, ct⟩ e = r := ⟨_, rfl⟩
   rw [hr] at CS HX
   have V0 := HO.out.1.1.later Y
   have V1 := HO.out.1.2.later Y
   obtain ⟨ek, en, ed, ex, et⟩ := e
   dsimp only at a0 a1 a2 a3 a4 hwx CS KB
   obtain ⟨c0, c1, c2, c3, c4⟩ := Vec.five V0
   obtain ⟨k0, k1, k2, k3, k4⟩ := Vec.five KB
   clear hx RW HO hr HSk
   go_wp2_with fail
   clear a0 a1 a2 a3 a4 c0 c1 c2 c3 c4 k0 k1 k2 k3 k4 hwx
   refine CS.mono ?_
   rintro z w2 ⟨rfl, e2⟩
   obtain ⟨wy, hy, XY, VY, ⟨o0, o1, o2, o3, o4⟩, ⟨f0, f1, f2, f3, f4⟩, KY⟩ := fin5g (V0.later e2) (xt XW e2) (by have := HB.out; omega) rk rn rd rx rt
   have HQ : Hid ((Vec wy B (sumT ⟨sk, sn, sd, sx, st⟩ (l.take (k + 1))).cells ∧ Vec wy (B + 1) (valL 0 false 0 0 [])) ∧ Ext w wy) := by
    refine ⟨⟨?_, KY _ _ (by omega) (V1.later e2)⟩, XY⟩
    rw [HX.out]
    exact VY
   clear V0 V1 VY KY XY
   go_wp2_with fail
   go_roundw
   case rel => exact ⟨k + 1, by omega, by go_num, HQ⟩
   case measure => simp [intOf]; omega
  ·
   obtain rfl : k = n := by omega
   have i2 : ¬ (k : Int) < (k : Int) := by omega
   have e3 : R = ⟨ck, cn, cd, cx, ct⟩ := by
    rw [← HR.out, ← HSk.out, List.take_of_length_le (by rw [HN.out]; exact Nat.le_refl _)]
   obtain ⟨c0, c1, c2, c3, c4⟩ := Vec.five HO.out.1.1
   obtain ⟨wy, hy, FX, ⟨b0, b1, b2, b3, b4⟩, ⟨fb0, fb1, fb2, fb3, fb4⟩, fd0, fd1, fd2, fd3, fd4⟩ := fin5 HO.out.1.2 HO.out.2 (by have := HB.out; omega) ck cn cd cx ct
   subst e3
   clear HO HSk HI
   go_wp2_with fail
   exact bodyPost_ret (v := valV ck cn cd cx ct) (by simp [results, Tryz.results60, go_sem, fd0, fd1, fd2, fd3, fd4]) rfl ⟨rfl, FX⟩
set_option maxHeartbeats 2000000 in
theorem sumOfI (v : Value) (l : List VT) (w : World) (h : ValsIn w v l) (hl : l.length ≤ 2000) (hv : ∀ e ∈ l, e.isN) (hT : Tens w) (hE : ErrTab w) :
  Calls Tryz.prog 48 #[v] w fun e w' => e = .returned (sumT (cntT 0) l).val ∧ Ext w w' := by
 have X0 := x1 w (.cells #[.int .i64 0, .bool false, .int .i64 0, .int .i64 0, sV []] 27)
 have B0 := vec_made w (valL 0 false 0 0 []) 27
 change Vec (w.alloc (.cells #[.int .i64 0, .bool false, .int .i64 0, .int .i64 0, sV []] 27)) _ _ at B0
 have CC := countI 0 (w.alloc (.cells #[.int .i64 0, .bool false, .int .i64 0, .int .i64 0, sV []] 27)) (by omega) (hT.later X0)
 have HF : Hid (∀ W, Ext w W → Calls Tryz.prog 60 #[fnV 61, (cntT 0).val, v] W fun e w' => e = .returned (sumT (cntT 0) l).val ∧ Ext W w') := fun W x => foldedI v l (cntT 0) W (h.later x) hl (Or.inl (cntT_isN (by omega))) hv (hT.later x) (hE.later x)
 obtain ⟨p, cap, rfl, -, -⟩ := h
 obtain ⟨⟨k2, n2, d2, x2, t2⟩, hc⟩ : ∃ r, sumT (cntT 0) l = r := ⟨_, rfl⟩
 obtain ⟨⟨k3, n3, d3, x3, t3⟩, hz⟩ : ∃ r, cntT 0 = r := ⟨_, rfl⟩
 obtain ⟨n, hn⟩ : ∃ n, l.length = n := ⟨_, rfl⟩
 rw [hc]
 rw [hc, hz] at HF
 rw [hz] at CC
 rw [hn] at HF ⊢
 clear hc hz hv hT hE hn
 go_enter Tryz.func48, Tryz.ntmps48
 go_wp2_with fail
 refine CC.mono ?_
 rintro rr w1 ⟨rfl, e1⟩
 go_wp2_with fail
 refine (HF.out w1 (xt X0 e1)).mono ?_
 rintro rr w2 ⟨rfl, e2⟩
 obtain ⟨wy, hy, FX, ⟨b0, b1, b2, b3, b4⟩, ⟨fb0, fb1, fb2, fb3, fb4⟩, fd0, fd1, fd2, fd3, fd4⟩ := fin5 ((B0.later e1).later e2) (xt (xt X0 e1) e2) (by omega) k2 n2 d2 x2 t2
 go_wp2_with fail
 exact bodyPost_ret (v := valV k2 n2 d2 x2 t2) (by simp [results, Tryz.results48, go_sem, fd0, fd1, fd2, fd3, fd4]) rfl ⟨rfl, FX⟩

set_option maxHeartbeats 2000000 in
theorem numEI (w : World) (hT : Tens w) (hE : ErrTab w) :
  Calls Tryz.prog 116 #[valV 4 false 0 0 numbT] w fun e w' => e = .returned (valV 4 false 0 0 numbT) ∧ Ext w w' := by
 obtain ⟨u0, u1, h0, h1, s0, s1, B0, B1, X⟩ := mkB2 w [.int .i64 4, .bool false, .int .i64 0, .int .i64 0, sV numbT] [.int .i64 0, .bool false, .int .i64 0, .int .i64 0, sV []] 27 27
 have CG := goodVI 4 false 0 0 numbT u1 (by simp) (by omega) (by omega) (hT.later X) (hE.later X)
 rw [show goodV 4 false 0 0 numbT = true by decide] at CG
 obtain ⟨a0, a1, a2, a3, a4⟩ := Vec.five B0
 clear hT hE
 go_enter Tryz.func116, Tryz.ntmps116
 go_wp2_with fail
 clear a0 a1 a2 a3 a4 h0 h1 s0 s1
 refine CG.mono ?_
 rintro rr w1 ⟨rfl, e1⟩
 obtain ⟨a0, a1, a2, a3, a4⟩ := Vec.five (B0.later e1)
 obtain ⟨wy, hy, FX, ⟨b0, b1, b2, b3, b4⟩, ⟨fb0, fb1, fb2, fb3, fb4⟩, fd0, fd1, fd2, fd3, fd4⟩ := fin5 (B1.later e1) (xt X e1) (by omega) 4 false 0 0 numbT
 go_wp2_with fail
 exact bodyPost_ret (v := valV 4 false 0 0 numbT) (by simp [results, Tryz.results116, go_sem, fd0, fd1, fd2, fd3, fd4]) rfl ⟨rfl, FX⟩
set_option maxHeartbeats 2000000 in
theorem overE (n' : Bool) (d' x' : Int) (w : World) (gb : goodB n' d' x' = true) (hT : Tens w) (hE : ErrTab w) :
  Calls Tryz.prog 65 #[valV 4 false 0 0 numbT, valV 1 n' d' x' []] w fun e w' => e = .returned (valV 4 false 0 0 numbT) ∧ Ext w w' := by
 obtain ⟨u0, u1, u2, h0, h1, h2, s0, s1, s2, B0, B1, B2, X⟩ := mkB3 w [.int .i64 4, .bool false, .int .i64 0, .int .i64 0, sV numbT] [.int .i64 1, .bool n', .int .i64 d', .int .i64 x', sV []] [.int .i64 0, .bool false, .int .i64 0, .int .i64 0, sV []] 27 27 27
 have CR : Calls Tryz.prog 84 #[valV 4 false 0 0 numbT, valV 1 n' d' x' [], fnV 93] u2 fun e w' => e = .returned (valV 4 false 0 0 numbT) ∧ Ext u2 w' :=
  reckW 4 false 0 0 numbT 1 n' d' x' [] _ u2 4 false 0 0 numbT 1 n' d' x' [] (fun w1 h => numEI w1 (hT.later (xt X h)) (hE.later (xt X h))) (fun w1 h => numNI n' d' x' w1 gb (hT.later (xt X h)) (hE.later (xt X h))) fun w1 p _ _ => of_left _ _ _ _ 1 n' d' x' [] _ w1
 obtain ⟨a0, a1, a2, a3, a4⟩ := Vec.five B0
 obtain ⟨c0, c1, c2, c3, c4⟩ := Vec.five B1
 clear gb hT hE
 go_enter Tryz.func65, Tryz.ntmps65
 go_wp2_with fail
 clear a0 a1 a2 a3 a4 c0 c1 c2 c3 c4 h0 h1 h2 s0 s1 s2
 refine CR.mono ?_
 rintro rr w1 ⟨rfl, e1⟩
 obtain ⟨wy, hy, FX, ⟨b0, b1, b2, b3, b4⟩, ⟨fb0, fb1, fb2, fb3, fb4⟩, fd0, fd1, fd2, fd3, fd4⟩ := fin5 (B2.later e1) (xt X e1) (by omega) 4 false 0 0 numbT
 go_wp2_with fail
 exact bodyPost_ret (v := valV 4 false 0 0 numbT) (by simp [results, Tryz.results65, go_sem, fd0, fd1, fd2, fd3, fd4]) rfl ⟨rfl, FX⟩
/-- A sum that is a number, or too great. -/
def VT.isP (e : VT) : Prop := e.isN ∨ e = ⟨4, false, 0, 0, numbT⟩
theorem sumT_isP (l : List VT) : ∀ {s : VT}, s.isP → (sumT s l).isP := by
 induction l with
 | nil => intro s h; exact h
 | cons a l ih =>
  intro s h
  refine ih ?_
  unfold stepT
  split
  ·
   exact h
  ·
   unfold putT
   split
   ·
    next hr => exact Or.inl ⟨rfl, rfl, addR_ok hr⟩
   ·
    exact Or.inr rfl
/-- The mean. -/
def meanT (l : List VT) : VT :=
 if (sumT (cntT 0) l).k = 4 then sumT (cntT 0) l else overT (sumT (cntT 0) l).n (sumT (cntT 0) l).d (sumT (cntT 0) l).x (cntT l.length).n (cntT l.length).d (cntT l.length).x
theorem overAll (s c : VT) (w : World) (hs : s.isP) (hc : c.isN) (hT : Tens w) (hE : ErrTab w) :
  Calls Tryz.prog 65 #[s.val, c.val] w fun e w' => e = .returned (if s.k = 4 then s else overT s.n s.d s.x c.n c.d c.x).val ∧ Ext w w' := by
 obtain ⟨ck, cn, cd, cx, ct⟩ := c
 obtain ⟨rfl, rfl, gc⟩ : ck = 1 ∧ ct = [] ∧ goodB cn cd cx = true := hc
 rcases hs with hs | rfl
 ·
  obtain ⟨sk, sn, sd, sx, st⟩ := s
  obtain ⟨rfl, rfl, gs⟩ : sk = 1 ∧ st = [] ∧ goodB sn sd sx = true := hs
  exact overN sn sd sx cn cd cx w gs gc hT hE
 ·
  exact overE cn cd cx w gc hT hE
set_option maxHeartbeats 2000000 in
theorem meanI (v : Value) (l : List VT) (w : World) (h : ValsIn w v l) (hl : l.length ≤ 2000) (hv : ∀ e ∈ l, e.isN) (hT : Tens w) (hE : ErrTab w) :
  Calls Tryz.prog 51 #[v] w fun e w' => e = .returned (meanT l).val ∧ Ext w w' := by
 have X0 := x1 w (.cells #[.int .i64 0, .bool false, .int .i64 0, .int .i64 0, sV []] 27)
 have B0 := vec_made w (valL 0 false 0 0 []) 27
 change Vec (w.alloc (.cells #[.int .i64 0, .bool false, .int .i64 0, .int .i64 0, sV []] 27)) _ _ at B0
 have CS := sumOfI v l (w.alloc (.cells #[.int .i64 0, .bool false, .int .i64 0, .int .i64 0, sV []] 27)) (h.later X0) hl hv (hT.later X0) (hE.later X0)
 have HC : Hid (∀ W, Ext w W → Calls Tryz.prog 46 #[.int .i64 (l.length : Int)] W fun e w' => e = .returned (cntT l.length).val ∧ Ext W w') := fun W x => countI l.length W hl (hT.later x)
 have HO : Hid (∀ W, Ext w W → Calls Tryz.prog 65 #[(sumT (cntT 0) l).val, (cntT l.length).val] W fun e w' => e = .returned (meanT l).val ∧ Ext W w') := fun W x => overAll _ _ W (sumT_isP l (Or.inl (cntT_isN (by omega)))) (cntT_isN hl) (hT.later x) (hE.later x)
 obtain ⟨p, cap, rfl, -, -⟩ := h
 obtain ⟨⟨k2, n2, d2, x2, t2⟩, hc⟩ : ∃ r, meanT l = r := ⟨_, rfl⟩
 obtain ⟨⟨k3, n3, d3, x3, t3⟩, hz⟩ : ∃ r, cntT l.length = r := ⟨_, rfl⟩
 obtain ⟨⟨k4, n4, d4, x4, t4⟩, hs⟩ : ∃ r, sumT (cntT 0) l = r := ⟨_, rfl⟩
 rw [hc]
 rw [hc, hz, hs] at HO
 rw [hz] at HC
 rw [hs] at CS
 obtain ⟨n, hn⟩ : ∃ n, l.length = n := ⟨_, rfl⟩
 rw [hn] at CS HC ⊢
 clear hc hz hv hT hE hn hs
 go_enter Tryz.func51, Tryz.ntmps51
 go_wp2_with fail
 refine CS.mono ?_
 rintro rr w1 ⟨rfl, e1⟩
 go_wp2_with fail
 refine (HC.out w1 (xt X0 e1)).mono ?_
 rintro rr w2 ⟨rfl, e2⟩
 go_wp2_with fail
 refine (HO.out w2 (xt (xt X0 e1) e2)).mono ?_
 rintro rr w3 ⟨rfl, e3⟩
 obtain ⟨wy, hy, FX, ⟨b0, b1, b2, b3, b4⟩, ⟨fb0, fb1, fb2, fb3, fb4⟩, fd0, fd1, fd2, fd3, fd4⟩ := fin5 (((B0.later e1).later e2).later e3) (xt (xt (xt X0 e1) e2) e3) (by omega) k2 n2 d2 x2 t2
 go_wp2_with fail
 exact bodyPost_ret (v := valV k2 n2 d2 x2 t2) (by simp [results, Tryz.results51, go_sem, fd0, fd1, fd2, fd3, fd4]) rfl ⟨rfl, FX⟩
/-- The order of two values, and the one that stands first or last. -/
def cmpT (a b : VT) : Int := compareV a.k a.n a.d a.x a.t b.k b.n b.d b.x b.t
def beatB (low : Bool) (m x : VT) : Bool := if low = true then decide (cmpT x m < 0) else decide (0 < cmpT x m)
def pickT (low : Bool) (m x : VT) : VT := if beatB low m x = true then x else m
def endT (low : Bool) (a : VT) (l : List VT) : VT := l.foldl (pickT low) a
theorem endT_step {low : Bool} {a : VT} {l : List VT} {k : Nat} {e : VT} (he : l[k + 1]? = some e) : endT low a ((l.drop 1).take (k + 1)) = pickT low (endT low a ((l.drop 1).take k)) e := by
 unfold endT
 have : (l.drop 1)[k]? = some e := by rw [List.getElem?_drop, Nat.add_comm]; exact he
 rw [List.take_add_one, this, List.foldl_append]
 rfl
theorem pickT_mem {low : Bool} {m x : VT} {P : VT → Prop} (hm : P m) (hx : P x) : P (pickT low m x) := by
 unfold pickT
 split
 ·
  exact hx
 ·
  exact hm
theorem endT_mem {low : Bool} {P : VT → Prop} (l : List VT) : ∀ {a : VT}, P a → (∀ e ∈ l, P e) → P (endT low a l) := by
 induction l with
 | nil => intro a h _; exact h
 | cons b l ih => intro a h hl; exact ih (pickT_mem h (hl b (by simp))) (fun e he => hl e (by simp [he]))

structure DT where
 ng : Bool
 dg : Int
 ex : Int
abbrev DT.cells (e : DT) : List Value := [.bool e.ng, .int .i64 e.dg, .int .i64 e.ex]
/-- A row of them from a place on. -/
def RowDc (w : World) (b o : Nat) (l : List DT) : Prop := ∀ (i : Nat) (e : DT), l[i]? = some e → ∀ (c : Nat) (u : Value), e.cells[c]? = some u → w.cell? ⟨b, o + i * 3 + c, none⟩ = some u
theorem RowDc.later {w w' : World} {b o : Nat} {l : List DT} (h : RowDc w b o l) (x : Ext w w') : RowDc w' b o l := fun i e hi c u hc => cell_later x (h i e hi c u hc)
theorem RowDc.all {w : World} {b o : Nat} {l : List DT} (h : RowDc w b o l) {k : Nat} {e : DT} (he : l[k]? = some e) :
  w.cell? ⟨b, o + k * 3, none⟩ = some (.bool e.ng) ∧ w.cell? ⟨b, o + k * 3 + 1, none⟩ = some (.int .i64 e.dg) ∧ w.cell? ⟨b, o + k * 3 + 2, none⟩ = some (.int .i64 e.ex) :=
 ⟨h k e he 0 _ rfl, h k e he 1 _ rfl, h k e he 2 _ rfl⟩
/-- A slice of them that lies somewhere. -/
def DecsIn (w : World) (v : Value) (l : List DT) : Prop :=
 ∃ p cap, v = .slice p l.length cap ∧ l.length ≤ cap ∧ (0 < l.length → ∃ b o, p = some ⟨b, o, none⟩ ∧ RowDc w b o l)
theorem DecsIn.later {w w' : World} {v : Value} {l : List DT} (h : DecsIn w v l) (x : Ext w w') : DecsIn w' v l := by
 obtain ⟨p, cap, h1, h2, h3⟩ := h
 refine ⟨p, cap, h1, h2, fun h0 => ?_⟩
 obtain ⟨b, o, h4, h5⟩ := h3 h0
 exact ⟨b, o, h4, h5.later x⟩
/-- A row of them of one's own. -/
def OwnDc (w : World) (g : Nat) (l : List DT) : Prop := ∀ (i : Nat) (e : DT), l[i]? = some e → ∀ (c : Nat) (u : Value), e.cells[c]? = some u → w.cell? ⟨g, i * 3 + c, none⟩ = some u ∧ w.frozen? ⟨g, i * 3 + c, none⟩ = false
theorem OwnDc.later {w w' : World} {g : Nat} {l : List DT} (h : OwnDc w g l) (x : Ext w w') : OwnDc w' g l := fun i e hi c u hc => ⟨cell_later x (h i e hi c u hc).1, frozen_later x (h i e hi c u hc).1 (h i e hi c u hc).2⟩
theorem OwnDc.row {w : World} {g : Nat} {l : List DT} (h : OwnDc w g l) : RowDc w g 0 l := fun i e hi c u hc => by rw [Nat.zero_add]; exact (h i e hi c u hc).1
def zeroDT : DT := ⟨false, 0, 0⟩
theorem DT.cells_lt {e : DT} {c : Nat} {u : Value} (h : e.cells[c]? = some u) : c < 3 := (List.getElem?_eq_some_iff.1 h).1
set_option maxHeartbeats 4000000 in
theorem OwnDc.put {w : World} {g k : Nat} {l : List DT} (h : OwnDc w g l) (hk : k < l.length) (e : DT) :
  OwnDc (((w.setCell ⟨g, k * 3, none⟩ (.bool e.ng)).setCell ⟨g, k * 3 + 1, none⟩ (.int .i64 e.dg)).setCell ⟨g, k * 3 + 2, none⟩ (.int .i64 e.ex)) g (l.set k e) := by
 intro i q hi c u hc
 have h5 := DT.cells_lt hc
 obtain ⟨q0, hq0⟩ : ∃ q0, l[i]? = some q0 := by
  have : i < l.length := by have := (List.getElem?_eq_some_iff.1 hi).1; simpa using this
  exact ⟨_, List.getElem?_eq_getElem this⟩
 obtain ⟨u0, hu0⟩ : ∃ u0, q0.cells[c]? = some u0 := ⟨_, List.getElem?_eq_getElem (show c < q0.cells.length from h5)⟩
 have old := h i q0 hq0 c u0 hu0
 refine ⟨?_, by simp only [World.frozen?_setCell]; exact old.2⟩
 by_cases hik : i = k
 ·
  subst hik
  rw [List.getElem?_set_self (by simpa using hk)] at hi
  cases hi
  have S : ∀ (c : Nat), c < 3 → ∀ W : World, (∀ c, c < 3 → (W.cell? ⟨g, i * 3 + c, none⟩).isSome = true) → ∀ v, (W.setCell ⟨g, i * 3 + c, none⟩ v).cell? ⟨g, i * 3 + c, none⟩ = some v := fun c hc W hW v => World.cell?_setCell_same' _ _ _ (by have := hW c hc; exact this)
  have sm : ∀ c, c < 3 → (w.cell? ⟨g, i * 3 + c, none⟩).isSome = true := fun c hc => by
   obtain ⟨v, hv⟩ : ∃ v, q0.cells[c]? = some v := ⟨_, List.getElem?_eq_getElem (show c < q0.cells.length from hc)⟩
   rw [(h i q0 hq0 c v hv).1]; rfl
  have keep : ∀ (c0 : Nat) (v : Value) (W : World), (∀ c, c < 3 → (W.cell? ⟨g, i * 3 + c, none⟩).isSome = true) → ∀ c, c < 3 → ((W.setCell ⟨g, i * 3 + c0, none⟩ v).cell? ⟨g, i * 3 + c, none⟩).isSome = true := fun c0 v W hW c hc => by
   by_cases e : c = c0
   ·
    subst e; rw [S c hc W hW v]; rfl
   ·
    rw [World.cell?_setCell_other _ _ _ _ (fun q => e (by have := congrArg Addr.off q; simp at this; omega))]; exact hW c hc
  have O : ∀ (c0 c : Nat) (v : Value) (W : World), c ≠ c0 → (W.setCell ⟨g, i * 3 + c0, none⟩ v).cell? ⟨g, i * 3 + c, none⟩ = W.cell? ⟨g, i * 3 + c, none⟩ := fun c0 c v W hne => World.cell?_setCell_other _ _ _ _ (fun q => hne (by have := congrArg Addr.off q; simp at this; omega))
  have s0 := sm
  have s1 := keep 0 (.bool e.ng) _ s0
  have s2 := keep 1 (.int .i64 e.dg) _ s1
  match c, h5, hc with
  | 0, _, hc => cases hc; exact (O 2 0 _ _ (by decide)).trans ((O 1 0 _ _ (by decide)).trans (S 0 (by decide) _ s0 _))
  | 1, _, hc => cases hc; exact (O 2 1 _ _ (by decide)).trans (S 1 (by decide) _ s1 _)
  | 2, _, hc => cases hc; exact S 2 (by decide) _ s2 _
 ·
  rw [List.getElem?_set_ne (fun q => hik q.symm)] at hi
  have O : ∀ (c0 : Nat) (v : Value) (W : World), c0 < 3 → (W.setCell ⟨g, k * 3 + c0, none⟩ v).cell? ⟨g, i * 3 + c, none⟩ = W.cell? ⟨g, i * 3 + c, none⟩ := fun c0 v W h0 => World.cell?_setCell_other _ _ _ _ (fun q => hik (by have := congrArg Addr.off q; simp at this; omega))
  exact (O 2 _ _ (by decide)).trans ((O 1 _ _ (by decide)).trans ((O 0 _ _ (by decide)).trans ((h i q hi c u hc).1)))
theorem OwnDc.all {w : World} {g : Nat} {l : List DT} (h : OwnDc w g l) {k : Nat} {e : DT} (he : l[k]? = some e) :
  (w.cell? ⟨g, k * 3, none⟩ = some (.bool e.ng) ∧ w.cell? ⟨g, k * 3 + 1, none⟩ = some (.int .i64 e.dg) ∧ w.cell? ⟨g, k * 3 + 2, none⟩ = some (.int .i64 e.ex)) ∧ w.frozen? ⟨g, k * 3, none⟩ = false ∧ w.frozen? ⟨g, k * 3 + 1, none⟩ = false ∧ w.frozen? ⟨g, k * 3 + 2, none⟩ = false :=
 ⟨⟨(h k e he 0 _ rfl).1, (h k e he 1 _ rfl).1, (h k e he 2 _ rfl).1⟩, (h k e he 0 _ rfl).2, (h k e he 1 _ rfl).2, (h k e he 2 _ rfl).2⟩

theorem app_srcG {P : Program} (w : World) (base : Nat) (t tx ty e : TypeId) (i : TypeInfo) (z : Value) (ht : P.underlying t = some (.slice e)) (hi : P.info? e = some i) (hz : i.zero = some z)
  (sz : Nat) (hsize : i.size = sz) (hby : i.bytes ≤ 64) (hzs : z.cells.size = sz) (v : Value) (n : Nat) (xs : List Value) (hown : w.ownsRow base e sz v n xs) (x : Value) (m : Nat) (news : List Value) (hs : Src P sz tx x m news w)
  (hnm : n + m ≤ 1000000000) (hbase : base ≤ w.heap.size) :
  ∃ v' w', (Builtin.append_ #[t, tx] ty #[v, x]).run P w = .ok v' w' ∧ w'.ownsRow base e sz v' (n + m) (xs ++ news) ∧ w.grownBy w' v.ownBlock ∧ (v'.ownBlock = v.ownBlock ∨ v'.ownBlock = some w.heap.size) := by
 have hs' : Src P i.size tx x m news w := by rw [hsize]; exact hs
 have hml : n + m ≤ maxLen := by simp only [maxLen]; omega
 have hlen : (xs ++ news).length = (n + m) * sz := by rw [List.length_append, hown.1, hs.newsLen, Nat.add_mul]
 have grown : ∀ (old : Nat) (row : Option Nat),
   (w.drew.alloc (.cells ((xs ++ news).toArray ++ Builtin.zeroCells z.cells (grownCap w (n + m) old e - (n + m))) e)).ownsRow base e sz (.slice (some ⟨w.heap.size, 0, none⟩) (n + m) (grownCap w (n + m) old e)) (n + m) (xs ++ news) ∧
   w.grownBy (w.drew.alloc (.cells ((xs ++ news).toArray ++ Builtin.zeroCells z.cells (grownCap w (n + m) old e - (n + m))) e)) row := by
  intro old row
  have hge := grownCap_ge w (n + m) old e
  refine ⟨⟨hlen, .inr ⟨w.heap.size, _, _, rfl, hbase, heap_alloc_new w.drew _, hge, grownCap_le_maxLen w (n + m) old e hml, ?_, ?_⟩⟩, ⟨rfl, rfl, rfl, by simp, fun k hk _ => heap_alloc_old w.drew _ hk⟩⟩
  ·
   rw [Array.size_append, List.size_toArray, size_zeroCells, hzs, hlen, ← Nat.add_mul]
   congr 1
   omega
  ·
   rw [Array.toList_append, ← hlen]
   exact List.take_left
 rcases hown.2 with ⟨rfl, rfl⟩ | ⟨g, cap, cur, rfl, hbg, hg, hnc, hcm, hcs, htake⟩
 ·
  have hx : xs = [] := List.eq_nil_of_length_eq_zero (by have := hown.1; rw [Nat.zero_mul] at this; exact this)
  subst hx
  by_cases hm : m = 0
  ·
   subst hm
   have hn : news = [] := List.eq_nil_of_length_eq_zero (by have := hs.newsLen; rw [Nat.zero_mul] at this; exact this)
   subst hn
   exact ⟨_, _, run_append_nothing w t tx ty e i ht hi none 0 0 (Nat.le_refl _) x hs', World.ownsRow_nil w base e sz, ⟨rfl, rfl, rfl, Nat.le_refl _, fun _ _ _ => rfl⟩, Or.inl rfl⟩
  ·
   have hr := run_append_grow_src (P := P) w t tx ty e i z ht hi hz none 0 0 [] (run_firstCells_none w.drew i.size 0 0 0) x m news hs' (by omega) (by omega) (growslice_fits (by omega) (by have := Nat.mul_le_mul hnm hby; omega))
   have hgr := grown 0 (Value.ownBlock (.slice none 0 0))
   exact ⟨_, _, hr, hgr.1, hgr.2, Or.inr rfl⟩
 ·
  by_cases hroom : n + m ≤ cap
  ·
   have hfit : n * i.size + news.length ≤ cur.size := by rw [hs'.newsLen, hcs, hsize, ← Nat.add_mul]; exact Nat.mul_le_mul_right _ hroom
   have hst := run_storeCells_at P g (n * i.size) e news 0 cur w hg (by simpa using hfit) hs.one
   simp only [Nat.add_zero] at hst
   have hr : (Builtin.append_ #[t, tx] ty #[.slice (some ⟨g, 0, none⟩) n cap, x]).run P w = .ok (.slice (some ⟨g, 0, none⟩) (n + m) cap) (w.setRow g (cur.toList.take (n * i.size) ++ news ++ cur.toList.drop (n * i.size + news.length)).toArray) := by
    rcases hs'.kind with ⟨e', hk⟩ | hk <;> simp [Builtin.append_, run_underlying ht, run_underlying hk, sizeOf, typeInfo, hi, hs'.len, hroom, hs'.cells, Addr.add_lit, hst]
   refine ⟨_, _, hr, ⟨hlen, .inr ⟨g, cap, _, rfl, hbg, setRow_heap w g cur _ e _ hg, hroom, hcm, ?_, ?_⟩⟩, ⟨rfl, rfl, rfl, by simp, fun k _ hk => setRow_other w g k _ (fun e => hk (by simp [Value.ownBlock, e]))⟩, Or.inl rfl⟩
   ·
    simp only [List.size_toArray, List.length_append, List.length_take, List.length_drop, Array.length_toList]
    omega
   ·
    rw [hsize, htake, ← hlen]
    exact List.take_left
  ·
   have holds : ∀ j u, xs[j]? = some u → w.cell? ((⟨g, 0, none⟩ : Addr).add j) = some u := hown.cells (g := g) rfl
   have hr := run_append_grow_src (P := P) w t tx ty e i z ht hi hz (some ⟨g, 0, none⟩) n cap xs (run_firstCells_some (P := P) w.drew i.size n ⟨g, 0, none⟩ n cap xs (by rw [hsize]; exact hown.1) (by simpa using holds)) x m news hs' (by omega) (by omega) (growslice_fits (by omega) (by have := Nat.mul_le_mul hnm hby; omega))
   have hgr := grown cap (Value.ownBlock (.slice (some ⟨g, 0, none⟩) n cap))
   exact ⟨_, _, hr, hgr.1, hgr.2, Or.inr rfl⟩

def flatD : List DT → List Value
 | [] => []
 | x :: l => x.cells ++ flatD l
theorem flatD_append (l m : List DT) : flatD (l ++ m) = flatD l ++ flatD m := by
 induction l with
 | nil => rfl
 | cons x l ih => simp [flatD, ih]
theorem flatD_length (l : List DT) : (flatD l).length = l.length * 3 := by
 induction l with
 | nil => rfl
 | cons x l ih => simp [flatD, ih]; omega
theorem flatD_at {l : List DT} {i : Nat} {x : DT} (h : l[i]? = some x) (j : Nat) (hj : j < 3) : (flatD l)[i * 3 + j]? = x.cells[j]? := by
 induction l generalizing i with
 | nil => cases h
 | cons y l ih =>
  have h5 : y.cells.length = 3 := rfl
  cases i with
  | zero =>
   have : y = x := by simpa using h
   subst this
   show (y.cells ++ flatD l)[0 * 3 + j]? = _
   rw [Nat.zero_mul, Nat.zero_add, List.getElem?_append_left (by omega)]
  | succ i =>
   show (y.cells ++ flatD l)[(i + 1) * 3 + j]? = _
   rw [List.getElem?_append_right (by omega), show (i + 1) * 3 + j - y.cells.length = i * 3 + j by omega]
   exact ih (by simpa using h)
/-- A row of values of one's own, that may grow. -/
abbrev OwnE (w : World) (base : Nat) (v : Value) (l : List DT) : Prop := w.ownsRow base 25 3 v l.length (flatD l)
theorem ownE_later {w w' : World} {base : Nat} {v : Value} {l : List DT} (h : OwnE w base v l) (hx : Ext w w') : OwnE w' base v l := by
 refine ⟨h.1, h.2.imp id ?_⟩
 rintro ⟨g, cap, cur, h1, h2, h3, h4⟩
 have hlt : g < w.heap.size := by
  rcases Nat.lt_or_ge g w.heap.size with h' | h'
  ·
   exact h'
  ·
   rw [Array.getElem?_eq_none h'] at h3; cases h3
 exact ⟨g, cap, cur, h1, h2, by rw [hx.block g hlt]; exact h3, h4⟩
theorem ownE_block {w : World} {base : Nat} {v : Value} {l : List DT} (h : OwnE w base v l) : ∀ r, v.ownBlock = some r → base ≤ r := by
 intro r hr
 rcases h.2 with ⟨rfl, _⟩ | ⟨g, cap, cur, rfl, h2, _⟩
 ·
  cases hr
 ·
  have : g = r := by simpa [Value.ownBlock] using hr
  omega
theorem ownE_slice {w : World} {base : Nat} {v : Value} {l : List DT} (h : OwnE w base v l) : ∃ p n c, v = .slice p n c := by
 rcases h.2 with ⟨rfl, _⟩ | ⟨g, cap, cur, rfl, _⟩
 ·
  exact ⟨_, _, _, rfl⟩
 ·
  exact ⟨_, _, _, rfl⟩
theorem ownE_decs {w : World} {base : Nat} {v : Value} {l : List DT} (h : OwnE w base v l) : DecsIn w v l := by
 rcases h.2 with ⟨rfl, h0⟩ | ⟨g, cap, cur, rfl, hb, hg, hc, _, hcs, htake⟩
 ·
  exact ⟨none, 0, by rw [h0], by omega, fun h => absurd h0 (by omega)⟩
 ·
  refine ⟨_, cap, rfl, hc, fun _ => ⟨g, 0, rfl, fun i e hi c u hu => ?_⟩⟩
  have := h.cells (g := g) rfl (i * 3 + c) u ((flatD_at hi c (DT.cells_lt hu)).trans hu)
  rw [show (⟨g, 0, none⟩ : Addr).add (i * 3 + c) = ⟨g, 0 + i * 3 + c, none⟩ by unfold Addr.add; split <;> simp_all] at this
  exact this
/-- A store elsewhere leaves the row. -/
theorem ownE_far {w : World} {base : Nat} {v : Value} {l : List DT} (h : OwnE w base v l) {p : Addr} (hp : p.block < base) (u : Value) : OwnE (w.setCell p u) base v l := by
 refine ⟨h.1, h.2.imp id ?_⟩
 rintro ⟨g, cap, cur, h1, h2, h3, h4⟩
 exact ⟨g, cap, cur, h1, h2, by rw [heap_setCell_other _ _ _ _ (by omega)]; exact h3, h4⟩
theorem infoE : ∃ inf, Tryz.prog.info? 25 = some inf ∧ inf.zero = some (decV false 0 0) ∧ inf.size = 3 ∧ inf.bytes = 24 := by
 have h0 : (Tryz.prog.info? 25).map (fun i => (i.zero, i.size, i.bytes)) = some (some (decV false 0 0), 3, 24) := by kernel_rfl
 obtain ⟨inf, e1, e2⟩ := Option.map_eq_some_iff.1 h0
 simp only [Prod.mk.injEq] at e2
 exact ⟨inf, e1, e2.1, e2.2.1, e2.2.2⟩
theorem decs_src {w : World} {v : Value} {l : List DT} (h : DecsIn w v l) : Src Tryz.prog 3 59 v l.length (flatD l) w := by
 obtain ⟨p, cap, rfl, hcap, hi⟩ := h
 cases p with
 | none =>
  have h0 : l.length = 0 := by
   rcases Nat.eq_zero_or_pos l.length with h | h
   ·
    exact h
   ·
    obtain ⟨b, o, e, _⟩ := hi h; cases e
  have : l = [] := List.eq_nil_of_length_eq_zero h0
  subst this
  exact Src.ofNil _ Tryz.underlying59 cap
 | some a =>
  refine Src.ofSlice (size := 3) _ Tryz.underlying59 a l.length cap (flatD l) (flatD_length l) (fun j u hj => ?_) (fun u hu => ?_)
  ·
   have hjl : j < (flatD l).length := (List.getElem?_eq_some_iff.1 hj).1
   rw [flatD_length] at hjl
   have hil : j / 3 < l.length := by omega
   obtain ⟨e, he⟩ : ∃ e, l[j / 3]? = some e := ⟨_, List.getElem?_eq_getElem hil⟩
   have hc := flatD_at he (j % 3) (by omega)
   rw [show j / 3 * 3 + j % 3 = j by omega, hj] at hc
   obtain ⟨b, o, e', hR⟩ := hi (by omega)
   cases e'
   have := hR (j / 3) e he (j % 3) u hc.symm
   rw [Addr.add_lit, show o + j = o + j / 3 * 3 + j % 3 by omega]
   exact this
  ·
   obtain ⟨j, hj, rfl⟩ := List.getElem_of_mem hu
   rw [flatD_length] at hj
   obtain ⟨e, he⟩ : ∃ e, l[j / 3]? = some e := ⟨_, List.getElem?_eq_getElem (by omega)⟩
   have hc := flatD_at he (j % 3) (by omega)
   rw [show j / 3 * 3 + j % 3 = j by omega, List.getElem?_eq_getElem (by rw [flatD_length]; exact hj)] at hc
   have h5 : j % 3 < 3 := by omega
   generalize j % 3 = q at hc h5
   match q, h5, hc with
   | 0, _, hc => rw [Option.some.inj (show some _ = some _ from hc)]; rfl
   | 1, _, hc => rw [Option.some.inj (show some _ = some _ from hc)]; rfl
   | 2, _, hc => rw [Option.some.inj (show some _ = some _ from hc)]; rfl
theorem ownE_own {w : World} {base : Nat} {v : Value} {l : List DT} (h : OwnE w base v l) {g : Nat} (hg : v.ownBlock = some g) : ∃ c, v = .slice (some ⟨g, 0, none⟩) l.length c ∧ l.length ≤ c ∧ base ≤ g ∧ OwnDc w g l := by
 obtain ⟨hx, h1 | ⟨g', cap, cur, rfl, hb, hh, hn, -, hs, ht⟩⟩ := h
 ·
  rw [h1.1] at hg; cases hg
 ·
  cases hg
  refine ⟨cap, rfl, hn, hb, fun i e hi c u hc => ?_⟩
  have h5 := DT.cells_lt hc
  have hil : i < l.length := (List.getElem?_eq_some_iff.1 hi).1
  have hlt : i * 3 + c < l.length * 3 := by omega
  have hf := flatD_at hi c h5
  rw [hc, ← ht, List.getElem?_take_of_lt hlt] at hf
  have e1 : cur[i * 3 + c]? = some u := by rw [← hf]; simp
  refine ⟨?_, ?_⟩
  ·
   unfold World.cell?
   simp only [hh]
   simpa using e1
  ·
   unfold World.frozen?
   simp only [hh]
   simp

theorem isErrG (k : Int) (n : Bool) (d x : Int) (t : List UInt8) (w : World) :
  Calls Tryz.prog 36 #[valV k n d x t] w fun e w' => e = .returned (.bool (decide (k = 4))) ∧ Ext w w' := by
 have X0 := x1 w (.cells #[.int .i64 k, .bool n, .int .i64 d, .int .i64 x, sV t] 27)
 have B0 := vec_made w (valL k n d x t) 27
 change Vec (w.alloc (.cells #[.int .i64 k, .bool n, .int .i64 d, .int .i64 x, sV t] 27)) _ _ at B0
 obtain ⟨a0, a1, a2, a3, a4⟩ := Vec.five B0
 have e : decide (k = 4) = (k == 4) := rfl
 rw [e]
 clear e
 go_enter Tryz.func36, Tryz.ntmps36
 go_wp2_with fail
 go_ret
 exact ⟨rfl, X0⟩
theorem smallG (z : Int) (w : World) (s1 : -1000000000000000000 < z) (s2 : z < 1000000000000000000) :
  Calls Tryz.prog 53 #[.int .i64 z] w fun e w' => e = .returned (zS z) ∧ Ext w w' := by
 go_enter Tryz.func53, Tryz.ntmps53
 go_wp2
 exact bodyPost_ret (v := zS z) (by simp [results, Tryz.results53, go_sem]) rfl ⟨rfl, x1 _ _⟩
theorem field_decG (ok n : Bool) (d x : Int) (W : World) : (Instr.field 70 (.agg #[.bool ok, .bool n, .int .i64 d, .int .i64 x]) 1).run Tryz.prog W = .ok (decV n d x) W := by kernel_rfl
set_option maxHeartbeats 2000000 in
theorem countS (n : Nat) (w : World) (h : n ≤ 2000) :
  Calls Tryz.prog 34 #[.int .i64 n] w fun e w' => e = .returned (cntT n).val ∧ Ext w w' := by
 have X0 := x1 w (.cells #[.int .i64 0, .bool false, .int .i64 0, .int .i64 0, sV []] 27)
 have B0 := vec_made w (valL 0 false 0 0 []) 27
 change Vec (w.alloc (.cells #[.int .i64 0, .bool false, .int .i64 0, .int .i64 0, sV []] 27)) _ _ at B0
 have HK : Hid ((putR false n 0 false).ok = true) := count_ok h
 have CP : Hid (∀ W, Calls Tryz.prog 52 #[zS (n : Int), .int .i64 0, .bool false] W fun r w' => r = .returned (resV (putR false n 0 false)) ∧ Ext W w') := fun W => by
  have hp : ((1000000000 : Int) ^ 3) = 1000000000000000000000000000 := by decide
  have := put_spec 0 false W (ZV.small (w := W) (z := (n : Int)) (by omega) (by omega)) 3 (by omega) (by rw [hp]; omega) (by omega) (by omega) false n rfl (fun _ => decide_eq_false (by omega))
  exact this
 have HC : Hid (cntT n = putT (putR false n 0 false)) := rfl
 obtain ⟨⟨ok, pn, pd, pe⟩, hr⟩ : ∃ r, putR false n 0 false = r := ⟨_, rfl⟩
 rw [hr] at CP HC HK
 obtain rfl : ok = true := HK.out
 have e1 : cntT n = ⟨1, pn, pd, pe, []⟩ := by rw [HC.out]; rfl
 rw [e1]
 have hfd := field_decG true pn pd pe
 clear e1 hr HC HK
 go_enter Tryz.func34, Tryz.ntmps34
 go_wp2_with fail
 refine (smallG (n : Int) _ (by omega) (by omega)).mono ?_
 rintro rr w1 ⟨rfl, e1⟩
 go_wp2_with fail
 refine (CP.out w1).mono ?_
 rintro rr w2 ⟨rfl, e2⟩
 go_wp2_with fail
 refine (numVS pn pd pe w2).mono ?_
 rintro rr w3 ⟨rfl, e3⟩
 obtain ⟨wy, hy, FX, ⟨b0, b1, b2, b3, b4⟩, ⟨fb0, fb1, fb2, fb3, fb4⟩, fd0, fd1, fd2, fd3, fd4⟩ := fin5 (((B0.later e1).later e2).later e3) (xt (xt (xt X0 e1) e2) e3) (by omega) 1 pn pd pe []
 go_wp2_with fail
 exact bodyPost_ret (v := valV 1 pn pd pe []) (by simp [results, Tryz.results34, go_sem, fd0, fd1, fd2, fd3, fd4]) rfl ⟨rfl, FX⟩

end Go.Proofs.YtfgohahfppabbaaGreatDoor

