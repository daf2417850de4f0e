/-
  Chapter 12: FoldValues of the specification.
-/
import Derived.Test.YtfgohahfppabbaaGreatDoorMg36
namespace Go.Proofs.YtfgohahfppabbaaGreatDoor
open Go.RowKit

/-- What is folded of good values. -/
def innerT (f : Int) (l : List VT) : VT := if f = 2 then cntT (fullN l) else match l.find? (fun e => decide (e.k = 4)) with
  | some e => e
  | none => foldN f (numsT l)
theorem fullN_step {l : List VT} {k : Nat} {e : VT} (he : l[k]? = some e) : fullN (l.take (k + 1)) = fullN (l.take k) + (if (e.k != 0) = true then 1 else 0) := by
 unfold fullN
 rw [List.take_add_one, he, List.filter_append, List.length_append]
 congr 1
 by_cases h : (e.k != 0) = true
 ·
  rw [if_pos h]; simp [h]
 ·
  rw [if_neg h]; simp [h]
theorem fullN_le (l : List VT) : fullN l ≤ l.length := List.length_filter_le _ _
theorem numsT_le (l : List VT) : (numsT l).length ≤ l.length := List.length_filter_le _ _
set_option maxRecDepth 8000 in
set_option maxHeartbeats 4000000 in
theorem innerS2 (v : Value) (l : List VT) (w : World) (h : ValsIn w v l) (hl : l.length ≤ 2000) :
  Calls Tryz.prog 13 #[v, .int .i64 2] w fun e w' => e = .returned (cntT (fullN l)).val ∧ Ext w w' := by
 obtain ⟨p, cap, rfl, hcap, hrow⟩ := h
 have HC : Hid (∀ W, Calls Tryz.prog 34 #[.int .i64 (fullN l : Int)] W fun e w' => e = .returned (cntT (fullN l)).val ∧ Ext W w') := fun W => countS (fullN l) W (Nat.le_trans (fullN_le l) hl)
 obtain ⟨n, hn⟩ : ∃ n, l.length = n := ⟨_, rfl⟩
 have HN : Hid (l.length = n) := hn
 rw [hn] at hcap hl hrow ⊢
 have HRow : Hid (0 < n → ∃ b o, p = some ⟨b, o, none⟩ ∧ RowV w b o l) := hrow
 have X0 := x1 w (.cells #[.int .i64 0, .bool false, .int .i64 0, .int .i64 0, sV []] 27)
 have B0 := vec_made w (valL 0 false 0 0 []) 27
 change Vec (w.alloc (.cells #[.int .i64 0, .bool false, .int .i64 0, .int .i64 0, sV []] 27)) _ _ at B0
 obtain ⟨u0, hu0⟩ : ∃ u, w.alloc (.cells #[.int .i64 0, .bool false, .int .i64 0, .int .i64 0, sV []] 27) = u := ⟨_, rfl⟩
 rw [hu0] at X0 B0
 have HS : Hid (Vec u0 w.heap.size (valL 0 false 0 0 []) ∧ Ext w u0 ∧ 0 = fullN (l.take 0)) := ⟨B0, X0, rfl⟩
 obtain ⟨B, hB⟩ : ∃ B, w.heap.size = B := ⟨_, rfl⟩
 have HB : Hid (w.heap.size = B) := hB
 rw [hB] at HS
 obtain ⟨⟨k2, n2, d2, x2, t2⟩, hr⟩ : ∃ r, cntT (fullN l) = r := ⟨_, rfl⟩
 rw [hr] at HC ⊢
 clear hn hrow B0 X0 hr
 go_enter Tryz.func13, Tryz.ntmps13
 go_wp2_with fail
 clear hu0 hB
 go_loopw [5, 15] (fun s5 i wr => ∃ k m : Nat, k ≤ n ∧ m ≤ k ∧ i = .int .i64 k ∧ s5 = .int .i64 m ∧ Hid (Vec wr B (valL 0 false 0 0 []) ∧ Ext w wr ∧ m = fullN (l.take k))) (fun _ i _ => n - (intOf i).toNat)
 case atStart => exact ⟨0, 0, by omega, by omega, rfl, rfl, HS⟩
 case round =>
  obtain ⟨k, m, hk, hmk, rfl, rfl, HO⟩ := hrel
  clear HS
  by_cases hlt : k < n
  ·
   have i2 : (k : Int) < (n : Int) := by omega
   obtain ⟨e, hx⟩ : ∃ x, l[k]? = some x := ⟨_, List.getElem?_eq_getElem (by rw [HN.out]; exact hlt)⟩
   obtain ⟨b, o, rfl, RW⟩ := HRow.out (by omega)
   obtain ⟨a0, a1, a2, a3, a4⟩ := (RW.later HO.out.2.1).five hx
   have HStep : Hid (fullN (l.take (k + 1)) = fullN (l.take k) + (if (e.k != 0) = true then 1 else 0)) := fullN_step hx
   have Y := x1 wr (.cells #[.int .i64 e.k, .bool e.n, .int .i64 e.d, .int .i64 e.x, sV e.t] 27)
   have KB := vec_made wr (valL e.k e.n e.d e.x e.t) 27
   change Vec (wr.alloc (.cells #[.int .i64 e.k, .bool e.n, .int .i64 e.d, .int .i64 e.x, sV e.t] 27)) _ _ at KB
   obtain ⟨wx, hwx⟩ : ∃ wx, wr.alloc (.cells #[.int .i64 e.k, .bool e.n, .int .i64 e.d, .int .i64 e.x, sV e.t] 27) = wx := ⟨_, rfl⟩
   rw [hwx] at Y KB
   have HO2 : Hid (Vec wx B (valL 0 false 0 0 []) ∧ Ext w wx ∧ m = fullN (l.take k)) := ⟨HO.out.1.later Y, xt HO.out.2.1 Y, HO.out.2.2⟩
   obtain ⟨ek, en, ed, ex, et⟩ := e
   dsimp only at a0 a1 a2 a3 a4 hwx KB HStep
   obtain ⟨k0, k1, k2', k3, k4⟩ := Vec.five KB
   clear hx RW HO KB
   by_cases h0 : ek = 0
   ·
    subst h0
    have HQ : Hid (Vec wx B (valL 0 false 0 0 []) ∧ Ext w wx ∧ m = fullN (l.take (k + 1))) := ⟨HO2.out.1, HO2.out.2.1, by rw [HStep.out, HO2.out.2.2]; rfl⟩
    clear HO2 HStep
    go_wp2_with fail
    go_roundw
    case rel => exact ⟨k + 1, m, by omega, by omega, by go_num, rfl, HQ⟩
    case measure => simp [intOf]; omega
   ·
    have h0' : (ek != 0) = true := bne_iff_ne.2 h0
    have HQ : Hid (Vec wx B (valL 0 false 0 0 []) ∧ Ext w wx ∧ m + 1 = fullN (l.take (k + 1))) := ⟨HO2.out.1, HO2.out.2.1, by rw [HStep.out, HO2.out.2.2, if_pos h0']⟩
    clear HO2 HStep
    go_wp2_with fail
    go_roundw
    case rel => exact ⟨k + 1, m + 1, by omega, by omega, by go_num, by go_num, HQ⟩
    case measure => simp [intOf]; omega
  ·
   obtain rfl : k = n := by omega
   have i2 : ¬ (k : Int) < (k : Int) := by omega
   have hm : m = fullN l := by rw [HO.out.2.2, List.take_of_length_le (by rw [HN.out]; exact Nat.le_refl _)]
   rw [← hm] at HC
   have VB := HO.out.1
   have XW := HO.out.2.1
   clear HO hm
   go_wp2_with fail
   refine (HC.out wr).mono ?_
   rintro rr w1 ⟨rfl, e1⟩
   obtain ⟨wy, hy, FX, ⟨b0, b1, b2, b3, b4⟩, ⟨fb0, fb1, fb2, fb3, fb4⟩, fd0, fd1, fd2, fd3, fd4⟩ := fin5 (VB.later e1) (xt XW e1) (by have := HB.out; omega) k2 n2 d2 x2 t2
   go_wp2_with fail
   exact bodyPost_ret (v := valV k2 n2 d2 x2 t2) (by simp [results, Tryz.results13, go_sem, fd0, fd1, fd2, fd3, fd4]) rfl ⟨rfl, FX⟩
set_option maxRecDepth 8000 in
set_option maxHeartbeats 4000000 in
theorem innerS (f : Int) (v : Value) (l : List VT) (w : World) (h : ValsIn w v l) (hl : l.length ≤ 2000) (hf : 1 ≤ f ∧ f ≤ 5) (hf2 : f ≠ 2) (hg : l.all VT.good = true) :
  Calls Tryz.prog 13 #[v, .int .i64 f] w fun e w' => e = .returned (innerT f l).val ∧ Ext w w' := by
 have X0 := x1 w (.cells #[.int .i64 0, .bool false, .int .i64 0, .int .i64 0, sV []] 27)
 have B0 := vec_made w (valL 0 false 0 0 []) 27
 change Vec (w.alloc (.cells #[.int .i64 0, .bool false, .int .i64 0, .int .i64 0, sV []] 27)) _ _ at B0
 obtain ⟨u0, hu0⟩ : ∃ u, w.alloc (.cells #[.int .i64 0, .bool false, .int .i64 0, .int .i64 0, sV []] 27) = u := ⟨_, rfl⟩
 rw [hu0] at X0 B0
 have CN := numsS v l u0 (h.later X0) hl
 have HD : Hid (innerT f l = match l.find? (fun e => decide (e.k = 4)) with | some e => e | none => foldN f (numsT l)) := by show _ = _; unfold innerT; rw [if_neg hf2]
 have HNum : Hid ((decsT l).map DT.num = numsT l) := decsT_num hg
 have HIN : Hid (∀ e ∈ numsT l, e.isN) := numsT_isN hg
 have HLen : Hid ((decsT l).length ≤ 2000 ∧ (decsT l).length = (numsT l).length) := by
  have := numsT_le l
  unfold decsT
  rw [List.length_map]
  exact ⟨by omega, rfl⟩
 have HGD : Hid (∀ e ∈ decsT l, e.good) := fun e he => by
  obtain ⟨x, hx, rfl⟩ := List.mem_map.1 he
  exact isN_good (numsT_isN hg x hx)
 obtain ⟨p, cap, rfl, -, -⟩ := h
 obtain ⟨R, hR⟩ : ∃ R, innerT f l = R := ⟨_, rfl⟩
 rw [hR] at HD ⊢
 obtain ⟨n, hn⟩ : ∃ n, l.length = n := ⟨_, rfl⟩
 rw [hn] at CN hl ⊢
 have g2 : (f == 2) = false := beq_eq_false_iff_ne.2 hf2
 clear hn hR hg
 go_enter Tryz.func13, Tryz.ntmps13
 go_wp2_with fail
 clear hu0
 refine CN.mono ?_
 rintro rr w1 (⟨x, hfx, rfl, e1⟩ | ⟨u, hfx, rfl, OE, e1⟩)
 ·
  have e3 : R = x := by rw [HD.out, hfx]
  subst e3
  obtain ⟨k2, n2, d2, x2, t2⟩ := R
  obtain rfl : k2 = 4 := by
   have := List.find?_some hfx
   simpa using this
  clear HD CN hfx
  have X1 := xt X0 e1
  have Y := x1 w1 (.cells #[.int .i64 4, .bool n2, .int .i64 d2, .int .i64 x2, sV t2] 27)
  have KB := vec_made w1 (valL 4 n2 d2 x2 t2) 27
  change Vec (w1.alloc (.cells #[.int .i64 4, .bool n2, .int .i64 d2, .int .i64 x2, sV t2] 27)) _ _ at KB
  obtain ⟨k0, k1, k2', k3, k4⟩ := Vec.five KB
  have CE := isErrG 4 n2 d2 x2 t2 (w1.alloc (.cells #[.int .i64 4, .bool n2, .int .i64 d2, .int .i64 x2, sV t2] 27))
  rw [show decide ((4 : Int) = 4) = true by decide] at CE
  go_wp2_with fail
  clear k0 k1 k2' k3 k4
  refine CE.mono ?_
  rintro rr w2 ⟨rfl, e2⟩
  obtain ⟨k0, k1, k2', k3, k4⟩ := Vec.five (KB.later e2)
  obtain ⟨wy, hy, FX, ⟨b0, b1, b2, b3, b4⟩, ⟨fb0, fb1, fb2, fb3, fb4⟩, fd0, fd1, fd2, fd3, fd4⟩ := fin5 (((B0.later e1).later Y).later e2) (xt (xt X1 Y) e2) (by omega) 4 n2 d2 x2 t2
  go_wp2_with fail
  exact bodyPost_ret (v := valV 4 n2 d2 x2 t2) (by simp [results, Tryz.results13, go_sem, fd0, fd1, fd2, fd3, fd4]) rfl ⟨rfl, FX⟩
 ·
  have HR2 : Hid (R = foldN f (numsT l)) := by show _ = _; rw [HD.out, hfx]
  obtain ⟨q, nq, cq, rfl⟩ := ownE_slice OE
  have D1 := ownE_decs OE
  have X1 := xt X0 e1
  have Y := x1 w1 (.cells #[.int .i64 0, .bool false, .int .i64 0, .int .i64 0, sV []] 27)
  have KB := vec_made w1 (valL 0 false 0 0 []) 27
  change Vec (w1.alloc (.cells #[.int .i64 0, .bool false, .int .i64 0, .int .i64 0, sV []] 27)) _ _ at KB
  obtain ⟨k0, k1, k2', k3, k4⟩ := Vec.five KB
  have CE := isErrG 0 false 0 0 [] (w1.alloc (.cells #[.int .i64 0, .bool false, .int .i64 0, .int .i64 0, sV []] 27))
  rw [show decide ((0 : Int) = 4) = false by decide] at CE
  have HNq : Hid (nq = (decsT l).length) := by
   obtain ⟨_, _, e, _⟩ := D1
   cases e
   rfl
  have HDD : Hid (DecsIn w1 (.slice q nq cq) (decsT l)) := D1
  clear CN OE D1 HD hfx
  go_wp2_with fail
  clear k0 k1 k2' k3 k4
  refine CE.mono ?_
  rintro rr w2 ⟨rfl, e2⟩
  have X2 := xt (xt X1 Y) e2
  have B2 := ((B0.later e1).later Y).later e2
  have D2 := HDD.out.later (xt Y e2)
  clear CE KB HDD
  by_cases h1 : f = 1
  ·
   subst h1
   have CS := sumS (.slice q nq cq) (decsT l) w2 D2 HLen.out.1
   rw [HNum.out, show sumT (cntT 0) (numsT l) = R from HR2.out.symm] at CS
   obtain ⟨k2, n2, d2, x2, t2⟩ := R
   clear D2 HR2
   go_wp2_with fail
   refine CS.mono ?_
   rintro rr w3 ⟨rfl, e3⟩
   obtain ⟨wy, hy, FX, ⟨b0, b1, b2, b3, b4⟩, ⟨fb0, fb1, fb2, fb3, fb4⟩, fd0, fd1, fd2, fd3, fd4⟩ := fin5 (B2.later e3) (xt X2 e3) (by omega) k2 n2 d2 x2 t2
   go_wp2_with fail
   exact bodyPost_ret (v := valV k2 n2 d2 x2 t2) (by simp [results, Tryz.results13, go_sem, fd0, fd1, fd2, fd3, fd4]) rfl ⟨rfl, FX⟩
  have g1 : (f == 1) = false := beq_eq_false_iff_ne.2 h1
  by_cases h5 : f = 5
  ·
   subst h5
   have CS := meanS (.slice q nq cq) (decsT l) w2 D2 HLen.out.1
   rw [HNum.out, show meanT (numsT l) = R from HR2.out.symm] at CS
   obtain ⟨k2, n2, d2, x2, t2⟩ := R
   clear D2 HR2
   go_wp2_with fail
   refine CS.mono ?_
   rintro rr w3 ⟨rfl, e3⟩
   obtain ⟨wy, hy, FX, ⟨b0, b1, b2, b3, b4⟩, ⟨fb0, fb1, fb2, fb3, fb4⟩, fd0, fd1, fd2, fd3, fd4⟩ := fin5 (B2.later e3) (xt X2 e3) (by omega) k2 n2 d2 x2 t2
   go_wp2_with fail
   exact bodyPost_ret (v := valV k2 n2 d2 x2 t2) (by simp [results, Tryz.results13, go_sem, fd0, fd1, fd2, fd3, fd4]) rfl ⟨rfl, FX⟩
  have g5 : (f == 5) = false := beq_eq_false_iff_ne.2 h5
  have CS := sortDS (.slice q nq cq) (decsT l) w2 D2 HLen.out.1 HGD.out
  clear D2
  go_wp2_with fail
  refine CS.mono ?_
  rintro rr w3 ⟨u, M, rfl, DM, hp, hu, e3⟩
  have HPU : Hid (M.Perm ((numsT l).map VT.dec) ∧ UpTo M (numsT l).length) := ⟨hp, by rw [← HLen.out.2]; exact hu⟩
  have hML : M.length = (numsT l).length := by rw [hp.length_eq]; exact HLen.out.2
  obtain ⟨pm, cm, rfl, hcm, hrow⟩ := DM
  have X3 := xt X2 e3
  have B3 := B2.later e3
  rw [hML] at hcm hrow ⊢
  obtain ⟨N, hN⟩ : ∃ N, (numsT l).length = N := ⟨_, rfl⟩
  have HNn : Hid ((numsT l).length = N) := hN
  rw [hN] at hcm hrow hML ⊢
  have hN2 : N ≤ 2000 := by rw [← hN, ← HLen.out.2]; exact HLen.out.1
  clear CS hp hu hN B2 X2
  rcases Nat.eq_zero_or_pos N with h0 | h0
  ·
   subst h0
   have e0 : R = cntT 0 := by
    have hnil : numsT l = [] := List.eq_nil_of_length_eq_zero HNn.out
    rw [HR2.out, hnil]
    unfold foldN
    rw [if_neg h1]
    by_cases h3 : f = 3
    ·
     rw [if_pos h3]; rfl
    ·
     have h4 : f = 4 := by omega
     rw [if_neg h3, if_pos h4]; rfl
   have CC := countS 0 w3 (by omega)
   rw [← e0] at CC
   obtain ⟨k2, n2, d2, x2, t2⟩ := R
   clear HR2 e0 HPU hrow hML
   go_wp2_with fail
   refine CC.mono ?_
   rintro rr w4 ⟨rfl, e4⟩
   obtain ⟨wy, hy, FX, ⟨b0, b1, b2, b3, b4⟩, ⟨fb0, fb1, fb2, fb3, fb4⟩, fd0, fd1, fd2, fd3, fd4⟩ := fin5 (B3.later e4) (xt X3 e4) (by omega) k2 n2 d2 x2 t2
   go_wp2_with fail
   exact bodyPost_ret (v := valV k2 n2 d2 x2 t2) (by simp [results, Tryz.results13, go_sem, fd0, fd1, fd2, fd3, fd4]) rfl ⟨rfl, FX⟩
  have hne : numsT l ≠ [] := fun e => by have := HNn.out; rw [e] at this; simp at this; omega
  have n0 : ((N : Int) == 0) = false := beq_eq_false_iff_ne.2 (by omega)
  obtain ⟨b, o, rfl, RW⟩ := hrow h0
  by_cases h3 : f = 3
  ·
   subst h3
   have e3' : R = (atD M 0).num := by
    rw [HR2.out, ← low_one HIN.out HPU.out.1 HPU.out.2 hne]
    rfl
   have hx : M[0]? = some (atD M 0) := atD_get (by omega)
   obtain ⟨a0, a1, a2⟩ := RW.all hx
   obtain ⟨⟨xn, xq, xe⟩, hxx⟩ : ∃ x, atD M 0 = x := ⟨_, rfl⟩
   rw [hxx] at e3' a0 a1 a2
   subst e3'
   simp only [Nat.zero_mul, Nat.add_zero] at a0 a1 a2
   have i0 : (0 : Int) < (N : Int) := by omega
   clear HR2 HPU hx hxx RW
   go_wp2_with fail
   clear a0 a1 a2
   refine (numVS xn xq xe w3).mono ?_
   rintro rr w4 ⟨rfl, e4⟩
   obtain ⟨wy, hy, FX, ⟨b0, b1, b2, b3, b4⟩, ⟨fb0, fb1, fb2, fb3, fb4⟩, fd0, fd1, fd2, fd3, fd4⟩ := fin5 (B3.later e4) (xt X3 e4) (by omega) 1 xn xq xe []
   go_wp2_with fail
   exact bodyPost_ret (v := valV 1 xn xq xe []) (by simp [results, Tryz.results13, go_sem, fd0, fd1, fd2, fd3, fd4]) rfl ⟨rfl, FX⟩
  ·
   have g3 : (f == 3) = false := beq_eq_false_iff_ne.2 h3
   have h4 : f = 4 := by omega
   have e3' : R = (atD M (N - 1)).num := by
    rw [HR2.out]
    unfold foldN
    rw [if_neg h1, if_neg h3, if_pos h4, high_one HIN.out HPU.out.1 HPU.out.2 hne, HNn.out]
   obtain ⟨L, hL⟩ : ∃ L, N - 1 = L := ⟨_, rfl⟩
   rw [hL] at e3'
   have hx : M[L]? = some (atD M L) := atD_get (by omega)
   obtain ⟨a0, a1, a2⟩ := RW.all hx
   obtain ⟨⟨xn, xq, xe⟩, hxx⟩ : ∃ x, atD M L = x := ⟨_, rfl⟩
   rw [hxx] at e3' a0 a1 a2
   subst e3'
   dsimp only at a0 a1 a2
   have i0 : (N : Int) - 1 = (L : Int) := by omega
   have i1 : (L : Int) < (N : Int) := by omega
   clear HR2 HPU hx hxx RW hL h4
   go_wp2_with fail
   clear a0 a1 a2
   refine (numVS xn xq xe w3).mono ?_
   rintro rr w4 ⟨rfl, e4⟩
   obtain ⟨wy, hy, FX, ⟨b0, b1, b2, b3, b4⟩, ⟨fb0, fb1, fb2, fb3, fb4⟩, fd0, fd1, fd2, fd3, fd4⟩ := fin5 (B3.later e4) (xt X3 e4) (by omega) 1 xn xq xe []
   go_wp2_with fail
   exact bodyPost_ret (v := valV 1 xn xq xe []) (by simp [results, Tryz.results13, go_sem, fd0, fd1, fd2, fd3, fd4]) rfl ⟨rfl, FX⟩

end Go.Proofs.YtfgohahfppabbaaGreatDoor

