/-
  Chapter 11: a row ahead of another one, of the specification.
-/
import Derived.Test.YtlofnhhoopefcaaGreatDoorQs
import Derived.Test.YtlofnhhoopefcaaGreatDoorQp
namespace Go.Proofs.YtlofnhhoopefcaaGreatDoor
open Go.RowKit

set_option maxRecDepth 8000 in
set_option maxHeartbeats 3000000 in
theorem rowAheadS (r c : Nat) (v kv : Value) (l : List VT) (ks : List YT) (i y : Nat) (w : World) (h : ValsIn w v l) (hk : SortKeysIn w kv ks) (hl : l.length = r * c) (h2 : l.length ≤ 2000) (hx : i < r) (hy : y < r) (hK : KeysOK c ks) (h8 : ks.length ≤ 8) (c2 : c ≤ 2000) (_r2 : r ≤ 2000)
  (hr : ∀ e ∈ l, e.room) (hg : ∀ e ∈ l, e.good = true) :
  Calls Tryz.prog 22 #[grV r c v, kv, numV i, numV y] w fun e w' => e = .returned (.bool (decide (lexK l c i y ks < 0))) ∧ Ext w w' := by
 have HV : Hid (ValsIn w v l) := h
 obtain ⟨pv, nv, rfl⟩ : ∃ p n, v = .slice p l.length n := by obtain ⟨p, n, h, _⟩ := h; exact ⟨p, n, h⟩
 obtain ⟨pk, nk, rfl, hck, hrow⟩ := hk
 have HRM : Hid (∀ q j, q < r → j < c → (cel l (q * c + j)).room ∧ q * c + j < l.length) := fun q j hq hj => ⟨hr _ (cel_mem (by rw [hl]; exact place_lt hq hj)), by rw [hl]; exact place_lt hq hj⟩
 have HGD : Hid (∀ k, (cel l k).good = true) := cel_good hg
 have HKO : Hid (KeysOK c ks) := hK
 have HROW : Hid (0 < ks.length → ∃ b o, pk = some ⟨b, o, none⟩ ∧ RowY w b o ks) := hrow
 obtain ⟨R, hR⟩ : ∃ R, decide (lexK l c i y ks < 0) = R := ⟨_, rfl⟩
 have HRR : Hid (decide (lexK l c i y ks < 0) = R) := hR
 rw [hR]
 obtain ⟨N, hN⟩ : ∃ N, l.length = N := ⟨_, rfl⟩
 obtain ⟨LK, hL⟩ : ∃ LK, ks.length = LK := ⟨_, rfl⟩
 have HL : Hid (ks.length = LK) := hL
 have HN : Hid (l.length = N) := hN
 rw [hN] at HV h2 HRM ⊢
 rw [hL] at h8 hck HROW ⊢
 have X0 := x1 w (.cells #[.int .i64 r, .int .i64 c, .slice pv N nv] 32)
 have B0 := vec_made w [.int .i64 r, .int .i64 c, .slice pv N nv] 32
 change Vec (w.alloc (.cells #[.int .i64 r, .int .i64 c, .slice pv N nv] 32)) _ _ at B0
 obtain ⟨u0, hu0⟩ : ∃ u, w.alloc (.cells #[.int .i64 r, .int .i64 c, .slice pv N nv] 32) = u := ⟨_, rfl⟩
 rw [hu0] at X0 B0
 clear h hrow hR hN hL hl hr hg hK
 go_enter Tryz.func22, Tryz.ntmps22
 go_wp2_with fail
 clear hu0
 go_loopw [16] (fun s wr => ∃ k : Nat, s = .int .i64 k ∧ k ≤ LK ∧ Hid (lexK l c i y ks = lexK l c i y (ks.drop k) ∧ Ext u0 wr)) (fun s _ => LK - (intOf s).toNat)
 case atStart => exact ⟨0, rfl, by omega, rfl, xr _⟩
 case round =>
  obtain ⟨k, rfl, hkL, HX⟩ := hrel
  by_cases hlt : k < LK
  ·
   have i2 : (k : Int) < (LK : Int) := by omega
   obtain ⟨⟨z, dn⟩, he⟩ : ∃ e, ks[k]? = some e := ⟨_, List.getElem?_eq_getElem (by rw [HL.out]; exact hlt)⟩
   obtain ⟨b, o, rfl, RW⟩ := HROW.out (by omega)
   obtain ⟨c0, c1⟩ := (RW.later (xt X0 HX.out.2)).all he
   have hz := HKO.out _ (List.mem_of_getElem? he)
   simp only at hz c0 c1
   obtain ⟨zn, rfl⟩ := Int.eq_ofNat_of_zero_le (show 0 ≤ z by omega)
   obtain ⟨j, hj⟩ : ∃ j : Nat, zn - 1 = j := ⟨_, rfl⟩
   have jc : j < c := by omega
   have HDR : Hid (ks.drop k = ⟨(zn : Int), dn⟩ :: ks.drop (k + 1)) := drop_at he
   have HCE : Hid (∀ q, celK l c q ⟨(zn : Int), dn⟩ = cel l (q * c + j)) := fun q => by unfold celK; rw [Int.toNat_natCast, hj]
   have CTT : Hid (∀ s, (s = 1 ∨ s = -1) → ∀ W, Calls Tryz.prog 41 #[(cel l (i * c + j)).val, (cel l (y * c + j)).val, .int .i64 s] W fun e w' => e = .returned (.bool (decide (standB (cel l (i * c + j)) (cel l (y * c + j)) s < 0))) ∧ Ext W w') := fun s hs W => aheadS _ _ s hs W (HRM.out i j hx jc).1 (HRM.out y j hy jc).1 (HGD.out _) (HGD.out _)
   have CUU : Hid (∀ s, (s = 1 ∨ s = -1) → ∀ W, Calls Tryz.prog 41 #[(cel l (y * c + j)).val, (cel l (i * c + j)).val, .int .i64 s] W fun e w' => e = .returned (.bool (decide (standB (cel l (y * c + j)) (cel l (i * c + j)) s < 0))) ∧ Ext W w') := fun s hs W => aheadS _ _ s hs W (HRM.out y j hy jc).1 (HRM.out i j hx jc).1 (HGD.out _) (HGD.out _)
   have e1 := cel_at (show i * c + j < l.length by rw [HN.out]; exact (HRM.out i j hx jc).2)
   have e0 := cel_at (show y * c + j < l.length by rw [HN.out]; exact (HRM.out y j hy jc).2)
   have p1 := (HRM.out i j hx jc).2
   have p2 := (HRM.out y j hy jc).2
   obtain ⟨⟨p0, p1', p2', p3, p4⟩, hA⟩ : ∃ A, cel l (i * c + j) = A := ⟨_, rfl⟩
   obtain ⟨⟨q0, q1, q2, q3, q4⟩, hB⟩ : ∃ B, cel l (y * c + j) = B := ⟨_, rfl⟩
   rw [hA] at e1
   rw [hB] at e0
   obtain ⟨pw, cap', hsl, hcap, hrow⟩ := HV.out.later (xt X0 HX.out.2)
   rw [HN.out] at hsl
   cases hsl
   obtain ⟨bv, ov, rfl, RV⟩ := hrow (by rw [HN.out]; omega)
   obtain ⟨f1, hf1⟩ : ∃ f, i * c + j = f := ⟨_, rfl⟩
   obtain ⟨f2, hf2⟩ : ∃ f, y * c + j = f := ⟨_, rfl⟩
   obtain ⟨mi, hmi⟩ : ∃ m, i * c = m := ⟨_, rfl⟩
   obtain ⟨my, hmy⟩ : ∃ m, y * c = m := ⟨_, rfl⟩
   have w1 : (i : Int) * (c : Int) = (mi : Int) := by rw [← hmi]; simp
   have w2 : (y : Int) * (c : Int) = (my : Int) := by rw [← hmy]; simp
   rw [hf1] at e1 p1
   rw [hf2] at e0 p2
   have w3 : (mi : Int) + (zn : Int) = ((f1 + 1 : Nat) : Int) := by omega
   have w4 : (my : Int) + (zn : Int) = ((f2 + 1 : Nat) : Int) := by omega
   obtain ⟨g1, hg1⟩ : ∃ g : Nat, f1 + 1 = g := ⟨_, rfl⟩
   obtain ⟨g2, hg2⟩ : ∃ g : Nat, f2 + 1 = g := ⟨_, rfl⟩
   rw [hg1] at w3
   rw [hg2] at w4
   have w5 : (g1 : Int) - 1 = (f1 : Int) := by omega
   have w6 : (g2 : Int) - 1 = (f2 : Int) := by omega
   have w7 : (f1 : Int) < (N : Int) := by omega
   have w8 : (f2 : Int) < (N : Int) := by omega
   have w9' : (mi : Int) ≤ 2000 := by omega
   have w10 : (my : Int) ≤ 2000 := by omega
   have w11 : (zn : Int) ≤ 2000 := by omega
   clear he hf1 hf2 hmi hmy hg1 hg2 hcap hrow RW
   go_upto_region 4 with fail
   -- the key's box
   have K1 := vec_made wr [.int .i64 (zn : Int), .bool dn] 48
   change Vec (wr.alloc (.cells #[.int .i64 (zn : Int), .bool dn] 48)) _ _ at K1
   have E1 := x1 wr (.cells #[.int .i64 (zn : Int), .bool dn] 48)
   have S1 : (wr.alloc (.cells #[.int .i64 (zn : Int), .bool dn] 48)).heap.size = wr.heap.size + 1 := by rw [World.size_alloc]
   obtain ⟨W1, hW1⟩ : ∃ W, wr.alloc (.cells #[.int .i64 (zn : Int), .bool dn] 48) = W := ⟨_, rfl⟩
   rw [hW1] at K1 E1 S1 ⊢
   have b1 := ((B0.later (xt HX.out.2 E1)) 1 _ rfl).1
   have b2 := ((B0.later (xt HX.out.2 E1)) 2 _ rfl).1
   have kz := (K1 0 _ rfl).1
   obtain ⟨v0, v1, v2, v3, v4⟩ := (RV.later E1).five e1
   simp only at v0 v1 v2 v3 v4
   clear c0 c1 hW1
   go_upto_region 5 with fail
   -- the first cell's box
   have VA := vec_made W1 [.int .i64 p0, .bool p1', .int .i64 p2', .int .i64 p3, sV p4] 70
   change Vec (W1.alloc (.cells #[.int .i64 p0, .bool p1', .int .i64 p2', .int .i64 p3, sV p4] 70)) _ _ at VA
   have E2 := x1 W1 (.cells #[.int .i64 p0, .bool p1', .int .i64 p2', .int .i64 p3, sV p4] 70)
   have S2 : (W1.alloc (.cells #[.int .i64 p0, .bool p1', .int .i64 p2', .int .i64 p3, sV p4] 70)).heap.size = wr.heap.size + 1 + 1 := by rw [World.size_alloc, S1]
   obtain ⟨W2, hW2⟩ : ∃ W, W1.alloc (.cells #[.int .i64 p0, .bool p1', .int .i64 p2', .int .i64 p3, sV p4] 70) = W := ⟨_, rfl⟩
   rw [hW2] at VA E2 S2 ⊢
   rw [S1] at VA
   clear b1 b2 kz v0 v1 v2 v3 v4 hW2
   have b1 := ((B0.later (xt HX.out.2 (xt E1 E2))) 1 _ rfl).1
   have b2 := ((B0.later (xt HX.out.2 (xt E1 E2))) 2 _ rfl).1
   have kz := ((K1.later E2) 0 _ rfl).1
   obtain ⟨v0, v1, v2, v3, v4⟩ := (RV.later (xt E1 E2)).five e0
   simp only at v0 v1 v2 v3 v4
   go_upto_region 6 with fail
   have VB := vec_made W2 [.int .i64 q0, .bool q1, .int .i64 q2, .int .i64 q3, sV q4] 70
   change Vec (W2.alloc (.cells #[.int .i64 q0, .bool q1, .int .i64 q2, .int .i64 q3, sV q4] 70)) _ _ at VB
   have E3' := x1 W2 (.cells #[.int .i64 q0, .bool q1, .int .i64 q2, .int .i64 q3, sV q4] 70)
   obtain ⟨W3, hW3⟩ : ∃ W, W2.alloc (.cells #[.int .i64 q0, .bool q1, .int .i64 q2, .int .i64 q3, sV q4] 70) = W := ⟨_, rfl⟩
   rw [hW3] at VB E3' ⊢
   rw [S2] at VB
   clear b1 b2 kz v0 v1 v2 v3 v4 hW3
   have E3 := xt E1 (xt E2 E3')
   have YW := xt X0 (xt HX.out.2 E3)
   have VA3 := VA.later E3'
   have VB3 := VB
   have kd := ((K1.later (xt E2 E3')) 1 _ rfl).1
   obtain ⟨m0, m1, m2, m3, m4⟩ := Vec.five VA3
   obtain ⟨n0, n1, n2, n3, n4⟩ := Vec.five VB3
   clear e0 e1 w1 w2 w3 w4 w5 w6 w7 w8 w9' w10 w11 RV E1 E2 E3' VA VB
   cases dn
   ·
    skip
    have CF := CTT.out 1 (by decide)
    have CG := CUU.out 1 (by decide)
    obtain ⟨Q, hQ⟩ : ∃ Q, standB (cel l (i * c + j)) (cel l (y * c + j)) 1 = Q := ⟨_, rfl⟩
    have hQ2 : standB (cel l (y * c + j)) (cel l (i * c + j)) 1 = -Q := by rw [stand_swap (HGD.out _) (HGD.out _), hQ]
    have HQ : Hid (standB (celK l c i ⟨(zn : Int), false⟩) (celK l c y ⟨(zn : Int), false⟩) (sgnK ⟨(zn : Int), false⟩) = Q) := by show _ = _; rw [HCE.out, HCE.out]; exact hQ
    rw [hQ] at CF
    rw [hQ2] at CG
    rw [hA, hB] at CF CG
    clear hQ hQ2
    by_cases hQ0 : Q < 0
    ·
     have g1 : decide (Q < 0) = true := decide_eq_true hQ0
     have HF : Hid (true = R) := by
      show _ = _
      have e1 : lexK l c i y ks = Q := by rw [HX.out.1, HDR.out, lexK_take (by rw [HQ.out]; omega), HQ.out]
      rw [← HRR.out, e1, g1]
     rw [g1] at CF
     go_wp2_with fail
     refine (CF _).mono ?_
     rintro e w9 ⟨rfl, e9⟩
     clear m0 m1 m2 m3 m4 n0 n1 n2 n3 n4
     go_wp2_with fail
     go_ret
     exact ⟨ret_bool HF.out, xt YW e9⟩
    ·
     have g1 : decide (Q < 0) = false := decide_eq_false hQ0
     rw [g1] at CF
     by_cases hQ1 : 0 < Q
     ·
      have g2 : decide (-Q < 0) = true := decide_eq_true (by omega)
      have HF : Hid (false = R) := by
       show _ = _
       have e1 : lexK l c i y ks = Q := by rw [HX.out.1, HDR.out, lexK_take (by rw [HQ.out]; omega), HQ.out]
       rw [← HRR.out, e1, g1]
      rw [g2] at CG
      go_wp2_with fail
      refine (CF W3).mono ?_
      rintro e w9 ⟨rfl, e9⟩
      clear m0 m1 m2 m3 m4 n0 n1 n2 n3 n4 kd CF
      obtain ⟨m0, m1, m2, m3, m4⟩ := Vec.five (VA3.later e9)
      obtain ⟨n0, n1, n2, n3, n4⟩ := Vec.five (VB3.later e9)
      go_wp2_with fail
      refine (CG w9).mono ?_
      rintro e w8 ⟨rfl, e8⟩
      clear m0 m1 m2 m3 m4 n0 n1 n2 n3 n4 CG
      go_wp2_with fail
      go_ret
      exact ⟨ret_bool HF.out, xt YW (xt e9 e8)⟩
     ·
      have g2 : decide (-Q < 0) = false := decide_eq_false (by omega)
      rw [g2] at CG
      go_wp2_with fail
      refine (CF W3).mono ?_
      rintro e w9 ⟨rfl, e9⟩
      clear m0 m1 m2 m3 m4 n0 n1 n2 n3 n4 kd CF
      obtain ⟨m0, m1, m2, m3, m4⟩ := Vec.five (VA3.later e9)
      obtain ⟨n0, n1, n2, n3, n4⟩ := Vec.five (VB3.later e9)
      go_wp2_with fail
      refine (CG w9).mono ?_
      rintro e w8 ⟨rfl, e8⟩
      clear m0 m1 m2 m3 m4 n0 n1 n2 n3 n4 CG
      have HN : Hid (lexK l c i y ks = lexK l c i y (ks.drop (k + 1)) ∧ Ext u0 w8) := ⟨by rw [HX.out.1, HDR.out, lexK_skip (by rw [HQ.out]; omega)], xt HX.out.2 (xt E3 (xt e9 e8))⟩
      go_wp2_with fail
      go_roundw
      case rel => exact ⟨k + 1, by go_num, by omega, HN⟩
      case measure => simp [intOf]; omega
   ·
    skip
    have CF := CTT.out (-1) (by decide)
    have CG := CUU.out (-1) (by decide)
    obtain ⟨Q, hQ⟩ : ∃ Q, standB (cel l (i * c + j)) (cel l (y * c + j)) (-1) = Q := ⟨_, rfl⟩
    have hQ2 : standB (cel l (y * c + j)) (cel l (i * c + j)) (-1) = -Q := by rw [stand_swap (HGD.out _) (HGD.out _), hQ]
    have HQ : Hid (standB (celK l c i ⟨(zn : Int), true⟩) (celK l c y ⟨(zn : Int), true⟩) (sgnK ⟨(zn : Int), true⟩) = Q) := by show _ = _; rw [HCE.out, HCE.out]; exact hQ
    rw [hQ] at CF
    rw [hQ2] at CG
    rw [hA, hB] at CF CG
    clear hQ hQ2
    by_cases hQ0 : Q < 0
    ·
     have g1 : decide (Q < 0) = true := decide_eq_true hQ0
     have HF : Hid (true = R) := by
      show _ = _
      have e1 : lexK l c i y ks = Q := by rw [HX.out.1, HDR.out, lexK_take (by rw [HQ.out]; omega), HQ.out]
      rw [← HRR.out, e1, g1]
     rw [g1] at CF
     go_wp2_with fail
     refine (CF _).mono ?_
     rintro e w9 ⟨rfl, e9⟩
     clear m0 m1 m2 m3 m4 n0 n1 n2 n3 n4
     go_wp2_with fail
     go_ret
     exact ⟨ret_bool HF.out, xt YW e9⟩
    ·
     have g1 : decide (Q < 0) = false := decide_eq_false hQ0
     rw [g1] at CF
     by_cases hQ1 : 0 < Q
     ·
      have g2 : decide (-Q < 0) = true := decide_eq_true (by omega)
      have HF : Hid (false = R) := by
       show _ = _
       have e1 : lexK l c i y ks = Q := by rw [HX.out.1, HDR.out, lexK_take (by rw [HQ.out]; omega), HQ.out]
       rw [← HRR.out, e1, g1]
      rw [g2] at CG
      go_wp2_with fail
      refine (CF W3).mono ?_
      rintro e w9 ⟨rfl, e9⟩
      clear m0 m1 m2 m3 m4 n0 n1 n2 n3 n4 kd CF
      obtain ⟨m0, m1, m2, m3, m4⟩ := Vec.five (VA3.later e9)
      obtain ⟨n0, n1, n2, n3, n4⟩ := Vec.five (VB3.later e9)
      go_wp2_with fail
      refine (CG w9).mono ?_
      rintro e w8 ⟨rfl, e8⟩
      clear m0 m1 m2 m3 m4 n0 n1 n2 n3 n4 CG
      go_wp2_with fail
      go_ret
      exact ⟨ret_bool HF.out, xt YW (xt e9 e8)⟩
     ·
      have g2 : decide (-Q < 0) = false := decide_eq_false (by omega)
      rw [g2] at CG
      go_wp2_with fail
      refine (CF W3).mono ?_
      rintro e w9 ⟨rfl, e9⟩
      clear m0 m1 m2 m3 m4 n0 n1 n2 n3 n4 kd CF
      obtain ⟨m0, m1, m2, m3, m4⟩ := Vec.five (VA3.later e9)
      obtain ⟨n0, n1, n2, n3, n4⟩ := Vec.five (VB3.later e9)
      go_wp2_with fail
      refine (CG w9).mono ?_
      rintro e w8 ⟨rfl, e8⟩
      clear m0 m1 m2 m3 m4 n0 n1 n2 n3 n4 CG
      have HN : Hid (lexK l c i y ks = lexK l c i y (ks.drop (k + 1)) ∧ Ext u0 w8) := ⟨by rw [HX.out.1, HDR.out, lexK_skip (by rw [HQ.out]; omega)], xt HX.out.2 (xt E3 (xt e9 e8))⟩
      go_wp2_with fail
      go_roundw
      case rel => exact ⟨k + 1, by go_num, by omega, HN⟩
      case measure => simp [intOf]; omega
  ·
   obtain rfl : k = LK := by omega
   have i2 : ¬ (k : Int) < (k : Int) := by omega
   have HF : Hid (false = R) := by
    show _ = _
    rw [← HRR.out, HX.out.1, List.drop_of_length_le (by rw [HL.out]; exact Nat.le_refl _)]
    rfl
   go_wp2_with fail
   go_ret
   exact ⟨ret_bool HF.out, xt X0 HX.out.2⟩

end Go.Proofs.YtlofnhhoopefcaaGreatDoor

