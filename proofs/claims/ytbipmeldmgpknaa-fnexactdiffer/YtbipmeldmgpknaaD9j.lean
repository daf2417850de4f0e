/-
  Chapter 9: the law of Differ.
-/
import Derived.Test.YtbipmeldmgpknaaD9h
import Derived.Test.YtbipmeldmgpknaaD9i
namespace Go.Proofs.Ytbipmeldmgpknaa
open Go.RowKit

theorem diffS_len : ∀ (a b : List ST), (diffS a b).length ≤ a.length + b.length
  | [], [] => by rw [diffS]; simp
  | a :: az, [] => by
    rw [diffS, List.length_append]
    have := diffS_len az []
    have h : (keepS a (nullAt a.r a.c)).length ≤ 1 := by unfold keepS; split <;> simp
    simp at this ⊢
    omega
  | [], b :: bs => by
    rw [diffS, List.length_append]
    have := diffS_len [] bs
    have h : (keepS (nullAt b.r b.c) b).length ≤ 1 := by unfold keepS; split <;> simp
    simp at this ⊢
    omega
  | a :: az, b :: bs => by
    have k : ∀ x y, (keepS x y).length ≤ 1 := fun x y => by unfold keepS; split <;> simp
    rw [diffS]
    split
    · have := diffS_len (a :: az) bs
      have := k (nullAt b.r b.c) b
      rw [List.length_append]
      simp at *
      omega
    · split
      · have := diffS_len az (b :: bs)
        have := k a (nullAt a.r a.c)
        rw [List.length_append]
        simp at *
        omega
      · have := diffS_len az bs
        have := k a b
        rw [List.length_append]
        simp at *
        omega
  termination_by a b => a.length + b.length
def diffR (A B : List ST) : List ST := if risB A && risB B then diffS A B else []
theorem diffR_len (A B : List ST) : (diffR A B).length ≤ A.length + B.length := by
  unfold diffR
  split
  · exact diffS_len A B
  · simp
theorem own_other {w : World} {base : Nat} {v : Value} {l : List ST} (h : OwnR w base v l) {s : Nat} (hs : w.heap.size ≤ s) : ∀ g, v.ownBlock = some g → g < s := fun g hg => Nat.lt_of_lt_of_le (ownR_lt h g hg) hs
theorem ext_mark {a w u : World} {v : Value} {n : Nat} (X : Ext a w) (g : w.grownBy u (if n = 0 then none else v.ownBlock)) (hv : ∀ r, v.ownBlock = some r → a.heap.size ≤ r) : Ext a u :=
  X.grown g X.size (fun r hr => hv r (row_own hr).2)

set_option maxRecDepth 8000 in
set_option maxHeartbeats 8000000 in
theorem lawDiffer (va vb : Value) (A B : List ST) (w : World) (ha : ShownsIn w va A) (hb : ShownsIn w vb B) (la : A.length ≤ 9223372036854775807) (lb : B.length ≤ 9223372036854775807) (ta : ∀ e ∈ A, e.t.length ≤ 9223372036854775807) (tb : ∀ e ∈ B, e.t.length ≤ 9223372036854775807) (ia : ∀ e ∈ A, InS e) (ib : ∀ e ∈ B, InS e) :
    Calls Try.prog 3 #[va, vb] w fun e w' => e = .returned (.bool true) ∧ Ext w w' := by
  go_enter Try.func3, Try.ntmps3
  go_wp2_with fail
  refine (szShowns va A 1048576 w ha (by omega) (by omega) la ta).mono ?_
  rintro e w1 ⟨⟨z, rfl, z0, z1, hz⟩, X1⟩
  by_cases hn : z < 0
  · clear hz
    go_wp2_with fail
    go_ret
    exact ⟨rfl, X1⟩
  obtain ⟨hl1, _⟩ := hz (by omega)
  clear hz la ta
  have CZ := szShowns vb B z w1 (hb.later X1) (by omega) (by omega) lb tb
  clear lb tb
  go_wp2_with fail
  refine CZ.mono ?_
  rintro e w2 ⟨⟨y, rfl, y0, y1, hy⟩, E2⟩
  have X2 := xt X1 E2
  clear CZ X1 E2
  by_cases hm : y < 0
  · clear hy
    go_wp2_with fail
    go_ret
    exact ⟨rfl, X2⟩
  obtain ⟨hl2, _⟩ := hy (by omega)
  have la : A.length ≤ 1048576 := by omega
  have lb : B.length ≤ 1048576 := by omega
  clear hy hl1 hl2 z0 z1 y1
  obtain ⟨na, hna⟩ : ∃ n, A.length = n := ⟨_, rfl⟩
  obtain ⟨nb, hnb⟩ : ∃ n, B.length = n := ⟨_, rfl⟩
  obtain ⟨D, hD⟩ : ∃ D, diffR A B = D := ⟨_, rfl⟩
  obtain ⟨nd, hnd⟩ : ∃ n, D.length = n := ⟨_, rfl⟩
  have ld : nd ≤ 2097152 := by have := diffR_len A B; rw [hD] at this; omega
  have ND : Hid (D.length = nd) := hnd
  have TA : Hid (∀ W, Ext w W → Calls Try.prog 6 #[va] W fun e w' => (∃ g, e = .returned (.slice (some ⟨g, 0, none⟩) na na) ∧ W.heap.size ≤ g ∧ OwnS w' g A) ∧ Ext W w') := fun W x => by have := toShowns va A W (ha.later x) (by omega); rw [hna] at this; exact this
  have TB : Hid (∀ W, Ext w W → Calls Try.prog 6 #[vb] W fun e w' => (∃ g, e = .returned (.slice (some ⟨g, 0, none⟩) nb nb) ∧ W.heap.size ≤ g ∧ OwnS w' g B) ∧ Ext W w') := fun W x => by have := toShowns vb B W (hb.later x) (by omega); rw [hnb] at this; exact this
  have SA : Hid (∀ W g, OwnS W g A → ShownsIn W (.slice (some ⟨g, 0, none⟩) na na) A) := fun W g o => by have := o.slice; rw [hna] at this; exact this
  have SB : Hid (∀ W g, OwnS W g B → ShownsIn W (.slice (some ⟨g, 0, none⟩) nb nb) B) := fun W g o => by have := o.slice; rw [hnb] at this; exact this
  have XA : Hid (∀ W g, OwnS W g A → RowX W (.slice (some ⟨g, 0, none⟩) na na) na (flatS A)) := fun W g o => RowX.of_own o hna
  have XB : Hid (∀ W g, OwnS W g B → RowX W (.slice (some ⟨g, 0, none⟩) nb nb) nb (flatS B)) := fun W g o => RowX.of_own o hnb
  have XD : Hid (∀ W base v, OwnR W base v D → RowX W v nd (flatS D)) := fun W base v o => by have := RowX.of_row o; rw [hnd] at this; exact this
  have SD : Hid (∀ W v, RowX W v nd (flatS D) → ShownsIn W v D) := fun W v r => by rw [← hnd] at r; exact r.showns
  have CS : Hid (∀ W v1 v2, ShownsIn W v1 A → ShownsIn W v2 B → Calls Try.prog 5 #[v1, v2] W fun e w' => (∃ v, e = .returned v ∧ OwnR w' W.heap.size v D) ∧ Ext W w') := fun W v1 v2 h1 h2 => by rw [← hD]; exact differS v1 v2 A B W h1 h2 la lb
  have CI : Hid (∀ W v1 v2, ShownsIn W v1 A → ShownsIn W v2 B → Calls Try.prog 7 #[v1, v2] W fun e w' => (∃ v, e = .returned v ∧ OwnR w' W.heap.size v D) ∧ Ext W w') := fun W v1 v2 h1 h2 => by rw [← hD]; exact differI v1 v2 A B W h1 h2 la lb ia ib
  have EA := fun (v1 v2 : Value) W (x1 : ShownsIn W v1 A) (x2 : ShownsIn W v2 A) => eqShowns v1 v2 A W x1 x2 (by omega)
  have EB := fun (v1 v2 : Value) W (x1 : ShownsIn W v1 B) (x2 : ShownsIn W v2 B) => eqShowns v1 v2 B W x1 x2 (by omega)
  have ED := fun (v1 v2 : Value) W (x1 : ShownsIn W v1 D) (x2 : ShownsIn W v2 D) => eqShowns v1 v2 D W x1 x2 (by rw [hnd]; omega)
  have la' : na ≤ 1048576 := by omega
  have lb' : nb ≤ 1048576 := by omega
  clear hna hnb hD hnd ha hb la lb ia ib
  -- the specification
  go_wp2_with fail
  refine (TA.out w2 X2).mono ?_
  rintro e w3 ⟨⟨g1, rfl, _, O1⟩, E3⟩
  have X3 := xt X2 E3
  clear X2
  go_wp2_with fail
  refine (TB.out w3 X3).mono ?_
  rintro e w4 ⟨⟨g2, rfl, _, O2⟩, E4⟩
  have X4 := xt X3 E4
  have O1 := O1.later E4
  clear X3 E3 E4
  go_wp2_with fail
  refine (CS.out w4 _ _ (SA.out _ _ O1) (SB.out _ _ O2)).mono ?_
  rintro e w5 ⟨⟨v0, rfl, V0⟩, E5⟩
  have X5 := xt X4 E5
  have R0 := XD.out _ _ _ V0
  have lt0 := ownR_lt V0
  clear X4 E5 O1 O2 CS V0
  -- the program
  go_wp2_with fail
  refine (TA.out w5 X5).mono ?_
  rintro e w6 ⟨⟨g3, rfl, l3, O3⟩, E6⟩
  have X6 := xt X5 E6
  have R0 := R0.later E6
  have s6 := E6.size
  have s5 := X5.size
  clear X5 E6
  go_wp2_with fail
  refine (TB.out w6 X6).mono ?_
  rintro e w7 ⟨⟨g4, rfl, l4, O4⟩, E7⟩
  have X7 := xt X6 E7
  have R0 := R0.later E7
  have RA3 := XA.out _ _ O3
  have lt3 : 0 < na → g3 < w6.heap.size := fun h0 => RA3.lt h0 g3 rfl
  have RA3 := RA3.later E7
  have O3 := O3.later E7
  have RB4 := XB.out _ _ O4
  have lt4 : 0 < nb → g4 < w7.heap.size := fun h0 => RB4.lt h0 g4 rfl
  have s7 := E7.size
  clear X6 E7
  go_wp2_with fail
  refine (CI.out w7 _ _ (SA.out _ _ O3) (SB.out _ _ O4)).mono ?_
  rintro e w8 ⟨⟨v1, rfl, V1⟩, E8⟩
  have X8 := xt X7 E8
  have R0 := R0.later E8
  have RA3 := RA3.later E8
  have RB4 := RB4.later E8
  have O3 := O3.later E8
  have O4 := O4.later E8
  have R1 := XD.out _ _ _ V1
  have ge1 := ownR_block V1
  have sz7 := X7.size
  clear X7 E8 V1
  go_wp2_with fail
  refine (ED _ _ w8 (SD.out _ _ R1) (SD.out _ _ R0)).mono ?_
  rintro e w9 ⟨rfl, E9⟩
  have X9 := xt X8 E9
  have R0 := R0.later E9
  have R1 := R1.later E9
  have RA3 := RA3.later E9
  have RB4 := RB4.later E9
  have O3 := O3.later E9
  have O4 := O4.later E9
  clear X8 E9
  -- the arguments
  go_wp2_with fail
  refine (TA.out w9 X9).mono ?_
  rintro e w10 ⟨⟨g5, rfl, _, O5⟩, E10⟩
  have X10 := xt X9 E10
  have R0 := R0.later E10
  have R1 := R1.later E10
  have RA3 := RA3.later E10
  have RB4 := RB4.later E10
  have O3 := O3.later E10
  have O4 := O4.later E10
  clear X9 E10
  go_wp2_with fail
  refine (EA _ _ w10 (SA.out _ _ O3) (SA.out _ _ O5)).mono ?_
  rintro e w11 ⟨rfl, E11⟩
  have X11 := xt X10 E11
  have R0 := R0.later E11
  have R1 := R1.later E11
  have RA3 := RA3.later E11
  have RB4 := RB4.later E11
  have O4 := O4.later E11
  clear X10 E11 O3 O5
  go_wp2_with fail
  refine (TB.out w11 X11).mono ?_
  rintro e w12 ⟨⟨g6, rfl, _, O6⟩, E12⟩
  have X12 := xt X11 E12
  have R0 := R0.later E12
  have R1 := R1.later E12
  have RA3 := RA3.later E12
  have RB4 := RB4.later E12
  have O4 := O4.later E12
  clear X11 E12
  go_wp2_with fail
  refine (EB _ _ w12 (SB.out _ _ O4) (SB.out _ _ O6)).mono ?_
  rintro e w13 ⟨rfl, E13⟩
  have X13 := xt X12 E13
  have R0 := R0.later E13
  have R1 := R1.later E13
  have RA3 := RA3.later E13
  have RB4 := RB4.later E13
  clear X12 E13 O4 O6 EA EB
  -- the marks
  have MA := markShowns _ na _ 1 w13 RA3 (by omega) (by omega) (by omega)
  go_wp2_with fail
  refine MA.mono ?_
  rintro e w14 ⟨rfl, _, G14⟩
  have X14 := ext_mark X13 G14 (fun r hr => by have hr : g3 = r := Option.some.inj hr; omega)
  have R0 := R0.keep G14 (fun g _ hg q => by obtain ⟨p1, p2⟩ := row_own q.symm; cases p2; have := lt0 g3 hg; omega)
  have R1 := R1.keep G14 (fun g _ hg q => by obtain ⟨p1, p2⟩ := row_own q.symm; cases p2; have := ge1 g3 hg; have := lt3 p1; omega)
  have RB4 := RB4.keep G14 (fun g h0 hg q => by obtain ⟨p1, p2⟩ := row_own q.symm; cases p2; cases hg; have := lt3 p1; omega)
  clear MA G14 X13 RA3
  obtain ⟨k3, hk3⟩ : ∃ k : Nat, 1 + na * 8 = k := ⟨_, rfl⟩
  rw [hk3]
  have MB := markShowns _ nb _ k3 w14 RB4 (by omega) (by omega) (by omega)
  go_wp2_with fail
  refine MB.mono ?_
  rintro e w15 ⟨rfl, _, G15⟩
  have X15 := ext_mark X14 G15 (fun r hr => by have hr : g4 = r := Option.some.inj hr; omega)
  have R0 := R0.keep G15 (fun g _ hg q => by obtain ⟨p1, p2⟩ := row_own q.symm; cases p2; have := lt0 g4 hg; omega)
  have R1 := R1.keep G15 (fun g _ hg q => by obtain ⟨p1, p2⟩ := row_own q.symm; cases p2; have := ge1 g4 hg; have := lt4 p1; omega)
  clear MB G15 X14 RB4
  obtain ⟨k4, hk4⟩ : ∃ k : Nat, k3 + nb * 8 = k := ⟨_, rfl⟩
  rw [hk4]
  have k40 : ¬ ((k4 : Int) < 0) := by omega
  go_wp2_with fail
  refine (ED _ _ w15 (SD.out _ _ R1) (SD.out _ _ R0)).mono ?_
  rintro e w16 ⟨rfl, E16⟩
  have X16 := xt X15 E16
  have R0 := R0.later E16
  have R1 := R1.later E16
  clear X15 E16 hk3 hk4
  -- the answer
  have MD := markShowns _ nd _ 1 w16 R1 (by omega) (by omega) (by omega)
  go_wp2_with fail
  refine MD.mono ?_
  rintro e w17 ⟨rfl, ⟨M, RM, HM⟩, G17⟩
  have X17 := ext_mark X16 G17 (fun r hr => by have := ge1 r hr; omega)
  have R0 := R0.keep G17 (fun g _ hg q => by obtain ⟨p1, p2⟩ := row_own q.symm; have := ge1 g p2; have := lt0 g hg; omega)
  clear MD G17 X16 R1
  obtain ⟨kd, hkd⟩ : ∃ k : Nat, 1 + nd * 8 = k := ⟨_, rfl⟩
  have HD := fun W (r : RowX W v1 nd M) => heldShowns _ nd M 1 W r HM (by omega) (by omega) (by omega)
  rw [hkd] at HD ⊢
  have kd0 : ¬ ((kd : Int) < 0) := by omega
  go_wp2_with fail
  refine (HD w17 RM).mono ?_
  rintro e w18 ⟨rfl, E18⟩
  have X18 := xt X17 E18
  have R0 := R0.later E18
  have RM := RM.later E18
  clear X17 E18 HM
  go_wp2_with fail
  refine (TA.out w18 X18).mono ?_
  rintro e w19 ⟨⟨g7, rfl, _, O7⟩, E19⟩
  have X19 := xt X18 E19
  have R0 := R0.later E19
  have RM := RM.later E19
  clear X18 E19
  go_wp2_with fail
  refine (TB.out w19 X19).mono ?_
  rintro e w20 ⟨⟨g8, rfl, _, O8⟩, E20⟩
  have X20 := xt X19 E20
  have R0 := R0.later E20
  have RM := RM.later E20
  have O7 := O7.later E20
  clear X19 E20
  go_wp2_with fail
  refine (CI.out w20 _ _ (SA.out _ _ O7) (SB.out _ _ O8)).mono ?_
  rintro e w21 ⟨⟨v2, rfl, V2⟩, E21⟩
  have X21 := xt X20 E21
  have R0 := R0.later E21
  have RM := RM.later E21
  have R2 := XD.out _ _ _ V2
  clear X20 E21 O7 O8 V2
  go_wp2_with fail
  refine (ED _ _ w21 (SD.out _ _ R2) (SD.out _ _ R0)).mono ?_
  rintro e w22 ⟨rfl, E22⟩
  have X22 := xt X21 E22
  have RM := RM.later E22
  clear X21 E22 R0 R2
  go_wp2_with fail
  refine (HD w22 RM).mono ?_
  rintro e w23 ⟨rfl, E23⟩
  have X23 := xt X22 E23
  clear X22 E23 RM HD
  go_wp2_with fail
  go_ret
  exact ⟨rfl, X23⟩

end Go.Proofs.Ytbipmeldmgpknaa
