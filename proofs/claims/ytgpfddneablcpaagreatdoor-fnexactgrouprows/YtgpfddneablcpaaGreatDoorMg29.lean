/-
  Several texts in one: E3, E4.
-/
import Derived.Test.YtgpfddneablcpaaGreatDoorMg23
import Derived.Test.YtgpfddneablcpaaGreatDoorQl
import Derived.Shelf.Abstract
namespace Go.Proofs.YtgpfddneablcpaaGreatDoor
open Go.RowKit

set_option maxRecDepth 8000 in
set_option maxHeartbeats 2000000 in
theorem rankI (a b : VT) (w : World) (ha : a.room) (hb : b.room) (hT : Tens w) (hE : ErrTab w) :
  Calls Tryz.prog 47 #[a.val, b.val] w fun e w' => e = .returned (.int .i64 (rankB a b)) ∧ Ext w w' := by
 have CS : Hid (∀ W, Ext w W → Calls Tryz.prog 75 #[a.val, b.val, .int .i64 1] W fun e w' => e = .returned (.int .i64 (standB a b 1)) ∧ Ext W w') := fun W hW => standI a b 1 (Or.inl rfl) W ha hb (hT.later hW) (hE.later hW)
 have HL : Hid (rankB a b = if a.k = 4 ∧ b.k = 4 then Lib.compareBytes a.t b.t else standB a b 1) := rfl
 obtain ⟨k, n, d, x, t⟩ := a
 obtain ⟨k', n', d', x', t'⟩ := b
 have CC := fun W => strCmpI t t' W
 obtain ⟨u0, u1, h0, h1, s0, s1, B0, B1, X⟩ := mkB2 w (valL k n d x t) (valL k' n' d' x' t') 51 51
 obtain ⟨S, hS⟩ : ∃ S, standB ⟨k, n, d, x, t⟩ ⟨k', n', d', x', t'⟩ 1 = S := ⟨_, rfl⟩
 obtain ⟨R, hR⟩ : ∃ R, Lib.compareBytes t t' = R := ⟨_, rfl⟩
 obtain ⟨Q, hQ⟩ : ∃ Q, rankB ⟨k, n, d, x, t⟩ ⟨k', n', d', x', t'⟩ = Q := ⟨_, rfl⟩
 simp only at HL
 rw [hS] at CS HL
 rw [hR] at CC HL
 rw [hQ] at HL ⊢
 have CE := fun W => isErrI k n d x t W
 have CF := fun W => isErrI k' n' d' x' t' W
 clear hS hR hQ hT hE ha hb
 obtain ⟨a0, a1, a2, a3, a4⟩ := Vec.five B0
 obtain ⟨b0, b1, b2, b3, b4⟩ := Vec.five B1
 by_cases hk : k = 4
 ·
  rw [decide_eq_true hk] at CE
  by_cases hk' : k' = 4
  ·
   have HF : Hid (R = Q) := by show _ = _; rw [HL.out, if_pos ⟨hk, hk'⟩]
   rw [decide_eq_true hk'] at CF
   subst hk hk'
   clear HL CS
   go_enter Tryz.func47, Tryz.ntmps47
   go_wp2_with fail
   refine (CE _).mono ?_
   rintro e w1 ⟨rfl, e1⟩
   obtain ⟨a0, a1, a2, a3, a4⟩ := Vec.five (B0.later e1)
   obtain ⟨b0, b1, b2, b3, b4⟩ := Vec.five (B1.later e1)
   go_wp2_with fail
   refine (CF _).mono ?_
   rintro e w2 ⟨rfl, e2⟩
   obtain ⟨a0, a1, a2, a3, a4⟩ := Vec.five (B0.later (xt e1 e2))
   obtain ⟨b0, b1, b2, b3, b4⟩ := Vec.five (B1.later (xt e1 e2))
   go_wp2_with fail
   refine (CC _).mono ?_
   rintro e w3 ⟨rfl, rfl⟩
   go_wp2_with fail
   go_ret
   exact ⟨ret_int HF.out, xt X (xt e1 e2)⟩
  ·
   have HF : Hid (S = Q) := by show _ = _; rw [HL.out, if_neg (fun q => hk' q.2)]
   rw [decide_eq_false hk'] at CF
   subst hk
   clear HL CC
   go_enter Tryz.func47, Tryz.ntmps47
   go_wp2_with fail
   refine (CE _).mono ?_
   rintro e w1 ⟨rfl, e1⟩
   obtain ⟨a0, a1, a2, a3, a4⟩ := Vec.five (B0.later e1)
   obtain ⟨b0, b1, b2, b3, b4⟩ := Vec.five (B1.later e1)
   go_wp2_with fail
   refine (CF _).mono ?_
   rintro e w2 ⟨rfl, e2⟩
   obtain ⟨a0, a1, a2, a3, a4⟩ := Vec.five (B0.later (xt e1 e2))
   obtain ⟨b0, b1, b2, b3, b4⟩ := Vec.five (B1.later (xt e1 e2))
   have C0 := CS.out w2 (xt X (xt e1 e2))
   go_wp2_with fail
   refine C0.mono ?_
   rintro e w3 ⟨rfl, e3⟩
   go_wp2_with fail
   go_ret
   exact ⟨ret_int HF.out, xt X (xt (xt e1 e2) e3)⟩
 ·
  have HF : Hid (S = Q) := by show _ = _; rw [HL.out, if_neg (fun q => hk q.1)]
  rw [decide_eq_false hk] at CE
  clear HL CC
  go_enter Tryz.func47, Tryz.ntmps47
  go_wp2_with fail
  refine (CE _).mono ?_
  rintro e w1 ⟨rfl, e1⟩
  obtain ⟨a0, a1, a2, a3, a4⟩ := Vec.five (B0.later e1)
  obtain ⟨b0, b1, b2, b3, b4⟩ := Vec.five (B1.later e1)
  have C0 := CS.out w1 (xt X e1)
  go_wp2_with fail
  refine C0.mono ?_
  rintro e w3 ⟨rfl, e3⟩
  go_wp2_with fail
  go_ret
  exact ⟨ret_int HF.out, xt X (xt e1 e3)⟩

theorem enter_rank : ∀ ar w, (callFunc 47 ar).run Tryz.prog w = .ok (.enter 47 ar) w := fun ar w => by kernel_rfl
theorem lexG_step {la lb : List VT} {k : Nat} {a b : VT} (ha : la[k]? = some a) (hb : lb[k]? = some b) : lexG (la.drop k) (lb.drop k) = if rankB a b ≠ 0 then rankB a b else lexG (la.drop (k + 1)) (lb.drop (k + 1)) := by
 obtain ⟨h1, rfl⟩ := List.getElem?_eq_some_iff.1 ha
 obtain ⟨h2, rfl⟩ := List.getElem?_eq_some_iff.1 hb
 rw [List.drop_eq_getElem_cons h1, List.drop_eq_getElem_cons h2]
 rfl
theorem lexG_more {la lb : List VT} {k : Nat} (h1 : k < la.length) (h2 : lb.length ≤ k) : lexG (la.drop k) (lb.drop k) = 1 := by
 rw [List.drop_eq_getElem_cons h1, List.drop_eq_nil_of_le h2]
 rfl
theorem lexG_less {la lb : List VT} {k : Nat} (h1 : la.length ≤ k) (h2 : k < lb.length) : lexG (la.drop k) (lb.drop k) = -1 := by
 rw [List.drop_eq_getElem_cons h2, List.drop_eq_nil_of_le h1]
 rfl
theorem lexG_end {la lb : List VT} {k : Nat} (h1 : la.length ≤ k) (h2 : lb.length ≤ k) : lexG (la.drop k) (lb.drop k) = 0 := by
 rw [List.drop_eq_nil_of_le h1, List.drop_eq_nil_of_le h2]
 rfl
set_option maxRecDepth 8000 in
set_option maxHeartbeats 4000000 in
theorem cmpListI (va vb : Value) (la lb : List VT) (w : World) (ha : ValsIn w va la) (hb : ValsIn w vb lb) (ra : ∀ e ∈ la, e.room) (rb : ∀ e ∈ lb, e.room) (l1 : la.length ≤ 2000) (l2 : lb.length ≤ 2000) (hT : Tens w) (hE : ErrTab w) :
  Calls Tryz.prog 46 #[va, vb, .func (.func 47) #[] #[]] w fun e w' => e = .returned (.int .i64 (lexG la lb)) ∧ Ext w w' := by
 have CR : Hid (∀ a b W, Ext w W → a ∈ la → b ∈ lb → Calls Tryz.prog 47 #[a.val, b.val] W fun e w' => e = .returned (.int .i64 (rankB a b)) ∧ Ext W w') := fun a b W hW h1 h2 => rankI a b W (ra a h1) (rb b h2) (hT.later hW) (hE.later hW)
 obtain ⟨pa, ca, rfl, hca, hra⟩ := ha
 obtain ⟨pb, cb, rfl, hcb, hrb⟩ := hb
 have HA : Hid (0 < la.length → ∃ b o, pa = some ⟨b, o, none⟩ ∧ RowV w b o la) := hra
 have HB : Hid (0 < lb.length → ∃ b o, pb = some ⟨b, o, none⟩ ∧ RowV w b o lb) := hrb
 obtain ⟨n, hn⟩ : ∃ n, la.length = n := ⟨_, rfl⟩
 obtain ⟨m, hm⟩ : ∃ m, lb.length = m := ⟨_, rfl⟩
 have HN : Hid (la.length = n ∧ lb.length = m) := ⟨hn, hm⟩
 rw [hn] at hca l1 HA ⊢
 rw [hm] at hcb l2 HB ⊢
 obtain ⟨Q, hQ⟩ : ∃ Q, lexG la lb = Q := ⟨_, rfl⟩
 have HQ : Hid (lexG (la.drop 0) (lb.drop 0) = Q) := hQ
 rw [hQ]
 have ent := enter_rank
 clear hra hrb hn hm hQ ra rb hT hE
 go_enter Tryz.func46, Tryz.ntmps46
 go_wp2_with fail
 go_loopw [13] (fun i wr => ∃ k : Nat, k ≤ n ∧ k ≤ m ∧ i = .int .i64 k ∧ Hid (Ext w wr ∧ lexG (la.drop k) (lb.drop k) = Q)) (fun i _ => n - (intOf i).toNat)
 case atStart => exact ⟨0, by omega, by omega, rfl, xr _, HQ.out⟩
 case round =>
  obtain ⟨k, hk, hk2, rfl, HO⟩ := hrel
  by_cases hlt : k < n
  ·
   have i2 : (k : Int) < (n : Int) := by omega
   obtain ⟨⟨vk, vn, vd, vx, vt⟩, hx⟩ : ∃ x, la[k]? = some x := ⟨_, List.getElem?_eq_getElem (by rw [HN.out.1]; exact hlt)⟩
   obtain ⟨b, o, rfl, RW⟩ := HA.out (by omega)
   obtain ⟨a0, a1, a2, a3, a4⟩ := (RW.later HO.out.1).five hx
   simp only at a0 a1 a2 a3 a4
   by_cases hlm : k < m
   ·
    have i3 : ¬ (k : Int) ≥ (m : Int) := by omega
    have i4 : (k : Int) < (m : Int) := by omega
    obtain ⟨⟨uk, un, ud, ux, ut⟩, hy⟩ : ∃ x, lb[k]? = some x := ⟨_, List.getElem?_eq_getElem (by rw [HN.out.2]; exact hlm)⟩
    obtain ⟨b', o', rfl, RW'⟩ := HB.out (by omega)
    have HS : Hid (lexG (la.drop k) (lb.drop k) = if rankB ⟨vk, vn, vd, vx, vt⟩ ⟨uk, un, ud, ux, ut⟩ ≠ 0 then rankB ⟨vk, vn, vd, vx, vt⟩ ⟨uk, un, ud, ux, ut⟩ else lexG (la.drop (k + 1)) (lb.drop (k + 1))) := lexG_step hx hy
    have CC := fun W hW => CR.out ⟨vk, vn, vd, vx, vt⟩ ⟨uk, un, ud, ux, ut⟩ W hW (List.mem_of_getElem? hx) (List.mem_of_getElem? hy)
    obtain ⟨R, hR⟩ : ∃ R, rankB ⟨vk, vn, vd, vx, vt⟩ ⟨uk, un, ud, ux, ut⟩ = R := ⟨_, rfl⟩
    rw [hR] at HS CC
    obtain ⟨u0, u1, e0, e1, z0, z1, B0, B1, X⟩ := mkB2 wr (valL vk vn vd vx vt) (valL uk un ud ux ut) 51 51
    have X0 : Ext wr u0 := by rw [← e0]; exact x1 wr _
    obtain ⟨b0, b1, b2, b3, b4⟩ := (RW'.later (xt HO.out.1 X0)).five hy
    simp only at b0 b1 b2 b3 b4
    obtain ⟨c0, c1, c2, c3, c4⟩ := Vec.five B0
    obtain ⟨d0, d1, d2, d3, d4⟩ := Vec.five B1
    have C0 := CC u1 (xt HO.out.1 X)
    clear CC hR hx hy RW RW' B0 B1
    by_cases hR0 : R = 0
    ·
     have HM : Hid (lexG (la.drop (k + 1)) (lb.drop (k + 1)) = Q) := by
      have h2 := HS.out
      rw [HO.out.2, if_neg (fun h => h hR0)] at h2
      exact h2.symm
     subst hR0
     go_wp2_with (go_at_fn 47; refine C0.mono ?_; rintro e w1 ⟨rfl, ee⟩)
     have HW : Hid (Ext w w1 ∧ lexG (la.drop (k + 1)) (lb.drop (k + 1)) = Q) := ⟨xt (xt HO.out.1 X) ee, HM.out⟩
     go_roundw
     case rel => exact ⟨k + 1, by omega, by omega, by go_num, HW⟩
     case measure => simp [intOf]; omega
    ·
     have HM : Hid (R = Q) := by
      have h2 := HS.out
      rw [HO.out.2, if_pos hR0] at h2
      exact h2.symm
     have hRb : (R == 0) = false := by simpa using hR0
     go_wp2_with (go_at_fn 47; refine C0.mono ?_; rintro e w1 ⟨rfl, ee⟩)
     go_ret
     exact ⟨ret_int HM.out, xt (xt HO.out.1 X) ee⟩
   ·
    obtain rfl : k = m := by omega
    have i3 : (k : Int) ≥ (k : Int) := by omega
    have HM : Hid ((1 : Int) = Q) := by
     show _ = _
     rw [← HO.out.2]
     exact (lexG_more (by rw [HN.out.1]; exact hlt) (by rw [HN.out.2]; exact Nat.le_refl _)).symm
    have X0 := x1 wr (.cells #[.int .i64 vk, .bool vn, .int .i64 vd, .int .i64 vx, sV vt] 51)
    clear hx RW
    go_wp2_with fail
    go_ret
    exact ⟨ret_int HM.out, xt HO.out.1 X0⟩
  ·
   obtain rfl : k = n := by omega
   have i2 : ¬ (k : Int) < (k : Int) := by omega
   by_cases hlm : k < m
   ·
    have i4 : (k : Int) < (m : Int) := by omega
    have HM : Hid ((-1 : Int) = Q) := by
     show _ = _
     rw [← HO.out.2]
     exact (lexG_less (by rw [HN.out.1]; exact Nat.le_refl _) (by rw [HN.out.2]; exact hlm)).symm
    go_wp2_with fail
    go_ret
    exact ⟨ret_int HM.out, HO.out.1⟩
   ·
    obtain rfl : k = m := by omega
    have HM : Hid ((0 : Int) = Q) := by
     show _ = _
     rw [← HO.out.2]
     exact (lexG_end (by rw [HN.out.1]; exact Nat.le_refl _) (by rw [HN.out.2]; exact Nat.le_refl _)).symm
    go_wp2_with fail
    go_ret
    exact ⟨ret_int HM.out, HO.out.1⟩

end Go.Proofs.YtgpfddneablcpaaGreatDoor

