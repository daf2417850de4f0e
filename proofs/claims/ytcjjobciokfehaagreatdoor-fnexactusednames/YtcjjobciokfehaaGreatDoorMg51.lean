/-
  Several texts in one: Gs9, Un2.
-/
import Derived.Test.YtcjjobciokfehaaGreatDoorGs8
import Derived.Test.YtcjjobciokfehaaGreatDoorMg46
import Derived.Test.YtcjjobciokfehaaGreatDoorN7d
import Derived.Test.YtcjjobciokfehaaGreatDoorUn1
import Derived.Test.YtcjjobciokfehaaGreatDoorMg48
namespace Go.Proofs.YtcjjobciokfehaaGreatDoor
open Go.RowKit

set_option maxRecDepth 8000 in
set_option maxHeartbeats 2000000 in
theorem heldStrsU (v : Value) (n b k0 : Nat) (w : World) (h : TxtsOwn w v (marksT k0 n) b) (hn : n ≤ 3000000) (h1 : 1 ≤ k0) (h2 : k0 ≤ 3000000) :
  Calls Tryz.prog 21 #[v, .int .i64 k0] w fun e w' => e = .returned (.int .i64 ((k0 + n : Nat) : Int)) ∧ Ext w w' := by
 obtain ⟨p, cap, rfl, hcap, hp, V⟩ := h
 rw [marksT_length] at hcap hp ⊢
 by_cases h0 : 0 < n
 ·
  obtain rfl := hp h0
  exact heldStrs b cap n k0 w V hcap hn h1 h2
 ·
  obtain rfl : n = 0 := by omega
  clear hp V
  go_enter Tryz.func21, Tryz.ntmps21
  go_wp2_with fail
  go_loopw [1, 5] (fun a i wr => a = .int .i64 (k0 : Int) ∧ i = .int .i64 0 ∧ Ext w wr) (fun _ _ _ => 0)
  case atStart => exact ⟨rfl, rfl, xr _⟩
  case round =>
   obtain ⟨rfl, rfl, X⟩ := hrel
   go_wp2_with fail
   go_ret
   exact ⟨rfl, X⟩
theorem TxtsOwn.turned {w w' : World} {v : Value} {l : List (List UInt8)} {b lo hi : Nat} (h : TxtsOwn w v l b) (hb : l ≠ [] → b < lo ∨ hi ≤ b) (t : TurnedIn lo hi w w') : TxtsOwn w' v l b := by
 obtain ⟨p, cap, h1, h2, h3, h4⟩ := h
 refine ⟨p, cap, h1, h2, h3, ?_⟩
 cases l with
 | nil => exact fun i u hu => by cases hu
 | cons x l => exact t.vec b _ (hb (by simp)) h4
theorem ownU_ownL {w : World} {base : Nat} {v : Value} {l : List (List UInt8)} (h : OwnU w base v l) : ∃ b, TxtsOwn w v l b ∧ base ≤ b ∧ (l ≠ [] → b < w.heap.size) := by
 rcases h.2 with ⟨rfl, h0⟩ | ⟨g, cap, cur, rfl, h2, h3, h4, h5, h6, h7⟩
 ·
  have hl : l = [] := List.eq_nil_of_length_eq_zero h0
  subst hl
  exact ⟨base, ⟨none, 0, rfl, Nat.le_refl _, fun h => (by cases h), fun i u hu => (by cases hu)⟩, Nat.le_refl _, fun h => absurd rfl h⟩
 ·
  have hg : g < w.heap.size := (ownU_lt h g rfl).2
  obtain ⟨b, hb, h8, h9⟩ := ownU_own h (by omega)
  exact ⟨b, hb, h8, fun _ => h9⟩
theorem OwnN.lt {w : World} {g : Nat} {l : List NT} (h : OwnN w g l) (h0 : l ≠ []) : g < w.heap.size := by
 cases l with
 | nil => exact absurd rfl h0
 | cons x l => exact World.block_lt_of_cell? _ _ (h 0 x rfl 0 _ rfl).1
theorem usedR_len (f : List NT) : (usedR f).length ≤ f.length := by
 unfold usedR
 split
 ·
  have := usedN_len f f.length (Nat.le_refl _)
  rw [List.take_length] at this
  exact this
 ·
  exact Nat.zero_le _
set_option maxRecDepth 8000 in
set_option maxHeartbeats 8000000 in
theorem lawUsedN (v : Value) (f : List NT) (w : World) (h : NodesIn w v f) (hl : f.length ≤ 9223372036854775807) (ht : ∀ e ∈ f, e.t.length ≤ 9223372036854775807) (hd : ∀ e ∈ f, -9223372036854775808 ≤ e.d ∧ e.d ≤ 9223372036854775807) (hT : Tens w) (hE : ErrTab w) (hO : OpTab w) (LW : LibW w) (IT : ItoaC w) :
  Calls Tryz.prog 5 #[v] w fun e w' => e = .returned (.bool true) ∧ Ext w w' := by
 have C0 := szNodes v f 1048576 w h (by omega) (by omega) hl ht
 go_enter Tryz.func5, Tryz.ntmps5
 go_wp2_with fail
 refine C0.mono ?_
 rintro e w1 ⟨⟨z, rfl, z0, z1, hz⟩, e1⟩
 clear C0
 by_cases hn : z < 0
 ·
  clear hz
  go_wp2_with fail
  go_ret
  exact ⟨rfl, e1⟩
 ·
  obtain ⟨hl1, ht1⟩ := hz (by omega)
  have hl2 : f.length ≤ 1048576 := by omega
  have hr : ∀ x ∈ f, x.fits := fun x hx => ⟨by have := ht1 x hx; omega, hd x hx⟩
  have hx : ∀ x ∈ f, x.t.length ≤ 1048576 := fun x hx => (hr x hx).1
  have HTN : Hid (∀ W, Ext w W → Calls Tryz.prog 8 #[v] W fun e w' => (∃ g, e = .returned (.slice (some ⟨g, 0, none⟩) f.length f.length) ∧ W.heap.size ≤ g ∧ OwnN w' g f) ∧ Ext W w') := fun W X => toNodes v f W (h.later X) (by omega)
  have HEQ : Hid (∀ W g g', OwnN W g f → OwnN W g' f → Calls Tryz.prog 10 #[.slice (some ⟨g, 0, none⟩) f.length f.length, .slice (some ⟨g', 0, none⟩) f.length f.length] W fun e w' => e = .returned (.bool true) ∧ Ext W w') := fun W g g' o o' => eqNodes _ _ f W o.nodes o'.nodes (by omega)
  have HUS : Hid (∀ W g, OwnN W g f → Calls Tryz.prog 17 #[.slice (some ⟨g, 0, none⟩) f.length f.length] W fun e w' => UsedPost f W e w') := fun W g o => usedNS _ f W o.nodes hx
  have HUI : Hid (∀ W g, Ext w W → OwnN W g f → Calls Tryz.prog 18 #[.slice (some ⟨g, 0, none⟩) f.length f.length] W fun e w' => UsedPost f W e w') := fun W g X o => usedNI _ f W o.nodes hr hl2 (hT.later X) (hE.later X) (hO.later X) (LW.later X) (IT.laterG X)
  have HMN : Hid (∀ W g, OwnN W g f → Calls Tryz.prog 14 #[.slice (some ⟨g, 0, none⟩) f.length f.length, .int .i64 1] W fun e w' => e = .returned (.int .i64 ((1 + f.length * 14 : Nat) : Int)) ∧ TurnedIn g (g + 1) W w') := fun W g o => markNodes g f.length _ 1 W (flat14_len f) o.vec hl2 (by omega) (by omega)
  have hul := usedR_len f
  unfold UsedPost at HUS HUI
  obtain ⟨l, hL⟩ : ∃ l, usedR f = l := ⟨_, rfl⟩
  rw [hL] at HUS HUI hul
  have hll : l.length ≤ 1048576 := by omega
  have HLF : Hid (l ≠ [] → f ≠ []) := fun h1 h2 => h1 (List.eq_nil_of_length_eq_zero (by rw [h2] at hul; simpa using hul))
  have HQS : Hid (∀ W u u', TxtsIn W u l → TxtsIn W u' l → Calls Tryz.prog 19 #[u, u'] W fun e w' => e = .returned (.bool true) ∧ Ext W w') := fun W u u' a b => eqStrs2 u u' l W a b hll
  have HMS : Hid (∀ W u b, TxtsOwn W u l b → Calls Tryz.prog 20 #[u, .int .i64 1] W fun e w' => e = .returned (.int .i64 ((1 + l.length : Nat) : Int)) ∧ TxtsOwn w' u (marksT 1 l.length) b ∧ TurnedIn b (b + 1) W w') := fun W u b o => markStrs2 u l b 1 W o (by omega) (by omega) (by omega)
  have HHS : Hid (∀ W u b, TxtsOwn W u (marksT 1 l.length) b → Calls Tryz.prog 21 #[u, .int .i64 1] W fun e w' => e = .returned (.int .i64 ((1 + l.length : Nat) : Int)) ∧ Ext W w') := fun W u b o => heldStrsU u l.length b 1 W o (by omega) (by omega) (by omega)
  obtain ⟨n, hn'⟩ : ∃ n, f.length = n := ⟨_, rfl⟩
  rw [hn'] at HTN HEQ HUS HUI HMN hl2
  obtain ⟨q, hq⟩ : ∃ q, 1 + l.length = q := ⟨_, rfl⟩
  obtain ⟨r, hrr⟩ : ∃ r, 1 + n * 14 = r := ⟨_, rfl⟩
  rw [hq] at HMS HHS
  rw [hrr] at HMN
  have hq0 : ¬ (q : Int) < 0 := by omega
  have hr0 : ¬ (r : Int) < 0 := by omega
  clear hL hn' hl ht hd hl1 ht1 hz hl2 hr hx h hT hE hO LW IT hul hll hq hrr
  go_wp2_with fail
  refine (HTN.out w1 e1).mono ?_
  rintro e w2 ⟨⟨g2, rfl, hg2, O2⟩, e2⟩
  have X2 := xt e1 e2
  go_wp2_with fail
  refine (HUS.out w2 g2 O2).mono ?_
  rintro e w3 ⟨v3, rfl, U3, e3⟩
  obtain ⟨b3, T3, hb3, hc3⟩ := ownU_ownL U3
  obtain ⟨p3, c3, rfl, _⟩ := ownU_slice U3
  have X3 := xt X2 e3
  clear O2 U3 hg2
  go_wp2_with fail
  refine (HTN.out w3 X3).mono ?_
  rintro e w4 ⟨⟨g4, rfl, hg4, O4⟩, e4⟩
  have X4 := xt X3 e4
  have hs4 : Hid (l ≠ [] → g4 < w4.heap.size) := fun h1 => O4.lt (HLF.out h1)
  go_wp2_with fail
  refine (HUI.out w4 g4 X4 O4).mono ?_
  rintro e w5 ⟨v5, rfl, U5, e5⟩
  obtain ⟨b5, T5, hb5, hc5⟩ := ownU_ownL U5
  obtain ⟨p5, c5, rfl, _⟩ := ownU_slice U5
  have X5 := xt X4 e5
  have O5 := O4.later e5
  have T35 := (T3.later e4).later e5
  have HB : Hid ((l ≠ [] → b3 < g4 ∧ g4 < b5) ∧ w.heap.size ≤ g4 ∧ w.heap.size ≤ b5) := by
   have s3 := X3.size
   have s4 := X4.size
   exact ⟨fun h1 => ⟨by have := hc3 h1; omega, by have := hs4.out h1; omega⟩, by omega, by omega⟩
  clear O4 U5 T3 hb3 hc3 hb5 hc5 hs4 hg4
  obtain ⟨N, hN⟩ : ∃ N, l.length = N := ⟨_, rfl⟩
  have HNL : Hid (l.length = N) := hN
  rw [hN] at T5 T35 ⊢
  go_wp2_with fail
  refine (HQS.out w5 _ _ T5.txts T35.txts).mono ?_
  rintro e w6 ⟨rfl, e6⟩
  have X6 := xt X5 e6
  have O6 := O5.later e6
  have T56 := T5.later e6
  have T36 := T35.later e6
  clear O5 T5 T35 hN X2 X3 X4 X5
  go_wp2_with fail
  refine (HTN.out w6 X6).mono ?_
  rintro e w7 ⟨⟨g7, rfl, _, O7⟩, e7⟩
  go_wp2_with fail
  refine (HEQ.out w7 g4 g7 (O6.later e7) O7).mono ?_
  rintro e w8 ⟨rfl, e8⟩
  have X8 := xt (xt X6 e7) e8
  have O8 := (O6.later e7).later e8
  have T58 := (T56.later e7).later e8
  have T38 := (T36.later e7).later e8
  clear O6 O7 T56 T36 X6
  go_wp2_with fail
  refine (HMN.out w8 g4 O8).mono ?_
  rintro e w9 ⟨rfl, t9⟩
  have X9 := t9.ext w X8 HB.out.2.1
  have T59 := T58.turned (fun h1 => Or.inr (HB.out.1 h1).2) t9
  have T39 := T38.turned (fun h1 => Or.inl (HB.out.1 h1).1) t9
  clear O8 T58 T38 X8 t9
  go_wp2_with fail
  refine (HQS.out w9 _ _ T59.txts T39.txts).mono ?_
  rintro e w10 ⟨rfl, e10⟩
  have X10 := xt X9 e10
  have T510 := T59.later e10
  have T310 := T39.later e10
  clear T59 T39 X9
  go_wp2_with fail
  refine (HMS.out w10 _ b5 T510).mono ?_
  rintro e w11 ⟨rfl, M11, t11⟩
  have X11 := t11.ext w X10 HB.out.2.2
  have T311 := T310.turned (fun h1 => Or.inl (by have := HB.out.1 h1; omega)) t11
  clear T510 T310 X10 t11
  go_wp2_with fail
  refine (HHS.out w11 _ b5 M11).mono ?_
  rintro e w12 ⟨rfl, e12⟩
  have X12 := xt X11 e12
  have M12 := M11.later e12
  have T312 := T311.later e12
  clear M11 T311 X11
  go_wp2_with fail
  refine (HTN.out w12 X12).mono ?_
  rintro e w13 ⟨⟨g13, rfl, _, O13⟩, e13⟩
  have X13 := xt X12 e13
  go_wp2_with fail
  refine (HUI.out w13 g13 X13 O13).mono ?_
  rintro e w14 ⟨v14, rfl, U14, e14⟩
  obtain ⟨p14, c14, rfl, _⟩ := ownU_slice U14
  have X14 := xt X13 e14
  have M14 := (M12.later e13).later e14
  have T314 := (T312.later e13).later e14
  have T14 := ownU_txts U14
  rw [HNL.out] at T14 ⊢
  clear M12 T312 X12 X13 O13 U14
  go_wp2_with fail
  refine (HQS.out w14 _ _ T14 T314.txts).mono ?_
  rintro e w15 ⟨rfl, e15⟩
  have X15 := xt X14 e15
  have M15 := M14.later e15
  clear M14 T314 T14 X14
  go_wp2_with fail
  refine (HHS.out w15 _ b5 M15).mono ?_
  rintro e w16 ⟨rfl, e16⟩
  go_wp2_with fail
  go_ret
  exact ⟨rfl, xt X15 e16⟩

end Go.Proofs.YtcjjobciokfehaaGreatDoor

