/-
  Several texts in one: E13, E30.
-/
import Derived.Test.YtgpfddneablcpaaGreatDoorMg29
import Derived.Test.YtgpfddneablcpaaGreatDoorMg38
import Derived.Test.YtgpfddneablcpaaGreatDoorMg37
import Derived.Test.YtgpfddneablcpaaGreatDoorE27
namespace Go.Proofs.YtgpfddneablcpaaGreatDoor
open Go.RowKit

theorem bytes_three : ∀ (a b : List UInt8), -1 ≤ Lib.compareBytes a b
 | [], [] => by decide
 | [], _ :: _ => (by decide : (-1 : Int) ≤ -1)
 | _ :: _, [] => (by decide : (-1 : Int) ≤ 1)
 | x :: a, y :: b => by
  unfold Lib.compareBytes
  split
  ·
   decide
  ·
   split
   ·
    decide
   ·
    exact bytes_three a b
theorem less_bytes (a b : List UInt8) : Op.bytesLess a b = decide (Lib.compareBytes a b < 0) := by
 have := bytes_three a b
 rw [cmp_less]
 exact decide_eq_decide.2 (by omega)
set_option maxRecDepth 8000 in
set_option maxHeartbeats 4000000 in
theorem aheadGS (va vb : Value) (la lb : List VT) (w : World) (ha : ValsIn w va la) (hb : ValsIn w vb lb) (ga : ∀ e ∈ la, e.good = true ∧ e.room) (gb : ∀ e ∈ lb, e.good = true ∧ e.room) (l1 : la.length ≤ 2000) (hl : la.length = lb.length) :
  Calls Tryz.prog 37 #[va, vb] w fun e w' => e = .returned (.bool (decide (lexG la lb < 0))) ∧ Ext w w' := by
 have CR : Hid (∀ a b W, (a ∈ la ∧ b ∈ lb) ∨ (a ∈ lb ∧ b ∈ la) → Calls Tryz.prog 56 #[a.val, b.val, .int .i64 1] W fun e w' => e = .returned (.bool (decide (standB a b 1 < 0))) ∧ Ext W w') := fun a b W h => by
  rcases h with ⟨h1, h2⟩ | ⟨h1, h2⟩
  ·
   exact aheadS a b 1 (Or.inl rfl) W (ga a h1).2 (gb b h2).2 (ga a h1).1 (gb b h2).1
  ·
   exact aheadS a b 1 (Or.inl rfl) W (gb a h1).2 (ga b h2).2 (gb a h1).1 (ga b h2).1
 have HG : Hid ((∀ e ∈ la, e.good = true) ∧ (∀ e ∈ lb, e.good = true)) := ⟨fun e h => (ga e h).1, fun e h => (gb e h).1⟩
 obtain ⟨pa, ca, rfl, hca, hra⟩ := ha
 obtain ⟨pb, cb, rfl, hcb, hrb⟩ := hb
 have HA : Hid (0 < la.length → ∃ b o, pa = some ⟨b, o, none⟩ ∧ RowV w b o la) := hra
 have HB : Hid (0 < lb.length → ∃ b o, pb = some ⟨b, o, none⟩ ∧ RowV w b o lb) := hrb
 obtain ⟨n, hn⟩ : ∃ n, la.length = n := ⟨_, rfl⟩
 have HN : Hid (la.length = n ∧ lb.length = n) := ⟨hn, by rw [← hl]; exact hn⟩
 rw [← hl] at hcb HB ⊢
 rw [hn] at hca hcb l1 HA HB ⊢
 obtain ⟨Q, hQ⟩ : ∃ Q, lexG la lb = Q := ⟨_, rfl⟩
 have HQ : Hid (lexG (la.drop 0) (lb.drop 0) = Q) := hQ
 rw [hQ]
 clear hra hrb hn hQ ga gb hl
 go_enter Tryz.func37, Tryz.ntmps37
 go_wp2_with fail
 go_loopw [10] (fun i wr => ∃ k : Nat, k ≤ n ∧ i = .int .i64 k ∧ Hid (Ext w wr ∧ lexG (la.drop k) (lb.drop k) = Q)) (fun i _ => n - (intOf i).toNat)
 case atStart => exact ⟨0, by omega, rfl, xr _, HQ.out⟩
 case round =>
  obtain ⟨k, hk, rfl, HO⟩ := hrel
  by_cases hlt : k < n
  ·
   have i2 : (k : Int) < (n : Int) := by omega
   obtain ⟨⟨vk, vn, vd, vx, vt⟩, hx⟩ : ∃ x, la[k]? = some x := ⟨_, List.getElem?_eq_getElem (by rw [HN.out.1]; exact hlt)⟩
   obtain ⟨⟨uk, un, ud, ux, ut⟩, hy⟩ : ∃ x, lb[k]? = some x := ⟨_, List.getElem?_eq_getElem (by rw [HN.out.2]; exact hlt)⟩
   obtain ⟨b, o, rfl, RW⟩ := HA.out (by omega)
   obtain ⟨b', o', rfl, RW'⟩ := HB.out (by omega)
   obtain ⟨a0, a1, a2, a3, a4⟩ := (RW.later HO.out.1).five hx
   simp only at a0 a1 a2 a3 a4
   have gx := HG.out.1 _ (List.mem_of_getElem? hx)
   have gy := HG.out.2 _ (List.mem_of_getElem? hy)
   have HS : Hid (lexG (la.drop k) (lb.drop k) = if rankB ⟨vk, vn, vd, vx, vt⟩ ⟨uk, un, ud, ux, ut⟩ ≠ 0 then rankB ⟨vk, vn, vd, vx, vt⟩ ⟨uk, un, ud, ux, ut⟩ else lexG (la.drop (k + 1)) (lb.drop (k + 1))) := lexG_step hx hy
   have CXY := fun W => CR.out ⟨vk, vn, vd, vx, vt⟩ ⟨uk, un, ud, ux, ut⟩ W (Or.inl ⟨List.mem_of_getElem? hx, List.mem_of_getElem? hy⟩)
   have CYX := fun W => CR.out ⟨uk, un, ud, ux, ut⟩ ⟨vk, vn, vd, vx, vt⟩ W (Or.inr ⟨List.mem_of_getElem? hy, List.mem_of_getElem? hx⟩)
   have HZ : Hid (rankB ⟨vk, vn, vd, vx, vt⟩ ⟨uk, un, ud, ux, ut⟩ = 0 → vk = uk) := fun h => congrArg VT.k ((rank_zero gx gy).1 h)
   have HRK : Hid (rankB ⟨vk, vn, vd, vx, vt⟩ ⟨uk, un, ud, ux, ut⟩ = if vk = 4 ∧ uk = 4 then Lib.compareBytes vt ut else standB ⟨vk, vn, vd, vx, vt⟩ ⟨uk, un, ud, ux, ut⟩ 1) := rfl
   have HSW : Hid (standB ⟨uk, un, ud, ux, ut⟩ ⟨vk, vn, vd, vx, vt⟩ 1 = -standB ⟨vk, vn, vd, vx, vt⟩ ⟨uk, un, ud, ux, ut⟩ 1) := stand_swap gx gy 1
   obtain ⟨S, hS⟩ : ∃ S, standB ⟨vk, vn, vd, vx, vt⟩ ⟨uk, un, ud, ux, ut⟩ 1 = S := ⟨_, rfl⟩
   obtain ⟨S', hS'⟩ : ∃ S, standB ⟨uk, un, ud, ux, ut⟩ ⟨vk, vn, vd, vx, vt⟩ 1 = S := ⟨_, rfl⟩
   obtain ⟨R, hR⟩ : ∃ R, rankB ⟨vk, vn, vd, vx, vt⟩ ⟨uk, un, ud, ux, ut⟩ = R := ⟨_, rfl⟩
   rw [hS] at CXY HRK HSW
   rw [hS'] at CYX HSW
   rw [hR] at HS HZ HRK
   obtain ⟨u0, u1, e0, e1, z0, z1, B0, B1, X⟩ := mkB2 wr (valL vk vn vd vx vt) (valL uk un ud ux ut) 51 51
   have X0 : Ext wr u0 := by rw [← e0]; exact x1 wr _
   obtain ⟨b0, b1, b2, b3, b4⟩ := (RW'.later (xt HO.out.1 X0)).five hy
   simp only at b0 b1 b2 b3 b4
   obtain ⟨c0, c1, c2, c3, c4⟩ := Vec.five B0
   obtain ⟨d0, d1, d2, d3, d4⟩ := Vec.five B1
   have CE := fun W => isErrQ vk vn vd vx vt W
   have CF := fun W => isErrQ uk un ud ux ut W
   clear hS hS' hR hx hy RW RW' gx gy
   by_cases h4 : vk = 4 ∧ uk = 4
   ·
    obtain ⟨hv, hu⟩ := h4
    rw [decide_eq_true hv] at CE
    rw [decide_eq_true hu] at CF
    have HRC : Hid (R = Lib.compareBytes vt ut) := by show _ = _; rw [HRK.out, if_pos ⟨hv, hu⟩]
    clear HRK HSW HZ CXY CYX
    subst hv hu
    by_cases ht : vt = ut
    ·
     subst ht
     have HM : Hid (lexG (la.drop (k + 1)) (lb.drop (k + 1)) = Q) := by
      have h2 := HS.out
      have h3 := HRC.out
      rw [(bytes_zero vt vt).2 rfl] at h3
      rw [HO.out.2, if_neg (by omega)] at h2
      exact h2.symm
     clear HS HRC
     go_wp2_with fail
     refine (CE _).mono ?_
     rintro e w1 ⟨rfl, f1⟩
     obtain ⟨c0, c1, c2, c3, c4⟩ := Vec.five (B0.later (f1))
     obtain ⟨d0, d1, d2, d3, d4⟩ := Vec.five (B1.later (f1))
     go_wp2_with fail
     refine (CF _).mono ?_
     rintro e w2 ⟨rfl, f2⟩
     obtain ⟨c0, c1, c2, c3, c4⟩ := Vec.five (B0.later (xt f1 f2))
     obtain ⟨d0, d1, d2, d3, d4⟩ := Vec.five (B1.later (xt f1 f2))
     have HW : Hid (Ext w w2 ∧ lexG (la.drop (k + 1)) (lb.drop (k + 1)) = Q) := ⟨xt (xt HO.out.1 X) (xt f1 f2), HM.out⟩
     go_wp2_with fail
     go_roundw
     case rel => exact ⟨k + 1, by omega, by go_num, HW⟩
     case measure => simp [intOf]; omega
    ·
     have ht1 : (vt == ut) = false := by simpa using ht
     have ht2 : (vt != ut) = true := by simpa using ht
     have ht3 : decide (vt = ut) = false := decide_eq_false ht
     have HM : Hid (Lib.compareBytes vt ut = Q) := by
      have h2 := HS.out
      have h3 := HRC.out
      rw [HO.out.2, if_pos (fun e => ht ((bytes_zero vt ut).1 (by omega)))] at h2
      exact h3 ▸ h2.symm
     clear HS HRC
     go_wp2_with fail
     refine (CE _).mono ?_
     rintro e w1 ⟨rfl, f1⟩
     obtain ⟨c0, c1, c2, c3, c4⟩ := Vec.five (B0.later (f1))
     obtain ⟨d0, d1, d2, d3, d4⟩ := Vec.five (B1.later (f1))
     go_wp2_with fail
     refine (CF _).mono ?_
     rintro e w2 ⟨rfl, f2⟩
     obtain ⟨c0, c1, c2, c3, c4⟩ := Vec.five (B0.later (xt f1 f2))
     obtain ⟨d0, d1, d2, d3, d4⟩ := Vec.five (B1.later (xt f1 f2))
     go_wp2_with fail
     go_ret
     exact ⟨ret_bool (by rw [← HM.out]; exact less_bytes _ _), xt (xt HO.out.1 X) (xt f1 f2)⟩
   ·
    have HRS : Hid (R = S) := by show _ = _; rw [HRK.out, if_neg h4]
    by_cases hv : vk = 4
    ·
     have hw : ¬ uk = 4 := fun e => h4 ⟨hv, e⟩
     rw [decide_eq_true hv] at CE
     rw [decide_eq_false hw] at CF
     clear h4 HRK
     subst hv
     go_wp2_with fail
     refine (CE _).mono ?_
     rintro e w1 ⟨rfl, f1⟩
     obtain ⟨c0, c1, c2, c3, c4⟩ := Vec.five (B0.later (f1))
     obtain ⟨d0, d1, d2, d3, d4⟩ := Vec.five (B1.later (f1))
     go_wp2_with fail
     refine (CF _).mono ?_
     rintro e w2 ⟨rfl, f2⟩
     obtain ⟨c0, c1, c2, c3, c4⟩ := Vec.five (B0.later (xt f1 f2))
     obtain ⟨d0, d1, d2, d3, d4⟩ := Vec.five (B1.later (xt f1 f2))
     rcases Int.lt_trichotomy S 0 with hs | hs | hs
     ·
      have HM : Hid (true = decide (Q < 0)) := by
       have h2 := HS.out
       have h3 := HRS.out
       rw [HO.out.2, if_pos (by omega)] at h2
       show _ = _
       exact (decide_eq_true (by omega)).symm
      rw [decide_eq_true hs] at CXY
      clear CYX HS HZ HSW HRS
      go_wp2_with fail
      refine (CXY _).mono ?_
      rintro e w3 ⟨rfl, f3⟩
      go_wp2_with fail
      go_ret
      exact ⟨ret_bool HM.out, xt (xt HO.out.1 X) (xt (xt f1 f2) f3)⟩
     ·
      exact absurd (HZ.out (by have := HRS.out; omega)) (fun e => hw e.symm)
     ·
      have HM : Hid (false = decide (Q < 0)) := by
       have h2 := HS.out
       have h3 := HRS.out
       rw [HO.out.2, if_pos (by omega)] at h2
       show _ = _
       exact (decide_eq_false (by omega)).symm
      rw [decide_eq_false (by omega : ¬ S < 0)] at CXY
      rw [decide_eq_true (by have := HSW.out; omega : S' < 0)] at CYX
      clear HS HZ HSW HRS
      go_wp2_with fail
      refine (CXY _).mono ?_
      rintro e w3 ⟨rfl, f3⟩
      obtain ⟨c0, c1, c2, c3, c4⟩ := Vec.five (B0.later (xt (xt f1 f2) f3))
      obtain ⟨d0, d1, d2, d3, d4⟩ := Vec.five (B1.later (xt (xt f1 f2) f3))
      go_wp2_with fail
      refine (CYX _).mono ?_
      rintro e w4 ⟨rfl, f4⟩
      go_wp2_with fail
      go_ret
      exact ⟨ret_bool HM.out, xt (xt HO.out.1 X) (xt (xt (xt f1 f2) f3) f4)⟩
    ·
     rw [decide_eq_false hv] at CE
     clear CF
     go_wp2_with fail
     refine (CE _).mono ?_
     rintro e w1 ⟨rfl, f1⟩
     obtain ⟨c0, c1, c2, c3, c4⟩ := Vec.five (B0.later (f1))
     obtain ⟨d0, d1, d2, d3, d4⟩ := Vec.five (B1.later (f1))
     rcases Int.lt_trichotomy S 0 with hs | hs | hs
     ·
      have HM : Hid (true = decide (Q < 0)) := by
       have h2 := HS.out
       have h3 := HRS.out
       rw [HO.out.2, if_pos (by omega)] at h2
       show _ = _
       exact (decide_eq_true (by omega)).symm
      rw [decide_eq_true hs] at CXY
      clear CYX HS HZ HSW HRS
      go_wp2_with fail
      refine (CXY _).mono ?_
      rintro e w3 ⟨rfl, f3⟩
      go_wp2_with fail
      go_ret
      exact ⟨ret_bool HM.out, xt (xt HO.out.1 X) (xt (f1) f3)⟩
     ·
      have hu := HZ.out (by have := HRS.out; omega)
      have HM : Hid (lexG (la.drop (k + 1)) (lb.drop (k + 1)) = Q) := by
       have h2 := HS.out
       have h3 := HRS.out
       rw [HO.out.2, if_neg (by omega)] at h2
       exact h2.symm
      rw [decide_eq_false (by omega : ¬ S < 0)] at CXY
      rw [decide_eq_false (by have := HSW.out; omega : ¬ S' < 0)] at CYX
      clear HS HZ HSW HRS hs
      subst hu
      go_wp2_with fail
      refine (CXY _).mono ?_
      rintro e w3 ⟨rfl, f3⟩
      obtain ⟨c0, c1, c2, c3, c4⟩ := Vec.five (B0.later (xt (f1) f3))
      obtain ⟨d0, d1, d2, d3, d4⟩ := Vec.five (B1.later (xt (f1) f3))
      go_wp2_with fail
      refine (CYX _).mono ?_
      rintro e w4 ⟨rfl, f4⟩
      obtain ⟨c0, c1, c2, c3, c4⟩ := Vec.five (B0.later (xt (xt (f1) f3) f4))
      obtain ⟨d0, d1, d2, d3, d4⟩ := Vec.five (B1.later (xt (xt (f1) f3) f4))
      have HW : Hid (Ext w w4 ∧ lexG (la.drop (k + 1)) (lb.drop (k + 1)) = Q) := ⟨xt (xt HO.out.1 X) (xt (xt (f1) f3) f4), HM.out⟩
      go_wp2_with fail
      go_roundw
      case rel => exact ⟨k + 1, by omega, by go_num, HW⟩
      case measure => simp [intOf]; omega
     ·
      have HM : Hid (false = decide (Q < 0)) := by
       have h2 := HS.out
       have h3 := HRS.out
       rw [HO.out.2, if_pos (by omega)] at h2
       show _ = _
       exact (decide_eq_false (by omega)).symm
      rw [decide_eq_false (by omega : ¬ S < 0)] at CXY
      rw [decide_eq_true (by have := HSW.out; omega : S' < 0)] at CYX
      clear HS HZ HSW HRS
      go_wp2_with fail
      refine (CXY _).mono ?_
      rintro e w3 ⟨rfl, f3⟩
      obtain ⟨c0, c1, c2, c3, c4⟩ := Vec.five (B0.later (xt (f1) f3))
      obtain ⟨d0, d1, d2, d3, d4⟩ := Vec.five (B1.later (xt (f1) f3))
      go_wp2_with fail
      refine (CYX _).mono ?_
      rintro e w4 ⟨rfl, f4⟩
      go_wp2_with fail
      go_ret
      exact ⟨ret_bool HM.out, xt (xt HO.out.1 X) (xt (xt (f1) f3) f4)⟩
  ·
   obtain rfl : k = n := by omega
   have i2 : ¬ (k : Int) < (k : Int) := by omega
   have HM : Hid (false = decide (Q < 0)) := by
    show _ = _
    rw [← HO.out.2, lexG_end (by rw [HN.out.1]; exact Nat.le_refl _) (by rw [HN.out.2]; exact Nat.le_refl _)]
    rfl
   go_wp2_with fail
   go_ret
   exact ⟨ret_bool HM.out, HO.out.1⟩

abbrev telG (l : List VT) (c : Nat) (cols : List Nat) (y : Nat) (i : Nat) : List VT × List Nat := (keyG l c cols i, rowsG (kapG l c cols) y i)
/-- A row of a key that has been there. -/
theorem told_old {l : List VT} {c : Nat} {cols : List Nat} {y j f : Nat} {L : List GG} {x : GG} {e : GE} (h : L.map GG.told = (firstsG (kapG l c cols) y).map (telG l c cols y)) (hx : L[j]? = some x) (hf : (firstsG (kapG l c cols) y)[j]? = some f) (hk : kapG l c cols f = kapG l c cols y) (he : e.ns = x.e.ns ++ [y]) :
  (L.set j ⟨x.kv, x.K, e⟩).map GG.told = (firstsG (kapG l c cols) (y + 1)).map (telG l c cols (y + 1)) := by
 have hfm := List.mem_of_getElem? hf
 rw [firstsG_old hfm hk]
 apply List.ext_getElem?
 intro i
 have hi := congrArg (fun z => z[i]?) h
 simp only [List.getElem?_map] at hi
 rw [List.getElem?_map, List.getElem?_map]
 by_cases q : i = j
 ·
  subst q
  rw [hx, hf] at hi
  simp only [Option.map_some, Option.some.injEq] at hi
  rw [List.getElem?_set_self (List.getElem?_eq_some_iff.1 hx).1, hf]
  simp only [Option.map_some, Option.some.injEq]
  unfold telG GG.told at hi ⊢
  obtain ⟨h1, h2⟩ := Prod.mk.inj hi
  rw [rowsG_succ, if_pos hk.symm, ← h2, ← h1, he]
 ·
  rw [List.getElem?_set_ne (fun z => q z.symm), hi]
  cases hz : (firstsG (kapG l c cols) y)[i]? with
  | none => rfl
  | some z =>
   simp only [Option.map_some, Option.some.injEq]
   unfold telG
   have hzm := List.mem_of_getElem? hz
   have hne : ¬ kapG l c cols y = kapG l c cols z := fun e => by
    have e2 := firstsG_one hfm hzm (hk.trans e)
    have nd := firstsG_nodup (kapG l c cols) y
    have h1 := List.getElem?_eq_some_iff.1 hf
    have h2 := List.getElem?_eq_some_iff.1 hz
    obtain ⟨a1, b1⟩ := h1
    obtain ⟨a2, b2⟩ := h2
    exact q ((List.getElem_inj nd).1 (b2.trans (e2.symm.trans b1.symm)))
   rw [rowsG_succ, if_neg hne, List.append_nil]
/-- A row of a new key. -/
theorem told_new {l : List VT} {c : Nat} {cols : List Nat} {y : Nat} {L : List GG} {x : GG} (h : L.map GG.told = (firstsG (kapG l c cols) y).map (telG l c cols y)) (hn : ∀ f ∈ firstsG (kapG l c cols) y, kapG l c cols f ≠ kapG l c cols y) (hK : x.K = keyG l c cols y) (he : x.e.ns = [y]) :
  (L ++ [x]).map GG.told = (firstsG (kapG l c cols) (y + 1)).map (telG l c cols (y + 1)) := by
 obtain ⟨e1, e2⟩ := firstsG_new hn
 rw [e1, List.map_append, List.map_append, h]
 congr 1
 ·
  apply List.map_congr_left
  intro f hf
  unfold telG
  rw [rowsG_succ, if_neg (fun e => hn f hf e.symm), List.append_nil]
 ·
  show [x.told] = [telG l c cols (y + 1) y]
  unfold telG GG.told
  rw [rowsG_start e2, hK, he]
theorem ownI_one {w : World} (y : Nat) : OwnI (w.alloc (.cells #[.int .i64 y] 3)) w.heap.size (GE.sl ⟨w.heap.size, 1, [y]⟩) [y] := by
 refine ⟨rfl, .inr ⟨w.heap.size, 1, #[.int .i64 y], rfl, Nat.le_refl _, heap_alloc_new _ _, Nat.le_refl _, by decide, rfl, rfl⟩⟩
theorem ownsRow_low {w : World} {b b' sz n : Nat} {t : TypeId} {v : Value} {xs : List Value} (hb : b' ≤ b) (h : w.ownsRow b t sz v n xs) : w.ownsRow b' t sz v n xs := by
 refine ⟨h.1, h.2.imp id ?_⟩
 rintro ⟨g, cap, cur, a1, a2, a3⟩
 exact ⟨g, cap, cur, a1, by omega, a3⟩
/-- A group of one row, the first of its key. -/
theorem LieG.new {wo wr : World} {B : Nat} {v : Value} {L : List GG} (h : LieG wo B B v L) (hB : B ≤ wo.heap.size) (E : Ext wo wr) (sv : Value) (K : List VT) (hk : OwnW wr wo.heap.size sv K) (y : Nat) (hl : L.length ≤ 1000000) :
  ∃ v' w', (Builtin.append_ #[27, 27] 27 #[v, .slice (some ⟨wr.heap.size + 1, 0, none⟩) 1 1]).run Tryz.prog ((wr.alloc (.cells #[.int .i64 y] 3)).alloc (.cells #[sv, .slice (some ⟨wr.heap.size, 0, none⟩) 1 1] 57)) = .ok v' w' ∧ LieG w' B B v' (L ++ [⟨sv, K, ⟨wr.heap.size, 1, [y]⟩⟩]) ∧ ((wr.alloc (.cells #[.int .i64 y] 3)).alloc (.cells #[sv, .slice (some ⟨wr.heap.size, 0, none⟩) 1 1] 57)).grownBy w' v.ownBlock := by
 have XB := x1 wr (.cells #[.int .i64 y] 3)
 have OI := ownI_one (w := wr) y
 have sB : (wr.alloc (.cells #[.int .i64 y] 3)).heap.size = wr.heap.size + 1 := World.size_alloc _ _
 obtain ⟨w5, hw5⟩ : ∃ w5, wr.alloc (.cells #[.int .i64 y] 3) = w5 := ⟨_, rfl⟩
 rw [hw5] at XB OI sB ⊢
 have XC := x1 w5 (.cells #[sv, .slice (some ⟨wr.heap.size, 0, none⟩) 1 1] 57)
 have VC := vec_made w5 [sv, .slice (some ⟨wr.heap.size, 0, none⟩) 1 1] 57
 rw [sB] at VC
 have hs := E.size
 have kb := ownW_block hk
 have kl := ownW_lt hk
 have lv : ∀ g, v.ownBlock = some g → g < wo.heap.size := fun g hg => ownsRow_ltG h.list g hg
 refine LieG.add (h.later (xt E (xt XB XC))) ⟨sv, K, ⟨wr.heap.size, 1, [y]⟩⟩ (ownsRow_low hB (ownsRow_laterG hk (xt XB XC))) (ownsRow_low (by omega) (ownsRow_laterG OI XC)) ⟨fun q => ?_, fun g hg => ⟨fun q => ?_, fun q => ?_⟩⟩ (fun z hz => ⟨fun b hb => ⟨fun q => ?_, fun q => ?_⟩, fun b hb q => ?_, fun q => ?_⟩) (wr.heap.size + 1) VC hl (by have := XC.size; omega)
 ·
  have := kl _ q; have : wr.heap.size < wr.heap.size := this; omega
 ·
  have := kb _ q; have := lv g hg; omega
 ·
  have := lv g hg; have : wr.heap.size = g := q; omega
 ·
  have := kb _ q; have := ownsRow_ltG (h.keys z hz) b hb; omega
 ·
  have := ownsRow_ltG (h.keys z hz) b hb; have : wr.heap.size = b := q; omega
 ·
  have := kb _ hb; have := ownsRow_ltG (h.rows z hz) _ (sl_block z.e); omega
 ·
  have := ownsRow_ltG (h.rows z hz) _ (sl_block z.e); have : z.e.g = wr.heap.size := q; omega

end Go.Proofs.YtgpfddneablcpaaGreatDoor

