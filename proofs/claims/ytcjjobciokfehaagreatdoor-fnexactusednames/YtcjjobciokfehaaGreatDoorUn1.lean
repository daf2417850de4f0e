/-
  Chapter 4: the names that a formula uses.
-/
import Derived.Test.YtcjjobciokfehaaGreatDoorUn0
import Derived.Test.YtcjjobciokfehaaGreatDoorGs8
import Derived.Test.YtcjjobciokfehaaGreatDoorMg46
import Derived.Test.YtcjjobciokfehaaGreatDoorMg3
namespace Go.Proofs.YtcjjobciokfehaaGreatDoor
open Go.RowKit

def addN (out : List (List UInt8)) (x : NT) : List (List UInt8) := if x.k = 7 ∧ memB out (x.t.map upC) = false then out ++ [x.t.map upC] else out
def usedN (f : List NT) : List (List UInt8) := f.foldl addN []
noncomputable def usedR (f : List NT) : List (List UInt8) := if goodSF NT.good f = true then usedN f else []
theorem usedN_take {f : List NT} {k : Nat} {x : NT} (h : f[k]? = some x) : usedN (f.take (k + 1)) = addN (usedN (f.take k)) x := by
 have : f.take (k + 1) = f.take k ++ [x] := by rw [List.take_add_one, h]; rfl
 unfold usedN
 rw [this, List.foldl_append]
 rfl
theorem usedN_len : ∀ (f : List NT) (k : Nat), k ≤ f.length → (usedN (f.take k)).length ≤ k
 | f, 0, _ => by rw [List.take_zero]; exact Nat.le_refl _
 | f, k + 1, h => by
  obtain ⟨x, hx⟩ : ∃ x, f[k]? = some x := ⟨_, List.getElem?_eq_getElem (by omega)⟩
  have := usedN_len f k (by omega)
  rw [usedN_take hx, addN]
  split
  ·
   rw [List.length_append]; simp only [List.length_cons, List.length_nil]; omega
  ·
   omega
theorem ext_grownU {w w1 w2 : World} {row : Option Nat} (x : Ext w w1) (g : w1.grownBy w2 row) (hr : ∀ r, row = some r → w.heap.size ≤ r) : Ext w w2 :=
 ⟨g.os.trans x.os, g.tape.trans x.tape, g.output.trans x.output, Nat.le_trans x.size g.size, fun k hk => (g.block k (Nat.lt_of_lt_of_le hk x.size) (fun e => by have := hr k e.symm; omega)).trans (x.block k hk)⟩
/-- While names are gathered. -/
def UsedJ (f : List NT) (w : World) (k : Nat) (ov : Value) (wr : World) : Prop := OwnU wr w.heap.size ov (usedN (f.take k)) ∧ Ext w wr
/-- What both sides answer. -/
def UsedPost (f : List NT) (w : World) (e : Ending) (w' : World) : Prop := ∃ v, e = .returned v ∧ OwnU w' w.heap.size v (usedR f) ∧ Ext w w'
set_option maxRecDepth 8000 in
set_option maxHeartbeats 8000000 in
theorem usedNI (v : Value) (f : List NT) (w : World) (h : NodesIn w v f) (hr : ∀ x ∈ f, x.fits) (hl : f.length ≤ 1048576) (hT : Tens w) (hE : ErrTab w) (hO : OpTab w) (LW : LibW w) (IT : ItoaC w) :
  Calls Tryz.prog 18 #[v] w fun e w' => UsedPost f w e w' := by
 have C0 := goodFI v f w h hr hl hT hE hO LW IT
 rw [good_same goodK] at C0
 have HX : Hid (∀ x ∈ f, x.t.length ≤ 1048576) := fun x hx => (hr x hx).1
 have HLN : Hid (goodSF NT.good f = true → f.length ≤ 300) := fun hh => by
  rcases Nat.lt_or_ge 300 f.length with h' | h'
  ·
   rw [goodSF_long (Or.inr h')] at hh; cases hh
  ·
   exact h'
 obtain ⟨p, cap, rfl, hc, hrow⟩ := h
 obtain ⟨n, hn⟩ : ∃ n, f.length = n := ⟨_, rfl⟩
 have HN : Hid (f.length = n) := hn
 rw [hn] at hc hrow C0 HLN ⊢
 have HRW : Hid (0 < n → ∃ b o, p = some ⟨b, o, none⟩ ∧ RowN w b o f) := hrow
 obtain ⟨G, hG⟩ : ∃ G, goodSF NT.good f = G := ⟨_, rfl⟩
 have HG : Hid (goodSF NT.good f = G) := hG
 rw [hG] at C0 HLN
 clear hn hrow hG hr hl hT hE hO LW IT
 go_enter Tryz.func18, Tryz.ntmps18
 go_wp2_with fail
 refine C0.mono ?_
 rintro e w1 ⟨rfl, e1⟩
 clear C0
 cases G
 ·
  have PO : Hid (UsedPost f w (.returned (.slice none 0 0)) w1) := by
   refine ⟨_, rfl, ?_, e1⟩
   have : usedR f = [] := by unfold usedR; rw [HG.out]; rfl
   rw [this]
   exact ownU_nil _ _
  clear HRW HX HLN
  go_wp2_with fail
  go_ret
  exact PO.out
 ·
  have hn3 : n ≤ 300 := HLN.out rfl
  have HJ0 : Hid (UsedJ f w 0 (.slice none 0 0) w1) := ⟨by rw [List.take_zero]; exact ownU_nil _ _, e1⟩
  clear HLN
  go_wp2_with fail
  go_loopw [3, 12] (fun ov i wr => ∃ (k m c : Nat) (q : Option Addr), k ≤ n ∧ i = .int .i64 k ∧ ov = .slice q m c ∧ Hid (UsedJ f w k (.slice q m c) wr)) (fun _ i _ => n - (intOf i).toNat)
  case atStart => exact ⟨0, 0, 0, none, by omega, rfl, rfl, HJ0⟩
  case round =>
   clear HJ0
   obtain ⟨k, m, c, q, hk, rfl, rfl, HJ⟩ := hrel
   by_cases hlt : k < n
   ·
    have i2 : (k : Int) < (n : Int) := by omega
    obtain ⟨x, hx⟩ : ∃ x, f[k]? = some x := ⟨_, List.getElem?_eq_getElem (by rw [HN.out]; exact hlt)⟩
    have HXT : Hid (x.t.length ≤ 1048576) := HX.out x (List.mem_of_getElem? hx)
    have HUT : Hid (usedN (f.take (k + 1)) = addN (usedN (f.take k)) x) := usedN_take hx
    obtain ⟨b, o, rfl, RN⟩ := HRW.out (by omega)
    have XJ := HJ.out.2
    have HRN : wr.rangeAt b (o + k * 14) x.cells := fun c u hu => cell_later XJ (RN k x hx c u hu)
    have hul : (usedN (f.take k)).length ≤ 300 := by have := usedN_len f k (by rw [HN.out]; omega); omega
    obtain ⟨L, hL⟩ : ∃ L, usedN (f.take k) = L := ⟨_, rfl⟩
    have O1 : OwnU wr w.heap.size (.slice q m c) L := by rw [← hL]; exact HJ.out.1
    have hm : Hid (m = L.length) := by obtain ⟨q1, q2, q3, _⟩ := ownU_slice O1; exact (Value.slice.inj q3).2.1
    rw [hL] at HUT hul
    obtain ⟨xk, xt0, xn, xd0, xx, xr0, xc, xf, xg, xr2, xc2, xf2, xg2, xq⟩ := x
    have VB := vec_made wr [.int .i64 xk, sV xt0, .bool xn, .int .i64 xd0, .int .i64 xx, .int .i64 xr0, .int .i64 xc, .bool xf, .bool xg, .int .i64 xr2, .int .i64 xc2, .bool xf2, .bool xg2, .int .i64 xq] 48
    have XB := x1 wr (.cells #[.int .i64 xk, sV xt0, .bool xn, .int .i64 xd0, .int .i64 xx, .int .i64 xr0, .int .i64 xc, .bool xf, .bool xg, .int .i64 xr2, .int .i64 xc2, .bool xf2, .bool xg2, .int .i64 xq] 48)
    obtain ⟨wb, hb⟩ : ∃ z, wr.alloc (.cells #[.int .i64 xk, sV xt0, .bool xn, .int .i64 xd0, .int .i64 xx, .int .i64 xr0, .int .i64 xc, .bool xf, .bool xg, .int .i64 xr2, .int .i64 xc2, .bool xf2, .bool xg2, .int .i64 xq] 48) = z := ⟨_, rfl⟩
    have HB : Hid (wr.alloc (.cells #[.int .i64 xk, sV xt0, .bool xn, .int .i64 xd0, .int .i64 xx, .int .i64 xr0, .int .i64 xc, .bool xf, .bool xg, .int .i64 xr2, .int .i64 xc2, .bool xf2, .bool xg2, .int .i64 xq] 48) = wb) := hb
    change Vec (wr.alloc (.cells #[.int .i64 xk, sV xt0, .bool xn, .int .i64 xd0, .int .i64 xx, .int .i64 xr0, .int .i64 xc, .bool xf, .bool xg, .int .i64 xr2, .int .i64 xc2, .bool xf2, .bool xg2, .int .i64 xq] 48)) _ _ at VB
    have b0 := (VB 0 _ rfl).1
    have b1 := (VB 1 _ rfl).1
    have B0 : Hid (wb.cell? ⟨wr.heap.size, 0, none⟩ = some (.int .i64 xk)) := by rw [← hb]; exact b0
    rw [hb] at VB XB
    obtain ⟨u, hu⟩ : ∃ u, xt0.map upC = u := ⟨_, rfl⟩
    have CU : Hid (∀ W, Calls Tryz.prog 36 #[sV xt0] W fun e w' => e = .returned (sV u) ∧ Ext W w') := fun W => by rw [← hu]; exact capsI xt0 W (Nat.le_trans HXT.out (by omega))
    have HAD : Hid (addN L ⟨xk, xt0, xn, xd0, xx, xr0, xc, xf, xg, xr2, xc2, xf2, xg2, xq⟩ = if xk = 7 ∧ memB L u = false then L ++ [u] else L) := by rw [← hu]; rfl
    have HO1 : Hid (OwnU wr w.heap.size (.slice q m c) L) := O1
    have HXJ : Hid (Ext w wr) := XJ
    have HST : Hid (∀ (wz : World) (q' : Option Addr) (m' c' : Nat) (L' : List (List UInt8)), addN L ⟨xk, xt0, xn, xd0, xx, xr0, xc, xf, xg, xr2, xc2, xf2, xg2, xq⟩ = L' → OwnU wz w.heap.size (.slice q' m' c') L' → Ext w wz → UsedJ f w (k + 1) (.slice q' m' c') wz) := fun wz q' m' c' L' e o x => ⟨by rw [HUT.out, e]; exact o, x⟩
    clear hx HJ RN hL O1 XJ hu hb VB HUT HXT
    go_wp2_with (refine wpList_load_mid rfl 48 (.tmp 14) rfl b (o + k * 14) rfl [.int .i64 xk, sV xt0, .bool xn, .int .i64 xd0, .int .i64 xx, .int .i64 xr0, .int .i64 xc, .bool xf, .bool xg, .int .i64 xr2, .int .i64 xc2, .bool xf2, .bool xg2, .int .i64 xq] _ HRN Tryz.underlying48 rfl hi14N ?_)
    rw [HB.out]
    clear b0 b1 HRN
    refine (CU.out wb).mono ?_
    rintro e w2 ⟨rfl, e2⟩
    have E2 := xt XB e2
    have d0 : w2.cell? ⟨wr.heap.size, 0, none⟩ = some (.int .i64 xk) := cell_later e2 B0.out
    by_cases h7 : xk = 7
    ·
     subst h7
     have CI := containsT (.slice q m c) L u w2 (ownU_txts (ownU_later HO1.out E2)) (by omega)
     obtain ⟨R, hR⟩ : ∃ R, memB L u = R := ⟨_, rfl⟩
     have HR : Hid (memB L u = R) := hR
     rw [hR] at CI
     clear hR
     go_wp2_with fail
     refine CI.mono ?_
     rintro e w3 ⟨rfl, e3⟩
     have E3 := xt E2 e3
     cases R
     ·
      have V4 := vec_made w3 [sV u] 9
      have X4 := x1 w3 (.cells #[sV u] 9)
      change Vec (w3.alloc (.cells #[sV u] 9)) _ _ at V4
      obtain ⟨w4, h4⟩ : ∃ z, w3.alloc (.cells #[sV u] 9) = z := ⟨_, rfl⟩
      have H4 : Hid (w3.alloc (.cells #[sV u] 9) = w4) := h4
      rw [h4] at V4 X4
      have E4 := xt (E3) X4
      obtain ⟨v', w6, hrun, O6, GW, _⟩ := app_txt w4 w.heap.size (.slice q m c) L (ownU_later HO1.out E4) u w3.heap.size (fun j z hz => by rw [Nat.zero_add]; exact (V4 j z hz).1) (by omega) (xt HXJ.out E4).size
      obtain ⟨q6, c6, ev⟩ : ∃ q6 c6, v' = .slice q6 (m + 1) c6 := by
       obtain ⟨z1, z2, z3, _⟩ := ownU_slice O6
       rw [List.length_append, ← hm.out] at z3
       exact ⟨z1, z2, z3⟩
      subst ev
      have HZ : Hid (UsedJ f w (k + 1) (.slice q6 (m + 1) c6) w6) := HST.out w6 q6 (m + 1) c6 (L ++ [u]) (by rw [HAD.out]; exact if_pos ⟨by simp, HR.out⟩) O6 (ext_grownU (xt HXJ.out E4) GW (fun r hr => (ownU_lt HO1.out r hr).1))
      clear O6 GW V4 X4 E4 h4
      clear CI e2 e3 E2 E3 d0 HO1 HST HAD
      go_wp2_with (at_builtin; rw [H4.out]; refine Lib.wpList_append_run _ rfl _ _ _ _ rfl _ _ rfl rfl _ _ hrun ?_)
      go_roundw
      case rel => exact ⟨k + 1, m + 1, c6, q6, by omega, by go_num, rfl, HZ⟩
      case measure => simp [intOf]; omega
     ·
      have HZ : Hid (UsedJ f w (k + 1) (.slice q m c) w3) := HST.out w3 q m c L (by rw [HAD.out, if_neg (by rintro ⟨_, h2⟩; rw [HR.out] at h2; cases h2)]) (ownU_later HO1.out (E3)) (xt HXJ.out (E3))
      clear CI e2 e3 E2 E3 d0 HO1 HST HAD
      go_wp2_with fail
      go_roundw
      case rel => exact ⟨k + 1, m, c, q, by omega, by go_num, rfl, HZ⟩
      case measure => simp [intOf]; omega
    ·
     have i7 : (xk == 7) = false := by simp; exact h7
     have HZ : Hid (UsedJ f w (k + 1) (.slice q m c) w2) := HST.out w2 q m c L (by rw [HAD.out, if_neg (by rintro ⟨h1, _⟩; exact h7 h1)]) (ownU_later HO1.out (E2)) (xt HXJ.out (E2))
     clear HO1 HST HAD
     go_wp2_with fail
     go_roundw
     case rel => exact ⟨k + 1, m, c, q, by omega, by go_num, rfl, HZ⟩
     case measure => simp [intOf]; omega
   ·
    obtain rfl : k = n := by omega
    have PO : Hid (UsedPost f w (.returned (.slice q m c)) wr) := by
     refine ⟨_, rfl, ?_, HJ.out.2⟩
     have : usedR f = usedN (f.take k) := by unfold usedR; rw [HG.out, ← HN.out, List.take_length]; rfl
     rw [this]
     exact HJ.out.1
    clear HJ HRW HX
    go_wp2_with fail
    go_ret
    exact PO.out
set_option maxRecDepth 8000 in
set_option maxHeartbeats 8000000 in
theorem usedNS (v : Value) (f : List NT) (w : World) (h : NodesIn w v f) (hx : ∀ x ∈ f, x.t.length ≤ 1048576) :
  Calls Tryz.prog 17 #[v] w fun e w' => UsedPost f w e w' := by
 have C0 := goodFS v f w h hx
 have HX : Hid (∀ x ∈ f, x.t.length ≤ 1048576) := hx
 have HLN : Hid (goodSF NT.good f = true → f.length ≤ 300) := fun hh => by
  rcases Nat.lt_or_ge 300 f.length with h' | h'
  ·
   rw [goodSF_long (Or.inr h')] at hh; cases hh
  ·
   exact h'
 obtain ⟨p, cap, rfl, hc, hrow⟩ := h
 obtain ⟨n, hn⟩ : ∃ n, f.length = n := ⟨_, rfl⟩
 have HN : Hid (f.length = n) := hn
 rw [hn] at hc hrow C0 HLN ⊢
 have HRW : Hid (0 < n → ∃ b o, p = some ⟨b, o, none⟩ ∧ RowN w b o f) := hrow
 obtain ⟨G, hG⟩ : ∃ G, goodSF NT.good f = G := ⟨_, rfl⟩
 have HG : Hid (goodSF NT.good f = G) := hG
 rw [hG] at C0 HLN
 clear hn hrow hG hx
 go_enter Tryz.func17, Tryz.ntmps17
 go_wp2_with fail
 refine C0.mono ?_
 rintro e w1 ⟨rfl, e1⟩
 clear C0
 cases G
 ·
  have PO : Hid (UsedPost f w (.returned (.slice none 0 0)) w1) := by
   refine ⟨_, rfl, ?_, e1⟩
   have : usedR f = [] := by unfold usedR; rw [HG.out]; rfl
   rw [this]
   exact ownU_nil _ _
  clear HRW HX HLN
  go_wp2_with fail
  go_ret
  exact PO.out
 ·
  have hn3 : n ≤ 300 := HLN.out rfl
  have HJ0 : Hid (UsedJ f w 0 (.slice none 0 0) w1) := ⟨by rw [List.take_zero]; exact ownU_nil _ _, e1⟩
  clear HLN
  go_wp2_with fail
  go_loopw [3, 11] (fun ov i wr => ∃ (k m c : Nat) (q : Option Addr), k ≤ n ∧ i = .int .i64 k ∧ ov = .slice q m c ∧ Hid (UsedJ f w k (.slice q m c) wr)) (fun _ i _ => n - (intOf i).toNat)
  case atStart => exact ⟨0, 0, 0, none, by omega, rfl, rfl, HJ0⟩
  case round =>
   clear HJ0
   obtain ⟨k, m, c, q, hk, rfl, rfl, HJ⟩ := hrel
   by_cases hlt : k < n
   ·
    have i2 : (k : Int) < (n : Int) := by omega
    obtain ⟨x, hx⟩ : ∃ x, f[k]? = some x := ⟨_, List.getElem?_eq_getElem (by rw [HN.out]; exact hlt)⟩
    have HXT : Hid (x.t.length ≤ 1048576) := HX.out x (List.mem_of_getElem? hx)
    have HUT : Hid (usedN (f.take (k + 1)) = addN (usedN (f.take k)) x) := usedN_take hx
    obtain ⟨b, o, rfl, RN⟩ := HRW.out (by omega)
    have XJ := HJ.out.2
    have HRN : wr.rangeAt b (o + k * 14) x.cells := fun c u hu => cell_later XJ (RN k x hx c u hu)
    have hul : (usedN (f.take k)).length ≤ 300 := by have := usedN_len f k (by rw [HN.out]; omega); omega
    obtain ⟨L, hL⟩ : ∃ L, usedN (f.take k) = L := ⟨_, rfl⟩
    have O1 : OwnU wr w.heap.size (.slice q m c) L := by rw [← hL]; exact HJ.out.1
    have hm : Hid (m = L.length) := by obtain ⟨q1, q2, q3, _⟩ := ownU_slice O1; exact (Value.slice.inj q3).2.1
    rw [hL] at HUT hul
    obtain ⟨xk, xt0, xn, xd0, xx, xr0, xc, xf, xg, xr2, xc2, xf2, xg2, xq⟩ := x
    have VB := vec_made wr [.int .i64 xk, sV xt0, .bool xn, .int .i64 xd0, .int .i64 xx, .int .i64 xr0, .int .i64 xc, .bool xf, .bool xg, .int .i64 xr2, .int .i64 xc2, .bool xf2, .bool xg2, .int .i64 xq] 48
    have XB := x1 wr (.cells #[.int .i64 xk, sV xt0, .bool xn, .int .i64 xd0, .int .i64 xx, .int .i64 xr0, .int .i64 xc, .bool xf, .bool xg, .int .i64 xr2, .int .i64 xc2, .bool xf2, .bool xg2, .int .i64 xq] 48)
    obtain ⟨wb, hb⟩ : ∃ z, wr.alloc (.cells #[.int .i64 xk, sV xt0, .bool xn, .int .i64 xd0, .int .i64 xx, .int .i64 xr0, .int .i64 xc, .bool xf, .bool xg, .int .i64 xr2, .int .i64 xc2, .bool xf2, .bool xg2, .int .i64 xq] 48) = z := ⟨_, rfl⟩
    have HB : Hid (wr.alloc (.cells #[.int .i64 xk, sV xt0, .bool xn, .int .i64 xd0, .int .i64 xx, .int .i64 xr0, .int .i64 xc, .bool xf, .bool xg, .int .i64 xr2, .int .i64 xc2, .bool xf2, .bool xg2, .int .i64 xq] 48) = wb) := hb
    change Vec (wr.alloc (.cells #[.int .i64 xk, sV xt0, .bool xn, .int .i64 xd0, .int .i64 xx, .int .i64 xr0, .int .i64 xc, .bool xf, .bool xg, .int .i64 xr2, .int .i64 xc2, .bool xf2, .bool xg2, .int .i64 xq] 48)) _ _ at VB
    have b0 := (VB 0 _ rfl).1
    have b1 := (VB 1 _ rfl).1
    have B1 : Hid (wb.cell? ⟨wr.heap.size, 1, none⟩ = some (sV xt0)) := by rw [← hb]; exact b1
    rw [hb] at VB XB
    obtain ⟨u, hu⟩ : ∃ u, xt0.map upC = u := ⟨_, rfl⟩
    have CU : Hid (∀ W, Calls Tryz.prog 35 #[sV xt0] W fun e w' => e = .returned (sV u) ∧ Ext W w') := fun W => by rw [← hu]; exact capsS xt0 W (Nat.le_trans HXT.out (by omega))
    have HAD : Hid (addN L ⟨xk, xt0, xn, xd0, xx, xr0, xc, xf, xg, xr2, xc2, xf2, xg2, xq⟩ = if xk = 7 ∧ memB L u = false then L ++ [u] else L) := by rw [← hu]; rfl
    have HO1 : Hid (OwnU wr w.heap.size (.slice q m c) L) := O1
    have HXJ : Hid (Ext w wr) := XJ
    have HST : Hid (∀ (wz : World) (q' : Option Addr) (m' c' : Nat) (L' : List (List UInt8)), addN L ⟨xk, xt0, xn, xd0, xx, xr0, xc, xf, xg, xr2, xc2, xf2, xg2, xq⟩ = L' → OwnU wz w.heap.size (.slice q' m' c') L' → Ext w wz → UsedJ f w (k + 1) (.slice q' m' c') wz) := fun wz q' m' c' L' e o x => ⟨by rw [HUT.out, e]; exact o, x⟩
    clear hx HJ RN hL O1 XJ hu hb VB HUT HXT
    by_cases h7 : xk = 7
    ·
     subst h7
     go_wp2_with (refine wpList_load_mid rfl 48 (.tmp 13) rfl b (o + k * 14) rfl [.int .i64 7, sV xt0, .bool xn, .int .i64 xd0, .int .i64 xx, .int .i64 xr0, .int .i64 xc, .bool xf, .bool xg, .int .i64 xr2, .int .i64 xc2, .bool xf2, .bool xg2, .int .i64 xq] _ HRN Tryz.underlying48 rfl hi14N ?_)
     rw [HB.out]
     clear HRN
     refine (CU.out wb).mono ?_
     rintro e w2 ⟨rfl, e2⟩
     have E2 := xt XB e2
     have CI := inU (.slice q m c) L u w2 (ownU_txts (ownU_later HO1.out E2)) (by omega)
     obtain ⟨R, hR⟩ : ∃ R, memB L u = R := ⟨_, rfl⟩
     have HR : Hid (memB L u = R) := hR
     rw [hR] at CI
     clear hR
     go_wp2_with fail
     refine CI.mono ?_
     rintro e w3 ⟨rfl, e3⟩
     have E3 := xt E2 e3
     have d1 : w3.cell? ⟨wr.heap.size, 1, none⟩ = some (sV xt0) := cell_later e3 (cell_later e2 B1.out)
     cases R
     ·
      clear b0 b1
      go_wp2_with fail
      refine (CU.out w3).mono ?_
      rintro e w3' ⟨rfl, e3'⟩
      have E3' := xt E3 e3'
      have V4 := vec_made w3' [sV u] 9
      have X4 := x1 w3' (.cells #[sV u] 9)
      change Vec (w3'.alloc (.cells #[sV u] 9)) _ _ at V4
      obtain ⟨w4, h4⟩ : ∃ z, w3'.alloc (.cells #[sV u] 9) = z := ⟨_, rfl⟩
      have H4 : Hid (w3'.alloc (.cells #[sV u] 9) = w4) := h4
      rw [h4] at V4 X4
      have E4 := xt (E3') X4
      obtain ⟨v', w6, hrun, O6, GW, _⟩ := app_txt w4 w.heap.size (.slice q m c) L (ownU_later HO1.out E4) u w3'.heap.size (fun j z hz => by rw [Nat.zero_add]; exact (V4 j z hz).1) (by omega) (xt HXJ.out E4).size
      obtain ⟨q6, c6, ev⟩ : ∃ q6 c6, v' = .slice q6 (m + 1) c6 := by
       obtain ⟨z1, z2, z3, _⟩ := ownU_slice O6
       rw [List.length_append, ← hm.out] at z3
       exact ⟨z1, z2, z3⟩
      subst ev
      have HZ : Hid (UsedJ f w (k + 1) (.slice q6 (m + 1) c6) w6) := HST.out w6 q6 (m + 1) c6 (L ++ [u]) (by rw [HAD.out]; exact if_pos ⟨by simp, HR.out⟩) O6 (ext_grownU (xt HXJ.out E4) GW (fun r hr => (ownU_lt HO1.out r hr).1))
      clear O6 GW V4 X4 E4 h4
      clear CI e2 e3 e3' E2 E3 E3' d1 HO1 HST HAD
      go_wp2_with (at_builtin; rw [H4.out]; refine Lib.wpList_append_run _ rfl _ _ _ _ rfl _ _ rfl rfl _ _ hrun ?_)
      go_roundw
      case rel => exact ⟨k + 1, m + 1, c6, q6, by omega, by go_num, rfl, HZ⟩
      case measure => simp [intOf]; omega
     ·
      have HZ : Hid (UsedJ f w (k + 1) (.slice q m c) w3) := HST.out w3 q m c L (by rw [HAD.out, if_neg (by rintro ⟨_, h2⟩; rw [HR.out] at h2; cases h2)]) (ownU_later HO1.out (E3)) (xt HXJ.out (E3))
      clear CI e2 e3 E2 E3 d1 HO1 HST HAD b0 b1
      go_wp2_with fail
      go_roundw
      case rel => exact ⟨k + 1, m, c, q, by omega, by go_num, rfl, HZ⟩
      case measure => simp [intOf]; omega
    ·
     have i7 : (xk == 7) = false := by simp; exact h7
     have HZ : Hid (UsedJ f w (k + 1) (.slice q m c) wb) := HST.out wb q m c L (by rw [HAD.out, if_neg (by rintro ⟨h1, _⟩; exact h7 h1)]) (ownU_later HO1.out (XB)) (xt HXJ.out (XB))
     clear HO1 HST HAD
     go_wp2_with (refine wpList_load_mid rfl 48 (.tmp 13) rfl b (o + k * 14) rfl [.int .i64 xk, sV xt0, .bool xn, .int .i64 xd0, .int .i64 xx, .int .i64 xr0, .int .i64 xc, .bool xf, .bool xg, .int .i64 xr2, .int .i64 xc2, .bool xf2, .bool xg2, .int .i64 xq] _ HRN Tryz.underlying48 rfl hi14N ?_)
     rw [HB.out]
     go_roundw
     case rel => exact ⟨k + 1, m, c, q, by omega, by go_num, rfl, HZ⟩
     case measure => simp [intOf]; omega
   ·
    obtain rfl : k = n := by omega
    have PO : Hid (UsedPost f w (.returned (.slice q m c)) wr) := by
     refine ⟨_, rfl, ?_, HJ.out.2⟩
     have : usedR f = usedN (f.take k) := by unfold usedR; rw [HG.out, ← HN.out, List.take_length]; rfl
     rw [this]
     exact HJ.out.1
    clear HJ HRW HX
    go_wp2_with fail
    go_ret
    exact PO.out

end Go.Proofs.YtcjjobciokfehaaGreatDoor

