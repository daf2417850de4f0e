/-
  Several texts in one: Un1, F7g.
-/
import Derived.Test.YtcjjobciokfehaaGreatDoorUn0
import Derived.Test.YtcjjobciokfehaaGreatDoorGs8
import Derived.Test.YtcjjobciokfehaaGreatDoorMg46
import Derived.Test.YtcjjobciokfehaaGreatDoorMg3
import Derived.Test.YtcjjobciokfehaaGreatDoorMg1
import Derived.Laws.IdiomStrings
import Derived.BigQuiet
import Derived.Deep.RegionHeld3
import Derived.Deep.QuietTactic
namespace Go.Proofs.YtcjjobciokfehaaGreatDoor
open Go.RowKit

def addN (out : List (List UInt8)) (x : NT) : List (List UInt8) := if x.k = 7 ∧ memB out (x.t.map upC) = false then out ++ [x.t.map upC] else out
def usedN (f : List NT) : List (List UInt8) := f.foldl addN []
noncomputable def usedR (f : List NT) : List (List UInt8) := if goodSF NT.good f = true then usedN f else []
theorem usedN_take {f : List NT} {k : Nat} {x : NT} (h : f[k]? = some x) : usedN (f.take (k + 1)) = addN (usedN (f.take k)) x := by
 have : f.take (k + 1) = f.take k ++ [x] := by rw [List.take_add_one, h]; rfl
 unfold usedN
 rw [this, List.foldl_append]
 rfl
theorem usedN_len : ∀ (f : List NT) (k : Nat), k ≤ f.length → (usedN (f.take k)).length ≤ k
 | f, 0, _ => by rw [List.take_zero]; exact Nat.le_refl _
 | f, k + 1, h => by
  obtain ⟨x, hx⟩ : ∃ x, f[k]? = some x := ⟨_, List.getElem?_eq_getElem (by omega)⟩
  have := usedN_len f k (by omega)
  rw [usedN_take hx, addN]
  split
  ·
   rw [List.length_append]; simp only [List.length_cons, List.length_nil]; omega
  ·
   omega
theorem ext_grownU {w w1 w2 : World} {row : Option Nat} (x : Ext w w1) (g : w1.grownBy w2 row) (hr : ∀ r, row = some r → w.heap.size ≤ r) : Ext w w2 :=
 ⟨g.os.trans x.os, g.tape.trans x.tape, g.output.trans x.output, Nat.le_trans x.size g.size, fun k hk => (g.block k (Nat.lt_of_lt_of_le hk x.size) (fun e => by have := hr k e.symm; omega)).trans (x.block k hk)⟩
/-- While names are gathered. -/
def UsedJ (f : List NT) (w : World) (k : Nat) (ov : Value) (wr : World) : Prop := OwnU wr w.heap.size ov (usedN (f.take k)) ∧ Ext w wr
/-- What both sides answer. -/
def UsedPost (f : List NT) (w : World) (e : Ending) (w' : World) : Prop := ∃ v, e = .returned v ∧ OwnU w' w.heap.size v (usedR f) ∧ Ext w w'
set_option maxRecDepth 8000 in
set_option maxHeartbeats 8000000 in
theorem usedNI (v : Value) (f : List NT) (w : World) (h : NodesIn w v f) (hr : ∀ x ∈ f, x.fits) (hl : f.length ≤ 1048576) (hT : Tens w) (hE : ErrTab w) (hO : OpTab w) (LW : LibW w) (IT : ItoaC w) :
  Calls Tryz.prog 18 #[v] w fun e w' => UsedPost f w e w' := by
 have C0 := goodFI v f w h hr hl hT hE hO LW IT
 rw [good_same goodK] at C0
 have HX : Hid (∀ x ∈ f, x.t.length ≤ 1048576) := fun x hx => (hr x hx).1
 have HLN : Hid (goodSF NT.good f = true → f.length ≤ 300) := fun hh => by
  rcases Nat.lt_or_ge 300 f.length with h' | h'
  ·
   rw [goodSF_long (Or.inr h')] at hh; cases hh
  ·
   exact h'
 obtain ⟨p, cap, rfl, hc, hrow⟩ := h
 obtain ⟨n, hn⟩ : ∃ n, f.length = n := ⟨_, rfl⟩
 have HN : Hid (f.length = n) := hn
 rw [hn] at hc hrow C0 HLN ⊢
 have HRW : Hid (0 < n → ∃ b o, p = some ⟨b, o, none⟩ ∧ RowN w b o f) := hrow
 obtain ⟨G, hG⟩ : ∃ G, goodSF NT.good f = G := ⟨_, rfl⟩
 have HG : Hid (goodSF NT.good f = G) := hG
 rw [hG] at C0 HLN
 clear hn hrow hG hr hl hT hE hO LW IT
 go_enter Tryz.func18, Tryz.ntmps18
 go_wp2_with fail
 refine C0.mono ?_
 rintro e w1 ⟨rfl, e1⟩
 clear C0
 cases G
 ·
  have PO : Hid (UsedPost f w (.returned (.slice none 0 0)) w1) := by
   refine ⟨_, rfl, ?_, e1⟩
   have : usedR f = [] := by unfold usedR; rw [HG.out]; rfl
   rw [this]
   exact ownU_nil _ _
  clear HRW HX HLN
  go_wp2_with fail
  go_ret
  exact PO.out
 ·
  have hn3 : n ≤ 300 := HLN.out rfl
  have HJ0 : Hid (UsedJ f w 0 (.slice none 0 0) w1) := ⟨by rw [List.take_zero]; exact ownU_nil _ _, e1⟩
  clear HLN
  go_wp2_with fail
  go_loopw [3, 12] (fun ov i wr => ∃ (k m c : Nat) (q : Option Addr), k ≤ n ∧ i = .int .i64 k ∧ ov = .slice q m c ∧ Hid (UsedJ f w k (.slice q m c) wr)) (fun _ i _ => n - (intOf i).toNat)
  case atStart => exact ⟨0, 0, 0, none, by omega, rfl, rfl, HJ0⟩
  case round =>
   clear HJ0
   obtain ⟨k, m, c, q, hk, rfl, rfl, HJ⟩ := hrel
   by_cases hlt : k < n
   ·
    have i2 : (k : Int) < (n : Int) := by omega
    obtain ⟨x, hx⟩ : ∃ x, f[k]? = some x := ⟨_, List.getElem?_eq_getElem (by rw [HN.out]; exact hlt)⟩
    have HXT : Hid (x.t.length ≤ 1048576) := HX.out x (List.mem_of_getElem? hx)
    have HUT : Hid (usedN (f.take (k + 1)) = addN (usedN (f.take k)) x) := usedN_take hx
    obtain ⟨b, o, rfl, RN⟩ := HRW.out (by omega)
    have XJ := HJ.out.2
    have HRN : wr.rangeAt b (o + k * 14) x.cells := fun c u hu => cell_later XJ (RN k x hx c u hu)
    have hul : (usedN (f.take k)).length ≤ 300 := by have := usedN_len f k (by rw [HN.out]; omega); omega
    obtain ⟨L, hL⟩ : ∃ L, usedN (f.take k) = L := ⟨_, rfl⟩
    have O1 : OwnU wr w.heap.size (.slice q m c) L := by rw [← hL]; exact HJ.out.1
    have hm : Hid (m = L.length) := by obtain ⟨q1, q2, q3, _⟩ := ownU_slice O1; exact (Value.slice.inj q3).2.1
    rw [hL] at HUT hul
    obtain ⟨xk, xt0, xn, xd0, xx, xr0, xc, xf, xg, xr2, xc2, xf2, xg2, xq⟩ := x
    have VB := vec_made wr [.int .i64 xk, sV xt0, .bool xn, .int .i64 xd0, .int .i64 xx, .int .i64 xr0, .int .i64 xc, .bool xf, .bool xg, .int .i64 xr2, .int .i64 xc2, .bool xf2, .bool xg2, .int .i64 xq] 48
    have XB := x1 wr (.cells #[.int .i64 xk, sV xt0, .bool xn, .int .i64 xd0, .int .i64 xx, .int .i64 xr0, .int .i64 xc, .bool xf, .bool xg, .int .i64 xr2, .int .i64 xc2, .bool xf2, .bool xg2, .int .i64 xq] 48)
    obtain ⟨wb, hb⟩ : ∃ z, wr.alloc (.cells #[.int .i64 xk, sV xt0, .bool xn, .int .i64 xd0, .int .i64 xx, .int .i64 xr0, .int .i64 xc, .bool xf, .bool xg, .int .i64 xr2, .int .i64 xc2, .bool xf2, .bool xg2, .int .i64 xq] 48) = z := ⟨_, rfl⟩
    have HB : Hid (wr.alloc (.cells #[.int .i64 xk, sV xt0, .bool xn, .int .i64 xd0, .int .i64 xx, .int .i64 xr0, .int .i64 xc, .bool xf, .bool xg, .int .i64 xr2, .int .i64 xc2, .bool xf2, .bool xg2, .int .i64 xq] 48) = wb) := hb
    change Vec (wr.alloc (.cells #[.int .i64 xk, sV xt0, .bool xn, .int .i64 xd0, .int .i64 xx, .int .i64 xr0, .int .i64 xc, .bool xf, .bool xg, .int .i64 xr2, .int .i64 xc2, .bool xf2, .bool xg2, .int .i64 xq] 48)) _ _ at VB
    have b0 := (VB 0 _ rfl).1
    have b1 := (VB 1 _ rfl).1
    have B0 : Hid (wb.cell? ⟨wr.heap.size, 0, none⟩ = some (.int .i64 xk)) := by rw [← hb]; exact b0
    rw [hb] at VB XB
    obtain ⟨u, hu⟩ : ∃ u, xt0.map upC = u := ⟨_, rfl⟩
    have CU : Hid (∀ W, Calls Tryz.prog 36 #[sV xt0] W fun e w' => e = .returned (sV u) ∧ Ext W w') := fun W => by rw [← hu]; exact capsI xt0 W (Nat.le_trans HXT.out (by omega))
    have HAD : Hid (addN L ⟨xk, xt0, xn, xd0, xx, xr0, xc, xf, xg, xr2, xc2, xf2, xg2, xq⟩ = if xk = 7 ∧ memB L u = false then L ++ [u] else L) := by rw [← hu]; rfl
    have HO1 : Hid (OwnU wr w.heap.size (.slice q m c) L) := O1
    have HXJ : Hid (Ext w wr) := XJ
    have HST : Hid (∀ (wz : World) (q' : Option Addr) (m' c' : Nat) (L' : List (List UInt8)), addN L ⟨xk, xt0, xn, xd0, xx, xr0, xc, xf, xg, xr2, xc2, xf2, xg2, xq⟩ = L' → OwnU wz w.heap.size (.slice q' m' c') L' → Ext w wz → UsedJ f w (k + 1) (.slice q' m' c') wz) := fun wz q' m' c' L' e o x => ⟨by rw [HUT.out, e]; exact o, x⟩
    clear hx HJ RN hL O1 XJ hu hb VB HUT HXT
    go_wp2_with (refine wpList_load_mid rfl 48 (.tmp 14) rfl b (o + k * 14) rfl [.int .i64 xk, sV xt0, .bool xn, .int .i64 xd0, .int .i64 xx, .int .i64 xr0, .int .i64 xc, .bool xf, .bool xg, .int .i64 xr2, .int .i64 xc2, .bool xf2, .bool xg2, .int .i64 xq] _ HRN Tryz.underlying48 rfl hi14N ?_)
    rw [HB.out]
    clear b0 b1 HRN
    refine (CU.out wb).mono ?_
    rintro e w2 ⟨rfl, e2⟩
    have E2 := xt XB e2
    have d0 : w2.cell? ⟨wr.heap.size, 0, none⟩ = some (.int .i64 xk) := cell_later e2 B0.out
    by_cases h7 : xk = 7
    ·
     subst h7
     have CI := containsT (.slice q m c) L u w2 (ownU_txts (ownU_later HO1.out E2)) (by omega)
     obtain ⟨R, hR⟩ : ∃ R, memB L u = R := ⟨_, rfl⟩
     have HR : Hid (memB L u = R) := hR
     rw [hR] at CI
     clear hR
     go_wp2_with fail
     refine CI.mono ?_
     rintro e w3 ⟨rfl, e3⟩
     have E3 := xt E2 e3
     cases R
     ·
      have V4 := vec_made w3 [sV u] 9
      have X4 := x1 w3 (.cells #[sV u] 9)
      change Vec (w3.alloc (.cells #[sV u] 9)) _ _ at V4
      obtain ⟨w4, h4⟩ : ∃ z, w3.alloc (.cells #[sV u] 9) = z := ⟨_, rfl⟩
      have H4 : Hid (w3.alloc (.cells #[sV u] 9) = w4) := h4
      rw [h4] at V4 X4
      have E4 := xt (E3) X4
      obtain ⟨v', w6, hrun, O6, GW, _⟩ := app_txt w4 w.heap.size (.slice q m c) L (ownU_later HO1.out E4) u w3.heap.size (fun j z hz => by rw [Nat.zero_add]; exact (V4 j z hz).1) (by omega) (xt HXJ.out E4).size
      obtain ⟨q6, c6, ev⟩ : ∃ q6 c6, v' = .slice q6 (m + 1) c6 := by
       obtain ⟨z1, z2, z3, _⟩ := ownU_slice O6
       rw [List.length_append, ← hm.out] at z3
       exact ⟨z1, z2, z3⟩
      subst ev
      have HZ : Hid (UsedJ f w (k + 1) (.slice q6 (m + 1) c6) w6) := HST.out w6 q6 (m + 1) c6 (L ++ [u]) (by rw [HAD.out]; exact if_pos ⟨by simp, HR.out⟩) O6 (ext_grownU (xt HXJ.out E4) GW (fun r hr => (ownU_lt HO1.out r hr).1))
      clear O6 GW V4 X4 E4 h4
      clear CI e2 e3 E2 E3 d0 HO1 HST HAD
      go_wp2_with (at_builtin; rw [H4.out]; refine Lib.wpList_append_run _ rfl _ _ _ _ rfl _ _ rfl rfl _ _ hrun ?_)
      go_roundw
      case rel => exact ⟨k + 1, m + 1, c6, q6, by omega, by go_num, rfl, HZ⟩
      case measure => simp [intOf]; omega
     ·
      have HZ : Hid (UsedJ f w (k + 1) (.slice q m c) w3) := HST.out w3 q m c L (by rw [HAD.out, if_neg (by rintro ⟨_, h2⟩; rw [HR.out] at h2; cases h2)]) (ownU_later HO1.out (E3)) (xt HXJ.out (E3))
      clear CI e2 e3 E2 E3 d0 HO1 HST HAD
      go_wp2_with fail
      go_roundw
      case rel => exact ⟨k + 1, m, c, q, by omega, by go_num, rfl, HZ⟩
      case measure => simp [intOf]; omega
    ·
     have i7 : (xk == 7) = false := by simp; exact h7
     have HZ : Hid (UsedJ f w (k + 1) (.slice q m c) w2) := HST.out w2 q m c L (by rw [HAD.out, if_neg (by rintro ⟨h1, _⟩; exact h7 h1)]) (ownU_later HO1.out (E2)) (xt HXJ.out (E2))
     clear HO1 HST HAD
     go_wp2_with fail
     go_roundw
     case rel => exact ⟨k + 1, m, c, q, by omega, by go_num, rfl, HZ⟩
     case measure => simp [intOf]; omega
   ·
    obtain rfl : k = n := by omega
    have PO : Hid (UsedPost f w (.returned (.slice q m c)) wr) := by
     refine ⟨_, rfl, ?_, HJ.out.2⟩
     have : usedR f = usedN (f.take k) := by unfold usedR; rw [HG.out, ← HN.out, List.take_length]; rfl
     rw [this]
     exact HJ.out.1
    clear HJ HRW HX
    go_wp2_with fail
    go_ret
    exact PO.out
set_option maxRecDepth 8000 in
set_option maxHeartbeats 8000000 in
theorem usedNS (v : Value) (f : List NT) (w : World) (h : NodesIn w v f) (hx : ∀ x ∈ f, x.t.length ≤ 1048576) :
  Calls Tryz.prog 17 #[v] w fun e w' => UsedPost f w e w' := by
 have C0 := goodFS v f w h hx
 have HX : Hid (∀ x ∈ f, x.t.length ≤ 1048576) := hx
 have HLN : Hid (goodSF NT.good f = true → f.length ≤ 300) := fun hh => by
  rcases Nat.lt_or_ge 300 f.length with h' | h'
  ·
   rw [goodSF_long (Or.inr h')] at hh; cases hh
  ·
   exact h'
 obtain ⟨p, cap, rfl, hc, hrow⟩ := h
 obtain ⟨n, hn⟩ : ∃ n, f.length = n := ⟨_, rfl⟩
 have HN : Hid (f.length = n) := hn
 rw [hn] at hc hrow C0 HLN ⊢
 have HRW : Hid (0 < n → ∃ b o, p = some ⟨b, o, none⟩ ∧ RowN w b o f) := hrow
 obtain ⟨G, hG⟩ : ∃ G, goodSF NT.good f = G := ⟨_, rfl⟩
 have HG : Hid (goodSF NT.good f = G) := hG
 rw [hG] at C0 HLN
 clear hn hrow hG hx
 go_enter Tryz.func17, Tryz.ntmps17
 go_wp2_with fail
 refine C0.mono ?_
 rintro e w1 ⟨rfl, e1⟩
 clear C0
 cases G
 ·
  have PO : Hid (UsedPost f w (.returned (.slice none 0 0)) w1) := by
   refine ⟨_, rfl, ?_, e1⟩
   have : usedR f = [] := by unfold usedR; rw [HG.out]; rfl
   rw [this]
   exact ownU_nil _ _
  clear HRW HX HLN
  go_wp2_with fail
  go_ret
  exact PO.out
 ·
  have hn3 : n ≤ 300 := HLN.out rfl
  have HJ0 : Hid (UsedJ f w 0 (.slice none 0 0) w1) := ⟨by rw [List.take_zero]; exact ownU_nil _ _, e1⟩
  clear HLN
  go_wp2_with fail
  go_loopw [3, 11] (fun ov i wr => ∃ (k m c : Nat) (q : Option Addr), k ≤ n ∧ i = .int .i64 k ∧ ov = .slice q m c ∧ Hid (UsedJ f w k (.slice q m c) wr)) (fun _ i _ => n - (intOf i).toNat)
  case atStart => exact ⟨0, 0, 0, none, by omega, rfl, rfl, HJ0⟩
  case round =>
   clear HJ0
   obtain ⟨k, m, c, q, hk, rfl, rfl, HJ⟩ := hrel
   by_cases hlt : k < n
   ·
    have i2 : (k : Int) < (n : Int) := by omega
    obtain ⟨x, hx⟩ : ∃ x, f[k]? = some x := ⟨_, List.getElem?_eq_getElem (by rw [HN.out]; exact hlt)⟩
    have HXT : Hid (x.t.length ≤ 1048576) := HX.out x (List.mem_of_getElem? hx)
    have HUT : Hid (usedN (f.take (k + 1)) = addN (usedN (f.take k)) x) := usedN_take hx
    obtain ⟨b, o, rfl, RN⟩ := HRW.out (by omega)
    have XJ := HJ.out.2
    have HRN : wr.rangeAt b (o + k * 14) x.cells := fun c u hu => cell_later XJ (RN k x hx c u hu)
    have hul : (usedN (f.take k)).length ≤ 300 := by have := usedN_len f k (by rw [HN.out]; omega); omega
    obtain ⟨L, hL⟩ : ∃ L, usedN (f.take k) = L := ⟨_, rfl⟩
    have O1 : OwnU wr w.heap.size (.slice q m c) L := by rw [← hL]; exact HJ.out.1
    have hm : Hid (m = L.length) := by obtain ⟨q1, q2, q3, _⟩ := ownU_slice O1; exact (Value.slice.inj q3).2.1
    rw [hL] at HUT hul
    obtain ⟨xk, xt0, xn, xd0, xx, xr0, xc, xf, xg, xr2, xc2, xf2, xg2, xq⟩ := x
    have VB := vec_made wr [.int .i64 xk, sV xt0, .bool xn, .int .i64 xd0, .int .i64 xx, .int .i64 xr0, .int .i64 xc, .bool xf, .bool xg, .int .i64 xr2, .int .i64 xc2, .bool xf2, .bool xg2, .int .i64 xq] 48
    have XB := x1 wr (.cells #[.int .i64 xk, sV xt0, .bool xn, .int .i64 xd0, .int .i64 xx, .int .i64 xr0, .int .i64 xc, .bool xf, .bool xg, .int .i64 xr2, .int .i64 xc2, .bool xf2, .bool xg2, .int .i64 xq] 48)
    obtain ⟨wb, hb⟩ : ∃ z, wr.alloc (.cells #[.int .i64 xk, sV xt0, .bool xn, .int .i64 xd0, .int .i64 xx, .int .i64 xr0, .int .i64 xc, .bool xf, .bool xg, .int .i64 xr2, .int .i64 xc2, .bool xf2, .bool xg2, .int .i64 xq] 48) = z := ⟨_, rfl⟩
    have HB : Hid (wr.alloc (.cells #[.int .i64 xk, sV xt0, .bool xn, .int .i64 xd0, .int .i64 xx, .int .i64 xr0, .int .i64 xc, .bool xf, .bool xg, .int .i64 xr2, .int .i64 xc2, .bool xf2, .bool xg2, .int .i64 xq] 48) = wb) := hb
    change Vec (wr.alloc (.cells #[.int .i64 xk, sV xt0, .bool xn, .int .i64 xd0, .int .i64 xx, .int .i64 xr0, .int .i64 xc, .bool xf, .bool xg, .int .i64 xr2, .int .i64 xc2, .bool xf2, .bool xg2, .int .i64 xq] 48)) _ _ at VB
    have b0 := (VB 0 _ rfl).1
    have b1 := (VB 1 _ rfl).1
    have B1 : Hid (wb.cell? ⟨wr.heap.size, 1, none⟩ = some (sV xt0)) := by rw [← hb]; exact b1
    rw [hb] at VB XB
    obtain ⟨u, hu⟩ : ∃ u, xt0.map upC = u := ⟨_, rfl⟩
    have CU : Hid (∀ W, Calls Tryz.prog 35 #[sV xt0] W fun e w' => e = .returned (sV u) ∧ Ext W w') := fun W => by rw [← hu]; exact capsS xt0 W (Nat.le_trans HXT.out (by omega))
    have HAD : Hid (addN L ⟨xk, xt0, xn, xd0, xx, xr0, xc, xf, xg, xr2, xc2, xf2, xg2, xq⟩ = if xk = 7 ∧ memB L u = false then L ++ [u] else L) := by rw [← hu]; rfl
    have HO1 : Hid (OwnU wr w.heap.size (.slice q m c) L) := O1
    have HXJ : Hid (Ext w wr) := XJ
    have HST : Hid (∀ (wz : World) (q' : Option Addr) (m' c' : Nat) (L' : List (List UInt8)), addN L ⟨xk, xt0, xn, xd0, xx, xr0, xc, xf, xg, xr2, xc2, xf2, xg2, xq⟩ = L' → OwnU wz w.heap.size (.slice q' m' c') L' → Ext w wz → UsedJ f w (k + 1) (.slice q' m' c') wz) := fun wz q' m' c' L' e o x => ⟨by rw [HUT.out, e]; exact o, x⟩
    clear hx HJ RN hL O1 XJ hu hb VB HUT HXT
    by_cases h7 : xk = 7
    ·
     subst h7
     go_wp2_with (refine wpList_load_mid rfl 48 (.tmp 13) rfl b (o + k * 14) rfl [.int .i64 7, sV xt0, .bool xn, .int .i64 xd0, .int .i64 xx, .int .i64 xr0, .int .i64 xc, .bool xf, .bool xg, .int .i64 xr2, .int .i64 xc2, .bool xf2, .bool xg2, .int .i64 xq] _ HRN Tryz.underlying48 rfl hi14N ?_)
     rw [HB.out]
     clear HRN
     refine (CU.out wb).mono ?_
     rintro e w2 ⟨rfl, e2⟩
     have E2 := xt XB e2
     have CI := inU (.slice q m c) L u w2 (ownU_txts (ownU_later HO1.out E2)) (by omega)
     obtain ⟨R, hR⟩ : ∃ R, memB L u = R := ⟨_, rfl⟩
     have HR : Hid (memB L u = R) := hR
     rw [hR] at CI
     clear hR
     go_wp2_with fail
     refine CI.mono ?_
     rintro e w3 ⟨rfl, e3⟩
     have E3 := xt E2 e3
     have d1 : w3.cell? ⟨wr.heap.size, 1, none⟩ = some (sV xt0) := cell_later e3 (cell_later e2 B1.out)
     cases R
     ·
      clear b0 b1
      go_wp2_with fail
      refine (CU.out w3).mono ?_
      rintro e w3' ⟨rfl, e3'⟩
      have E3' := xt E3 e3'
      have V4 := vec_made w3' [sV u] 9
      have X4 := x1 w3' (.cells #[sV u] 9)
      change Vec (w3'.alloc (.cells #[sV u] 9)) _ _ at V4
      obtain ⟨w4, h4⟩ : ∃ z, w3'.alloc (.cells #[sV u] 9) = z := ⟨_, rfl⟩
      have H4 : Hid (w3'.alloc (.cells #[sV u] 9) = w4) := h4
      rw [h4] at V4 X4
      have E4 := xt (E3') X4
      obtain ⟨v', w6, hrun, O6, GW, _⟩ := app_txt w4 w.heap.size (.slice q m c) L (ownU_later HO1.out E4) u w3'.heap.size (fun j z hz => by rw [Nat.zero_add]; exact (V4 j z hz).1) (by omega) (xt HXJ.out E4).size
      obtain ⟨q6, c6, ev⟩ : ∃ q6 c6, v' = .slice q6 (m + 1) c6 := by
       obtain ⟨z1, z2, z3, _⟩ := ownU_slice O6
       rw [List.length_append, ← hm.out] at z3
       exact ⟨z1, z2, z3⟩
      subst ev
      have HZ : Hid (UsedJ f w (k + 1) (.slice q6 (m + 1) c6) w6) := HST.out w6 q6 (m + 1) c6 (L ++ [u]) (by rw [HAD.out]; exact if_pos ⟨by simp, HR.out⟩) O6 (ext_grownU (xt HXJ.out E4) GW (fun r hr => (ownU_lt HO1.out r hr).1))
      clear O6 GW V4 X4 E4 h4
      clear CI e2 e3 e3' E2 E3 E3' d1 HO1 HST HAD
      go_wp2_with (at_builtin; rw [H4.out]; refine Lib.wpList_append_run _ rfl _ _ _ _ rfl _ _ rfl rfl _ _ hrun ?_)
      go_roundw
      case rel => exact ⟨k + 1, m + 1, c6, q6, by omega, by go_num, rfl, HZ⟩
      case measure => simp [intOf]; omega
     ·
      have HZ : Hid (UsedJ f w (k + 1) (.slice q m c) w3) := HST.out w3 q m c L (by rw [HAD.out, if_neg (by rintro ⟨_, h2⟩; rw [HR.out] at h2; cases h2)]) (ownU_later HO1.out (E3)) (xt HXJ.out (E3))
      clear CI e2 e3 E2 E3 d1 HO1 HST HAD b0 b1
      go_wp2_with fail
      go_roundw
      case rel => exact ⟨k + 1, m, c, q, by omega, by go_num, rfl, HZ⟩
      case measure => simp [intOf]; omega
    ·
     have i7 : (xk == 7) = false := by simp; exact h7
     have HZ : Hid (UsedJ f w (k + 1) (.slice q m c) wb) := HST.out wb q m c L (by rw [HAD.out, if_neg (by rintro ⟨h1, _⟩; exact h7 h1)]) (ownU_later HO1.out (XB)) (xt HXJ.out (XB))
     clear HO1 HST HAD
     go_wp2_with (refine wpList_load_mid rfl 48 (.tmp 13) rfl b (o + k * 14) rfl [.int .i64 xk, sV xt0, .bool xn, .int .i64 xd0, .int .i64 xx, .int .i64 xr0, .int .i64 xc, .bool xf, .bool xg, .int .i64 xr2, .int .i64 xc2, .bool xf2, .bool xg2, .int .i64 xq] _ HRN Tryz.underlying48 rfl hi14N ?_)
     rw [HB.out]
     go_roundw
     case rel => exact ⟨k + 1, m, c, q, by omega, by go_num, rfl, HZ⟩
     case measure => simp [intOf]; omega
   ·
    obtain rfl : k = n := by omega
    have PO : Hid (UsedPost f w (.returned (.slice q m c)) wr) := by
     refine ⟨_, rfl, ?_, HJ.out.2⟩
     have : usedR f = usedN (f.take k) := by unfold usedR; rw [HG.out, ← HN.out, List.take_length]; rfl
     rw [this]
     exact HJ.out.1
    clear HJ HRW HX
    go_wp2_with fail
    go_ret
    exact PO.out

def mtF : Nat → Nat → List UInt8 → List UInt8
 | 0, _, s => s
 | f + 1, k, s => if k = 0 then s else mtF f (k / 10) (UInt8.ofNat (48 + k % 10) :: s)
theorem mtF_zero (f : Nat) (s : List UInt8) : mtF f 0 s = s := by cases f <;> rfl
def markT (k : Nat) : List UInt8 := 109 :: mtF k k []
set_option maxRecDepth 8000 in
set_option maxHeartbeats 2000000 in
theorem markTextL (k : Nat) (w : World) (h1 : 1 ≤ k) (h2 : k ≤ 100000000) :
  Calls Tryz.prog 33 #[.int .i64 k] w fun e w' => e = .returned (sV (markT k)) ∧ Ext w w' := by
 have f1 : decide ((k : Int) ≤ 0) = false := by simp; omega
 obtain ⟨T, hT⟩ : ∃ T, mtF k k [] = T := ⟨_, rfl⟩
 have HT : Hid (mtF k k [] = T) := hT
 have HM : Hid (markT k = 109 :: T) := by show _ = _; unfold markT; rw [hT]
 clear hT
 go_enter Tryz.func33, Tryz.ntmps33
 go_wp2_with fail
 go_loopw [0, 3] (fun a b wr => ∃ (m f : Nat) (s : ByteArray), a = .int .i64 m ∧ b = .string s ∧ m ≤ f ∧ f ≤ 100000000 ∧ Hid (mtF f m s.data.toList = T) ∧ s.size + f ≤ k ∧ Ext w wr) (fun a _ _ => (intOf a).toNat)
 case atStart => exact ⟨k, k, _, rfl, rfl, by omega, h2, HT, by show 0 + k ≤ k; omega, xr _⟩
 case round =>
  obtain ⟨m, f, s, rfl, rfl, hmf, hf, HN, hsz, X⟩ := hrel
  by_cases hm0 : m = 0
  ·
   subst hm0
   have HE : Hid (s.data.toList = T) := by have := HN.out; rw [mtF_zero] at this; exact this
   have hss : (⟨#[109]⟩ : ByteArray).size + s.size ≤ 9223372036854775807 := by show 1 + _ ≤ _; omega
   have HZ : Hid ((⟨#[109]⟩ ++ s : ByteArray) = ⟨(markT k).toArray⟩) := by
    show _ = _
    rw [HM.out, ← HE.out]
    apply ByteArray.ext
    rw [ByteArray.data_append]
    apply Array.ext'
    simp
   go_wp2_with fail
   go_ret
   exact ⟨congrArg (fun z => Ending.returned (Value.string z)) HZ.out, X⟩
  ·
   obtain ⟨f, rfl⟩ : ∃ g, f = g + 1 := ⟨f - 1, by omega⟩
   have hm1 : decide ((m : Int) > 0) = true := by simp; omega
   obtain ⟨a, ha⟩ : ∃ a : Nat, m % 10 = a := ⟨_, rfl⟩
   obtain ⟨q, hq⟩ : ∃ q : Nat, m / 10 = q := ⟨_, rfl⟩
   have ha' : (m : Int).tmod 10 = (a : Int) := by rw [Int.tmod_eq_emod_of_nonneg (by omega)]; omega
   have hq' : (m : Int).tdiv 10 = (q : Int) := by rw [Int.tdiv_eq_ediv_of_nonneg (by omega)]; omega
   have a10 : a < 10 := by omega
   have q200 : q < m := by omega
   have hcv := run_convert_bytes_back (P := Tryz.prog) (wr.alloc (.cells #[.int .u8 (48 + (a : Int))] 5)) 94 9 5 ⟨wr.heap.size, 0, none⟩ 1 [UInt8.ofNat (48 + a)] Tryz.underlying94 Tryz.underlying5 Tryz.underlying9 (fun j hj => by
    have hj' : j = 0 := by simpa using hj
    subst hj'
    simp [go_sem]
    omega)
   rw [List.length_singleton] at hcv
   obtain ⟨t, ht⟩ : ∃ t : ByteArray, (⟨[UInt8.ofNat (48 + a)].toArray⟩ : ByteArray) = t := ⟨_, rfl⟩
   rw [ht] at hcv
   have hts : t.data.toList = [UInt8.ofNat (48 + a)] := by rw [← ht]
   have htz := size_ofL' hts
   have HN2 : Hid (mtF f q (t ++ s).data.toList = T) := by
    have h := HN.out
    unfold mtF at h
    rw [if_neg hm0, ha, hq] at h
    show _ = _
    rw [ByteArray.data_append, Array.toList_append, hts]
    exact h
   simp only [List.length_singleton] at htz
   have hw8 : IntKind.u8.wrap (48 + (a : Int)) = 48 + (a : Int) := by rw [IntKind.wrap_u8]; omega
   clear ha hq hts ht HN HT HM
   go_wp2_with fail
   go_roundw
   case rel => exact ⟨q, f, _, rfl, rfl, by omega, by omega, HN2, by rw [ByteArray.size_append]; omega, xa X _⟩
   case measure => simp [intOf]; omega

/-- The marks from k on. -/
def marksT (k : Nat) : Nat → List (List UInt8)
 | 0 => []
 | n + 1 => markT k :: marksT (k + 1) n
theorem marksT_length (n : Nat) : ∀ k, (marksT k n).length = n := by
 induction n with
 | zero => intro k; rfl
 | succ n ih => intro k; simp [marksT, ih]
theorem marksT_at (n : Nat) : ∀ k j, j < n → (marksT k n)[j]? = some (markT (k + j)) := by
 induction n with
 | zero => intro k j h; omega
 | succ n ih =>
  intro k j h
  cases j with
  | zero => rfl
  | succ j =>
   show (marksT (k + 1) n)[j]? = _
   rw [ih (k + 1) j (by omega)]
   congr 2
   omega
/-- Only the row at g has turned. -/
def Turned (g : Nat) (w w' : World) : Prop := (∀ a, Ext a w → a.heap.size ≤ g → Ext a w') ∧ ∀ b L, b ≠ g → Vec w b L → Vec w' b L
theorem Turned.refl (g : Nat) (w : World) : Turned g w w := ⟨fun _ h _ => h, fun _ _ _ h => h⟩
set_option maxRecDepth 8000 in
set_option maxHeartbeats 2000000 in
theorem markStrs (g c n k0 : Nat) (L : List Value) (w : World) (h : Vec w g L) (hL : L.length = n) (hc : n ≤ c) (hn : n ≤ 3000000) (h1 : 1 ≤ k0) (h2 : k0 ≤ 3000000) :
  Calls Tryz.prog 20 #[.slice (some ⟨g, 0, none⟩) n c, .int .i64 k0] w fun e w' => e = .returned (.int .i64 ((k0 + n : Nat) : Int)) ∧ Vec w' g ((marksT k0 n).map sV) ∧ Turned g w w' := by
 have H0 : Hid (∃ M : List Value, M.length = n ∧ Vec w g M ∧ ∀ i, i < 0 → M[i]? = some (sV (markT (k0 + i)))) := ⟨L, hL, h, fun i hi => by omega⟩
 clear h hL
 go_enter Tryz.func20, Tryz.ntmps20
 go_wp2_with fail
 go_loopw [1, 5] (fun a i wr => ∃ k : Nat, k ≤ n ∧ i = .int .i64 k ∧ a = .int .i64 ((k0 + k : Nat) : Int) ∧ Hid (∃ M : List Value, M.length = n ∧ Vec wr g M ∧ ∀ i, i < k → M[i]? = some (sV (markT (k0 + i)))) ∧ Hid (Turned g w wr)) (fun _ i _ => n - (intOf i).toNat)
 case atStart => exact ⟨0, by omega, rfl, rfl, H0, Turned.refl g w⟩
 case round =>
  clear H0
  obtain ⟨k, hk, rfl, rfl, HM, HT⟩ := hrel
  by_cases hlt : k < n
  ·
   have i2 : (k : Int) < (n : Int) := by omega
   obtain ⟨m, hm⟩ : ∃ m, k0 + k = m := ⟨_, rfl⟩
   have m1 : m ≤ 6000000 := by omega
   rw [hm]
   have CM := markTextL m wr (by omega) (by omega)
   go_wp2_with fail
   refine CM.mono ?_
   rintro e w1 ⟨rfl, e1⟩
   obtain ⟨M, q1, q2, q3⟩ := HM.out
   obtain ⟨v0, hv0⟩ : ∃ v, M[k]? = some v := ⟨_, List.getElem?_eq_getElem (by omega)⟩
   have q2 := q2.later e1
   have c0 := (q2 k v0 hv0).1
   have f0 := (q2 k v0 hv0).2
   have HQ : Hid (∃ M : List Value, M.length = n ∧ Vec (w1.setCell ⟨g, k, none⟩ (sV (markT m))) g M ∧ ∀ i, i < k + 1 → M[i]? = some (sV (markT (k0 + i)))) := by
    refine ⟨M.set k (sV (markT m)), by simp [q1], q2.put k (by omega) _, fun i hi => ?_⟩
    by_cases e : i = k
    ·
     subst e
     rw [List.getElem?_set_self (by omega), hm]
    ·
     rw [List.getElem?_set_ne (fun q => e q.symm)]
     exact q3 i (by omega)
   have HU : Hid (Turned g w (w1.setCell ⟨g, k, none⟩ (sV (markT m)))) := (HT.out.step e1).put k _
   obtain ⟨w2, hw2⟩ : ∃ q, w1.setCell ⟨g, k, none⟩ (sV (markT m)) = q := ⟨_, rfl⟩
   rw [hw2] at HQ HU
   have hnx : ((m : Nat) : Int) + 1 = ((k0 + (k + 1) : Nat) : Int) := by omega
   clear HM HT CM q2 q3 hv0 e1
   go_wp2_with fail
   go_roundw
   case rel => exact ⟨k + 1, by omega, by go_num, by first | (rw [hnx]) | (congr 1), HQ, HU⟩
   case measure => simp [intOf]; omega
  ·
   obtain rfl : k = n := by omega
   have HF : Hid (Vec wr g ((marksT k0 k).map sV)) := by
    obtain ⟨M, q1, q2, q3⟩ := HM.out
    intro i v hi
    rw [List.getElem?_map] at hi
    have hik : i < k := by
     rcases Nat.lt_or_ge i k with h' | h'
     ·
      exact h'
     ·
      rw [List.getElem?_eq_none (by rw [marksT_length]; exact h')] at hi; cases hi
    rw [marksT_at _ _ _ hik] at hi
    exact q2 i v ((q3 i hik).trans hi)
   clear HM
   go_wp2_with fail
   go_ret
   exact ⟨rfl, HF.out, HT.out⟩
set_option maxRecDepth 8000 in
set_option maxHeartbeats 2000000 in
theorem heldStrs (g c n k0 : Nat) (w : World) (h : Vec w g ((marksT k0 n).map sV)) (hc : n ≤ c) (hn : n ≤ 3000000) (h1 : 1 ≤ k0) (h2 : k0 ≤ 3000000) :
  Calls Tryz.prog 21 #[.slice (some ⟨g, 0, none⟩) n c, .int .i64 k0] w fun e w' => e = .returned (.int .i64 ((k0 + n : Nat) : Int)) ∧ Ext w w' := by
 have HV : Hid (Vec w g ((marksT k0 n).map sV)) := h
 clear h
 go_enter Tryz.func21, Tryz.ntmps21
 go_wp2_with fail
 go_loopw [1, 5] (fun a i wr => ∃ k : Nat, k ≤ n ∧ i = .int .i64 k ∧ a = .int .i64 ((k0 + k : Nat) : Int) ∧ Ext w wr) (fun _ i _ => n - (intOf i).toNat)
 case atStart => exact ⟨0, by omega, rfl, rfl, xr _⟩
 case round =>
  obtain ⟨k, hk, rfl, rfl, X⟩ := hrel
  by_cases hlt : k < n
  ·
   have i2 : (k : Int) < (n : Int) := by omega
   obtain ⟨m, hm⟩ : ∃ m, k0 + k = m := ⟨_, rfl⟩
   have m1 : m ≤ 6000000 := by omega
   have a0 := ((HV.out.later X) k (sV (markT m)) (by rw [List.getElem?_map, marksT_at _ _ _ hlt, hm]; rfl)).1
   rw [hm]
   obtain ⟨T, hT⟩ : ∃ T, markT m = T := ⟨_, rfl⟩
   have CM : Hid (∀ W, Calls Tryz.prog 33 #[.int .i64 m] W fun e w' => e = .returned (sV T) ∧ Ext W w') := fun W => by rw [← hT]; exact markTextL m W (by omega) (by omega)
   have hp : (T == T) = true := by simp
   have hnx : ((m : Nat) : Int) + 1 = ((k0 + (k + 1) : Nat) : Int) := by omega
   rw [hT] at a0
   clear hT
   go_wp2_with fail
   go_region_held3 (fun w' => w'.cell? ⟨g, k, none⟩ = some (sV T)) (go_keep)
    (first
     | (go_at_call 33; refine (CM.out _).mono ?_; rintro e w' ⟨rfl, E⟩; have Y := xt (xd (xr _)) E; have r0 := cell_later Y a0))
   all_goals
    go_wp2_with fail
    go_roundw
    case rel => exact ⟨k + 1, by omega, by go_num, by first | (rw [hnx]) | (congr 1), xt X Y⟩
    case measure => simp [intOf]; omega
  ·
   obtain rfl : k = n := by omega
   go_wp2_with fail
   go_ret
   exact ⟨rfl, X⟩

end Go.Proofs.YtcjjobciokfehaaGreatDoor

