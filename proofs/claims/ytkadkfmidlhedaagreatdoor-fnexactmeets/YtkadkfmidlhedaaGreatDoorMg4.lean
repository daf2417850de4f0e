/-
  Several texts in one: LibC, FrameL, V6a, V6b, V6c, V6d, V9e.
-/
import Derived.Test.YtkadkfmidlhedaaGreatDoorLibD
import Derived.Test.YtkadkfmidlhedaaGreatDoorShelf
import Derived.WalkSmall
import Derived.Lib.LaidTab
import Derived.Test.YtkadkfmidlhedaaGreatDoorMg1
import Derived.Stop.LaidErr
import Derived.Test.YtkadkfmidlhedaaGreatDoorMg0
import Derived.Deep.RegionWith
namespace Go.Proofs.YtkadkfmidlhedaaGreatDoor
open Go.RowKit

theorem shelfExtra : Builder.Extra Tryz.prog layRepeat_ren := {
 sizeBuilder := by kernel_rfl
 liesBuilder := by kernel_rfl
 t5 := layRepeat.t5
 a5 := layRepeat.a5
 z5 := layRepeat.z5
 v5 := layRepeat.v5
 infoByte := by kernel_rfl
 cellsByte := by kernel_rfl
 sizeByte := by kernel_rfl
 neB5 := by decide }
theorem fRepeat : layRepeat_ren.f 105 = 199 := by kernel_rfl
theorem fItoa : layItoa_ren.f 171 = 149 := by kernel_rfl

theorem repC : RepC := by
 intro c w h0 h1
 obtain ⟨n, rfl⟩ : ∃ n : Nat, c = (n : Int) := ⟨c.toNat, by omega⟩
 have h := Any.strings_Repeat layRepeat shelfExtra ⟨#[48]⟩ n w (by omega) (by show 1 * n ≤ _; omega)
 rw [fRepeat] at h
 refine h.mono fun e w' ⟨he, hw⟩ => ⟨_, he, ?_, hw⟩
 have e := Lib.repeatL_replicate 48 1 n
 simp only [Nat.mul_one] at e
 show Lib.repeatL [48] n = List.replicate ((n : Int)).toNat 48
 rw [Int.toNat_natCast, ← e]
 rfl

theorem gPow10 : Tryz.prog.globalNamed "internal/strconv.uint64pow10" = some 8 := by kernel_rfl
theorem grow_ext (w : World) (k : Nat) (os : Array Obj) : Ext w (Sort.grow (w.drewN k) os) :=
 ⟨rfl, rfl, rfl, by simp [Sort.grow, World.drewN], fun i hi => by simp [Sort.grow, World.drewN, Array.getElem?_append_left hi]⟩

theorem itoaC {w0 : World} (h0 : Lib.TabIs Tryz.prog w0 "internal/strconv.uint64pow10" .u64 Lib.pow10Tab) : ItoaC w0 := by
 intro n w b0 b1 X
 have hlt : 8 < w0.heap.size := by
  have h := h0
  unfold Lib.TabIs World.var? at h
  simp only [gPow10, Option.bind_some] at h
  by_cases hk : 8 < w0.heap.size
  ·
   exact hk
  ·
   rw [Array.getElem?_eq_none (by omega)] at h
   cases h
 have h := Any.strconv_Itoa layItoa n (by omega) (by omega) w (var?_below X gPow10 hlt h0)
 rw [fItoa] at h
 refine h.mono fun e w' ⟨he, k, os, hw⟩ => ⟨_, he, rfl, ?_⟩
 subst hw
 exact grow_ext w k os

end Go.Proofs.YtkadkfmidlhedaaGreatDoor

namespace Go.Proofs.YtkadkfmidlhedaaGreatDoor
open Go.ChangeShapes Go.WideShapes Go.ChangeAt Go.RowKit

theorem gPow10Type : (Tryz.prog.globals[8]?).map (·.type) = some 137 := by kernel_rfl
theorem pow10_of {rest : List (String × DataW Unit)} {W : World} (h : laidMet Tryz.prog (("internal/strconv.uint64pow10", Rows.laid_internal_strconv_uint64pow10) :: rest) W) : Lib.TabIs Tryz.prog W "internal/strconv.uint64pow10" .u64 Lib.pow10Tab :=
 Lib.tabIs_of_head (rest := rest) gPow10 gPow10Type Tryz.underlying137 Tryz.underlying62 (by kernel_rfl) (by kernel_rfl) h

end Go.Proofs.YtkadkfmidlhedaaGreatDoor

namespace Go.Proofs.YtkadkfmidlhedaaGreatDoor
open Go.RowKit

abbrev valV (k : Int) (n : Bool) (d x : Int) (t : List UInt8) : Value := .agg #[.int .i64 k, .bool n, .int .i64 d, .int .i64 x, sV t]
abbrev valL (k : Int) (n : Bool) (d x : Int) (t : List UInt8) : List Value := [.int .i64 k, .bool n, .int .i64 d, .int .i64 x, sV t]
/-- The zero of decimals. -/
def zeroD (n : Bool) (d x : Int) : Bool := !n && decide (d = 0) && decide (x = 0)
/-- What a good value is. -/
def goodV (k : Int) (n : Bool) (d x : Int) (t : List UInt8) : Bool :=
 if k = 1 then goodB n d x && (t == []) else
 zeroD n d x && (if k = 0 then t == [] else if k = 2 then printN 1000 t else if k = 3 then boolB t else if k = 4 then memB errL t else false)

set_option maxRecDepth 8000 in
set_option maxHeartbeats 2000000 in
theorem goodVI (k : Int) (n : Bool) (d x : Int) (t : List UInt8) (w : World) (hl : t.length ≤ 2000000) (d1 : -9223372036854775808 ≤ d) (d2 : d ≤ 9223372036854775807) (hT : Tens w) (hE : ErrTab w) :
  Calls Tryz.prog 34 #[valV k n d x t] w fun e w' => e = .returned (.bool (goodV k n d x t)) ∧ Ext w w' := by
 have X0 := x1 w (.cells #[.int .i64 k, .bool n, .int .i64 d, .int .i64 x, sV t] 26)
 have B := vec_made w (valL k n d x t) 26
 have T1 := hT.later X0
 have E1 := hE.later X0
 obtain ⟨p, hp⟩ : ∃ p, (t == []) = p := ⟨_, rfl⟩
 clear hT hE
 by_cases h1 : k = 1
 ·
  subst h1
  have C := fun W (X : Ext (w.alloc (.cells #[.int .i64 1, .bool n, .int .i64 d, .int .i64 x, sV t] 26)) W) => goodI n d x W d1 d2 (T1.later X)
  have e : goodV 1 n d x t = (goodB n d x && p) := by simp [goodV, hp]
  rw [e]
  obtain ⟨q, hq⟩ : ∃ q, goodB n d x = q := ⟨_, rfl⟩
  rw [hq] at C ⊢
  clear e hq d1 d2
  cases q
  ·
   go_enter Tryz.func34, Tryz.ntmps34
   go_wp2_with (go_at_call 87; refine (C _ (xr _)).mono ?_; rintro e w1 ⟨rfl, e1⟩)
   go_ret
   exact ⟨rfl, xt X0 e1⟩
  ·
   cases p
   all_goals
    go_enter Tryz.func34, Tryz.ntmps34
    go_wp2_with (go_at_call 87; refine (C _ (xr _)).mono ?_; rintro e w1 ⟨rfl, e1⟩; have a4 := ((B.later e1) 4 _ rfl).1)
    go_ret
    exact ⟨rfl, xt X0 e1⟩
 ·
  by_cases hz : zeroD n d x = true
  ·
   obtain ⟨rfl, rfl, rfl⟩ : n = false ∧ d = 0 ∧ x = 0 := by simpa [zeroD, and_assoc] using hz
   clear hz d1 d2 T1
   by_cases h0 : k = 0
   ·
    subst h0
    have e : goodV 0 false 0 0 t = p := by simp [goodV, zeroD, hp]
    rw [e]
    clear e
    cases p
    all_goals
     go_enter Tryz.func34, Tryz.ntmps34
     go_wp2_with fail
     go_ret
     exact ⟨rfl, X0⟩
   ·
    clear hp
    by_cases h2 : k = 2
    ·
     subst h2
     have C := fun W => plainI t W hl
     have e : goodV 2 false 0 0 t = (plainB t && decide ((t.length : Int) ≤ 1000)) := by
      have e2 : decide (t.length ≤ 1000) = decide ((t.length : Int) ≤ 1000) := decide_eq_decide.2 (by omega)
      simp [goodV, zeroD, printN, plainB, e2]
     rw [e]
     obtain ⟨m, hm⟩ : ∃ m, t.length = m := ⟨_, rfl⟩
     have hs : (⟨t.toArray⟩ : ByteArray).size = m := hm
     rw [hm] at hl ⊢
     obtain ⟨q, hq⟩ : ∃ q, plainB t = q := ⟨_, rfl⟩
     rw [hq] at C ⊢
     clear e hq hm h0 h1
     cases q
     all_goals
      go_enter Tryz.func34, Tryz.ntmps34
      go_wp2_with (go_at_call 88; refine (C _).mono ?_; rintro e w1 ⟨rfl, rfl⟩)
      go_ret
      exact ⟨ret_bool (by simp), X0⟩
    ·
     by_cases h3 : k = 3
     ·
      subst h3
      have C := fun W => boolI t W
      have e : goodV 3 false 0 0 t = boolB t := by simp [goodV, zeroD]
      rw [e]
      clear e h0 h1 h2
      go_enter Tryz.func34, Tryz.ntmps34
      go_wp2_with (go_at_call 49; refine (C _).mono ?_; rintro e w1 ⟨rfl, rfl⟩)
      go_ret
      exact ⟨rfl, X0⟩
     ·
      by_cases h4 : k = 4
      ·
       subst h4
       have C := errI t _ E1
       have e : goodV 4 false 0 0 t = memB errL t := by simp [goodV, zeroD]
       rw [e]
       clear e h0 h1 h2 h3
       go_enter Tryz.func34, Tryz.ntmps34
       go_wp2_with (go_at_call 51; refine C.mono ?_; rintro e w1 ⟨rfl, rfl⟩)
       go_ret
       exact ⟨rfl, X0⟩
      ·
       have e : goodV k false 0 0 t = false := by simp [goodV, zeroD, h0, h1, h2, h3, h4]
       rw [e]
       clear e
       go_enter Tryz.func34, Tryz.ntmps34
       go_wp2_with fail
       go_ret
       exact ⟨rfl, X0⟩
  ·
   have e : goodV k n d x t = false := by simp only [Bool.not_eq_true] at hz; simp [goodV, hz, h1]
   rw [e]
   clear e hp B T1 E1 hl
   have hz' : n = true ∨ (n = false ∧ (d ≠ 0 ∨ (d = 0 ∧ x ≠ 0))) := by
    cases n
    ·
     right
     refine ⟨rfl, ?_⟩
     by_cases hd : d = 0
     ·
      right
      refine ⟨hd, fun hx => hz ?_⟩
      simp [zeroD, hd, hx]
     ·
      exact Or.inl hd
    ·
     exact Or.inl rfl
   clear hz
   rcases hz' with rfl | ⟨rfl, hd | ⟨rfl, hx⟩⟩
   all_goals
    go_enter Tryz.func34, Tryz.ntmps34
    go_wp2_with fail
    go_ret
    exact ⟨rfl, X0⟩

set_option maxRecDepth 8000 in
set_option maxHeartbeats 2000000 in
theorem goodVS (k : Int) (n : Bool) (d x : Int) (t : List UInt8) (w : World) (hl : t.length ≤ 2000000) :
  Calls Tryz.prog 11 #[valV k n d x t] w fun e w' => e = .returned (.bool (goodV k n d x t)) ∧ Ext w w' := by
 have X0 := x1 w (.cells #[.int .i64 k, .bool n, .int .i64 d, .int .i64 x, sV t] 26)
 have B := vec_made w (valL k n d x t) 26
 obtain ⟨p, hp⟩ : ∃ p, (t == []) = p := ⟨_, rfl⟩
 by_cases h1 : k = 1
 ·
  subst h1
  have C := fun W => goodS n d x W
  have e : goodV 1 n d x t = (goodB n d x && p) := by simp [goodV, hp]
  rw [e]
  obtain ⟨q, hq⟩ : ∃ q, goodB n d x = q := ⟨_, rfl⟩
  rw [hq] at C ⊢
  clear e hq
  cases p
  ·
   go_enter Tryz.func11, Tryz.ntmps11
   go_wp2_with fail
   go_ret
   exact ⟨ret_bool (by simp), X0⟩
  ·
   go_enter Tryz.func11, Tryz.ntmps11
   go_wp2_with (go_at_call 43; refine (C _).mono ?_; rintro e w1 ⟨rfl, e1⟩)
   go_ret
   exact ⟨ret_bool (by simp), xt X0 e1⟩
 ·
  by_cases hz : zeroD n d x = true
  ·
   obtain ⟨rfl, rfl, rfl⟩ : n = false ∧ d = 0 ∧ x = 0 := by simpa [zeroD, and_assoc] using hz
   clear hz
   by_cases h0 : k = 0
   ·
    subst h0
    have e : goodV 0 false 0 0 t = p := by simp [goodV, zeroD, hp]
    rw [e]
    clear e
    cases p
    all_goals
     go_enter Tryz.func11, Tryz.ntmps11
     go_wp2_with fail
     go_ret
     exact ⟨rfl, X0⟩
   ·
    clear hp
    by_cases h2 : k = 2
    ·
     subst h2
     have C := fun W => printS 1000 t W hl
     have e : goodV 2 false 0 0 t = printN 1000 t := by simp [goodV, zeroD]
     rw [e]
     clear e h0 h1
     go_enter Tryz.func11, Tryz.ntmps11
     go_wp2_with (go_at_call 44; refine (C _).mono ?_; rintro e w1 ⟨rfl, rfl⟩)
     go_ret
     exact ⟨rfl, X0⟩
    ·
     by_cases h3 : k = 3
     ·
      subst h3
      obtain ⟨p, hp⟩ : ∃ p, (t == [84, 82, 85, 69]) = p := ⟨_, rfl⟩
      obtain ⟨q, hq⟩ : ∃ q, (t == [70, 65, 76, 83, 69]) = q := ⟨_, rfl⟩
      have e : goodV 3 false 0 0 t = (p || q) := by simp only [goodV, zeroD, boolB, hp, hq]; rfl
      rw [e]
      clear e h0 h1 h2
      cases p <;> cases q
      all_goals
       go_enter Tryz.func11, Tryz.ntmps11
       go_wp2_with fail
       go_ret
       exact ⟨rfl, X0⟩
     ·
      by_cases h4 : k = 4
      ·
       subst h4
       have C := fun W => errorsS W
       have D := fun g W V => inS errL t g 9 W (by decide) V
       have e : goodV 4 false 0 0 t = memB errL t := by simp [goodV, zeroD]
       rw [e]
       clear e h0 h1 h2 h3
       go_enter Tryz.func11, Tryz.ntmps11
       go_wp2_with fail
       go_region_with (first
        | (go_at_call 46; refine (C _).mono ?_; rintro e w1 ⟨g, rfl, V, e1⟩; have a4 := ((B.later (xt (xd (xr _)) e1)) 4 _ rfl).1)
        | (go_at_call 45; refine (D g _ V).mono ?_; rintro e w2 ⟨rfl, rfl⟩))
       all_goals
        go_wp2_with fail
        go_ret
        exact ⟨rfl, xt (xd X0) e1⟩
      ·
       have e : goodV k false 0 0 t = false := by simp [goodV, zeroD, h0, h1, h2, h3, h4]
       rw [e]
       clear e
       go_enter Tryz.func11, Tryz.ntmps11
       go_wp2_with fail
       go_ret
       exact ⟨rfl, X0⟩
  ·
   have e : goodV k n d x t = false := by simp only [Bool.not_eq_true] at hz; simp [goodV, hz, h1]
   rw [e]
   clear e B hl
   have hz' : n = true ∨ (n = false ∧ (d ≠ 0 ∨ (d = 0 ∧ x ≠ 0))) := by
    cases n
    ·
     right
     refine ⟨rfl, ?_⟩
     by_cases hd : d = 0
     ·
      right
      refine ⟨hd, fun hx => hz ?_⟩
      simp [zeroD, hd, hx]
     ·
      exact Or.inl hd
    ·
     exact Or.inl rfl
   clear hz
   by_cases h0 : k = 0
   ·
    subst h0
    cases p
    all_goals rcases hz' with rfl | ⟨rfl, hd | ⟨rfl, hx⟩⟩
    all_goals
     go_enter Tryz.func11, Tryz.ntmps11
     go_wp2_with fail
     go_ret
     exact ⟨rfl, X0⟩
   ·
    clear hp
    rcases hz' with rfl | ⟨rfl, hd | ⟨rfl, hx⟩⟩
    all_goals
     go_enter Tryz.func11, Tryz.ntmps11
     go_wp2_with fail
     go_ret
     exact ⟨rfl, X0⟩

/-- Stores in a row, from an offset on. -/
def setL (w : World) (b : Nat) : Nat → List Value → World
 | _, [] => w
 | o, v :: vs => setL (w.setCell ⟨b, o, none⟩ v) b (o + 1) vs
theorem Vec.farL {b k : Nat} {l : List Value} (hk : k ≠ b) : ∀ (us : List Value) (o : Nat) {w : World}, Vec w b l → Vec (setL w k o us) b l
 | [], _, _, h => h
 | u :: us, o, _, h => Vec.farL hk us (o + 1) (h.far hk u)
theorem Ext.setL {a : World} {b : Nat} (hb : a.heap.size ≤ b) : ∀ (us : List Value) (o : Nat) {w : World}, Ext a w → Ext a (setL w b o us)
 | [], _, _, h => h
 | u :: us, o, _, h => Ext.setL hb us (o + 1) (xset h hb u)
theorem Vec.put5 {w : World} {b : Nat} {v0 v1 v2 v3 v4 : Value} (h : Vec w b [v0, v1, v2, v3, v4]) (u0 u1 u2 u3 u4 : Value) : Vec (setL w b 0 [u0, u1, u2, u3, u4]) b [u0, u1, u2, u3, u4] :=
 ((((h.put 0 (by simp) u0).put 1 (by simp) u1).put 2 (by simp) u2).put 3 (by simp) u3).put 4 (by simp) u4

set_option maxRecDepth 8000 in
set_option maxHeartbeats 1000000 in
theorem toValue (k : Int) (n : Bool) (d x : Int) (t : List UInt8) (w : World) :
  Calls Tryz.prog 21 #[valV k n d x t] w fun e w' => e = .returned (valV k n d x t) ∧ Ext w w' := by
 have X1 := x1 w (.cells #[.int .i64 k, .bool n, .int .i64 d, .int .i64 x, sV t] 44)
 have B1 := vec_made w (valL k n d x t) 44
 obtain ⟨wa, ha⟩ : ∃ wa, w.alloc (.cells #[.int .i64 k, .bool n, .int .i64 d, .int .i64 x, sV t] 44) = wa := ⟨_, rfl⟩
 have B2 := vec_made wa (valL 0 false 0 0 []) 26
 have X2 := x1 wa (.cells #[.int .i64 0, .bool false, .int .i64 0, .int .i64 0, sV []] 26)
 obtain ⟨wb, hb⟩ : ∃ wb, wa.alloc (.cells #[.int .i64 0, .bool false, .int .i64 0, .int .i64 0, sV []] 26) = wb := ⟨_, rfl⟩
 have B3 := vec_made wb (valL 0 false 0 0 []) 26
 have X3 := x1 wb (.cells #[.int .i64 0, .bool false, .int .i64 0, .int .i64 0, sV []] 26)
 have sa : wa.heap.size = w.heap.size + 1 := by rw [← ha, World.size_alloc]
 have sb : wb.heap.size = w.heap.size + 1 + 1 := by rw [← hb, World.size_alloc, sa]
 change Vec (w.alloc (.cells #[.int .i64 k, .bool n, .int .i64 d, .int .i64 x, sV t] 44)) _ _ at B1
 change Vec (wa.alloc (.cells #[.int .i64 0, .bool false, .int .i64 0, .int .i64 0, sV []] 26)) _ _ at B2
 change Vec (wb.alloc (.cells #[.int .i64 0, .bool false, .int .i64 0, .int .i64 0, sV []] 26)) _ _ at B3
 rw [ha] at X1 B1
 rw [hb] at X2 B2
 rw [sa] at B2
 rw [sb] at B3
 have X := xt (xt X1 X2) X3
 have B1 := (B1.later X2).later X3
 have B2 := B2.later X3
 clear X1 X2 X3
 obtain ⟨wc, hc⟩ : ∃ wc, wb.alloc (.cells #[.int .i64 0, .bool false, .int .i64 0, .int .i64 0, sV []] 26) = wc := ⟨_, rfl⟩
 rw [hc] at B1 B2 B3 X
 have a0 := (B1 0 _ rfl).1
 have a1 := (B1 1 _ rfl).1
 have a2 := (B1 2 _ rfl).1
 have a3 := (B1 3 _ rfl).1
 have c0 := (B3 0 _ rfl).1
 have f0 := (B3 0 _ rfl).2
 go_enter Tryz.func21, Tryz.ntmps21
 go_wp2_with fail
 clear ha hb hc sa sb a0 a1 a2 a3 c0 f0
 refine (toDec n d x _).mono ?_
 rintro e w1 ⟨rfl, e1⟩
 have C1 := (B1.far (p := ⟨w.heap.size + 1 + 1, 0, none⟩) (by show w.heap.size + 1 + 1 ≠ _; omega) (.int .i64 k)).later e1
 have C2 := (B2.far (p := ⟨w.heap.size + 1 + 1, 0, none⟩) (by show w.heap.size + 1 + 1 ≠ _; omega) (.int .i64 k)).later e1
 have C3 : Vec w1 (w.heap.size + 1 + 1) (valL k false 0 0 []) := (B3.put 0 (by simp) (.int .i64 k)).later e1
 have X1 := xt (xset X (p := ⟨w.heap.size + 1 + 1, 0, none⟩) (by show _ ≤ w.heap.size + 1 + 1; omega) (.int .i64 k)) e1
 clear B1 B2 B3 X e1
 obtain ⟨wd, hd⟩ : ∃ wd, setL w1 (w.heap.size + 1 + 1) 1 [.bool n, .int .i64 d, .int .i64 x, sV t] = wd := ⟨_, rfl⟩
 have D2 := C2.farL (k := w.heap.size + 1 + 1) (by omega) [.bool n, .int .i64 d, .int .i64 x, sV t] 1
 have D3 : Vec (setL w1 (w.heap.size + 1 + 1) 1 [.bool n, .int .i64 d, .int .i64 x, sV t]) (w.heap.size + 1 + 1) (valL k n d x t) := (((C3.put 1 (by simp) (.bool n)).put 2 (by simp) (.int .i64 d)).put 3 (by simp) (.int .i64 x)).put 4 (by simp) (sV t)
 have Y := Ext.setL (b := w.heap.size + 1 + 1) (by omega) [.bool n, .int .i64 d, .int .i64 x, sV t] 1 X1
 rw [hd] at D2 D3 Y
 have hd : (((w1.setCell ⟨w.heap.size + 1 + 1, 1, none⟩ (.bool n)).setCell ⟨w.heap.size + 1 + 1, 2, none⟩ (.int .i64 d)).setCell ⟨w.heap.size + 1 + 1, 3, none⟩ (.int .i64 x)).setCell ⟨w.heap.size + 1 + 1, 4, none⟩ (sV t) = wd := hd
 have G2 := D2.put5 (.int .i64 k) (.bool n) (.int .i64 d) (.int .i64 x) (sV t)
 have Z := Ext.setL (b := w.heap.size + 1) (by omega) [.int .i64 k, .bool n, .int .i64 d, .int .i64 x, sV t] 0 Y
 obtain ⟨wy, hy⟩ : ∃ wy, setL wd (w.heap.size + 1) 0 [.int .i64 k, .bool n, .int .i64 d, .int .i64 x, sV t] = wy := ⟨_, rfl⟩
 rw [hy] at G2 Z
 have hy : ((((wd.setCell ⟨w.heap.size + 1, 0, none⟩ (.int .i64 k)).setCell ⟨w.heap.size + 1, 1, none⟩ (.bool n)).setCell ⟨w.heap.size + 1, 2, none⟩ (.int .i64 d)).setCell ⟨w.heap.size + 1, 3, none⟩ (.int .i64 x)).setCell ⟨w.heap.size + 1, 4, none⟩ (sV t) = wy := hy
 have a4 := (C1 4 _ rfl).1
 have k0 := (C3 0 _ rfl).1
 have k1 := (C3 1 _ rfl).1
 have k2 := (C3 2 _ rfl).1
 have k3 := (C3 3 _ rfl).1
 have k4 := (C3 4 _ rfl).1
 have f1 := (C3 1 _ rfl).2
 have f2 := (C3 2 _ rfl).2
 have f3 := (C3 3 _ rfl).2
 have f4 := (C3 4 _ rfl).2
 have m0 := (D3 0 _ rfl).1
 have m1 := (D3 1 _ rfl).1
 have m2 := (D3 2 _ rfl).1
 have m3 := (D3 3 _ rfl).1
 have m4 := (D3 4 _ rfl).1
 have b0 := (D2 0 _ rfl).1
 have b1 := (D2 1 _ rfl).1
 have b2 := (D2 2 _ rfl).1
 have b3 := (D2 3 _ rfl).1
 have b4 := (D2 4 _ rfl).1
 have g0 := (D2 0 _ rfl).2
 have g1 := (D2 1 _ rfl).2
 have g2 := (D2 2 _ rfl).2
 have g3 := (D2 3 _ rfl).2
 have g4 := (D2 4 _ rfl).2
 have d0 := (G2 0 _ rfl).1
 have d1 := (G2 1 _ rfl).1
 have d2 := (G2 2 _ rfl).1
 have d3 := (G2 3 _ rfl).1
 have d4 := (G2 4 _ rfl).1
 clear C1 C2 C3 D2 D3 G2 X1 Y
 go_wp2_with fail
 exact bodyPost_ret (v := valV k n d x t) (by simp [results, Tryz.results21, go_sem, d0, d1, d2, d3, d4]) rfl ⟨rfl, Z⟩

set_option maxHeartbeats 1000000 in
theorem szValue (k : Int) (n : Bool) (d x : Int) (t : List UInt8) (m : Int) (w : World) (h0 : 0 ≤ m) (h1 : m ≤ 1048576) (hl : (t.length : Int) ≤ 9223372036854775807) :
  Calls Tryz.prog 20 #[valV k n d x t, .int .i64 m] w fun e w' => e = .returned (.int .i64 (if m < t.length then -1 else m - t.length)) ∧ Ext w w' := by
 have X0 := x1 w (.cells #[.int .i64 k, .bool n, .int .i64 d, .int .i64 x, sV t] 44)
 obtain ⟨L, hL⟩ : ∃ L, t.length = L := ⟨_, rfl⟩
 have hs : (⟨t.toArray⟩ : ByteArray).size = L := hL
 rw [hL] at hl ⊢
 clear hL
 by_cases hm : m < L
 ·
  rw [if_pos hm]
  go_enter Tryz.func20, Tryz.ntmps20
  go_wp2_with fail
  go_ret
  exact ⟨rfl, X0⟩
 ·
  rw [if_neg hm]
  go_enter Tryz.func20, Tryz.ntmps20
  go_wp2_with fail
  go_ret
  exact ⟨ret_int (by first | rfl | omega), X0⟩

set_option maxHeartbeats 1000000 in
theorem eqDecV_same (n : Bool) (d x : Int) (w : World) :
  Calls Tryz.prog 72 #[decV n d x, decV n d x] w fun e w' => e = .returned (.bool true) ∧ Ext w w' := by
 go_enter Tryz.func72, Tryz.ntmps72
 go_wp2
 all_goals go_ret
 all_goals first | exact ⟨rfl, xa (x1 _ _) _⟩ | simp_all
set_option maxRecDepth 8000 in
set_option maxHeartbeats 1000000 in
theorem eqValue_same (k : Int) (n : Bool) (d x : Int) (t : List UInt8) (w : World) :
  Calls Tryz.prog 22 #[valV k n d x t, valV k n d x t] w fun e w' => e = .returned (.bool true) ∧ Ext w w' := by
 have B1 := vec_made w (valL k n d x t) 26
 have B2 := vec_made (w.alloc (.cells (valL k n d x t).toArray 26)) (valL k n d x t) 26
 have X := xa (x1 w (.cells #[.int .i64 k, .bool n, .int .i64 d, .int .i64 x, sV t] 26)) (.cells #[.int .i64 k, .bool n, .int .i64 d, .int .i64 x, sV t] 26)
 have B1 := B1.later (x1 _ (.cells #[.int .i64 k, .bool n, .int .i64 d, .int .i64 x, sV t] 26))
 rw [World.size_alloc] at B2
 have hp : (t == t) = true := by simp
 go_enter Tryz.func22, Tryz.ntmps22
 go_wp2_with fail
 refine (eqDecV_same _ _ _ _).mono ?_
 rintro e w1 ⟨rfl, e1⟩
 have a4 := ((B1.later e1) 4 _ rfl).1
 have b4 := ((B2.later e1) 4 _ rfl).1
 go_wp2_with fail
 go_ret
 exact ⟨rfl, xt X e1⟩

abbrev errT : List UInt8 := [35, 86, 65, 76, 85, 69, 33]
abbrev trueT : List UInt8 := [84, 82, 85, 69]
abbrev falseT : List UInt8 := [70, 65, 76, 83, 69]
abbrev boolW (b : Bool) : Value := valV 3 false 0 0 (if b then trueT else falseT)
abbrev errW : Value := valV 4 false 0 0 errT
set_option maxHeartbeats 1000000 in
theorem textVI (l : List UInt8) (w : World) : Calls Tryz.prog 53 #[sV l] w fun e w' => e = .returned (valV 2 false 0 0 l) ∧ Ext w w' := by
 go_enter Tryz.func53, Tryz.ntmps53
 go_wp2
 exact bodyPost_ret (v := valV 2 false 0 0 l) (by simp [results, Tryz.results53, go_sem]) rfl ⟨rfl, by first | exact x1 _ _ | exact xa (x1 _ _) _⟩
set_option maxHeartbeats 1000000 in
theorem textVS (l : List UInt8) (w : World) : Calls Tryz.prog 81 #[sV l] w fun e w' => e = .returned (valV 2 false 0 0 l) ∧ Ext w w' := by
 go_enter Tryz.func81, Tryz.ntmps81
 go_wp2
 exact bodyPost_ret (v := valV 2 false 0 0 l) (by simp [results, Tryz.results81, go_sem]) rfl ⟨rfl, by first | exact x1 _ _ | exact xa (x1 _ _) _⟩
set_option maxHeartbeats 1000000 in
theorem errVI (l : List UInt8) (w : World) : Calls Tryz.prog 52 #[sV l] w fun e w' => e = .returned (valV 4 false 0 0 l) ∧ Ext w w' := by
 go_enter Tryz.func52, Tryz.ntmps52
 go_wp2
 exact bodyPost_ret (v := valV 4 false 0 0 l) (by simp [results, Tryz.results52, go_sem]) rfl ⟨rfl, by first | exact x1 _ _ | exact xa (x1 _ _) _⟩
set_option maxHeartbeats 1000000 in
theorem errVS (l : List UInt8) (w : World) : Calls Tryz.prog 69 #[sV l] w fun e w' => e = .returned (valV 4 false 0 0 l) ∧ Ext w w' := by
 go_enter Tryz.func69, Tryz.ntmps69
 go_wp2
 exact bodyPost_ret (v := valV 4 false 0 0 l) (by simp [results, Tryz.results69, go_sem]) rfl ⟨rfl, by first | exact x1 _ _ | exact xa (x1 _ _) _⟩
set_option maxHeartbeats 1000000 in
theorem numVI (n : Bool) (d x : Int) (w : World) : Calls Tryz.prog 48 #[decV n d x] w fun e w' => e = .returned (valV 1 n d x []) ∧ Ext w w' := by
 go_enter Tryz.func48, Tryz.ntmps48
 go_wp2
 exact bodyPost_ret (v := valV 1 n d x []) (by simp [results, Tryz.results48, go_sem]) rfl ⟨rfl, by first | exact x1 _ _ | exact xa (x1 _ _) _⟩
set_option maxHeartbeats 1000000 in
theorem numVS (n : Bool) (d x : Int) (w : World) : Calls Tryz.prog 84 #[decV n d x] w fun e w' => e = .returned (valV 1 n d x []) ∧ Ext w w' := by
 go_enter Tryz.func84, Tryz.ntmps84
 go_wp2
 exact bodyPost_ret (v := valV 1 n d x []) (by simp [results, Tryz.results84, go_sem]) rfl ⟨rfl, by first | exact x1 _ _ | exact xa (x1 _ _) _⟩
set_option maxHeartbeats 1000000 in
theorem boolVI (b : Bool) (w : World) : Calls Tryz.prog 50 #[.bool b] w fun e w' => e = .returned (boolW b) ∧ Ext w w' := by
 cases b
 ·
  go_enter Tryz.func50, Tryz.ntmps50
  go_wp2
  exact bodyPost_ret (v := valV 3 false 0 0 falseT) (by simp [results, Tryz.results50, go_sem, falseT]) rfl ⟨rfl, x1 _ _⟩
 ·
  go_enter Tryz.func50, Tryz.ntmps50
  go_wp2
  exact bodyPost_ret (v := valV 3 false 0 0 trueT) (by simp [results, Tryz.results50, go_sem, trueT]) rfl ⟨rfl, x1 _ _⟩
set_option maxHeartbeats 1000000 in
theorem boolVS (b : Bool) (w : World) : Calls Tryz.prog 83 #[.bool b] w fun e w' => e = .returned (boolW b) ∧ Ext w w' := by
 cases b
 ·
  go_enter Tryz.func83, Tryz.ntmps83
  go_wp2
  exact bodyPost_ret (v := valV 3 false 0 0 falseT) (by simp [results, Tryz.results83, go_sem, falseT]) rfl ⟨rfl, x1 _ _⟩
 ·
  go_enter Tryz.func83, Tryz.ntmps83
  go_wp2
  exact bodyPost_ret (v := valV 3 false 0 0 trueT) (by simp [results, Tryz.results83, go_sem, trueT]) rfl ⟨rfl, x1 _ _⟩
theorem goodV_num {n : Bool} {d x : Int} {t : List UInt8} (h : goodV 1 n d x t = true) : goodB n d x = true ∧ t = [] := by simpa [goodV] using h
theorem goodV_zero {k : Int} {n : Bool} {d x : Int} {t : List UInt8} (h : goodV k n d x t = true) (h1 : k ≠ 1) : n = false ∧ d = 0 ∧ x = 0 := by
 simp only [goodV, h1, if_false, Bool.and_eq_true] at h
 have := h.1
 simpa [zeroD, and_assoc] using this
theorem goodV_empty {n : Bool} {d x : Int} {t : List UInt8} (h : goodV 0 n d x t = true) : t = [] := by simpa [goodV] using (show _ ∧ _ by simpa [goodV] using h).2

theorem Vec.three {w : World} {b : Nat} {v0 v1 v2 : Value} (h : Vec w b [v0, v1, v2]) : w.cell? ⟨b, 0, none⟩ = some v0 ∧ w.cell? ⟨b, 1, none⟩ = some v1 ∧ w.cell? ⟨b, 2, none⟩ = some v2 :=
 ⟨(h 0 _ rfl).1, (h 1 _ rfl).1, (h 2 _ rfl).1⟩
theorem Vec.threeF {w : World} {b : Nat} {v0 v1 v2 : Value} (h : Vec w b [v0, v1, v2]) : w.frozen? ⟨b, 0, none⟩ = false ∧ w.frozen? ⟨b, 1, none⟩ = false ∧ w.frozen? ⟨b, 2, none⟩ = false :=
 ⟨(h 0 _ rfl).2, (h 1 _ rfl).2, (h 2 _ rfl).2⟩
theorem Vec.four {w : World} {b : Nat} {v0 v1 v2 v3 : Value} (h : Vec w b [v0, v1, v2, v3]) : w.cell? ⟨b, 0, none⟩ = some v0 ∧ w.cell? ⟨b, 1, none⟩ = some v1 ∧ w.cell? ⟨b, 2, none⟩ = some v2 ∧ w.cell? ⟨b, 3, none⟩ = some v3 :=
 ⟨(h 0 _ rfl).1, (h 1 _ rfl).1, (h 2 _ rfl).1, (h 3 _ rfl).1⟩
theorem Vec.fourF {w : World} {b : Nat} {v0 v1 v2 v3 : Value} (h : Vec w b [v0, v1, v2, v3]) : w.frozen? ⟨b, 0, none⟩ = false ∧ w.frozen? ⟨b, 1, none⟩ = false ∧ w.frozen? ⟨b, 2, none⟩ = false ∧ w.frozen? ⟨b, 3, none⟩ = false :=
 ⟨(h 0 _ rfl).2, (h 1 _ rfl).2, (h 2 _ rfl).2, (h 3 _ rfl).2⟩
theorem Vec.five {w : World} {b : Nat} {v0 v1 v2 v3 v4 : Value} (h : Vec w b [v0, v1, v2, v3, v4]) : w.cell? ⟨b, 0, none⟩ = some v0 ∧ w.cell? ⟨b, 1, none⟩ = some v1 ∧ w.cell? ⟨b, 2, none⟩ = some v2 ∧ w.cell? ⟨b, 3, none⟩ = some v3 ∧ w.cell? ⟨b, 4, none⟩ = some v4 :=
 ⟨(h 0 _ rfl).1, (h 1 _ rfl).1, (h 2 _ rfl).1, (h 3 _ rfl).1, (h 4 _ rfl).1⟩
theorem Vec.fiveF {w : World} {b : Nat} {v0 v1 v2 v3 v4 : Value} (h : Vec w b [v0, v1, v2, v3, v4]) : w.frozen? ⟨b, 0, none⟩ = false ∧ w.frozen? ⟨b, 1, none⟩ = false ∧ w.frozen? ⟨b, 2, none⟩ = false ∧ w.frozen? ⟨b, 3, none⟩ = false ∧ w.frozen? ⟨b, 4, none⟩ = false :=
 ⟨(h 0 _ rfl).2, (h 1 _ rfl).2, (h 2 _ rfl).2, (h 3 _ rfl).2, (h 4 _ rfl).2⟩
/-- The last store into an answer's cells. -/
theorem fin5 {a w : World} {b : Nat} (V : Vec w b (valL 0 false 0 0 [])) (X : Ext a w) (hb : a.heap.size ≤ b) (k : Int) (n : Bool) (d x : Int) (t : List UInt8) :
  ∃ wy, (((((w.setCell ⟨b, 0, none⟩ (.int .i64 k)).setCell ⟨b, 1, none⟩ (.bool n)).setCell ⟨b, 2, none⟩ (.int .i64 d)).setCell ⟨b, 3, none⟩ (.int .i64 x)).setCell ⟨b, 4, none⟩ (sV t)) = wy ∧ Ext a wy ∧ (w.cell? ⟨b, 0, none⟩ = some (.int .i64 0) ∧ w.cell? ⟨b, 1, none⟩ = some (.bool false) ∧ w.cell? ⟨b, 2, none⟩ = some (.int .i64 0) ∧ w.cell? ⟨b, 3, none⟩ = some (.int .i64 0) ∧ w.cell? ⟨b, 4, none⟩ = some (sV [])) ∧ (w.frozen? ⟨b, 0, none⟩ = false ∧ w.frozen? ⟨b, 1, none⟩ = false ∧ w.frozen? ⟨b, 2, none⟩ = false ∧ w.frozen? ⟨b, 3, none⟩ = false ∧ w.frozen? ⟨b, 4, none⟩ = false) ∧ wy.cell? ⟨b, 0, none⟩ = some (.int .i64 k) ∧ wy.cell? ⟨b, 1, none⟩ = some (.bool n) ∧ wy.cell? ⟨b, 2, none⟩ = some (.int .i64 d) ∧ wy.cell? ⟨b, 3, none⟩ = some (.int .i64 x) ∧ wy.cell? ⟨b, 4, none⟩ = some (sV t) := by
 have FG := V.put5 (.int .i64 k) (.bool n) (.int .i64 d) (.int .i64 x) (sV t)
 have FX := Ext.setL (b := b) hb [.int .i64 k, .bool n, .int .i64 d, .int .i64 x, sV t] 0 X
 exact ⟨_, rfl, FX, V.five, V.fiveF, FG.five⟩
/-- A box of a value made and filled. -/
theorem newB (w : World) (k : Int) (n : Bool) (d x : Int) (t : List UInt8) :
  ∃ wz wy, w.alloc (.cells #[.int .i64 0, .bool false, .int .i64 0, .int .i64 0, sV []] 26) = wz ∧ (((((wz.setCell ⟨w.heap.size, 0, none⟩ (.int .i64 k)).setCell ⟨w.heap.size, 1, none⟩ (.bool n)).setCell ⟨w.heap.size, 2, none⟩ (.int .i64 d)).setCell ⟨w.heap.size, 3, none⟩ (.int .i64 x)).setCell ⟨w.heap.size, 4, none⟩ (sV t)) = wy ∧ Vec wy w.heap.size (valL k n d x t) ∧ Ext w wy ∧ (wz.cell? ⟨w.heap.size, 0, none⟩ = some (.int .i64 0) ∧ wz.cell? ⟨w.heap.size, 1, none⟩ = some (.bool false) ∧ wz.cell? ⟨w.heap.size, 2, none⟩ = some (.int .i64 0) ∧ wz.cell? ⟨w.heap.size, 3, none⟩ = some (.int .i64 0) ∧ wz.cell? ⟨w.heap.size, 4, none⟩ = some (sV [])) ∧ wz.frozen? ⟨w.heap.size, 0, none⟩ = false ∧ wz.frozen? ⟨w.heap.size, 1, none⟩ = false ∧ wz.frozen? ⟨w.heap.size, 2, none⟩ = false ∧ wz.frozen? ⟨w.heap.size, 3, none⟩ = false ∧ wz.frozen? ⟨w.heap.size, 4, none⟩ = false := by
 have Z := vec_made w (valL 0 false 0 0 []) 26
 exact ⟨_, _, rfl, rfl, Z.put5 (.int .i64 k) (.bool n) (.int .i64 d) (.int .i64 x) (sV t), Ext.setL (b := w.heap.size) (Nat.le_refl _) [.int .i64 k, .bool n, .int .i64 d, .int .i64 x, sV t] 0 (x1 w _), Z.five, Z.fiveF⟩
theorem mkB2 (w : World) (l0 l1 : List Value) (T0 T1 : TypeId) : ∃ u0 u1, w.alloc (.cells l0.toArray T0) = u0 ∧ u0.alloc (.cells l1.toArray T1) = u1 ∧ u0.heap.size = w.heap.size + 1 ∧ u1.heap.size = w.heap.size + 1 + 1 ∧ Vec u1 (w.heap.size) l0 ∧ Vec u1 (w.heap.size + 1) l1 ∧ Ext w u1 := by
 have X0 := x1 w (.cells l0.toArray T0)
 have B0 := vec_made w l0 T0
 obtain ⟨u0, h0⟩ : ∃ u, w.alloc (.cells l0.toArray T0) = u := ⟨_, rfl⟩
 rw [h0] at X0 B0
 have s0 : u0.heap.size = w.heap.size + 1 := by rw [← h0, World.size_alloc]
 have X := X0
 have X1 := x1 u0 (.cells l1.toArray T1)
 have B1 := vec_made u0 l1 T1
 obtain ⟨u1, h1⟩ : ∃ u, u0.alloc (.cells l1.toArray T1) = u := ⟨_, rfl⟩
 rw [h1] at X1 B1
 rw [s0] at B1
 have s1 : u1.heap.size = w.heap.size + 1 + 1 := by rw [← h1, World.size_alloc, s0]
 have B0 := B0.later X1
 have X := xt X X1
 exact ⟨u0, u1, h0, h1, s0, s1, B0, B1, X⟩
theorem mkB3 (w : World) (l0 l1 l2 : List Value) (T0 T1 T2 : TypeId) : ∃ u0 u1 u2, w.alloc (.cells l0.toArray T0) = u0 ∧ u0.alloc (.cells l1.toArray T1) = u1 ∧ u1.alloc (.cells l2.toArray T2) = u2 ∧ u0.heap.size = w.heap.size + 1 ∧ u1.heap.size = w.heap.size + 1 + 1 ∧ u2.heap.size = w.heap.size + 1 + 1 + 1 ∧ Vec u2 (w.heap.size) l0 ∧ Vec u2 (w.heap.size + 1) l1 ∧ Vec u2 (w.heap.size + 1 + 1) l2 ∧ Ext w u2 := by
 have X0 := x1 w (.cells l0.toArray T0)
 have B0 := vec_made w l0 T0
 obtain ⟨u0, h0⟩ : ∃ u, w.alloc (.cells l0.toArray T0) = u := ⟨_, rfl⟩
 rw [h0] at X0 B0
 have s0 : u0.heap.size = w.heap.size + 1 := by rw [← h0, World.size_alloc]
 have X := X0
 have X1 := x1 u0 (.cells l1.toArray T1)
 have B1 := vec_made u0 l1 T1
 obtain ⟨u1, h1⟩ : ∃ u, u0.alloc (.cells l1.toArray T1) = u := ⟨_, rfl⟩
 rw [h1] at X1 B1
 rw [s0] at B1
 have s1 : u1.heap.size = w.heap.size + 1 + 1 := by rw [← h1, World.size_alloc, s0]
 have B0 := B0.later X1
 have X := xt X X1
 have X2 := x1 u1 (.cells l2.toArray T2)
 have B2 := vec_made u1 l2 T2
 obtain ⟨u2, h2⟩ : ∃ u, u1.alloc (.cells l2.toArray T2) = u := ⟨_, rfl⟩
 rw [h2] at X2 B2
 rw [s1] at B2
 have s2 : u2.heap.size = w.heap.size + 1 + 1 + 1 := by rw [← h2, World.size_alloc, s1]
 have B0 := B0.later X2
 have B1 := B1.later X2
 have X := xt X X2
 exact ⟨u0, u1, u2, h0, h1, h2, s0, s1, s2, B0, B1, B2, X⟩
theorem mkB4 (w : World) (l0 l1 l2 l3 : List Value) (T0 T1 T2 T3 : TypeId) : ∃ u0 u1 u2 u3, w.alloc (.cells l0.toArray T0) = u0 ∧ u0.alloc (.cells l1.toArray T1) = u1 ∧ u1.alloc (.cells l2.toArray T2) = u2 ∧ u2.alloc (.cells l3.toArray T3) = u3 ∧ u0.heap.size = w.heap.size + 1 ∧ u1.heap.size = w.heap.size + 1 + 1 ∧ u2.heap.size = w.heap.size + 1 + 1 + 1 ∧ u3.heap.size = w.heap.size + 1 + 1 + 1 + 1 ∧ Vec u3 (w.heap.size) l0 ∧ Vec u3 (w.heap.size + 1) l1 ∧ Vec u3 (w.heap.size + 1 + 1) l2 ∧ Vec u3 (w.heap.size + 1 + 1 + 1) l3 ∧ Ext w u3 := by
 have X0 := x1 w (.cells l0.toArray T0)
 have B0 := vec_made w l0 T0
 obtain ⟨u0, h0⟩ : ∃ u, w.alloc (.cells l0.toArray T0) = u := ⟨_, rfl⟩
 rw [h0] at X0 B0
 have s0 : u0.heap.size = w.heap.size + 1 := by rw [← h0, World.size_alloc]
 have X := X0
 have X1 := x1 u0 (.cells l1.toArray T1)
 have B1 := vec_made u0 l1 T1
 obtain ⟨u1, h1⟩ : ∃ u, u0.alloc (.cells l1.toArray T1) = u := ⟨_, rfl⟩
 rw [h1] at X1 B1
 rw [s0] at B1
 have s1 : u1.heap.size = w.heap.size + 1 + 1 := by rw [← h1, World.size_alloc, s0]
 have B0 := B0.later X1
 have X := xt X X1
 have X2 := x1 u1 (.cells l2.toArray T2)
 have B2 := vec_made u1 l2 T2
 obtain ⟨u2, h2⟩ : ∃ u, u1.alloc (.cells l2.toArray T2) = u := ⟨_, rfl⟩
 rw [h2] at X2 B2
 rw [s1] at B2
 have s2 : u2.heap.size = w.heap.size + 1 + 1 + 1 := by rw [← h2, World.size_alloc, s1]
 have B0 := B0.later X2
 have B1 := B1.later X2
 have X := xt X X2
 have X3 := x1 u2 (.cells l3.toArray T3)
 have B3 := vec_made u2 l3 T3
 obtain ⟨u3, h3⟩ : ∃ u, u2.alloc (.cells l3.toArray T3) = u := ⟨_, rfl⟩
 rw [h3] at X3 B3
 rw [s2] at B3
 have s3 : u3.heap.size = w.heap.size + 1 + 1 + 1 + 1 := by rw [← h3, World.size_alloc, s2]
 have B0 := B0.later X3
 have B1 := B1.later X3
 have B2 := B2.later X3
 have X := xt X X3
 exact ⟨u0, u1, u2, u3, h0, h1, h2, h3, s0, s1, s2, s3, B0, B1, B2, B3, X⟩

end Go.Proofs.YtkadkfmidlhedaaGreatDoor

