/-
  Several texts in one: Fk, FrameX, V6a.
-/
import Derived.Test.YtgpfddneablcpaaGreatDoorMg1
import Derived.Deep.Strs
import Derived.Stop.LaidErr
import Derived.Test.YtgpfddneablcpaaGreatDoorMg0
import Derived.Deep.RegionWith
namespace Go.Proofs.YtgpfddneablcpaaGreatDoor
open Go.RowKit

/-- Whether a text stands in a list. -/
def memB (L : List (List UInt8)) (l : List UInt8) : Bool := L.any fun t => t == l
theorem memB_yes {L : List (List UInt8)} {l t : List UInt8} {k : Nat} (h : L[k]? = some t) (e : (t == l) = true) : memB L l = true := by
 unfold memB
 rw [List.any_eq_true]
 exact ⟨t, List.mem_of_getElem? h, e⟩
theorem memB_no {L : List (List UInt8)} {l : List UInt8} (h : ∀ (j : Nat) (t : List UInt8), L[j]? = some t → (t == l) = false) : memB L l = false := by
 unfold memB
 rw [List.any_eq_false]
 intro t ht
 obtain ⟨j, hj⟩ := List.getElem?_of_mem ht
 rw [h j t hj]
 decide
def errL : List (List UInt8) := [[35, 78, 85, 76, 76, 33], [35, 68, 73, 86, 47, 48, 33], [35, 86, 65, 76, 85, 69, 33], [35, 82, 69, 70, 33], [35, 78, 65, 77, 69, 63], [35, 78, 85, 77, 33], [35, 78, 47, 65], [35, 83, 80, 73, 76, 76, 33], [35, 67, 89, 67, 76, 69, 33]]
set_option maxRecDepth 8000 in
set_option maxHeartbeats 1000000 in
theorem inS (L : List (List UInt8)) (l : List UInt8) (g cap : Nat) (w : World) (hL : L.length ≤ 100) (V : Vec w g (L.map sV)) :
  Calls Tryz.prog 52 #[.slice (some ⟨g, 0, none⟩) L.length cap, sV l] w fun e w' => e = .returned (.bool (memB L l)) ∧ w' = w := by
 obtain ⟨n, hn⟩ : ∃ n, L.length = n := ⟨_, rfl⟩
 have HN : Hid (L.length = n) := hn
 have HV : Hid (Vec w g (L.map sV)) := V
 have HY : Hid (∀ t (k : Nat), L[k]? = some t → (t == l) = true → memB L l = true) := fun t k h e => memB_yes h e
 have HX : Hid ((∀ (j : Nat) t, L[j]? = some t → (t == l) = false) → memB L l = false) := fun h => memB_no h
 obtain ⟨R, hR⟩ : ∃ R, memB L l = R := ⟨_, rfl⟩
 rw [hR] at HY HX ⊢
 rw [hn] at hL ⊢
 clear hn V hR
 go_enter Tryz.func52, Tryz.ntmps52
 go_wp2_with fail
 go_loop [9] (fun i => ∃ k : Nat, k ≤ n ∧ i = .int .i64 k ∧ Hid (∀ (j : Nat) t, j < k → L[j]? = some t → (t == l) = false)) (fun i => n - (intOf i).toNat)
 case atStart => exact ⟨0, by omega, rfl, fun j t hj => by omega⟩
 case round =>
  obtain ⟨k, hk, rfl, HA⟩ := hrel
  by_cases hlt : k < n
  ·
   obtain ⟨t, ht⟩ : ∃ t, L[k]? = some t := ⟨_, List.getElem?_eq_getElem (by rw [HN.out]; exact hlt)⟩
   have a0 := (HV.out k (sV t) (by rw [List.getElem?_map, ht]; rfl)).1
   have i2 : (k : Int) < (n : Int) := by omega
   obtain ⟨p, hp⟩ : ∃ p, (t == l) = p := ⟨_, rfl⟩
   cases p
   ·
    have HA2 : Hid (∀ (j : Nat) t, j < k + 1 → L[j]? = some t → (t == l) = false) := fun j t' hj h => by
     rcases Nat.lt_or_ge j k with hjk | hjk
     ·
      exact HA.out j t' hjk h
     ·
      obtain rfl : j = k := by omega
      rw [ht] at h
      cases h
      exact hp
    clear HA ht
    go_wp2_with fail
    go_round
    case rel => exact ⟨k + 1, by omega, by go_num, HA2⟩
    case measure => simp [intOf]; omega
   ·
    have hr := HY.out t k ht hp
    subst hr
    clear HA ht
    go_wp2_with fail
    go_ret
    exact ⟨rfl, rfl⟩
  ·
   obtain rfl : k = n := by omega
   have hr := HX.out (fun j t h => HA.out j t (by have := (List.getElem?_eq_some_iff.1 h).1; rw [HN.out] at this; exact this) h)
   subst hr
   clear HA
   go_wp2_with fail
   go_ret
   exact ⟨rfl, rfl⟩

set_option maxRecDepth 8000 in
set_option maxHeartbeats 1000000 in
theorem errorsS (w : World) : Calls Tryz.prog 53 #[] w fun e w' => ∃ g, e = .returned (.slice (some ⟨g, 0, none⟩) 9 9) ∧ Vec w' g (errL.map sV) ∧ Ext w w' := by
 go_enter Tryz.func53, Tryz.ntmps53
 go_wp2_with fail
 go_ret
 exact ⟨_, rfl, vec_made w (errL.map sV) 9, x1 _ _⟩

/-- The errors as they are laid. -/
def ErrTab (w : World) : Prop := ∀ i t, errL[i]? = some t → w.cell? ⟨1, i, none⟩ = some (sV t)
theorem ErrTab.later {w w' : World} (h : ErrTab w) (e : Ext w w') : ErrTab w' := fun i t ht => cell_later e (h i t ht)
abbrev errV : Value := .agg #[sV [35, 78, 85, 76, 76, 33], sV [35, 68, 73, 86, 47, 48, 33], sV [35, 86, 65, 76, 85, 69, 33], sV [35, 82, 69, 70, 33], sV [35, 78, 65, 77, 69, 63], sV [35, 78, 85, 77, 33], sV [35, 78, 47, 65], sV [35, 83, 80, 73, 76, 76, 33], sV [35, 67, 89, 67, 76, 69, 33]]
theorem err_at0 (W : World) : (Instr.index 111 errV (.int .i64 0)).run Tryz.prog W = .ok (sV [35, 78, 85, 76, 76, 33]) W := by kernel_rfl
theorem err_at1 (W : World) : (Instr.index 111 errV (.int .i64 1)).run Tryz.prog W = .ok (sV [35, 68, 73, 86, 47, 48, 33]) W := by kernel_rfl
theorem err_at2 (W : World) : (Instr.index 111 errV (.int .i64 2)).run Tryz.prog W = .ok (sV [35, 86, 65, 76, 85, 69, 33]) W := by kernel_rfl
theorem err_at3 (W : World) : (Instr.index 111 errV (.int .i64 3)).run Tryz.prog W = .ok (sV [35, 82, 69, 70, 33]) W := by kernel_rfl
theorem err_at4 (W : World) : (Instr.index 111 errV (.int .i64 4)).run Tryz.prog W = .ok (sV [35, 78, 65, 77, 69, 63]) W := by kernel_rfl
theorem err_at5 (W : World) : (Instr.index 111 errV (.int .i64 5)).run Tryz.prog W = .ok (sV [35, 78, 85, 77, 33]) W := by kernel_rfl
theorem err_at6 (W : World) : (Instr.index 111 errV (.int .i64 6)).run Tryz.prog W = .ok (sV [35, 78, 47, 65]) W := by kernel_rfl
theorem err_at7 (W : World) : (Instr.index 111 errV (.int .i64 7)).run Tryz.prog W = .ok (sV [35, 83, 80, 73, 76, 76, 33]) W := by kernel_rfl
theorem err_at8 (W : World) : (Instr.index 111 errV (.int .i64 8)).run Tryz.prog W = .ok (sV [35, 67, 89, 67, 76, 69, 33]) W := by kernel_rfl
theorem err_at (k : Nat) (hk : k < 9) : ∃ t, errL[k]? = some t ∧ ∀ W : World, (Instr.index 111 errV (.int .i64 k)).run Tryz.prog W = .ok (sV t) W := by
 match k, hk with
 | 0, _ => exact ⟨_, rfl, err_at0⟩
 | 1, _ => exact ⟨_, rfl, err_at1⟩
 | 2, _ => exact ⟨_, rfl, err_at2⟩
 | 3, _ => exact ⟨_, rfl, err_at3⟩
 | 4, _ => exact ⟨_, rfl, err_at4⟩
 | 5, _ => exact ⟨_, rfl, err_at5⟩
 | 6, _ => exact ⟨_, rfl, err_at6⟩
 | 7, _ => exact ⟨_, rfl, err_at7⟩
 | 8, _ => exact ⟨_, rfl, err_at8⟩
set_option maxRecDepth 8000 in
set_option maxHeartbeats 1000000 in
theorem errI (l : List UInt8) (w : World) (hE : ErrTab w) : Calls Tryz.prog 61 #[sV l] w fun e w' => e = .returned (.bool (memB errL l)) ∧ w' = w := by
 have e0 := hE 0 _ rfl
 have e1 := hE 1 _ rfl
 have e2 := hE 2 _ rfl
 have e3 := hE 3 _ rfl
 have e4 := hE 4 _ rfl
 have e5 := hE 5 _ rfl
 have e6 := hE 6 _ rfl
 have e7 := hE 7 _ rfl
 have e8 := hE 8 _ rfl
 have HY : Hid (∀ t (k : Nat), errL[k]? = some t → (t == l) = true → memB errL l = true) := fun t k h e => memB_yes h e
 have HX : Hid ((∀ (j : Nat) t, errL[j]? = some t → (t == l) = false) → memB errL l = false) := fun h => memB_no h
 obtain ⟨R, hR⟩ : ∃ R, memB errL l = R := ⟨_, rfl⟩
 rw [hR] at HY HX ⊢
 clear hR hE
 go_enter Tryz.func61, Tryz.ntmps61
 go_wp2_with fail
 clear e0 e1 e2 e3 e4 e5 e6 e7 e8
 go_loop [6] (fun i => ∃ k : Nat, k ≤ 9 ∧ i = .int .i64 k ∧ Hid (∀ (j : Nat) t, j < k → errL[j]? = some t → (t == l) = false)) (fun i => 9 - (intOf i).toNat)
 case atStart => exact ⟨0, by omega, rfl, fun j t hj => by omega⟩
 case round =>
  obtain ⟨k, hk, rfl, HA⟩ := hrel
  by_cases hlt : k < 9
  ·
   obtain ⟨t, ht, hix⟩ := err_at k hlt
   have i2 : (k : Int) < 9 := by omega
   obtain ⟨p, hp⟩ : ∃ p, (t == l) = p := ⟨_, rfl⟩
   cases p
   ·
    have HA2 : Hid (∀ (j : Nat) t, j < k + 1 → errL[j]? = some t → (t == l) = false) := fun j t' hj h => by
     rcases Nat.lt_or_ge j k with hjk | hjk
     ·
      exact HA.out j t' hjk h
     ·
      obtain rfl : j = k := by omega
      rw [ht] at h
      cases h
      exact hp
    clear HA ht
    go_wp2_with fail
    go_round
    case rel => exact ⟨k + 1, by omega, by go_num, HA2⟩
    case measure => simp [intOf]; omega
   ·
    have hr := HY.out t k ht hp
    subst hr
    clear HA ht
    go_wp2_with fail
    go_ret
    exact ⟨rfl, rfl⟩
  ·
   obtain rfl : k = 9 := by omega
   have hr := HX.out (fun j t h => HA.out j t (by have := (List.getElem?_eq_some_iff.1 h).1; simpa [errL] using this) h)
   subst hr
   clear HA
   go_wp2_with fail
   go_ret
   exact ⟨rfl, rfl⟩

end Go.Proofs.YtgpfddneablcpaaGreatDoor

namespace Go.Proofs.YtgpfddneablcpaaGreatDoor
open Go.ChangeShapes Go.WideShapes Go.ChangeAt Go.RowKit

theorem gErrs : Tryz.prog.globalNamed "loop.example/g00025/impl.errorTexts" = some 1 := by kernel_rfl
theorem gErrsType : (Tryz.prog.globals[1]?).map (·.type) = some 111 := by kernel_rfl
theorem strCellsX : Tryz.prog.cellsOf 9 = 1 := by kernel_rfl
theorem str_cellX {H : Type} {enc : TypeId × Value → H} {w : World} {base : Nat} {sp : Nat → Bool} {held : Bool} {fuel : Nat} {cs : List Value} {l : List UInt8} {p : List MemPlace} (o : Nat)
  (h : DataW.trod enc Tryz.prog w base sp held fuel 9 ((cs.drop (o * Tryz.prog.cellsOf 9)).take (Tryz.prog.cellsOf 9)) = some (.lit (.string l), p)) : cs[o]? = some (sV l) := by
 rw [strCellsX, Nat.mul_one] at h
 obtain ⟨s, hc, hx, _⟩ := DataW.trod_string Tryz.underlying9 h
 simp only [Prod.mk.injEq, DataW.lit.injEq, Lit.string.injEq] at hx
 have := congrArg (·[0]?) hc
 simp only [List.getElem?_take, List.getElem?_drop, List.getElem?_cons_zero] at this
 have hs : s = ⟨l.toArray⟩ := by
  cases s
  rw [hx.1]
 rw [hs] at this
 simpa using this
set_option maxRecDepth 100000 in
theorem errs_of {rest : List (String × DataW Unit)} {W : World} (h : laidMet Tryz.prog (("loop.example/g00025/impl.errorTexts", Rows.laid_loop_example_g00025_impl_errorTexts) :: rest) W) : ErrTab W := by
 obtain ⟨ps, ⟨g', t', cs, fuel, p, q, hg', ht', hvar, hd, _, _⟩, _⟩ := h
 obtain rfl := Option.some.inj (gErrs.symm.trans hg')
 obtain rfl := Option.some.inj (gErrsType.symm.trans ht')
 have C := fun i v (h : cs.toList[i]? = some v) => (World.var?_cell gErrs hvar i).trans (by simpa using h)
 intro i t hi
 have h9 : i < 9 := (List.getElem?_eq_some_iff.1 hi).1
 match i, h9, hi with
 | 0, h9, hi => cases hi; obtain ⟨_, _, k⟩ := trod_elem Tryz.underlying111 hd 0 h9 _ rfl; exact C 0 _ (str_cellX 0 k)
 | 1, h9, hi => cases hi; obtain ⟨_, _, k⟩ := trod_elem Tryz.underlying111 hd 1 h9 _ rfl; exact C 1 _ (str_cellX 1 k)
 | 2, h9, hi => cases hi; obtain ⟨_, _, k⟩ := trod_elem Tryz.underlying111 hd 2 h9 _ rfl; exact C 2 _ (str_cellX 2 k)
 | 3, h9, hi => cases hi; obtain ⟨_, _, k⟩ := trod_elem Tryz.underlying111 hd 3 h9 _ rfl; exact C 3 _ (str_cellX 3 k)
 | 4, h9, hi => cases hi; obtain ⟨_, _, k⟩ := trod_elem Tryz.underlying111 hd 4 h9 _ rfl; exact C 4 _ (str_cellX 4 k)
 | 5, h9, hi => cases hi; obtain ⟨_, _, k⟩ := trod_elem Tryz.underlying111 hd 5 h9 _ rfl; exact C 5 _ (str_cellX 5 k)
 | 6, h9, hi => cases hi; obtain ⟨_, _, k⟩ := trod_elem Tryz.underlying111 hd 6 h9 _ rfl; exact C 6 _ (str_cellX 6 k)
 | 7, h9, hi => cases hi; obtain ⟨_, _, k⟩ := trod_elem Tryz.underlying111 hd 7 h9 _ rfl; exact C 7 _ (str_cellX 7 k)
 | 8, h9, hi => cases hi; obtain ⟨_, _, k⟩ := trod_elem Tryz.underlying111 hd 8 h9 _ rfl; exact C 8 _ (str_cellX 8 k)
theorem errs_readable : ∀ g t, Tryz.prog.globalNamed "loop.example/g00025/impl.errorTexts" = some g → (Tryz.prog.globals[g]?).map (·.type) = some t → Tryz.prog.readableRec t = true ∧ t < Tryz.prog.types.size := by
 intro g t hg ht
 obtain rfl := Option.some.inj (gErrs.symm.trans hg)
 obtain rfl := Option.some.inj (gErrsType.symm.trans ht)
 exact ⟨by kernel_rfl, of_decide_eq_true (by kernel_rfl)⟩

end Go.Proofs.YtgpfddneablcpaaGreatDoor

namespace Go.Proofs.YtgpfddneablcpaaGreatDoor
open Go.RowKit

abbrev valV (k : Int) (n : Bool) (d x : Int) (t : List UInt8) : Value := .agg #[.int .i64 k, .bool n, .int .i64 d, .int .i64 x, sV t]
abbrev valL (k : Int) (n : Bool) (d x : Int) (t : List UInt8) : List Value := [.int .i64 k, .bool n, .int .i64 d, .int .i64 x, sV t]
/-- The zero of decimals. -/
def zeroD (n : Bool) (d x : Int) : Bool := !n && decide (d = 0) && decide (x = 0)
/-- What a good value is. -/
def goodV (k : Int) (n : Bool) (d x : Int) (t : List UInt8) : Bool :=
 if k = 1 then goodB n d x && (t == []) else
 zeroD n d x && (if k = 0 then t == [] else if k = 2 then printN 1000 t else if k = 3 then boolB t else if k = 4 then memB errL t else false)

set_option maxRecDepth 8000 in
set_option maxHeartbeats 2000000 in
theorem goodVI (k : Int) (n : Bool) (d x : Int) (t : List UInt8) (w : World) (hl : t.length ≤ 2000000) (d1 : -9223372036854775808 ≤ d) (d2 : d ≤ 9223372036854775807) (hT : Tens w) (hE : ErrTab w) :
  Calls Tryz.prog 39 #[valV k n d x t] w fun e w' => e = .returned (.bool (goodV k n d x t)) ∧ Ext w w' := by
 have X0 := x1 w (.cells #[.int .i64 k, .bool n, .int .i64 d, .int .i64 x, sV t] 51)
 have B := vec_made w (valL k n d x t) 51
 have T1 := hT.later X0
 have E1 := hE.later X0
 obtain ⟨p, hp⟩ : ∃ p, (t == []) = p := ⟨_, rfl⟩
 clear hT hE
 by_cases h1 : k = 1
 ·
  subst h1
  have C := fun W (X : Ext (w.alloc (.cells #[.int .i64 1, .bool n, .int .i64 d, .int .i64 x, sV t] 51)) W) => goodI n d x W d1 d2 (T1.later X)
  have e : goodV 1 n d x t = (goodB n d x && p) := by simp [goodV, hp]
  rw [e]
  obtain ⟨q, hq⟩ : ∃ q, goodB n d x = q := ⟨_, rfl⟩
  rw [hq] at C ⊢
  clear e hq d1 d2
  cases q
  ·
   go_enter Tryz.func39, Tryz.ntmps39
   go_wp2_with (go_at_call 58; refine (C _ (xr _)).mono ?_; rintro e w1 ⟨rfl, e1⟩)
   go_ret
   exact ⟨rfl, xt X0 e1⟩
  ·
   cases p
   all_goals
    go_enter Tryz.func39, Tryz.ntmps39
    go_wp2_with (go_at_call 58; refine (C _ (xr _)).mono ?_; rintro e w1 ⟨rfl, e1⟩; have a4 := ((B.later e1) 4 _ rfl).1)
    go_ret
    exact ⟨rfl, xt X0 e1⟩
 ·
  by_cases hz : zeroD n d x = true
  ·
   obtain ⟨rfl, rfl, rfl⟩ : n = false ∧ d = 0 ∧ x = 0 := by simpa [zeroD, and_assoc] using hz
   clear hz d1 d2 T1
   by_cases h0 : k = 0
   ·
    subst h0
    have e : goodV 0 false 0 0 t = p := by simp [goodV, zeroD, hp]
    rw [e]
    clear e
    cases p
    all_goals
     go_enter Tryz.func39, Tryz.ntmps39
     go_wp2_with fail
     go_ret
     exact ⟨rfl, X0⟩
   ·
    clear hp
    by_cases h2 : k = 2
    ·
     subst h2
     have C := fun W => plainI t W hl
     have e : goodV 2 false 0 0 t = (plainB t && decide ((t.length : Int) ≤ 1000)) := by
      have e2 : decide (t.length ≤ 1000) = decide ((t.length : Int) ≤ 1000) := decide_eq_decide.2 (by omega)
      simp [goodV, zeroD, printN, plainB, e2]
     rw [e]
     obtain ⟨m, hm⟩ : ∃ m, t.length = m := ⟨_, rfl⟩
     have hs : (⟨t.toArray⟩ : ByteArray).size = m := hm
     rw [hm] at hl ⊢
     obtain ⟨q, hq⟩ : ∃ q, plainB t = q := ⟨_, rfl⟩
     rw [hq] at C ⊢
     clear e hq hm h0 h1
     cases q
     all_goals
      go_enter Tryz.func39, Tryz.ntmps39
      go_wp2_with (go_at_call 59; refine (C _).mono ?_; rintro e w1 ⟨rfl, rfl⟩)
      go_ret
      exact ⟨ret_bool (by simp), X0⟩
    ·
     by_cases h3 : k = 3
     ·
      subst h3
      have C := fun W => boolI t W
      have e : goodV 3 false 0 0 t = boolB t := by simp [goodV, zeroD]
      rw [e]
      clear e h0 h1 h2
      go_enter Tryz.func39, Tryz.ntmps39
      go_wp2_with (go_at_call 60; refine (C _).mono ?_; rintro e w1 ⟨rfl, rfl⟩)
      go_ret
      exact ⟨rfl, X0⟩
     ·
      by_cases h4 : k = 4
      ·
       subst h4
       have C := errI t _ E1
       have e : goodV 4 false 0 0 t = memB errL t := by simp [goodV, zeroD]
       rw [e]
       clear e h0 h1 h2 h3
       go_enter Tryz.func39, Tryz.ntmps39
       go_wp2_with (go_at_call 61; refine C.mono ?_; rintro e w1 ⟨rfl, rfl⟩)
       go_ret
       exact ⟨rfl, X0⟩
      ·
       have e : goodV k false 0 0 t = false := by simp [goodV, zeroD, h0, h1, h2, h3, h4]
       rw [e]
       clear e
       go_enter Tryz.func39, Tryz.ntmps39
       go_wp2_with fail
       go_ret
       exact ⟨rfl, X0⟩
  ·
   have e : goodV k n d x t = false := by simp only [Bool.not_eq_true] at hz; simp [goodV, hz, h1]
   rw [e]
   clear e hp B T1 E1 hl
   have hz' : n = true ∨ (n = false ∧ (d ≠ 0 ∨ (d = 0 ∧ x ≠ 0))) := by
    cases n
    ·
     right
     refine ⟨rfl, ?_⟩
     by_cases hd : d = 0
     ·
      right
      refine ⟨hd, fun hx => hz ?_⟩
      simp [zeroD, hd, hx]
     ·
      exact Or.inl hd
    ·
     exact Or.inl rfl
   clear hz
   rcases hz' with rfl | ⟨rfl, hd | ⟨rfl, hx⟩⟩
   all_goals
    go_enter Tryz.func39, Tryz.ntmps39
    go_wp2_with fail
    go_ret
    exact ⟨rfl, X0⟩

set_option maxRecDepth 8000 in
set_option maxHeartbeats 2000000 in
theorem goodVS (k : Int) (n : Bool) (d x : Int) (t : List UInt8) (w : World) (hl : t.length ≤ 2000000) :
  Calls Tryz.prog 34 #[valV k n d x t] w fun e w' => e = .returned (.bool (goodV k n d x t)) ∧ Ext w w' := by
 have X0 := x1 w (.cells #[.int .i64 k, .bool n, .int .i64 d, .int .i64 x, sV t] 51)
 have B := vec_made w (valL k n d x t) 51
 obtain ⟨p, hp⟩ : ∃ p, (t == []) = p := ⟨_, rfl⟩
 by_cases h1 : k = 1
 ·
  subst h1
  have C := fun W => goodS n d x W
  have e : goodV 1 n d x t = (goodB n d x && p) := by simp [goodV, hp]
  rw [e]
  obtain ⟨q, hq⟩ : ∃ q, goodB n d x = q := ⟨_, rfl⟩
  rw [hq] at C ⊢
  clear e hq
  cases p
  ·
   go_enter Tryz.func34, Tryz.ntmps34
   go_wp2_with fail
   go_ret
   exact ⟨ret_bool (by simp), X0⟩
  ·
   go_enter Tryz.func34, Tryz.ntmps34
   go_wp2_with (go_at_call 50; refine (C _).mono ?_; rintro e w1 ⟨rfl, e1⟩)
   go_ret
   exact ⟨ret_bool (by simp), xt X0 e1⟩
 ·
  by_cases hz : zeroD n d x = true
  ·
   obtain ⟨rfl, rfl, rfl⟩ : n = false ∧ d = 0 ∧ x = 0 := by simpa [zeroD, and_assoc] using hz
   clear hz
   by_cases h0 : k = 0
   ·
    subst h0
    have e : goodV 0 false 0 0 t = p := by simp [goodV, zeroD, hp]
    rw [e]
    clear e
    cases p
    all_goals
     go_enter Tryz.func34, Tryz.ntmps34
     go_wp2_with fail
     go_ret
     exact ⟨rfl, X0⟩
   ·
    clear hp
    by_cases h2 : k = 2
    ·
     subst h2
     have C := fun W => printS 1000 t W hl
     have e : goodV 2 false 0 0 t = printN 1000 t := by simp [goodV, zeroD]
     rw [e]
     clear e h0 h1
     go_enter Tryz.func34, Tryz.ntmps34
     go_wp2_with (go_at_call 51; refine (C _).mono ?_; rintro e w1 ⟨rfl, rfl⟩)
     go_ret
     exact ⟨rfl, X0⟩
    ·
     by_cases h3 : k = 3
     ·
      subst h3
      obtain ⟨p, hp⟩ : ∃ p, (t == [84, 82, 85, 69]) = p := ⟨_, rfl⟩
      obtain ⟨q, hq⟩ : ∃ q, (t == [70, 65, 76, 83, 69]) = q := ⟨_, rfl⟩
      have e : goodV 3 false 0 0 t = (p || q) := by simp only [goodV, zeroD, boolB, hp, hq]; rfl
      rw [e]
      clear e h0 h1 h2
      cases p <;> cases q
      all_goals
       go_enter Tryz.func34, Tryz.ntmps34
       go_wp2_with fail
       go_ret
       exact ⟨rfl, X0⟩
     ·
      by_cases h4 : k = 4
      ·
       subst h4
       have C := fun W => errorsS W
       have D := fun g W V => inS errL t g 9 W (by decide) V
       have e : goodV 4 false 0 0 t = memB errL t := by simp [goodV, zeroD]
       rw [e]
       clear e h0 h1 h2 h3
       go_enter Tryz.func34, Tryz.ntmps34
       go_wp2_with fail
       go_region_with (first
        | (go_at_call 53; refine (C _).mono ?_; rintro e w1 ⟨g, rfl, V, e1⟩; have a4 := ((B.later (xt (xd (xr _)) e1)) 4 _ rfl).1)
        | (go_at_call 52; refine (D g _ V).mono ?_; rintro e w2 ⟨rfl, rfl⟩))
       all_goals
        go_wp2_with fail
        go_ret
        exact ⟨rfl, xt (xd X0) e1⟩
      ·
       have e : goodV k false 0 0 t = false := by simp [goodV, zeroD, h0, h1, h2, h3, h4]
       rw [e]
       clear e
       go_enter Tryz.func34, Tryz.ntmps34
       go_wp2_with fail
       go_ret
       exact ⟨rfl, X0⟩
  ·
   have e : goodV k n d x t = false := by simp only [Bool.not_eq_true] at hz; simp [goodV, hz, h1]
   rw [e]
   clear e B hl
   have hz' : n = true ∨ (n = false ∧ (d ≠ 0 ∨ (d = 0 ∧ x ≠ 0))) := by
    cases n
    ·
     right
     refine ⟨rfl, ?_⟩
     by_cases hd : d = 0
     ·
      right
      refine ⟨hd, fun hx => hz ?_⟩
      simp [zeroD, hd, hx]
     ·
      exact Or.inl hd
    ·
     exact Or.inl rfl
   clear hz
   by_cases h0 : k = 0
   ·
    subst h0
    cases p
    all_goals rcases hz' with rfl | ⟨rfl, hd | ⟨rfl, hx⟩⟩
    all_goals
     go_enter Tryz.func34, Tryz.ntmps34
     go_wp2_with fail
     go_ret
     exact ⟨rfl, X0⟩
   ·
    clear hp
    rcases hz' with rfl | ⟨rfl, hd | ⟨rfl, hx⟩⟩
    all_goals
     go_enter Tryz.func34, Tryz.ntmps34
     go_wp2_with fail
     go_ret
     exact ⟨rfl, X0⟩

end Go.Proofs.YtgpfddneablcpaaGreatDoor

