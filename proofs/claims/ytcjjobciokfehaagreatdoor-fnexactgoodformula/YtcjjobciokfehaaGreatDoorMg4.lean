/-
  Several texts in one: FrameX, Cn.
-/
import Derived.Test.YtcjjobciokfehaaGreatDoorMg3
import Derived.Test.YtcjjobciokfehaaGreatDoorMg2
import Derived.Deep.Strs
import Derived.Stop.LaidErr
import Derived.Test.YtcjjobciokfehaaGreatDoorMg1
import Derived.Laws.IdiomStrings
namespace Go.Proofs.YtcjjobciokfehaaGreatDoor
open Go.ChangeShapes Go.WideShapes Go.ChangeAt Go.RowKit

theorem gErrs : Tryz.prog.globalNamed "loop.example/g00025/impl.errorTexts" = some 1 := by kernel_rfl
theorem gErrsType : (Tryz.prog.globals[1]?).map (·.type) = some 129 := by kernel_rfl
theorem strCellsX : Tryz.prog.cellsOf 9 = 1 := by kernel_rfl
theorem str_cellX {H : Type} {enc : TypeId × Value → H} {w : World} {base : Nat} {sp : Nat → Bool} {held : Bool} {fuel : Nat} {cs : List Value} {l : List UInt8} {p : List MemPlace} (o : Nat)
  (h : DataW.trod enc Tryz.prog w base sp held fuel 9 ((cs.drop (o * Tryz.prog.cellsOf 9)).take (Tryz.prog.cellsOf 9)) = some (.lit (.string l), p)) : cs[o]? = some (sV l) := by
 rw [strCellsX, Nat.mul_one] at h
 obtain ⟨s, hc, hx, _⟩ := DataW.trod_string Tryz.underlying9 h
 simp only [Prod.mk.injEq, DataW.lit.injEq, Lit.string.injEq] at hx
 have := congrArg (·[0]?) hc
 simp only [List.getElem?_take, List.getElem?_drop, List.getElem?_cons_zero] at this
 have hs : s = ⟨l.toArray⟩ := by
  cases s
  rw [hx.1]
 rw [hs] at this
 simpa using this
set_option maxRecDepth 100000 in
theorem errs_of {rest : List (String × DataW Unit)} {W : World} (h : laidMet Tryz.prog (("loop.example/g00025/impl.errorTexts", Rows.laid_loop_example_g00025_impl_errorTexts) :: rest) W) : ErrTab W := by
 obtain ⟨ps, ⟨g', t', cs, fuel, p, q, hg', ht', hvar, hd, _, _⟩, _⟩ := h
 obtain rfl := Option.some.inj (gErrs.symm.trans hg')
 obtain rfl := Option.some.inj (gErrsType.symm.trans ht')
 have C := fun i v (h : cs.toList[i]? = some v) => (World.var?_cell gErrs hvar i).trans (by simpa using h)
 intro i t hi
 have h9 : i < 9 := (List.getElem?_eq_some_iff.1 hi).1
 match i, h9, hi with
 | 0, h9, hi => cases hi; obtain ⟨_, _, k⟩ := trod_elem Tryz.underlying129 hd 0 h9 _ rfl; exact C 0 _ (str_cellX 0 k)
 | 1, h9, hi => cases hi; obtain ⟨_, _, k⟩ := trod_elem Tryz.underlying129 hd 1 h9 _ rfl; exact C 1 _ (str_cellX 1 k)
 | 2, h9, hi => cases hi; obtain ⟨_, _, k⟩ := trod_elem Tryz.underlying129 hd 2 h9 _ rfl; exact C 2 _ (str_cellX 2 k)
 | 3, h9, hi => cases hi; obtain ⟨_, _, k⟩ := trod_elem Tryz.underlying129 hd 3 h9 _ rfl; exact C 3 _ (str_cellX 3 k)
 | 4, h9, hi => cases hi; obtain ⟨_, _, k⟩ := trod_elem Tryz.underlying129 hd 4 h9 _ rfl; exact C 4 _ (str_cellX 4 k)
 | 5, h9, hi => cases hi; obtain ⟨_, _, k⟩ := trod_elem Tryz.underlying129 hd 5 h9 _ rfl; exact C 5 _ (str_cellX 5 k)
 | 6, h9, hi => cases hi; obtain ⟨_, _, k⟩ := trod_elem Tryz.underlying129 hd 6 h9 _ rfl; exact C 6 _ (str_cellX 6 k)
 | 7, h9, hi => cases hi; obtain ⟨_, _, k⟩ := trod_elem Tryz.underlying129 hd 7 h9 _ rfl; exact C 7 _ (str_cellX 7 k)
 | 8, h9, hi => cases hi; obtain ⟨_, _, k⟩ := trod_elem Tryz.underlying129 hd 8 h9 _ rfl; exact C 8 _ (str_cellX 8 k)
theorem errs_readable : ∀ g t, Tryz.prog.globalNamed "loop.example/g00025/impl.errorTexts" = some g → (Tryz.prog.globals[g]?).map (·.type) = some t → Tryz.prog.readableRec t = true ∧ t < Tryz.prog.types.size := by
 intro g t hg ht
 obtain rfl := Option.some.inj (gErrs.symm.trans hg)
 obtain rfl := Option.some.inj (gErrsType.symm.trans ht)
 exact ⟨by kernel_rfl, of_decide_eq_true (by kernel_rfl)⟩

end Go.Proofs.YtcjjobciokfehaaGreatDoor

namespace Go.Proofs.YtcjjobciokfehaaGreatDoor
open Go.RowKit

theorem letSlice : ∀ a : Nat, a < 26 → ((⟨#[65, 66, 67, 68, 69, 70, 71, 72, 73, 74, 75, 76, 77, 78, 79, 80, 81, 82, 83, 84, 85, 86, 87, 88, 89, 90]⟩ : ByteArray).extract a (a + 1)).data.toList = [UInt8.ofNat (65 + a)] := by decide +kernel

set_option maxHeartbeats 1000000 in
theorem colNameI_in (n : Int) (w : World) (h1 : 1 ≤ n) (h2 : n ≤ 200) :
  Calls Tryz.prog 135 #[.int .i64 n] w fun e w' => ∃ s, e = .returned (.string s) ∧ s.data.toList = colN n.toNat ∧ w' = w := by
 have C1 := fun w => isColI n w
 simp only [show (1 ≤ n ∧ n ≤ 200) from ⟨h1, h2⟩, and_self, decide_true] at C1
 go_enter Tryz.func135, Tryz.ntmps135
 go_wp2_with (first | (go_at_call 87; refine (C1 _).mono ?_; rintro e w' ⟨rfl, rfl⟩))
 go_loop [0, 3] (fun a b => ∃ (m : Nat) (s : ByteArray), a = .int .i64 m ∧ b = .string s ∧ m ≤ 200 ∧ Hid (nameOf m ++ s.data.toList = colN n.toNat) ∧ s.size + m ≤ 200) (fun a _ => (intOf a).toNat)
 case atStart => exact ⟨n.toNat, _, by rw [Int.toNat_of_nonneg (by omega)], rfl, by omega, by show nameOf n.toNat ++ [] = _; unfold nameOf; rw [if_neg (by omega), List.append_nil], by show 0 + n.toNat ≤ 200; omega⟩
 case round =>
  obtain ⟨m, s, rfl, rfl, hm, HN, HS⟩ := hrel
  by_cases hm0 : m = 0
  ·
   subst hm0
   have HE : Hid (s.data.toList = colN n.toNat) := HN.out
   go_wp2_with fail
   go_ret
   exact ⟨s, rfl, HE.out, rfl⟩
  ·
   have hm1 : (1 : Int) ≤ m := by omega
   obtain ⟨a, ha⟩ : ∃ a : Nat, (m - 1) % 26 = a := ⟨_, rfl⟩
   obtain ⟨q, hq⟩ : ∃ q : Nat, (m - 1) / 26 = q := ⟨_, rfl⟩
   have ha' : ((m : Int) - 1).tmod 26 = (a : Int) := by rw [Int.tmod_eq_emod_of_nonneg (by omega)]; omega
   have hq' : ((m : Int) - 1).tdiv 26 = (q : Int) := by rw [Int.tdiv_eq_ediv_of_nonneg (by omega)]; omega
   have a26 : a < 26 := by omega
   have q200 : q < m := by omega
   have HN2 : Hid (nameOf q ++ ((⟨#[65, 66, 67, 68, 69, 70, 71, 72, 73, 74, 75, 76, 77, 78, 79, 80, 81, 82, 83, 84, 85, 86, 87, 88, 89, 90]⟩ : ByteArray).extract a (a + 1) ++ s).data.toList = colN n.toNat) := by
    have h := HN.out
    rw [nameOf_step m (by omega) (by omega), ha, hq] at h
    have e := letSlice a a26
    show nameOf q ++ _ = _
    rw [ByteArray.data_append, Array.toList_append, e, ← List.append_assoc]
    exact h
   have hmin : min (a + 1) 26 - a = 1 := by omega
   clear HN ha hq
   go_wp2_with fail
   go_round
   case rel => exact ⟨q, _, rfl, rfl, by omega, HN2, by
    have : ((⟨#[65, 66, 67, 68, 69, 70, 71, 72, 73, 74, 75, 76, 77, 78, 79, 80, 81, 82, 83, 84, 85, 86, 87, 88, 89, 90]⟩ : ByteArray).extract a (a + 1)).size = 1 := by rw [size_ofL' (letSlice a a26)]; rfl
    rw [ByteArray.size_append, this]
    omega⟩
   case measure => simp [intOf]; omega
theorem colNameI (n : Int) (w : World) :
  Calls Tryz.prog 135 #[.int .i64 n] w fun e w' => ∃ s, e = .returned (.string s) ∧ s.data.toList = colName n ∧ w' = w := by
 by_cases h : 1 ≤ n ∧ n ≤ 200
 ·
  rw [colName, if_pos h]
  exact colNameI_in n w h.1 h.2
 ·
  rw [colName, if_neg h]
  have C1 := fun w => isColI n w
  simp only [h, decide_false] at C1
  go_enter Tryz.func135, Tryz.ntmps135
  go_wp2_with (first | (go_at_call 87; refine (C1 _).mono ?_; rintro e w' ⟨rfl, rfl⟩))
  go_ret
  exact ⟨_, rfl, rfl, rfl⟩

set_option maxRecDepth 8000 in
set_option maxHeartbeats 1000000 in
theorem colNameS_in (n : Int) (w : World) (h1 : 1 ≤ n) (h2 : n ≤ 200) :
  Calls Tryz.prog 142 #[.int .i64 n] w fun e w' => ∃ s, e = .returned (.string s) ∧ s.data.toList = colN n.toNat ∧ Ext w w' := by
 have f1 : decide (n < 1) = false := by simp; omega
 have f2 : decide (n > 200) = false := by simp; omega
 go_enter Tryz.func142, Tryz.ntmps142
 go_wp2_with fail
 go_loopw [0, 3] (fun a b wr => ∃ (m : Nat) (s : ByteArray), a = .int .i64 m ∧ b = .string s ∧ m ≤ 200 ∧ Hid (nameOf m ++ s.data.toList = colN n.toNat) ∧ s.size + m ≤ 200 ∧ Ext w wr) (fun a _ _ => (intOf a).toNat)
 case atStart => exact ⟨n.toNat, _, by rw [Int.toNat_of_nonneg (by omega)], rfl, by omega, by show nameOf n.toNat ++ [] = _; unfold nameOf; rw [if_neg (by omega), List.append_nil], by show 0 + n.toNat ≤ 200; omega, xr _⟩
 case round =>
  obtain ⟨m, s, rfl, rfl, hm, HN, HS, X⟩ := hrel
  by_cases hm0 : m = 0
  ·
   subst hm0
   have HE : Hid (s.data.toList = colN n.toNat) := HN.out
   go_wp2_with fail
   go_ret
   exact ⟨s, rfl, HE.out, X⟩
  ·
   have hm1 : (1 : Int) ≤ m := by omega
   obtain ⟨a, ha⟩ : ∃ a : Nat, (m - 1) % 26 = a := ⟨_, rfl⟩
   obtain ⟨q, hq⟩ : ∃ q : Nat, (m - 1) / 26 = q := ⟨_, rfl⟩
   have ha' : ((m : Int) - 1).tmod 26 = (a : Int) := by rw [Int.tmod_eq_emod_of_nonneg (by omega)]; omega
   have hq' : ((m : Int) - 1).tdiv 26 = (q : Int) := by rw [Int.tdiv_eq_ediv_of_nonneg (by omega)]; omega
   have a26 : a < 26 := by omega
   have q200 : q < m := by omega
   have hcv := run_convert_bytes_back (P := Tryz.prog) (wr.alloc (.cells #[.int .u8 (65 + (a : Int))] 5)) 94 9 5 ⟨wr.heap.size, 0, none⟩ 1 [UInt8.ofNat (65 + a)] Tryz.underlying94 Tryz.underlying5 Tryz.underlying9 (fun j hj => by
    have hj' : j = 0 := by simpa using hj
    subst hj'

    simp [go_sem]
    omega)
   rw [List.length_singleton] at hcv
   obtain ⟨t, ht⟩ : ∃ t : ByteArray, (⟨[UInt8.ofNat (65 + a)].toArray⟩ : ByteArray) = t := ⟨_, rfl⟩
   rw [ht] at hcv
   have hts : t.data.toList = [UInt8.ofNat (65 + a)] := by rw [← ht]
   have htz := size_ofL' hts
   have HN2 : Hid (nameOf q ++ (t ++ s).data.toList = colN n.toNat) := by
    have h := HN.out
    rw [nameOf_step m (by omega) (by omega), ha, hq] at h
    show nameOf q ++ _ = _
    rw [ByteArray.data_append, Array.toList_append, hts, ← List.append_assoc]
    exact h
   simp only [List.length_singleton] at htz
   clear ha hq hts ht HN
   go_wp2_with fail
   go_roundw
   case rel => exact ⟨q, _, rfl, rfl, by omega, HN2, by rw [ByteArray.size_append]; omega, xa X _⟩
   case measure => simp [intOf]; omega
theorem colNameS (n : Int) (w : World) :
  Calls Tryz.prog 142 #[.int .i64 n] w fun e w' => ∃ s, e = .returned (.string s) ∧ s.data.toList = colName n ∧ Ext w w' := by
 by_cases h : 1 ≤ n ∧ n ≤ 200
 ·
  rw [colName, if_pos h]
  exact colNameS_in n w h.1 h.2
 ·
  rw [colName, if_neg h]
  by_cases h1 : n < 1
  ·
   have f1 : decide (n < 1) = true := by simp; omega
   go_enter Tryz.func142, Tryz.ntmps142
   go_wp2_with fail
   go_ret
   exact ⟨_, rfl, rfl, xr _⟩
  ·
   have f1 : decide (n < 1) = false := by simp; omega
   have f2 : decide (n > 200) = true := by simp; omega
   go_enter Tryz.func142, Tryz.ntmps142
   go_wp2_with fail
   go_ret
   exact ⟨_, rfl, rfl, xr _⟩
/-- Two texts of the same bytes are one. -/
theorem bytes_eq {s t : ByteArray} {l : List UInt8} (h : s.data.toList = l) (k : t.data.toList = l) : s = t := by
 cases s; cases t
 simp only [ByteArray.mk.injEq]
 exact Array.toList_inj.1 (h.trans k.symm)

theorem toList_injA {s t : ByteArray} (h : s.toList = t.toList) : s = t := by
 rw [ByteArray.toList_eq, ByteArray.toList_eq] at h
 exact bytes_eq rfl h.symm
theorem str_ne {t s : ByteArray} (h : (!t.toList == s.toList) = true) : ¬ t = s := by rintro rfl; simp at h
theorem str_eq {t s : ByteArray} (h : (!t.toList == s.toList) = false) : t = s := toList_injA (by simpa using h)
theorem str_not {t s : ByteArray} (h : ¬ t = s) : (t.toList == s.toList) = false := by
 rw [beq_eq_false_iff_ne]
 exact fun q => h (toList_injA q)

end Go.Proofs.YtcjjobciokfehaaGreatDoor

