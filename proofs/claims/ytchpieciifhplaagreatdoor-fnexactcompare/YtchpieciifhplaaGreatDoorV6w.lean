/-
  Chapter 6: Compare of the specification; the law.
-/
import Derived.Test.YtchpieciifhplaaGreatDoorV6u
import Derived.Deep.RegionHeld3
namespace Go.Proofs.YtchpieciifhplaaGreatDoor
open Go.RowKit

set_option maxRecDepth 8000 in
set_option maxHeartbeats 2000000 in
theorem compareS (k : Int) (n : Bool) (d x : Int) (t : List UInt8) (k' : Int) (n' : Bool) (d' x' : Int) (t' : List UInt8) (w : World) (hl : t.length ≤ 2000000) (hl' : t'.length ≤ 2000000) :
    Calls Tryz.prog 5 #[valV k n d x t, valV k' n' d' x' t'] w fun e w' => e = .returned (.int .i64 (compareV k n d x t k' n' d' x' t')) ∧ Ext w w' := by
  obtain ⟨R, hR⟩ : ∃ R, compareV k n d x t k' n' d' x' t' = R := ⟨_, rfl⟩
  have HR0 : Hid (compareV k n d x t k' n' d' x' t' = R) := hR
  rw [hR]
  clear hR
  have X1 := x1 w (.cells #[.int .i64 k, .bool n, .int .i64 d, .int .i64 x, sV t] 30)
  have B1 := vec_made w (valL k n d x t) 30
  obtain ⟨wa, ha⟩ : ∃ wa, w.alloc (.cells #[.int .i64 k, .bool n, .int .i64 d, .int .i64 x, sV t] 30) = wa := ⟨_, rfl⟩
  have X2 := x1 wa (.cells #[.int .i64 k', .bool n', .int .i64 d', .int .i64 x', sV t'] 30)
  have B2 := vec_made wa (valL k' n' d' x' t') 30
  obtain ⟨wb, hb⟩ : ∃ wb, wa.alloc (.cells #[.int .i64 k', .bool n', .int .i64 d', .int .i64 x', sV t'] 30) = wb := ⟨_, rfl⟩
  have sa : wa.heap.size = w.heap.size + 1 := by rw [← ha, World.size_alloc]
  have sb : wb.heap.size = w.heap.size + 1 + 1 := by rw [← hb, World.size_alloc, sa]
  change Vec (w.alloc (.cells #[.int .i64 k, .bool n, .int .i64 d, .int .i64 x, sV t] 30)) _ _ at B1
  change Vec (wa.alloc (.cells #[.int .i64 k', .bool n', .int .i64 d', .int .i64 x', sV t'] 30)) _ _ at B2
  rw [ha] at X1 B1
  rw [hb] at X2 B2
  rw [sa] at B2
  have B1 := B1.later X2
  have X := xt X1 X2
  clear X1 X2
  have a0 := (B1 0 _ rfl).1
  have a1 := (B1 1 _ rfl).1
  have a2 := (B1 2 _ rfl).1
  have a3 := (B1 3 _ rfl).1
  have a4 := (B1 4 _ rfl).1
  have c0 := (B2 0 _ rfl).1
  have c1 := (B2 1 _ rfl).1
  have c2 := (B2 2 _ rfl).1
  have c3 := (B2 3 _ rfl).1
  have c4 := (B2 4 _ rfl).1
  go_enter Tryz.func5, Tryz.ntmps5
  go_wp2_with fail
  clear ha hb sa sb a0 a1 a2 a3 a4 c0 c1 c2 c3 c4
  refine (goodVS k n d x t wb hl).mono ?_
  rintro e w1 ⟨rfl, e1⟩
  have XA := xt X e1
  obtain ⟨g, hg⟩ : ∃ g, goodV k n d x t = g := ⟨_, rfl⟩
  rw [hg]
  cases g
  · have HR : Hid (2 = R) := by show _ = _; rw [← HR0.out]; simp [compareV, hg]
    go_wp2_with fail
    go_ret
    exact ⟨congrArg (fun z => Ending.returned (.int .i64 z)) HR.out, XA⟩
  · have a0 := ((B1.later e1) 0 _ rfl).1
    have a1 := ((B1.later e1) 1 _ rfl).1
    have a2 := ((B1.later e1) 2 _ rfl).1
    have a3 := ((B1.later e1) 3 _ rfl).1
    have a4 := ((B1.later e1) 4 _ rfl).1
    have c0 := ((B2.later e1) 0 _ rfl).1
    have c1 := ((B2.later e1) 1 _ rfl).1
    have c2 := ((B2.later e1) 2 _ rfl).1
    have c3 := ((B2.later e1) 3 _ rfl).1
    have c4 := ((B2.later e1) 4 _ rfl).1
    go_wp2_with fail
    clear a0 a1 a2 a3 a4 c0 c1 c2 c3 c4
    refine (goodVS k' n' d' x' t' w1 hl').mono ?_
    rintro e w2 ⟨rfl, e2⟩
    have XB := xt XA e2
    obtain ⟨g', hg'⟩ : ∃ g', goodV k' n' d' x' t' = g' := ⟨_, rfl⟩
    rw [hg']
    cases g'
    · have HR : Hid (2 = R) := by show _ = _; rw [← HR0.out]; simp [compareV, hg']
      go_wp2_with fail
      go_ret
      exact ⟨congrArg (fun z => Ending.returned (.int .i64 z)) HR.out, XB⟩
    · have a0 := (((B1.later e1).later e2) 0 _ rfl).1
      have a1 := (((B1.later e1).later e2) 1 _ rfl).1
      have a2 := (((B1.later e1).later e2) 2 _ rfl).1
      have a3 := (((B1.later e1).later e2) 3 _ rfl).1
      have a4 := (((B1.later e1).later e2) 4 _ rfl).1
      have c0 := (((B2.later e1).later e2) 0 _ rfl).1
      have c1 := (((B2.later e1).later e2) 1 _ rfl).1
      have c2 := (((B2.later e1).later e2) 2 _ rfl).1
      have c3 := (((B2.later e1).later e2) 3 _ rfl).1
      have c4 := (((B2.later e1).later e2) 4 _ rfl).1
      by_cases h4 : k = 4
      · have hb4 : (k == 4) = true := by simpa using h4
        have HR : Hid (2 = R) := by show _ = _; rw [← HR0.out]; simp [compareV, h4]
        subst h4
        go_wp2_with fail
        go_ret
        exact ⟨congrArg (fun z => Ending.returned (.int .i64 z)) HR.out, XB⟩
      · have hb4 : (k == 4) = false := by simpa using h4
        by_cases h4' : k' = 4
        · have hb4' : (k' == 4) = true := by simpa using h4'
          have HR : Hid (2 = R) := by show _ = _; rw [← HR0.out]; simp [compareV, h4']
          subst h4'
          go_wp2_with fail
          go_ret
          exact ⟨congrArg (fun z => Ending.returned (.int .i64 z)) HR.out, XB⟩
        · have hb4' : (k' == 4) = false := by simpa using h4'
          obtain ⟨v1, z1⟩ := beside_eq hg k'
          obtain ⟨v2, z2⟩ := beside_eq hg' k
          have HR : Hid (cmpR (bk k k') n d x (bt k t k') (bk k' k) n' d' x' (bt k' t' k) = R) := by show _ = _; rw [← HR0.out]; simp [compareV, hg, hg', h4, h4']
          have CC := fun W => cmpS6 k n d x t k' n' d' x' t' W _ _ _ _ _ v1 z1 (bt_len k k' hl) _ _ _ _ _ v2 z2 (bt_len k' k hl')
          clear v1 v2 z1 z2 hg hg'
          go_wp2_with fail
          refine (CC _).mono ?_
          rintro e w3 ⟨rfl, e3⟩
          go_wp2_with fail
          go_ret
          exact ⟨congrArg (fun z => Ending.returned (.int .i64 z)) HR.out, xt XB e3⟩
set_option maxRecDepth 8000 in
set_option maxHeartbeats 2000000 in
theorem lawCompare (k : Int) (n : Bool) (d x : Int) (t : List UInt8) (k' : Int) (n' : Bool) (d' x' : Int) (t' : List UInt8) (w : World) (hl : t.length ≤ 9223372036854775807) (hl' : t'.length ≤ 9223372036854775807) (d1 : -9223372036854775808 ≤ d) (d2 : d ≤ 9223372036854775807) (d1' : -9223372036854775808 ≤ d') (d2' : d' ≤ 9223372036854775807) (hT : Tens w) (hE : ErrTab w) :
    Calls Tryz.prog 3 #[valV k n d x t, valV k' n' d' x' t'] w fun e w' => e = .returned (.bool true) ∧ Ext w w' := by
  have X1 := x1 w (.cells #[.int .i64 k, .bool n, .int .i64 d, .int .i64 x, sV t] 25)
  have B1 := vec_made w (valL k n d x t) 25
  obtain ⟨wa, ha⟩ : ∃ wa, w.alloc (.cells #[.int .i64 k, .bool n, .int .i64 d, .int .i64 x, sV t] 25) = wa := ⟨_, rfl⟩
  have X2 := x1 wa (.cells #[.int .i64 k', .bool n', .int .i64 d', .int .i64 x', sV t'] 25)
  have B2 := vec_made wa (valL k' n' d' x' t') 25
  obtain ⟨wb, hb⟩ : ∃ wb, wa.alloc (.cells #[.int .i64 k', .bool n', .int .i64 d', .int .i64 x', sV t'] 25) = wb := ⟨_, rfl⟩
  have sa : wa.heap.size = w.heap.size + 1 := by rw [← ha, World.size_alloc]
  have sb : wb.heap.size = w.heap.size + 1 + 1 := by rw [← hb, World.size_alloc, sa]
  change Vec (w.alloc (.cells #[.int .i64 k, .bool n, .int .i64 d, .int .i64 x, sV t] 25)) _ _ at B1
  change Vec (wa.alloc (.cells #[.int .i64 k', .bool n', .int .i64 d', .int .i64 x', sV t'] 25)) _ _ at B2
  rw [ha] at X1 B1
  rw [hb] at X2 B2
  rw [sa] at B2
  have B1 := B1.later X2
  have X := xt X1 X2
  clear X1 X2
  have a0 := (B1 0 _ rfl).1
  have a1 := (B1 1 _ rfl).1
  have a2 := (B1 2 _ rfl).1
  have a3 := (B1 3 _ rfl).1
  have a4 := (B1 4 _ rfl).1
  go_enter Tryz.func3, Tryz.ntmps3
  go_wp2_with fail
  clear ha hb sa sb a0 a1 a2 a3 a4
  refine (szValue k n d x t 1048576 wb (by omega) (by omega) (by omega)).mono ?_
  rintro e w1 ⟨rfl, e1⟩
  have X1 := xt X e1
  by_cases hs : (1048576 : Int) < t.length
  · rw [if_pos hs]
    clear B1 B2 hT hE
    go_wp2_with fail
    go_ret
    exact ⟨rfl, X1⟩
  · rw [if_neg hs]
    obtain ⟨m, hm⟩ : ∃ m : Int, (1048576 : Int) - t.length = m := ⟨_, rfl⟩
    have hm0 : 0 ≤ m := by omega
    have hm1 : m ≤ 1048576 := by omega
    have hl2 : t.length ≤ 2000000 := by omega
    rw [hm]
    clear hm hs hl
    have C1 := B1.later e1
    have C2 := B2.later e1
    clear B1 B2
    have c0 := (C2 0 _ rfl).1
    have c1 := (C2 1 _ rfl).1
    have c2 := (C2 2 _ rfl).1
    have c3 := (C2 3 _ rfl).1
    have c4 := (C2 4 _ rfl).1
    go_wp2_with fail
    clear c0 c1 c2 c3 c4
    refine (szValue k' n' d' x' t' m w1 hm0 hm1 (by omega)).mono ?_
    rintro e w2 ⟨rfl, e2⟩
    have X2 := xt X1 e2
    by_cases hs' : m < t'.length
    · rw [if_pos hs']
      clear C1 C2 hT hE
      go_wp2_with fail
      go_ret
      exact ⟨rfl, X2⟩
    · rw [if_neg hs']
      obtain ⟨m', hm'⟩ : ∃ m' : Int, m - t'.length = m' := ⟨_, rfl⟩
      have hm2 : 0 ≤ m' := by omega
      have hl2' : t'.length ≤ 2000000 := by omega
      rw [hm']
      clear hm' hs' hl'
      have Ba := C1.later e2
      have Bb := C2.later e2
      clear C1 C2
      have a0 := (Ba 0 _ rfl).1
      have a1 := (Ba 1 _ rfl).1
      have a2 := (Ba 2 _ rfl).1
      have a3 := (Ba 3 _ rfl).1
      have a4 := (Ba 4 _ rfl).1
      have c0 := (Bb 0 _ rfl).1
      have c1 := (Bb 1 _ rfl).1
      have c2 := (Bb 2 _ rfl).1
      have c3 := (Bb 3 _ rfl).1
      have c4 := (Bb 4 _ rfl).1
      obtain ⟨R, hR⟩ : ∃ R, compareV k n d x t k' n' d' x' t' = R := ⟨_, rfl⟩
      have CS := fun W => compareS k n d x t k' n' d' x' t' W hl2 hl2'
      have CI := fun W hT hE => compareI k n d x t k' n' d' x' t' W hl2 hl2' d1 d2 d1' d2' hT hE
      rw [hR] at CS CI
      clear hR
      go_wp2_with fail
      go_region_held3 (fun w' => (w'.cell? ⟨w.heap.size, 0, none⟩ = some (.int .i64 k) ∧ w'.cell? ⟨w.heap.size, 1, none⟩ = some (.bool n) ∧ w'.cell? ⟨w.heap.size, 2, none⟩ = some (.int .i64 d) ∧ w'.cell? ⟨w.heap.size, 3, none⟩ = some (.int .i64 x) ∧ w'.cell? ⟨w.heap.size, 4, none⟩ = some (sV t)) ∧ w'.cell? ⟨w.heap.size + 1, 0, none⟩ = some (.int .i64 k') ∧ w'.cell? ⟨w.heap.size + 1, 1, none⟩ = some (.bool n') ∧ w'.cell? ⟨w.heap.size + 1, 2, none⟩ = some (.int .i64 d') ∧ w'.cell? ⟨w.heap.size + 1, 3, none⟩ = some (.int .i64 x') ∧ w'.cell? ⟨w.heap.size + 1, 4, none⟩ = some (sV t')) (go_keep)
        (first
          | (go_at_call 5; refine (CS _).mono ?_; rintro e v13 ⟨rfl, e13⟩; have Y13 := xt Y12 e13; have p13a0 := ((Ba.later Y13) 0 _ rfl).1; have p13b0 := ((Bb.later Y13) 0 _ rfl).1; have p13a1 := ((Ba.later Y13) 1 _ rfl).1; have p13b1 := ((Bb.later Y13) 1 _ rfl).1; have p13a2 := ((Ba.later Y13) 2 _ rfl).1; have p13b2 := ((Bb.later Y13) 2 _ rfl).1; have p13a3 := ((Ba.later Y13) 3 _ rfl).1; have p13b3 := ((Bb.later Y13) 3 _ rfl).1; have p13a4 := ((Ba.later Y13) 4 _ rfl).1; have p13b4 := ((Bb.later Y13) 4 _ rfl).1)
          | (go_at_call_of 6 (Value.agg #[.int .i64 k, .bool n, .int .i64 d, .int .i64 x, sV t]); refine (toValue k n d x t _).mono ?_; rintro e v11 ⟨rfl, e11⟩; have Y11 := xt (xd (xr _)) e11; have p11a0 := ((Ba.later Y11) 0 _ rfl).1; have p11b0 := ((Bb.later Y11) 0 _ rfl).1; have p11a1 := ((Ba.later Y11) 1 _ rfl).1; have p11b1 := ((Bb.later Y11) 1 _ rfl).1; have p11a2 := ((Ba.later Y11) 2 _ rfl).1; have p11b2 := ((Bb.later Y11) 2 _ rfl).1; have p11a3 := ((Ba.later Y11) 3 _ rfl).1; have p11b3 := ((Bb.later Y11) 3 _ rfl).1; have p11a4 := ((Ba.later Y11) 4 _ rfl).1; have p11b4 := ((Bb.later Y11) 4 _ rfl).1)
          | (go_at_call_of 6 (Value.agg #[.int .i64 k', .bool n', .int .i64 d', .int .i64 x', sV t']); refine (toValue k' n' d' x' t' _).mono ?_; rintro e v12 ⟨rfl, e12⟩; have Y12 := xt Y11 e12; have p12a0 := ((Ba.later Y12) 0 _ rfl).1; have p12b0 := ((Bb.later Y12) 0 _ rfl).1; have p12a1 := ((Ba.later Y12) 1 _ rfl).1; have p12b1 := ((Bb.later Y12) 1 _ rfl).1; have p12a2 := ((Ba.later Y12) 2 _ rfl).1; have p12b2 := ((Bb.later Y12) 2 _ rfl).1; have p12a3 := ((Ba.later Y12) 3 _ rfl).1; have p12b3 := ((Bb.later Y12) 3 _ rfl).1; have p12a4 := ((Ba.later Y12) 4 _ rfl).1; have p12b4 := ((Bb.later Y12) 4 _ rfl).1))
      go_wp2_with fail
      go_region_held3 (fun w' => (w'.cell? ⟨w.heap.size, 0, none⟩ = some (.int .i64 k) ∧ w'.cell? ⟨w.heap.size, 1, none⟩ = some (.bool n) ∧ w'.cell? ⟨w.heap.size, 2, none⟩ = some (.int .i64 d) ∧ w'.cell? ⟨w.heap.size, 3, none⟩ = some (.int .i64 x) ∧ w'.cell? ⟨w.heap.size, 4, none⟩ = some (sV t)) ∧ w'.cell? ⟨w.heap.size + 1, 0, none⟩ = some (.int .i64 k') ∧ w'.cell? ⟨w.heap.size + 1, 1, none⟩ = some (.bool n') ∧ w'.cell? ⟨w.heap.size + 1, 2, none⟩ = some (.int .i64 d') ∧ w'.cell? ⟨w.heap.size + 1, 3, none⟩ = some (.int .i64 x') ∧ w'.cell? ⟨w.heap.size + 1, 4, none⟩ = some (sV t')) (go_keep)
        (first
          | (go_at_call 7; refine (CI _ (hT.later (xt X2 Y15)) (hE.later (xt X2 Y15))).mono ?_; rintro e v16 ⟨rfl, e16⟩; have Y16 := xt Y15 e16; have p16a0 := ((Ba.later Y16) 0 _ rfl).1; have p16b0 := ((Bb.later Y16) 0 _ rfl).1; have p16a1 := ((Ba.later Y16) 1 _ rfl).1; have p16b1 := ((Bb.later Y16) 1 _ rfl).1; have p16a2 := ((Ba.later Y16) 2 _ rfl).1; have p16b2 := ((Bb.later Y16) 2 _ rfl).1; have p16a3 := ((Ba.later Y16) 3 _ rfl).1; have p16b3 := ((Bb.later Y16) 3 _ rfl).1; have p16a4 := ((Ba.later Y16) 4 _ rfl).1; have p16b4 := ((Bb.later Y16) 4 _ rfl).1)
          | (go_at_call_of 6 (Value.agg #[.int .i64 k, .bool n, .int .i64 d, .int .i64 x, sV t]); refine (toValue k n d x t _).mono ?_; rintro e v14 ⟨rfl, e14⟩; have Y14 := xt Y13 (xt (xd (xr _)) e14); have p14a0 := ((Ba.later Y14) 0 _ rfl).1; have p14b0 := ((Bb.later Y14) 0 _ rfl).1; have p14a1 := ((Ba.later Y14) 1 _ rfl).1; have p14b1 := ((Bb.later Y14) 1 _ rfl).1; have p14a2 := ((Ba.later Y14) 2 _ rfl).1; have p14b2 := ((Bb.later Y14) 2 _ rfl).1; have p14a3 := ((Ba.later Y14) 3 _ rfl).1; have p14b3 := ((Bb.later Y14) 3 _ rfl).1; have p14a4 := ((Ba.later Y14) 4 _ rfl).1; have p14b4 := ((Bb.later Y14) 4 _ rfl).1)
          | (go_at_call_of 6 (Value.agg #[.int .i64 k', .bool n', .int .i64 d', .int .i64 x', sV t']); refine (toValue k' n' d' x' t' _).mono ?_; rintro e v15 ⟨rfl, e15⟩; have Y15 := xt Y14 e15; have p15a0 := ((Ba.later Y15) 0 _ rfl).1; have p15b0 := ((Bb.later Y15) 0 _ rfl).1; have p15a1 := ((Ba.later Y15) 1 _ rfl).1; have p15b1 := ((Bb.later Y15) 1 _ rfl).1; have p15a2 := ((Ba.later Y15) 2 _ rfl).1; have p15b2 := ((Bb.later Y15) 2 _ rfl).1; have p15a3 := ((Ba.later Y15) 3 _ rfl).1; have p15b3 := ((Bb.later Y15) 3 _ rfl).1; have p15a4 := ((Ba.later Y15) 4 _ rfl).1; have p15b4 := ((Bb.later Y15) 4 _ rfl).1))
      clear hT hE
      go_wp2_with fail
      go_ret
      exact ⟨rfl, xt X2 Y16⟩

end Go.Proofs.YtchpieciifhplaaGreatDoor

