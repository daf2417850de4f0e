/-
  Blocks of the program: what is common, what is around, what is empty.
-/
import Derived.Test.YthdjlhhedkfibaaDoorNor
namespace Go.Proofs.YthdjlhhedkfibaaDoor
open Go.RowKit

abbrev spV (a b : Int) : Value := .agg #[.int .i64 a, .int .i64 b]
abbrev blV (a b c d : Int) : Value := .agg #[.int .i64 a, .int .i64 b, .int .i64 c, .int .i64 d]
set_option maxRecDepth 8000 in
set_option maxHeartbeats 1000000 in
theorem spanCommon (a b a' b' : Int) (w : World) :
    Calls Tryd.prog 37 #[spV a b, spV a' b'] w fun e w' => e = .returned (spV (hi a a') (lo b b')) ∧ Ext w w' := by
  by_cases ga : a < a'
  · have ea : hi a a' = a' := by unfold hi; split <;> omega
    have fa : (a < a') = True := eq_true ga
    rw [ea]
    by_cases gb : b' < b
    · have eb : lo b b' = b' := by unfold lo; split <;> omega
      have fb : (b' < b) = True := eq_true gb
      rw [eb]
      clear ga gb ea eb
      go_enter Tryd.func37, Tryd.ntmps37
      go_wp2
      exact bodyPost_ret (v := spV a' b') (by simp [results, Tryd.results37, go_sem]) rfl ⟨rfl, xa (xa (x1 _ _) _) _⟩
    · have eb : lo b b' = b := by unfold lo; split <;> omega
      have fb : (b' < b) = False := eq_false gb
      rw [eb]
      clear ga gb ea eb
      go_enter Tryd.func37, Tryd.ntmps37
      go_wp2
      exact bodyPost_ret (v := spV a' b) (by simp [results, Tryd.results37, go_sem]) rfl ⟨rfl, xa (xa (x1 _ _) _) _⟩
  · have ea : hi a a' = a := by unfold hi; split <;> omega
    have fa : (a < a') = False := eq_false ga
    rw [ea]
    by_cases gb : b' < b
    · have eb : lo b b' = b' := by unfold lo; split <;> omega
      have fb : (b' < b) = True := eq_true gb
      rw [eb]
      clear ga gb ea eb
      go_enter Tryd.func37, Tryd.ntmps37
      go_wp2
      exact bodyPost_ret (v := spV a b') (by simp [results, Tryd.results37, go_sem]) rfl ⟨rfl, xa (xa (x1 _ _) _) _⟩
    · have eb : lo b b' = b := by unfold lo; split <;> omega
      have fb : (b' < b) = False := eq_false gb
      rw [eb]
      clear ga gb ea eb
      go_enter Tryd.func37, Tryd.ntmps37
      go_wp2
      exact bodyPost_ret (v := spV a b) (by simp [results, Tryd.results37, go_sem]) rfl ⟨rfl, xa (xa (x1 _ _) _) _⟩
set_option maxRecDepth 8000 in
set_option maxHeartbeats 1000000 in
theorem spanAround (a b a' b' : Int) (w : World) :
    Calls Tryd.prog 41 #[spV a b, spV a' b'] w fun e w' => e = .returned (spV (lo a a') (hi b b')) ∧ Ext w w' := by
  by_cases ga : a' < a
  · have ea : lo a a' = a' := by unfold lo; split <;> omega
    have fa : (a' < a) = True := eq_true ga
    rw [ea]
    by_cases gb : b < b'
    · have eb : hi b b' = b' := by unfold hi; split <;> omega
      have fb : (b < b') = True := eq_true gb
      rw [eb]
      clear ga gb ea eb
      go_enter Tryd.func41, Tryd.ntmps41
      go_wp2
      exact bodyPost_ret (v := spV a' b') (by simp [results, Tryd.results41, go_sem]) rfl ⟨rfl, xa (xa (x1 _ _) _) _⟩
    · have eb : hi b b' = b := by unfold hi; split <;> omega
      have fb : (b < b') = False := eq_false gb
      rw [eb]
      clear ga gb ea eb
      go_enter Tryd.func41, Tryd.ntmps41
      go_wp2
      exact bodyPost_ret (v := spV a' b) (by simp [results, Tryd.results41, go_sem]) rfl ⟨rfl, xa (xa (x1 _ _) _) _⟩
  · have ea : lo a a' = a := by unfold lo; split <;> omega
    have fa : (a' < a) = False := eq_false ga
    rw [ea]
    by_cases gb : b < b'
    · have eb : hi b b' = b' := by unfold hi; split <;> omega
      have fb : (b < b') = True := eq_true gb
      rw [eb]
      clear ga gb ea eb
      go_enter Tryd.func41, Tryd.ntmps41
      go_wp2
      exact bodyPost_ret (v := spV a b') (by simp [results, Tryd.results41, go_sem]) rfl ⟨rfl, xa (xa (x1 _ _) _) _⟩
    · have eb : hi b b' = b := by unfold hi; split <;> omega
      have fb : (b < b') = False := eq_false gb
      rw [eb]
      clear ga gb ea eb
      go_enter Tryd.func41, Tryd.ntmps41
      go_wp2
      exact bodyPost_ret (v := spV a b) (by simp [results, Tryd.results41, go_sem]) rfl ⟨rfl, xa (xa (x1 _ _) _) _⟩
set_option maxRecDepth 8000 in
set_option maxHeartbeats 1000000 in
theorem blockCommon (a b c d a' b' c' d' : Int) (w : World) :
    Calls Tryd.prog 22 #[blV a b c d, blV a' b' c' d'] w fun e w' => e = .returned (blV (hi a a') (lo b b') (hi c c') (lo d d')) ∧ Ext w w' := by
  have B1 := Vec.made4 w (.int .i64 a) (.int .i64 b) (.int .i64 c) (.int .i64 d) 47
  have X1 := x1 w (.cells #[.int .i64 a, .int .i64 b, .int .i64 c, .int .i64 d] 47)
  obtain ⟨wa, ha⟩ : ∃ wa, w.alloc (.cells #[.int .i64 a, .int .i64 b, .int .i64 c, .int .i64 d] 47) = wa := ⟨_, rfl⟩
  have B2 := Vec.made4 wa (.int .i64 a') (.int .i64 b') (.int .i64 c') (.int .i64 d') 47
  have X2 := x1 wa (.cells #[.int .i64 a', .int .i64 b', .int .i64 c', .int .i64 d'] 47)
  obtain ⟨wb, hb⟩ : ∃ wb, wa.alloc (.cells #[.int .i64 a', .int .i64 b', .int .i64 c', .int .i64 d'] 47) = wb := ⟨_, rfl⟩
  have B3 := Vec.made4 wb (.int .i64 0) (.int .i64 0) (.int .i64 0) (.int .i64 0) 47
  have X3 := x1 wb (.cells #[.int .i64 0, .int .i64 0, .int .i64 0, .int .i64 0] 47)
  have sa : wa.heap.size = w.heap.size + 1 := by rw [← ha, World.size_alloc]
  have sb : wb.heap.size = w.heap.size + 1 + 1 := by rw [← hb, World.size_alloc, sa]
  rw [ha] at X1 B1
  rw [hb] at X2 B2
  rw [sa] at B2
  rw [sb] at B3
  have X := xt (xt X1 X2) X3
  have B1 := (B1.later X2).later X3
  have B2 := B2.later X3
  clear X1 X2 X3
  obtain ⟨wc, hc0⟩ : ∃ wc, wb.alloc (.cells #[.int .i64 0, .int .i64 0, .int .i64 0, .int .i64 0] 47) = wc := ⟨_, rfl⟩
  rw [hc0] at B1 B2 B3 X
  have Y := xr wc
  obtain ⟨⟨a0, a1, a2, a3⟩, _⟩ := B1.box4
  obtain ⟨⟨k0, k1, k2, k3⟩, _⟩ := B2.box4
  obtain ⟨⟨m0, m1, m2, m3⟩, f0, f1, f2, f3⟩ := B3.box4
  go_enter Tryd.func22, Tryd.ntmps22
  go_wp2_with fail
  have n1 : (w.heap.size = w.heap.size + 1 + 1) = False := eq_false (by omega)
  have n2 : (w.heap.size + 1 + 1 = w.heap.size) = False := eq_false (by omega)
  have n3 : (w.heap.size + 1 + 1 = w.heap.size + 1) = False := eq_false (by omega)
  clear ha hb hc0 sa sb
  go_region_held3 (fun w' => (w'.cell? ⟨w.heap.size, 0, none⟩ = some (.int .i64 a) ∧ w'.cell? ⟨w.heap.size, 1, none⟩ = some (.int .i64 b) ∧ w'.cell? ⟨w.heap.size, 2, none⟩ = some (.int .i64 c) ∧ w'.cell? ⟨w.heap.size, 3, none⟩ = some (.int .i64 d)) ∧ (w'.cell? ⟨w.heap.size + 1, 0, none⟩ = some (.int .i64 a') ∧ w'.cell? ⟨w.heap.size + 1, 1, none⟩ = some (.int .i64 b') ∧ w'.cell? ⟨w.heap.size + 1, 2, none⟩ = some (.int .i64 c') ∧ w'.cell? ⟨w.heap.size + 1, 3, none⟩ = some (.int .i64 d'))) (go_keep) (first
    | (go_at_call 37; refine (spanCommon _ _ _ _ _).mono ?_; rintro e w3 ⟨rfl, e3⟩; have Y : Ext wc w3 := (by first | exact xt Y e3 | exact xt (xd Y) e3); obtain ⟨⟨a0, a1, a2, a3⟩, _⟩ := (B1.later Y).box4; obtain ⟨⟨k0, k1, k2, k3⟩, _⟩ := (B2.later Y).box4; obtain ⟨⟨m0, m1, m2, m3⟩, f0, f1, f2, f3⟩ := (B3.later Y).box4))
  all_goals go_wp2_with fail
  all_goals exact bodyPost_ret (v := blV (hi a a') (lo b b') (hi c c') (lo d d')) (by simp [results, Tryd.results22, go_sem, m0, m1, m2, m3]) rfl ⟨rfl, Ext.set4 (o := 0) (xt X Y) (by omega) _ _ _ _⟩
set_option maxRecDepth 8000 in
set_option maxHeartbeats 1000000 in
theorem blockAround (a b c d a' b' c' d' : Int) (w : World) :
    Calls Tryd.prog 29 #[blV a b c d, blV a' b' c' d'] w fun e w' => e = .returned (blV (lo a a') (hi b b') (lo c c') (hi d d')) ∧ Ext w w' := by
  have B1 := Vec.made4 w (.int .i64 a) (.int .i64 b) (.int .i64 c) (.int .i64 d) 47
  have X1 := x1 w (.cells #[.int .i64 a, .int .i64 b, .int .i64 c, .int .i64 d] 47)
  obtain ⟨wa, ha⟩ : ∃ wa, w.alloc (.cells #[.int .i64 a, .int .i64 b, .int .i64 c, .int .i64 d] 47) = wa := ⟨_, rfl⟩
  have B2 := Vec.made4 wa (.int .i64 a') (.int .i64 b') (.int .i64 c') (.int .i64 d') 47
  have X2 := x1 wa (.cells #[.int .i64 a', .int .i64 b', .int .i64 c', .int .i64 d'] 47)
  obtain ⟨wb, hb⟩ : ∃ wb, wa.alloc (.cells #[.int .i64 a', .int .i64 b', .int .i64 c', .int .i64 d'] 47) = wb := ⟨_, rfl⟩
  have B3 := Vec.made4 wb (.int .i64 0) (.int .i64 0) (.int .i64 0) (.int .i64 0) 47
  have X3 := x1 wb (.cells #[.int .i64 0, .int .i64 0, .int .i64 0, .int .i64 0] 47)
  have sa : wa.heap.size = w.heap.size + 1 := by rw [← ha, World.size_alloc]
  have sb : wb.heap.size = w.heap.size + 1 + 1 := by rw [← hb, World.size_alloc, sa]
  rw [ha] at X1 B1
  rw [hb] at X2 B2
  rw [sa] at B2
  rw [sb] at B3
  have X := xt (xt X1 X2) X3
  have B1 := (B1.later X2).later X3
  have B2 := B2.later X3
  clear X1 X2 X3
  obtain ⟨wc, hc0⟩ : ∃ wc, wb.alloc (.cells #[.int .i64 0, .int .i64 0, .int .i64 0, .int .i64 0] 47) = wc := ⟨_, rfl⟩
  rw [hc0] at B1 B2 B3 X
  have Y := xr wc
  obtain ⟨⟨a0, a1, a2, a3⟩, _⟩ := B1.box4
  obtain ⟨⟨k0, k1, k2, k3⟩, _⟩ := B2.box4
  obtain ⟨⟨m0, m1, m2, m3⟩, f0, f1, f2, f3⟩ := B3.box4
  go_enter Tryd.func29, Tryd.ntmps29
  go_wp2_with fail
  have n1 : (w.heap.size = w.heap.size + 1 + 1) = False := eq_false (by omega)
  have n2 : (w.heap.size + 1 + 1 = w.heap.size) = False := eq_false (by omega)
  have n3 : (w.heap.size + 1 + 1 = w.heap.size + 1) = False := eq_false (by omega)
  clear ha hb hc0 sa sb
  go_region_held3 (fun w' => (w'.cell? ⟨w.heap.size, 0, none⟩ = some (.int .i64 a) ∧ w'.cell? ⟨w.heap.size, 1, none⟩ = some (.int .i64 b) ∧ w'.cell? ⟨w.heap.size, 2, none⟩ = some (.int .i64 c) ∧ w'.cell? ⟨w.heap.size, 3, none⟩ = some (.int .i64 d)) ∧ (w'.cell? ⟨w.heap.size + 1, 0, none⟩ = some (.int .i64 a') ∧ w'.cell? ⟨w.heap.size + 1, 1, none⟩ = some (.int .i64 b') ∧ w'.cell? ⟨w.heap.size + 1, 2, none⟩ = some (.int .i64 c') ∧ w'.cell? ⟨w.heap.size + 1, 3, none⟩ = some (.int .i64 d'))) (go_keep) (first
    | (go_at_call 41; refine (spanAround _ _ _ _ _).mono ?_; rintro e w3 ⟨rfl, e3⟩; have Y : Ext wc w3 := (by first | exact xt Y e3 | exact xt (xd Y) e3); obtain ⟨⟨a0, a1, a2, a3⟩, _⟩ := (B1.later Y).box4; obtain ⟨⟨k0, k1, k2, k3⟩, _⟩ := (B2.later Y).box4; obtain ⟨⟨m0, m1, m2, m3⟩, f0, f1, f2, f3⟩ := (B3.later Y).box4))
  all_goals go_wp2_with fail
  all_goals exact bodyPost_ret (v := blV (lo a a') (hi b b') (lo c c') (hi d d')) (by simp [results, Tryd.results29, go_sem, m0, m1, m2, m3]) rfl ⟨rfl, Ext.set4 (o := 0) (xt X Y) (by omega) _ _ _ _⟩
set_option maxHeartbeats 1000000 in
theorem spanEmpty (a b : Int) (w : World) :
    Calls Tryd.prog 38 #[spV a b] w fun e w' => e = .returned (.bool (decide (a > b))) ∧ Ext w w' := by
  go_enter Tryd.func38, Tryd.ntmps38
  go_wp2
  all_goals go_ret
  all_goals exact ⟨rfl, x1 _ _⟩
set_option maxRecDepth 8000 in
set_option maxHeartbeats 1000000 in
theorem blockEmpty (a b c d : Int) (w : World) :
    Calls Tryd.prog 23 #[blV a b c d] w fun e w' => e = .returned (.bool (decide (a > b) || decide (c > d))) ∧ Ext w w' := by
  have S1 := fun w => spanEmpty a b w
  have S2 := fun w => spanEmpty c d w
  obtain ⟨p, hp⟩ : ∃ p, decide (a > b) = p := ⟨_, rfl⟩
  obtain ⟨q, hq⟩ : ∃ q, decide (c > d) = q := ⟨_, rfl⟩
  rw [hp] at S1 ⊢
  rw [hq] at S2 ⊢
  clear hp hq
  have B1 := Vec.made4 w (.int .i64 a) (.int .i64 b) (.int .i64 c) (.int .i64 d) 47
  have X1 := x1 w (.cells #[.int .i64 a, .int .i64 b, .int .i64 c, .int .i64 d] 47)
  go_enter Tryd.func23, Tryd.ntmps23
  go_wp2_with fail
  refine (S1 _).mono ?_
  rintro e w1 ⟨rfl, e1⟩
  obtain ⟨⟨a0, a1, a2, a3⟩, _⟩ := (B1.later e1).box4
  cases p
  · go_wp2_with fail
    refine (S2 _).mono ?_
    rintro e w2 ⟨rfl, e2⟩
    go_wp2_with fail
    go_ret
    exact ⟨rfl, xt (xt X1 e1) e2⟩
  · go_wp2_with fail
    go_ret
    exact ⟨rfl, xt X1 e1⟩
set_option maxRecDepth 8000 in
set_option maxHeartbeats 1000000 in
theorem blockArea (a b c d : Int) (w : World) :
    Calls Tryd.prog 24 #[blV a b c d] w fun e w' => e = .returned (arV a c false false b d false false) ∧ Ext w w' := by
  go_enter Tryd.func24, Tryd.ntmps24
  go_wp2
  exact bodyPost_ret (v := arV a c false false b d false false) (by simp [results, Tryd.results24, go_sem]) rfl ⟨rfl, xa (x1 _ _) _⟩
set_option maxRecDepth 8000 in
set_option maxHeartbeats 1000000 in
/-- The block of a good area. -/
theorem blockOf (r c : Int) (rf cf : Bool) (r' c' : Int) (rf' cf' : Bool) (w : World) (hg : goodAB r c r' c' = true) :
    Calls Tryd.prog 21 #[arV r c rf cf r' c' rf' cf'] w fun e w' => e = .returned (blV (lo r r') (hi r r') (lo c c') (hi c c')) ∧ Ext w w' := by
  have N := fun w => normalI_good r c rf cf r' c' rf' cf' w hg
  have B2 := Vec.made4 (w.alloc (.cells #[.int .i64 r, .int .i64 c, .bool rf, .bool cf, .int .i64 r', .int .i64 c', .bool rf', .bool cf'] 26)) (.int .i64 0) (.int .i64 0) (.int .i64 0) (.int .i64 0) 47
  have X := xa (x1 w (.cells #[.int .i64 r, .int .i64 c, .bool rf, .bool cf, .int .i64 r', .int .i64 c', .bool rf', .bool cf'] 26)) (.cells #[.int .i64 0, .int .i64 0, .int .i64 0, .int .i64 0] 47)
  rw [World.size_alloc] at B2
  obtain ⟨n1, h1⟩ : ∃ n, lo r r' = n := ⟨_, rfl⟩
  obtain ⟨n2, h2⟩ : ∃ n, lo c c' = n := ⟨_, rfl⟩
  obtain ⟨n3, h3⟩ : ∃ n, loF r r' rf rf' = n := ⟨_, rfl⟩
  obtain ⟨n4, h4⟩ : ∃ n, loF c c' cf cf' = n := ⟨_, rfl⟩
  obtain ⟨n5, h5⟩ : ∃ n, hi r r' = n := ⟨_, rfl⟩
  obtain ⟨n6, h6⟩ : ∃ n, hi c c' = n := ⟨_, rfl⟩
  obtain ⟨n7, h7⟩ : ∃ n, hiF r r' rf rf' = n := ⟨_, rfl⟩
  obtain ⟨n8, h8⟩ : ∃ n, hiF c c' cf cf' = n := ⟨_, rfl⟩
  simp only [norV, h1, h2, h3, h4, h5, h6, h7, h8] at N ⊢
  clear h1 h2 h3 h4 h5 h6 h7 h8 hg
  go_enter Tryd.func21, Tryd.ntmps21
  go_wp2_with fail
  refine (N _).mono ?_
  rintro e w1 ⟨rfl, e1⟩
  have C2 := B2.later e1
  have Y := xt X e1
  clear B2 X e1 N
  obtain ⟨w2, h2⟩ : ∃ w2, w1.alloc (.cells #[.int .i64 n1, .int .i64 n2, .bool n3, .bool n4, .int .i64 n5, .int .i64 n6, .bool n7, .bool n8] 26) = w2 := ⟨_, rfl⟩
  have P := Vec.made8 w1 (.int .i64 n1) (.int .i64 n2) (.bool n3) (.bool n4) (.int .i64 n5) (.int .i64 n6) (.bool n7) (.bool n8) 26
  have x2 := x1 w1 (.cells #[.int .i64 n1, .int .i64 n2, .bool n3, .bool n4, .int .i64 n5, .int .i64 n6, .bool n7, .bool n8] 26)
  rw [h2] at P x2
  have D2 := C2.later x2
  have Z := Ext.set4 (b := w.heap.size + 1) (o := 0) (xt Y x2) (by omega) (.int .i64 n1) (.int .i64 n5) (.int .i64 n2) (.int .i64 n6)
  obtain ⟨⟨⟨a0, a1, a2, a3⟩, a4, a5, a6, a7⟩, _⟩ := P.box8
  obtain ⟨⟨m0, m1, m2, m3⟩, f0, f1, f2, f3⟩ := D2.box4
  clear P D2 C2 Y x2
  go_wp2_with fail
  exact bodyPost_ret (v := blV n1 n5 n2 n6) (by simp [results, Tryd.results21, go_sem, m0, m1, m2, m3]) rfl ⟨rfl, Z⟩

set_option maxHeartbeats 400000 in
theorem maxS (a b : Int) (w : World) :
    Calls Tryd.prog 30 #[.int .i64 a, .int .i64 b] w fun e w' => e = .returned (.int .i64 (hi a b)) ∧ w' = w := by
  go_enter Tryd.func30, Tryd.ntmps30
  go_wp2
  all_goals go_ret
  all_goals exact ⟨ret_int (by unfold hi; split <;> omega), rfl⟩
set_option maxHeartbeats 400000 in
theorem minS (a b : Int) (w : World) :
    Calls Tryd.prog 31 #[.int .i64 a, .int .i64 b] w fun e w' => e = .returned (.int .i64 (lo a b)) ∧ w' = w := by
  go_enter Tryd.func31, Tryd.ntmps31
  go_wp2
  all_goals go_ret
  all_goals exact ⟨ret_int (by unfold lo; split <;> omega), rfl⟩
set_option maxRecDepth 8000 in
set_option maxHeartbeats 400000 in
theorem areaS (a b c d : Int) (w : World) :
    Calls Tryd.prog 27 #[.int .i64 a, .int .i64 b, .int .i64 c, .int .i64 d] w fun e w' => e = .returned (arV a b false false c d false false) ∧ Ext w w' := by
  go_enter Tryd.func27, Tryd.ntmps27
  go_wp2
  exact bodyPost_ret (v := arV a b false false c d false false) (by simp [results, Tryd.results27, go_sem]) rfl ⟨rfl, x1 _ _⟩

end Go.Proofs.YthdjlhhedkfibaaDoor
