/-
  The program's turnedEnds.
-/
import Derived.Test.YtdbiefpgoiofcaaTi
namespace Go.Proofs.Ytdbiefpgoiofcaa
open Go.RowKit

set_option maxRecDepth 8000 in
set_option maxHeartbeats 4000000 in
theorem tendsI (k a m : Int) (d : Bool) (x y l : Int) (w : World) (hl : limT k = l) (hk : k = 1 ∨ k = 2) (hm : 1 ≤ m ∧ m ≤ 100) (ha : 1 ≤ a ∧ a ≤ l) (hd : d = true → a + m - 1 ≤ l) (hx : 1 ≤ x ∧ x ≤ l) (hy : 1 ≤ y ∧ y ≤ l) :
    Calls Try.prog 34 #[tuV k a m d, .int .i64 x, .int .i64 y] w fun e w' => e = .returned (if y < x then .tuple #[.int .i64 (lfT l a m d (lo x y) (hi x y)), .int .i64 (lfF l a m d (lo x y) (hi x y)), .bool (!decide (lfF l a m d (lo x y) (hi x y) > lfT l a m d (lo x y) (hi x y)))]
      else .tuple #[.int .i64 (lfF l a m d (lo x y) (hi x y)), .int .i64 (lfT l a m d (lo x y) (hi x y)), .bool (!decide (lfF l a m d (lo x y) (hi x y) > lfT l a m d (lo x y) (hi x y)))]) ∧ Ext w w' := by
  have LO := lo_is x y
  have HI := hi_is x y
  have LF := fun w => leftI k a m d (lo x y) (hi x y) l w hl hk hm ha hd (by omega) (by omega) (by omega)
  obtain ⟨F, hF⟩ : ∃ F, lfF l a m d (lo x y) (hi x y) = F := ⟨_, rfl⟩
  obtain ⟨T, hT⟩ : ∃ T, lfT l a m d (lo x y) (hi x y) = T := ⟨_, rfl⟩
  rw [hF, hT] at LF
  rw [hF, hT]
  clear hF hT hl hk hm ha hd hx hy
  have X := x1 w (.cells #[.int .i64 k, .int .i64 a, .int .i64 m, .bool d] 25)
  have B3 := Vec.made4 w (.int .i64 k) (.int .i64 a) (.int .i64 m) (.bool d) 25
  obtain ⟨e, he⟩ : ∃ e, (!decide (F > T)) = e := ⟨_, rfl⟩
  have SE := fun w => spanEmpty F T w
  obtain ⟨e', he'⟩ : ∃ e, decide (F > T) = e := ⟨_, rfl⟩
  rw [he'] at SE he
  rw [he', he]
  clear he'
  by_cases h : y < x
  · have e1 : lo x y = y := by omega
    have e2 : hi x y = x := by omega
    rw [e1, e2] at LF
    rw [if_pos h]
    have f1 : (y < x) = True := eq_true h
    have f2 : (x < y) = False := eq_false (by omega)
    clear LO HI e1 e2 h
    go_enter Try.func34, Try.ntmps34
    go_upto_region 1 with fail
    obtain ⟨w0, hw0⟩ : ∃ u, w.alloc (.cells #[.int .i64 k, .int .i64 a, .int .i64 m, .bool d] 25) = u := ⟨_, rfl⟩
    rw [hw0] at X B3 ⊢
    clear hw0
    obtain ⟨⟨a0, a1, a2, a3⟩, _⟩ := B3.box4
    go_wp2_with fail
    refine (LF _).mono ?_
    rintro rr w1 ⟨rfl, x1'⟩
    clear a0 a1 a2 a3 B3 LF
    go_upto_region 3 with fail
    have B9 := Vec.made2 w1 (.int .i64 F) (.int .i64 T) 67
    have x2 := x1 w1 (.cells #[.int .i64 F, .int .i64 T] 67)
    obtain ⟨w2, hw2⟩ : ∃ u, w1.alloc (.cells #[.int .i64 F, .int .i64 T] 67) = u := ⟨_, rfl⟩
    rw [hw2] at B9 x2 ⊢
    replace X := xt (xt X x1') x2
    clear hw2 x1' x2
    obtain ⟨⟨p0, p1⟩, _⟩ := B9.box2
    go_region_held3 (fun w' => w'.cell? ⟨w1.heap.size, 0, none⟩ = some (.int .i64 F) ∧ w'.cell? ⟨w1.heap.size, 1, none⟩ = some (.int .i64 T)) (go_keep) (first
      | (go_at_call 40; refine (SE _).mono ?_; rintro rr w3 ⟨rfl, x3⟩; have x3' : Ext w2 w3 := xt (xd (xr _)) x3; clear p0 p1; obtain ⟨⟨p0, p1⟩, _⟩ := (B9.later x3').box2))
    all_goals go_wp2_with fail
    all_goals exact bodyPost_ret (v := .tuple #[.int .i64 T, .int .i64 F, .bool e]) (by simp [results, Try.results34, go_sem]) rfl ⟨rfl, xt X x3'⟩
  rw [if_neg h]
  by_cases h' : x < y
  · have e1 : lo x y = x := by omega
    have e2 : hi x y = y := by omega
    rw [e1, e2] at LF
    have f1 : (y < x) = False := eq_false h
    have f2 : (x < y) = True := eq_true h'
    clear LO HI e1 e2 h h'
    go_enter Try.func34, Try.ntmps34
    go_upto_region 1 with fail
    obtain ⟨w0, hw0⟩ : ∃ u, w.alloc (.cells #[.int .i64 k, .int .i64 a, .int .i64 m, .bool d] 25) = u := ⟨_, rfl⟩
    rw [hw0] at X B3 ⊢
    clear hw0
    obtain ⟨⟨a0, a1, a2, a3⟩, _⟩ := B3.box4
    go_wp2_with fail
    refine (LF _).mono ?_
    rintro rr w1 ⟨rfl, x1'⟩
    clear a0 a1 a2 a3 B3 LF
    go_upto_region 4 with fail
    have B9 := Vec.made2 w1 (.int .i64 F) (.int .i64 T) 67
    have x2 := x1 w1 (.cells #[.int .i64 F, .int .i64 T] 67)
    obtain ⟨w2, hw2⟩ : ∃ u, w1.alloc (.cells #[.int .i64 F, .int .i64 T] 67) = u := ⟨_, rfl⟩
    rw [hw2] at B9 x2 ⊢
    replace X := xt (xt X x1') x2
    clear hw2 x1' x2
    obtain ⟨⟨p0, p1⟩, _⟩ := B9.box2
    go_region_held3 (fun w' => w'.cell? ⟨w1.heap.size, 0, none⟩ = some (.int .i64 F) ∧ w'.cell? ⟨w1.heap.size, 1, none⟩ = some (.int .i64 T)) (go_keep) (first
      | (go_at_call 40; refine (SE _).mono ?_; rintro rr w3 ⟨rfl, x3⟩; have x3' : Ext w2 w3 := xt (xd (xr _)) x3; clear p0 p1; obtain ⟨⟨p0, p1⟩, _⟩ := (B9.later x3').box2))
    all_goals go_wp2_with fail
    all_goals exact bodyPost_ret (v := .tuple #[.int .i64 F, .int .i64 T, .bool e]) (by simp [results, Try.results34, go_sem]) rfl ⟨rfl, xt X x3'⟩
  · obtain rfl : x = y := by omega
    have e1 : lo x x = x := by omega
    have e2 : hi x x = x := by omega
    rw [e1, e2] at LF
    have f1 : (x < x) = False := eq_false h
    clear LO HI e1 e2 h h'
    go_enter Try.func34, Try.ntmps34
    go_upto_region 1 with fail
    obtain ⟨w0, hw0⟩ : ∃ u, w.alloc (.cells #[.int .i64 k, .int .i64 a, .int .i64 m, .bool d] 25) = u := ⟨_, rfl⟩
    rw [hw0] at X B3 ⊢
    clear hw0
    obtain ⟨⟨a0, a1, a2, a3⟩, _⟩ := B3.box4
    go_wp2_with fail
    refine (LF _).mono ?_
    rintro rr w1 ⟨rfl, x1'⟩
    clear a0 a1 a2 a3 B3 LF
    go_upto_region 4 with fail
    have B9 := Vec.made2 w1 (.int .i64 F) (.int .i64 T) 67
    have x2 := x1 w1 (.cells #[.int .i64 F, .int .i64 T] 67)
    obtain ⟨w2, hw2⟩ : ∃ u, w1.alloc (.cells #[.int .i64 F, .int .i64 T] 67) = u := ⟨_, rfl⟩
    rw [hw2] at B9 x2 ⊢
    replace X := xt (xt X x1') x2
    clear hw2 x1' x2
    obtain ⟨⟨p0, p1⟩, _⟩ := B9.box2
    go_region_held3 (fun w' => w'.cell? ⟨w1.heap.size, 0, none⟩ = some (.int .i64 F) ∧ w'.cell? ⟨w1.heap.size, 1, none⟩ = some (.int .i64 T)) (go_keep) (first
      | (go_at_call 40; refine (SE _).mono ?_; rintro rr w3 ⟨rfl, x3⟩; have x3' : Ext w2 w3 := xt (xd (xr _)) x3; clear p0 p1; obtain ⟨⟨p0, p1⟩, _⟩ := (B9.later x3').box2))
    all_goals go_wp2_with fail
    all_goals exact bodyPost_ret (v := .tuple #[.int .i64 F, .int .i64 T, .bool e]) (by simp [results, Try.results34, go_sem]) rfl ⟨rfl, xt X x3'⟩

end Go.Proofs.Ytdbiefpgoiofcaa
