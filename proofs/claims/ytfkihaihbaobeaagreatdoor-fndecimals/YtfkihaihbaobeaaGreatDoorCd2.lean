/-
  What seldom spoils a drawn number.
-/
import Derived.Test.YtfkihaihbaobeaaGreatDoorMg31
namespace Go.Proofs.YtfkihaihbaobeaaGreatDoor
open Go.RowKit

set_option maxRecDepth 8000 in
set_option maxHeartbeats 2000000 in
theorem oddC (b base K : Nat) (n : Bool) (d x : Int) (w : World) (h : Cur w b base K) (hK : K ≤ 1000000) (d0 : 0 ≤ d) (d1 : d < 1000000000000000) :
    Calls Tryz.prog 31 #[.pointer (some ⟨b, 0, none⟩), decV n d x] w fun e w' => (∃ n d x, e = .returned (decV n d x) ∧ -1000000000000000000 ≤ d ∧ d ≤ 1000000000000000000) ∧ Cur w' b base (K + 4) ∧ Only b w w' := by
  have bl := h.lt
  have bb := h.baseC
  have X0 := x1 w (.cells #[.bool n, .int .i64 d, .int .i64 x] 24)
  have V0 := vec_made w [.bool n, .int .i64 d, .int .i64 x] 24
  change Vec (w.alloc (.cells #[.bool n, .int .i64 d, .int .i64 x] 24)) _ _ at V0
  have X1 := x1 (w.alloc (.cells #[.bool n, .int .i64 d, .int .i64 x] 24)) (.cells #[.bool false, .int .i64 0, .int .i64 0] 24)
  have Vb := vec_made (w.alloc (.cells #[.bool n, .int .i64 d, .int .i64 x] 24)) [.bool false, .int .i64 0, .int .i64 0] 24
  have zb : (w.alloc (.cells #[.bool n, .int .i64 d, .int .i64 x] 24)).heap.size = w.heap.size + 1 := by simp
  rw [zb] at Vb
  change Vec ((w.alloc (.cells #[.bool n, .int .i64 d, .int .i64 x] 24)).alloc (.cells #[.bool false, .int .i64 0, .int .i64 0] 24)) _ _ at Vb
  have Va := V0.later X1
  have C0 := h.ext (xt X0 X1)
  have O0 : Only b w _ := Only.of_ext (xt X0 X1)
  clear V0 X0 X1 zb
  go_enter Tryz.func31, Tryz.ntmps31
  go_wp2_with fail
  refine (pickC b base K 40 _ C0 (by omega) (by omega) (by omega)).mono ?_
  rintro e w1 ⟨q, rfl, ⟨y0, y9⟩, C1, o1⟩
  have Va1 := o1.vecC (by omega) Va
  have Vb1 := o1.vecC (by omega) Vb
  have O1 := O0.trans o1
  clear C0 o1 Va Vb O0 h
  by_cases h0 : q = 0
  · subst h0
    clear y0 y9
    have hm : IntKind.i64.wrap (d * 10) = d * 10 := by rw [IntKind.wrap_i64]; omega
    obtain ⟨e0, e1, e2⟩ := Va1.three
    obtain ⟨f0, f1, f2⟩ := Va1.threeF
    obtain ⟨wz, hz⟩ : ∃ wz, w1.setCell ⟨w.heap.size, 1, none⟩ (.int .i64 (d * 10)) = wz := ⟨_, rfl⟩
    have Vz : Vec wz w.heap.size [.bool n, .int .i64 (d * 10), .int .i64 x] := by rw [← hz]; exact Va1.put 1 (by simp) _
    have Vb1 : Vec wz (w.heap.size + 1) [.bool false, .int .i64 0, .int .i64 0] := by rw [← hz]; exact Vb1.far (by simp) _
    have Oz : Only b w wz := by rw [← hz]; exact O1.setNew (Nat.le_refl _) _
    have Cz := (C1.far (g := w.heap.size) (i := 1) (by omega) (by omega) (.int .i64 (d * 10)))
    rw [hz] at Cz
    obtain ⟨a0, a1, a2⟩ := Vz.three
    obtain ⟨wy, hy, OF, CF, ⟨b0, b1, b2⟩, ⟨fb0, fb1, fb2⟩, fd0, fd1, fd2⟩ := finDC Vb1 Cz Oz (by omega) (by omega) (by omega) n (d * 10) x
    go_wp2_with fail
    exact bodyPost_ret (v := decV n (d * 10) x) (by simp [results, Tryz.results31, go_sem, fd0, fd1, fd2]) rfl ⟨⟨_, _, _, rfl, by omega, by omega⟩, CF.more (by omega), OF⟩
  · have g0 : (q == 0) = false := by simpa using h0
    by_cases h1 : q = 1
    · subst h1
      clear y0 y9
      have lb := Va1.three.1
      have ls : w.heap.size + 1 < w1.heap.size := World.block_lt_of_cell? _ _ Vb1.three.1
      have lb1 := C1.lt
      clear lb
      have Xs := x1 w1 (.cells #[.int .i64 301, .int .i64 (-301), .int .i64 300] 3)
      have Vs := vec_made w1 [.int .i64 301, .int .i64 (-301), .int .i64 300] 3
      change Vec (w1.alloc (.cells #[.int .i64 301, .int .i64 (-301), .int .i64 300] 3)) _ _ at Vs
      have Va1 := Va1.later Xs
      have Vb1 := Vb1.later Xs
      have O1 := O1.trans (Only.of_ext Xs)
      have C1 := C1.ext Xs
      clear Xs
      go_wp2_with fail
      refine (pickC b base _ 3 _ C1 (by omega) (by omega) (by omega)).mono ?_
      rintro e w2 ⟨r, rfl, ⟨y0, y9⟩, C1, o1⟩
      have Va1 := o1.vecC (by omega) Va1
      have Vb1 := o1.vecC (by omega) Vb1
      have Vs := o1.vecC (by omega) Vs
      have O1 := O1.trans o1
      obtain ⟨s0, s1, s2⟩ := Vs.three
      clear o1 Vs
      obtain ⟨e0, e1, e2⟩ := Va1.three
      obtain ⟨f0, f1, f2⟩ := Va1.threeF
      have hr : r = 0 ∨ r = 1 ∨ r = 2 := by omega
      clear y0 y9
      rcases hr with rfl | rfl | rfl
      · obtain ⟨wz, hz⟩ : ∃ wz, w2.setCell ⟨w.heap.size, 2, none⟩ (.int .i64 301) = wz := ⟨_, rfl⟩
        have Vz : Vec wz w.heap.size [.bool n, .int .i64 d, .int .i64 301] := by rw [← hz]; exact Va1.put 2 (by simp) _
        have Vb1 : Vec wz (w.heap.size + 1) [.bool false, .int .i64 0, .int .i64 0] := by rw [← hz]; exact Vb1.far (by simp) _
        have Oz : Only b w wz := by rw [← hz]; exact O1.setNew (Nat.le_refl _) _
        have Cz := (C1.far (g := w.heap.size) (i := 2) (by omega) (by omega) (.int .i64 301))
        rw [hz] at Cz
        obtain ⟨a0, a1, a2⟩ := Vz.three
        obtain ⟨wy, hy, OF, CF, ⟨b0, b1, b2⟩, ⟨fb0, fb1, fb2⟩, fd0, fd1, fd2⟩ := finDC Vb1 Cz Oz (by omega) (by omega) (by omega) n d 301
        go_wp2_with fail
        exact bodyPost_ret (v := decV n d 301) (by simp [results, Tryz.results31, go_sem, fd0, fd1, fd2]) rfl ⟨⟨_, _, _, rfl, by omega, by omega⟩, CF.more (by omega), OF⟩
      · obtain ⟨wz, hz⟩ : ∃ wz, w2.setCell ⟨w.heap.size, 2, none⟩ (.int .i64 (-301)) = wz := ⟨_, rfl⟩
        have Vz : Vec wz w.heap.size [.bool n, .int .i64 d, .int .i64 (-301)] := by rw [← hz]; exact Va1.put 2 (by simp) _
        have Vb1 : Vec wz (w.heap.size + 1) [.bool false, .int .i64 0, .int .i64 0] := by rw [← hz]; exact Vb1.far (by simp) _
        have Oz : Only b w wz := by rw [← hz]; exact O1.setNew (Nat.le_refl _) _
        have Cz := (C1.far (g := w.heap.size) (i := 2) (by omega) (by omega) (.int .i64 (-301)))
        rw [hz] at Cz
        obtain ⟨a0, a1, a2⟩ := Vz.three
        obtain ⟨wy, hy, OF, CF, ⟨b0, b1, b2⟩, ⟨fb0, fb1, fb2⟩, fd0, fd1, fd2⟩ := finDC Vb1 Cz Oz (by omega) (by omega) (by omega) n d (-301)
        go_wp2_with fail
        exact bodyPost_ret (v := decV n d (-301)) (by simp [results, Tryz.results31, go_sem, fd0, fd1, fd2]) rfl ⟨⟨_, _, _, rfl, by omega, by omega⟩, CF.more (by omega), OF⟩
      · obtain ⟨wz, hz⟩ : ∃ wz, w2.setCell ⟨w.heap.size, 2, none⟩ (.int .i64 300) = wz := ⟨_, rfl⟩
        have Vz : Vec wz w.heap.size [.bool n, .int .i64 d, .int .i64 300] := by rw [← hz]; exact Va1.put 2 (by simp) _
        have Vb1 : Vec wz (w.heap.size + 1) [.bool false, .int .i64 0, .int .i64 0] := by rw [← hz]; exact Vb1.far (by simp) _
        have Oz : Only b w wz := by rw [← hz]; exact O1.setNew (Nat.le_refl _) _
        have Cz := (C1.far (g := w.heap.size) (i := 2) (by omega) (by omega) (.int .i64 300))
        rw [hz] at Cz
        obtain ⟨a0, a1, a2⟩ := Vz.three
        obtain ⟨wy, hy, OF, CF, ⟨b0, b1, b2⟩, ⟨fb0, fb1, fb2⟩, fd0, fd1, fd2⟩ := finDC Vb1 Cz Oz (by omega) (by omega) (by omega) n d 300
        go_wp2_with fail
        exact bodyPost_ret (v := decV n d 300) (by simp [results, Tryz.results31, go_sem, fd0, fd1, fd2]) rfl ⟨⟨_, _, _, rfl, by omega, by omega⟩, CF.more (by omega), OF⟩
    · have g1 : (q == 1) = false := by simpa using h1
      by_cases h2 : q = 2
      · subst h2
        clear y0 y9
        have lb := Va1.three.1
        have ls : w.heap.size + 1 < w1.heap.size := World.block_lt_of_cell? _ _ Vb1.three.1
        have lb1 := C1.lt
        clear lb
        have Xs := x1 w1 (.cells #[.int .i64 (-1), .int .i64 1000000000000000, .int .i64 0] 3)
        have Vs := vec_made w1 [.int .i64 (-1), .int .i64 1000000000000000, .int .i64 0] 3
        change Vec (w1.alloc (.cells #[.int .i64 (-1), .int .i64 1000000000000000, .int .i64 0] 3)) _ _ at Vs
        have Va1 := Va1.later Xs
        have Vb1 := Vb1.later Xs
        have O1 := O1.trans (Only.of_ext Xs)
        have C1 := C1.ext Xs
        clear Xs
        go_wp2_with fail
        refine (pickC b base _ 3 _ C1 (by omega) (by omega) (by omega)).mono ?_
        rintro e w2 ⟨r, rfl, ⟨y0, y9⟩, C1, o1⟩
        have Va1 := o1.vecC (by omega) Va1
        have Vb1 := o1.vecC (by omega) Vb1
        have Vs := o1.vecC (by omega) Vs
        have O1 := O1.trans o1
        obtain ⟨s0, s1, s2⟩ := Vs.three
        clear o1 Vs
        obtain ⟨e0, e1, e2⟩ := Va1.three
        obtain ⟨f0, f1, f2⟩ := Va1.threeF
        have hr : r = 0 ∨ r = 1 ∨ r = 2 := by omega
        clear y0 y9
        rcases hr with rfl | rfl | rfl
        · obtain ⟨wz, hz⟩ : ∃ wz, w2.setCell ⟨w.heap.size, 1, none⟩ (.int .i64 (-1)) = wz := ⟨_, rfl⟩
          have Vz : Vec wz w.heap.size [.bool n, .int .i64 (-1), .int .i64 x] := by rw [← hz]; exact Va1.put 1 (by simp) _
          have Vb1 : Vec wz (w.heap.size + 1) [.bool false, .int .i64 0, .int .i64 0] := by rw [← hz]; exact Vb1.far (by simp) _
          have Oz : Only b w wz := by rw [← hz]; exact O1.setNew (Nat.le_refl _) _
          have Cz := (C1.far (g := w.heap.size) (i := 1) (by omega) (by omega) (.int .i64 (-1)))
          rw [hz] at Cz
          obtain ⟨a0, a1, a2⟩ := Vz.three
          obtain ⟨wy, hy, OF, CF, ⟨b0, b1, b2⟩, ⟨fb0, fb1, fb2⟩, fd0, fd1, fd2⟩ := finDC Vb1 Cz Oz (by omega) (by omega) (by omega) n (-1) x
          go_wp2_with fail
          exact bodyPost_ret (v := decV n (-1) x) (by simp [results, Tryz.results31, go_sem, fd0, fd1, fd2]) rfl ⟨⟨_, _, _, rfl, by omega, by omega⟩, CF.more (by omega), OF⟩
        · obtain ⟨wz, hz⟩ : ∃ wz, w2.setCell ⟨w.heap.size, 1, none⟩ (.int .i64 1000000000000000) = wz := ⟨_, rfl⟩
          have Vz : Vec wz w.heap.size [.bool n, .int .i64 1000000000000000, .int .i64 x] := by rw [← hz]; exact Va1.put 1 (by simp) _
          have Vb1 : Vec wz (w.heap.size + 1) [.bool false, .int .i64 0, .int .i64 0] := by rw [← hz]; exact Vb1.far (by simp) _
          have Oz : Only b w wz := by rw [← hz]; exact O1.setNew (Nat.le_refl _) _
          have Cz := (C1.far (g := w.heap.size) (i := 1) (by omega) (by omega) (.int .i64 1000000000000000))
          rw [hz] at Cz
          obtain ⟨a0, a1, a2⟩ := Vz.three
          obtain ⟨wy, hy, OF, CF, ⟨b0, b1, b2⟩, ⟨fb0, fb1, fb2⟩, fd0, fd1, fd2⟩ := finDC Vb1 Cz Oz (by omega) (by omega) (by omega) n 1000000000000000 x
          go_wp2_with fail
          exact bodyPost_ret (v := decV n 1000000000000000 x) (by simp [results, Tryz.results31, go_sem, fd0, fd1, fd2]) rfl ⟨⟨_, _, _, rfl, by omega, by omega⟩, CF.more (by omega), OF⟩
        · obtain ⟨wz, hz⟩ : ∃ wz, w2.setCell ⟨w.heap.size, 1, none⟩ (.int .i64 0) = wz := ⟨_, rfl⟩
          have Vz : Vec wz w.heap.size [.bool n, .int .i64 0, .int .i64 x] := by rw [← hz]; exact Va1.put 1 (by simp) _
          have Vb1 : Vec wz (w.heap.size + 1) [.bool false, .int .i64 0, .int .i64 0] := by rw [← hz]; exact Vb1.far (by simp) _
          have Oz : Only b w wz := by rw [← hz]; exact O1.setNew (Nat.le_refl _) _
          have Cz := (C1.far (g := w.heap.size) (i := 1) (by omega) (by omega) (.int .i64 0))
          rw [hz] at Cz
          obtain ⟨a0, a1, a2⟩ := Vz.three
          obtain ⟨wy, hy, OF, CF, ⟨b0, b1, b2⟩, ⟨fb0, fb1, fb2⟩, fd0, fd1, fd2⟩ := finDC Vb1 Cz Oz (by omega) (by omega) (by omega) n 0 x
          go_wp2_with fail
          exact bodyPost_ret (v := decV n 0 x) (by simp [results, Tryz.results31, go_sem, fd0, fd1, fd2]) rfl ⟨⟨_, _, _, rfl, by omega, by omega⟩, CF.more (by omega), OF⟩
      · have g2 : (q == 2) = false := by simpa using h2
        have Vz := Va1
        have Cz := C1
        have Oz := O1
        obtain ⟨a0, a1, a2⟩ := Vz.three
        obtain ⟨wy, hy, OF, CF, ⟨b0, b1, b2⟩, ⟨fb0, fb1, fb2⟩, fd0, fd1, fd2⟩ := finDC Vb1 Cz Oz (by omega) (by omega) (by omega) n d x
        go_wp2_with fail
        exact bodyPost_ret (v := decV n d x) (by simp [results, Tryz.results31, go_sem, fd0, fd1, fd2]) rfl ⟨⟨_, _, _, rfl, by omega, by omega⟩, CF.more (by omega), OF⟩

end Go.Proofs.YtfkihaihbaobeaaGreatDoor

