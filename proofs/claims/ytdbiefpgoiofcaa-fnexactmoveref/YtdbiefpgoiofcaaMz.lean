/-
  What moveBy gives, called; the program's MoveRef.
-/
import Derived.Test.YtdbiefpgoiofcaaMy
namespace Go.Proofs.Ytdbiefpgoiofcaa
open Go.RowKit

theorem MbP.later {D : Bool} {R0 R1 C0 C1 dx dy : Int} {w w' : World} {e : Ending} (h : MbP D R0 R1 C0 C1 dx dy w e) (hx : Ext w w') : MbP D R0 R1 C0 C1 dx dy w' e := by
  obtain ⟨b7, b3, b4, b5, h1, h2, h3, h4, h5⟩ := h
  exact ⟨b7, b3, b4, b5, h1, h2.later hx, h3.later hx, h4.later hx, h5.later hx⟩
set_option maxRecDepth 8000 in
set_option maxHeartbeats 4000000 in
theorem movesI (D : Bool) (R0 R1 C0 C1 dx dy s d : Int) (h k : Bool) (b7 b3 b4 b5 : Nat) (w : World) (B7 : Vec w b7 [.bool D]) (B3 : Vec w b3 [.int .i64 R0, .int .i64 R1, .int .i64 C0, .int .i64 C1]) (B4 : Vec w b4 [.int .i64 dx]) (B5 : Vec w b5 [.int .i64 dy])
    (s' d' : Int) (hs : D = true → insB R0 R1 C0 C1 s d = true → IntKind.i64.wrap (s + dx) = s' ∧ IntKind.i64.wrap (d + dy) = d') :
    Calls Try.prog 46 #[refV s d h k, .pointer (some ⟨b7, 0, none⟩), .pointer (some ⟨b3, 0, none⟩), .pointer (some ⟨b4, 0, none⟩), .pointer (some ⟨b5, 0, none⟩)] w
      fun e w' => e = .returned (.tuple #[if D = true ∧ insB R0 R1 C0 C1 s d = true then refV s' d' h k else refV s d h k, .bool (D && insB R0 R1 C0 C1 s d)]) ∧ Ext w w' := by
  obtain ⟨V, hV⟩ : ∃ V, (if D = true ∧ insB R0 R1 C0 C1 s d = true then refV s' d' h k else refV s d h k) = V := ⟨_, rfl⟩
  rw [hV]
  have HO := fun w => blockHolds R0 R1 C0 C1 s d h k w
  obtain ⟨q, hq⟩ : ∃ q, insB R0 R1 C0 C1 s d = q := ⟨_, rfl⟩
  rw [hq] at HO hV hs
  rw [hq]
  have HS : Hid (D = true → q = true → IntKind.i64.wrap (s + dx) = s' ∧ IntKind.i64.wrap (d + dy) = d') := hs
  have HV : Hid ((if D = true ∧ q = true then refV s' d' h k else refV s d h k) = V) := hV
  clear hV hs hq
  have lt4 : b4 < w.heap.size := World.block_lt_of_cell? _ _ (B4 0 _ rfl).1
  have lt5 : b5 < w.heap.size := World.block_lt_of_cell? _ _ (B5 0 _ rfl).1
  have A5 := Vec.made4 w (.int .i64 s) (.int .i64 d) (.bool h) (.bool k) 30
  have X := x1 w (.cells #[.int .i64 s, .int .i64 d, .bool h, .bool k] 30)
  obtain ⟨wa, ha⟩ : ∃ u, w.alloc (.cells #[.int .i64 s, .int .i64 d, .bool h, .bool k] 30) = u := ⟨_, rfl⟩
  rw [ha] at A5 X
  have sa : wa.heap.size = w.heap.size + 1 := by rw [← ha, World.size_alloc]
  have A6 := Vec.made4 wa (.int .i64 0) (.int .i64 0) (.bool false) (.bool false) 30
  have x6 := x1 wa (.cells #[.int .i64 0, .int .i64 0, .bool false, .bool false] 30)
  rw [sa] at A6
  go_enter Try.func46, Try.ntmps46
  go_upto_region 1 with fail
  (try rw [ha])
  obtain ⟨w0, hw0⟩ : ∃ u, wa.alloc (.cells #[.int .i64 0, .int .i64 0, .bool false, .bool false] 30) = u := ⟨_, rfl⟩
  rw [hw0] at A6 x6 ⊢
  replace A5 := A5.later x6
  replace X := xt X x6
  replace B7 := B7.later X
  replace B3 := B3.later X
  replace B4 := B4.later X
  replace B5 := B5.later X
  clear ha hw0 sa x6
  obtain ⟨a0, _⟩ := B7 0 _ rfl
  cases D
  · have ZZ : Hid (refV s d h k = V) := by unfold Hid; rw [← HV.out]; simp
    clear HV HS HO
    obtain ⟨⟨p0, p1, p2, p3⟩, _⟩ := A5.box4
    obtain ⟨⟨m0, m1, m2, m3⟩, m4, m5, m6, m7⟩ := A6.box4
    go_wp2
    exact bodyPost_ret (v := .tuple #[refV s d h k, .bool false]) (by simp [results, Try.results46, go_sem, m0, m1, m2, m3]) rfl ⟨by rw [ZZ.out]; rfl, Ext.set4 (o := 0) X (by omega) _ _ _ _⟩
  · obtain ⟨⟨p0, p1, p2, p3⟩, _⟩ := A5.box4
    obtain ⟨⟨c0, c1, c2, c3⟩, _⟩ := B3.box4
    go_wp2_with fail
    refine (HO _).mono ?_
    rintro e w1 ⟨rfl, e1⟩
    clear p0 p1 p2 p3 c0 c1 c2 c3 a0 HO B3 B7
    replace A5 := A5.later e1
    replace A6 := A6.later e1
    replace B4 := B4.later e1
    replace B5 := B5.later e1
    replace X := xt X e1
    clear e1
    obtain ⟨⟨p0, p1, p2, p3⟩, p4, p5, p6, p7⟩ := A5.box4
    obtain ⟨⟨m0, m1, m2, m3⟩, m4, m5, m6, m7⟩ := A6.box4
    cases q
    · have ZZ : Hid (refV s d h k = V) := by unfold Hid; rw [← HV.out]; simp
      clear HV HS
      go_wp2
      exact bodyPost_ret (v := .tuple #[refV s d h k, .bool false]) (by simp [results, Try.results46, go_sem, m0, m1, m2, m3]) rfl ⟨by rw [ZZ.out]; rfl, Ext.set4 (o := 0) X (by omega) _ _ _ _⟩
    · have ZZ : Hid (refV s' d' h k = V) := by unfold Hid; rw [← HV.out]; simp
      obtain ⟨w1', w2'⟩ := HS.out (by first | rfl | trivial) (by first | rfl | trivial)
      clear HV HS
      obtain ⟨a4, _⟩ := B4 0 _ rfl
      obtain ⟨a5, _⟩ := B5 0 _ rfl
      have n4 : b4 ≠ w.heap.size := by omega
      have n4' : w.heap.size ≠ b4 := by omega
      have n5 : b5 ≠ w.heap.size := by omega
      have n5' : w.heap.size ≠ b5 := by omega
      go_wp2
      exact bodyPost_ret (v := .tuple #[refV s' d' h k, .bool true]) (by simp [results, Try.results46, go_sem, m0, m1, m2, m3]) rfl ⟨by rw [ZZ.out]; rfl, Ext.set4 (o := 0) (xset (xset X (by simp only; omega) _) (by simp only; omega) _) (by omega) _ _ _ _⟩

end Go.Proofs.Ytdbiefpgoiofcaa
