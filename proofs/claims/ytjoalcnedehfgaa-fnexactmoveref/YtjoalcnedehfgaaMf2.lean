/-
  Chapter 5: moveBy: what takes a ref along with a move's cells.
-/
import Derived.Test.YtjoalcnedehfgaaMf1
namespace Go.Proofs.Ytjoalcnedehfgaa
open Go.RowKit

/-- What moveBy gives: a function over three boxes. -/
def MbQ (D : Bool) (R0 R1 C0 C1 G0 G1 H0 H1 : Int) (w' : World) (v : Value) : Prop := ∃ b5 b3 b4, v = .func (.func 44) #[] #[.pointer (some ⟨b5, 0, none⟩), .pointer (some ⟨b3, 0, none⟩), .pointer (some ⟨b4, 0, none⟩)] ∧
  Vec w' b5 [.bool D] ∧ Vec w' b3 [.int .i64 R0, .int .i64 R1, .int .i64 C0, .int .i64 C1] ∧ Vec w' b4 [.int .i64 G0, .int .i64 G1, .int .i64 H0, .int .i64 H1]
set_option maxRecDepth 8000 in
set_option maxHeartbeats 8000000 in
theorem moveByJ (r c : Int) (f g : Bool) (r' c' : Int) (f' g' : Bool) (x y : Int) (R0 R1 C0 C1 G0 G1 H0 H1 : Int) (D : Bool)
    (PA : ∀ w, Calls Try.prog 43 #[moV r c f g r' c' f' g' x y] w fun e w' => e = .returned (.tuple #[blV R0 R1 C0 C1, blV G0 G1 H0 H1, .bool D]) ∧ Ext w w') (w : World) :
    Calls Try.prog 37 #[moV r c f g r' c' f' g' x y] w fun e w' => (∃ v, e = .returned v ∧ MbQ D R0 R1 C0 C1 G0 G1 H0 H1 w' v) ∧ Ext w w' := by
  have HPA : Hid (∀ w, Calls Try.prog 43 #[.agg #[.int .i64 r, .int .i64 c, .bool f, .bool g, .int .i64 r', .int .i64 c', .bool f', .bool g', .int .i64 x, .int .i64 y]] w fun e w' => e = .returned (.tuple #[.agg #[.int .i64 R0, .int .i64 R1, .int .i64 C0, .int .i64 C1], .agg #[.int .i64 G0, .int .i64 G1, .int .i64 H0, .int .i64 H1], .bool D]) ∧ Ext w w') := PA
  have VA := vec_made w [.int .i64 r, .int .i64 c, .bool f, .bool g, .int .i64 r', .int .i64 c', .bool f', .bool g', .int .i64 x, .int .i64 y] 49
  change Vec (w.alloc (.cells #[.int .i64 r, .int .i64 c, .bool f, .bool g, .int .i64 r', .int .i64 c', .bool f', .bool g', .int .i64 x, .int .i64 y] 49)) _ _ at VA
  have XA : Ext w (w.alloc (.cells #[.int .i64 r, .int .i64 c, .bool f, .bool g, .int .i64 r', .int .i64 c', .bool f', .bool g', .int .i64 x, .int .i64 y] 49)) := x1 _ _
  obtain ⟨wa, ha⟩ : ∃ z, w.alloc (.cells #[.int .i64 r, .int .i64 c, .bool f, .bool g, .int .i64 r', .int .i64 c', .bool f', .bool g', .int .i64 x, .int .i64 y] 49) = z := ⟨_, rfl⟩
  have HWA : Hid (w.alloc (.cells #[.int .i64 r, .int .i64 c, .bool f, .bool g, .int .i64 r', .int .i64 c', .bool f', .bool g', .int .i64 x, .int .i64 y] 49) = wa) := ha
  rw [ha] at VA XA
  have RG : wa.rangeAt w.heap.size 0 [.int .i64 r, .int .i64 c, .bool f, .bool g, .int .i64 r', .int .i64 c', .bool f', .bool g', .int .i64 x, .int .i64 y] := fun j u hu => by rw [Nat.zero_add]; exact (VA j u hu).1
  clear PA ha VA
  go_enter Try.func37, Try.ntmps37
  go_upto_region 1 with fail
  rw [HWA.out]
  go_wp2_with (refine wpList_load_mid rfl 49 (.tmp 1) rfl w.heap.size 0 rfl [.int .i64 r, .int .i64 c, .bool f, .bool g, .int .i64 r', .int .i64 c', .bool f', .bool g', .int .i64 x, .int .i64 y] _ RG Try.underlying49 rfl hi10M ?_)
  refine (HPA.out wa).mono ?_
  rintro e w5 ⟨rfl, e5⟩
  clear HPA RG HWA
  have X6 : Ext w (((w5.alloc (.cells #[.int .i64 0, .int .i64 0, .int .i64 0, .int .i64 0] 73)).alloc (.cells #[.int .i64 0, .int .i64 0, .int .i64 0, .int .i64 0] 73)).alloc (.cells #[.bool false] 4)) := xa (xa (xa (xt XA e5) _) _) _
  have V3 : Vec (((w5.alloc (.cells #[.int .i64 0, .int .i64 0, .int .i64 0, .int .i64 0] 73)).alloc (.cells #[.int .i64 0, .int .i64 0, .int .i64 0, .int .i64 0] 73)).alloc (.cells #[.bool false] 4)) w5.heap.size [.int .i64 0, .int .i64 0, .int .i64 0, .int .i64 0] := ((vec_made w5 [.int .i64 0, .int .i64 0, .int .i64 0, .int .i64 0] 73).later (x1 _ _)).later (x1 _ _)
  have V4 : Vec (((w5.alloc (.cells #[.int .i64 0, .int .i64 0, .int .i64 0, .int .i64 0] 73)).alloc (.cells #[.int .i64 0, .int .i64 0, .int .i64 0, .int .i64 0] 73)).alloc (.cells #[.bool false] 4)) (w5.heap.size + 1) [.int .i64 0, .int .i64 0, .int .i64 0, .int .i64 0] := by
    have := (vec_made (w5.alloc (.cells #[.int .i64 0, .int .i64 0, .int .i64 0, .int .i64 0] 73)) [.int .i64 0, .int .i64 0, .int .i64 0, .int .i64 0] 73).later (x1 _ (.cells #[.bool false] 4))
    rw [World.size_alloc] at this
    exact this
  have V5 : Vec (((w5.alloc (.cells #[.int .i64 0, .int .i64 0, .int .i64 0, .int .i64 0] 73)).alloc (.cells #[.int .i64 0, .int .i64 0, .int .i64 0, .int .i64 0] 73)).alloc (.cells #[.bool false] 4)) (w5.heap.size + 1 + 1) [.bool false] := by
    have := vec_made ((w5.alloc (.cells #[.int .i64 0, .int .i64 0, .int .i64 0, .int .i64 0] 73)).alloc (.cells #[.int .i64 0, .int .i64 0, .int .i64 0, .int .i64 0] 73)) [.bool false] 4
    rw [World.size_alloc, World.size_alloc] at this
    exact this
  have hA : w.heap.size ≤ w5.heap.size := (xt XA e5).size
  obtain ⟨w6, h6⟩ : ∃ z, ((w5.alloc (.cells #[.int .i64 0, .int .i64 0, .int .i64 0, .int .i64 0] 73)).alloc (.cells #[.int .i64 0, .int .i64 0, .int .i64 0, .int .i64 0] 73)).alloc (.cells #[.bool false] 4) = z := ⟨_, rfl⟩
  have HW6 : Hid (((w5.alloc (.cells #[.int .i64 0, .int .i64 0, .int .i64 0, .int .i64 0] 73)).alloc (.cells #[.int .i64 0, .int .i64 0, .int .i64 0, .int .i64 0] 73)).alloc (.cells #[.bool false] 4) = w6) := h6
  rw [h6] at X6 V3 V4 V5
  have T3 : w6.there w5.heap.size 0 4 := vec_thereN V3 (by simp)
  have one3 : (#[.int .i64 R0, .int .i64 R1, .int .i64 C0, .int .i64 C1] : Array Value).all (·.oneCell') = true := by simp [Value.oneCell']
  have V3b : Vec (w6.setCells w5.heap.size 0 [.int .i64 R0, .int .i64 R1, .int .i64 C0, .int .i64 C1]) w5.heap.size [.int .i64 R0, .int .i64 R1, .int .i64 C0, .int .i64 C1] := vec_setCellsN [.int .i64 R0, .int .i64 R1, .int .i64 C0, .int .i64 C1] 0 w6 [.int .i64 0, .int .i64 0, .int .i64 0, .int .i64 0] V3 (by simp)
  have G3 := grown_setCells w5.heap.size [.int .i64 R0, .int .i64 R1, .int .i64 C0, .int .i64 C1] 0 w6
  have X7 := Ext.setCells (b := w5.heap.size) hA [.int .i64 R0, .int .i64 R1, .int .i64 C0, .int .i64 C1] 0 w6 X6
  have V4b := vec_farM V4 G3 (by omega)
  have V5b := vec_farM V5 G3 (by omega)
  obtain ⟨w7, h7⟩ : ∃ z, w6.setCells w5.heap.size 0 [.int .i64 R0, .int .i64 R1, .int .i64 C0, .int .i64 C1] = z := ⟨_, rfl⟩
  have HW7 : Hid (w6.setCells w5.heap.size 0 [.int .i64 R0, .int .i64 R1, .int .i64 C0, .int .i64 C1] = w7) := h7
  rw [h7] at V3b X7 V4b V5b
  have T4 : w7.there (w5.heap.size + 1) 0 4 := vec_thereN V4b (by simp)
  have one4 : (#[.int .i64 G0, .int .i64 G1, .int .i64 H0, .int .i64 H1] : Array Value).all (·.oneCell') = true := by simp [Value.oneCell']
  have V4c : Vec (w7.setCells (w5.heap.size + 1) 0 [.int .i64 G0, .int .i64 G1, .int .i64 H0, .int .i64 H1]) (w5.heap.size + 1) [.int .i64 G0, .int .i64 G1, .int .i64 H0, .int .i64 H1] := vec_setCellsN [.int .i64 G0, .int .i64 G1, .int .i64 H0, .int .i64 H1] 0 w7 [.int .i64 0, .int .i64 0, .int .i64 0, .int .i64 0] V4b (by simp)
  have G4 := grown_setCells (w5.heap.size + 1) [.int .i64 G0, .int .i64 G1, .int .i64 H0, .int .i64 H1] 0 w7
  have X8 := Ext.setCells (b := (w5.heap.size + 1)) (by omega) [.int .i64 G0, .int .i64 G1, .int .i64 H0, .int .i64 H1] 0 w7 X7
  have V3c := vec_farM V3b G4 (by omega)
  have V5c := vec_farM V5b G4 (by omega)
  obtain ⟨w8, h8⟩ : ∃ z, w7.setCells (w5.heap.size + 1) 0 [.int .i64 G0, .int .i64 G1, .int .i64 H0, .int .i64 H1] = z := ⟨_, rfl⟩
  have HW8 : Hid (w7.setCells (w5.heap.size + 1) 0 [.int .i64 G0, .int .i64 G1, .int .i64 H0, .int .i64 H1] = w8) := h8
  rw [h8] at V4c X8 V3c V5c
  obtain ⟨c5, f5⟩ := V5c 0 _ rfl
  have V5d := V5c.put 0 (by simp) (.bool D)
  have V3d := V3c.far (p := ⟨(w5.heap.size + 1 + 1), 0, none⟩) (by show (w5.heap.size + 1 + 1) ≠ w5.heap.size; omega) (.bool D)
  have V4d := V4c.far (p := ⟨(w5.heap.size + 1 + 1), 0, none⟩) (by show (w5.heap.size + 1 + 1) ≠ (w5.heap.size + 1); omega) (.bool D)
  have X9 := xset (p := ⟨(w5.heap.size + 1 + 1), 0, none⟩) X8 (by show w.heap.size ≤ (w5.heap.size + 1 + 1); omega) (.bool D)
  have HQ : Hid ((∃ v, Ending.returned (.func (.func 44) #[] #[.pointer (some ⟨(w5.heap.size + 1 + 1), 0, none⟩), .pointer (some ⟨w5.heap.size, 0, none⟩), .pointer (some ⟨(w5.heap.size + 1), 0, none⟩)]) = .returned v ∧ MbQ D R0 R1 C0 C1 G0 G1 H0 H1 (w8.setCell ⟨(w5.heap.size + 1 + 1), 0, none⟩ (.bool D)) v) ∧ Ext w (w8.setCell ⟨(w5.heap.size + 1 + 1), 0, none⟩ (.bool D))) := ⟨⟨_, rfl, _, _, _, rfl, V5d, V3d, V4d⟩, X9⟩
  clear V3 V4 V5 V3b V4b V5b V3c V4c V5c V5d V3d V4d X6 X7 X8 X9 G3 G4 h6 h7 h8 e5 XA hA
  go_wp2_with (first | (rw [HW6.out]; refine wpList_store_mid rfl _ _ _ rfl w5.heap.size 0 #[.int .i64 R0, .int .i64 R1, .int .i64 C0, .int .i64 C1] rfl rfl T3 hi4B one3 ?_; show wpList _ _ _ _ _ (w6.setCells w5.heap.size 0 [.int .i64 R0, .int .i64 R1, .int .i64 C0, .int .i64 C1]); rw [HW7.out]) | (refine wpList_store_mid rfl _ _ _ rfl (w5.heap.size + 1) 0 #[.int .i64 G0, .int .i64 G1, .int .i64 H0, .int .i64 H1] rfl rfl T4 hi4B one4 ?_; show wpList _ _ _ _ _ (w7.setCells (w5.heap.size + 1) 0 [.int .i64 G0, .int .i64 G1, .int .i64 H0, .int .i64 H1]); rw [HW8.out]))
  go_ret
  exact HQ.out
set_option maxRecDepth 8000 in
set_option maxHeartbeats 4000000 in
theorem movesJ (D : Bool) (R0 R1 C0 C1 G0 G1 H0 H1 dx dy s d : Int) (h k : Bool) (b7 b3 b4 : Nat) (w : World) (B7 : Vec w b7 [.bool D]) (B3 : Vec w b3 [.int .i64 R0, .int .i64 R1, .int .i64 C0, .int .i64 C1]) (B4 : Vec w b4 [.int .i64 G0, .int .i64 G1, .int .i64 H0, .int .i64 H1])
    (s' d' : Int) (hs : D = true → insB R0 R1 C0 C1 s d = true → IntKind.i64.wrap (G0 - R0) = dx ∧ IntKind.i64.wrap (H0 - C0) = dy ∧ IntKind.i64.wrap (s + dx) = s' ∧ IntKind.i64.wrap (d + dy) = d') :
    Calls Try.prog 44 #[refV s d h k, .pointer (some ⟨b7, 0, none⟩), .pointer (some ⟨b3, 0, none⟩), .pointer (some ⟨b4, 0, none⟩)] w
      fun e w' => e = .returned (.tuple #[if D = true ∧ insB R0 R1 C0 C1 s d = true then refV s' d' h k else refV s d h k, .bool (D && insB R0 R1 C0 C1 s d)]) ∧ Ext w w' := by
  obtain ⟨V, hV⟩ : ∃ V, (if D = true ∧ insB R0 R1 C0 C1 s d = true then refV s' d' h k else refV s d h k) = V := ⟨_, rfl⟩
  rw [hV]
  have HO := fun w => blockHolds R0 R1 C0 C1 s d h k w
  obtain ⟨q, hq⟩ : ∃ q, insB R0 R1 C0 C1 s d = q := ⟨_, rfl⟩
  rw [hq] at HO hV hs
  rw [hq]
  have HS : Hid (D = true → q = true → IntKind.i64.wrap (G0 - R0) = dx ∧ IntKind.i64.wrap (H0 - C0) = dy ∧ IntKind.i64.wrap (s + dx) = s' ∧ IntKind.i64.wrap (d + dy) = d') := hs
  have HV : Hid ((if D = true ∧ q = true then refV s' d' h k else refV s d h k) = V) := hV
  clear hV hs hq
  have lt3 : b3 < w.heap.size := vec_lt B3
  have lt4 : b4 < w.heap.size := vec_lt B4
  have A5 := Vec.made4 w (.int .i64 s) (.int .i64 d) (.bool h) (.bool k) 30
  have X := x1 w (.cells #[.int .i64 s, .int .i64 d, .bool h, .bool k] 30)
  obtain ⟨wa, ha⟩ : ∃ u, w.alloc (.cells #[.int .i64 s, .int .i64 d, .bool h, .bool k] 30) = u := ⟨_, rfl⟩
  rw [ha] at A5 X
  have sa : wa.heap.size = w.heap.size + 1 := by rw [← ha, World.size_alloc]
  have A6 := Vec.made4 wa (.int .i64 0) (.int .i64 0) (.bool false) (.bool false) 30
  have x6 := x1 wa (.cells #[.int .i64 0, .int .i64 0, .bool false, .bool false] 30)
  rw [sa] at A6
  go_enter Try.func44, Try.ntmps44
  go_upto_region 1 with fail
  (try rw [ha])
  obtain ⟨w0, hw0⟩ : ∃ u, wa.alloc (.cells #[.int .i64 0, .int .i64 0, .bool false, .bool false] 30) = u := ⟨_, rfl⟩
  rw [hw0] at A6 x6 ⊢
  replace A5 := A5.later x6
  replace X := xt X x6
  replace B7 := B7.later X
  replace B3 := B3.later X
  replace B4 := B4.later X
  clear ha hw0 sa x6
  obtain ⟨a0, _⟩ := B7 0 _ rfl
  cases D
  · have ZZ : Hid (refV s d h k = V) := by unfold Hid; rw [← HV.out]; simp
    clear HV HS HO
    obtain ⟨⟨p0, p1, p2, p3⟩, _⟩ := A5.box4
    obtain ⟨⟨m0, m1, m2, m3⟩, m4, m5, m6, m7⟩ := A6.box4
    go_wp2
    exact bodyPost_ret (v := .tuple #[refV s d h k, .bool false]) (by simp [results, Try.results44, go_sem, m0, m1, m2, m3]) rfl ⟨by rw [ZZ.out]; rfl, Ext.set4 (o := 0) X (by omega) _ _ _ _⟩
  · obtain ⟨⟨p0, p1, p2, p3⟩, _⟩ := A5.box4
    obtain ⟨⟨c0, c1, c2, c3⟩, _⟩ := B3.box4
    go_wp2_with fail
    refine (HO _).mono ?_
    rintro e w1 ⟨rfl, e1⟩
    clear p0 p1 p2 p3 c0 c1 c2 c3 a0 HO B7
    replace A5 := A5.later e1
    replace A6 := A6.later e1
    replace B3 := B3.later e1
    replace B4 := B4.later e1
    replace X := xt X e1
    clear e1
    obtain ⟨⟨p0, p1, p2, p3⟩, p4, p5, p6, p7⟩ := A5.box4
    obtain ⟨⟨m0, m1, m2, m3⟩, m4, m5, m6, m7⟩ := A6.box4
    cases q
    · have ZZ : Hid (refV s d h k = V) := by unfold Hid; rw [← HV.out]; simp
      clear HV HS
      go_wp2
      exact bodyPost_ret (v := .tuple #[refV s d h k, .bool false]) (by simp [results, Try.results44, go_sem, m0, m1, m2, m3]) rfl ⟨by rw [ZZ.out]; rfl, Ext.set4 (o := 0) X (by omega) _ _ _ _⟩
    · have ZZ : Hid (refV s' d' h k = V) := by unfold Hid; rw [← HV.out]; simp
      obtain ⟨w1', w2', w3', w4'⟩ := HS.out (by first | rfl | trivial) (by first | rfl | trivial)
      clear HV HS
      obtain ⟨⟨c0, c1, c2, c3⟩, _⟩ := B3.box4
      obtain ⟨⟨g0, g1, g2, g3⟩, _⟩ := B4.box4
      have n3 : b3 ≠ w.heap.size := by omega
      have n3' : w.heap.size ≠ b3 := by omega
      have n4 : b4 ≠ w.heap.size := by omega
      have n4' : w.heap.size ≠ b4 := by omega
      go_wp2
      exact bodyPost_ret (v := .tuple #[refV s' d' h k, .bool true]) (by simp [results, Try.results44, go_sem, m0, m1, m2, m3]) rfl ⟨by rw [ZZ.out]; rfl, Ext.set4 (o := 0) (xset (xset X (by simp only; omega) _) (by simp only; omega) _) (by omega) _ _ _ _⟩

end Go.Proofs.Ytjoalcnedehfgaa
