/-
  Without, the program's.
-/
import Derived.Test.YthdjlhhedkfibaaDoorWq
namespace Go.Proofs.YthdjlhhedkfibaaDoor
open Go.RowKit

theorem fitA {a : Int} (h1 : -9223372036854775808 ≤ a) (h2 : a ≤ 9223372036854775807) : IntKind.i64.wrap a = a := by rw [IntKind.wrap_i64]; omega

theorem own_base {w : World} {base base' : Nat} {e : TypeId} {size : Nat} {v : Value} {n : Nat} {xs : List Value} (h : w.ownsRow base e size v n xs) (hb : base' ≤ base) : w.ownsRow base' e size v n xs := by
  refine ⟨h.1, h.2.imp id ?_⟩
  rintro ⟨g, cap, cur, h1, h2, h3⟩
  exact ⟨g, cap, cur, h1, by omega, h3⟩

set_option maxRecDepth 8000 in
set_option maxHeartbeats 4000000 in
theorem withoutI (r c : Int) (f g : Bool) (r' c' : Int) (f' g' : Bool) (s d : Int) (h k : Bool) (s' d' : Int) (h' k' : Bool) (w : World) (hS : Sides w) :
    Calls Tryd.prog 7 #[arV r c f g r' c' f' g', arV s d h k s' d' h' k'] w fun e w' => ∃ v, e = .returned v ∧ OwnA w' w.heap.size v (woB r c r' c' s d s' d') ∧ Ext w w' := by
  have B1 := Vec.made8 w (.int .i64 r) (.int .i64 c) (.bool f) (.bool g) (.int .i64 r') (.int .i64 c') (.bool f') (.bool g') 26
  have X1 := x1 w (.cells #[.int .i64 r, .int .i64 c, .bool f, .bool g, .int .i64 r', .int .i64 c', .bool f', .bool g'] 26)
  obtain ⟨wa, ha⟩ : ∃ wa, w.alloc (.cells #[.int .i64 r, .int .i64 c, .bool f, .bool g, .int .i64 r', .int .i64 c', .bool f', .bool g'] 26) = wa := ⟨_, rfl⟩
  have B2 := Vec.made8 wa (.int .i64 s) (.int .i64 d) (.bool h) (.bool k) (.int .i64 s') (.int .i64 d') (.bool h') (.bool k') 26
  have X2 := x1 wa (.cells #[.int .i64 s, .int .i64 d, .bool h, .bool k, .int .i64 s', .int .i64 d', .bool h', .bool k'] 26)
  obtain ⟨wb, hb⟩ : ∃ wb, wa.alloc (.cells #[.int .i64 s, .int .i64 d, .bool h, .bool k, .int .i64 s', .int .i64 d', .bool h', .bool k'] 26) = wb := ⟨_, rfl⟩
  have sa : wa.heap.size = w.heap.size + 1 := by rw [← ha, World.size_alloc]
  rw [ha] at X1 B1
  rw [hb] at X2 B2
  rw [sa] at B2
  have X := xt X1 X2
  have B1 := B1.later X2
  clear X1 X2
  obtain ⟨⟨⟨a0, a1, a2, a3⟩, a4, a5, a6, a7⟩, _⟩ := B1.box8
  have G1 := fun w => goodAI r c f g r' c' f' g' w
  have G2 := fun w => goodAI s d h k s' d' h' k' w
  go_enter Tryd.func7, Tryd.ntmps7
  go_wp2_with fail
  clear a0 a1 a2 a3 a4 a5 a6 a7 ha hb sa
  refine (G1 _).mono ?_
  rintro e w1 ⟨rfl, e1⟩
  have B1 := B1.later e1
  have B2 := B2.later e1
  have X := xt X e1
  clear G1 e1
  obtain ⟨⟨⟨a0, a1, a2, a3⟩, a4, a5, a6, a7⟩, _⟩ := B1.box8
  obtain ⟨⟨⟨b0, b1, b2, b3⟩, b4, b5, b6, b7⟩, _⟩ := B2.box8
  by_cases hA : goodAB r c r' c' = true
  · rw [hA]
    go_wp2_with fail
    refine (G2 _).mono ?_
    rintro e w2 ⟨rfl, e2⟩
    have B1 := B1.later e2
    have B2 := B2.later e2
    have X := xt X e2
    clear G2 e2 a0 a1 a2 a3 a4 a5 a6 a7 b0 b1 b2 b3 b4 b5 b6 b7
    by_cases hB : goodAB s d s' d' = true
    · rw [hB]
      have K1 := fun w => blockOf r c f g r' c' f' g' w hA
      have K2 := fun w => blockOf s d h k s' d' h' k' w hB
      have N1 := goodAB_bounds hA
      have N2 := goodAB_bounds hB
      obtain ⟨A, hAe⟩ : ∃ m, lo r r' = m := ⟨_, rfl⟩
      obtain ⟨B, hBe⟩ : ∃ m, hi r r' = m := ⟨_, rfl⟩
      obtain ⟨C, hCe⟩ : ∃ m, lo c c' = m := ⟨_, rfl⟩
      obtain ⟨D, hDe⟩ : ∃ m, hi c c' = m := ⟨_, rfl⟩
      have L1 := lo_cases r r'
      have L2 := hi_cases r r'
      have L3 := lo_cases c c'
      have L4 := hi_cases c c'
      have M1 := lo_cases s s'
      have M2 := hi_cases s s'
      have M3 := lo_cases d d'
      have M4 := hi_cases d d'
      rw [hAe] at L1 K1
      rw [hBe] at L2 K1
      rw [hCe] at L3 K1
      rw [hDe] at L4 K1
      have CM := fun w => blockCommon A B C D (lo s s') (hi s s') (lo d d') (hi d d') w
      have O1 := hi_cases A (lo s s')
      have O2 := lo_cases B (hi s s')
      have O3 := hi_cases C (lo d d')
      have O4 := lo_cases D (hi d d')
      have HW : Hid (woB r c r' c' s d s' d' = if (decide (hi A (lo s s') > lo B (hi s s')) || decide (hi C (lo d d') > lo D (hi d d'))) = true then [(A, C, B, D)] else told (pieceQ A B C D (hi A (lo s s')) (lo B (hi s s')) (hi C (lo d d')) (lo D (hi d d'))) 4) := by
        show _ = _
        unfold woB
        rw [hAe, hBe, hCe, hDe, if_pos ⟨hA, hB⟩]
      obtain ⟨u1, h1⟩ : ∃ m, hi A (lo s s') = m := ⟨_, rfl⟩
      obtain ⟨u2, h2⟩ : ∃ m, lo B (hi s s') = m := ⟨_, rfl⟩
      obtain ⟨u3, h3⟩ : ∃ m, hi C (lo d d') = m := ⟨_, rfl⟩
      obtain ⟨u4, h4⟩ : ∃ m, lo D (hi d d') = m := ⟨_, rfl⟩
      rw [h1] at HW O1 CM
      rw [h2] at HW O2 CM
      rw [h3] at HW O3 CM
      rw [h4] at HW O4 CM
      have fa : IntKind.i64.wrap (u1 - 1) = u1 - 1 := fitA (by omega) (by omega)
      have fb : IntKind.i64.wrap (u2 + 1) = u2 + 1 := fitA (by omega) (by omega)
      have fc : IntKind.i64.wrap (u3 - 1) = u3 - 1 := fitA (by omega) (by omega)
      have fd : IntKind.i64.wrap (u4 + 1) = u4 + 1 := fitA (by omega) (by omega)
      have BS := fun w => beside A B C D u1 u2 u3 u4 w fa fb fc fd
      clear hAe hBe hCe hDe h1 h2 h3 h4 L1 L2 L3 L4 M1 M2 M3 M4 O1 O2 O3 O4 N1 N2 fa fb fc fd hA hB
      obtain ⟨⟨⟨a0, a1, a2, a3⟩, a4, a5, a6, a7⟩, _⟩ := B1.box8
      go_wp2_with fail
      refine (K1 _).mono ?_
      rintro e w3 ⟨rfl, e3⟩
      have B2 := B2.later e3
      have X := xt X e3
      clear e3 K1 a0 a1 a2 a3 a4 a5 a6 a7 B1
      obtain ⟨w4, hw4⟩ : ∃ w4, w3.alloc (.cells #[.int .i64 A, .int .i64 B, .int .i64 C, .int .i64 D] 47) = w4 := ⟨_, rfl⟩
      have W5 := Vec.made4 w3 (.int .i64 A) (.int .i64 B) (.int .i64 C) (.int .i64 D) 47
      have e4 := x1 w3 (.cells #[.int .i64 A, .int .i64 B, .int .i64 C, .int .i64 D] 47)
      go_upto_region 4 with fail
      rw [hw4] at W5 e4
      have B2 := B2.later e4
      have X := xt X e4
      clear e4 hw4
      obtain ⟨⟨a0, a1, a2, a3⟩, _⟩ := W5.box4
      obtain ⟨⟨⟨b0, b1, b2, b3⟩, b4, b5, b6, b7⟩, _⟩ := B2.box8
      have na := World.new_ne w4 _ a0
      have nb := World.new_ne w4 _ b0
      go_cut [6] (fun v wc => ∃ b : Nat, v = .pointer (some ⟨b, 0, none⟩) ∧ Vec wc b [.int .i64 u1, .int .i64 u2, .int .i64 u3, .int .i64 u4] ∧ Ext w4 wc)
      case first =>
        go_region_held3 (fun w' => (w'.cell? ⟨w3.heap.size, 0, none⟩ = some (.int .i64 A) ∧ w'.cell? ⟨w3.heap.size, 1, none⟩ = some (.int .i64 B) ∧ w'.cell? ⟨w3.heap.size, 2, none⟩ = some (.int .i64 C) ∧ w'.cell? ⟨w3.heap.size, 3, none⟩ = some (.int .i64 D)) ∧ w'.cell? ⟨w.heap.size + 1, 0, none⟩ = some (.int .i64 s) ∧ w'.cell? ⟨w.heap.size + 1, 1, none⟩ = some (.int .i64 d) ∧ w'.cell? ⟨w.heap.size + 1, 2, none⟩ = some (.bool h) ∧ w'.cell? ⟨w.heap.size + 1, 3, none⟩ = some (.bool k) ∧ w'.cell? ⟨w.heap.size + 1, 4, none⟩ = some (.int .i64 s') ∧ w'.cell? ⟨w.heap.size + 1, 5, none⟩ = some (.int .i64 d') ∧ w'.cell? ⟨w.heap.size + 1, 6, none⟩ = some (.bool h') ∧ w'.cell? ⟨w.heap.size + 1, 7, none⟩ = some (.bool k')) (go_keep) (first
          | (go_at_call 21; refine (K2 _).mono ?_; rintro e w5 ⟨rfl, e5⟩; have Y5 : Ext w4 w5 := (by first | exact xt (xr _) e5 | exact xt (xd (xr _)) e5 | exact xt (x1 _ _) e5 | exact xt (xd (x1 _ _)) e5 | exact xt (xa (xd (xr _)) _) e5); obtain ⟨⟨a0, a1, a2, a3⟩, _⟩ := (W5.later Y5).box4; obtain ⟨⟨⟨b0, b1, b2, b3⟩, b4, b5, b6, b7⟩, _⟩ := (B2.later Y5).box8; have na := World.new_ne w5 _ a0; have nb := World.new_ne w5 _ b0; (first | (have RB : Vec w5 w4.heap.size [.int .i64 0, .int .i64 0, .int .i64 0, .int .i64 0] := (by first | exact (Vec.made4 w4 (.int .i64 0) (.int .i64 0) (.int .i64 0) (.int .i64 0) 47).later (xt (xd (xr _)) e5) | exact (Vec.made4 w4 (.int .i64 0) (.int .i64 0) (.int .i64 0) (.int .i64 0) 47).later e5 | exact (Vec.made4 w4.drew (.int .i64 0) (.int .i64 0) (.int .i64 0) (.int .i64 0) 47).later e5)) | skip))
          | (go_at_call 22; refine (CM _).mono ?_; rintro e w6 ⟨rfl, e6⟩; have Y6 : Ext w5 w6 := (by first | exact xt (xr _) e6 | exact xt (xd (xr _)) e6 | exact xt (x1 _ _) e6 | exact xt (xd (x1 _ _)) e6 | exact xt (xa (xd (xr _)) _) e6); have Z6 : Ext w4 w6 := (by exact xt Y5 Y6); obtain ⟨⟨a0, a1, a2, a3⟩, _⟩ := (W5.later Z6).box4; obtain ⟨⟨⟨b0, b1, b2, b3⟩, b4, b5, b6, b7⟩, _⟩ := (B2.later Z6).box8; have na := World.new_ne w6 _ a0; have nb := World.new_ne w6 _ b0; (first | (have RB := RB.later Y6) | (have RB : Vec w6 w5.heap.size [.int .i64 0, .int .i64 0, .int .i64 0, .int .i64 0] := (by first | exact (Vec.made4 w5 (.int .i64 0) (.int .i64 0) (.int .i64 0) (.int .i64 0) 47).later (xt (xd (xr _)) e6) | exact (Vec.made4 w5 (.int .i64 0) (.int .i64 0) (.int .i64 0) (.int .i64 0) 47).later e6 | exact (Vec.made4 w5.drew (.int .i64 0) (.int .i64 0) (.int .i64 0) (.int .i64 0) 47).later e6)) | skip); (first | (obtain ⟨⟨m0, m1, m2, m3⟩, f0, f1, f2, f3⟩ := RB.box4) | skip)))
        all_goals go_wp2_with fail
        all_goals go_meet
        case rel => first | exact ⟨_, rfl, Vec.made4 w6 (.int .i64 u1) (.int .i64 u2) (.int .i64 u3) (.int .i64 u4) 47, xa Z6 _⟩ | exact ⟨_, rfl, RB.put4 (.int .i64 u1) (.int .i64 u2) (.int .i64 u3) (.int .i64 u4), Ext.set4 (o := 0) (b := w4.heap.size) Z6 (Nat.le_refl _) (.int .i64 u1) (.int .i64 u2) (.int .i64 u3) (.int .i64 u4)⟩ | exact ⟨_, rfl, RB.put4 (.int .i64 u1) (.int .i64 u2) (.int .i64 u3) (.int .i64 u4), Ext.set4 (o := 0) (b := w5.heap.size) Z6 Y5.size (.int .i64 u1) (.int .i64 u2) (.int .i64 u3) (.int .i64 u4)⟩
        case rel => first | exact ⟨_, rfl, Vec.made4 w6 (.int .i64 u1) (.int .i64 u2) (.int .i64 u3) (.int .i64 u4) 47, xa Z6 _⟩ | exact ⟨_, rfl, RB.put4 (.int .i64 u1) (.int .i64 u2) (.int .i64 u3) (.int .i64 u4), Ext.set4 (o := 0) (b := w4.heap.size) Z6 (Nat.le_refl _) (.int .i64 u1) (.int .i64 u2) (.int .i64 u3) (.int .i64 u4)⟩ | exact ⟨_, rfl, RB.put4 (.int .i64 u1) (.int .i64 u2) (.int .i64 u3) (.int .i64 u4), Ext.set4 (o := 0) (b := w5.heap.size) Z6 Y5.size (.int .i64 u1) (.int .i64 u2) (.int .i64 u3) (.int .i64 u4)⟩
        case rel => first | exact ⟨_, rfl, Vec.made4 w6 (.int .i64 u1) (.int .i64 u2) (.int .i64 u3) (.int .i64 u4) 47, xa Z6 _⟩ | exact ⟨_, rfl, RB.put4 (.int .i64 u1) (.int .i64 u2) (.int .i64 u3) (.int .i64 u4), Ext.set4 (o := 0) (b := w4.heap.size) Z6 (Nat.le_refl _) (.int .i64 u1) (.int .i64 u2) (.int .i64 u3) (.int .i64 u4)⟩ | exact ⟨_, rfl, RB.put4 (.int .i64 u1) (.int .i64 u2) (.int .i64 u3) (.int .i64 u4), Ext.set4 (o := 0) (b := w5.heap.size) Z6 Y5.size (.int .i64 u1) (.int .i64 u2) (.int .i64 u3) (.int .i64 u4)⟩
      case rest =>
        obtain ⟨b, rfl, P, e5⟩ := hcut
        have W5 := W5.later e5
        have X := xt X e5
        clear e5 a0 a1 a2 a3 b0 b1 b2 b3 b4 b5 b6 b7 na nb CM K2 B2
        obtain ⟨⟨a0, a1, a2, a3⟩, _⟩ := P.box4
        have EM := fun w => blockEmpty u1 u2 u3 u4 w
        obtain ⟨q, hq⟩ : ∃ q, (decide (u1 > u2) || decide (u3 > u4)) = q := ⟨_, rfl⟩
        rw [hq] at EM HW
        clear hq
        go_wp2_with fail
        refine (EM _).mono ?_
        rintro e w6 ⟨rfl, e6⟩
        have W5 := W5.later e6
        have X := xt X e6
        have P := P.later e6
        clear e6 a0 a1 a2 a3 EM
        obtain ⟨⟨b0, b1, b2, b3⟩, _⟩ := W5.box4
        obtain ⟨⟨a0, a1, a2, a3⟩, _⟩ := P.box4
        cases q
        · have HW' : Hid (woB r c r' c' s d s' d' = told (pieceQ A B C D u1 u2 u3 u4) 4) := by show _ = _; rw [HW.out]; rfl
          clear HW
          go_wp2_with fail
          refine (BS _).mono ?_
          rintro e w7 ⟨m, L, rfl, hP, hL, e7⟩
          have X := xt X e7
          have S7 := hS.later X
          clear BS e7 b0 b1 b2 b3 a0 a1 a2 a3 W5 P
          have a0 := S7 0 _ rfl
          have a1 := S7 1 _ rfl
          have a2 := S7 2 _ rfl
          have a3 := S7 3 _ rfl
          have a4 := S7 4 _ rfl
          have a5 := S7 5 _ rfl
          have a6 := S7 6 _ rfl
          have a7 := S7 7 _ rfl
          go_wp2_with fail
          obtain ⟨inf, hi, hz, hz1, hz2⟩ := infoA'
          clear a0 a1 a2 a3 a4 a5 a6 a7 S7
          have lk : ∀ k, k < 4 → ∀ W, Ext w7 W → (Instr.lookup 52 (.map (some m)) (sideK k) false).run Tryd.prog W = .ok (pieceV A B C D u1 u2 u3 u4 k) W := fun k hk W hW => (hP.later hW).lookup (fun j hj => (hL j).1 hj) hk ((hL k).2 hk)
          clear hP hL
          go_loopw [8, 35] (fun o i wr => ∃ k : Nat, k ≤ 4 ∧ i = .int .i64 k ∧ Hid (OwnA wr w7.heap.size o (told (pieceQ A B C D u1 u2 u3 u4) k)) ∧ Ext w7 wr) (fun _ i _ => 4 - (intOf i).toNat)
          case atStart => exact ⟨0, by omega, rfl, World.ownsRow_nil _ _ _ _, xr _⟩
          case round =>
            obtain ⟨k, hk, rfl, own, Y⟩ := hrel
            by_cases h4 : k = 4
            · subst h4
              go_wp2_with fail
              exact bodyPost_ret (by simp [results, Tryd.results7, go_sem]; rfl) rfl ⟨_, rfl, by rw [HW'.out]; exact own_base own.out X.size, xt X Y⟩
            · have hlt : k < 4 := by omega
              have lk := lk k hlt
              obtain ⟨p0, p1, p2, p3, hp⟩ : ∃ p0 p1 p2 p3, pieceQ A B C D u1 u2 u3 u4 k = (p0, p1, p2, p3) := ⟨_, _, _, _, rfl⟩
              have hT : Hid (told (pieceQ A B C D u1 u2 u3 u4) (k + 1) = told (pieceQ A B C D u1 u2 u3 u4) k ++ (if (decide (p0 > p1) || decide (p2 > p3)) = true then [] else [(p0, p2, p1, p3)])) := by
                show _ = _
                conv => lhs; unfold told
                rw [hp]; rfl
              have hl := told_length (pieceQ A B C D u1 u2 u3 u4) k
              rw [pieceV_q, hp] at lk
              obtain ⟨T, hTe⟩ : ∃ T, told (pieceQ A B C D u1 u2 u3 u4) k = T := ⟨_, rfl⟩
              rw [hTe] at own hT hl
              clear hTe hp HW'
              have EM := fun w => blockEmpty p0 p1 p2 p3 w
              obtain ⟨q, hq⟩ : ∃ q, (decide (p0 > p1) || decide (p2 > p3)) = q := ⟨_, rfl⟩
              rw [hq] at EM hT
              clear hq
              obtain ⟨x, y, hxy, hix⟩ := side_at k hlt
              rw [hxy] at lk
              clear hxy
              have Y1 := xa Y (.cells #[.int .i64 x, .int .i64 y] 55)
              have own1 : Hid (OwnA (wr.alloc (.cells #[.int .i64 x, .int .i64 y] 55)) w7.heap.size u8 T) := own_later own.out (x1 _ _)
              have C1 := Box2.made wr (.int .i64 x) (.int .i64 y) 55
              obtain ⟨w8, h8⟩ : ∃ w8, wr.alloc (.cells #[.int .i64 x, .int .i64 y] 55) = w8 := ⟨_, rfl⟩
              rw [h8] at Y1 own1 C1
              obtain ⟨⟨c0, c1⟩, _⟩ := C1
              have lk := lk w8 Y1
              clear own Y
              have Y2 := xa Y1 (.cells #[.int .i64 p0, .int .i64 p1, .int .i64 p2, .int .i64 p3] 47)
              have own2 : Hid (OwnA (w8.alloc (.cells #[.int .i64 p0, .int .i64 p1, .int .i64 p2, .int .i64 p3] 47)) w7.heap.size u8 T) := own_later own1.out (x1 _ _)
              have C2 := Vec.made4 w8 (.int .i64 p0) (.int .i64 p1) (.int .i64 p2) (.int .i64 p3) 47
              obtain ⟨w9, h9⟩ : ∃ w9, w8.alloc (.cells #[.int .i64 p0, .int .i64 p1, .int .i64 p2, .int .i64 p3] 47) = w9 := ⟨_, rfl⟩
              rw [h9] at Y2 own2 C2
              obtain ⟨⟨b0, b1, b2, b3⟩, _⟩ := C2.box4
              go_upto_region 12 with fail
              go_upto_region 13 with (refine wpList_looked rfl _ _ _ _ rfl lk ?_)
              clear own1 Y1 h8 h9 c0 c1 lk hix
              go_wp2_with fail
              refine (EM _).mono ?_
              rintro e wA ⟨rfl, eA⟩
              have Y3 := xt Y2 eA
              have own3 : Hid (OwnA wA w7.heap.size u8 T) := own_later own2.out eA
              obtain ⟨⟨b0, b1, b2, b3⟩, _⟩ := (C2.later eA).box4
              clear EM Y2 own2 C2 eA
              cases q
              · go_wp2_with fail
                refine (blockArea _ _ _ _ _).mono ?_
                rintro e wB ⟨rfl, eB⟩
                have Y4 := xt Y3 eB
                have own4 : Hid (OwnA wB w7.heap.size u8 T) := own_later own3.out eB
                clear b0 b1 b2 b3 Y3 own3 eB
                go_wp2_with (at_builtin; refine wpList_append_own _ rfl _ _ 31 rfl w7.heap.size 26 inf (arV 0 0 false false 0 0 false false) 8 48 Tryd.underlying31 hi hz hz1 hz2 rfl (by decide) _ _ _ rfl (own4.out.alloc _) ⟨wB.heap.size, 0, none⟩ 1 1 (cellsA (p0, p2, p1, p3)) rfl rfl (World.news_of_block (heap_alloc_new _ _)) (by simp [cellsA, Value.oneCell']) (by simp only [maxLen]; omega) (by omega) (by have := Y4.size; simp; omega) ?_)
                intro v7 wC ownC gC _
                have lt4 := own_block own4.out
                have Y5 : Ext w7 wC := (xa Y4 _).grown gC (xa Y4 _).size lt4
                clear own4 Y4 gC lt4
                go_wp2_with fail
                go_roundw
                case rel =>
                  refine ⟨k + 1, by omega, by go_num, ?_, Y5⟩
                  show OwnA _ _ _ _
                  rw [hT.out]
                  show World.ownsRow _ _ _ _ _ _ _
                  rw [flatA_append, List.length_append]
                  exact ownC
                case measure => simp [intOf]; omega
              · go_wp2_with fail
                go_roundw
                case rel =>
                  refine ⟨k + 1, by omega, by go_num, ?_, Y3⟩
                  show OwnA _ _ _ _
                  rw [hT.out]
                  simpa using own3.out
                case measure => simp [intOf]; omega
        · have HW' : Hid (woB r c r' c' s d s' d' = [(A, C, B, D)]) := by show _ = _; rw [HW.out]; rfl
          clear HW
          go_wp2_with fail
          refine (blockArea _ _ _ _ _).mono ?_
          rintro e w7 ⟨rfl, e7⟩
          have X := xt X e7
          clear b0 b1 b2 b3 a0 a1 a2 a3 W5 P BS e7
          go_wp2_with fail
          exact bodyPost_ret (v := .slice (some ⟨w7.heap.size, 0, none⟩) 1 1) (by simp [results, Tryd.results7, go_sem]) rfl ⟨_, rfl, by rw [HW'.out]; exact OwnA.one w7 X.size (A, C, B, D), xa X _⟩
    · have HW' : Hid (woB r c r' c' s d s' d' = []) := by show _ = _; unfold woB; rw [if_neg (fun q => hB q.2)]
      have hB' : goodAB s d s' d' = false := by simpa using hB
      rw [hB']
      clear hA hB hB'
      go_wp2_with fail
      exact bodyPost_ret (v := .slice none 0 0) (by simp [results, Tryd.results7, go_sem]) rfl ⟨_, rfl, by rw [HW'.out]; exact World.ownsRow_nil _ _ _ _, X⟩
  · have HW' : Hid (woB r c r' c' s d s' d' = []) := by show _ = _; unfold woB; rw [if_neg (fun q => hA q.1)]
    have hA' : goodAB r c r' c' = false := by simpa using hA
    rw [hA']
    clear hA hA' G2
    go_wp2_with fail
    exact bodyPost_ret (v := .slice none 0 0) (by simp [results, Tryd.results7, go_sem]) rfl ⟨_, rfl, by rw [HW'.out]; exact World.ownsRow_nil _ _ _ _, X⟩

end Go.Proofs.YthdjlhhedkfibaaDoor
