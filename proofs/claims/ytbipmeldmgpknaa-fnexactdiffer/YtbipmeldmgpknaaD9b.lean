/-
  Chapter 9: places compared, of what is shown.
-/
import Derived.Test.YtbipmeldmgpknaaD9a


namespace Go.Proofs.Ytbipmeldmgpknaa
open Go.RowKit Go.Sort

set_option maxHeartbeats 1000000 in
theorem orI (g : Nat) (a b : Int) (w : World) (h : Vec w g [.int .i64 a, .int .i64 b]) :
    Calls Try.prog 39 #[.slice (some ⟨g, 0, none⟩) 2 2] w fun e w' => e = .returned (.int .i64 (if a = 0 then b else a)) ∧ w' = w := by
  have a0 := (h 0 _ rfl).1
  have a1 := (h 1 _ rfl).1
  clear h
  obtain ⟨R, hR⟩ : ∃ R, (if a = 0 then b else a) = R := ⟨_, rfl⟩
  have HR : Hid ((if a = 0 then b else a) = R) := hR
  rw [hR]
  clear hR
  go_enter Try.func39, Try.ntmps39
  go_wp2_with fail
  go_loopw [8] (fun i wr => ∃ k : Nat, k ≤ 2 ∧ i = .int .i64 k ∧ Hid (0 < k → a = 0) ∧ Hid (1 < k → b = 0) ∧ wr = w) (fun i _ => 2 - (intOf i).toNat)
  case atStart => exact ⟨0, by omega, rfl, fun h => by omega, fun h => by omega, rfl⟩
  case round =>
    obtain ⟨k, hk, rfl, HA, HB, rfl⟩ := hrel
    obtain rfl | rfl | rfl : k = 0 ∨ k = 1 ∨ k = 2 := by omega
    · by_cases ha : a = 0
      · have HA' : Hid (a = 0) := ha
        go_wp2_with fail
        go_roundw
        case rel => exact ⟨1, by omega, by go_num, fun _ => HA'.out, (fun h => by omega), by first | rfl | trivial⟩
        case measure => simp [intOf]
      · have HE : Hid (a = R) := by show a = R; rw [← HR.out, if_neg ha]
        go_wp2_with fail
        go_ret
        exact ⟨ret_int HE.out, rfl⟩
    · have HA' : Hid (a = 0) := HA.out (by omega)
      by_cases hb : b = 0
      · have HB' : Hid (b = 0) := hb
        go_wp2_with fail
        go_roundw
        case rel => exact ⟨2, by omega, by go_num, fun _ => HA'.out, (fun _ => HB'.out), by first | rfl | trivial⟩
        case measure => simp [intOf]
      · have HE : Hid (b = R) := by show b = R; rw [← HR.out, if_pos HA'.out]
        go_wp2_with fail
        go_ret
        exact ⟨ret_int HE.out, rfl⟩
    · have HE : Hid (0 = R) := by show 0 = R; rw [← HR.out, if_pos (HA.out (by omega)), HB.out (by omega)]
      go_wp2_with fail
      go_ret
      exact ⟨ret_int HE.out, rfl⟩

abbrev siV (a b : Int) : Value := .agg #[.int .i64 a, .int .i64 b]
theorem Vec.put2 {w : World} {b : Nat} {v0 v1 : Value} (h : Vec w b [v0, v1]) (u0 u1 : Value) : Vec (setL w b 0 [u0, u1]) b [u0, u1] :=
  (h.put 0 (by simp) u0).put 1 (by simp) u1
set_option maxRecDepth 8000 in
set_option maxHeartbeats 1000000 in
theorem spotI (r : Int) (c : Int) (k : Int) (n : Bool) (d : Int) (x : Int) (t : List UInt8) (q : Bool) (w : World) :
    Calls Try.prog 16 #[shownV r c k n d x t q] w fun e w' => e = .returned (siV r c) ∧ Gro w w' := by
  have B1 := vec_made w [.int .i64 r, .int .i64 c, .int .i64 k, .bool n, .int .i64 d, .int .i64 x, sV t, .bool q] 42
  have X1 := g1 w (.cells #[.int .i64 r, .int .i64 c, .int .i64 k, .bool n, .int .i64 d, .int .i64 x, sV t, .bool q] 42)
  obtain ⟨wa, ha⟩ : ∃ wa, w.alloc (.cells #[.int .i64 r, .int .i64 c, .int .i64 k, .bool n, .int .i64 d, .int .i64 x, sV t, .bool q] 42) = wa := ⟨_, rfl⟩
  change Vec (w.alloc (.cells #[.int .i64 r, .int .i64 c, .int .i64 k, .bool n, .int .i64 d, .int .i64 x, sV t, .bool q] 42)) _ _ at B1
  rw [ha] at B1 X1
  have B2 := vec_made wa [.int .i64 0, .int .i64 0] 47
  have X2 := g1 wa (.cells #[.int .i64 0, .int .i64 0] 47)
  have sa : wa.heap.size = w.heap.size + 1 := by rw [← ha, World.size_alloc]
  obtain ⟨wb, hb⟩ : ∃ wb, wa.alloc (.cells #[.int .i64 0, .int .i64 0] 47) = wb := ⟨_, rfl⟩
  change Vec (wa.alloc (.cells #[.int .i64 0, .int .i64 0] 47)) _ _ at B2
  rw [hb, sa] at B2
  rw [hb] at X2
  have B1 := B1.later X2.1
  have X := gt X1 X2
  have a0 := (B1 0 _ rfl).1
  have a1 := (B1 1 _ rfl).1
  have b0 := (B2 0 _ rfl).1
  have b1 := (B2 1 _ rfl).1
  have f0 := (B2 0 _ rfl).2
  have f1 := (B2 1 _ rfl).2
  have G := B2.put2 (.int .i64 r) (.int .i64 c)
  have Z : Gro w (setL wb (w.heap.size + 1) 0 [.int .i64 r, .int .i64 c]) := gset (gset X (p := ⟨w.heap.size + 1, 0, none⟩) (by show _ ≤ w.heap.size + 1; omega) (.int .i64 r)) (p := ⟨w.heap.size + 1, 1, none⟩) (by show _ ≤ w.heap.size + 1; omega) (.int .i64 c)
  obtain ⟨wy, hy⟩ : ∃ wy, setL wb (w.heap.size + 1) 0 [.int .i64 r, .int .i64 c] = wy := ⟨_, rfl⟩
  rw [hy] at G Z
  have hy : (wb.setCell ⟨w.heap.size + 1, 0, none⟩ (.int .i64 r)).setCell ⟨w.heap.size + 1, 1, none⟩ (.int .i64 c) = wy := hy
  have d0 := (G 0 _ rfl).1
  have d1 := (G 1 _ rfl).1
  clear B1 B2 X1 X2 G X
  go_enter Try.func16, Try.ntmps16
  go_wp2_with fail
  exact bodyPost_ret (v := siV r c) (by simp [results, Try.results16, go_sem, d0, d1]) rfl ⟨rfl, Z⟩

set_option maxRecDepth 8000 in
set_option maxHeartbeats 4000000 in
theorem cmpSpotI (a c b d : Int) (w : World) :
    Calls Try.prog 26 #[siV a c, siV b d] w fun e w' => e = .returned (.int .i64 (cmpP a c b d)) ∧ Gro w w' := by
  have B1 := vec_made w [.int .i64 a, .int .i64 c] 47
  have X1 := g1 w (.cells #[.int .i64 a, .int .i64 c] 47)
  obtain ⟨wa, ha⟩ : ∃ wa, w.alloc (.cells #[.int .i64 a, .int .i64 c] 47) = wa := ⟨_, rfl⟩
  change Vec (w.alloc (.cells #[.int .i64 a, .int .i64 c] 47)) _ _ at B1
  rw [ha] at B1 X1
  have B2 := vec_made wa [.int .i64 b, .int .i64 d] 47
  have X2 := g1 wa (.cells #[.int .i64 b, .int .i64 d] 47)
  have sa : wa.heap.size = w.heap.size + 1 := by rw [← ha, World.size_alloc]
  obtain ⟨wb, hb⟩ : ∃ wb, wa.alloc (.cells #[.int .i64 b, .int .i64 d] 47) = wb := ⟨_, rfl⟩
  change Vec (wa.alloc (.cells #[.int .i64 b, .int .i64 d] 47)) _ _ at B2
  rw [hb, sa] at B2
  rw [hb] at X2
  have B1 := B1.later X2.1
  have X := gt X1 X2
  clear X1 X2
  have CA := compareI a b
  have CB := compareI c d
  have CO := fun g W h => orI g (cmpI a b) (cmpI c d) W h
  change ∀ g W h, Calls Try.prog 39 _ W fun e w' => e = .returned (.int .i64 (cmpP a c b d)) ∧ w' = W at CO
  generalize cmpP a c b d = R at CO ⊢
  generalize cmpI a b = p at CA CO
  generalize cmpI c d = q at CB CO
  go_enter Try.func26, Try.ntmps26
  go_wp2_with fail
  clear ha hb sa
  refine wp_region_letters (fun lx : Nat → Value => { tmps := #[siV a c, siV b d, .pointer (some ⟨w.heap.size, 0, none⟩), .pointer (some ⟨w.heap.size + 1, 0, none⟩), lx 4, lx 5, lx 6, lx 7, lx 8, lx 9, lx 10, lx 11, lx 12, lx 13, lx 14, lx 15, lx 16], defers := [] }) (fun L lx lw => Hid (Gro w lw ∧ Vec lw (w.heap.size) [.int .i64 a, .int .i64 c] ∧ Vec lw (w.heap.size + 1) [.int .i64 b, .int .i64 d] ∧ (L 0 = true → lx 5 = .pointer (some ⟨w.heap.size, 0, none⟩)) ∧ (L 1 = true → lx 6 = .int .i64 a) ∧ (L 2 = true → lx 7 = .pointer (some ⟨w.heap.size + 1, 0, none⟩)) ∧ (L 3 = true → lx 8 = .int .i64 b) ∧ (L 4 = true → lx 9 = .int .i64 p) ∧ (L 5 = true → lx 10 = .pointer (some ⟨w.heap.size, 1, none⟩)) ∧ (L 6 = true → lx 11 = .int .i64 c) ∧ (L 7 = true → lx 12 = .pointer (some ⟨w.heap.size + 1, 1, none⟩)) ∧ (L 8 = true → lx 13 = .int .i64 d) ∧ (L 9 = true → lx 14 = .int .i64 q) ∧ (L 10 = true → ∃ b0, lx 15 = .slice (some ⟨b0, 0, none⟩) 2 2 ∧ Vec lw b0 [.int .i64 p, .int .i64 q]) ∧ (L 11 = true → lx 16 = .int .i64 R) ∧ (L 12 = true → lx 4 = .int .i64 R))) rfl (by kernel_rfl) (fun jj => if jj = 4 then .int .i64 0 else undef) rfl ?_ ?_ ?_
  · exact ⟨gd X, B1.later (xd (xr _)), B2.later (xd (xr _)), (fun h => by cases h), (fun h => by cases h), (fun h => by cases h), (fun h => by cases h), (fun h => by cases h), (fun h => by cases h), (fun h => by cases h), (fun h => by cases h), (fun h => by cases h), (fun h => by cases h), (fun h => by cases h), (fun h => by cases h), (fun h => by cases h)⟩
  · intro L lx wl i o K hK ho hL haf hI
    obtain ⟨X, f0, f1, f2, f3, f4, f5, f6, f7, f8, f9, f10, f11, f12, f13, f14⟩ := hI.out
    match i, ho, hL, haf, hK with
    | 0, ho, hL, haf, hK =>
      simp only [List.getElem?_toArray, List.getElem?_cons_zero, Option.some.injEq] at ho
      subst ho
      (try dsimp only)
      go_wp2_with fail
      exact hK (fun jj => if jj = 5 then .pointer (some ⟨w.heap.size, 0, none⟩) else lx jj) _ ⟨X, f0, f1, (fun _ => rfl), f3, f4, f5, f6, f7, f8, f9, f10, f11, f12, f13, f14⟩
    | 1, ho, hL, haf, hK =>
      simp only [List.getElem?_toArray, List.getElem?_cons_zero, List.getElem?_cons_succ, Option.some.injEq] at ho
      subst ho
      (try dsimp only)
      rw [f2 (haf ⟨0, .data⟩ (by simp) rfl)]
      have a0 := (f0 0 _ rfl).1
      go_wp2_with fail
      exact hK (fun jj => if jj = 6 then .int .i64 a else if jj = 5 then .pointer (some ⟨w.heap.size, 0, none⟩) else lx jj) _ ⟨X, f0, f1, (fun _ => rfl), (fun _ => rfl), f4, f5, f6, f7, f8, f9, f10, f11, f12, f13, f14⟩
    | 2, ho, hL, haf, hK =>
      simp only [List.getElem?_toArray, List.getElem?_cons_zero, List.getElem?_cons_succ, Option.some.injEq] at ho
      subst ho
      (try dsimp only)
      go_wp2_with fail
      exact hK (fun jj => if jj = 7 then .pointer (some ⟨w.heap.size + 1, 0, none⟩) else lx jj) _ ⟨X, f0, f1, f2, f3, (fun _ => rfl), f5, f6, f7, f8, f9, f10, f11, f12, f13, f14⟩
    | 3, ho, hL, haf, hK =>
      simp only [List.getElem?_toArray, List.getElem?_cons_zero, List.getElem?_cons_succ, Option.some.injEq] at ho
      subst ho
      (try dsimp only)
      rw [f4 (haf ⟨2, .data⟩ (by simp) rfl)]
      have a0 := (f1 0 _ rfl).1
      go_wp2_with fail
      exact hK (fun jj => if jj = 8 then .int .i64 b else if jj = 7 then .pointer (some ⟨w.heap.size + 1, 0, none⟩) else lx jj) _ ⟨X, f0, f1, f2, f3, (fun _ => rfl), (fun _ => rfl), f6, f7, f8, f9, f10, f11, f12, f13, f14⟩
    | 4, ho, hL, haf, hK =>
      simp only [List.getElem?_toArray, List.getElem?_cons_zero, List.getElem?_cons_succ, Option.some.injEq] at ho
      subst ho
      (try dsimp only)
      rw [f3 (haf ⟨1, .data⟩ (by simp) rfl), f5 (haf ⟨3, .data⟩ (by simp) rfl)]
      go_wp2_with fail
      refine ((CA wl)).mono ?_
      rintro rr w' ⟨rfl, hE⟩
      have E : Gro wl w' := hE ▸ gr _
      clear hE
      go_wp2_with fail
      exact hK (fun jj => if jj = 9 then .int .i64 p else if jj = 6 then .int .i64 a else if jj = 8 then .int .i64 b else lx jj) _ ⟨gt X E, (f0.later E.1), (f1.later E.1), f2, (fun _ => rfl), f4, (fun _ => rfl), (fun _ => rfl), f7, f8, f9, f10, f11, (fun h => by obtain ⟨b0, h1, h2⟩ := f12 h; exact ⟨b0, h1, h2.later E.1⟩), f13, f14⟩
    | 5, ho, hL, haf, hK =>
      simp only [List.getElem?_toArray, List.getElem?_cons_zero, List.getElem?_cons_succ, Option.some.injEq] at ho
      subst ho
      (try dsimp only)
      go_wp2_with fail
      exact hK (fun jj => if jj = 10 then .pointer (some ⟨w.heap.size, 1, none⟩) else lx jj) _ ⟨X, f0, f1, f2, f3, f4, f5, f6, (fun _ => rfl), f8, f9, f10, f11, f12, f13, f14⟩
    | 6, ho, hL, haf, hK =>
      simp only [List.getElem?_toArray, List.getElem?_cons_zero, List.getElem?_cons_succ, Option.some.injEq] at ho
      subst ho
      (try dsimp only)
      rw [f7 (haf ⟨5, .data⟩ (by simp) rfl)]
      have a1 := (f0 1 _ rfl).1
      go_wp2_with fail
      exact hK (fun jj => if jj = 11 then .int .i64 c else if jj = 10 then .pointer (some ⟨w.heap.size, 1, none⟩) else lx jj) _ ⟨X, f0, f1, f2, f3, f4, f5, f6, (fun _ => rfl), (fun _ => rfl), f9, f10, f11, f12, f13, f14⟩
    | 7, ho, hL, haf, hK =>
      simp only [List.getElem?_toArray, List.getElem?_cons_zero, List.getElem?_cons_succ, Option.some.injEq] at ho
      subst ho
      (try dsimp only)
      go_wp2_with fail
      exact hK (fun jj => if jj = 12 then .pointer (some ⟨w.heap.size + 1, 1, none⟩) else lx jj) _ ⟨X, f0, f1, f2, f3, f4, f5, f6, f7, f8, (fun _ => rfl), f10, f11, f12, f13, f14⟩
    | 8, ho, hL, haf, hK =>
      simp only [List.getElem?_toArray, List.getElem?_cons_zero, List.getElem?_cons_succ, Option.some.injEq] at ho
      subst ho
      (try dsimp only)
      rw [f9 (haf ⟨7, .data⟩ (by simp) rfl)]
      have a1 := (f1 1 _ rfl).1
      go_wp2_with fail
      exact hK (fun jj => if jj = 13 then .int .i64 d else if jj = 12 then .pointer (some ⟨w.heap.size + 1, 1, none⟩) else lx jj) _ ⟨X, f0, f1, f2, f3, f4, f5, f6, f7, f8, (fun _ => rfl), (fun _ => rfl), f11, f12, f13, f14⟩
    | 9, ho, hL, haf, hK =>
      simp only [List.getElem?_toArray, List.getElem?_cons_zero, List.getElem?_cons_succ, Option.some.injEq] at ho
      subst ho
      (try dsimp only)
      rw [f8 (haf ⟨6, .data⟩ (by simp) rfl), f10 (haf ⟨8, .data⟩ (by simp) rfl)]
      go_wp2_with fail
      refine ((CB wl)).mono ?_
      rintro rr w' ⟨rfl, hE⟩
      have E : Gro wl w' := hE ▸ gr _
      clear hE
      go_wp2_with fail
      exact hK (fun jj => if jj = 14 then .int .i64 q else if jj = 11 then .int .i64 c else if jj = 13 then .int .i64 d else lx jj) _ ⟨gt X E, (f0.later E.1), (f1.later E.1), f2, f3, f4, f5, f6, f7, (fun _ => rfl), f9, (fun _ => rfl), (fun _ => rfl), (fun h => by obtain ⟨b0, h1, h2⟩ := f12 h; exact ⟨b0, h1, h2.later E.1⟩), f13, f14⟩
    | 10, ho, hL, haf, hK =>
      simp only [List.getElem?_toArray, List.getElem?_cons_zero, List.getElem?_cons_succ, Option.some.injEq] at ho
      subst ho
      (try dsimp only)
      rw [f6 (haf ⟨4, .data⟩ (by simp) rfl), f11 (haf ⟨9, .data⟩ (by simp) rfl)]
      go_wp2_with fail
      exact hK (fun jj => if jj = 15 then .slice (some ⟨wl.heap.size, 0, none⟩) 2 2 else if jj = 9 then .int .i64 p else if jj = 14 then .int .i64 q else lx jj) _ ⟨ga X _, (f0.later (x1 _ _)), (f1.later (x1 _ _)), f2, f3, f4, f5, (fun _ => rfl), f7, f8, f9, f10, (fun _ => rfl), (fun _ => ⟨wl.heap.size, rfl, vec_made wl [.int .i64 p, .int .i64 q] _⟩), f13, f14⟩
    | 11, ho, hL, haf, hK =>
      simp only [List.getElem?_toArray, List.getElem?_cons_zero, List.getElem?_cons_succ, Option.some.injEq] at ho
      subst ho
      (try dsimp only)
      obtain ⟨b0, eb, hv⟩ := f12 (haf ⟨10, .data⟩ (by simp) rfl)
      rw [eb]
      go_wp2_with fail
      refine ((CO b0 wl hv)).mono ?_
      rintro rr w' ⟨rfl, hE⟩
      have E : Gro wl w' := hE ▸ gr _
      clear hE
      go_wp2_with fail
      exact hK (fun jj => if jj = 16 then .int .i64 R else if jj = 15 then .slice (some ⟨b0, 0, none⟩) 2 2 else lx jj) _ ⟨gt X E, (f0.later E.1), (f1.later E.1), f2, f3, f4, f5, f6, f7, f8, f9, f10, f11, (fun _ => ⟨b0, rfl, hv.later E.1⟩), (fun _ => rfl), f14⟩
    | 12, ho, hL, haf, hK =>
      simp only [List.getElem?_toArray, List.getElem?_cons_zero, List.getElem?_cons_succ, Option.some.injEq] at ho
      subst ho
      (try dsimp only)
      rw [f13 (haf ⟨11, .data⟩ (by simp) rfl)]
      go_wp2_with fail
      exact hK (fun jj => if jj = 4 then .int .i64 R else if jj = 16 then .int .i64 R else lx jj) _ ⟨X, f0, f1, f2, f3, f4, f5, f6, f7, f8, f9, f10, f11, f12, (fun _ => rfl), (fun _ => rfl)⟩
    | k + 13, ho, _, _, _ => simp at ho
  · intro L lx wr hall hI
    obtain ⟨XR, f0, f1, f2, f3, f4, f5, f6, f7, f8, f9, f10, f11, f12, f13, f14⟩ := hI.out
    clear hI
    have G0 := f0
    have G1 := f1
    replace f2 := f2 (hall 0 (by simp))
    replace f3 := f3 (hall 1 (by simp))
    replace f4 := f4 (hall 2 (by simp))
    replace f5 := f5 (hall 3 (by simp))
    replace f6 := f6 (hall 4 (by simp))
    replace f7 := f7 (hall 5 (by simp))
    replace f8 := f8 (hall 6 (by simp))
    replace f9 := f9 (hall 7 (by simp))
    replace f10 := f10 (hall 8 (by simp))
    replace f11 := f11 (hall 9 (by simp))
    obtain ⟨b0, eb0, _⟩ := f12 (hall 10 (by simp))
    replace f13 := f13 (hall 11 (by simp))
    replace f14 := f14 (hall 12 (by simp))
    (try dsimp only)
    rw [eb0]
    rw [f2, f3, f4, f5, f6, f7, f8, f9, f10, f11, f13, f14]
    clear hall f0 f1 f2 f3 f4 f5 f6 f7 f8 f9 f10 f11 f12 f13 f14
    go_wp2_with fail
    go_ret
    exact ⟨rfl, XR⟩

set_option maxRecDepth 8000 in
set_option maxHeartbeats 4000000 in
theorem cmpShownI (e f : ST) (w : World) :
    Calls Try.prog 19 #[.agg e.cells.toArray, .agg f.cells.toArray] w fun v w' => v = .returned (.int .i64 (cmpP e.r e.c f.r f.c)) ∧ Gro w w' := by
  have B1 := vec_made w e.cells 42
  have X1 := g1 w (.cells e.cells.toArray 42)
  obtain ⟨wa, ha⟩ : ∃ wa, w.alloc (.cells #[.int .i64 e.r, .int .i64 e.c, .int .i64 e.k, .bool e.n, .int .i64 e.d, .int .i64 e.x, sV e.t, .bool e.q] 42) = wa := ⟨_, rfl⟩
  change Vec (w.alloc (.cells #[.int .i64 e.r, .int .i64 e.c, .int .i64 e.k, .bool e.n, .int .i64 e.d, .int .i64 e.x, sV e.t, .bool e.q] 42)) _ _ at B1
  change Gro w (w.alloc (.cells #[.int .i64 e.r, .int .i64 e.c, .int .i64 e.k, .bool e.n, .int .i64 e.d, .int .i64 e.x, sV e.t, .bool e.q] 42)) at X1
  rw [ha] at B1 X1
  have B2 := vec_made wa f.cells 42
  have X2 := g1 wa (.cells f.cells.toArray 42)
  have sa : wa.heap.size = w.heap.size + 1 := by rw [← ha, World.size_alloc]
  obtain ⟨wb, hb⟩ : ∃ wb, wa.alloc (.cells #[.int .i64 f.r, .int .i64 f.c, .int .i64 f.k, .bool f.n, .int .i64 f.d, .int .i64 f.x, sV f.t, .bool f.q] 42) = wb := ⟨_, rfl⟩
  change Vec (wa.alloc (.cells #[.int .i64 f.r, .int .i64 f.c, .int .i64 f.k, .bool f.n, .int .i64 f.d, .int .i64 f.x, sV f.t, .bool f.q] 42)) _ _ at B2
  change Gro wa (wa.alloc (.cells #[.int .i64 f.r, .int .i64 f.c, .int .i64 f.k, .bool f.n, .int .i64 f.d, .int .i64 f.x, sV f.t, .bool f.q] 42)) at X2
  rw [hb, sa] at B2
  rw [hb] at X2
  have B1 := B1.later X2.1
  have X := gt X1 X2
  clear X1 X2
  show Calls Try.prog 19 #[.agg #[.int .i64 e.r, .int .i64 e.c, .int .i64 e.k, .bool e.n, .int .i64 e.d, .int .i64 e.x, sV e.t, .bool e.q], .agg #[.int .i64 f.r, .int .i64 f.c, .int .i64 f.k, .bool f.n, .int .i64 f.d, .int .i64 f.x, sV f.t, .bool f.q]] w _
  go_enter Try.func19, Try.ntmps19
  go_wp2_with fail
  clear ha hb sa
  refine wp_region_letters (fun lx : Nat → Value => { tmps := #[.agg #[.int .i64 e.r, .int .i64 e.c, .int .i64 e.k, .bool e.n, .int .i64 e.d, .int .i64 e.x, sV e.t, .bool e.q], .agg #[.int .i64 f.r, .int .i64 f.c, .int .i64 f.k, .bool f.n, .int .i64 f.d, .int .i64 f.x, sV f.t, .bool f.q], .pointer (some ⟨w.heap.size, 0, none⟩), .pointer (some ⟨w.heap.size + 1, 0, none⟩), lx 4, lx 5, lx 6, lx 7, lx 8, lx 9], defers := [] }) (fun L lx lw => Hid (Gro w lw ∧ Vec lw (w.heap.size) [.int .i64 e.r, .int .i64 e.c, .int .i64 e.k, .bool e.n, .int .i64 e.d, .int .i64 e.x, sV e.t, .bool e.q] ∧ Vec lw (w.heap.size + 1) [.int .i64 f.r, .int .i64 f.c, .int .i64 f.k, .bool f.n, .int .i64 f.d, .int .i64 f.x, sV f.t, .bool f.q] ∧ (L 0 = true → lx 5 = .agg #[.int .i64 e.r, .int .i64 e.c, .int .i64 e.k, .bool e.n, .int .i64 e.d, .int .i64 e.x, sV e.t, .bool e.q]) ∧ (L 1 = true → lx 6 = siV e.r e.c) ∧ (L 2 = true → lx 7 = .agg #[.int .i64 f.r, .int .i64 f.c, .int .i64 f.k, .bool f.n, .int .i64 f.d, .int .i64 f.x, sV f.t, .bool f.q]) ∧ (L 3 = true → lx 8 = siV f.r f.c) ∧ (L 4 = true → lx 9 = .int .i64 (cmpP e.r e.c f.r f.c)) ∧ (L 5 = true → lx 4 = .int .i64 (cmpP e.r e.c f.r f.c)))) rfl (by kernel_rfl) (fun jj => if jj = 4 then .int .i64 0 else undef) rfl ?_ ?_ ?_
  · exact ⟨gd X, B1.later (xd (xr _)), B2.later (xd (xr _)), (fun h => by cases h), (fun h => by cases h), (fun h => by cases h), (fun h => by cases h), (fun h => by cases h), (fun h => by cases h)⟩
  · intro L lx wl i o K hK ho hL haf hI
    obtain ⟨X, f0, f1, f2, f3, f4, f5, f6, f7⟩ := hI.out
    match i, ho, hL, haf, hK with
    | 0, ho, hL, haf, hK =>
      simp only [List.getElem?_toArray, List.getElem?_cons_zero, Option.some.injEq] at ho
      subst ho
      (try dsimp only)
      have a0 := (f0 0 _ rfl).1
      have a1 := (f0 1 _ rfl).1
      have a2 := (f0 2 _ rfl).1
      have a3 := (f0 3 _ rfl).1
      have a4 := (f0 4 _ rfl).1
      have a5 := (f0 5 _ rfl).1
      have a6 := (f0 6 _ rfl).1
      have a7 := (f0 7 _ rfl).1
      go_wp2_with fail
      exact hK (fun jj => if jj = 5 then .agg #[.int .i64 e.r, .int .i64 e.c, .int .i64 e.k, .bool e.n, .int .i64 e.d, .int .i64 e.x, sV e.t, .bool e.q] else lx jj) _ ⟨X, f0, f1, (fun _ => rfl), f3, f4, f5, f6, f7⟩
    | 1, ho, hL, haf, hK =>
      simp only [List.getElem?_toArray, List.getElem?_cons_zero, List.getElem?_cons_succ, Option.some.injEq] at ho
      subst ho
      (try dsimp only)
      rw [f2 (haf ⟨0, .data⟩ (by simp) rfl)]
      go_wp2_with fail
      refine ((spotI e.r e.c e.k e.n e.d e.x e.t e.q wl)).mono ?_
      rintro rr w' ⟨rfl, E⟩
      go_wp2_with fail
      exact hK (fun jj => if jj = 6 then siV e.r e.c else if jj = 5 then .agg #[.int .i64 e.r, .int .i64 e.c, .int .i64 e.k, .bool e.n, .int .i64 e.d, .int .i64 e.x, sV e.t, .bool e.q] else lx jj) _ ⟨gt X E, (f0.later E.1), (f1.later E.1), (fun _ => rfl), (fun _ => rfl), f4, f5, f6, f7⟩
    | 2, ho, hL, haf, hK =>
      simp only [List.getElem?_toArray, List.getElem?_cons_zero, List.getElem?_cons_succ, Option.some.injEq] at ho
      subst ho
      (try dsimp only)
      have a0 := (f1 0 _ rfl).1
      have a1 := (f1 1 _ rfl).1
      have a2 := (f1 2 _ rfl).1
      have a3 := (f1 3 _ rfl).1
      have a4 := (f1 4 _ rfl).1
      have a5 := (f1 5 _ rfl).1
      have a6 := (f1 6 _ rfl).1
      have a7 := (f1 7 _ rfl).1
      go_wp2_with fail
      exact hK (fun jj => if jj = 7 then .agg #[.int .i64 f.r, .int .i64 f.c, .int .i64 f.k, .bool f.n, .int .i64 f.d, .int .i64 f.x, sV f.t, .bool f.q] else lx jj) _ ⟨X, f0, f1, f2, f3, (fun _ => rfl), f5, f6, f7⟩
    | 3, ho, hL, haf, hK =>
      simp only [List.getElem?_toArray, List.getElem?_cons_zero, List.getElem?_cons_succ, Option.some.injEq] at ho
      subst ho
      (try dsimp only)
      rw [f4 (haf ⟨2, .data⟩ (by simp) rfl)]
      go_wp2_with fail
      refine ((spotI f.r f.c f.k f.n f.d f.x f.t f.q wl)).mono ?_
      rintro rr w' ⟨rfl, E⟩
      go_wp2_with fail
      exact hK (fun jj => if jj = 8 then siV f.r f.c else if jj = 7 then .agg #[.int .i64 f.r, .int .i64 f.c, .int .i64 f.k, .bool f.n, .int .i64 f.d, .int .i64 f.x, sV f.t, .bool f.q] else lx jj) _ ⟨gt X E, (f0.later E.1), (f1.later E.1), f2, f3, (fun _ => rfl), (fun _ => rfl), f6, f7⟩
    | 4, ho, hL, haf, hK =>
      simp only [List.getElem?_toArray, List.getElem?_cons_zero, List.getElem?_cons_succ, Option.some.injEq] at ho
      subst ho
      (try dsimp only)
      rw [f3 (haf ⟨1, .data⟩ (by simp) rfl), f5 (haf ⟨3, .data⟩ (by simp) rfl)]
      go_wp2_with fail
      refine ((cmpSpotI e.r e.c f.r f.c wl)).mono ?_
      rintro rr w' ⟨rfl, E⟩
      go_wp2_with fail
      exact hK (fun jj => if jj = 9 then .int .i64 (cmpP e.r e.c f.r f.c) else if jj = 6 then siV e.r e.c else if jj = 8 then siV f.r f.c else lx jj) _ ⟨gt X E, (f0.later E.1), (f1.later E.1), f2, (fun _ => rfl), f4, (fun _ => rfl), (fun _ => rfl), f7⟩
    | 5, ho, hL, haf, hK =>
      simp only [List.getElem?_toArray, List.getElem?_cons_zero, List.getElem?_cons_succ, Option.some.injEq] at ho
      subst ho
      (try dsimp only)
      rw [f6 (haf ⟨4, .data⟩ (by simp) rfl)]
      go_wp2_with fail
      exact hK (fun jj => if jj = 4 then .int .i64 (cmpP e.r e.c f.r f.c) else if jj = 9 then .int .i64 (cmpP e.r e.c f.r f.c) else lx jj) _ ⟨X, f0, f1, f2, f3, f4, f5, (fun _ => rfl), (fun _ => rfl)⟩
    | k + 6, ho, _, _, _ => simp at ho
  · intro L lx wr hall hI
    obtain ⟨XR, f0, f1, f2, f3, f4, f5, f6, f7⟩ := hI.out
    clear hI
    have G0 := f0
    have G1 := f1
    replace f2 := f2 (hall 0 (by simp))
    replace f3 := f3 (hall 1 (by simp))
    replace f4 := f4 (hall 2 (by simp))
    replace f5 := f5 (hall 3 (by simp))
    replace f6 := f6 (hall 4 (by simp))
    replace f7 := f7 (hall 5 (by simp))
    (try dsimp only)
    rw [f2, f3, f4, f5, f6, f7]
    clear hall f0 f1 f2 f3 f4 f5 f6 f7
    go_wp2_with fail
    go_ret
    exact ⟨rfl, XR⟩

end Go.Proofs.Ytbipmeldmgpknaa
