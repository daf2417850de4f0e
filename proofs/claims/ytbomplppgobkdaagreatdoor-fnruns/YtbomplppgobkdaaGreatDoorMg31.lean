/-
  Several texts in one: V6u, Qe.
-/
import Derived.Test.YtbomplppgobkdaaGreatDoorMg11
import Derived.Test.YtbomplppgobkdaaGreatDoorMg13
import Derived.Test.YtbomplppgobkdaaGreatDoorMg26
import Derived.Deep.DeepCutAuto
import Derived.Test.YtbomplppgobkdaaGreatDoorMg30
namespace Go.Proofs.YtbomplppgobkdaaGreatDoor
open Go.RowKit

set_option maxRecDepth 8000 in
set_option maxHeartbeats 2000000 in
theorem compareI (k : Int) (n : Bool) (d x : Int) (t : List UInt8) (k' : Int) (n' : Bool) (d' x' : Int) (t' : List UInt8) (w : World) (hl : t.length ≤ 2000000) (hl' : t'.length ≤ 2000000) (d1 : -9223372036854775808 ≤ d) (d2 : d ≤ 9223372036854775807) (d1' : -9223372036854775808 ≤ d') (d2' : d' ≤ 9223372036854775807) (hT : Tens w) (hE : ErrTab w) :
    Calls Tryz.prog 45 #[valV k n d x t, valV k' n' d' x' t'] w fun e w' => e = .returned (.int .i64 (compareV k n d x t k' n' d' x' t')) ∧ Ext w w' := by
  obtain ⟨R, hR⟩ : ∃ R, compareV k n d x t k' n' d' x' t' = R := ⟨_, rfl⟩
  have HR0 : Hid (compareV k n d x t k' n' d' x' t' = R) := hR
  rw [hR]
  clear hR
  have X1 := x1 w (.cells #[.int .i64 k, .bool n, .int .i64 d, .int .i64 x, sV t] 50)
  have B1 := vec_made w (valL k n d x t) 50
  obtain ⟨wa, ha⟩ : ∃ wa, w.alloc (.cells #[.int .i64 k, .bool n, .int .i64 d, .int .i64 x, sV t] 50) = wa := ⟨_, rfl⟩
  have X2 := x1 wa (.cells #[.int .i64 k', .bool n', .int .i64 d', .int .i64 x', sV t'] 50)
  have B2 := vec_made wa (valL k' n' d' x' t') 50
  obtain ⟨wb, hb⟩ : ∃ wb, wa.alloc (.cells #[.int .i64 k', .bool n', .int .i64 d', .int .i64 x', sV t'] 50) = wb := ⟨_, rfl⟩
  have sa : wa.heap.size = w.heap.size + 1 := by rw [← ha, World.size_alloc]
  have sb : wb.heap.size = w.heap.size + 1 + 1 := by rw [← hb, World.size_alloc, sa]
  change Vec (w.alloc (.cells #[.int .i64 k, .bool n, .int .i64 d, .int .i64 x, sV t] 50)) _ _ at B1
  change Vec (wa.alloc (.cells #[.int .i64 k', .bool n', .int .i64 d', .int .i64 x', sV t'] 50)) _ _ at B2
  rw [ha] at X1 B1
  rw [hb] at X2 B2
  rw [sa] at B2
  have B1 := B1.later X2
  have X := xt X1 X2
  clear X1 X2
  obtain ⟨a0, a1, a2, a3, a4⟩ := Vec.five B1
  obtain ⟨c0, c1, c2, c3, c4⟩ := Vec.five B2
  go_enter Tryz.func45, Tryz.ntmps45
  go_wp2_with fail
  clear ha hb sa sb a0 a1 a2 a3 a4 c0 c1 c2 c3 c4
  refine (goodVI k n d x t wb hl d1 d2 (hT.later X) (hE.later X)).mono ?_
  rintro e w1 ⟨rfl, e1⟩
  have XA := xt X e1
  obtain ⟨g, hg⟩ : ∃ g, goodV k n d x t = g := ⟨_, rfl⟩
  rw [hg]
  cases g
  · have HR : Hid (2 = R) := by show _ = _; rw [← HR0.out]; simp [compareV, hg]
    go_wp2_with fail
    go_ret
    exact ⟨congrArg (fun z => Ending.returned (.int .i64 z)) HR.out, XA⟩
  · have a0 := ((B1.later e1) 0 _ rfl).1
    have a1 := ((B1.later e1) 1 _ rfl).1
    have a2 := ((B1.later e1) 2 _ rfl).1
    have a3 := ((B1.later e1) 3 _ rfl).1
    have a4 := ((B1.later e1) 4 _ rfl).1
    obtain ⟨c0, c1, c2, c3, c4⟩ := Vec.five ((B2.later e1))
    go_wp2_with fail
    clear a0 a1 a2 a3 a4 c0 c1 c2 c3 c4
    refine (goodVI k' n' d' x' t' w1 hl' d1' d2' (hT.later XA) (hE.later XA)).mono ?_
    rintro e w2 ⟨rfl, e2⟩
    have XB := xt XA e2
    obtain ⟨g', hg'⟩ : ∃ g', goodV k' n' d' x' t' = g' := ⟨_, rfl⟩
    rw [hg']
    cases g'
    · have HR : Hid (2 = R) := by show _ = _; rw [← HR0.out]; simp [compareV, hg']
      go_wp2_with fail
      go_ret
      exact ⟨congrArg (fun z => Ending.returned (.int .i64 z)) HR.out, XB⟩
    · have a0 := (((B1.later e1).later e2) 0 _ rfl).1
      have a1 := (((B1.later e1).later e2) 1 _ rfl).1
      have a2 := (((B1.later e1).later e2) 2 _ rfl).1
      have a3 := (((B1.later e1).later e2) 3 _ rfl).1
      have a4 := (((B1.later e1).later e2) 4 _ rfl).1
      obtain ⟨c0, c1, c2, c3, c4⟩ := Vec.five (((B2.later e1).later e2))
      go_wp2_with fail
      clear a0 a1 a2 a3 a4 c0 c1 c2 c3 c4
      refine (isErrI k n d x t w2).mono ?_
      rintro e w3 ⟨rfl, e3⟩
      have XC := xt XB e3
      by_cases h4 : k = 4
      · rw [show decide (k = 4) = true by simpa using h4]
        have HR : Hid (2 = R) := by show _ = _; rw [← HR0.out]; simp [compareV, h4]
        go_wp2_with fail
        go_ret
        exact ⟨congrArg (fun z => Ending.returned (.int .i64 z)) HR.out, XC⟩
      · rw [show decide (k = 4) = false by simpa using h4]
        obtain ⟨a0, a1, a2, a3, a4⟩ := Vec.five ((((B1.later e1).later e2).later e3))
        obtain ⟨c0, c1, c2, c3, c4⟩ := Vec.five ((((B2.later e1).later e2).later e3))
        go_wp2_with fail
        clear a0 a1 a2 a3 a4 c0 c1 c2 c3 c4
        refine (isErrI k' n' d' x' t' w3).mono ?_
        rintro e w4 ⟨rfl, e4⟩
        have XD := xt XC e4
        by_cases h4' : k' = 4
        · rw [show decide (k' = 4) = true by simpa using h4']
          have HR : Hid (2 = R) := by show _ = _; rw [← HR0.out]; simp [compareV, h4']
          go_wp2_with fail
          go_ret
          exact ⟨congrArg (fun z => Ending.returned (.int .i64 z)) HR.out, XD⟩
        · rw [show decide (k' = 4) = false by simpa using h4']
          have D1 := (((B1.later e1).later e2).later e3).later e4
          have D2 := (((B2.later e1).later e2).later e3).later e4
          have T4 := hT.later XD
          have E4 := hE.later XD
          clear B1 B2 e1 e2 e3 e4 XA XB XC X
          obtain ⟨v1, z1⟩ := beside_eq hg k'
          obtain ⟨v2, z2⟩ := beside_eq hg' k
          have q4 := bk_four k' h4
          have l1 := bt_len k k' hl
          have l2 := bt_len k' k hl'
          have HR1 : Hid (cmpR (bk k k') n d x (bt k t k') (bk k' k) n' d' x' (bt k' t' k) = R) := by show _ = _; rw [← HR0.out]; simp [compareV, hg, hg', h4, h4']
          rw [← or_cmpR z1 z2 q4] at HR1
          obtain ⟨p, hpp⟩ : ∃ p, bk k k' = p := ⟨_, rfl⟩
          obtain ⟨u, huu⟩ : ∃ u, bt k t k' = u := ⟨_, rfl⟩
          obtain ⟨p', hpp'⟩ : ∃ p', bk k' k = p' := ⟨_, rfl⟩
          obtain ⟨u', huu'⟩ : ∃ u', bt k' t' k = u' := ⟨_, rfl⟩
          rw [hpp, huu] at v1 HR1
          rw [huu] at l1
          rw [hpp', huu'] at v2 HR1
          rw [huu'] at l2
          clear hpp huu hpp' huu' z1 z2 q4 h4 h4' HR0
          go_upto_region 3 with fail
          refine wp_region_letters (fun lx : Nat → Value => { tmps := #[valV k n d x t, valV k' n' d' x' t', Value.pointer (some ⟨w.heap.size, 0, none⟩), Value.pointer (some ⟨w.heap.size + 1, 0, none⟩), Value.int .i64 0, valV k n d x t, Value.bool true, Value.bool false, Value.bool false, valV k' n' d' x' t', Value.bool true, Value.bool false, Value.bool false, Value.bool false, valV k n d x t, Value.bool false, Value.bool false, Value.bool false, valV k' n' d' x' t', Value.bool false, Value.bool false, lx 21, lx 22, lx 23, lx 24, lx 25, lx 26, undef, undef, undef, undef, undef, undef, undef, undef, undef, undef, undef, undef, undef, undef, undef, undef, undef, undef, undef], defers := [] }) (fun L lx lw => Hid (Ext w lw ∧ (L 6 = false → Vec lw (w.heap.size) (valL k n d x t)) ∧ (L 6 = true → Vec lw (w.heap.size) (valL p n d x u)) ∧ (L 7 = false → Vec lw (w.heap.size + 1) (valL k' n' d' x' t')) ∧ (L 7 = true → Vec lw (w.heap.size + 1) (valL p' n' d' x' u')) ∧ (L 0 = true → lx 21 = valV k n d x t) ∧ (L 1 = true → lx 22 = valV k' n' d' x' t') ∧ (L 2 = true → lx 23 = valV p n d x u) ∧ (L 3 = true → lx 24 = valV k' n' d' x' t') ∧ (L 4 = true → lx 25 = valV k n d x t) ∧ (L 5 = true → lx 26 = valV p' n' d' x' u') ∧ (L 6 = true → L 0 = true ∧ L 4 = true) ∧ (L 7 = true → L 1 = true ∧ L 3 = true) ∧ (L 5 = true → L 3 = true ∧ L 4 = true))) rfl (by kernel_rfl) (fun _ => undef) rfl ?_ ?_ ?_
          · exact ⟨xd XD, fun _ => D1.later (xd (xr _)), (fun h => by cases h), fun _ => D2.later (xd (xr _)), (fun h => by cases h), (fun h => by cases h), (fun h => by cases h), (fun h => by cases h), (fun h => by cases h), (fun h => by cases h), (fun h => by cases h), (fun h => by cases h), (fun h => by cases h), (fun h => by cases h)⟩
          · intro L lx wl i o K hK ho hL haf hI
            obtain ⟨X, f1, f2, f3, f4, f5, f6, f7, f8, f9, f10, f11, f12, f13⟩ := hI.out
            match i, ho, hL, haf, hK with
            | 0, ho, hL, haf, hK =>
              simp only [List.getElem?_toArray, List.getElem?_cons_zero, Option.some.injEq] at ho
              subst ho
              (try dsimp only)
              have h6 : L 6 = false := by
                cases hh : L 6 with
                | false => rfl
                | true => have := (f11 hh).1; rw [hL] at this; cases this
              have bx := f1 h6
              obtain ⟨a0, a1, a2, a3, a4⟩ := Vec.five bx
              go_wp2_with fail
              exact hK (fun jj => if jj = 21 then valV k n d x t else lx jj) _ ⟨X, f1, f2, f3, f4, (fun _ => rfl), f6, f7, f8, f9, f10, (fun h => ⟨rfl, (f11 h).2⟩), f12, f13⟩
            | 1, ho, hL, haf, hK =>
              simp only [List.getElem?_toArray, List.getElem?_cons_zero, List.getElem?_cons_succ, Option.some.injEq] at ho
              subst ho
              (try dsimp only)
              have h6 : L 7 = false := by
                cases hh : L 7 with
                | false => rfl
                | true => have := (f12 hh).1; rw [hL] at this; cases this
              have bx := f3 h6
              obtain ⟨a0, a1, a2, a3, a4⟩ := Vec.five bx
              go_wp2_with fail
              exact hK (fun jj => if jj = 22 then valV k' n' d' x' t' else lx jj) _ ⟨X, f1, f2, f3, f4, f5, (fun _ => rfl), f7, f8, f9, f10, f11, (fun h => ⟨rfl, (f12 h).2⟩), f13⟩
            | 2, ho, hL, haf, hK =>
              simp only [List.getElem?_toArray, List.getElem?_cons_zero, List.getElem?_cons_succ, Option.some.injEq] at ho
              subst ho
              (try dsimp only)
              rw [f5 (haf ⟨0, .data⟩ (by simp) rfl), f6 (haf ⟨1, .data⟩ (by simp) rfl)]
              go_wp2_with fail
              refine (besideI k n d x t k' n' d' x' t' wl (hT.later X) (hE.later X) hg).mono ?_
              rintro rr w' ⟨rfl, E⟩
              rw [v1]
              go_wp2_with fail
              exact hK (fun jj => if jj = 23 then valV p n d x u else if jj = 21 then valV k n d x t else if jj = 22 then valV k' n' d' x' t' else lx jj) _ ⟨xt X E, (fun h => (f1 h).later E), (fun h => (f2 h).later E), (fun h => (f3 h).later E), (fun h => (f4 h).later E), (fun _ => rfl), (fun _ => rfl), (fun _ => rfl), f8, f9, f10, f11, f12, f13⟩
            | 3, ho, hL, haf, hK =>
              simp only [List.getElem?_toArray, List.getElem?_cons_zero, List.getElem?_cons_succ, Option.some.injEq] at ho
              subst ho
              (try dsimp only)
              have h6 : L 7 = false := by
                cases hh : L 7 with
                | false => rfl
                | true => have := (f12 hh).2; rw [hL] at this; cases this
              have bx := f3 h6
              obtain ⟨a0, a1, a2, a3, a4⟩ := Vec.five bx
              go_wp2_with fail
              exact hK (fun jj => if jj = 24 then valV k' n' d' x' t' else lx jj) _ ⟨X, f1, f2, f3, f4, f5, f6, f7, (fun _ => rfl), f9, f10, f11, (fun h => ⟨(f12 h).1, rfl⟩), (fun h => ⟨rfl, (f13 h).2⟩)⟩
            | 4, ho, hL, haf, hK =>
              simp only [List.getElem?_toArray, List.getElem?_cons_zero, List.getElem?_cons_succ, Option.some.injEq] at ho
              subst ho
              (try dsimp only)
              have h6 : L 6 = false := by
                cases hh : L 6 with
                | false => rfl
                | true => have := (f11 hh).2; rw [hL] at this; cases this
              have bx := f1 h6
              obtain ⟨a0, a1, a2, a3, a4⟩ := Vec.five bx
              go_wp2_with fail
              exact hK (fun jj => if jj = 25 then valV k n d x t else lx jj) _ ⟨X, f1, f2, f3, f4, f5, f6, f7, f8, (fun _ => rfl), f10, (fun h => ⟨(f11 h).1, rfl⟩), f12, (fun h => ⟨(f13 h).1, rfl⟩)⟩
            | 5, ho, hL, haf, hK =>
              simp only [List.getElem?_toArray, List.getElem?_cons_zero, List.getElem?_cons_succ, Option.some.injEq] at ho
              subst ho
              (try dsimp only)
              rw [f8 (haf ⟨3, .data⟩ (by simp) rfl), f9 (haf ⟨4, .data⟩ (by simp) rfl)]
              go_wp2_with fail
              refine (besideI k' n' d' x' t' k n d x t wl (hT.later X) (hE.later X) hg').mono ?_
              rintro rr w' ⟨rfl, E⟩
              rw [v2]
              go_wp2_with fail
              exact hK (fun jj => if jj = 26 then valV p' n' d' x' u' else if jj = 24 then valV k' n' d' x' t' else if jj = 25 then valV k n d x t else lx jj) _ ⟨xt X E, (fun h => (f1 h).later E), (fun h => (f2 h).later E), (fun h => (f3 h).later E), (fun h => (f4 h).later E), f5, f6, f7, (fun _ => rfl), (fun _ => rfl), (fun _ => rfl), f11, f12, (fun _ => ⟨haf ⟨3, .data⟩ (by simp) rfl, haf ⟨4, .data⟩ (by simp) rfl⟩)⟩
            | 6, ho, hL, haf, hK =>
              simp only [List.getElem?_toArray, List.getElem?_cons_zero, List.getElem?_cons_succ, Option.some.injEq] at ho
              subst ho
              (try dsimp only)
              have hd : L 2 = true := haf ⟨2, .data⟩ (by simp) rfl
              have h5 : Hid (L 5 = true) := haf ⟨5, .chain⟩ (by simp) rfl
              have h0 : Hid (L 0 = true) := haf ⟨0, .phase⟩ (by simp) rfl
              rw [f7 hd]
              clear hd
              have bx := f1 hL
              obtain ⟨a0, a1, a2, a3, a4⟩ := Vec.five bx
              have fa0 := (bx 0 _ rfl).2
              have fa1 := (bx 1 _ rfl).2
              have fa2 := (bx 2 _ rfl).2
              have fa3 := (bx 3 _ rfl).2
              have fa4 := (bx 4 _ rfl).2
              have hX := Ext.setL (b := w.heap.size) (by omega) [.int .i64 p, .bool n, .int .i64 d, .int .i64 x, sV u] 0 X
              have hB := bx.put5 (.int .i64 p) (.bool n) (.int .i64 d) (.int .i64 x) (sV u)
              go_wp2_with fail
              exact hK (fun jj => if jj = 23 then valV p n d x u else lx jj) _ ⟨hX, ((fun h => by cases h)), (fun _ => hB), (fun h => Vec.farL (k := w.heap.size) (by omega) [.int .i64 p, .bool n, .int .i64 d, .int .i64 x, sV u] 0 (f3 h)), (fun h => Vec.farL (k := w.heap.size) (by omega) [.int .i64 p, .bool n, .int .i64 d, .int .i64 x, sV u] 0 (f4 h)), f5, f6, (fun _ => rfl), f8, f9, f10, (fun _ => ⟨h0.out, (f13 h5.out).2⟩), f12, f13⟩
            | 7, ho, hL, haf, hK =>
              simp only [List.getElem?_toArray, List.getElem?_cons_zero, List.getElem?_cons_succ, Option.some.injEq] at ho
              subst ho
              (try dsimp only)
              have hd : L 5 = true := haf ⟨5, .data⟩ (by simp) rfl
              have h5 : Hid (L 5 = true) := hd
              have h0 : Hid (L 1 = true) := haf ⟨1, .phase⟩ (by simp) rfl
              rw [f10 hd]
              clear hd
              have bx := f3 hL
              obtain ⟨a0, a1, a2, a3, a4⟩ := Vec.five bx
              have fa0 := (bx 0 _ rfl).2
              have fa1 := (bx 1 _ rfl).2
              have fa2 := (bx 2 _ rfl).2
              have fa3 := (bx 3 _ rfl).2
              have fa4 := (bx 4 _ rfl).2
              have hX := Ext.setL (b := w.heap.size + 1) (by omega) [.int .i64 p', .bool n', .int .i64 d', .int .i64 x', sV u'] 0 X
              have hB := bx.put5 (.int .i64 p') (.bool n') (.int .i64 d') (.int .i64 x') (sV u')
              go_wp2_with fail
              exact hK (fun jj => if jj = 26 then valV p' n' d' x' u' else lx jj) _ ⟨hX, (fun h => Vec.farL (k := w.heap.size + 1) (by omega) [.int .i64 p', .bool n', .int .i64 d', .int .i64 x', sV u'] 0 (f1 h)), (fun h => Vec.farL (k := w.heap.size + 1) (by omega) [.int .i64 p', .bool n', .int .i64 d', .int .i64 x', sV u'] 0 (f2 h)), ((fun h => by cases h)), (fun _ => hB), f5, f6, f7, f8, f9, (fun _ => rfl), f11, (fun _ => ⟨h0.out, (f13 h5.out).1⟩), f13⟩
            | k + 8, ho, _, _, _ => simp at ho
          · intro L lx wr hall hI
            obtain ⟨X, f1, f2, f3, f4, f5, f6, f7, f8, f9, f10, f11, f12, f13⟩ := hI.out
            have Bx := f2 (hall 6 (by simp))
            have By := f4 (hall 7 (by simp))
            clear hI hall f1 f2 f3 f4 f5 f6 f7 f8 f9 f10 f11 f12 f13 D1 D2
            obtain ⟨u21, hu21⟩ : ∃ y, lx 21 = y := ⟨_, rfl⟩
            obtain ⟨u22, hu22⟩ : ∃ y, lx 22 = y := ⟨_, rfl⟩
            obtain ⟨u23, hu23⟩ : ∃ y, lx 23 = y := ⟨_, rfl⟩
            obtain ⟨u24, hu24⟩ : ∃ y, lx 24 = y := ⟨_, rfl⟩
            obtain ⟨u25, hu25⟩ : ∃ y, lx 25 = y := ⟨_, rfl⟩
            obtain ⟨u26, hu26⟩ : ∃ y, lx 26 = y := ⟨_, rfl⟩
            (try dsimp only)
            rw [hu21, hu22, hu23, hu24, hu25, hu26]
            clear hu21 hu22 hu23 hu24 hu25 hu26
            have XW := X
            clear X
            obtain ⟨z0, hz0⟩ : ∃ z, cmpI p p' = z := ⟨_, rfl⟩
            obtain ⟨z1, hz1⟩ : ∃ z, cmpDec n d x n' d' x' = z := ⟨_, rfl⟩
            obtain ⟨ux, hux⟩ : ∃ z, u.map upC = z := ⟨_, rfl⟩
            obtain ⟨uy, huy⟩ : ∃ z, u'.map upC = z := ⟨_, rfl⟩
            obtain ⟨z2, hz2⟩ : ∃ z, Lib.compareBytes ux uy = z := ⟨_, rfl⟩
            have CI : Hid (∀ W, Calls Tryz.prog 53 #[.int .i64 p, .int .i64 p'] W fun e w' => e = .returned (.int .i64 z0) ∧ Ext W w') := fun W => by rw [← hz0]; exact (compare_int p p' W).mono fun e w' h => ⟨h.1, by rw [h.2]; exact xr _⟩
            have CD : Hid (∀ W, Ext wr W → Calls Tryz.prog 77 #[decV n d x, decV n' d' x'] W fun e w' => e = .returned (.int .i64 z1) ∧ Ext W w') := fun W hx => by rw [← hz1]; exact cmpImpl n n' d x d' x' W d1 d2 d1' d2' (hT.later (xt XW hx))
            have CU : Hid (∀ W, Calls Tryz.prog 57 #[sV u] W fun e w' => e = .returned (sV ux) ∧ Ext W w') := fun W => by rw [← hux]; exact capsI u W l1
            have CV : Hid (∀ W, Calls Tryz.prog 57 #[sV u'] W fun e w' => e = .returned (sV uy) ∧ Ext W w') := fun W => by rw [← huy]; exact capsI u' W l2
            have CS : Hid (∀ W, Calls Tryz.prog 78 #[sV ux, sV uy] W fun e w' => e = .returned (.int .i64 z2) ∧ Ext W w') := fun W => by rw [← hz2]; exact (strCmpI ux uy W).mono fun e w' h => ⟨h.1, by rw [h.2]; exact xr _⟩
            have HR : Hid (orR [z0, z1, z2] = R) := by show _ = _; rw [← HR1.out, hz0, hz1, hux, huy, hz2]
            clear hz0 hz1 hux huy hz2 HR1 v1 v2 hT hE hg hg' l1 l2 hl hl' d1 d2 d1' d2' T4 E4 XD
            go_upto_region 4 with fail
            refine wp_region_letters (fun lx : Nat → Value => { tmps := #[valV k n d x t, valV k' n' d' x' t', Value.pointer (some ⟨w.heap.size, 0, none⟩), Value.pointer (some ⟨w.heap.size + 1, 0, none⟩), lx 4, valV k n d x t, Value.bool true, Value.bool false, Value.bool false, valV k' n' d' x' t', Value.bool true, Value.bool false, Value.bool false, Value.bool false, valV k n d x t, Value.bool false, Value.bool false, Value.bool false, valV k' n' d' x' t', Value.bool false, Value.bool false, u21, u22, u23, u24, u25, u26, lx 27, lx 28, lx 29, lx 30, lx 31, lx 32, lx 33, lx 34, lx 35, lx 36, lx 37, lx 38, lx 39, lx 40, lx 41, lx 42, lx 43, lx 44, lx 45], defers := [] }) (fun L lx lw => Hid (Ext wr lw ∧ (L 17 = true → ∃ g, lx 44 = .slice (some ⟨g, 0, none⟩) 3 3 ∧ Vec lw g [.int .i64 z0, .int .i64 z1, .int .i64 z2]) ∧ (L 0 = true → lx 27 = Value.pointer (some ⟨w.heap.size, 0, none⟩)) ∧ (L 1 = true → lx 28 = Value.int .i64 p) ∧ (L 2 = true → lx 29 = Value.pointer (some ⟨w.heap.size + 1, 0, none⟩)) ∧ (L 3 = true → lx 30 = Value.int .i64 p') ∧ (L 4 = true → lx 31 = Value.int .i64 z0) ∧ (L 5 = true → lx 32 = Value.pointer (some ⟨w.heap.size, 1, none⟩)) ∧ (L 6 = true → lx 33 = decV n d x) ∧ (L 7 = true → lx 34 = Value.pointer (some ⟨w.heap.size + 1, 1, none⟩)) ∧ (L 8 = true → lx 35 = decV n' d' x') ∧ (L 9 = true → lx 36 = Value.int .i64 z1) ∧ (L 10 = true → lx 37 = Value.pointer (some ⟨w.heap.size, 4, none⟩)) ∧ (L 11 = true → lx 38 = sV u) ∧ (L 12 = true → lx 39 = sV ux) ∧ (L 13 = true → lx 40 = Value.pointer (some ⟨w.heap.size + 1, 4, none⟩)) ∧ (L 14 = true → lx 41 = sV u') ∧ (L 15 = true → lx 42 = sV uy) ∧ (L 16 = true → lx 43 = Value.int .i64 z2) ∧ (L 18 = true → lx 45 = Value.int .i64 (orR [z0, z1, z2])) ∧ (L 19 = true → lx 4 = Value.int .i64 (orR [z0, z1, z2])))) rfl (by kernel_rfl) (fun jj => if jj = 4 then Value.int .i64 0 else if jj = 27 then undef else if jj = 28 then undef else if jj = 29 then undef else if jj = 30 then undef else if jj = 31 then undef else if jj = 32 then undef else if jj = 33 then undef else if jj = 34 then undef else if jj = 35 then undef else if jj = 36 then undef else if jj = 37 then undef else if jj = 38 then undef else if jj = 39 then undef else if jj = 40 then undef else if jj = 41 then undef else if jj = 42 then undef else if jj = 43 then undef else if jj = 44 then undef else if jj = 45 then undef else undef) rfl ?_ ?_ ?_
            · refine ⟨xd (xr _), ?_, ?_, ?_, ?_, ?_, ?_, ?_, ?_, ?_, ?_, ?_, ?_, ?_, ?_, ?_, ?_, ?_, ?_, ?_, ?_⟩ <;> (intro h; cases h)
            · intro L lx wl i o K hK ho hL haf hI
              obtain ⟨X, f0, f1, f2, f3, f4, f5, f6, f7, f8, f9, f10, f11, f12, f13, f14, f15, f16, f17, f18, f19⟩ := hI.out
              have Bx' := Bx.later X
              have By' := By.later X
              match i, ho, hL, haf, hK with
              | 0, ho, hL, haf, hK =>
                simp only [List.getElem?_toArray, List.getElem?_cons_zero, Option.some.injEq] at ho
                subst ho
                (try dsimp only)
                go_wp2_with fail
                exact hK (fun jj => if jj = 27 then Value.pointer (some ⟨w.heap.size, 0, none⟩) else lx jj) _ ⟨X, f0, (fun _ => rfl), f2, f3, f4, f5, f6, f7, f8, f9, f10, f11, f12, f13, f14, f15, f16, f17, f18, f19⟩
              | 1, ho, hL, haf, hK =>
                simp only [List.getElem?_toArray, List.getElem?_cons_zero, List.getElem?_cons_succ, Option.some.injEq] at ho
                subst ho
                (try dsimp only)
                rw [f1 (haf ⟨0, .data⟩ (by simp) rfl)]
                obtain a0 := (Bx' 0 _ rfl).1
                go_wp2_with fail
                exact hK (fun jj => if jj = 28 then Value.int .i64 p else if jj = 27 then Value.pointer (some ⟨w.heap.size, 0, none⟩) else lx jj) _ ⟨X, f0, (fun _ => rfl), (fun _ => rfl), f3, f4, f5, f6, f7, f8, f9, f10, f11, f12, f13, f14, f15, f16, f17, f18, f19⟩
              | 2, ho, hL, haf, hK =>
                simp only [List.getElem?_toArray, List.getElem?_cons_zero, List.getElem?_cons_succ, Option.some.injEq] at ho
                subst ho
                (try dsimp only)
                go_wp2_with fail
                exact hK (fun jj => if jj = 29 then Value.pointer (some ⟨w.heap.size + 1, 0, none⟩) else lx jj) _ ⟨X, f0, f1, f2, (fun _ => rfl), f4, f5, f6, f7, f8, f9, f10, f11, f12, f13, f14, f15, f16, f17, f18, f19⟩
              | 3, ho, hL, haf, hK =>
                simp only [List.getElem?_toArray, List.getElem?_cons_zero, List.getElem?_cons_succ, Option.some.injEq] at ho
                subst ho
                (try dsimp only)
                rw [f3 (haf ⟨2, .data⟩ (by simp) rfl)]
                obtain a0 := (By' 0 _ rfl).1
                go_wp2_with fail
                exact hK (fun jj => if jj = 30 then Value.int .i64 p' else if jj = 29 then Value.pointer (some ⟨w.heap.size + 1, 0, none⟩) else lx jj) _ ⟨X, f0, f1, f2, (fun _ => rfl), (fun _ => rfl), f5, f6, f7, f8, f9, f10, f11, f12, f13, f14, f15, f16, f17, f18, f19⟩
              | 4, ho, hL, haf, hK =>
                simp only [List.getElem?_toArray, List.getElem?_cons_zero, List.getElem?_cons_succ, Option.some.injEq] at ho
                subst ho
                (try dsimp only)
                rw [f2 (haf ⟨1, .data⟩ (by simp) rfl), f4 (haf ⟨3, .data⟩ (by simp) rfl)]
                go_wp2_with fail
                refine (CI.out _).mono ?_
                rintro rr w' ⟨rfl, E⟩
                go_wp2_with fail
                exact hK (fun jj => if jj = 31 then Value.int .i64 z0 else if jj = 28 then Value.int .i64 p else if jj = 30 then Value.int .i64 p' else lx jj) _ ⟨xt X E, (fun h => by obtain ⟨g, h1, h2⟩ := f0 h; exact ⟨g, h1, h2.later E⟩), f1, (fun _ => rfl), f3, (fun _ => rfl), (fun _ => rfl), f6, f7, f8, f9, f10, f11, f12, f13, f14, f15, f16, f17, f18, f19⟩
              | 5, ho, hL, haf, hK =>
                simp only [List.getElem?_toArray, List.getElem?_cons_zero, List.getElem?_cons_succ, Option.some.injEq] at ho
                subst ho
                (try dsimp only)
                go_wp2_with fail
                exact hK (fun jj => if jj = 32 then Value.pointer (some ⟨w.heap.size, 1, none⟩) else lx jj) _ ⟨X, f0, f1, f2, f3, f4, f5, (fun _ => rfl), f7, f8, f9, f10, f11, f12, f13, f14, f15, f16, f17, f18, f19⟩
              | 6, ho, hL, haf, hK =>
                simp only [List.getElem?_toArray, List.getElem?_cons_zero, List.getElem?_cons_succ, Option.some.injEq] at ho
                subst ho
                (try dsimp only)
                rw [f6 (haf ⟨5, .data⟩ (by simp) rfl)]
                obtain ⟨a1, a2, a3⟩ := (⟨(Bx' 1 _ rfl).1, (Bx' 2 _ rfl).1, (Bx' 3 _ rfl).1⟩ : _ ∧ _ ∧ _)
                go_wp2_with fail
                exact hK (fun jj => if jj = 33 then decV n d x else if jj = 32 then Value.pointer (some ⟨w.heap.size, 1, none⟩) else lx jj) _ ⟨X, f0, f1, f2, f3, f4, f5, (fun _ => rfl), (fun _ => rfl), f8, f9, f10, f11, f12, f13, f14, f15, f16, f17, f18, f19⟩
              | 7, ho, hL, haf, hK =>
                simp only [List.getElem?_toArray, List.getElem?_cons_zero, List.getElem?_cons_succ, Option.some.injEq] at ho
                subst ho
                (try dsimp only)
                go_wp2_with fail
                exact hK (fun jj => if jj = 34 then Value.pointer (some ⟨w.heap.size + 1, 1, none⟩) else lx jj) _ ⟨X, f0, f1, f2, f3, f4, f5, f6, f7, (fun _ => rfl), f9, f10, f11, f12, f13, f14, f15, f16, f17, f18, f19⟩
              | 8, ho, hL, haf, hK =>
                simp only [List.getElem?_toArray, List.getElem?_cons_zero, List.getElem?_cons_succ, Option.some.injEq] at ho
                subst ho
                (try dsimp only)
                rw [f8 (haf ⟨7, .data⟩ (by simp) rfl)]
                obtain ⟨a1, a2, a3⟩ := (⟨(By' 1 _ rfl).1, (By' 2 _ rfl).1, (By' 3 _ rfl).1⟩ : _ ∧ _ ∧ _)
                go_wp2_with fail
                exact hK (fun jj => if jj = 35 then decV n' d' x' else if jj = 34 then Value.pointer (some ⟨w.heap.size + 1, 1, none⟩) else lx jj) _ ⟨X, f0, f1, f2, f3, f4, f5, f6, f7, (fun _ => rfl), (fun _ => rfl), f10, f11, f12, f13, f14, f15, f16, f17, f18, f19⟩
              | 9, ho, hL, haf, hK =>
                simp only [List.getElem?_toArray, List.getElem?_cons_zero, List.getElem?_cons_succ, Option.some.injEq] at ho
                subst ho
                (try dsimp only)
                rw [f7 (haf ⟨6, .data⟩ (by simp) rfl), f9 (haf ⟨8, .data⟩ (by simp) rfl)]
                go_wp2_with fail
                refine (CD.out _ X).mono ?_
                rintro rr w' ⟨rfl, E⟩
                go_wp2_with fail
                exact hK (fun jj => if jj = 36 then Value.int .i64 z1 else if jj = 33 then decV n d x else if jj = 35 then decV n' d' x' else lx jj) _ ⟨xt X E, (fun h => by obtain ⟨g, h1, h2⟩ := f0 h; exact ⟨g, h1, h2.later E⟩), f1, f2, f3, f4, f5, f6, (fun _ => rfl), f8, (fun _ => rfl), (fun _ => rfl), f11, f12, f13, f14, f15, f16, f17, f18, f19⟩
              | 10, ho, hL, haf, hK =>
                simp only [List.getElem?_toArray, List.getElem?_cons_zero, List.getElem?_cons_succ, Option.some.injEq] at ho
                subst ho
                (try dsimp only)
                go_wp2_with fail
                exact hK (fun jj => if jj = 37 then Value.pointer (some ⟨w.heap.size, 4, none⟩) else lx jj) _ ⟨X, f0, f1, f2, f3, f4, f5, f6, f7, f8, f9, f10, (fun _ => rfl), f12, f13, f14, f15, f16, f17, f18, f19⟩
              | 11, ho, hL, haf, hK =>
                simp only [List.getElem?_toArray, List.getElem?_cons_zero, List.getElem?_cons_succ, Option.some.injEq] at ho
                subst ho
                (try dsimp only)
                rw [f11 (haf ⟨10, .data⟩ (by simp) rfl)]
                obtain a0 := (Bx' 4 _ rfl).1
                go_wp2_with fail
                exact hK (fun jj => if jj = 38 then sV u else if jj = 37 then Value.pointer (some ⟨w.heap.size, 4, none⟩) else lx jj) _ ⟨X, f0, f1, f2, f3, f4, f5, f6, f7, f8, f9, f10, (fun _ => rfl), (fun _ => rfl), f13, f14, f15, f16, f17, f18, f19⟩
              | 12, ho, hL, haf, hK =>
                simp only [List.getElem?_toArray, List.getElem?_cons_zero, List.getElem?_cons_succ, Option.some.injEq] at ho
                subst ho
                (try dsimp only)
                rw [f12 (haf ⟨11, .data⟩ (by simp) rfl)]
                go_wp2_with fail
                refine (CU.out _).mono ?_
                rintro rr w' ⟨rfl, E⟩
                go_wp2_with fail
                exact hK (fun jj => if jj = 39 then sV ux else if jj = 38 then sV u else lx jj) _ ⟨xt X E, (fun h => by obtain ⟨g, h1, h2⟩ := f0 h; exact ⟨g, h1, h2.later E⟩), f1, f2, f3, f4, f5, f6, f7, f8, f9, f10, f11, (fun _ => rfl), (fun _ => rfl), f14, f15, f16, f17, f18, f19⟩
              | 13, ho, hL, haf, hK =>
                simp only [List.getElem?_toArray, List.getElem?_cons_zero, List.getElem?_cons_succ, Option.some.injEq] at ho
                subst ho
                (try dsimp only)
                go_wp2_with fail
                exact hK (fun jj => if jj = 40 then Value.pointer (some ⟨w.heap.size + 1, 4, none⟩) else lx jj) _ ⟨X, f0, f1, f2, f3, f4, f5, f6, f7, f8, f9, f10, f11, f12, f13, (fun _ => rfl), f15, f16, f17, f18, f19⟩
              | 14, ho, hL, haf, hK =>
                simp only [List.getElem?_toArray, List.getElem?_cons_zero, List.getElem?_cons_succ, Option.some.injEq] at ho
                subst ho
                (try dsimp only)
                rw [f14 (haf ⟨13, .data⟩ (by simp) rfl)]
                obtain a0 := (By' 4 _ rfl).1
                go_wp2_with fail
                exact hK (fun jj => if jj = 41 then sV u' else if jj = 40 then Value.pointer (some ⟨w.heap.size + 1, 4, none⟩) else lx jj) _ ⟨X, f0, f1, f2, f3, f4, f5, f6, f7, f8, f9, f10, f11, f12, f13, (fun _ => rfl), (fun _ => rfl), f16, f17, f18, f19⟩
              | 15, ho, hL, haf, hK =>
                simp only [List.getElem?_toArray, List.getElem?_cons_zero, List.getElem?_cons_succ, Option.some.injEq] at ho
                subst ho
                (try dsimp only)
                rw [f15 (haf ⟨14, .data⟩ (by simp) rfl)]
                go_wp2_with fail
                refine (CV.out _).mono ?_
                rintro rr w' ⟨rfl, E⟩
                go_wp2_with fail
                exact hK (fun jj => if jj = 42 then sV uy else if jj = 41 then sV u' else lx jj) _ ⟨xt X E, (fun h => by obtain ⟨g, h1, h2⟩ := f0 h; exact ⟨g, h1, h2.later E⟩), f1, f2, f3, f4, f5, f6, f7, f8, f9, f10, f11, f12, f13, f14, (fun _ => rfl), (fun _ => rfl), f17, f18, f19⟩
              | 16, ho, hL, haf, hK =>
                simp only [List.getElem?_toArray, List.getElem?_cons_zero, List.getElem?_cons_succ, Option.some.injEq] at ho
                subst ho
                (try dsimp only)
                rw [f13 (haf ⟨12, .data⟩ (by simp) rfl), f16 (haf ⟨15, .data⟩ (by simp) rfl)]
                go_wp2_with fail
                refine (CS.out _).mono ?_
                rintro rr w' ⟨rfl, E⟩
                go_wp2_with fail
                exact hK (fun jj => if jj = 43 then Value.int .i64 z2 else if jj = 39 then sV ux else if jj = 42 then sV uy else lx jj) _ ⟨xt X E, (fun h => by obtain ⟨g, h1, h2⟩ := f0 h; exact ⟨g, h1, h2.later E⟩), f1, f2, f3, f4, f5, f6, f7, f8, f9, f10, f11, f12, (fun _ => rfl), f14, f15, (fun _ => rfl), (fun _ => rfl), f18, f19⟩
              | 17, ho, hL, haf, hK =>
                simp only [List.getElem?_toArray, List.getElem?_cons_zero, List.getElem?_cons_succ, Option.some.injEq] at ho
                subst ho
                (try dsimp only)
                rw [f5 (haf ⟨4, .data⟩ (by simp) rfl), f10 (haf ⟨9, .data⟩ (by simp) rfl), f17 (haf ⟨16, .data⟩ (by simp) rfl)]
                go_wp2_with fail
                exact hK (fun jj => if jj = 44 then .slice (some ⟨wl.heap.size, 0, none⟩) 3 3 else if jj = 31 then Value.int .i64 z0 else if jj = 36 then Value.int .i64 z1 else if jj = 43 then Value.int .i64 z2 else lx jj) _ ⟨xa X _, (fun _ => ⟨wl.heap.size, rfl, vec_made wl [.int .i64 z0, .int .i64 z1, .int .i64 z2] _⟩), f1, f2, f3, f4, (fun _ => rfl), f6, f7, f8, f9, (fun _ => rfl), f11, f12, f13, f14, f15, f16, (fun _ => rfl), f18, f19⟩
              | 18, ho, hL, haf, hK =>
                simp only [List.getElem?_toArray, List.getElem?_cons_zero, List.getElem?_cons_succ, Option.some.injEq] at ho
                subst ho
                (try dsimp only)
                obtain ⟨g, e44, V⟩ := f0 (haf ⟨17, .data⟩ (by simp) rfl)
                rw [e44]
                go_wp2_with fail
                refine (orI [z0, z1, z2] g 3 _ (by simp) V).mono ?_
                rintro rr w' ⟨rfl, rfl⟩
                go_wp2_with fail
                exact hK (fun jj => if jj = 45 then Value.int .i64 (orR [z0, z1, z2]) else if jj = 44 then .slice (some ⟨g, 0, none⟩) 3 3 else lx jj) _ ⟨X, (fun _ => ⟨g, rfl, V⟩), f1, f2, f3, f4, f5, f6, f7, f8, f9, f10, f11, f12, f13, f14, f15, f16, f17, (fun _ => rfl), f19⟩
              | 19, ho, hL, haf, hK =>
                simp only [List.getElem?_toArray, List.getElem?_cons_zero, List.getElem?_cons_succ, Option.some.injEq] at ho
                subst ho
                (try dsimp only)
                rw [f18 (haf ⟨18, .data⟩ (by simp) rfl)]
                go_wp2_with fail
                exact hK (fun jj => if jj = 4 then Value.int .i64 (orR [z0, z1, z2]) else if jj = 45 then Value.int .i64 (orR [z0, z1, z2]) else lx jj) _ ⟨X, f0, f1, f2, f3, f4, f5, f6, f7, f8, f9, f10, f11, f12, f13, f14, f15, f16, f17, (fun _ => rfl), (fun _ => rfl)⟩
              | k + 20, ho, _, _, _ => simp at ho
            · intro L lx wl hall hI
              obtain ⟨X, f0, f1, f2, f3, f4, f5, f6, f7, f8, f9, f10, f11, f12, f13, f14, f15, f16, f17, f18, f19⟩ := hI.out
              clear hI
              clear f0
              replace f1 := f1 (hall 0 (by simp))
              replace f2 := f2 (hall 1 (by simp))
              replace f3 := f3 (hall 2 (by simp))
              replace f4 := f4 (hall 3 (by simp))
              replace f5 := f5 (hall 4 (by simp))
              replace f6 := f6 (hall 5 (by simp))
              replace f7 := f7 (hall 6 (by simp))
              replace f8 := f8 (hall 7 (by simp))
              replace f9 := f9 (hall 8 (by simp))
              replace f10 := f10 (hall 9 (by simp))
              replace f11 := f11 (hall 10 (by simp))
              replace f12 := f12 (hall 11 (by simp))
              replace f13 := f13 (hall 12 (by simp))
              replace f14 := f14 (hall 13 (by simp))
              replace f15 := f15 (hall 14 (by simp))
              replace f16 := f16 (hall 15 (by simp))
              replace f17 := f17 (hall 16 (by simp))
              replace f18 := f18 (hall 18 (by simp))
              replace f19 := f19 (hall 19 (by simp))
              (try dsimp only)
              rw [f19]
              clear f1 f2 f3 f4 f5 f6 f7 f8 f9 f10 f11 f12 f13 f14 f15 f16 f17 f18 f19
              go_wp2_with fail
              go_ret
              exact ⟨congrArg (fun z => Ending.returned (.int .i64 z)) HR.out, xt XW X⟩

def sameQ (a b : VT) : Bool := decide (a.k = b.k ∧ a.n = b.n ∧ a.d = b.d ∧ a.x = b.x ∧ a.t = b.t)
def cmpQ (a b : VT) : Int := compareV a.k a.n a.d a.x a.t b.k b.n b.d b.x b.t
/-- Two cells are the same: the same kind, and Compare 0, or the same error. -/
def likeB (a b : VT) : Bool := decide (a.k = b.k) && (if a.k = 4 then sameQ a b else decide (cmpQ a b = 0))
set_option maxHeartbeats 1000000 in
theorem valQ_eql (k : Int) (n : Bool) (d x : Int) (t : List UInt8) (k' : Int) (n' : Bool) (d' x' : Int) (t' : List UInt8) (W : World) :
    (binOp BinOp.eql 50 (valV k n d x t) (valV k' n' d' x' t')).run Tryz.prog W = .ok (.bool (sameQ ⟨k, n, d, x, t⟩ ⟨k', n', d', x', t'⟩)) W := by
  unfold sameQ
  by_cases h : k = k' ∧ n = n' ∧ d = d' ∧ x = x' ∧ t = t'
  · obtain ⟨rfl, rfl, rfl, rfl, rfl⟩ := h
    go_simp
  · rw [decide_eq_false h]
    have H : Hid (¬ (k = k' ∧ n = n' ∧ d = d' ∧ x = x' ∧ t = t')) := h
    clear h
    go_simp
    intros
    have := H.out
    simp_all
set_option maxRecDepth 8000 in
set_option maxHeartbeats 2000000 in
theorem likeI (a b : VT) (w : World) (ha : a.room) (hb : b.room) (hT : Tens w) (hE : ErrTab w) :
    Calls Tryz.prog 17 #[a.val, b.val] w fun e w' => e = .returned (.bool (likeB a b)) ∧ Ext w w' := by
  obtain ⟨k, n, d, x, t⟩ := a
  obtain ⟨k', n', d', x', t'⟩ := b
  obtain ⟨u0, u1, h0, h1, s0, s1, B0, B1, X⟩ := mkB2 w (valL k n d x t) (valL k' n' d' x' t') 50 50
  have CC : Hid (∀ W, Ext w W → Calls Tryz.prog 45 #[valV k n d x t, valV k' n' d' x' t'] W fun e w' => e = .returned (.int .i64 (cmpQ ⟨k, n, d, x, t⟩ ⟨k', n', d', x', t'⟩)) ∧ Ext W w') := fun W hW => compareI k n d x t k' n' d' x' t' W ha.1 hb.1 ha.2.1 ha.2.2 hb.2.1 hb.2.2 (hT.later hW) (hE.later hW)
  have HC4 : Hid (k = 4 → cmpQ ⟨k, n, d, x, t⟩ ⟨k', n', d', x', t'⟩ = 2) := fun h => by subst h; unfold cmpQ compareV; rw [if_neg (fun q => q.2.2.1 rfl)]
  have EQ := fun W => valQ_eql k n d x t k' n' d' x' t' W
  obtain ⟨S, hS⟩ : ∃ S, sameQ ⟨k, n, d, x, t⟩ ⟨k', n', d', x', t'⟩ = S := ⟨_, rfl⟩
  obtain ⟨R, hR⟩ : ∃ R, cmpQ ⟨k, n, d, x, t⟩ ⟨k', n', d', x', t'⟩ = R := ⟨_, rfl⟩
  rw [hS] at EQ
  rw [hR] at CC HC4
  have HL : Hid (likeB ⟨k, n, d, x, t⟩ ⟨k', n', d', x', t'⟩ = (decide (k = k') && (if k = 4 then S else decide (R = 0)))) := by
    show _ = _
    unfold likeB
    rw [hS, hR]
  obtain ⟨Q, hQ⟩ : ∃ Q, likeB ⟨k, n, d, x, t⟩ ⟨k', n', d', x', t'⟩ = Q := ⟨_, rfl⟩
  rw [hQ] at HL ⊢
  clear hS hR hQ hT hE ha hb
  obtain ⟨a0, a1, a2, a3, a4⟩ := Vec.five B0
  obtain ⟨b0, b1, b2, b3, b4⟩ := Vec.five B1
  by_cases hk : k = k'
  · subst hk
    by_cases hR : R = 0
    · subst hR
      have h4 : k ≠ 4 := fun h => by have := HC4.out h; omega
      have HF : Hid (true = Q) := by show _ = _; rw [HL.out, if_neg h4]; simp
      have C0 := CC.out u1 X
      go_enter Tryz.func17, Tryz.ntmps17
      go_wp2_with (go_at_call 45; refine C0.mono ?_; rintro e w1 ⟨rfl, e1⟩)
      go_ret
      exact ⟨ret_bool HF.out, xt X e1⟩
    · have C0 := CC.out u1 X
      have hRb : (R == 0) = false := by simpa using hR
      by_cases h4 : k = 4
      · have HF : Hid (S = Q) := by show _ = _; rw [HL.out, if_pos h4]; simp
        subst h4
        have CE := fun W => isErrI 4 n d x t W
        go_enter Tryz.func17, Tryz.ntmps17
        go_wp2_with (first
          | (go_at_call 45; refine C0.mono ?_; rintro e w1 ⟨rfl, e1⟩; obtain ⟨a0, a1, a2, a3, a4⟩ := Vec.five (B0.later e1); obtain ⟨b0, b1, b2, b3, b4⟩ := Vec.five (B1.later e1))
          | (go_at_call 46; refine (CE w1).mono ?_; rintro e w2 ⟨rfl, e2⟩; obtain ⟨a0, a1, a2, a3, a4⟩ := Vec.five (B0.later (xt e1 e2)); obtain ⟨b0, b1, b2, b3, b4⟩ := Vec.five (B1.later (xt e1 e2))))
        go_ret
        exact ⟨ret_bool HF.out, xt X (xt e1 e2)⟩
      · have HF : Hid (false = Q) := by show _ = _; rw [HL.out, if_neg h4]; simp [hR]
        have h4b : decide (k = 4) = false := decide_eq_false h4
        have h4c : (k == 4) = false := by simpa using h4
        have CE := fun W => isErrI k n d x t W
        go_enter Tryz.func17, Tryz.ntmps17
        go_wp2_with (first
          | (go_at_call 45; refine C0.mono ?_; rintro e w1 ⟨rfl, e1⟩; obtain ⟨a0, a1, a2, a3, a4⟩ := Vec.five (B0.later e1); obtain ⟨b0, b1, b2, b3, b4⟩ := Vec.five (B1.later e1))
          | (go_at_call 46; refine (CE w1).mono ?_; rintro e w2 ⟨rfl, e2⟩))
        go_ret
        exact ⟨ret_bool HF.out, xt X (xt e1 e2)⟩
  · have hkb : (k == k') = false := by simpa using hk
    have HF : Hid (false = Q) := by show _ = _; rw [HL.out, decide_eq_false hk]; rfl
    go_enter Tryz.func17, Tryz.ntmps17
    go_wp2_with fail
    go_ret
    exact ⟨ret_bool HF.out, X⟩

end Go.Proofs.YtbomplppgobkdaaGreatDoor

