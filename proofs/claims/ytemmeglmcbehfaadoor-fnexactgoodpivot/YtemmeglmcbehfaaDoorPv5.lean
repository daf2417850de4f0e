/-
  Chapter 12: two rows of whole numbers put together by the library; a number sought in a row.
-/
import Derived.Test.YtemmeglmcbehfaaDoorPv3
import Derived.Lib.AppendZerosOnto
import Derived.Lib.SliceRun
import Derived.Lib.Walk
namespace Go.Proofs.YtemmeglmcbehfaaDoor
open Go.RowKit

set_option maxRecDepth 8000 in
set_option maxHeartbeats 2000000 in
theorem growZ (n : Nat) (w : World) (h1 : 1 ≤ n) (hn : n ≤ 2000000) :
    Calls Tryd.prog 36 #[.slice none 0 0, .int .i64 n] w fun e w' => ∃ v, e = .returned v ∧ OwnZ w' w.heap.size v [] ∧ Ext w w' := by
  obtain ⟨inf, hi, hz, hsz, hby⟩ := infoZ
  have hold : (Builtin.firstCells inf.size 0 (.slice none 0 0)).run Tryd.prog w.drew = .ok ([] : List Value).toArray w.drew := run_firstCells_none w.drew inf.size 0 0 0
  have hrz : ∀ ty, (Builtin.append_ #[25, 3] ty #[.slice none 0 0, .int .i64 (n : Int)]).run Tryd.prog w =
      .ok (.slice (some ⟨w.heap.size, 0, none⟩) n (grownCap w n 0 3)) (w.drew.alloc (.cells (([] : List Value).toArray ++ Builtin.zeroCells (Value.int .i64 0).cells n ++ Builtin.zeroCells (Value.int .i64 0).cells (grownCap w n 0 3 - n)) 3)) := fun ty => by
    have h := Lib.run_append_grow_zeros w 25 3 ty 3 inf (.int .i64 0) .i64 .i64 Tryd.underlying25 Tryd.underlying3 hi hz none 0 0 [] hold n (by omega) (by omega) (by omega) (by omega) (by rw [hby]; omega) (growslice_fits (by omega) (by rw [hby]; omega))
    rw [Nat.zero_add] at h
    exact h
  obtain ⟨G, hG⟩ : ∃ G, grownCap w n 0 3 = G := ⟨_, rfl⟩
  have hGn : n ≤ G := by rw [← hG]; exact grownCap_ge w _ _ _
  have hGm : G ≤ maxLen := by rw [← hG]; exact grownCap_le_maxLen w n 0 3 (by unfold maxLen; omega)
  have hG63 : G ≤ 9223372036854775807 := by unfold maxLen at hGm; omega
  rw [hG] at hrz
  have n0 : ¬ ((n : Int) < 0) := by omega
  have n1 : (n : Int) > 0 := by omega
  have HO : Hid (OwnZ (w.drew.alloc (.cells (([] : List Value).toArray ++ Builtin.zeroCells (Value.int .i64 0).cells n ++ Builtin.zeroCells (Value.int .i64 0).cells (G - n)) 3)) w.heap.size (.slice (some ⟨w.heap.size, 0, none⟩) 0 G) []) := by
    refine ⟨rfl, .inr ⟨w.heap.size, G, _, rfl, Nat.le_refl _, heap_alloc_new w.drew _, by simp, hGm, ?_, by simp⟩⟩
    rw [Array.size_append, Array.size_append, size_zeroCells, size_zeroCells]
    show 0 + n * 1 + (G - n) * 1 = G * 1
    omega
  have HX : Hid (Ext w (w.drew.alloc (.cells (([] : List Value).toArray ++ Builtin.zeroCells (Value.int .i64 0).cells n ++ Builtin.zeroCells (Value.int .i64 0).cells (G - n)) 3))) := xa (xd (xr _)) _
  obtain ⟨wz, hwz⟩ : ∃ wz, w.drew.alloc (.cells (([] : List Value).toArray ++ Builtin.zeroCells (Value.int .i64 0).cells n ++ Builtin.zeroCells (Value.int .i64 0).cells (G - n)) 3) = wz := ⟨_, rfl⟩
  rw [hwz] at HO HX
  simp only [hwz] at hrz
  clear hold hG hi hz hsz hby hwz
  go_enter Tryd.func36, Tryd.ntmps36
  go_wp2_with (at_builtin; refine Lib.wpList_append_run _ rfl _ _ _ _ rfl _ _ rfl rfl _ _ (hrz _) ?_)
  all_goals (go_ret; exact ⟨_, rfl, HO.out, HX.out⟩)
set_option maxRecDepth 8000 in
set_option maxHeartbeats 2000000 in
theorem concatZ (g : Nat) (rv cv : Value) (rl cl : List Int) (w : World) (V : Vec w g [rv, cv]) (hr : IntsIn w rv rl) (hc : IntsIn w cv cl) (h1 : 1 ≤ rl.length) (h2 : rl.length ≤ 1000) (h3 : cl.length ≤ 1000) :
    Calls Tryd.prog 25 #[.slice (some ⟨g, 0, none⟩) 2 2] w fun e w' => ∃ v, e = .returned v ∧ IntsIn w' v (rl ++ cl) ∧ Ext w w' := by
  obtain ⟨n1, hn1⟩ : ∃ n, rl.length = n := ⟨_, rfl⟩
  obtain ⟨n2, hn2⟩ : ∃ n, cl.length = n := ⟨_, rfl⟩
  have HN1 : Hid (rl.length = n1) := hn1
  have HN2 : Hid (cl.length = n2) := hn2
  obtain ⟨pr, kr, er, hkr, -⟩ := id hr
  obtain ⟨pc, kc, ec, hkc, -⟩ := id hc
  rw [hn1] at er hkr h1 h2
  rw [hn2] at ec hkc h3
  subst er ec
  have HRI : Hid (IntsIn w (.slice pr n1 kr) rl) := hr
  have HCI : Hid (IntsIn w (.slice pc n2 kc) cl) := hc
  obtain ⟨a0, a1⟩ : w.cell? ⟨g, 0, none⟩ = some (.slice pr n1 kr) ∧ w.cell? ⟨g, 1, none⟩ = some (.slice pc n2 kc) := ⟨(V 0 _ rfl).1, (V 1 _ rfl).1⟩
  obtain ⟨m, hm⟩ : ∃ m, n1 + n2 = m := ⟨_, rfl⟩
  have e2 : (n1 : Int) + (n2 : Int) = (m : Int) := by omega
  have m1 : 1 ≤ m := by omega
  have m2 : m ≤ 2000000 := by omega
  have GR : Hid (∀ W, Calls Tryd.prog 36 #[.slice none 0 0, .int .i64 (m : Int)] W fun e w' => ∃ v, e = .returned v ∧ OwnZ w' W.heap.size v [] ∧ Ext W w') := fun W => growZ m W m1 m2
  clear hr hc hn1 hn2 hm
  go_enter Tryd.func25, Tryd.ntmps25
  go_wp2_with fail
  go_loopw [3, 11] (fun s i wr => Hid (Ext w wr) ∧ ((i = .int .i64 0 ∧ s = .int .i64 0) ∨ (i = .int .i64 1 ∧ s = .int .i64 (n1 : Int)) ∨ (i = .int .i64 2 ∧ s = .int .i64 ((n1 + n2 : Nat) : Int)))) (fun _ i _ => 2 - (intOf i).toNat)
  case atStart => exact ⟨xr _, Or.inl ⟨rfl, rfl⟩⟩
  case round =>
    obtain ⟨HX, hrel⟩ := hrel
    have a0 := cell_later HX.out a0
    have a1 := cell_later HX.out a1
    obtain ⟨rfl, rfl⟩ | ⟨rfl, rfl⟩ | ⟨rfl, rfl⟩ := hrel
    · have d0 : ¬ ((n1 : Int) < 0) := by omega
      go_wp2_with fail
      go_roundw
      case rel => exact ⟨HX, Or.inr (Or.inl ⟨by go_num, by first | rfl | go_num⟩)⟩
      case measure => simp [intOf]
    · have d0 : ¬ ((m : Int) < 0) := by omega
      go_wp2_with fail
      go_roundw
      case rel => exact ⟨HX, Or.inr (Or.inr ⟨by go_num, by first | rfl | go_num⟩)⟩
      case measure => simp [intOf]
    · clear a0 a1
      go_wp2_with fail
      refine (GR.out wr).mono ?_
      rintro e w1 ⟨v1, rfl, O1, e1⟩
      have HO1 : Hid (OwnZ w1 wr.heap.size v1 []) := O1
      have hsz : wr.heap.size ≤ w1.heap.size := e1.size
      have hsw : w.heap.size ≤ wr.heap.size := HX.out.size
      obtain ⟨ws, hws⟩ : ∃ ws, wr = ws := ⟨_, rfl⟩
      have XW : Hid (Ext w w1) := xt HX.out e1
      rw [hws] at HO1 hsz hsw
      clear O1 GR hws
      go_wp2_with fail
      go_loopw [6, 27] (fun s i wq => Hid (Ext w wq ∧ ws.heap.size ≤ wq.heap.size) ∧ ((i = .int .i64 0 ∧ Hid (OwnZ wq ws.heap.size s [])) ∨ (i = .int .i64 1 ∧ Hid (OwnZ wq ws.heap.size s rl)) ∨ (i = .int .i64 2 ∧ Hid (OwnZ wq ws.heap.size s (rl ++ cl))))) (fun _ i _ => 2 - (intOf i).toNat)
      case atStart => exact ⟨⟨XW.out, hsz⟩, Or.inl ⟨rfl, HO1⟩⟩
      case round =>
        obtain ⟨HE, hrel⟩ := hrel
        have a0 := cell_later HE.out.1 a0
        have a1 := cell_later HE.out.1 a1
        obtain ⟨rfl, HO⟩ | ⟨rfl, HO⟩ | ⟨rfl, HO⟩ := hrel
        · have hb : Hid (∀ r, u6.ownBlock = some r → ws.heap.size ≤ r) := ownZ_block HO.out
          go_wp2_with (at_builtin; refine wpList_app_ints _ rfl (.tmp 31) (.tmp 32) rfl ws.heap.size u6 (.slice pr n1 kr) [] rl rfl HO.out rfl (HRI.out.later HE.out.1) (by have := HN1.out; simp; omega) HE.out.2 (fun v' w' O G => ?_))
          have HM : Hid (Ext w w' ∧ ws.heap.size ≤ w'.heap.size) := ⟨ext_grownZ HE.out.1 G (fun k hk => by have := hb.out k hk; omega), Nat.le_trans HE.out.2 G.size⟩
          go_roundw
          case rel => exact ⟨HM, Or.inr (Or.inl ⟨by go_num, O⟩)⟩
          case measure => simp [intOf]
        · have hb : Hid (∀ r, u6.ownBlock = some r → ws.heap.size ≤ r) := ownZ_block HO.out
          go_wp2_with (at_builtin; refine wpList_app_ints _ rfl (.tmp 31) (.tmp 32) rfl ws.heap.size u6 (.slice pc n2 kc) rl cl rfl HO.out rfl (HCI.out.later HE.out.1) (by have := HN1.out; have := HN2.out; omega) HE.out.2 (fun v' w' O G => ?_))
          have HM : Hid (Ext w w' ∧ ws.heap.size ≤ w'.heap.size) := ⟨ext_grownZ HE.out.1 G (fun k hk => by have := hb.out k hk; omega), Nat.le_trans HE.out.2 G.size⟩
          go_roundw
          case rel => exact ⟨HM, Or.inr (Or.inr ⟨by go_num, O⟩)⟩
          case measure => simp [intOf]
        · go_wp2_with fail
          go_ret
          exact ⟨_, rfl, ownZ_ints HO.out, HE.out.1⟩
/-- Whether a number is in a row. -/
theorem indexZ (v : Value) (l : List Int) (x : Int) (w : World) (h : IntsIn w v l) (hl : l.length ≤ 2000) :
    Calls Tryd.prog 49 #[v, .int .i64 x] w fun e w' => ((e = .returned (.int .i64 (-1)) ∧ l.contains x = false) ∨ ∃ m : Nat, e = .returned (.int .i64 m) ∧ l.contains x = true ∧ m < 2000) ∧ Ext w w' := by
  obtain ⟨p, cap, rfl, hcap, hi⟩ := h
  obtain ⟨n, hn⟩ : ∃ n, l.length = n := ⟨_, rfl⟩
  have HN : Hid (l.length = n) := hn
  rw [hn] at hcap hl hi ⊢
  have HI : Hid (0 < n → ∃ b o, p = some ⟨b, o, none⟩ ∧ ∀ i, i < n → w.cell? ⟨b, o + i, none⟩ = some (.int .i64 (l.getD i 0))) := hi
  clear hn hi
  go_enter Tryd.func49, Tryd.ntmps49
  go_wp2_with fail
  go_loopw [8] (fun i wr => ∃ k : Nat, k ≤ n ∧ i = .int .i64 k ∧ Hid (Ext w wr ∧ ∀ j, j < k → l.getD j 0 ≠ x)) (fun i _ => n - (intOf i).toNat)
  case atStart => exact ⟨0, by omega, rfl, xr _, fun j hj => absurd hj (by omega)⟩
  case round =>
    obtain ⟨k, hk, rfl, HO⟩ := hrel
    by_cases hlt : k < n
    · have i2 : (k : Int) < (n : Int) := by omega
      obtain ⟨b, o, rfl, hc⟩ := HI.out (by omega)
      have c1 := cell_later HO.out.1 (hc k hlt)
      obtain ⟨y, hy⟩ : ∃ y, l.getD k 0 = y := ⟨_, rfl⟩
      have HY : Hid (l.getD k 0 = y) := hy
      rw [hy] at c1
      clear hy hc
      by_cases hxy : x = y
      · subst hxy
        have HT : Hid (l.contains x = true) := by
          show _ = _
          rw [List.contains_iff_mem]
          refine List.mem_of_getElem? (i := k) ?_
          rw [List.getElem?_eq_getElem (by rw [HN.out]; exact hlt)]
          have := HY.out
          simp [show k < l.length by rw [HN.out]; exact hlt] at this
          rw [this]
        have HF : Hid (Ext w wr) := HO.out.1
        go_wp2_with fail
        go_ret
        exact ⟨Or.inr ⟨k, rfl, HT.out, by omega⟩, HF.out⟩
      · have HM : Hid (Ext w wr ∧ ∀ j, j < k + 1 → l.getD j 0 ≠ x) := ⟨HO.out.1, fun j hj => by
          by_cases e : j = k
          · subst e; rw [HY.out]; exact fun e => hxy e.symm
          · exact HO.out.2 j (by omega)⟩
        go_wp2_with fail
        go_roundw
        case rel => exact ⟨k + 1, by omega, by go_num, HM⟩
        case measure => simp [intOf]; omega
    · obtain rfl : k = n := by omega
      have HT : Hid (l.contains x = false) := by
        show _ = _
        cases hb : l.contains x with
        | false => rfl
        | true =>
          rw [List.contains_iff_mem] at hb
          obtain ⟨j, hj, he⟩ := List.getElem_of_mem hb
          exact absurd (by rw [← he]; simp [hj]) (HO.out.2 j (by rw [← HN.out]; exact hj))
      have HF : Hid (Ext w wr) := HO.out.1
      go_wp2_with fail
      go_ret
      exact ⟨Or.inl ⟨rfl, HT.out⟩, HF.out⟩
theorem containsZ (v : Value) (l : List Int) (x : Int) (w : World) (h : IntsIn w v l) (hl : l.length ≤ 2000) :
    Calls Tryd.prog 35 #[v, .int .i64 x] w fun e w' => e = .returned (.bool (l.contains x)) ∧ Ext w w' := by
  have C0 := indexZ v l x w h hl
  obtain ⟨pk, nk, rfl, _, _⟩ := h
  obtain ⟨R, hR⟩ : ∃ R, l.contains x = R := ⟨_, rfl⟩
  rw [hR] at C0 ⊢
  obtain ⟨n, hn⟩ : ∃ n, l.length = n := ⟨_, rfl⟩
  rw [hn] at C0 hl ⊢
  clear hR hn
  go_enter Tryd.func35, Tryd.ntmps35
  go_wp2_with fail
  refine C0.mono ?_
  rintro e w1 ⟨⟨rfl, rfl⟩ | ⟨m, rfl, rfl, hm⟩, e1⟩
  · go_wp2_with fail
    go_ret
    exact ⟨rfl, e1⟩
  · have m0 : (0 : Int) ≤ (m : Int) := by omega
    have m1 : decide ((m : Int) ≥ 0) = true := decide_eq_true m0
    go_wp2_with fail
    go_ret
    exact ⟨rfl, e1⟩

end Go.Proofs.YtemmeglmcbehfaaDoor
