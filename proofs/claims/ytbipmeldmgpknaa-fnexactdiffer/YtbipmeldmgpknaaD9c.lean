/-
  Chapter 9: lists that rise.
-/
import Derived.Test.YtbipmeldmgpknaaD9b
import Derived.Shelf.SlSortCmp.QuietGrown
import Derived.BigQuiet
namespace Go.Proofs.Ytbipmeldmgpknaa
open Go.RowKit Go.Sort

theorem ext_grow (w : World) (n : Nat) (os : Array Obj) : Ext w (grow (w.drewN n) os) :=
  ⟨rfl, rfl, rfl, by simp [grow, World.drewN], fun i hi => by
    show (w.heap ++ os)[i]? = _
    rw [Array.getElem?_append_left hi]⟩
theorem RowS.lt {w : World} {b o : Nat} {l : List ST} (h : RowS w b o l) {k : Nat} (hk : k < l.length) : b < w.heap.size :=
  World.block_lt_of_cell? _ _ (h k _ (List.getElem?_eq_getElem hk) 0 _ rfl)
theorem getD_at {l : List ST} {k : Nat} {e : ST} (h : l[k]? = some e) : l.getD k zeroST = e := by rw [List.getD_eq_getElem?_getD, h]; rfl

set_option maxRecDepth 8000 in
set_option maxHeartbeats 4000000 in
theorem risesI (v : Value) (l : List ST) (w : World) (h : ShownsIn w v l) (hl : l.length ≤ 2000000) :
    Calls Try.prog 15 #[v] w fun e w' => e = .returned (.bool (risB l)) ∧ Ext w w' := by
  obtain ⟨p, cap, rfl, hcap, hrow⟩ := h
  obtain ⟨n, hn⟩ : ∃ n, l.length = n := ⟨_, rfl⟩
  have HN : Hid (l.length = n) := hn
  rw [hn] at hcap hl hrow ⊢
  have HRow : Hid (0 < n → ∃ b o, p = some ⟨b, o, none⟩ ∧ RowS w b o l) := hrow
  obtain ⟨R, hR⟩ : ∃ R, risB l = R := ⟨_, rfl⟩
  have HR : Hid (risB l = R) := hR
  rw [hR]
  clear hn hrow hR
  go_enter Try.func15, Try.ntmps15
  go_wp2_with fail
  go_loopw [3] (fun i wr => ∃ k : Nat, 1 ≤ k ∧ (k ≤ n ∨ k = 1) ∧ i = .int .i64 k ∧ Hid (∀ j, j + 1 < k → (l.getD j zeroST).lt (l.getD (j + 1) zeroST) = true) ∧ Ext w wr) (fun i _ => n - (intOf i).toNat)
  case atStart => exact ⟨1, by omega, by omega, rfl, fun j hj => by omega, xr _⟩
  case round =>
    obtain ⟨k, hk1, hk2, rfl, HK, X⟩ := hrel
    by_cases hlt : k < n
    · obtain ⟨j, hj⟩ : ∃ j, k = j + 1 := ⟨k - 1, by omega⟩
      obtain ⟨e, he⟩ : ∃ e, l[j]? = some e := ⟨_, List.getElem?_eq_getElem (by rw [HN.out]; omega)⟩
      obtain ⟨f, hf⟩ : ∃ f, l[k]? = some f := ⟨_, List.getElem?_eq_getElem (by rw [HN.out]; omega)⟩
      obtain ⟨b, o, rfl, hR⟩ := HRow.out (by omega)
      have hR := hR.later X
      have hb := hR.lt (k := j) (by rw [HN.out]; omega)
      obtain ⟨a0, a1, a2, a3, a4, a5, a6, a7⟩ := hR.all he
      obtain ⟨c0, c1, c2, c3, c4, c5, c6, c7⟩ := hR.all hf
      replace a0 := cell_grown hb a0
      replace a1 := cell_grown hb a1
      replace a2 := cell_grown hb a2
      replace a3 := cell_grown hb a3
      replace a4 := cell_grown hb a4
      replace a5 := cell_grown hb a5
      replace a6 := cell_grown hb a6
      replace a7 := cell_grown hb a7
      replace c0 := cell_grown hb c0
      replace c1 := cell_grown hb c1
      replace c2 := cell_grown hb c2
      replace c3 := cell_grown hb c3
      replace c4 := cell_grown hb c4
      replace c5 := cell_grown hb c5
      replace c6 := cell_grown hb c6
      replace c7 := cell_grown hb c7
      have HE : Hid (l.getD j zeroST = e) := getD_at he
      have HF : Hid (l.getD (j + 1) zeroST = f) := getD_at (by rw [← hj]; exact hf)
      have CC := fun n os => Calls.grown_of ((cmpShownI e f (grow (wr.drewN n) os)).mono (fun _ _ q => ⟨q.1, q.2.grown⟩))
      have HC := cmpP_lt e.r e.c f.r f.c
      generalize cmpP e.r e.c f.r f.c = C at CC HC
      have HC : Hid (decide (C < 0) = e.lt f) := HC
      have i2 : (k : Int) < (n : Int) := by omega
      have i3 : (j : Int) < (n : Int) := by omega
      have hwj : IntKind.i64.wrap ((k : Int) - 1) = (j : Int) := by rw [IntKind.wrap_i64]; omega
      have HJ : Hid (k = j + 1) := hj
      clear hj
      have hmix : Try.prog.follows .mixedOrders = true := by kernel_rfl
      clear hR he hf
      by_cases hC : C < 0
      · have HL : Hid (e.lt f = true) := by show _ = _; rw [← HC.out]; simpa using hC
        go_wp2_with fail
        go_quiet_grown (first | (go_at_call 19; exact CC _ _))
        have E := ext_grow wr nq osq
        generalize grow (wr.drewN nq) osq = wq at E
        clear a0 a1 a2 a3 a4 a5 a6 a7 c0 c1 c2 c3 c4 c5 c6 c7 CC
        go_wp2_with fail
        go_roundw
        case rel =>
          refine ⟨k + 1, by omega, by omega, by go_num, ?_, xt X E⟩
          intro i hi
          have hj := HJ.out
          by_cases hij : i = j
          · subst hij
            rw [HE.out, HF.out]
            exact HL.out
          · exact HK.out i (by omega)
        case measure => simp [intOf]; omega
      · have HL : Hid (R = false) := by
          show _ = _
          rw [← HR.out]
          refine risB_false (j := j) (by have := HJ.out; rw [HN.out]; omega) ?_
          rw [HE.out, HF.out, ← HC.out]
          simpa using hC
        go_wp2_with fail
        go_quiet_grown (first | (go_at_call 19; exact CC _ _))
        have E := ext_grow wr nq osq
        generalize grow (wr.drewN nq) osq = wq at E
        clear a0 a1 a2 a3 a4 a5 a6 a7 c0 c1 c2 c3 c4 c5 c6 c7 CC
        go_wp2_with fail
        go_ret
        exact ⟨ret_bool HL.out.symm, xt X E⟩
    · have HL : Hid (R = true) := by
        show _ = _
        rw [← HR.out]
        exact risB_true fun j hj => HK.out j (by have := HN.out; omega)
      go_wp2_with fail
      go_ret
      exact ⟨ret_bool HL.out.symm, X⟩

set_option maxHeartbeats 1000000 in
theorem aheadS (r c r' c' : Int) (w : World) :
    Calls Try.prog 13 #[.int .i64 r, .int .i64 c, .int .i64 r', .int .i64 c'] w fun e w' => e = .returned (.bool (aheadB r c r' c')) ∧ w' = w := by
  obtain ⟨R, hR⟩ : ∃ R, aheadB r c r' c' = R := ⟨_, rfl⟩
  have HR : Hid (aheadB r c r' c' = R) := hR
  rw [hR]
  clear hR
  by_cases h1 : r < r'
  · have HE : Hid (R = true) := by show _ = _; rw [← HR.out]; simp [aheadB, h1]
    go_enter Try.func13, Try.ntmps13
    go_wp2_with fail
    go_ret
    exact ⟨ret_bool HE.out.symm, rfl⟩
  · by_cases h2 : r = r'
    · by_cases h3 : c < c'
      · have HE : Hid (R = true) := by show _ = _; rw [← HR.out]; simp [aheadB, h2, h3]
        go_enter Try.func13, Try.ntmps13
        go_wp2_with fail
        go_ret
        exact ⟨ret_bool HE.out.symm, rfl⟩
      · have HE : Hid (R = false) := by show _ = _; rw [← HR.out]; simp [aheadB, h2, h3]
        go_enter Try.func13, Try.ntmps13
        go_wp2_with fail
        go_ret
        exact ⟨ret_bool HE.out.symm, rfl⟩
    · have HE : Hid (R = false) := by show _ = _; rw [← HR.out]; simp [aheadB, h1, h2]
      go_enter Try.func13, Try.ntmps13
      go_wp2_with fail
      go_ret
      exact ⟨ret_bool HE.out.symm, rfl⟩

theorem ext_drewN (w : World) (n : Nat) : Ext w (w.drewN n) := ⟨rfl, rfl, rfl, Nat.le_refl _, fun _ _ => rfl⟩
set_option maxRecDepth 8000 in
set_option maxHeartbeats 4000000 in
theorem risesS (v : Value) (l : List ST) (w : World) (h : ShownsIn w v l) (hl : l.length ≤ 2000000) :
    Calls Try.prog 12 #[v] w fun e w' => e = .returned (.bool (risB l)) ∧ Ext w w' := by
  obtain ⟨p, cap, rfl, hcap, hrow⟩ := h
  obtain ⟨n, hn⟩ : ∃ n, l.length = n := ⟨_, rfl⟩
  have HN : Hid (l.length = n) := hn
  rw [hn] at hcap hl hrow ⊢
  have HRow : Hid (0 < n → ∃ b o, p = some ⟨b, o, none⟩ ∧ RowS w b o l) := hrow
  obtain ⟨R, hR⟩ : ∃ R, risB l = R := ⟨_, rfl⟩
  have HR : Hid (risB l = R) := hR
  rw [hR]
  clear hn hrow hR
  go_enter Try.func12, Try.ntmps12
  go_wp2_with fail
  go_loopw [3] (fun i wr => ∃ k : Nat, 1 ≤ k ∧ (k ≤ n ∨ k = 1) ∧ i = .int .i64 k ∧ Hid (∀ j, j + 1 < k → (l.getD j zeroST).lt (l.getD (j + 1) zeroST) = true) ∧ Ext w wr) (fun i _ => n - (intOf i).toNat)
  case atStart => exact ⟨1, by omega, by omega, rfl, fun j hj => by omega, xr _⟩
  case round =>
    obtain ⟨k, hk1, hk2, rfl, HK, X⟩ := hrel
    by_cases hlt : k < n
    · obtain ⟨j, hj⟩ : ∃ j, k = j + 1 := ⟨k - 1, by omega⟩
      obtain ⟨e, he⟩ : ∃ e, l[j]? = some e := ⟨_, List.getElem?_eq_getElem (by rw [HN.out]; omega)⟩
      obtain ⟨f, hf⟩ : ∃ f, l[k]? = some f := ⟨_, List.getElem?_eq_getElem (by rw [HN.out]; omega)⟩
      obtain ⟨b, o, rfl, hR⟩ := HRow.out (by omega)
      have hR := hR.later X
      obtain ⟨a0, a1, _⟩ := hR.all he
      obtain ⟨c0, c1, _⟩ := hR.all hf
      have HE : Hid (l.getD j zeroST = e) := getD_at he
      have HF : Hid (l.getD (j + 1) zeroST = f) := getD_at (by rw [← hj]; exact hf)
      have CC := fun W => aheadS e.r e.c f.r f.c W
      obtain ⟨C, hC'⟩ : ∃ C, aheadB e.r e.c f.r f.c = C := ⟨_, rfl⟩
      have HC : Hid (C = e.lt f) := hC'.symm
      rw [hC'] at CC
      have i2 : (k : Int) < (n : Int) := by omega
      have i3 : (j : Int) < (n : Int) := by omega
      have hwj : IntKind.i64.wrap ((k : Int) - 1) = (j : Int) := by rw [IntKind.wrap_i64]; omega
      have HJ : Hid (k = j + 1) := hj
      clear hj
      clear hR he hf hC'
      cases C with
      | true =>
        go_wp2_with fail
        go_quiet (first | (go_at_call 13; exact (CC _).mono (fun _ _ q => ⟨q.1, ⟨_, q.2⟩⟩)))
        have E := ext_drewN wr nq
        generalize wr.drewN nq = wq at E
        clear a0 a1 c0 c1 CC
        go_wp2_with fail
        go_roundw
        case rel =>
          refine ⟨k + 1, by omega, by omega, by go_num, ?_, xt X E⟩
          intro i hi
          have hj := HJ.out
          by_cases hij : i = j
          · subst hij
            rw [HE.out, HF.out]
            exact HC.out.symm
          · exact HK.out i (by omega)
        case measure => simp [intOf]; omega
      | false =>
        have HL : Hid (R = false) := by
          show _ = _
          rw [← HR.out]
          refine risB_false (j := j) (by have := HJ.out; rw [HN.out]; omega) ?_
          rw [HE.out, HF.out]
          exact HC.out.symm
        go_wp2_with fail
        go_quiet (first | (go_at_call 13; exact (CC _).mono (fun _ _ q => ⟨q.1, ⟨_, q.2⟩⟩)))
        have E := ext_drewN wr nq
        generalize wr.drewN nq = wq at E
        clear a0 a1 c0 c1 CC
        go_wp2_with fail
        go_ret
        exact ⟨ret_bool HL.out.symm, xt X E⟩
    · have HL : Hid (R = true) := by
        show _ = _
        rw [← HR.out]
        exact risB_true fun j hj => HK.out j (by have := HN.out; omega)
      go_wp2_with fail
      go_ret
      exact ⟨ret_bool HL.out.symm, X⟩

end Go.Proofs.Ytbipmeldmgpknaa
