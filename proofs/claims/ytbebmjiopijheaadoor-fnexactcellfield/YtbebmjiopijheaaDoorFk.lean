/-
  Chapter 4: errors and operators among their kind.
-/
import Derived.Test.YtbebmjiopijheaaDoorFe
namespace Go.Proofs.YtbebmjiopijheaaDoor
open Go.RowKit

/-- Whether a text stands in a list. -/
def memB (L : List (List UInt8)) (l : List UInt8) : Bool := L.any fun t => t == l
theorem memB_yes {L : List (List UInt8)} {l t : List UInt8} {k : Nat} (h : L[k]? = some t) (e : (t == l) = true) : memB L l = true := by
  unfold memB
  rw [List.any_eq_true]
  exact ⟨t, List.mem_of_getElem? h, e⟩
theorem memB_no {L : List (List UInt8)} {l : List UInt8} (h : ∀ (j : Nat) (t : List UInt8), L[j]? = some t → (t == l) = false) : memB L l = false := by
  unfold memB
  rw [List.any_eq_false]
  intro t ht
  obtain ⟨j, hj⟩ := List.getElem?_of_mem ht
  rw [h j t hj]
  decide
def errL : List (List UInt8) := [[35, 78, 85, 76, 76, 33], [35, 68, 73, 86, 47, 48, 33], [35, 86, 65, 76, 85, 69, 33], [35, 82, 69, 70, 33], [35, 78, 65, 77, 69, 63], [35, 78, 85, 77, 33], [35, 78, 47, 65], [35, 83, 80, 73, 76, 76, 33], [35, 67, 89, 67, 76, 69, 33]]
def opsL : List (List UInt8) := [[94], [42], [47], [43], [45], [38], [61], [60], [62], [60, 61], [62, 61], [60, 62]]

set_option maxRecDepth 8000 in
set_option maxHeartbeats 1000000 in
theorem inS (L : List (List UInt8)) (l : List UInt8) (g cap : Nat) (w : World) (hL : L.length ≤ 100) (V : Vec w g (L.map sV)) :
    Calls Tryd.prog 18 #[.slice (some ⟨g, 0, none⟩) L.length cap, sV l] w fun e w' => e = .returned (.bool (memB L l)) ∧ w' = w := by
  obtain ⟨n, hn⟩ : ∃ n, L.length = n := ⟨_, rfl⟩
  have HN : Hid (L.length = n) := hn
  have HV : Hid (Vec w g (L.map sV)) := V
  have HY : Hid (∀ t (k : Nat), L[k]? = some t → (t == l) = true → memB L l = true) := fun t k h e => memB_yes h e
  have HX : Hid ((∀ (j : Nat) t, L[j]? = some t → (t == l) = false) → memB L l = false) := fun h => memB_no h
  obtain ⟨R, hR⟩ : ∃ R, memB L l = R := ⟨_, rfl⟩
  rw [hR] at HY HX ⊢
  rw [hn] at hL ⊢
  clear hn V hR
  go_enter Tryd.func18, Tryd.ntmps18
  go_wp2_with fail
  go_loop [9] (fun i => ∃ k : Nat, k ≤ n ∧ i = .int .i64 k ∧ Hid (∀ (j : Nat) t, j < k → L[j]? = some t → (t == l) = false)) (fun i => n - (intOf i).toNat)
  case atStart => exact ⟨0, by omega, rfl, fun j t hj => by omega⟩
  case round =>
    obtain ⟨k, hk, rfl, HA⟩ := hrel
    by_cases hlt : k < n
    · obtain ⟨t, ht⟩ : ∃ t, L[k]? = some t := ⟨_, List.getElem?_eq_getElem (by rw [HN.out]; exact hlt)⟩
      have a0 := (HV.out k (sV t) (by rw [List.getElem?_map, ht]; rfl)).1
      have i2 : (k : Int) < (n : Int) := by omega
      obtain ⟨p, hp⟩ : ∃ p, (t == l) = p := ⟨_, rfl⟩
      cases p
      · have HA2 : Hid (∀ (j : Nat) t, j < k + 1 → L[j]? = some t → (t == l) = false) := fun j t' hj h => by
          rcases Nat.lt_or_ge j k with hjk | hjk
          · exact HA.out j t' hjk h
          · obtain rfl : j = k := by omega
            rw [ht] at h
            cases h
            exact hp
        clear HA ht
        go_wp2_with fail
        go_round
        case rel => exact ⟨k + 1, by omega, by go_num, HA2⟩
        case measure => simp [intOf]; omega
      · have hr := HY.out t k ht hp
        subst hr
        clear HA ht
        go_wp2_with fail
        go_ret
        exact ⟨rfl, rfl⟩
    · obtain rfl : k = n := by omega
      have hr := HX.out (fun j t h => HA.out j t (by have := (List.getElem?_eq_some_iff.1 h).1; rw [HN.out] at this; exact this) h)
      subst hr
      clear HA
      go_wp2_with fail
      go_ret
      exact ⟨rfl, rfl⟩

set_option maxRecDepth 8000 in
set_option maxHeartbeats 1000000 in
theorem errorsS (w : World) : Calls Tryd.prog 19 #[] w fun e w' => ∃ g, e = .returned (.slice (some ⟨g, 0, none⟩) 9 9) ∧ Vec w' g (errL.map sV) ∧ Ext w w' := by
  go_enter Tryd.func19, Tryd.ntmps19
  go_wp2_with fail
  go_ret
  exact ⟨_, rfl, vec_made w (errL.map sV) 9, x1 _ _⟩

/-- The errors as they are laid. -/
def ErrTab (w : World) : Prop := ∀ i t, errL[i]? = some t → w.cell? ⟨1, i, none⟩ = some (sV t)
theorem ErrTab.later {w w' : World} (h : ErrTab w) (e : Ext w w') : ErrTab w' := fun i t ht => cell_later e (h i t ht)
abbrev errV : Value := .agg #[sV [35, 78, 85, 76, 76, 33], sV [35, 68, 73, 86, 47, 48, 33], sV [35, 86, 65, 76, 85, 69, 33], sV [35, 82, 69, 70, 33], sV [35, 78, 65, 77, 69, 63], sV [35, 78, 85, 77, 33], sV [35, 78, 47, 65], sV [35, 83, 80, 73, 76, 76, 33], sV [35, 67, 89, 67, 76, 69, 33]]
theorem err_at0 (W : World) : (Instr.index 66 errV (.int .i64 0)).run Tryd.prog W = .ok (sV [35, 78, 85, 76, 76, 33]) W := by kernel_rfl
theorem err_at1 (W : World) : (Instr.index 66 errV (.int .i64 1)).run Tryd.prog W = .ok (sV [35, 68, 73, 86, 47, 48, 33]) W := by kernel_rfl
theorem err_at2 (W : World) : (Instr.index 66 errV (.int .i64 2)).run Tryd.prog W = .ok (sV [35, 86, 65, 76, 85, 69, 33]) W := by kernel_rfl
theorem err_at3 (W : World) : (Instr.index 66 errV (.int .i64 3)).run Tryd.prog W = .ok (sV [35, 82, 69, 70, 33]) W := by kernel_rfl
theorem err_at4 (W : World) : (Instr.index 66 errV (.int .i64 4)).run Tryd.prog W = .ok (sV [35, 78, 65, 77, 69, 63]) W := by kernel_rfl
theorem err_at5 (W : World) : (Instr.index 66 errV (.int .i64 5)).run Tryd.prog W = .ok (sV [35, 78, 85, 77, 33]) W := by kernel_rfl
theorem err_at6 (W : World) : (Instr.index 66 errV (.int .i64 6)).run Tryd.prog W = .ok (sV [35, 78, 47, 65]) W := by kernel_rfl
theorem err_at7 (W : World) : (Instr.index 66 errV (.int .i64 7)).run Tryd.prog W = .ok (sV [35, 83, 80, 73, 76, 76, 33]) W := by kernel_rfl
theorem err_at8 (W : World) : (Instr.index 66 errV (.int .i64 8)).run Tryd.prog W = .ok (sV [35, 67, 89, 67, 76, 69, 33]) W := by kernel_rfl
theorem err_at (k : Nat) (hk : k < 9) : ∃ t, errL[k]? = some t ∧ ∀ W : World, (Instr.index 66 errV (.int .i64 k)).run Tryd.prog W = .ok (sV t) W := by
  match k, hk with
  | 0, _ => exact ⟨_, rfl, err_at0⟩
  | 1, _ => exact ⟨_, rfl, err_at1⟩
  | 2, _ => exact ⟨_, rfl, err_at2⟩
  | 3, _ => exact ⟨_, rfl, err_at3⟩
  | 4, _ => exact ⟨_, rfl, err_at4⟩
  | 5, _ => exact ⟨_, rfl, err_at5⟩
  | 6, _ => exact ⟨_, rfl, err_at6⟩
  | 7, _ => exact ⟨_, rfl, err_at7⟩
  | 8, _ => exact ⟨_, rfl, err_at8⟩
set_option maxRecDepth 8000 in
set_option maxHeartbeats 1000000 in
theorem errI (l : List UInt8) (w : World) (hE : ErrTab w) : Calls Tryd.prog 26 #[sV l] w fun e w' => e = .returned (.bool (memB errL l)) ∧ w' = w := by
  have e0 := hE 0 _ rfl
  have e1 := hE 1 _ rfl
  have e2 := hE 2 _ rfl
  have e3 := hE 3 _ rfl
  have e4 := hE 4 _ rfl
  have e5 := hE 5 _ rfl
  have e6 := hE 6 _ rfl
  have e7 := hE 7 _ rfl
  have e8 := hE 8 _ rfl
  have HY : Hid (∀ t (k : Nat), errL[k]? = some t → (t == l) = true → memB errL l = true) := fun t k h e => memB_yes h e
  have HX : Hid ((∀ (j : Nat) t, errL[j]? = some t → (t == l) = false) → memB errL l = false) := fun h => memB_no h
  obtain ⟨R, hR⟩ : ∃ R, memB errL l = R := ⟨_, rfl⟩
  rw [hR] at HY HX ⊢
  clear hR hE
  go_enter Tryd.func26, Tryd.ntmps26
  go_wp2_with fail
  clear e0 e1 e2 e3 e4 e5 e6 e7 e8
  go_loop [6] (fun i => ∃ k : Nat, k ≤ 9 ∧ i = .int .i64 k ∧ Hid (∀ (j : Nat) t, j < k → errL[j]? = some t → (t == l) = false)) (fun i => 9 - (intOf i).toNat)
  case atStart => exact ⟨0, by omega, rfl, fun j t hj => by omega⟩
  case round =>
    obtain ⟨k, hk, rfl, HA⟩ := hrel
    by_cases hlt : k < 9
    · obtain ⟨t, ht, hix⟩ := err_at k hlt
      have i2 : (k : Int) < 9 := by omega
      obtain ⟨p, hp⟩ : ∃ p, (t == l) = p := ⟨_, rfl⟩
      cases p
      · have HA2 : Hid (∀ (j : Nat) t, j < k + 1 → errL[j]? = some t → (t == l) = false) := fun j t' hj h => by
          rcases Nat.lt_or_ge j k with hjk | hjk
          · exact HA.out j t' hjk h
          · obtain rfl : j = k := by omega
            rw [ht] at h
            cases h
            exact hp
        clear HA ht
        go_wp2_with fail
        go_round
        case rel => exact ⟨k + 1, by omega, by go_num, HA2⟩
        case measure => simp [intOf]; omega
      · have hr := HY.out t k ht hp
        subst hr
        clear HA ht
        go_wp2_with fail
        go_ret
        exact ⟨rfl, rfl⟩
    · obtain rfl : k = 9 := by omega
      have hr := HX.out (fun j t h => HA.out j t (by have := (List.getElem?_eq_some_iff.1 h).1; simpa [errL] using this) h)
      subst hr
      clear HA
      go_wp2_with fail
      go_ret
      exact ⟨rfl, rfl⟩

end Go.Proofs.YtbebmjiopijheaaDoor

