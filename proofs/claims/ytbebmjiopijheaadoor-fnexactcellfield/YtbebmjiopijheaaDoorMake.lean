/-
  l1Make: a sign and limbs become a number.
-/
import Derived.Test.YtbebmjiopijheaaDoorZval
namespace Go.Proofs.YtbebmjiopijheaaDoor
open Go.RowKit

theorem getD_lt {xs : List Int} {i : Nat} (h : i < xs.length) : xs.getD i 0 = xs[i] := by simp [h]

theorem take_zero_top {xs : List Int} {j : Nat} (hj : j < xs.length) (h0 : xs.getD j 0 = 0) : lv (xs.take (j + 1)) = lv (xs.take j) := by
  rw [lv_take_succ xs j hj, h0]; simp

theorem lv_drop (xs : List Int) (i k : Nat) (h : i < k) (hk : k ≤ xs.length) : lv ((xs.take k).drop i) = lv ((xs.take k).drop (i + 1)) * 1000000000 + xs.getD i 0 := by
  have hi : i < (xs.take k).length := by simp; omega
  rw [List.drop_eq_getElem_cons hi]
  have hi' : i < xs.length := by omega
  simp [lv, hi']
  omega
theorem lv_short {xs : List Int} (h : Lim xs) (hn : xs.length ≤ 1) : 0 ≤ lv xs ∧ lv xs < 1000000000 := by
  match xs, h, hn with
  | [], _, _ => simp [lv]
  | [x], h, _ => have := h.head; simp [lv]; omega
theorem lv_two {xs : List Int} (h : Lim xs) (hn : xs.length ≤ 2) : 0 ≤ lv xs ∧ lv xs < 1000000000000000000 := by
  match xs, h, hn with
  | [], _, _ => simp [lv]
  | [x], h, _ => have := h.head; simp [lv]; omega
  | [x, y], h, _ => have := h.head; have := h.tail.head; simp [lv]; omega
theorem ZV.of_sgn (w : World) {neg : Bool} {z : Int} (h1 : 0 ≤ z) (h2 : z < 1000000000000000000) : ZV w (zS (if neg then -z else z)) (sgn neg z) := by
  cases neg
  · exact ZV.small (by simp; omega) (by simp; omega)
  · exact ZV.small (by simp; omega) (by simp; omega)
theorem getD_take {xs : List Int} {k i : Nat} (h : i < k) : (xs.take k).getD i 0 = xs.getD i 0 := by
  simp [List.getD_eq_getElem?_getD, h]

set_option maxHeartbeats 1000000 in
theorem make_some (neg : Bool) (b o cap : Nat) (xs : List Int) (w : World) (hc : xs.length ≤ cap) (hcap : cap ≤ 9223372036854775807) (hx : C32 w b o xs) (hl : Lim xs) :
    Calls Tryd.prog 64 #[.bool neg, .slice (some ⟨b, o, none⟩) xs.length cap] w fun e w' => ∃ v', e = .returned v' ∧ ZV w' v' (sgn neg (lv xs)) ∧ Ext w w' := by
  have HX : Hid (∀ o1 i, i < xs.length → (w.alloc o1).cell? ⟨b, o + i, none⟩ = some (.int .u32 (xs.getD i 0))) := fun o1 i hi => Lib.cell?_alloc_some o1 (hx i hi)
  go_enter Tryd.func64, Tryd.ntmps64
  go_wp2
  go_loop [5] (fun n => ∃ k : Nat, k ≤ xs.length ∧ n = .int .i64 k ∧ lv (xs.take k) = lv xs) (fun n => (intOf n).toNat)
  case atStart => exact ⟨xs.length, Nat.le_refl _, rfl, by simp⟩
  case round =>
    obtain ⟨k, hk, rfl, hv⟩ := hrel
    have HV : Hid (lv (xs.take k) = lv xs) := hv
    clear hv
    by_cases h0 : k = 0
    · subst h0
      have HV' : Hid (sgn neg (lv xs) = 0) := by rw [← HV.out]; cases neg <;> simp [lv, sgn, Hid]
      go_wp2
      go_loop [6, 7] (fun v i => v = .int .i64 0 ∧ i = .int .i64 (-1)) (fun _ _ => 0)
      case atStart => exact ⟨rfl, rfl⟩
      case round =>
        obtain ⟨rfl, rfl⟩ := hrel
        cases neg
        all_goals go_wp2
        all_goals exact bodyPost_ret (v := zS 0) (by simp [results, Tryd.results64, go_sem]) rfl ⟨_, rfl, by rw [HV'.out]; exact ZV.small (by decide) (by decide), x1 _ _⟩
    · obtain ⟨j, rfl⟩ : ∃ j, k = j + 1 := ⟨k - 1, by omega⟩
      have hj : j < xs.length := by omega
      by_cases hz : xs.getD j 0 = 0
      · have hcell := fun o1 => HX.out o1 j hj
        rw [hz] at hcell
        have HN : Hid (lv (xs.take j) = lv xs) := by have := HV.out; rw [take_zero_top hj hz] at this; exact this
        clear h0 hz
        go_wp2
        go_round
        case rel => exact ⟨j, by omega, by go_num, HN.out⟩
        case measure => simp [intOf]
      · have hcell := fun o1 => HX.out o1 j hj
        obtain ⟨x, hxj⟩ : ∃ x, xs.getD j 0 = x := ⟨_, rfl⟩
        rw [hxj] at hcell hz
        have hz' : (x == 0) = false := by rw [beq_eq_false_iff_ne]; exact hz
        have HT : Hid (Top (xs.take (j + 1))) := by
          refine .inr ?_
          have e : (xs.take (j + 1)).length - 1 = j := by simp; omega
          rw [e, getD_take (by omega), hxj]
          exact hz
        clear h0 hxj hz
        by_cases h2 : j + 1 > 2
        · have h2' : (2 : Int) < (j : Int) + 1 := by omega
          go_wp2
          have e : (xs.take (j + 1)).length = j + 1 := by simp; omega
          refine bodyPost_ret (v := zB neg ⟨b, o, none⟩ (j + 1) cap) (by simp [results, Tryd.results64, go_sem]) rfl ⟨_, rfl, .inr ⟨neg, b, o, cap, xs.take (j + 1), by rw [e], by omega, hcap, ?_, hl.take _, by omega, HT.out, by rw [HV.out]⟩, x1 _ _⟩
          intro i hi
          rw [getD_take (by omega)]
          exact Lib.cell?_alloc_some _ (hx i (by omega))
        · have h2' : (j : Int) + 1 ≤ 2 := by omega
          have hl2 := hl.take (j + 1)
          have LB : Hid (0 ≤ lv xs ∧ lv xs < 1000000000000000000) := by have := lv_two hl2 (by simp; omega); rw [HV.out] at this; exact this
          go_wp2
          go_loop [6, 7] (fun v i => ∃ m : Nat, m ≤ j + 1 ∧ i = .int .i64 ((m : Int) - 1) ∧ v = .int .i64 (lv ((xs.take (j + 1)).drop m))) (fun _ i => (intOf i + 1).toNat)
          case atStart => exact ⟨j + 1, Nat.le_refl _, by go_num, by simp [lv]⟩
          case round =>
            obtain ⟨m, hm, rfl, rfl⟩ := hrel
            by_cases hm0 : m = 0
            · subst hm0
              obtain ⟨l1, l2⟩ := LB.out
              have hv0 : lv ((xs.take (j + 1)).drop 0) = lv xs := HV.out
              rw [hv0]
              cases neg
              · go_wp2
                exact bodyPost_ret (v := zS (lv xs)) (by simp [results, Tryd.results64, go_sem]) rfl ⟨_, rfl, ZV.of_sgn (neg := false) _ l1 l2, x1 _ _⟩
              · go_wp2
                exact bodyPost_ret (v := zS (-lv xs)) (by simp [results, Tryd.results64, go_sem]) rfl ⟨_, rfl, ZV.of_sgn (neg := true) _ l1 l2, x1 _ _⟩
            · obtain ⟨i, rfl⟩ : ∃ i, m = i + 1 := ⟨m - 1, by omega⟩
              have hi : i < xs.length := by omega
              have hci := fun o1 => HX.out o1 i hi
              have hlx := hl.getD i
              have HS : Hid (lv ((xs.take (j + 1)).drop i) = lv ((xs.take (j + 1)).drop (i + 1)) * 1000000000 + xs.getD i 0) := lv_drop xs i (j + 1) (by omega) (by omega)
              have hls := lv_short ((hl.take (j + 1)).drop (i + 1)) (by simp; omega)
              obtain ⟨y, hy⟩ : ∃ y, xs.getD i 0 = y := ⟨_, rfl⟩
              obtain ⟨v, hv⟩ : ∃ v, lv ((xs.take (j + 1)).drop (i + 1)) = v := ⟨_, rfl⟩
              rw [hy] at hci hlx HS
              rw [hv] at hls HS
              rw [hv]
              obtain ⟨y1, y2⟩ := hlx
              obtain ⟨v1, v2⟩ := hls
              have e1 : (((i + 1 : Nat) : Int) - 1) = (i : Int) := by omega
              rw [e1]
              clear hy hv e1 hm0 hcell hz' h2'
              go_wp2
              go_round
              case rel => exact ⟨i, by omega, by go_num, by rw [HS.out]⟩
              case measure => simp [intOf]

set_option maxHeartbeats 1000000 in
theorem make_none (neg : Bool) (w : World) :
    Calls Tryd.prog 64 #[.bool neg, .slice none 0 0] w fun e w' => ∃ v', e = .returned v' ∧ ZV w' v' (sgn neg 0) ∧ Ext w w' := by
  have HV' : Hid (sgn neg 0 = 0) := by cases neg <;> simp [sgn, Hid]
  rw [HV'.out]
  go_enter Tryd.func64, Tryd.ntmps64
  go_wp2
  go_loop [5] (fun n => n = .int .i64 0) (fun _ => 0)
  case atStart => rfl
  case round =>
    subst hrel
    go_wp2
    go_loop [6, 7] (fun v i => v = .int .i64 0 ∧ i = .int .i64 (-1)) (fun _ _ => 0)
    case atStart => exact ⟨rfl, rfl⟩
    case round =>
      obtain ⟨rfl, rfl⟩ := hrel
      cases neg
      all_goals go_wp2
      all_goals exact bodyPost_ret (v := zS 0) (by simp [results, Tryd.results64, go_sem]) rfl ⟨_, rfl, ZV.small (by decide) (by decide), x1 _ _⟩

theorem make_any (neg : Bool) {v : Value} {xs : List Int} (w : World) (h : Row w v xs) (hl : Lim xs) :
    Calls Tryd.prog 64 #[.bool neg, v] w fun e w' => ∃ v', e = .returned v' ∧ ZV w' v' (sgn neg (lv xs)) ∧ Ext w w' := by
  obtain ⟨p, cap, rfl, h1, h2, h3⟩ := h
  rcases h3 with ⟨rfl, rfl⟩ | ⟨b, o, rfl, h3⟩
  · obtain rfl : xs = [] := List.eq_nil_of_length_eq_zero (by omega)
    exact make_none neg w
  · exact make_some neg b o cap xs w h1 h2 h3 hl

end Go.Proofs.YtbebmjiopijheaaDoor

