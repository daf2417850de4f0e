/-
  Rows of areas, marked and held against their marks.
-/
import Derived.Test.YthdjlhhedkfibaaDoorWr
namespace Go.Proofs.YthdjlhhedkfibaaDoor
open Go.RowKit

/-- The marks of one area, from a number on. -/
def markC (m : Int) : List Value :=
  [.int .i64 m, .int .i64 (m + 1), .bool ((m + 1 + 1) % 3 == 0), .bool ((m + 1 + 1 + 1) % 3 == 0), .int .i64 (m + 1 + 1 + 1 + 1), .int .i64 (m + 1 + 1 + 1 + 1 + 1), .bool ((m + 1 + 1 + 1 + 1 + 1 + 1) % 3 == 0), .bool ((m + 1 + 1 + 1 + 1 + 1 + 1 + 1) % 3 == 0)]
def Marked (M : List Value) (n : Nat) : Prop := ∀ i, i < n → ∀ j, j < 8 → M[i * 8 + j]? = (markC ((1 + i * 8 : Nat) : Int))[j]?
def put8L (M : List Value) (o : Nat) (u0 u1 u2 u3 u4 u5 u6 u7 : Value) : List Value :=
  (((((((M.set o u0).set (o + 1) u1).set (o + 2) u2).set (o + 3) u3).set (o + 4) u4).set (o + 4 + 1) u5).set (o + 4 + 2) u6).set (o + 4 + 3) u7
theorem put8L_length (M : List Value) (o : Nat) (u0 u1 u2 u3 u4 u5 u6 u7 : Value) : (put8L M o u0 u1 u2 u3 u4 u5 u6 u7).length = M.length := by simp [put8L]
theorem put8L_far (M : List Value) (o : Nat) (u0 u1 u2 u3 u4 u5 u6 u7 : Value) {i : Nat} (h : i < o) : (put8L M o u0 u1 u2 u3 u4 u5 u6 u7)[i]? = M[i]? := by
  unfold put8L
  rw [List.getElem?_set_ne (by omega), List.getElem?_set_ne (by omega), List.getElem?_set_ne (by omega), List.getElem?_set_ne (by omega), List.getElem?_set_ne (by omega), List.getElem?_set_ne (by omega), List.getElem?_set_ne (by omega), List.getElem?_set_ne (by omega)]
theorem put8L_at (M : List Value) (o : Nat) (u0 u1 u2 u3 u4 u5 u6 u7 : Value) (hM : o + 8 ≤ M.length) (j : Nat) (hj : j < 8) : (put8L M o u0 u1 u2 u3 u4 u5 u6 u7)[o + j]? = [u0, u1, u2, u3, u4, u5, u6, u7][j]? := by
  unfold put8L
  match j, hj with
  | 0, _ => rw [List.getElem?_set_ne (by omega), List.getElem?_set_ne (by omega), List.getElem?_set_ne (by omega), List.getElem?_set_ne (by omega), List.getElem?_set_ne (by omega), List.getElem?_set_ne (by omega), List.getElem?_set_ne (by omega)]; exact List.getElem?_set_self (by omega)
  | 1, _ => rw [List.getElem?_set_ne (by omega), List.getElem?_set_ne (by omega), List.getElem?_set_ne (by omega), List.getElem?_set_ne (by omega), List.getElem?_set_ne (by omega), List.getElem?_set_ne (by omega)]; exact List.getElem?_set_self (by simp; omega)
  | 2, _ => rw [List.getElem?_set_ne (by omega), List.getElem?_set_ne (by omega), List.getElem?_set_ne (by omega), List.getElem?_set_ne (by omega), List.getElem?_set_ne (by omega)]; exact List.getElem?_set_self (by simp; omega)
  | 3, _ => rw [List.getElem?_set_ne (by omega), List.getElem?_set_ne (by omega), List.getElem?_set_ne (by omega), List.getElem?_set_ne (by omega)]; exact List.getElem?_set_self (by simp; omega)
  | 4, _ => rw [List.getElem?_set_ne (by omega), List.getElem?_set_ne (by omega), List.getElem?_set_ne (by omega)]; exact List.getElem?_set_self (by simp; omega)
  | 5, _ => rw [List.getElem?_set_ne (by omega), List.getElem?_set_ne (by omega)]; exact List.getElem?_set_self (by simp; omega)
  | 6, _ => rw [List.getElem?_set_ne (by omega)]; exact List.getElem?_set_self (by simp; omega)
  | 7, _ => exact List.getElem?_set_self (by simp; omega)
theorem Marked.next {M : List Value} {k n : Nat} (h : Marked M k) (hM : M.length = n * 8) (hk : k < n) (m : Int) (hm : ((1 + k * 8 : Nat) : Int) = m) :
    Marked (put8L M (k * 8) (.int .i64 m) (.int .i64 (m + 1)) (.bool ((m + 1 + 1) % 3 == 0)) (.bool ((m + 1 + 1 + 1) % 3 == 0)) (.int .i64 (m + 1 + 1 + 1 + 1)) (.int .i64 (m + 1 + 1 + 1 + 1 + 1)) (.bool ((m + 1 + 1 + 1 + 1 + 1 + 1) % 3 == 0)) (.bool ((m + 1 + 1 + 1 + 1 + 1 + 1 + 1) % 3 == 0))) (k + 1) := by
  intro i hi j hj
  by_cases e : i = k
  · subst e
    rw [put8L_at _ _ _ _ _ _ _ _ _ _ (by omega) j hj, hm]
    rfl
  · rw [put8L_far _ _ _ _ _ _ _ _ _ _ (by omega)]
    exact h i (by omega) j hj

set_option maxRecDepth 8000 in
set_option maxHeartbeats 2000000 in
theorem markAreas (base : Nat) (v : Value) (n : Nat) (L : List Value) (w : World) (h : AreasAt w base v n L) :
    Calls Tryd.prog 17 #[v, .int .i64 1] w fun e w' => e = .returned (.int .i64 ((1 + n * 8 : Nat) : Int)) ∧ (∃ M, AreasAt w' base v n M ∧ Marked M n) ∧ Below base w w' := by
  obtain ⟨hL, hn, p, cap, rfl, hp⟩ := h
  have H1 : Hid (L.length = n * 8) := hL
  have H2 : Hid (0 < n → ∃ g, p = some ⟨g, 0, none⟩ ∧ base ≤ g ∧ g < w.heap.size ∧ Vec w g L) := hp
  clear hL hp
  go_enter Tryd.func17, Tryd.ntmps17
  go_wp2_with fail
  go_loopw [1, 5] (fun q i wr => ∃ k : Nat, k ≤ n ∧ i = .int .i64 k ∧ q = .int .i64 ((1 + k * 8 : Nat) : Int) ∧ Hid (0 < n → ∃ (g : Nat) (M : List Value), p = some ⟨g, 0, none⟩ ∧ base ≤ g ∧ g < wr.heap.size ∧ M.length = n * 8 ∧ Marked M k ∧ Vec wr g M) ∧ Below base w wr) (fun _ i _ => n - (intOf i).toNat)
  case atStart => exact ⟨0, by omega, rfl, rfl, fun h0 => by obtain ⟨g, hg, hb, hs, V⟩ := H2.out h0; exact ⟨g, L, hg, hb, hs, H1.out, fun i hi => absurd hi (by omega), V⟩, Below.refl _ _⟩
  case round =>
    obtain ⟨k, hk, rfl, rfl, H, X⟩ := hrel
    by_cases hlt : k < n
    · obtain ⟨g, M, rfl, hb, hs, hM, hK, V⟩ := H.out (by omega)
      have HK : Hid (Marked M k) := hK
      clear H1 H2 H hK
      obtain ⟨m, hm⟩ : ∃ m : Nat, 1 + k * 8 = m := ⟨_, rfl⟩
      have hm' : m ≤ 1000 := by omega
      rw [hm]
      have v0 := V (k * 8 + 0) _ (List.getElem?_eq_getElem (by omega))
      have v1 := V (k * 8 + 1) _ (List.getElem?_eq_getElem (by omega))
      have v2 := V (k * 8 + 2) _ (List.getElem?_eq_getElem (by omega))
      have v3 := V (k * 8 + 3) _ (List.getElem?_eq_getElem (by omega))
      have v4 := V (k * 8 + 4) _ (List.getElem?_eq_getElem (by omega))
      have v5 := V (k * 8 + 5) _ (List.getElem?_eq_getElem (by omega))
      have v6 := V (k * 8 + 6) _ (List.getElem?_eq_getElem (by omega))
      have v7 := V (k * 8 + 7) _ (List.getElem?_eq_getElem (by omega))
      simp only [Nat.add_zero] at v0
      obtain ⟨a0, f0⟩ := v0
      obtain ⟨a1, f1⟩ := v1
      obtain ⟨a2, f2⟩ := v2
      obtain ⟨a3, f3⟩ := v3
      obtain ⟨a4, f4⟩ := v4
      obtain ⟨a5, f5⟩ := v5
      obtain ⟨a6, f6⟩ := v6
      obtain ⟨a7, f7⟩ := v7
      have i1 : (0 : Int) ≤ (k : Int) := by omega
      have i2 : (k : Int) < (n : Int) := by omega
      have V' : Hid (Vec wr g M) := V
      clear V
      go_wp2_with fail
      refine ⟨⟨k + 1, by omega, by go_num, by go_num, fun _ => ⟨g, _, rfl, hb, ?_, ?_, HK.out.next hM hlt (m : Int) (by omega), ?_⟩, ?_⟩, by simp [intOf]; omega⟩
      · simp only [World.size_setCell]; exact hs
      · rw [put8L_length]; exact hM
      · have P := V'.out
        exact (((((((P.put (k * 8) (by omega) _).put (k * 8 + 1) (by simp; omega) _).put (k * 8 + 2) (by simp; omega) _).put (k * 8 + 3) (by simp; omega) _).put (k * 8 + 4) (by simp; omega) _).put (k * 8 + 4 + 1) (by simp; omega) _).put (k * 8 + 4 + 2) (by simp; omega) _).put (k * 8 + 4 + 3) (by simp; omega) _
      · exact (((((((X.setCell (p := ⟨g, _, none⟩) hb _).setCell (p := ⟨g, _, none⟩) hb _).setCell (p := ⟨g, _, none⟩) hb _).setCell (p := ⟨g, _, none⟩) hb _).setCell (p := ⟨g, _, none⟩) hb _).setCell (p := ⟨g, _, none⟩) hb _).setCell (p := ⟨g, _, none⟩) hb _).setCell (p := ⟨g, _, none⟩) hb _
    · obtain rfl : k = n := by omega
      go_wp2_with fail
      go_ret
      refine ⟨rfl, ?_, X⟩
      by_cases h0 : 0 < k
      · obtain ⟨g, M, rfl, hb, hs, hM, hK, V⟩ := H.out h0
        exact ⟨M, ⟨hM, hn, _, cap, rfl, fun _ => ⟨g, rfl, hb, hs, V⟩⟩, hK⟩
      · exact ⟨L, ⟨H1.out, hn, _, cap, rfl, fun h => absurd h h0⟩, fun i hi => absurd hi (by omega)⟩

set_option maxRecDepth 8000 in
set_option maxHeartbeats 2000000 in
theorem heldAreas (base : Nat) (v : Value) (n : Nat) (M : List Value) (w : World) (h : AreasAt w base v n M) (hM : Marked M n) :
    Calls Tryd.prog 18 #[v, .int .i64 1] w fun e w' => e = .returned (.int .i64 ((1 + n * 8 : Nat) : Int)) ∧ w' = w := by
  obtain ⟨hL, hn, p, cap, rfl, hp⟩ := h
  have H1 : Hid (Marked M n) := hM
  have H2 : Hid (0 < n → ∃ g, p = some ⟨g, 0, none⟩ ∧ base ≤ g ∧ g < w.heap.size ∧ Vec w g M) := hp
  clear hL hp hM
  go_enter Tryd.func18, Tryd.ntmps18
  go_wp2_with fail
  go_loop [1, 5] (fun q i => ∃ k : Nat, k ≤ n ∧ i = .int .i64 k ∧ q = .int .i64 ((1 + k * 8 : Nat) : Int)) (fun _ i => n - (intOf i).toNat)
  case atStart => exact ⟨0, by omega, rfl, rfl⟩
  case round =>
    obtain ⟨k, hk, rfl, rfl⟩ := hrel
    by_cases hlt : k < n
    · obtain ⟨g, rfl, hb, hs, V⟩ := H2.out (by omega)
      have F := H1.out k hlt
      clear H1 H2
      obtain ⟨m, hm⟩ : ∃ m : Nat, 1 + k * 8 = m := ⟨_, rfl⟩
      have hm' : m ≤ 1000 := by omega
      rw [hm] at F ⊢
      have a0 := (V (k * 8 + 0) _ (F 0 (by omega))).1
      have a1 := (V (k * 8 + 1) _ (F 1 (by omega))).1
      have a2 := (V (k * 8 + 2) _ (F 2 (by omega))).1
      have a3 := (V (k * 8 + 3) _ (F 3 (by omega))).1
      have a4 := (V (k * 8 + 4) _ (F 4 (by omega))).1
      have a5 : w.cell? ⟨g, k * 8 + 4 + 1, none⟩ = _ := (V (k * 8 + 5) _ (F 5 (by omega))).1
      have a6 : w.cell? ⟨g, k * 8 + 4 + 2, none⟩ = _ := (V (k * 8 + 6) _ (F 6 (by omega))).1
      have a7 : w.cell? ⟨g, k * 8 + 4 + 3, none⟩ = _ := (V (k * 8 + 7) _ (F 7 (by omega))).1
      simp only [Nat.add_zero] at a0
      have i1 : (0 : Int) ≤ (k : Int) := by omega
      have i2 : (k : Int) < (n : Int) := by omega
      clear F V
      go_wp2_with fail
      exact ⟨⟨k + 1, by omega, by go_num, by go_num⟩, by simp [intOf]; omega⟩
    · obtain rfl : k = n := by omega
      go_wp2_with fail
      go_ret
      exact ⟨rfl, rfl⟩

end Go.Proofs.YthdjlhhedkfibaaDoor
