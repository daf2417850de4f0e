/-
  The laws' marks: rows of values held against their marks; grids.
-/
import Derived.Test.YtjlephnmofhjaaaDoorMg7
import Derived.Test.YtjlephnmofhjaaaDoorMg16
namespace Go.Proofs.YtjlephnmofhjaaaDoor
open Go.RowKit

set_option maxRecDepth 8000 in
set_option maxHeartbeats 2000000 in
theorem heldVals (v : Value) (n : Nat) (M : List Value) (k0 : Nat) (w : World) (h : RowAt w v n M) (hM : MarkedV M k0 n) (hn : n ≤ 1048576) (k1 : 1 ≤ k0) (k2 : k0 ≤ 10000000) :
  Calls Tryd.prog 24 #[v, .int .i64 k0] w fun e w' => e = .returned (.int .i64 ((k0 + n * 5 : Nat) : Int)) ∧ Ext w w' := by
 obtain ⟨hL, p, cap, rfl, hcap, hp⟩ := h
 have H1 : Hid (MarkedV M k0 n) := hM
 have H2 : Hid (0 < n → ∃ g, p = some ⟨g, 0, none⟩ ∧ Vec w g M) := hp
 clear hL hp hM
 go_enter Tryd.func24, Tryd.ntmps24
 go_wp2_with fail
 go_loopw [1, 5] (fun q i wr => ∃ k : Nat, k ≤ n ∧ i = .int .i64 k ∧ q = .int .i64 ((k0 + k * 5 : Nat) : Int) ∧ Ext w wr) (fun _ i _ => n - (intOf i).toNat)
 case atStart => exact ⟨0, by omega, rfl, rfl, xr _⟩
 case round =>
  obtain ⟨k, hk, rfl, rfl, X0⟩ := hrel
  by_cases hlt : k < n
  ·
   obtain ⟨g, rfl, V0⟩ := H2.out (by omega)
   have V := V0.later X0
   have F := H1.out k hlt
   clear V0
   obtain ⟨m, hm⟩ : ∃ m : Nat, k0 + k * 5 = m := ⟨_, rfl⟩
   have hm' : m ≤ 20000000 := by omega
   have hmk : Hid (k0 + (k + 1) * 5 = m + 5) := by show _ = _; omega
   rw [hm] at F ⊢
   have a0 : wr.cell? ⟨g, k * 5, none⟩ = some (.int .i64 (m : Int)) := (V (k * 5 + 0) _ (F 0 (by omega))).1
   have a1 : wr.cell? ⟨g, k * 5 + 1, none⟩ = some (.bool (((m : Int) + 1) % 3 == 0)) := (V (k * 5 + 1) _ (F 1 (by omega))).1
   have a2 : wr.cell? ⟨g, k * 5 + 1 + 1, none⟩ = some (.int .i64 ((m : Int) + 1 + 1)) := (V (k * 5 + 2) _ (F 2 (by omega))).1
   have a3 : wr.cell? ⟨g, k * 5 + 1 + 2, none⟩ = some (.int .i64 ((m : Int) + 1 + 1 + 1)) := (V (k * 5 + 3) _ (F 3 (by omega))).1
   have A4 : wr.cell? ⟨g, k * 5 + 4, none⟩ = some (sV (markT (m + 4))) := (V (k * 5 + 4) _ (F 4 (by omega))).1
   obtain ⟨tx, htx⟩ : ∃ tx, markT (m + 4) = tx := ⟨_, rfl⟩
   have MT := fun W => markTextL (m + 4) W (by omega) (by omega)
   rw [show ((m + 4 : Nat) : Int) = (m : Int) + 1 + 1 + 1 + 1 by omega, htx] at MT
   rw [htx] at A4
   have i1 : (0 : Int) ≤ (k : Int) := by omega
   have i2 : (k : Int) < (n : Int) := by omega
   clear F V htx hm
   go_wp2_with fail
   clear a0 a1 a2 a3
   refine wp_region_letters (fun lx : Nat → Value => { tmps := #[Value.slice (some ⟨g, 0, none⟩) n cap, Value.int .i64 ((m : Int) + 1 + 1 + 1 + 1), undef, undef, u4, Value.int .i64 (k : Int), Value.int .i64 (k : Int), Value.slice (some ⟨g, 0, none⟩) n cap, Value.int .i64 (n : Int), Value.bool true, u10, u11, Value.slice (some ⟨g, 0, none⟩) n cap, Value.int .i64 (k : Int), Value.pointer (some ⟨g, k * 5, none⟩), Value.pointer (some ⟨g, k * 5, none⟩), Value.int .i64 (m : Int), Value.int .i64 (m : Int), Value.bool false, Value.int .i64 (m : Int), Value.int .i64 ((m : Int) + 1), Value.slice (some ⟨g, 0, none⟩) n cap, Value.int .i64 (k : Int), Value.pointer (some ⟨g, k * 5, none⟩), Value.pointer (some ⟨g, k * 5 + 1, none⟩), Value.pointer (some ⟨g, k * 5 + 1, none⟩), Value.bool (((m : Int) + 1) % 3 == 0), Value.int .i64 ((m : Int) + 1), Value.int .i64 (((m : Int) + 1) % 3), Value.bool (((m : Int) + 1) % 3 == 0), Value.bool false, Value.int .i64 ((m : Int) + 1), Value.int .i64 ((m : Int) + 1 + 1), Value.slice (some ⟨g, 0, none⟩) n cap, Value.int .i64 (k : Int), Value.pointer (some ⟨g, k * 5, none⟩), Value.pointer (some ⟨g, k * 5 + 1, none⟩), Value.pointer (some ⟨g, k * 5 + 1 + 1, none⟩), Value.int .i64 ((m : Int) + 1 + 1), Value.int .i64 ((m : Int) + 1 + 1), Value.bool false, Value.int .i64 ((m : Int) + 1 + 1), Value.int .i64 ((m : Int) + 1 + 1 + 1), Value.slice (some ⟨g, 0, none⟩) n cap, Value.int .i64 (k : Int), Value.pointer (some ⟨g, k * 5, none⟩), Value.pointer (some ⟨g, k * 5 + 1, none⟩), Value.pointer (some ⟨g, k * 5 + 1 + 2, none⟩), Value.int .i64 ((m : Int) + 1 + 1 + 1), Value.int .i64 ((m : Int) + 1 + 1 + 1), Value.bool false, Value.int .i64 ((m : Int) + 1 + 1 + 1), Value.int .i64 ((m : Int) + 1 + 1 + 1 + 1), lx 53, lx 54, lx 55, lx 56, lx 57, lx 58, lx 59, lx 60, u61, u62, undef], defers := [] }) (fun L lx lw => Hid (Ext wr lw ∧ (L 0 = true → lx 53 = Value.slice (some ⟨g, 0, none⟩) n cap) ∧ (L 1 = true → lx 54 = Value.int .i64 (k : Int)) ∧ (L 2 = true → lx 55 = Value.pointer (some ⟨g, k * 5, none⟩)) ∧ (L 3 = true → lx 56 = Value.pointer (some ⟨g, k * 5 + 4, none⟩)) ∧ (L 4 = true → lx 57 = sV tx) ∧ (L 5 = true → lx 58 = Value.int .i64 ((m : Int) + 1 + 1 + 1 + 1)) ∧ (L 6 = true → lx 59 = sV tx) ∧ (L 7 = true → lx 60 = .bool false))) rfl (by kernel_rfl) (fun jj => if jj = 53 then u53 else if jj = 54 then u54 else if jj = 55 then u55 else if jj = 56 then u56 else if jj = 57 then u57 else if jj = 58 then u58 else if jj = 59 then u59 else if jj = 60 then u60 else undef) rfl ?_ ?_ ?_
   ·
    exact ⟨xd (xr wr), (fun h => by cases h), (fun h => by cases h), (fun h => by cases h), (fun h => by cases h), (fun h => by cases h), (fun h => by cases h), (fun h => by cases h), (fun h => by cases h)⟩
   ·
    intro L lx wl i o K hK ho hL haf hI
    obtain ⟨X, f0, f1, f2, f3, f4, f5, f6, f7⟩ := hI.out
    match i, ho, hL, haf, hK with
    | 0, ho, hL, haf, hK =>
     cases ho
     (try dsimp only)
     go_wp2_with fail
     exact hK (fun jj => if jj = 53 then Value.slice (some ⟨g, 0, none⟩) n cap else lx jj) _ ⟨X, (fun _ => rfl), f1, f2, f3, f4, f5, f6, f7⟩
    | 1, ho, hL, haf, hK =>
     cases ho
     (try dsimp only)
     go_wp2_with fail
     exact hK (fun jj => if jj = 54 then Value.int .i64 (k : Int) else lx jj) _ ⟨X, f0, (fun _ => rfl), f2, f3, f4, f5, f6, f7⟩
    | 2, ho, hL, haf, hK =>
     cases ho
     (try dsimp only)
     rw [f0 (haf ⟨0, .data⟩ (by simp) rfl), f1 (haf ⟨1, .data⟩ (by simp) rfl)]
     go_wp2_with fail
     exact hK (fun jj => if jj = 55 then Value.pointer (some ⟨g, k * 5, none⟩) else if jj = 53 then Value.slice (some ⟨g, 0, none⟩) n cap else if jj = 54 then Value.int .i64 (k : Int) else lx jj) _ ⟨X, (fun _ => rfl), (fun _ => rfl), (fun _ => rfl), f3, f4, f5, f6, f7⟩
    | 3, ho, hL, haf, hK =>
     cases ho
     (try dsimp only)
     rw [f2 (haf ⟨2, .data⟩ (by simp) rfl)]
     go_wp2_with fail
     exact hK (fun jj => if jj = 56 then Value.pointer (some ⟨g, k * 5 + 4, none⟩) else if jj = 55 then Value.pointer (some ⟨g, k * 5, none⟩) else lx jj) _ ⟨X, f0, f1, (fun _ => rfl), (fun _ => rfl), f4, f5, f6, f7⟩
    | 4, ho, hL, haf, hK =>
     cases ho
     (try dsimp only)
     rw [f3 (haf ⟨3, .data⟩ (by simp) rfl)]
     have a4 := cell_later X A4
     go_wp2_with fail
     exact hK (fun jj => if jj = 57 then sV tx else if jj = 56 then Value.pointer (some ⟨g, k * 5 + 4, none⟩) else lx jj) _ ⟨X, f0, f1, f2, (fun _ => rfl), (fun _ => rfl), f5, f6, f7⟩
    | 5, ho, hL, haf, hK =>
     cases ho
     (try dsimp only)
     go_wp2_with fail
     exact hK (fun jj => if jj = 58 then Value.int .i64 ((m : Int) + 1 + 1 + 1 + 1) else lx jj) _ ⟨X, f0, f1, f2, f3, f4, (fun _ => rfl), f6, f7⟩
    | 6, ho, hL, haf, hK =>
     cases ho
     (try dsimp only)
     rw [f5 (haf ⟨5, .data⟩ (by simp) rfl)]
     go_wp2_with fail
     refine (MT wl).mono ?_
     rintro rr w' ⟨rfl, E⟩
     go_wp2_with fail
     exact hK (fun jj => if jj = 59 then sV tx else if jj = 58 then Value.int .i64 ((m : Int) + 1 + 1 + 1 + 1) else lx jj) _ ⟨xt X E, f0, f1, f2, f3, f4, (fun _ => rfl), (fun _ => rfl), f7⟩
    | 7, ho, hL, haf, hK =>
     cases ho
     (try dsimp only)
     rw [f4 (haf ⟨4, .data⟩ (by simp) rfl), f6 (haf ⟨6, .data⟩ (by simp) rfl)]
     go_wp2_with fail
     exact hK (fun jj => if jj = 60 then .bool false else if jj = 57 then sV tx else if jj = 59 then sV tx else lx jj) _ ⟨X, f0, f1, f2, f3, (fun _ => rfl), f5, (fun _ => rfl), (fun _ => rfl)⟩
    | k + 8, ho, _, _, _ => simp at ho
   ·
    intro L lx w5 hall hI
    obtain ⟨XR, f0, f1, f2, f3, f4, f5, f6, f7⟩ := hI.out
    clear hI
    replace f0 := f0 (hall 0 (by simp))
    replace f1 := f1 (hall 1 (by simp))
    replace f2 := f2 (hall 2 (by simp))
    replace f3 := f3 (hall 3 (by simp))
    replace f4 := f4 (hall 4 (by simp))
    replace f5 := f5 (hall 5 (by simp))
    replace f6 := f6 (hall 6 (by simp))
    replace f7 := f7 (hall 7 (by simp))
    (try dsimp only)
    rw [f0, f1, f2, f3, f4, f5, f6, f7]
    clear hall f0 f1 f2 f3 f4 f5 f6 f7
    have X1 := xt X0 XR
    clear A4 MT XR
    go_wp2_with fail
    go_roundw
    case rel => exact ⟨k + 1, by omega, by go_num, by rw [hmk.out]; go_num, X1⟩
    case measure => simp [intOf]; omega
  ·
   obtain rfl : k = n := by omega
   go_wp2_with fail
   go_ret
   exact ⟨rfl, X0⟩
theorem ext_grown {a b c : World} {r : Option Nat} (e : Ext a b) (h : b.grownBy c r) : a.grownBy c r :=
 ⟨h.os.trans e.os, h.tape.trans e.tape, h.output.trans e.output, Nat.le_trans e.size h.size, fun k hk hne => (h.block k (Nat.lt_of_lt_of_le hk e.size) hne).trans (e.block k hk)⟩
set_option maxRecDepth 8000 in
set_option maxHeartbeats 2000000 in
theorem markGridL (r c : Int) (v : Value) (n : Nat) (L : List Value) (k0 : Nat) (w : World) (h : RowAt w v n L) (hn : n ≤ 1048576) (k1 : 1 ≤ k0) (k2 : k0 ≤ 10000000) :
  Calls Tryd.prog 9 #[grV r c v, .int .i64 k0] w fun e w' => e = .returned (.int .i64 ((k0 + n * 5 : Nat) : Int)) ∧ (∃ M, RowAt w' v n M ∧ MarkedV M k0 n) ∧ w.grownBy w' (if n = 0 then none else v.ownBlock) := by
 have X := x1 w (.cells #[.int .i64 r, .int .i64 c, v] 28)
 have C := markVals v n L k0 _ (h.later X) hn k1 k2
 obtain ⟨m, hm⟩ : ∃ m : Nat, k0 + n * 5 = m := ⟨_, rfl⟩
 obtain ⟨row, hrow⟩ : ∃ q, (if n = 0 then none else v.ownBlock) = q := ⟨_, rfl⟩
 rw [hm, hrow] at C
 rw [hm, hrow]
 clear h hm hrow
 go_enter Tryd.func9, Tryd.ntmps9
 go_wp2_with fail
 refine C.mono ?_
 rintro e w1 ⟨rfl, hM, g1⟩
 have HM : Hid (∃ M, RowAt w1 v n M ∧ MarkedV M k0 n) := hM
 clear hM C
 go_wp2_with fail
 go_ret
 exact ⟨rfl, HM.out, ext_grown X g1⟩
set_option maxRecDepth 8000 in
set_option maxHeartbeats 2000000 in
theorem heldGridL (r c : Int) (v : Value) (n : Nat) (M : List Value) (k0 : Nat) (w : World) (h : RowAt w v n M) (hM : MarkedV M k0 n) (hn : n ≤ 1048576) (k1 : 1 ≤ k0) (k2 : k0 ≤ 10000000) :
  Calls Tryd.prog 10 #[grV r c v, .int .i64 k0] w fun e w' => e = .returned (.int .i64 ((k0 + n * 5 : Nat) : Int)) ∧ Ext w w' := by
 have X := x1 w (.cells #[.int .i64 r, .int .i64 c, v] 28)
 have C := heldVals v n M k0 _ (h.later X) hM hn k1 k2
 obtain ⟨m, hm⟩ : ∃ m : Nat, k0 + n * 5 = m := ⟨_, rfl⟩
 rw [hm] at C ⊢
 have hm0 : decide ((m : Int) < 0) = false := by simp
 clear h hm hM
 go_enter Tryd.func10, Tryd.ntmps10
 go_wp2_with fail
 refine C.mono ?_
 rintro e w1 ⟨rfl, e1⟩
 clear C
 go_wp2_with fail
 go_ret
 exact ⟨rfl, xt X e1⟩

end Go.Proofs.YtjlephnmofhjaaaDoor

