/-
  Several texts in one: W9h, E25, E32.
-/
import Derived.Test.YtgpfddneablcpaaGreatDoorMg6
import Derived.Test.YtgpfddneablcpaaGreatDoorMg20
import Derived.Test.YtgpfddneablcpaaGreatDoorMg41
import Derived.Test.YtgpfddneablcpaaGreatDoorE18
import Derived.Test.YtgpfddneablcpaaGreatDoorE31
import Derived.Test.YtgpfddneablcpaaGreatDoorMg27
namespace Go.Proofs.YtgpfddneablcpaaGreatDoor
open Go.RowKit

set_option maxRecDepth 8000 in
set_option maxHeartbeats 2000000 in
theorem heldVals (v : Value) (n : Nat) (M : List Value) (k0 : Nat) (w : World) (h : RowAt w v n M) (hM : MarkedV M k0 n) (hn : n ≤ 1048576) (k1 : 1 ≤ k0) (k2 : k0 ≤ 10000000) :
  Calls Tryz.prog 31 #[v, .int .i64 k0] w fun e w' => e = .returned (.int .i64 ((k0 + n * 5 : Nat) : Int)) ∧ Ext w w' := by
 obtain ⟨hL, p, cap, rfl, hcap, hp⟩ := h
 have H1 : Hid (MarkedV M k0 n) := hM
 have H2 : Hid (0 < n → ∃ g, p = some ⟨g, 0, none⟩ ∧ Vec w g M) := hp
 clear hL hp hM
 go_enter Tryz.func31, Tryz.ntmps31
 go_wp2_with fail
 go_loopw [1, 5] (fun q i wr => ∃ k : Nat, k ≤ n ∧ i = .int .i64 k ∧ q = .int .i64 ((k0 + k * 5 : Nat) : Int) ∧ Ext w wr) (fun _ i _ => n - (intOf i).toNat)
 case atStart => exact ⟨0, by omega, rfl, rfl, xr _⟩
 case round =>
  obtain ⟨k, hk, rfl, rfl, X0⟩ := hrel
  by_cases hlt : k < n
  ·
   obtain ⟨g, rfl, V0⟩ := H2.out (by omega)
   have V := V0.later X0
   have F := H1.out k hlt
   clear V0
   obtain ⟨m, hm⟩ : ∃ m : Nat, k0 + k * 5 = m := ⟨_, rfl⟩
   have hm' : m ≤ 20000000 := by omega
   have hmk : Hid (k0 + (k + 1) * 5 = m + 5) := by show _ = _; omega
   rw [hm] at F ⊢
   have a0 : wr.cell? ⟨g, k * 5, none⟩ = some (.int .i64 (m : Int)) := (V (k * 5 + 0) _ (F 0 (by omega))).1
   have a1 : wr.cell? ⟨g, k * 5 + 1, none⟩ = some (.bool (((m : Int) + 1) % 3 == 0)) := (V (k * 5 + 1) _ (F 1 (by omega))).1
   have a2 : wr.cell? ⟨g, k * 5 + 1 + 1, none⟩ = some (.int .i64 ((m : Int) + 1 + 1)) := (V (k * 5 + 2) _ (F 2 (by omega))).1
   have a3 : wr.cell? ⟨g, k * 5 + 1 + 2, none⟩ = some (.int .i64 ((m : Int) + 1 + 1 + 1)) := (V (k * 5 + 3) _ (F 3 (by omega))).1
   have A4 : wr.cell? ⟨g, k * 5 + 4, none⟩ = some (sV (markT (m + 4))) := (V (k * 5 + 4) _ (F 4 (by omega))).1
   obtain ⟨tx, htx⟩ : ∃ tx, markT (m + 4) = tx := ⟨_, rfl⟩
   have MT := fun W => markTextL (m + 4) W (by omega) (by omega)
   rw [show ((m + 4 : Nat) : Int) = (m : Int) + 1 + 1 + 1 + 1 by omega, htx] at MT
   rw [htx] at A4
   have i1 : (0 : Int) ≤ (k : Int) := by omega
   have i2 : (k : Int) < (n : Int) := by omega
   clear F V htx hm
   go_wp2_with fail
   clear a0 a1 a2 a3
   refine wp_region_letters (fun lx : Nat → Value => { tmps := #[Value.slice (some ⟨g, 0, none⟩) n cap, Value.int .i64 ((m : Int) + 1 + 1 + 1 + 1), undef, undef, u4, Value.int .i64 (k : Int), Value.int .i64 (k : Int), Value.slice (some ⟨g, 0, none⟩) n cap, Value.int .i64 (n : Int), Value.bool true, u10, u11, Value.slice (some ⟨g, 0, none⟩) n cap, Value.int .i64 (k : Int), Value.pointer (some ⟨g, k * 5, none⟩), Value.pointer (some ⟨g, k * 5, none⟩), Value.int .i64 (m : Int), Value.int .i64 (m : Int), Value.bool false, Value.int .i64 (m : Int), Value.int .i64 ((m : Int) + 1), Value.slice (some ⟨g, 0, none⟩) n cap, Value.int .i64 (k : Int), Value.pointer (some ⟨g, k * 5, none⟩), Value.pointer (some ⟨g, k * 5 + 1, none⟩), Value.pointer (some ⟨g, k * 5 + 1, none⟩), Value.bool (((m : Int) + 1) % 3 == 0), Value.int .i64 ((m : Int) + 1), Value.int .i64 (((m : Int) + 1) % 3), Value.bool (((m : Int) + 1) % 3 == 0), Value.bool false, Value.int .i64 ((m : Int) + 1), Value.int .i64 ((m : Int) + 1 + 1), Value.slice (some ⟨g, 0, none⟩) n cap, Value.int .i64 (k : Int), Value.pointer (some ⟨g, k * 5, none⟩), Value.pointer (some ⟨g, k * 5 + 1, none⟩), Value.pointer (some ⟨g, k * 5 + 1 + 1, none⟩), Value.int .i64 ((m : Int) + 1 + 1), Value.int .i64 ((m : Int) + 1 + 1), Value.bool false, Value.int .i64 ((m : Int) + 1 + 1), Value.int .i64 ((m : Int) + 1 + 1 + 1), Value.slice (some ⟨g, 0, none⟩) n cap, Value.int .i64 (k : Int), Value.pointer (some ⟨g, k * 5, none⟩), Value.pointer (some ⟨g, k * 5 + 1, none⟩), Value.pointer (some ⟨g, k * 5 + 1 + 2, none⟩), Value.int .i64 ((m : Int) + 1 + 1 + 1), Value.int .i64 ((m : Int) + 1 + 1 + 1), Value.bool false, Value.int .i64 ((m : Int) + 1 + 1 + 1), Value.int .i64 ((m : Int) + 1 + 1 + 1 + 1), lx 53, lx 54, lx 55, lx 56, lx 57, lx 58, lx 59, lx 60, u61, u62, undef], defers := [] }) (fun L lx lw => Hid (Ext wr lw ∧ (L 0 = true → lx 53 = Value.slice (some ⟨g, 0, none⟩) n cap) ∧ (L 1 = true → lx 54 = Value.int .i64 (k : Int)) ∧ (L 2 = true → lx 55 = Value.pointer (some ⟨g, k * 5, none⟩)) ∧ (L 3 = true → lx 56 = Value.pointer (some ⟨g, k * 5 + 4, none⟩)) ∧ (L 4 = true → lx 57 = sV tx) ∧ (L 5 = true → lx 58 = Value.int .i64 ((m : Int) + 1 + 1 + 1 + 1)) ∧ (L 6 = true → lx 59 = sV tx) ∧ (L 7 = true → lx 60 = .bool false))) rfl (by kernel_rfl) (fun jj => if jj = 53 then u53 else if jj = 54 then u54 else if jj = 55 then u55 else if jj = 56 then u56 else if jj = 57 then u57 else if jj = 58 then u58 else if jj = 59 then u59 else if jj = 60 then u60 else undef) rfl ?_ ?_ ?_
   ·
    exact ⟨xd (xr wr), (fun h => by cases h), (fun h => by cases h), (fun h => by cases h), (fun h => by cases h), (fun h => by cases h), (fun h => by cases h), (fun h => by cases h), (fun h => by cases h)⟩
   ·
    intro L lx wl i o K hK ho hL haf hI
    obtain ⟨X, f0, f1, f2, f3, f4, f5, f6, f7⟩ := hI.out
    match i, ho, hL, haf, hK with
    | 0, ho, hL, haf, hK =>
     cases ho
     (try dsimp only)
     go_wp2_with fail
     exact hK (fun jj => if jj = 53 then Value.slice (some ⟨g, 0, none⟩) n cap else lx jj) _ ⟨X, (fun _ => rfl), f1, f2, f3, f4, f5, f6, f7⟩
    | 1, ho, hL, haf, hK =>
     cases ho
     (try dsimp only)
     go_wp2_with fail
     exact hK (fun jj => if jj = 54 then Value.int .i64 (k : Int) else lx jj) _ ⟨X, f0, (fun _ => rfl), f2, f3, f4, f5, f6, f7⟩
    | 2, ho, hL, haf, hK =>
     cases ho
     (try dsimp only)
     rw [f0 (haf ⟨0, .data⟩ (by simp) rfl), f1 (haf ⟨1, .data⟩ (by simp) rfl)]
     go_wp2_with fail
     exact hK (fun jj => if jj = 55 then Value.pointer (some ⟨g, k * 5, none⟩) else if jj = 53 then Value.slice (some ⟨g, 0, none⟩) n cap else if jj = 54 then Value.int .i64 (k : Int) else lx jj) _ ⟨X, (fun _ => rfl), (fun _ => rfl), (fun _ => rfl), f3, f4, f5, f6, f7⟩
    | 3, ho, hL, haf, hK =>
     cases ho
     (try dsimp only)
     rw [f2 (haf ⟨2, .data⟩ (by simp) rfl)]
     go_wp2_with fail
     exact hK (fun jj => if jj = 56 then Value.pointer (some ⟨g, k * 5 + 4, none⟩) else if jj = 55 then Value.pointer (some ⟨g, k * 5, none⟩) else lx jj) _ ⟨X, f0, f1, (fun _ => rfl), (fun _ => rfl), f4, f5, f6, f7⟩
    | 4, ho, hL, haf, hK =>
     cases ho
     (try dsimp only)
     rw [f3 (haf ⟨3, .data⟩ (by simp) rfl)]
     have a4 := cell_later X A4
     go_wp2_with fail
     exact hK (fun jj => if jj = 57 then sV tx else if jj = 56 then Value.pointer (some ⟨g, k * 5 + 4, none⟩) else lx jj) _ ⟨X, f0, f1, f2, (fun _ => rfl), (fun _ => rfl), f5, f6, f7⟩
    | 5, ho, hL, haf, hK =>
     cases ho
     (try dsimp only)
     go_wp2_with fail
     exact hK (fun jj => if jj = 58 then Value.int .i64 ((m : Int) + 1 + 1 + 1 + 1) else lx jj) _ ⟨X, f0, f1, f2, f3, f4, (fun _ => rfl), f6, f7⟩
    | 6, ho, hL, haf, hK =>
     cases ho
     (try dsimp only)
     rw [f5 (haf ⟨5, .data⟩ (by simp) rfl)]
     go_wp2_with fail
     refine (MT wl).mono ?_
     rintro rr w' ⟨rfl, E⟩
     go_wp2_with fail
     exact hK (fun jj => if jj = 59 then sV tx else if jj = 58 then Value.int .i64 ((m : Int) + 1 + 1 + 1 + 1) else lx jj) _ ⟨xt X E, f0, f1, f2, f3, f4, (fun _ => rfl), (fun _ => rfl), f7⟩
    | 7, ho, hL, haf, hK =>
     cases ho
     (try dsimp only)
     rw [f4 (haf ⟨4, .data⟩ (by simp) rfl), f6 (haf ⟨6, .data⟩ (by simp) rfl)]
     go_wp2_with fail
     exact hK (fun jj => if jj = 60 then .bool false else if jj = 57 then sV tx else if jj = 59 then sV tx else lx jj) _ ⟨X, f0, f1, f2, f3, (fun _ => rfl), f5, (fun _ => rfl), (fun _ => rfl)⟩
    | k + 8, ho, _, _, _ => simp at ho
   ·
    intro L lx w5 hall hI
    obtain ⟨XR, f0, f1, f2, f3, f4, f5, f6, f7⟩ := hI.out
    clear hI
    replace f0 := f0 (hall 0 (by simp))
    replace f1 := f1 (hall 1 (by simp))
    replace f2 := f2 (hall 2 (by simp))
    replace f3 := f3 (hall 3 (by simp))
    replace f4 := f4 (hall 4 (by simp))
    replace f5 := f5 (hall 5 (by simp))
    replace f6 := f6 (hall 6 (by simp))
    replace f7 := f7 (hall 7 (by simp))
    (try dsimp only)
    rw [f0, f1, f2, f3, f4, f5, f6, f7]
    clear hall f0 f1 f2 f3 f4 f5 f6 f7
    have X1 := xt X0 XR
    clear A4 MT XR
    go_wp2_with fail
    go_roundw
    case rel => exact ⟨k + 1, by omega, by go_num, by rw [hmk.out]; go_num, X1⟩
    case measure => simp [intOf]; omega
  ·
   obtain rfl : k = n := by omega
   go_wp2_with fail
   go_ret
   exact ⟨rfl, X0⟩
theorem ext_grown {a b c : World} {r : Option Nat} (e : Ext a b) (h : b.grownBy c r) : a.grownBy c r :=
 ⟨h.os.trans e.os, h.tape.trans e.tape, h.output.trans e.output, Nat.le_trans e.size h.size, fun k hk hne => (h.block k (Nat.lt_of_lt_of_le hk e.size) hne).trans (e.block k hk)⟩
set_option maxRecDepth 8000 in
set_option maxHeartbeats 2000000 in
theorem markGridL (r c : Int) (v : Value) (n : Nat) (L : List Value) (k0 : Nat) (w : World) (h : RowAt w v n L) (hn : n ≤ 1048576) (k1 : 1 ≤ k0) (k2 : k0 ≤ 10000000) :
  Calls Tryz.prog 12 #[grV r c v, .int .i64 k0] w fun e w' => e = .returned (.int .i64 ((k0 + n * 5 : Nat) : Int)) ∧ (∃ M, RowAt w' v n M ∧ MarkedV M k0 n) ∧ w.grownBy w' (if n = 0 then none else v.ownBlock) := by
 have X := x1 w (.cells #[.int .i64 r, .int .i64 c, v] 31)
 have C := markVals v n L k0 _ (h.later X) hn k1 k2
 obtain ⟨m, hm⟩ : ∃ m : Nat, k0 + n * 5 = m := ⟨_, rfl⟩
 obtain ⟨row, hrow⟩ : ∃ q, (if n = 0 then none else v.ownBlock) = q := ⟨_, rfl⟩
 rw [hm, hrow] at C
 rw [hm, hrow]
 clear h hm hrow
 go_enter Tryz.func12, Tryz.ntmps12
 go_wp2_with fail
 refine C.mono ?_
 rintro e w1 ⟨rfl, hM, g1⟩
 have HM : Hid (∃ M, RowAt w1 v n M ∧ MarkedV M k0 n) := hM
 clear hM C
 go_wp2_with fail
 go_ret
 exact ⟨rfl, HM.out, ext_grown X g1⟩

theorem GrCells.later {w w' : World} {g : Nat} {L : List GG} (h : GrCells w g L) (x : Ext w w') : GrCells w' g L := fun i y hi => ⟨cell_later x (h i y hi).1, cell_later x (h i y hi).2⟩
theorem MarkG.later {w w' : World} {k0 i : Nat} {L : List GG} (h : MarkG w k0 L i) (x : Ext w w') : MarkG w' k0 L i := fun j y hj => by
 obtain ⟨h1, h2⟩ := h j y hj
 refine ⟨fun q => ?_, fun q => ?_⟩
 ·
  obtain ⟨⟨M, m1, m2⟩, m3⟩ := h1 q
  exact ⟨⟨M, m1.later x, m2⟩, m3.later x⟩
 ·
  obtain ⟨⟨M, m1⟩, N, m3, m4⟩ := h2 q
  exact ⟨⟨M, m1.later x⟩, N, m3.later x, m4⟩
set_option maxRecDepth 8000 in
set_option maxHeartbeats 2000000 in
theorem heldGroups (L : List GG) (g cap k0 : Nat) (w : World) (hL : L.length ≤ 2000) (hcap : L.length ≤ cap) (hC : GrCells w g L) (hM : MarkG w k0 L L.length) (h1 : 1 ≤ k0) (h2 : k0 + sumM L ≤ 900000) (hs : ∀ x ∈ L, x.K.length ≤ 1048576 ∧ x.e.ns.length ≤ 1048576) :
  Calls Tryz.prog 15 #[.slice (some ⟨g, 0, none⟩) L.length cap, .int .i64 k0] w fun e w' => e = .returned (.int .i64 ((k0 + sumM L : Nat) : Int)) ∧ Ext w w' := by
 obtain ⟨n, hn⟩ : ∃ n, L.length = n := ⟨_, rfl⟩
 have HN : Hid (L.length = n) := hn
 have HA : Hid (∀ x ∈ L, x.K.length ≤ 1048576 ∧ x.e.ns.length ≤ 1048576) := hs
 rw [hn] at hL hcap hM ⊢
 have H0 : Hid (GrCells w g L ∧ MarkG w k0 L n) := ⟨hC, hM⟩
 have HS : Hid (∀ i, sumM (L.take i) ≤ sumM L) := sumM_le L
 obtain ⟨S, hS⟩ : ∃ S, sumM L = S := ⟨_, rfl⟩
 have HSS : Hid (sumM L = S) := hS
 rw [hS] at h2 HS ⊢
 clear hn hs hC hM hS
 go_enter Tryz.func15, Tryz.ntmps15
 go_wp2_with fail
 go_loopw [1, 5] (fun m i wr => ∃ (k q : Nat), k ≤ n ∧ i = .int .i64 k ∧ m = .int .i64 q ∧ q ≤ 900000 ∧ Hid (q = k0 + sumM (L.take k) ∧ Ext w wr)) (fun _ i _ => n - (intOf i).toNat)
 case atStart => exact ⟨0, k0, by omega, rfl, rfl, by omega, rfl, xr _⟩
 case round =>
  obtain ⟨k, q, hk, rfl, rfl, hq, HO⟩ := hrel
  by_cases hlt : k < n
  ·
   have i2 : (k : Int) < (n : Int) := by omega
   obtain ⟨x, hx⟩ : ∃ x, L[k]? = some x := ⟨_, List.getElem?_eq_getElem (by rw [HN.out]; exact hlt)⟩
   obtain ⟨hq0, X⟩ := HO.out
   have hxm := HA.out x (List.mem_of_getElem? hx)
   obtain ⟨c0, c1⟩ := (H0.out.1.later X) k x hx
   obtain ⟨⟨M, hrow, hmk⟩, hnum⟩ := ((H0.out.2.later X) k x hx).1 hlt
   rw [← hq0] at hmk hnum
   have ht := sumM_take hx
   have hle := HS.out (k + 1)
   have CV := heldVals x.kv x.K.length M q wr hrow hmk hxm.1 (by omega) (by omega)
   have hq1 : q + x.K.length * 5 ≤ 900000 := by omega
   have hq2 : q + x.K.length * 5 + x.e.ns.length ≤ 900000 := by omega
   have hqp : 1 ≤ q := by omega
   have HT : Hid (q + x.K.length * 5 + x.e.ns.length = k0 + sumM (L.take (k + 1))) := by show _ = _; omega
   obtain ⟨kv, hkv⟩ : ∃ v, x.kv = v := ⟨_, rfl⟩
   obtain ⟨sl, hsl⟩ : ∃ v, x.e.sl = v := ⟨_, rfl⟩
   rw [hkv] at c0 CV
   rw [hsl] at c1 hnum
   obtain ⟨q1, hqq1⟩ : ∃ q1, q + x.K.length * 5 = q1 := ⟨_, rfl⟩
   rw [hqq1] at CV hq1 hq2 HT hnum
   have CN : Hid (∀ W, Ext wr W → Calls Tryz.prog 32 #[sl, .int .i64 q1] W fun e w' => e = .returned (.int .i64 ((q1 + x.e.ns.length : Nat) : Int)) ∧ Ext W w') := fun W hW => heldNumsG sl x.e.ns.length q1 W (hnum.later hW) hxm.2 (by omega) (by omega)
   obtain ⟨q2, hqq2⟩ : ∃ q2, q1 + x.e.ns.length = q2 := ⟨_, rfl⟩
   rw [hqq2] at CN hq2 HT
   have n1 : ¬ (q1 : Int) < 0 := by omega
   have n2 : ¬ (q2 : Int) < 0 := by omega
   clear hx hq0 ht hrow hmk hnum hkv hsl hqq1 hqq2 hle X
   go_wp2_with fail
   refine CV.mono ?_
   rintro e w1 ⟨rfl, e1⟩
   have c1 := cell_later e1 c1
   have C2 := CN.out w1 e1
   go_wp2_with fail
   refine C2.mono ?_
   rintro e w2 ⟨rfl, e2⟩
   have HF : Hid (q2 = k0 + sumM (L.take (k + 1)) ∧ Ext w w2) := ⟨HT.out, xt HO.out.2 (xt e1 e2)⟩
   clear CV CN C2 c0 c1
   go_wp2_with fail
   go_roundw
   case rel => exact ⟨k + 1, q2, by omega, by go_num, rfl, hq2, HF⟩
   case measure => simp [intOf]; omega
  ·
   obtain rfl : k = n := by omega
   have i2 : ¬ (k : Int) < (k : Int) := by omega
   have HF : Hid (q = k0 + S) := by
    have := HO.out.1
    rw [List.take_of_length_le (by rw [HN.out]; exact Nat.le_refl _), HSS.out] at this
    exact this
   go_wp2_with fail
   go_ret
   exact ⟨ret_int (by have := HF.out; omega), HO.out.2⟩

theorem one_of {κ : Nat → List VT} {F : List Nat} (h : F.Pairwise fun a b => κ a ≠ κ b) (a : Nat) : (F.map fun f => if κ a = κ f then 1 else 0).sum ≤ 1 := by
 induction F with
 | nil => simp
 | cons f F ih =>
  obtain ⟨h1, h2⟩ := List.pairwise_cons.1 h
  rw [List.map_cons, List.sum_cons]
  by_cases e : κ a = κ f
  ·
   have : (F.map fun f => if κ a = κ f then 1 else 0).sum = 0 := by
    have hz : ∀ z ∈ F, (if κ a = κ z then 1 else 0) = 0 := fun z hz => if_neg (fun q => h1 z hz (e.symm.trans q))
    clear ih h h1 h2 e
    induction F with
    | nil => rfl
    | cons z F ih => rw [List.map_cons, List.sum_cons, hz z (by simp), ih (fun y hy => hz y (by simp [hy]))]
   rw [if_pos e, this]
   omega
  ·
   rw [if_neg e]
   have := ih h2
   omega
theorem sum_rows {κ : Nat → List VT} {F : List Nat} (h : F.Pairwise fun a b => κ a ≠ κ b) : ∀ n, (F.map fun f => (rowsG κ n f).length).sum ≤ n := by
 intro n
 induction n with
 | zero =>
  have : ∀ f, (rowsG κ 0 f).length = 0 := fun f => by have := rowsG_length κ 0 f; omega
  simp only [this]
  clear this h
  induction F with
  | nil => simp
  | cons f F ih => simpa using ih
 | succ n ih =>
  have e : ∀ f, (rowsG κ (n + 1) f).length = (rowsG κ n f).length + if κ n = κ f then 1 else 0 := fun f => by
   rw [rowsG_succ, List.length_append]
   split <;> rfl
  simp only [e]
  have h1 := one_of h n
  have add : ∀ G : List Nat, (G.map fun f => (rowsG κ n f).length + if κ n = κ f then 1 else 0).sum = (G.map fun f => (rowsG κ n f).length).sum + (G.map fun f => if κ n = κ f then 1 else 0).sum := fun G => by
   induction G with
   | nil => rfl
   | cons f G ih => simp only [List.map_cons, List.sum_cons, ih]; omega
  rw [add]
  omega
/-- How many marks what is told of groups takes. -/
def sumT : List (List VT × List Nat) → Nat
 | [] => 0
 | t :: T => (t.1.length * 5 + t.2.length) + sumT T
theorem sumM_told (L : List GG) : sumM L = sumT (L.map GG.told) := by
 induction L with
 | nil => rfl
 | cons x L ih => rw [List.map_cons, sumM, sumT, ih]; rfl
theorem sumT_tel (l : List VT) (c : Nat) (cols : List Nat) (n : Nat) (I : List Nat) : sumT (I.map (telG l c cols n)) = I.length * (cols.length * 5) + (I.map fun i => (rowsG (kapG l c cols) n i).length).sum := by
 induction I with
 | nil => simp [sumT]
 | cons i I ih =>
  rw [List.map_cons, sumT, ih, List.map_cons, List.sum_cons, List.length_cons]
  show (keyG l c cols i).length * 5 + (rowsG (kapG l c cols) n i).length + _ = _
  rw [keyG_length, Nat.add_mul]
  omega
theorem OrdG.small {l : List VT} {c : Nat} {cols : List Nat} {n : Nat} {Ix : List Nat} (h : OrdG l c cols n Ix) (hn : n ≤ 2000) (hc : cols.length ≤ 4) : sumT (Ix.map (telG l c cols n)) ≤ 50000 ∧ Ix.length ≤ 2000 := by
 have hl : Ix.length ≤ n := by rw [h.1.length_eq]; exact firstsG_length _ _
 have pw : Ix.Pairwise fun a b => kapG l c cols a ≠ kapG l c cols b := by
  have nd : Ix.Nodup := h.1.nodup_iff.2 (firstsG_nodup _ _)
  refine List.Pairwise.imp_of_mem (fun {a b} ha hb hab e => hab ?_) nd
  exact firstsG_one (h.1.mem_iff.1 ha) (h.1.mem_iff.1 hb) e
 have hs := sum_rows pw n
 rw [sumT_tel]
 have : Ix.length * (cols.length * 5) ≤ 2000 * 20 := Nat.mul_le_mul (by omega) (by omega)
 omega
/-- What GroupRows tells. -/
noncomputable def groupsR (r c : Int) (l : List VT) (cl : List Int) : List (List VT × List Nat) :=
 open Classical in if h : grpB r c l cl = true ∧ ∃ Ix, OrdG l c.toNat (colN cl) r.toNat Ix then (h.2.choose).map (telG l c.toNat (colN cl) r.toNat) else []
theorem groupsR_none {r c : Int} {l : List VT} {cl : List Int} (h : grpB r c l cl = false) : groupsR r c l cl = [] := by
 unfold groupsR
 rw [dif_neg (fun q => by rw [h] at q; exact absurd q.1 (by decide))]
theorem groupsR_some {R C : Nat} {l : List VT} {cl : List Int} (hg : ∀ e ∈ l, e.good = true) (h : grpB R C l cl = true) {Ix : List Nat} (ho : OrdG l C (colN cl) R Ix) : groupsR R C l cl = Ix.map (telG l C (colN cl) R) := by
 unfold groupsR
 have hx : grpB R C l cl = true ∧ ∃ Ix, OrdG l (C : Int).toNat (colN cl) (R : Int).toNat Ix := ⟨h, Ix, ho⟩
 rw [dif_pos hx]
 have := hx.2.choose_spec
 have e := OrdG.one hg this ho
 show (hx.2.choose).map (telG l C (colN cl) R) = _
 rw [e]
theorem groupsR_fine (r c : Int) (l : List VT) (cl : List Int) : sumT (groupsR r c l cl) ≤ 50000 ∧ (groupsR r c l cl).length ≤ 2000 ∧ ∀ t ∈ groupsR r c l cl, t.1.length ≤ 4 ∧ t.2.length ≤ 2000 := by
 unfold groupsR
 split
 ·
  rename_i h
  obtain ⟨g1, g2, _, _⟩ := grpB_cols h.1
  obtain ⟨R, C, rfl, rfl, _, _, _, _, hR, hC⟩ := good_dims g1
  have := h.2.choose_spec.small (by simpa using hR) (by rw [colN_length]; exact g2)
  refine ⟨this.1, by rw [List.length_map]; exact this.2, fun t ht => ?_⟩
  obtain ⟨i, _, rfl⟩ := List.mem_map.1 ht
  refine ⟨by show (keyG _ _ _ _).length ≤ 4; rw [keyG_length, colN_length]; exact g2, ?_⟩
  show (rowsG _ _ _).length ≤ 2000
  have := rowsG_length (kapG l (C : Int).toNat (colN cl)) (R : Int).toNat i
  have e : (R : Int).toNat = R := rfl
  omega
 ·
  exact ⟨by simp [sumT], by simp, fun t ht => by cases ht⟩
/-- An answer of groups. -/
def AnsG (W w' : World) (v : Value) (RR : List (List VT × List Nat)) : Prop := ∃ L, LieG w' W.heap.size W.heap.size v L ∧ L.map GG.told = RR ∧ Ext W w'
theorem groupI (r c : Int) (v u : Value) (l : List VT) (cl : List Int) (w : World) (h : ValsIn w v l) (hl : l.length ≤ 1048576) (hr : ∀ e ∈ l, e.room) (hu : IntsIn w u cl) (hc : cl.length ≤ 1048576) (hT : Tens w) (hE : ErrTab w) :
  Calls Tryz.prog 8 #[grV r c v, u] w fun e w' => ∃ sv, e = .returned sv ∧ AnsG w w' sv (groupsR r c l cl) := by
 cases hb : grpB r c l cl with
 | false =>
  rw [groupsR_none hb]
  refine (groupNone r c v u l cl w h hl hr hu hc hT hE hb).mono ?_
  rintro e w' ⟨rfl, E⟩
  exact ⟨_, rfl, [], LieG.nil _ _ _, rfl, E⟩
 | true =>
  obtain ⟨g1, g2, g3, g4⟩ := grpB_cols hb
  obtain ⟨R, C, rfl, rfl, d1, d2, d3, d4, d5, d6⟩ := good_dims g1
  have hg := (goodG_all g1).2.1
  refine (groupSome R C v u l cl w h d1 (by omega) d5 d6 (fun e he => ⟨hg e he, hr e he⟩) hu g2 (fun k hk => by have := g4 k hk; omega) g1 g3 hT hE).mono ?_
  rintro e w' ⟨sv, L, Ix, rfl, f1, f2, f3, f4⟩
  exact ⟨sv, rfl, L, f1, by rw [f3, groupsR_some hg hb f2], f4⟩
theorem groupSp (r c : Int) (v u : Value) (l : List VT) (cl : List Int) (w : World) (h : ValsIn w v l) (hl : l.length ≤ 1048576) (hr : ∀ e ∈ l, e.room) (hu : IntsIn w u cl) (hc : cl.length ≤ 1048576) :
  Calls Tryz.prog 5 #[grV r c v, u] w fun e w' => ∃ sv, e = .returned sv ∧ AnsG w w' sv (groupsR r c l cl) := by
 cases hb : grpB r c l cl with
 | false =>
  rw [groupsR_none hb]
  refine (specNone r c v u l cl w h hl (fun e he => (hr e he).1) hu hc hb).mono ?_
  rintro e w' ⟨rfl, E⟩
  exact ⟨_, rfl, [], LieG.nil _ _ _, rfl, E⟩
 | true =>
  obtain ⟨g1, g2, g3, g4⟩ := grpB_cols hb
  obtain ⟨R, C, rfl, rfl, d1, d2, d3, d4, d5, d6⟩ := good_dims g1
  have hg := (goodG_all g1).2.1
  refine (specSome R C v u l cl w (fun W sv w' => ∃ L Ix, LieG w' W.heap.size W.heap.size sv L ∧ OrdG l C (colN cl) R Ix ∧ L.map GG.told = Ix.map (telG l C (colN cl) R)) h hl (fun e he => (hr e he).1) hu hc hb (fun W hW => groupsS R C v u l cl W (h.later hW) d1 (by omega) d5 d6 (fun e he => ⟨hg e he, hr e he⟩) (hu.later hW) g2 (fun k hk => by have := g4 k hk; omega))).mono ?_
  rintro e w' ⟨W, sv, rfl, hW, ⟨L, Ix, f1, f2, f3⟩, f4⟩
  exact ⟨sv, rfl, L, f1.base hW.size hW.size, by rw [f3, groupsR_some hg hb f2], f4⟩
/-- Groups that lie apart, as the law looks at them. -/
theorem LieG.at {w : World} {bl br : Nat} {v : Value} {L : List GG} (h : LieG w bl br v L) : GroupsAt w v L := by
 refine ⟨?_, fun x hx => ⟨ownW_vals (h.keys x hx), ownI_nums (h.rows x hx)⟩⟩
 obtain ⟨p, cap, rfl, hc⟩ := ownG_slice h.list
 refine ⟨p, cap, rfl, hc, fun h0 => ?_⟩
 rcases h.list.2 with ⟨e9, h9⟩ | ⟨g, cap', cur, e9, _⟩
 ·
  omega
 ·
  cases e9
  exact ⟨g, rfl, fun i x hi => ownG_at h.list rfl hi⟩
theorem LieG.marks {w : World} {bl br : Nat} {v : Value} {L : List GG} (h : LieG w bl br v L) (k0 : Nat) : MarkG w k0 L 0 := fun j x hj =>
 ⟨fun q => by omega, fun _ => ⟨⟨_, RowAt.of_row (h.keys x (List.mem_of_getElem? hj))⟩, _, ownI_nums (h.rows x (List.mem_of_getElem? hj)), rfl⟩⟩
theorem OnlyG.ext {a w w' : World} {L : List GG} (h : OnlyG w w' L) (x : Ext a w) (hb : ∀ y ∈ L, (∀ b, y.kv.ownBlock = some b → a.heap.size ≤ b) ∧ a.heap.size ≤ y.e.g) : Ext a w' :=
 ⟨h.os.trans x.os, h.tape.trans x.tape, h.output.trans x.output, Nat.le_trans x.size h.size, fun k hk => by
  rw [h.block k (Nat.lt_of_lt_of_le hk x.size) (fun y hy => ⟨fun q => by have := (hb y hy).1 k q; omega, fun q => by have := (hb y hy).2; omega⟩), x.block k hk]⟩

end Go.Proofs.YtgpfddneablcpaaGreatDoor

