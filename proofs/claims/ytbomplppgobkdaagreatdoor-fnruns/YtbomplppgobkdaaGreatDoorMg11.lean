/-
  Several texts in one: V6d, Bx, V9e, Fb, V6p, V6n.
-/
import Derived.Test.YtbomplppgobkdaaGreatDoorMg10
import Derived.Test.YtbomplppgobkdaaGreatDoorMg0
import Derived.Lib.Bytealg
namespace Go.Proofs.YtbomplppgobkdaaGreatDoor
open Go.RowKit

abbrev errT : List UInt8 := [35, 86, 65, 76, 85, 69, 33]
abbrev trueT : List UInt8 := [84, 82, 85, 69]
abbrev falseT : List UInt8 := [70, 65, 76, 83, 69]
abbrev boolW (b : Bool) : Value := valV 3 false 0 0 (if b then trueT else falseT)
abbrev errW : Value := valV 4 false 0 0 errT
set_option maxHeartbeats 1000000 in
theorem textVI (l : List UInt8) (w : World) : Calls Tryz.prog 143 #[sV l] w fun e w' => e = .returned (valV 2 false 0 0 l) ∧ Ext w w' := by
  go_enter Tryz.func143, Tryz.ntmps143
  go_wp2
  exact bodyPost_ret (v := valV 2 false 0 0 l) (by simp [results, Tryz.results143, go_sem]) rfl ⟨rfl, by first | exact x1 _ _ | exact xa (x1 _ _) _⟩
set_option maxHeartbeats 1000000 in
theorem textVS (l : List UInt8) (w : World) : Calls Tryz.prog 65 #[sV l] w fun e w' => e = .returned (valV 2 false 0 0 l) ∧ Ext w w' := by
  go_enter Tryz.func65, Tryz.ntmps65
  go_wp2
  exact bodyPost_ret (v := valV 2 false 0 0 l) (by simp [results, Tryz.results65, go_sem]) rfl ⟨rfl, by first | exact x1 _ _ | exact xa (x1 _ _) _⟩
set_option maxHeartbeats 1000000 in
theorem errVS (l : List UInt8) (w : World) : Calls Tryz.prog 68 #[sV l] w fun e w' => e = .returned (valV 4 false 0 0 l) ∧ Ext w w' := by
  go_enter Tryz.func68, Tryz.ntmps68
  go_wp2
  exact bodyPost_ret (v := valV 4 false 0 0 l) (by simp [results, Tryz.results68, go_sem]) rfl ⟨rfl, by first | exact x1 _ _ | exact xa (x1 _ _) _⟩
set_option maxHeartbeats 1000000 in
theorem numVI (n : Bool) (d x : Int) (w : World) : Calls Tryz.prog 140 #[decV n d x] w fun e w' => e = .returned (valV 1 n d x []) ∧ Ext w w' := by
  go_enter Tryz.func140, Tryz.ntmps140
  go_wp2
  exact bodyPost_ret (v := valV 1 n d x []) (by simp [results, Tryz.results140, go_sem]) rfl ⟨rfl, by first | exact x1 _ _ | exact xa (x1 _ _) _⟩
set_option maxHeartbeats 1000000 in
theorem numVS (n : Bool) (d x : Int) (w : World) : Calls Tryz.prog 70 #[decV n d x] w fun e w' => e = .returned (valV 1 n d x []) ∧ Ext w w' := by
  go_enter Tryz.func70, Tryz.ntmps70
  go_wp2
  exact bodyPost_ret (v := valV 1 n d x []) (by simp [results, Tryz.results70, go_sem]) rfl ⟨rfl, by first | exact x1 _ _ | exact xa (x1 _ _) _⟩
set_option maxHeartbeats 1000000 in
theorem boolVI (b : Bool) (w : World) : Calls Tryz.prog 142 #[.bool b] w fun e w' => e = .returned (boolW b) ∧ Ext w w' := by
  cases b
  · go_enter Tryz.func142, Tryz.ntmps142
    go_wp2
    exact bodyPost_ret (v := valV 3 false 0 0 falseT) (by simp [results, Tryz.results142, go_sem, falseT]) rfl ⟨rfl, x1 _ _⟩
  · go_enter Tryz.func142, Tryz.ntmps142
    go_wp2
    exact bodyPost_ret (v := valV 3 false 0 0 trueT) (by simp [results, Tryz.results142, go_sem, trueT]) rfl ⟨rfl, x1 _ _⟩
set_option maxHeartbeats 1000000 in
theorem boolVS (b : Bool) (w : World) : Calls Tryz.prog 66 #[.bool b] w fun e w' => e = .returned (boolW b) ∧ Ext w w' := by
  cases b
  · go_enter Tryz.func66, Tryz.ntmps66
    go_wp2
    exact bodyPost_ret (v := valV 3 false 0 0 falseT) (by simp [results, Tryz.results66, go_sem, falseT]) rfl ⟨rfl, x1 _ _⟩
  · go_enter Tryz.func66, Tryz.ntmps66
    go_wp2
    exact bodyPost_ret (v := valV 3 false 0 0 trueT) (by simp [results, Tryz.results66, go_sem, trueT]) rfl ⟨rfl, x1 _ _⟩
theorem goodV_num {n : Bool} {d x : Int} {t : List UInt8} (h : goodV 1 n d x t = true) : goodB n d x = true ∧ t = [] := by simpa [goodV] using h
theorem goodV_zero {k : Int} {n : Bool} {d x : Int} {t : List UInt8} (h : goodV k n d x t = true) (h1 : k ≠ 1) : n = false ∧ d = 0 ∧ x = 0 := by
  simp only [goodV, h1, if_false, Bool.and_eq_true] at h
  have := h.1
  simpa [zeroD, and_assoc] using this
theorem goodV_empty {n : Bool} {d x : Int} {t : List UInt8} (h : goodV 0 n d x t = true) : t = [] := by simpa [goodV] using (show _ ∧ _ by simpa [goodV] using h).2

theorem Vec.three {w : World} {b : Nat} {v0 v1 v2 : Value} (h : Vec w b [v0, v1, v2]) : w.cell? ⟨b, 0, none⟩ = some v0 ∧ w.cell? ⟨b, 1, none⟩ = some v1 ∧ w.cell? ⟨b, 2, none⟩ = some v2 :=
  ⟨(h 0 _ rfl).1, (h 1 _ rfl).1, (h 2 _ rfl).1⟩
theorem Vec.threeF {w : World} {b : Nat} {v0 v1 v2 : Value} (h : Vec w b [v0, v1, v2]) : w.frozen? ⟨b, 0, none⟩ = false ∧ w.frozen? ⟨b, 1, none⟩ = false ∧ w.frozen? ⟨b, 2, none⟩ = false :=
  ⟨(h 0 _ rfl).2, (h 1 _ rfl).2, (h 2 _ rfl).2⟩
theorem Vec.four {w : World} {b : Nat} {v0 v1 v2 v3 : Value} (h : Vec w b [v0, v1, v2, v3]) : w.cell? ⟨b, 0, none⟩ = some v0 ∧ w.cell? ⟨b, 1, none⟩ = some v1 ∧ w.cell? ⟨b, 2, none⟩ = some v2 ∧ w.cell? ⟨b, 3, none⟩ = some v3 :=
  ⟨(h 0 _ rfl).1, (h 1 _ rfl).1, (h 2 _ rfl).1, (h 3 _ rfl).1⟩
theorem Vec.fourF {w : World} {b : Nat} {v0 v1 v2 v3 : Value} (h : Vec w b [v0, v1, v2, v3]) : w.frozen? ⟨b, 0, none⟩ = false ∧ w.frozen? ⟨b, 1, none⟩ = false ∧ w.frozen? ⟨b, 2, none⟩ = false ∧ w.frozen? ⟨b, 3, none⟩ = false :=
  ⟨(h 0 _ rfl).2, (h 1 _ rfl).2, (h 2 _ rfl).2, (h 3 _ rfl).2⟩
theorem Vec.five {w : World} {b : Nat} {v0 v1 v2 v3 v4 : Value} (h : Vec w b [v0, v1, v2, v3, v4]) : w.cell? ⟨b, 0, none⟩ = some v0 ∧ w.cell? ⟨b, 1, none⟩ = some v1 ∧ w.cell? ⟨b, 2, none⟩ = some v2 ∧ w.cell? ⟨b, 3, none⟩ = some v3 ∧ w.cell? ⟨b, 4, none⟩ = some v4 :=
  ⟨(h 0 _ rfl).1, (h 1 _ rfl).1, (h 2 _ rfl).1, (h 3 _ rfl).1, (h 4 _ rfl).1⟩
theorem Vec.fiveF {w : World} {b : Nat} {v0 v1 v2 v3 v4 : Value} (h : Vec w b [v0, v1, v2, v3, v4]) : w.frozen? ⟨b, 0, none⟩ = false ∧ w.frozen? ⟨b, 1, none⟩ = false ∧ w.frozen? ⟨b, 2, none⟩ = false ∧ w.frozen? ⟨b, 3, none⟩ = false ∧ w.frozen? ⟨b, 4, none⟩ = false :=
  ⟨(h 0 _ rfl).2, (h 1 _ rfl).2, (h 2 _ rfl).2, (h 3 _ rfl).2, (h 4 _ rfl).2⟩
theorem mkB2 (w : World) (l0 l1 : List Value) (T0 T1 : TypeId) : ∃ u0 u1, w.alloc (.cells l0.toArray T0) = u0 ∧ u0.alloc (.cells l1.toArray T1) = u1 ∧ u0.heap.size = w.heap.size + 1 ∧ u1.heap.size = w.heap.size + 1 + 1 ∧ Vec u1 (w.heap.size) l0 ∧ Vec u1 (w.heap.size + 1) l1 ∧ Ext w u1 := by
  have X0 := x1 w (.cells l0.toArray T0)
  have B0 := vec_made w l0 T0
  obtain ⟨u0, h0⟩ : ∃ u, w.alloc (.cells l0.toArray T0) = u := ⟨_, rfl⟩
  rw [h0] at X0 B0
  have s0 : u0.heap.size = w.heap.size + 1 := by rw [← h0, World.size_alloc]
  have X := X0
  have X1 := x1 u0 (.cells l1.toArray T1)
  have B1 := vec_made u0 l1 T1
  obtain ⟨u1, h1⟩ : ∃ u, u0.alloc (.cells l1.toArray T1) = u := ⟨_, rfl⟩
  rw [h1] at X1 B1
  rw [s0] at B1
  have s1 : u1.heap.size = w.heap.size + 1 + 1 := by rw [← h1, World.size_alloc, s0]
  have B0 := B0.later X1
  have X := xt X X1
  exact ⟨u0, u1, h0, h1, s0, s1, B0, B1, X⟩
theorem mkB3 (w : World) (l0 l1 l2 : List Value) (T0 T1 T2 : TypeId) : ∃ u0 u1 u2, w.alloc (.cells l0.toArray T0) = u0 ∧ u0.alloc (.cells l1.toArray T1) = u1 ∧ u1.alloc (.cells l2.toArray T2) = u2 ∧ u0.heap.size = w.heap.size + 1 ∧ u1.heap.size = w.heap.size + 1 + 1 ∧ u2.heap.size = w.heap.size + 1 + 1 + 1 ∧ Vec u2 (w.heap.size) l0 ∧ Vec u2 (w.heap.size + 1) l1 ∧ Vec u2 (w.heap.size + 1 + 1) l2 ∧ Ext w u2 := by
  have X0 := x1 w (.cells l0.toArray T0)
  have B0 := vec_made w l0 T0
  obtain ⟨u0, h0⟩ : ∃ u, w.alloc (.cells l0.toArray T0) = u := ⟨_, rfl⟩
  rw [h0] at X0 B0
  have s0 : u0.heap.size = w.heap.size + 1 := by rw [← h0, World.size_alloc]
  have X := X0
  have X1 := x1 u0 (.cells l1.toArray T1)
  have B1 := vec_made u0 l1 T1
  obtain ⟨u1, h1⟩ : ∃ u, u0.alloc (.cells l1.toArray T1) = u := ⟨_, rfl⟩
  rw [h1] at X1 B1
  rw [s0] at B1
  have s1 : u1.heap.size = w.heap.size + 1 + 1 := by rw [← h1, World.size_alloc, s0]
  have B0 := B0.later X1
  have X := xt X X1
  have X2 := x1 u1 (.cells l2.toArray T2)
  have B2 := vec_made u1 l2 T2
  obtain ⟨u2, h2⟩ : ∃ u, u1.alloc (.cells l2.toArray T2) = u := ⟨_, rfl⟩
  rw [h2] at X2 B2
  rw [s1] at B2
  have s2 : u2.heap.size = w.heap.size + 1 + 1 + 1 := by rw [← h2, World.size_alloc, s1]
  have B0 := B0.later X2
  have B1 := B1.later X2
  have X := xt X X2
  exact ⟨u0, u1, u2, h0, h1, h2, s0, s1, s2, B0, B1, B2, X⟩

/-- The last store into an answer's cells. -/
theorem fin5 {a w : World} {b : Nat} (V : Vec w b (valL 0 false 0 0 [])) (X : Ext a w) (hb : a.heap.size ≤ b) (k : Int) (n : Bool) (d x : Int) (t : List UInt8) :
    ∃ wy, (((((w.setCell ⟨b, 0, none⟩ (.int .i64 k)).setCell ⟨b, 1, none⟩ (.bool n)).setCell ⟨b, 2, none⟩ (.int .i64 d)).setCell ⟨b, 3, none⟩ (.int .i64 x)).setCell ⟨b, 4, none⟩ (sV t)) = wy ∧ Ext a wy ∧ (w.cell? ⟨b, 0, none⟩ = some (.int .i64 0) ∧ w.cell? ⟨b, 1, none⟩ = some (.bool false) ∧ w.cell? ⟨b, 2, none⟩ = some (.int .i64 0) ∧ w.cell? ⟨b, 3, none⟩ = some (.int .i64 0) ∧ w.cell? ⟨b, 4, none⟩ = some (sV [])) ∧ (w.frozen? ⟨b, 0, none⟩ = false ∧ w.frozen? ⟨b, 1, none⟩ = false ∧ w.frozen? ⟨b, 2, none⟩ = false ∧ w.frozen? ⟨b, 3, none⟩ = false ∧ w.frozen? ⟨b, 4, none⟩ = false) ∧ wy.cell? ⟨b, 0, none⟩ = some (.int .i64 k) ∧ wy.cell? ⟨b, 1, none⟩ = some (.bool n) ∧ wy.cell? ⟨b, 2, none⟩ = some (.int .i64 d) ∧ wy.cell? ⟨b, 3, none⟩ = some (.int .i64 x) ∧ wy.cell? ⟨b, 4, none⟩ = some (sV t) := by
  have FG := V.put5 (.int .i64 k) (.bool n) (.int .i64 d) (.int .i64 x) (sV t)
  have FX := Ext.setL (b := b) hb [.int .i64 k, .bool n, .int .i64 d, .int .i64 x, sV t] 0 X
  exact ⟨_, rfl, FX, V.five, V.fiveF, FG.five⟩

set_option maxRecDepth 8000 in
set_option maxHeartbeats 1000000 in
theorem capsI (l : List UInt8) (w : World) (hl : l.length ≤ 2000000) :
    Calls Tryz.prog 57 #[sV l] w fun e w' => e = .returned (sV (l.map upC)) ∧ Ext w w' := by
  obtain ⟨cap, wb, hcv, hcap, X0, V0⟩ := bytes_made l w
  obtain ⟨n, hn⟩ : ∃ n, l.length = n := ⟨_, rfl⟩
  rw [hn] at hcv hcap hl
  have HN : Hid (l.length = n) := hn
  have V0' : Hid (Vec wb w.heap.size (encB (upK l 0))) := by show Vec _ _ _; rw [upK_zero]; exact V0
  clear hn V0
  go_enter Tryz.func57, Tryz.ntmps57
  go_wp2_with fail
  clear hcv
  go_loopw [10] (fun i wr => ∃ k : Nat, k ≤ n ∧ i = .int .i64 k ∧ Hid (Vec wr w.heap.size (encB (upK l k))) ∧ Ext w wr) (fun i _ => n - (intOf i).toNat)
  case atStart => exact ⟨0, by omega, rfl, V0', X0⟩
  case round =>
    obtain ⟨k, hk, rfl, V, X⟩ := hrel
    by_cases hlt : k < n
    · obtain ⟨c, hc⟩ : ∃ c, l[k]? = some c := ⟨_, List.getElem?_eq_getElem (by rw [HN.out]; exact hlt)⟩
      obtain ⟨a0, f0⟩ := V.out k _ (encB_at (upK_at hc))
      have i1 : (0 : Int) ≤ (k : Int) := by omega
      have i2 : (k : Int) < (n : Int) := by omega
      have hz : c.toNat < 256 := UInt8.toNat_lt c
      have VP := V.out.put k (by rw [encB_length, upK_length, HN.out]; exact hlt) (.int .u8 ((upC c).toNat : Int))
      have es : (encB (upK l k)).set k (.int .u8 ((upC c).toNat : Int)) = encB (upK l (k + 1)) := by rw [upK_succ hc]; simp [encB, List.map_set]
      rw [es] at VP
      by_cases hs : 97 ≤ c.toNat ∧ c.toNat ≤ 122
      · have eu := upC_small hs
        rw [eu] at VP
        have HV : Hid (Vec (wr.setCell ⟨w.heap.size, k, none⟩ (.int .u8 ((c.toNat : Int) - 32))) w.heap.size (encB (upK l (k + 1)))) := VP
        obtain ⟨z, ez⟩ : ∃ z : Int, (c.toNat : Int) = z := ⟨_, rfl⟩
        rw [ez] at a0 HV
        have z1 : 97 ≤ z := by omega
        have z2 : z ≤ 122 := by omega
        clear V VP es eu hc hs ez hz
        go_wp2_with fail
        go_roundw
        case rel => exact ⟨k + 1, by omega, by go_num, by first | exact HV | (show Vec _ _ _; have := HV.out; rw [show z - 97 + 65 = z - 32 by omega]; exact this), xset X (Nat.le_refl _) _⟩
        case measure => simp [intOf]; omega
      · have eu := upC_other hs
        have HV : Hid (Vec wr w.heap.size (encB (upK l (k + 1)))) := by
          show Vec _ _ _
          have : upK l (k + 1) = upK l k := by
            rw [upK_succ hc, eu]
            exact List.ext_getElem? fun i => by
              rw [List.getElem?_set]
              split
              · next e => subst e; rw [if_pos (by rw [upK_length, HN.out]; exact hlt)]; exact (upK_at hc).symm
              · rfl
          rw [this]; exact V.out
        obtain ⟨z, ez⟩ : ∃ z : Int, (c.toNat : Int) = z := ⟨_, rfl⟩
        rw [ez] at a0
        have z3 : 0 ≤ z ∧ z ≤ 255 := by omega
        have z4 : z < 97 ∨ 122 < z := by omega
        clear V VP es eu hc hs ez hz
        rcases z4 with z4 | z4
        · go_wp2_with fail
          go_roundw
          case rel => exact ⟨k + 1, by omega, by go_num, HV, X⟩
          case measure => simp [intOf]; omega
        · have z5 : 97 ≤ z := by omega
          go_wp2_with fail
          go_roundw
          case rel => exact ⟨k + 1, by omega, by go_num, HV, X⟩
          case measure => simp [intOf]; omega
    · obtain rfl : k = n := by omega
      have hb := bytes_back (l.map upC) w.heap.size cap wr (by have := V.out; rw [← HN.out, upK_all] at this; exact this)
      rw [List.length_map, HN.out] at hb
      go_wp2_with fail
      go_ret
      exact ⟨rfl, X⟩

set_option maxRecDepth 8000 in
set_option maxHeartbeats 1000000 in
theorem capsS (l : List UInt8) (w : World) (hl : l.length ≤ 2000000) :
    Calls Tryz.prog 85 #[sV l] w fun e w' => e = .returned (sV (l.map upC)) ∧ Ext w w' := by
  obtain ⟨cap, wb, hcv, hcap, X0, V0⟩ := bytes_made l w
  obtain ⟨n, hn⟩ : ∃ n, l.length = n := ⟨_, rfl⟩
  rw [hn] at hcv hcap hl
  have HN : Hid (l.length = n) := hn
  have V0' : Hid (Vec wb w.heap.size (encB (upK l 0))) := by show Vec _ _ _; rw [upK_zero]; exact V0
  clear hn V0
  go_enter Tryz.func85, Tryz.ntmps85
  go_wp2_with fail
  clear hcv
  go_loopw [10] (fun i wr => ∃ k : Nat, k ≤ n ∧ i = .int .i64 k ∧ Hid (Vec wr w.heap.size (encB (upK l k))) ∧ Ext w wr) (fun i _ => n - (intOf i).toNat)
  case atStart => exact ⟨0, by omega, rfl, V0', X0⟩
  case round =>
    obtain ⟨k, hk, rfl, V, X⟩ := hrel
    by_cases hlt : k < n
    · obtain ⟨c, hc⟩ : ∃ c, l[k]? = some c := ⟨_, List.getElem?_eq_getElem (by rw [HN.out]; exact hlt)⟩
      obtain ⟨a0, f0⟩ := V.out k _ (encB_at (upK_at hc))
      have i1 : (0 : Int) ≤ (k : Int) := by omega
      have i2 : (k : Int) < (n : Int) := by omega
      have hz : c.toNat < 256 := UInt8.toNat_lt c
      have VP := V.out.put k (by rw [encB_length, upK_length, HN.out]; exact hlt) (.int .u8 ((upC c).toNat : Int))
      have es : (encB (upK l k)).set k (.int .u8 ((upC c).toNat : Int)) = encB (upK l (k + 1)) := by rw [upK_succ hc]; simp [encB, List.map_set]
      rw [es] at VP
      by_cases hs : 97 ≤ c.toNat ∧ c.toNat ≤ 122
      · have eu := upC_small hs
        rw [eu] at VP
        have HV : Hid (Vec (wr.setCell ⟨w.heap.size, k, none⟩ (.int .u8 ((c.toNat : Int) - 32))) w.heap.size (encB (upK l (k + 1)))) := VP
        obtain ⟨z, ez⟩ : ∃ z : Int, (c.toNat : Int) = z := ⟨_, rfl⟩
        rw [ez] at a0 HV
        have z1 : 97 ≤ z := by omega
        have z2 : z ≤ 122 := by omega
        clear V VP es eu hc hs ez hz
        go_wp2_with fail
        go_roundw
        case rel => exact ⟨k + 1, by omega, by go_num, HV, xset X (Nat.le_refl _) _⟩
        case measure => simp [intOf]; omega
      · have eu := upC_other hs
        have HV : Hid (Vec wr w.heap.size (encB (upK l (k + 1)))) := by
          show Vec _ _ _
          have : upK l (k + 1) = upK l k := by
            rw [upK_succ hc, eu]
            exact List.ext_getElem? fun i => by
              rw [List.getElem?_set]
              split
              · next e => subst e; rw [if_pos (by rw [upK_length, HN.out]; exact hlt)]; exact (upK_at hc).symm
              · rfl
          rw [this]; exact V.out
        obtain ⟨z, ez⟩ : ∃ z : Int, (c.toNat : Int) = z := ⟨_, rfl⟩
        rw [ez] at a0
        have z3 : 0 ≤ z ∧ z ≤ 255 := by omega
        have z4 : z < 97 ∨ 122 < z := by omega
        clear V VP es eu hc hs ez hz
        rcases z4 with z4 | z4
        · go_wp2_with fail
          go_roundw
          case rel => exact ⟨k + 1, by omega, by go_num, HV, X⟩
          case measure => simp [intOf]; omega
        · have z5 : 97 ≤ z := by omega
          go_wp2_with fail
          go_roundw
          case rel => exact ⟨k + 1, by omega, by go_num, HV, X⟩
          case measure => simp [intOf]; omega
    · obtain rfl : k = n := by omega
      have hb := bytes_back (l.map upC) w.heap.size cap wr (by have := V.out; rw [← HN.out, upK_all] at this; exact this)
      rw [List.length_map, HN.out] at hb
      go_wp2_with fail
      go_ret
      exact ⟨rfl, X⟩

set_option maxRecDepth 8000 in
set_option maxHeartbeats 2000000 in
theorem numE (w : World) (hT : Tens w) (hE : ErrTab w) :
    Calls Tryz.prog 113 #[valV 0 false 0 0 []] w fun e w' => e = .returned (valV 1 false 0 0 []) ∧ Ext w w' := by
  obtain ⟨R, hR⟩ : ∃ R, valV 1 false 0 0 [] = R := ⟨_, rfl⟩
  have HR : Hid (valV 1 false 0 0 [] = R) := hR
  rw [hR]
  clear hR
  obtain ⟨wa, wb, ha, hb, sa, _, B1, B2, X⟩ := mkB2 w [.int .i64 0, .bool false, .int .i64 0, .int .i64 0, sV []] [.int .i64 0, .bool false, .int .i64 0, .int .i64 0, sV []] 50 50
  obtain ⟨a0, a1, a2, a3, a4⟩ := Vec.five B1
  go_enter Tryz.func113, Tryz.ntmps113
  go_wp2_with fail
  clear ha hb sa a0 a1 a2 a3 a4
  refine (goodVI 0 false 0 0 [] wb (by decide) (by decide) (by decide) (hT.later X) (hE.later X)).mono ?_
  rintro e w1 ⟨rfl, e1⟩
  rw [show goodV 0 false 0 0 [] = true by decide]
  have C1 := B1.later e1
  have C2 := B2.later e1
  have X1 := xt X e1
  obtain ⟨a0, a1, a2, a3, a4⟩ := Vec.five C1
  go_wp2_with fail
  clear a0 a1 a2 a3 a4
  refine (numVI false 0 0 _).mono ?_
  rintro e w2 ⟨rfl, e2⟩
  obtain ⟨wy, hy, FX, ⟨b0, b1, b2, b3, b4⟩, ⟨fb0, fb1, fb2, fb3, fb4⟩, fd0, fd1, fd2, fd3, fd4⟩ := fin5 (C2.later e2) (xt X1 e2) (by omega) (1) (false) (0) (0) ([])
  go_wp2_with fail
  exact bodyPost_ret (v := valV 1 false 0 0 []) (by simp [results, Tryz.results113, go_sem, fd0, fd1, fd2, fd3, fd4]) rfl ⟨congrArg Ending.returned HR.out, FX⟩
set_option maxRecDepth 8000 in
set_option maxHeartbeats 2000000 in
theorem textE (w : World) (hT : Tens w) (hE : ErrTab w) :
    Calls Tryz.prog 114 #[valV 0 false 0 0 []] w fun e w' => e = .returned (valV 2 false 0 0 []) ∧ Ext w w' := by
  obtain ⟨R, hR⟩ : ∃ R, valV 2 false 0 0 [] = R := ⟨_, rfl⟩
  have HR : Hid (valV 2 false 0 0 [] = R) := hR
  rw [hR]
  clear hR
  obtain ⟨wa, wb, ha, hb, sa, _, B1, B2, X⟩ := mkB2 w [.int .i64 0, .bool false, .int .i64 0, .int .i64 0, sV []] [.int .i64 0, .bool false, .int .i64 0, .int .i64 0, sV []] 50 50
  obtain ⟨a0, a1, a2, a3, a4⟩ := Vec.five B1
  go_enter Tryz.func114, Tryz.ntmps114
  go_wp2_with fail
  clear ha hb sa a0 a1 a2 a3 a4
  refine (goodVI 0 false 0 0 [] wb (by decide) (by decide) (by decide) (hT.later X) (hE.later X)).mono ?_
  rintro e w1 ⟨rfl, e1⟩
  rw [show goodV 0 false 0 0 [] = true by decide]
  have C1 := B1.later e1
  have C2 := B2.later e1
  have X1 := xt X e1
  obtain ⟨a0, a1, a2, a3, a4⟩ := Vec.five C1
  go_wp2_with fail
  clear a0 a1 a2 a3 a4
  refine (textVI [] _).mono ?_
  rintro e w2 ⟨rfl, e2⟩
  obtain ⟨wy, hy, FX, ⟨b0, b1, b2, b3, b4⟩, ⟨fb0, fb1, fb2, fb3, fb4⟩, fd0, fd1, fd2, fd3, fd4⟩ := fin5 (C2.later e2) (xt X1 e2) (by omega) (2) (false) (0) (0) ([])
  go_wp2_with fail
  exact bodyPost_ret (v := valV 2 false 0 0 []) (by simp [results, Tryz.results114, go_sem, fd0, fd1, fd2, fd3, fd4]) rfl ⟨congrArg Ending.returned HR.out, FX⟩
set_option maxRecDepth 8000 in
set_option maxHeartbeats 2000000 in
theorem boolE (w : World) (hT : Tens w) (hE : ErrTab w) :
    Calls Tryz.prog 115 #[valV 0 false 0 0 []] w fun e w' => e = .returned (valV 3 false 0 0 falseT) ∧ Ext w w' := by
  obtain ⟨R, hR⟩ : ∃ R, valV 3 false 0 0 falseT = R := ⟨_, rfl⟩
  have HR : Hid (valV 3 false 0 0 falseT = R) := hR
  rw [hR]
  clear hR
  obtain ⟨wa, wb, ha, hb, sa, _, B1, B2, X⟩ := mkB2 w [.int .i64 0, .bool false, .int .i64 0, .int .i64 0, sV []] [.int .i64 0, .bool false, .int .i64 0, .int .i64 0, sV []] 50 50
  obtain ⟨a0, a1, a2, a3, a4⟩ := Vec.five B1
  go_enter Tryz.func115, Tryz.ntmps115
  go_wp2_with fail
  clear ha hb sa a0 a1 a2 a3 a4
  refine (goodVI 0 false 0 0 [] wb (by decide) (by decide) (by decide) (hT.later X) (hE.later X)).mono ?_
  rintro e w1 ⟨rfl, e1⟩
  rw [show goodV 0 false 0 0 [] = true by decide]
  have C1 := B1.later e1
  have C2 := B2.later e1
  have X1 := xt X e1
  obtain ⟨a0, a1, a2, a3, a4⟩ := Vec.five C1
  go_wp2_with fail
  clear a0 a1 a2 a3 a4
  refine (boolVI false _).mono ?_
  rintro e w2 ⟨rfl, e2⟩
  obtain ⟨wy, hy, FX, ⟨b0, b1, b2, b3, b4⟩, ⟨fb0, fb1, fb2, fb3, fb4⟩, fd0, fd1, fd2, fd3, fd4⟩ := fin5 (C2.later e2) (xt X1 e2) (by omega) (3) (false) (0) (0) (falseT)
  go_wp2_with fail
  exact bodyPost_ret (v := valV 3 false 0 0 falseT) (by simp [results, Tryz.results115, go_sem, fd0, fd1, fd2, fd3, fd4]) rfl ⟨congrArg Ending.returned HR.out, FX⟩
/-- What stands for a value beside one of a kind. -/
def besideV (k : Int) (n : Bool) (d x : Int) (t : List UInt8) (k' : Int) : Value :=
  if k ≠ 0 then valV k n d x t else if k' = 1 then valV 1 false 0 0 [] else if k' = 2 then valV 2 false 0 0 [] else if k' = 3 then valV 3 false 0 0 falseT else valV k n d x t
set_option maxHeartbeats 1000000 in
theorem isErrI (k : Int) (n : Bool) (d x : Int) (t : List UInt8) (w : World) :
    Calls Tryz.prog 46 #[valV k n d x t] w fun e w' => e = .returned (.bool (decide (k = 4))) ∧ Ext w w' := by
  have X := x1 w (.cells #[.int .i64 k, .bool n, .int .i64 d, .int .i64 x, sV t] 50)
  by_cases h : k = 4
  · subst h
    go_enter Tryz.func46, Tryz.ntmps46
    go_wp2_with fail
    go_ret
    exact ⟨rfl, X⟩
  · rw [show decide (k = 4) = false by simpa using h]
    have hb : (k == 4) = false := by simpa using h
    go_enter Tryz.func46, Tryz.ntmps46
    go_wp2_with fail
    go_ret
    exact ⟨rfl, X⟩
set_option maxRecDepth 8000 in
set_option maxHeartbeats 2000000 in
theorem besideI (k : Int) (n : Bool) (d x : Int) (t : List UInt8) (k' : Int) (n' : Bool) (d' x' : Int) (t' : List UInt8) (w : World) (hT : Tens w) (hE : ErrTab w) (hg : goodV k n d x t = true) :
    Calls Tryz.prog 75 #[valV k n d x t, valV k' n' d' x' t'] w fun e w' => e = .returned (besideV k n d x t k') ∧ Ext w w' := by
  obtain ⟨R, hR⟩ : ∃ R, besideV k n d x t k' = R := ⟨_, rfl⟩
  have HR0 : Hid (besideV k n d x t k' = R) := hR
  rw [hR]
  clear hR
  have X1 := x1 w (.cells #[.int .i64 k, .bool n, .int .i64 d, .int .i64 x, sV t] 50)
  have B1 := vec_made w (valL k n d x t) 50
  obtain ⟨wa, ha⟩ : ∃ wa, w.alloc (.cells #[.int .i64 k, .bool n, .int .i64 d, .int .i64 x, sV t] 50) = wa := ⟨_, rfl⟩
  have X2 := x1 wa (.cells #[.int .i64 k', .bool n', .int .i64 d', .int .i64 x', sV t'] 50)
  have B2 := vec_made wa (valL k' n' d' x' t') 50
  obtain ⟨wb, hb⟩ : ∃ wb, wa.alloc (.cells #[.int .i64 k', .bool n', .int .i64 d', .int .i64 x', sV t'] 50) = wb := ⟨_, rfl⟩
  have sa : wa.heap.size = w.heap.size + 1 := by rw [← ha, World.size_alloc]
  have sb : wb.heap.size = w.heap.size + 1 + 1 := by rw [← hb, World.size_alloc, sa]
  change Vec (w.alloc (.cells #[.int .i64 k, .bool n, .int .i64 d, .int .i64 x, sV t] 50)) _ _ at B1
  change Vec (wa.alloc (.cells #[.int .i64 k', .bool n', .int .i64 d', .int .i64 x', sV t'] 50)) _ _ at B2
  rw [ha] at X1 B1
  rw [hb] at X2 B2
  rw [sa] at B2
  have B1 := B1.later X2
  have X := xt X1 X2
  have X3 := x1 wb (.cells #[.int .i64 0, .bool false, .int .i64 0, .int .i64 0, sV []] 50)
  have B3 := vec_made wb (valL 0 false 0 0 []) 50
  obtain ⟨wc, hc⟩ : ∃ wc, wb.alloc (.cells #[.int .i64 0, .bool false, .int .i64 0, .int .i64 0, sV []] 50) = wc := ⟨_, rfl⟩
  change Vec (wb.alloc (.cells #[.int .i64 0, .bool false, .int .i64 0, .int .i64 0, sV []] 50)) _ _ at B3
  rw [hc] at X3 B3
  rw [sb] at B3
  have B1 := B1.later X3
  have B2 := B2.later X3
  have X := xt X X3
  clear X1 X2 X3
  obtain ⟨a0, a1, a2, a3, a4⟩ := Vec.five B1
  obtain ⟨c0, c1, c2, c3, c4⟩ := Vec.five B2
  go_enter Tryz.func75, Tryz.ntmps75
  by_cases h0 : k = 0
  · subst h0
    obtain ⟨rfl, rfl, rfl⟩ := goodV_zero hg (by decide)
    obtain rfl := goodV_empty hg
    have T1 := hT.later X
    have E1 := hE.later X
    clear hg hT hE
    by_cases h1 : k' = 1
    · subst h1
      have HR : Hid (valV 1 false 0 0 [] = R) := by show _ = _; rw [← HR0.out]; simp [besideV]
      go_wp2_with fail
      clear ha hb hc sa sb a0 a1 a2 a3 a4 c0 c1 c2 c3 c4
      refine (numE wc T1 E1).mono ?_
      rintro e w2 ⟨rfl, e2⟩
      obtain ⟨wy, hy, FX, ⟨b0, b1, b2, b3, b4⟩, ⟨fb0, fb1, fb2, fb3, fb4⟩, fd0, fd1, fd2, fd3, fd4⟩ := fin5 (B3.later e2) (xt X e2) (by omega) (1) (false) (0) (0) ([])
      go_wp2_with fail
      exact bodyPost_ret (v := valV 1 false 0 0 []) (by simp [results, Tryz.results75, go_sem, fd0, fd1, fd2, fd3, fd4]) rfl ⟨congrArg Ending.returned HR.out, FX⟩
    · by_cases h2 : k' = 2
      · subst h2
        have HR : Hid (valV 2 false 0 0 [] = R) := by show _ = _; rw [← HR0.out]; simp [besideV]
        go_wp2_with fail
        clear ha hb hc sa sb a0 a1 a2 a3 a4 c0 c1 c2 c3 c4
        refine (textE wc T1 E1).mono ?_
        rintro e w2 ⟨rfl, e2⟩
        obtain ⟨wy, hy, FX, ⟨b0, b1, b2, b3, b4⟩, ⟨fb0, fb1, fb2, fb3, fb4⟩, fd0, fd1, fd2, fd3, fd4⟩ := fin5 (B3.later e2) (xt X e2) (by omega) (2) (false) (0) (0) ([])
        go_wp2_with fail
        exact bodyPost_ret (v := valV 2 false 0 0 []) (by simp [results, Tryz.results75, go_sem, fd0, fd1, fd2, fd3, fd4]) rfl ⟨congrArg Ending.returned HR.out, FX⟩
      · by_cases h3 : k' = 3
        · subst h3
          have HR : Hid (valV 3 false 0 0 falseT = R) := by show _ = _; rw [← HR0.out]; simp [besideV]
          go_wp2_with fail
          clear ha hb hc sa sb a0 a1 a2 a3 a4 c0 c1 c2 c3 c4
          refine (boolE wc T1 E1).mono ?_
          rintro e w2 ⟨rfl, e2⟩
          obtain ⟨wy, hy, FX, ⟨b0, b1, b2, b3, b4⟩, ⟨fb0, fb1, fb2, fb3, fb4⟩, fd0, fd1, fd2, fd3, fd4⟩ := fin5 (B3.later e2) (xt X e2) (by omega) (3) (false) (0) (0) (falseT)
          go_wp2_with fail
          exact bodyPost_ret (v := valV 3 false 0 0 falseT) (by simp [results, Tryz.results75, go_sem, fd0, fd1, fd2, fd3, fd4]) rfl ⟨congrArg Ending.returned HR.out, FX⟩
        · have HR : Hid (valV 0 false 0 0 [] = R) := by show _ = _; rw [← HR0.out]; simp [besideV, h1, h2, h3]
          obtain ⟨wy, hy, FX, ⟨b0, b1, b2, b3, b4⟩, ⟨fb0, fb1, fb2, fb3, fb4⟩, fd0, fd1, fd2, fd3, fd4⟩ := fin5 (B3) (X) (by omega) (0) (false) (0) (0) ([])
          go_wp2_with fail
          exact bodyPost_ret (v := valV 0 false 0 0 []) (by simp [results, Tryz.results75, go_sem, fd0, fd1, fd2, fd3, fd4]) rfl ⟨congrArg Ending.returned HR.out, FX⟩
  · have HR : Hid (valV k n d x t = R) := by show _ = _; rw [← HR0.out]; simp [besideV, h0]
    obtain ⟨wy, hy, FX, ⟨b0, b1, b2, b3, b4⟩, ⟨fb0, fb1, fb2, fb3, fb4⟩, fd0, fd1, fd2, fd3, fd4⟩ := fin5 (B3) (X) (by omega) (k) (n) (d) (x) (t)
    go_wp2_with fail
    exact bodyPost_ret (v := valV k n d x t) (by simp [results, Tryz.results75, go_sem, fd0, fd1, fd2, fd3, fd4]) rfl ⟨congrArg Ending.returned HR.out, FX⟩
set_option maxRecDepth 8000 in
set_option maxHeartbeats 2000000 in
theorem likeS (k : Int) (n : Bool) (d x : Int) (t : List UInt8) (k' : Int) (n' : Bool) (d' x' : Int) (t' : List UInt8) (w : World)  :
    Calls Tryz.prog 82 #[valV k n d x t, valV k' n' d' x' t'] w fun e w' => e = .returned (besideV k n d x t k') ∧ Ext w w' := by
  obtain ⟨R, hR⟩ : ∃ R, besideV k n d x t k' = R := ⟨_, rfl⟩
  have HR0 : Hid (besideV k n d x t k' = R) := hR
  rw [hR]
  clear hR
  have X1 := x1 w (.cells #[.int .i64 k, .bool n, .int .i64 d, .int .i64 x, sV t] 50)
  have B1 := vec_made w (valL k n d x t) 50
  obtain ⟨wa, ha⟩ : ∃ wa, w.alloc (.cells #[.int .i64 k, .bool n, .int .i64 d, .int .i64 x, sV t] 50) = wa := ⟨_, rfl⟩
  have X2 := x1 wa (.cells #[.int .i64 k', .bool n', .int .i64 d', .int .i64 x', sV t'] 50)
  have B2 := vec_made wa (valL k' n' d' x' t') 50
  obtain ⟨wb, hb⟩ : ∃ wb, wa.alloc (.cells #[.int .i64 k', .bool n', .int .i64 d', .int .i64 x', sV t'] 50) = wb := ⟨_, rfl⟩
  have sa : wa.heap.size = w.heap.size + 1 := by rw [← ha, World.size_alloc]
  have sb : wb.heap.size = w.heap.size + 1 + 1 := by rw [← hb, World.size_alloc, sa]
  change Vec (w.alloc (.cells #[.int .i64 k, .bool n, .int .i64 d, .int .i64 x, sV t] 50)) _ _ at B1
  change Vec (wa.alloc (.cells #[.int .i64 k', .bool n', .int .i64 d', .int .i64 x', sV t'] 50)) _ _ at B2
  rw [ha] at X1 B1
  rw [hb] at X2 B2
  rw [sa] at B2
  have B1 := B1.later X2
  have X := xt X1 X2
  have X3 := x1 wb (.cells #[.int .i64 0, .bool false, .int .i64 0, .int .i64 0, sV []] 50)
  have B3 := vec_made wb (valL 0 false 0 0 []) 50
  obtain ⟨wc, hc⟩ : ∃ wc, wb.alloc (.cells #[.int .i64 0, .bool false, .int .i64 0, .int .i64 0, sV []] 50) = wc := ⟨_, rfl⟩
  change Vec (wb.alloc (.cells #[.int .i64 0, .bool false, .int .i64 0, .int .i64 0, sV []] 50)) _ _ at B3
  rw [hc] at X3 B3
  rw [sb] at B3
  have B1 := B1.later X3
  have B2 := B2.later X3
  have X := xt X X3
  clear X1 X2 X3
  obtain ⟨a0, a1, a2, a3, a4⟩ := Vec.five B1
  obtain ⟨c0, c1, c2, c3, c4⟩ := Vec.five B2
  go_enter Tryz.func82, Tryz.ntmps82
  by_cases h0 : k = 0
  · subst h0
    by_cases h1 : k' = 1
    · subst h1
      have HR : Hid (valV 1 false 0 0 [] = R) := by show _ = _; rw [← HR0.out]; simp [besideV]
      go_wp2_with fail
      clear ha hb hc sa sb a0 a1 a2 a3 a4 c0 c1 c2 c3 c4
      refine (numVS false 0 0 wc).mono ?_
      rintro e w2 ⟨rfl, e2⟩
      obtain ⟨wy, hy, FX, ⟨b0, b1, b2, b3, b4⟩, ⟨fb0, fb1, fb2, fb3, fb4⟩, fd0, fd1, fd2, fd3, fd4⟩ := fin5 (B3.later e2) (xt X e2) (by omega) (1) (false) (0) (0) ([])
      go_wp2_with fail
      exact bodyPost_ret (v := valV 1 false 0 0 []) (by simp [results, Tryz.results82, go_sem, fd0, fd1, fd2, fd3, fd4]) rfl ⟨congrArg Ending.returned HR.out, FX⟩
    · by_cases h2 : k' = 2
      · subst h2
        have HR : Hid (valV 2 false 0 0 [] = R) := by show _ = _; rw [← HR0.out]; simp [besideV]
        go_wp2_with fail
        clear ha hb hc sa sb a0 a1 a2 a3 a4 c0 c1 c2 c3 c4
        refine (textVS [] wc).mono ?_
        rintro e w2 ⟨rfl, e2⟩
        obtain ⟨wy, hy, FX, ⟨b0, b1, b2, b3, b4⟩, ⟨fb0, fb1, fb2, fb3, fb4⟩, fd0, fd1, fd2, fd3, fd4⟩ := fin5 (B3.later e2) (xt X e2) (by omega) (2) (false) (0) (0) ([])
        go_wp2_with fail
        exact bodyPost_ret (v := valV 2 false 0 0 []) (by simp [results, Tryz.results82, go_sem, fd0, fd1, fd2, fd3, fd4]) rfl ⟨congrArg Ending.returned HR.out, FX⟩
      · by_cases h3 : k' = 3
        · subst h3
          have HR : Hid (valV 3 false 0 0 falseT = R) := by show _ = _; rw [← HR0.out]; simp [besideV]
          go_wp2_with fail
          clear ha hb hc sa sb a0 a1 a2 a3 a4 c0 c1 c2 c3 c4
          refine (boolVS false wc).mono ?_
          rintro e w2 ⟨rfl, e2⟩
          obtain ⟨wy, hy, FX, ⟨b0, b1, b2, b3, b4⟩, ⟨fb0, fb1, fb2, fb3, fb4⟩, fd0, fd1, fd2, fd3, fd4⟩ := fin5 (B3.later e2) (xt X e2) (by omega) (3) (false) (0) (0) (falseT)
          go_wp2_with fail
          exact bodyPost_ret (v := valV 3 false 0 0 falseT) (by simp [results, Tryz.results82, go_sem, fd0, fd1, fd2, fd3, fd4]) rfl ⟨congrArg Ending.returned HR.out, FX⟩
        · have HR : Hid (valV 0 n d x t = R) := by show _ = _; rw [← HR0.out]; simp [besideV, h1, h2, h3]
          obtain ⟨wy, hy, FX, ⟨b0, b1, b2, b3, b4⟩, ⟨fb0, fb1, fb2, fb3, fb4⟩, fd0, fd1, fd2, fd3, fd4⟩ := fin5 (B3) (X) (by omega) (0) (n) (d) (x) (t)
          go_wp2_with fail
          exact bodyPost_ret (v := valV 0 n d x t) (by simp [results, Tryz.results82, go_sem, fd0, fd1, fd2, fd3, fd4]) rfl ⟨congrArg Ending.returned HR.out, FX⟩
  · have HR : Hid (valV k n d x t = R) := by show _ = _; rw [← HR0.out]; simp [besideV, h0]
    obtain ⟨wy, hy, FX, ⟨b0, b1, b2, b3, b4⟩, ⟨fb0, fb1, fb2, fb3, fb4⟩, fd0, fd1, fd2, fd3, fd4⟩ := fin5 (B3) (X) (by omega) (k) (n) (d) (x) (t)
    go_wp2_with fail
    exact bodyPost_ret (v := valV k n d x t) (by simp [results, Tryz.results82, go_sem, fd0, fd1, fd2, fd3, fd4]) rfl ⟨congrArg Ending.returned HR.out, FX⟩

theorem cmp_three : ∀ a b : List UInt8, Lib.compareBytes a b = -1 ∨ Lib.compareBytes a b = 0 ∨ Lib.compareBytes a b = 1
  | [], [] => Or.inr (Or.inl rfl)
  | [], _ :: _ => Or.inl rfl
  | _ :: _, [] => Or.inr (Or.inr rfl)
  | a :: x, b :: y => by
    unfold Lib.compareBytes
    split
    · exact Or.inl rfl
    · split
      · exact Or.inr (Or.inr rfl)
      · exact cmp_three x y
theorem cmp_less : ∀ a b : List UInt8, Op.bytesLess a b = decide (Lib.compareBytes a b = -1)
  | [], [] => rfl
  | [], _ :: _ => rfl
  | _ :: _, [] => rfl
  | a :: x, b :: y => by
    unfold Lib.compareBytes Op.bytesLess
    have ih := cmp_less x y
    by_cases h : a < b
    · simp [h]
    · by_cases h2 : b < a
      · have : ¬ a = b := fun e => by subst e; exact absurd h2 (UInt8.lt_irrefl a)
        simp [h, h2, this]
      · have e : a = b := UInt8.le_antisymm (UInt8.not_lt.1 h2) (UInt8.not_lt.1 h)
        subst e
        simp [UInt8.lt_irrefl, ih]
theorem cmp_same : ∀ a b : List UInt8, (a == b) = decide (Lib.compareBytes a b = 0)
  | [], [] => rfl
  | [], _ :: _ => rfl
  | _ :: _, [] => rfl
  | a :: x, b :: y => by
    unfold Lib.compareBytes
    have ih := cmp_same x y
    by_cases h : a < b
    · have : ¬ a = b := fun e => by subst e; exact absurd h (UInt8.lt_irrefl a)
      simp [h, this]
    · by_cases h2 : b < a
      · have : ¬ a = b := fun e => by subst e; exact absurd h2 (UInt8.lt_irrefl a)
        simp [h, h2, this]
      · have e : a = b := UInt8.le_antisymm (UInt8.not_lt.1 h2) (UInt8.not_lt.1 h)
        subst e
        rw [if_neg (UInt8.lt_irrefl a), if_neg (UInt8.lt_irrefl a), ← ih]
        simp

end Go.Proofs.YtbomplppgobkdaaGreatDoor

