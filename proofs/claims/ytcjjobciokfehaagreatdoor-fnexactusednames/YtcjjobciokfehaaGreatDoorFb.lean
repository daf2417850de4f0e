/-
  Capitals, on both sides.
-/
import Derived.Test.YtcjjobciokfehaaGreatDoorMg1
namespace Go.Proofs.YtcjjobciokfehaaGreatDoor
open Go.RowKit

set_option maxRecDepth 8000 in
set_option maxHeartbeats 1000000 in
theorem capsI (l : List UInt8) (w : World) (hl : l.length ≤ 2000000) :
  Calls Tryz.prog 36 #[sV l] w fun e w' => e = .returned (sV (l.map upC)) ∧ Ext w w' := by
 obtain ⟨cap, wb, hcv, hcap, X0, V0⟩ := bytes_made l w
 obtain ⟨n, hn⟩ : ∃ n, l.length = n := ⟨_, rfl⟩
 rw [hn] at hcv hcap hl
 have HN : Hid (l.length = n) := hn
 have V0' : Hid (Vec wb w.heap.size (encB (upK l 0))) := by show Vec _ _ _; rw [upK_zero]; exact V0
 clear hn V0
 go_enter Tryz.func36, Tryz.ntmps36
 go_wp2_with fail
 clear hcv
 go_loopw [10] (fun i wr => ∃ k : Nat, k ≤ n ∧ i = .int .i64 k ∧ Hid (Vec wr w.heap.size (encB (upK l k))) ∧ Ext w wr) (fun i _ => n - (intOf i).toNat)
 case atStart => exact ⟨0, by omega, rfl, V0', X0⟩
 case round =>
  obtain ⟨k, hk, rfl, V, X⟩ := hrel
  by_cases hlt : k < n
  ·
   obtain ⟨c, hc⟩ : ∃ c, l[k]? = some c := ⟨_, List.getElem?_eq_getElem (by rw [HN.out]; exact hlt)⟩
   obtain ⟨a0, f0⟩ := V.out k _ (encB_at (upK_at hc))
   have i1 : (0 : Int) ≤ (k : Int) := by omega
   have i2 : (k : Int) < (n : Int) := by omega
   have hz : c.toNat < 256 := UInt8.toNat_lt c
   have VP := V.out.put k (by rw [encB_length, upK_length, HN.out]; exact hlt) (.int .u8 ((upC c).toNat : Int))
   have es : (encB (upK l k)).set k (.int .u8 ((upC c).toNat : Int)) = encB (upK l (k + 1)) := by rw [upK_succ hc]; simp [encB, List.map_set]
   rw [es] at VP
   by_cases hs : 97 ≤ c.toNat ∧ c.toNat ≤ 122
   ·
    have eu := upC_small hs
    rw [eu] at VP
    have HV : Hid (Vec (wr.setCell ⟨w.heap.size, k, none⟩ (.int .u8 ((c.toNat : Int) - 32))) w.heap.size (encB (upK l (k + 1)))) := VP
    obtain ⟨z, ez⟩ : ∃ z : Int, (c.toNat : Int) = z := ⟨_, rfl⟩
    rw [ez] at a0 HV
    have z1 : 97 ≤ z := by omega
    have z2 : z ≤ 122 := by omega
    clear V VP es eu hc hs ez hz
    go_wp2_with fail
    go_roundw
    case rel => exact ⟨k + 1, by omega, by go_num, by first | exact HV | (show Vec _ _ _; have := HV.out; rw [show z - 97 + 65 = z - 32 by omega]; exact this), xset X (Nat.le_refl _) _⟩
    case measure => simp [intOf]; omega
   ·
    have eu := upC_other hs
    have HV : Hid (Vec wr w.heap.size (encB (upK l (k + 1)))) := by
     show Vec _ _ _
     have : upK l (k + 1) = upK l k := by
      rw [upK_succ hc, eu]
      exact List.ext_getElem? fun i => by
       rw [List.getElem?_set]
       split
       ·
        next e => subst e; rw [if_pos (by rw [upK_length, HN.out]; exact hlt)]; exact (upK_at hc).symm
       ·
        rfl
     rw [this]; exact V.out
    obtain ⟨z, ez⟩ : ∃ z : Int, (c.toNat : Int) = z := ⟨_, rfl⟩
    rw [ez] at a0
    have z3 : 0 ≤ z ∧ z ≤ 255 := by omega
    have z4 : z < 97 ∨ 122 < z := by omega
    clear V VP es eu hc hs ez hz
    rcases z4 with z4 | z4
    ·
     go_wp2_with fail
     go_roundw
     case rel => exact ⟨k + 1, by omega, by go_num, HV, X⟩
     case measure => simp [intOf]; omega
    ·
     have z5 : 97 ≤ z := by omega
     go_wp2_with fail
     go_roundw
     case rel => exact ⟨k + 1, by omega, by go_num, HV, X⟩
     case measure => simp [intOf]; omega
  ·
   obtain rfl : k = n := by omega
   have hb := bytes_back (l.map upC) w.heap.size cap wr (by have := V.out; rw [← HN.out, upK_all] at this; exact this)
   rw [List.length_map, HN.out] at hb
   go_wp2_with fail
   go_ret
   exact ⟨rfl, X⟩

set_option maxRecDepth 8000 in
set_option maxHeartbeats 1000000 in
theorem capsS (l : List UInt8) (w : World) (hl : l.length ≤ 2000000) :
  Calls Tryz.prog 35 #[sV l] w fun e w' => e = .returned (sV (l.map upC)) ∧ Ext w w' := by
 obtain ⟨cap, wb, hcv, hcap, X0, V0⟩ := bytes_made l w
 obtain ⟨n, hn⟩ : ∃ n, l.length = n := ⟨_, rfl⟩
 rw [hn] at hcv hcap hl
 have HN : Hid (l.length = n) := hn
 have V0' : Hid (Vec wb w.heap.size (encB (upK l 0))) := by show Vec _ _ _; rw [upK_zero]; exact V0
 clear hn V0
 go_enter Tryz.func35, Tryz.ntmps35
 go_wp2_with fail
 clear hcv
 go_loopw [10] (fun i wr => ∃ k : Nat, k ≤ n ∧ i = .int .i64 k ∧ Hid (Vec wr w.heap.size (encB (upK l k))) ∧ Ext w wr) (fun i _ => n - (intOf i).toNat)
 case atStart => exact ⟨0, by omega, rfl, V0', X0⟩
 case round =>
  obtain ⟨k, hk, rfl, V, X⟩ := hrel
  by_cases hlt : k < n
  ·
   obtain ⟨c, hc⟩ : ∃ c, l[k]? = some c := ⟨_, List.getElem?_eq_getElem (by rw [HN.out]; exact hlt)⟩
   obtain ⟨a0, f0⟩ := V.out k _ (encB_at (upK_at hc))
   have i1 : (0 : Int) ≤ (k : Int) := by omega
   have i2 : (k : Int) < (n : Int) := by omega
   have hz : c.toNat < 256 := UInt8.toNat_lt c
   have VP := V.out.put k (by rw [encB_length, upK_length, HN.out]; exact hlt) (.int .u8 ((upC c).toNat : Int))
   have es : (encB (upK l k)).set k (.int .u8 ((upC c).toNat : Int)) = encB (upK l (k + 1)) := by rw [upK_succ hc]; simp [encB, List.map_set]
   rw [es] at VP
   by_cases hs : 97 ≤ c.toNat ∧ c.toNat ≤ 122
   ·
    have eu := upC_small hs
    rw [eu] at VP
    have HV : Hid (Vec (wr.setCell ⟨w.heap.size, k, none⟩ (.int .u8 ((c.toNat : Int) - 32))) w.heap.size (encB (upK l (k + 1)))) := VP
    obtain ⟨z, ez⟩ : ∃ z : Int, (c.toNat : Int) = z := ⟨_, rfl⟩
    rw [ez] at a0 HV
    have z1 : 97 ≤ z := by omega
    have z2 : z ≤ 122 := by omega
    clear V VP es eu hc hs ez hz
    go_wp2_with fail
    go_roundw
    case rel => exact ⟨k + 1, by omega, by go_num, HV, xset X (Nat.le_refl _) _⟩
    case measure => simp [intOf]; omega
   ·
    have eu := upC_other hs
    have HV : Hid (Vec wr w.heap.size (encB (upK l (k + 1)))) := by
     show Vec _ _ _
     have : upK l (k + 1) = upK l k := by
      rw [upK_succ hc, eu]
      exact List.ext_getElem? fun i => by
       rw [List.getElem?_set]
       split
       ·
        next e => subst e; rw [if_pos (by rw [upK_length, HN.out]; exact hlt)]; exact (upK_at hc).symm
       ·
        rfl
     rw [this]; exact V.out
    obtain ⟨z, ez⟩ : ∃ z : Int, (c.toNat : Int) = z := ⟨_, rfl⟩
    rw [ez] at a0
    have z3 : 0 ≤ z ∧ z ≤ 255 := by omega
    have z4 : z < 97 ∨ 122 < z := by omega
    clear V VP es eu hc hs ez hz
    rcases z4 with z4 | z4
    ·
     go_wp2_with fail
     go_roundw
     case rel => exact ⟨k + 1, by omega, by go_num, HV, X⟩
     case measure => simp [intOf]; omega
    ·
     have z5 : 97 ≤ z := by omega
     go_wp2_with fail
     go_roundw
     case rel => exact ⟨k + 1, by omega, by go_num, HV, X⟩
     case measure => simp [intOf]; omega
  ·
   obtain rfl : k = n := by omega
   have hb := bytes_back (l.map upC) w.heap.size cap wr (by have := V.out; rw [← HN.out, upK_all] at this; exact this)
   rw [List.length_map, HN.out] at hb
   go_wp2_with fail
   go_ret
   exact ⟨rfl, X⟩

end Go.Proofs.YtcjjobciokfehaaGreatDoor

