/-
  Rows of values compared.
-/
import Derived.Test.YtfgohahfppabbaaGreatDoorMg7
import Derived.Deep.RegionHeld3
namespace Go.Proofs.YtfgohahfppabbaaGreatDoor
open Go.RowKit

set_option maxRecDepth 8000 in
set_option maxHeartbeats 2000000 in
theorem eqVals (v v' : Value) (l : List VT) (w : World) (h : ValsIn w v l) (h' : ValsIn w v' l) (hl : l.length ≤ 2000000) :
  Calls Tryz.prog 9 #[v, v'] w fun e w' => e = .returned (.bool true) ∧ Ext w w' := by
 obtain ⟨p, cap, rfl, hcap, hrow⟩ := h
 obtain ⟨p', cap', rfl, hcap', hrow'⟩ := h'
 obtain ⟨n, hn⟩ : ∃ n, l.length = n := ⟨_, rfl⟩
 have HN : Hid (l.length = n) := hn
 rw [hn] at hcap hcap' hl hrow hrow' ⊢
 have HRow : Hid (0 < n → ∃ b o, p = some ⟨b, o, none⟩ ∧ RowV w b o l) := hrow
 have HRow' : Hid (0 < n → ∃ b o, p' = some ⟨b, o, none⟩ ∧ RowV w b o l) := hrow'
 clear hn hrow hrow'
 go_enter Tryz.func9, Tryz.ntmps9
 go_wp2_with fail
 go_loopw [5] (fun i wr => ∃ k : Nat, k ≤ n ∧ i = .int .i64 k ∧ Ext w wr) (fun i _ => n - (intOf i).toNat)
 case atStart => exact ⟨0, by omega, rfl, xr _⟩
 case round =>
  obtain ⟨k, hk, rfl, X⟩ := hrel
  by_cases hlt : k < n
  ·
   obtain ⟨e, he⟩ : ∃ e, l[k]? = some e := ⟨_, List.getElem?_eq_getElem (by rw [HN.out]; exact hlt)⟩
   obtain ⟨b, o, rfl, hR⟩ := HRow.out (by omega)
   obtain ⟨b', o', rfl, hR'⟩ := HRow'.out (by omega)
   obtain ⟨a0, a1, a2, a3, a4⟩ := (hR.later X).five he
   obtain ⟨c0, c1, c2, c3, c4⟩ := (hR'.later X).five he
   obtain ⟨ek, en, ed, ex, et⟩ := e
   have i2 : (k : Int) < (n : Int) := by omega
   clear hR hR' he
   dsimp only at a0 a1 a2 a3 a4 c0 c1 c2 c3 c4
   go_wp2_with fail
   go_region_held3 (fun w' => (w'.cell? ⟨b, o + k * 5, none⟩ = some (.int .i64 ek) ∧ w'.cell? ⟨b, o + k * 5 + 1, none⟩ = some (.bool en) ∧ w'.cell? ⟨b, o + k * 5 + 2, none⟩ = some (.int .i64 ed) ∧ w'.cell? ⟨b, o + k * 5 + 3, none⟩ = some (.int .i64 ex) ∧ w'.cell? ⟨b, o + k * 5 + 4, none⟩ = some (sV et)) ∧ w'.cell? ⟨b', o' + k * 5, none⟩ = some (.int .i64 ek) ∧ w'.cell? ⟨b', o' + k * 5 + 1, none⟩ = some (.bool en) ∧ w'.cell? ⟨b', o' + k * 5 + 2, none⟩ = some (.int .i64 ed) ∧ w'.cell? ⟨b', o' + k * 5 + 3, none⟩ = some (.int .i64 ex) ∧ w'.cell? ⟨b', o' + k * 5 + 4, none⟩ = some (sV et)) (go_keep)
    (first
     | (go_at_call 8; refine (eqValue_same ek en ed ex et _).mono ?_; rintro e w' ⟨rfl, E⟩; have Y := xt (xd (xr _)) E; have r0 := cell_later Y a0; have r1 := cell_later Y a1; have r2 := cell_later Y a2; have r3 := cell_later Y a3; have r4 := cell_later Y a4; have s0 := cell_later Y c0; have s1 := cell_later Y c1; have s2 := cell_later Y c2; have s3 := cell_later Y c3; have s4 := cell_later Y c4))
   go_wp2_with fail
   go_roundw
   case rel => exact ⟨k + 1, by omega, by go_num, xt X Y⟩
   case measure => simp [intOf]; omega
  ·
   obtain rfl : k = n := by omega
   go_wp2_with fail
   go_ret
   exact ⟨rfl, X⟩

end Go.Proofs.YtfgohahfppabbaaGreatDoor

