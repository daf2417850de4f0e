/-
  Chapter 10: the law of ReadFormat.
-/
import Derived.Test.YthedbjjncnddbaaDoorK5
import Derived.Test.YthedbjjncnddbaaDoorK6
namespace Go.Proofs.YthedbjjncnddbaaDoor
open Go.RowKit

theorem readL_len : ∀ (k : Nat) (l : BL) (acc : List KT), (readL k l acc).length ≤ acc.length + k := by
  intro k
  induction k with
  | zero => intro l acc; simp [readL]
  | succ k ih =>
    intro l acc
    simp only [readL]
    cases secS l with
    | none => simp
    | some x =>
      dsimp only
      split
      · simp
      · split
        · rw [List.length_append]; simp
        · split
          · have := ih (x.2.drop 1) (acc ++ [x.1])
            rw [List.length_append, List.length_singleton] at this
            omega
          · simp
theorem readF_len (l : BL) : (readF l).length ≤ 4 := by
  unfold readF
  split
  · simp
  · have := readL_len 4 l []
    simpa using this
theorem ownF_keep {w w' : World} {base : Nat} {v : Value} {l : List KT} {row : Option Nat} (h : OwnF w base v l) (hg : w.grownBy w' row) (hr : ∀ g, v.ownBlock = some g → some g ≠ row) : OwnF w' base v l := by
  refine ⟨h.1, h.2.imp id ?_⟩
  rintro ⟨g, cap, cur, h1, h2, h3, h4⟩
  have hlt : g < w.heap.size := by
    rcases Nat.lt_or_ge g w.heap.size with h' | h'
    · exact h'
    · rw [Array.getElem?_eq_none h'] at h3; cases h3
  exact ⟨g, cap, cur, h1, h2, by rw [hg.block g hlt (hr g (by rw [h1]; rfl))]; exact h3, h4⟩
theorem rowK_own {n k : Nat} {v : Value} (h : (if n = 0 then none else v.ownBlock) = some k) : v.ownBlock = some k := by
  split at h
  · cases h
  · exact h
set_option maxHeartbeats 1000000 in
theorem specRead (l : BL) (w : World) (hL : l.length ≤ 1048576) :
    Calls Tryd.prog 5 #[sV l] w fun e w' => (∃ v, e = .returned v ∧ OwnF w' w.heap.size v (readF l)) ∧ Ext w w' := by
  have C := readS l w hL
  go_enter Tryd.func5, Tryd.ntmps5
  go_wp2_with fail
  refine C.mono ?_
  rintro e w1 ⟨⟨v, rfl, h⟩, e1⟩
  go_wp2_with fail
  go_ret
  exact ⟨⟨_, rfl, h⟩, e1⟩

set_option maxRecDepth 8000 in
set_option maxHeartbeats 4000000 in
theorem lawReadF (l : BL) (w : World) (T : TabK w) (hl : l.length ≤ 9223372036854775807) :
    Calls Tryd.prog 3 #[sV l] w fun e w' => e = .returned (.bool true) ∧ Ext w w' := by
  have HZ : (⟨l.toArray⟩ : ByteArray).size = l.length := rfl
  by_cases hbig : 1048576 < l.length
  · obtain ⟨n, hn⟩ : ∃ n, l.length = n := ⟨_, rfl⟩
    rw [hn] at HZ hbig hl
    have i1 : 1048576 < (n : Int) := by omega
    clear hn T
    go_enter Tryd.func3, Tryd.ntmps3
    go_wp2_with fail
    go_ret
    exact ⟨rfl, xr _⟩
  have hL : l.length ≤ 1048576 := by omega
  have CS := fun W => specRead l W hL
  have CI := fun W (hW : TabK W) => readI l W hL hW
  simp only [readF_same] at CI
  obtain ⟨D, hD⟩ : ∃ D, readF l = D := ⟨_, rfl⟩
  have hDl := readF_len l
  simp only [hD] at CS CI
  rw [hD] at hDl
  obtain ⟨nd, hnd⟩ : ∃ n, D.length = n := ⟨_, rfl⟩
  have XD : Hid (∀ W base v, OwnF W base v D → RowY W v nd (flatK D)) := fun W base v o => by have := RowY.of_row o; rw [hnd] at this; exact this
  have ED := fun (v1 v2 : Value) W (x1 : FormatsIn W v1 D) (x2 : FormatsIn W v2 D) => eqFormats v1 v2 D W x1 x2 (by omega)
  obtain ⟨n, hn⟩ : ∃ n, l.length = n := ⟨_, rfl⟩
  rw [hn] at HZ hL
  have hd4 : nd ≤ 4 := by omega
  have i1 : (n : Int) ≤ 1048576 := by omega
  have HT : Hid (TabK w) := T
  clear hbig hl T hD hnd hn hDl
  go_enter Tryd.func3, Tryd.ntmps3
  go_wp2_with fail
  refine (CS w).mono ?_
  rintro e w1 ⟨⟨v0, rfl, V0⟩, X1⟩
  have lt0 := ownF_block V0
  clear CS
  go_wp2_with fail
  refine (CI w1 (HT.out.later X1)).mono ?_
  rintro e w2 ⟨⟨v1, rfl, V1⟩, E2⟩
  have ge1 := ownF_block V1
  have X2 := xt X1 E2
  have V0 := ownF_later V0 E2
  have s1 := X1.size
  clear X1
  go_wp2_with fail
  refine (ED v1 v0 w2 (ownF_in V1) (ownF_in V0)).mono ?_
  rintro e w3 ⟨rfl, E3⟩
  have X3 := xt X2 E3
  have V0 := ownF_later V0 E3
  have V1 := ownF_later V1 E3
  clear X2 E3 E2
  have MA := markFormats v1 nd _ 1 w3 (XD.out _ _ _ V1) (by omega) (by omega) (by omega)
  go_wp2_with fail
  refine MA.mono ?_
  rintro e w4 ⟨rfl, ⟨M, RM, hM⟩, G4⟩
  have X4 : Ext w w4 := X3.grown G4 X3.size (fun r hr => by have := (ge1 r (rowK_own hr)).1; omega)
  have V0 := ownF_keep V0 G4 (fun g hg q => by have h1 := (lt0 g hg).2; have h2 := (ge1 g (rowK_own q.symm)).1; omega)
  have HM : Hid (MarkedK M 1 nd) := hM
  clear MA G4 X3 V1 hM ge1 lt0
  have HA := heldFormats v1 nd M 1 w4 RM HM.out (by omega) (by omega) (by omega)
  obtain ⟨k, hk⟩ : ∃ k : Nat, 1 + nd * 9 = k := ⟨_, rfl⟩
  have HK : Hid (1 + nd * 9 = k) := hk
  rw [hk] at HA ⊢
  have ik : (0 : Int) ≤ (k : Int) := by omega
  have hk50 : k ≤ 50 := by omega
  clear hk
  go_wp2_with fail
  refine HA.mono ?_
  rintro e w5 ⟨rfl, E5⟩
  have X5 := xt X4 E5
  have V0 := ownF_later V0 E5
  have RM := RM.later E5
  clear X4 E5 HA
  go_wp2_with fail
  refine (CI w5 (HT.out.later X5)).mono ?_
  rintro e w6 ⟨⟨v2, rfl, V2⟩, E6⟩
  have X6 := xt X5 E6
  have V0 := ownF_later V0 E6
  have RM := RM.later E6
  clear X5 E6
  go_wp2_with fail
  refine (ED v2 v0 w6 (ownF_in V2) (ownF_in V0)).mono ?_
  rintro e w7 ⟨rfl, E7⟩
  have X7 := xt X6 E7
  have RM := RM.later E7
  clear X6 E7 V0 V2
  have HB := heldFormats v1 nd M 1 w7 RM HM.out (by omega) (by omega) (by omega)
  rw [HK.out] at HB
  go_wp2_with fail
  refine HB.mono ?_
  rintro e w8 ⟨rfl, E8⟩
  have X8 := xt X7 E8
  clear X7 E8 HB RM
  go_wp2_with fail
  go_ret
  exact ⟨rfl, X8⟩

end Go.Proofs.YthedbjjncnddbaaDoor
