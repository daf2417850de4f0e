/-
  Chapter 4: GoodFormula: the law.
-/
import Derived.Test.YtcjjobciokfehaaGreatDoorGs8
import Derived.Test.YtcjjobciokfehaaGreatDoorMg49
import Derived.Test.YtcjjobciokfehaaGreatDoorN7d
namespace Go.Proofs.YtcjjobciokfehaaGreatDoor
open Go.RowKit

set_option maxRecDepth 8000 in
set_option maxHeartbeats 4000000 in
theorem lawGoodF (v : Value) (f : List NT) (w : World) (h : NodesIn w v f) (hl : f.length ≤ 9223372036854775807) (ht : ∀ e ∈ f, e.t.length ≤ 9223372036854775807) (hd : ∀ e ∈ f, -9223372036854775808 ≤ e.d ∧ e.d ≤ 9223372036854775807) (hT : Tens w) (hE : ErrTab w) (hO : OpTab w) (LW : LibW w) (IT : ItoaC w) :
  Calls Tryz.prog 3 #[v] w fun e w' => e = .returned (.bool true) ∧ Ext w w' := by
 have C0 := szNodes v f 1048576 w h (by omega) (by omega) hl ht
 go_enter Tryz.func3, Tryz.ntmps3
 go_wp2_with fail
 refine C0.mono ?_
 rintro e w1 ⟨⟨z, rfl, z0, z1, hz⟩, e1⟩
 clear C0
 by_cases hn : z < 0
 ·
  clear hz
  go_wp2_with fail
  go_ret
  exact ⟨rfl, e1⟩
 ·
  obtain ⟨hl1, ht1⟩ := hz (by omega)
  have hl2 : f.length ≤ 1048576 := by omega
  have hr : ∀ x ∈ f, x.fits := fun x hx => ⟨by have := ht1 x hx; omega, hd x hx⟩
  have hx : ∀ x ∈ f, x.t.length ≤ 1048576 := fun x hx => (hr x hx).1
  have HTN : Hid (∀ W, Ext w W → Calls Tryz.prog 8 #[v] W fun e w' => (∃ g, e = .returned (.slice (some ⟨g, 0, none⟩) f.length f.length) ∧ W.heap.size ≤ g ∧ OwnN w' g f) ∧ Ext W w') := fun W X => toNodes v f W (h.later X) (by omega)
  have HEQ : Hid (∀ W g g', OwnN W g f → OwnN W g' f → Calls Tryz.prog 10 #[.slice (some ⟨g, 0, none⟩) f.length f.length, .slice (some ⟨g', 0, none⟩) f.length f.length] W fun e w' => e = .returned (.bool true) ∧ Ext W w') := fun W g g' o o' => eqNodes _ _ f W o.nodes o'.nodes (by omega)
  have HGS : Hid (∀ W g, OwnN W g f → Calls Tryz.prog 7 #[.slice (some ⟨g, 0, none⟩) f.length f.length] W fun e w' => e = .returned (.bool (goodSF NT.good f)) ∧ Ext W w') := fun W g o => goodFS _ f W o.nodes hx
  have HGI : Hid (∀ W g, Ext w W → OwnN W g f → Calls Tryz.prog 9 #[.slice (some ⟨g, 0, none⟩) f.length f.length] W fun e w' => e = .returned (.bool (goodSF NT.good f)) ∧ Ext W w') := fun W g X o => by rw [← good_same goodK]; exact goodFI _ f W o.nodes hr hl2 (hT.later X) (hE.later X) (hO.later X) (LW.later X) (IT.laterG X)
  obtain ⟨Q, hQ⟩ : ∃ Q, goodSF NT.good f = Q := ⟨_, rfl⟩
  rw [hQ] at HGS HGI
  obtain ⟨n, hn'⟩ : ∃ n, f.length = n := ⟨_, rfl⟩
  rw [hn'] at HTN HEQ HGS HGI
  clear hQ hn' hl ht hd hl1 ht1 hz hl2 hr hx h hT hE hO LW IT
  go_wp2_with fail
  refine (HTN.out w1 e1).mono ?_
  rintro e w2 ⟨⟨g2, rfl, _, O2⟩, e2⟩
  go_wp2_with fail
  refine (HGS.out w2 g2 O2).mono ?_
  rintro e w3 ⟨rfl, e3⟩
  have X3 := xt (xt e1 e2) e3
  clear O2
  go_wp2_with fail
  refine (HTN.out w3 X3).mono ?_
  rintro e w4 ⟨⟨g4, rfl, _, O4⟩, e4⟩
  go_wp2_with fail
  refine (HGI.out w4 g4 (xt X3 e4) O4).mono ?_
  rintro e w5 ⟨rfl, e5⟩
  have X5 := xt (xt X3 e4) e5
  have O5 := O4.later e5
  clear O4
  go_wp2_with fail
  refine (HTN.out _ (xt X5 (xr _))).mono ?_
  rintro e w6 ⟨⟨g6, rfl, _, O6⟩, e6⟩
  go_wp2_with fail
  refine (HEQ.out w6 g4 g6 (O5.later e6) O6).mono ?_
  rintro e w7 ⟨rfl, e7⟩
  go_wp2_with fail
  go_ret
  exact ⟨rfl, xt (xt X5 e6) e7⟩

end Go.Proofs.YtcjjobciokfehaaGreatDoor

