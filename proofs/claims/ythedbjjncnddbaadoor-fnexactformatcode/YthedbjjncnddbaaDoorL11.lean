/-
  Chapter 10: the law of FormatCode.
-/
import Derived.Test.YthedbjjncnddbaaDoorL10
import Derived.Test.YthedbjjncnddbaaDoorKg
namespace Go.Proofs.YthedbjjncnddbaaDoor
open Go.RowKit

set_option maxRecDepth 8000 in
set_option maxHeartbeats 4000000 in
theorem lawCode (v : Value) (l : List KT) (w : World) (h : FormatsIn w v l) (T : TabK w) (hl : l.length ≤ 9223372036854775807) (ht : ∀ f ∈ l, (f.bf.length : Int) ≤ 9223372036854775807 ∧ (f.af.length : Int) ≤ 9223372036854775807 ∧ (f.dt.length : Int) ≤ 9223372036854775807) :
    Calls Tryd.prog 4 #[v] w fun e w' => e = .returned (.bool true) ∧ Ext w w' := by
  have SZ := szFormats v l 1048576 w h (by omega) (by omega) hl ht
  go_enter Tryd.func4, Tryd.ntmps4
  go_wp2_with fail
  refine SZ.mono ?_
  rintro e w1 ⟨⟨z, rfl, z0, z1, hz⟩, X1⟩
  clear SZ
  by_cases hneg : z < 0
  · clear hz
    go_wp2_with fail
    go_ret
    exact ⟨rfl, X1⟩
  obtain ⟨hn, hw⟩ := hz (by omega)
  clear hz hl ht
  have hl : l.length ≤ 2000000 := by omega
  have htx : ∀ f ∈ l, f.bf.length ≤ 1048576 ∧ f.af.length ≤ 1048576 ∧ f.dt.length ≤ 1048576 := fun f hf => by have := hw f hf; unfold wgt at this; omega
  obtain ⟨n, hnn⟩ : ∃ n, l.length = n := ⟨_, rfl⟩
  have TF : Hid (∀ W, Ext w W → Calls Tryd.prog 12 #[v] W fun e w' => (∃ g, e = .returned (.slice (some ⟨g, 0, none⟩) n n) ∧ W.heap.size ≤ g ∧ OwnK w' g l) ∧ Ext W w') := fun W x => by have := toFormats v l W (h.later x) hl; rw [hnn] at this; exact this
  have SF : Hid (∀ W g, OwnK W g l → FormatsIn W (.slice (some ⟨g, 0, none⟩) n n) l) := fun W g o => by have := o.slice; rw [hnn] at this; exact this
  have CS : Hid (∀ W v1, FormatsIn W v1 l → Calls Tryd.prog 11 #[v1] W fun e w' => e = .returned (sV (toldS l)) ∧ Ext W w') := fun W v1 h1 => toldSS v1 l W h1 hl (fun f hf => by have := htx f hf; omega)
  have CI : Hid (∀ W v1, FormatsIn W v1 l → TabK W → Calls Tryd.prog 13 #[v1] W fun e w' => e = .returned (sV (toldS l)) ∧ Ext W w') := fun W v1 h1 hT => by rw [← told_same]; exact toldPI v1 l W h1 hl htx hT
  have ED : Hid (∀ (v1 v2 : Value) W, FormatsIn W v1 l → FormatsIn W v2 l → Calls Tryd.prog 7 #[v1, v2] W fun e w' => e = .returned (.bool true) ∧ Ext W w') := fun v1 v2 W x1 x2 => eqFormats v1 v2 l W x1 x2 (by omega)
  have HT : Hid (TabK w) := T
  obtain ⟨C, hC⟩ : ∃ C, toldS l = C := ⟨_, rfl⟩
  simp only [hC] at CS CI
  have hp : (C == C) = true := by simp
  clear hC hnn h hw htx T hn
  go_wp2_with fail
  refine (TF.out w1 X1).mono ?_
  rintro e w2 ⟨⟨g1, rfl, _, O1⟩, E2⟩
  have X2 := xt X1 E2
  clear X1 E2
  go_wp2_with fail
  refine (CS.out w2 _ (SF.out _ _ O1)).mono ?_
  rintro e w3 ⟨rfl, E3⟩
  have X3 := xt X2 E3
  clear X2 E3 O1
  go_wp2_with fail
  refine (TF.out w3 X3).mono ?_
  rintro e w4 ⟨⟨g2, rfl, _, O2⟩, E4⟩
  have X4 := xt X3 E4
  clear X3 E4
  go_wp2_with fail
  refine (CI.out w4 _ (SF.out _ _ O2) (HT.out.later X4)).mono ?_
  rintro e w5 ⟨rfl, E5⟩
  have X5 := xt X4 E5
  have O2 := O2.later E5
  clear X4 E5
  go_wp2_with fail
  refine (TF.out w5 X5).mono ?_
  rintro e w6 ⟨⟨g3, rfl, _, O3⟩, E6⟩
  have X6 := xt X5 E6
  have O2 := O2.later E6
  clear X5 E6
  go_wp2_with fail
  refine (ED.out _ _ w6 (SF.out _ _ O2) (SF.out _ _ O3)).mono ?_
  rintro e w7 ⟨rfl, E7⟩
  have X7 := xt X6 E7
  clear X6 E7 O2 O3
  go_wp2_with fail
  go_ret
  exact ⟨rfl, X7⟩

end Go.Proofs.YthedbjjncnddbaaDoor
