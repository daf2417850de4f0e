/-
  Chapter 15: the laws of LastUndo and LastRedo.
-/
import Derived.Test.YtmpemgpfjopkgaaHs11
namespace Go.Proofs.Ytmpemgpfjopkgaa
open Go.RowKit

set_option maxRecDepth 8000 in
set_option maxHeartbeats 4000000 in
theorem lawLastUndo (v : Value) (l : List STP) (w : World) (h : StpsIn w v l) (hl : l.length ≤ 9223372036854775807) (hf : ∀ e ∈ l, e.fits) :
    Calls Try.prog 4 #[v] w fun z w' => z = .returned (.bool true) ∧ Ext w w' := by
  have CS := szSteps v l 1048576 w h (by omega) (by omega) hl hf
  have HI : Hid (StpsIn w v l) := h
  obtain ⟨p, cap, rfl, -⟩ := h
  obtain ⟨n, hn⟩ : ∃ n, l.length = n := ⟨_, rfl⟩
  have HN : Hid (l.length = n) := hn
  rw [hn] at CS HI ⊢
  clear hl hf hn
  go_enter Try.func4, Try.ntmps4
  go_wp2_with fail
  refine CS.mono ?_
  rintro z w1 ⟨⟨r, rfl, r0, r1, hr⟩, e1⟩
  have HR : Hid (0 ≤ r → (n : Int) + chN l ≤ 1048576) := hr
  clear hr CS
  by_cases hneg : r < 0
  · go_wp2_with fail
    go_ret
    exact ⟨rfl, e1⟩
  have hb := HR.out (by omega)
  have hl' : l.length ≤ 1048576 := by rw [HN.out]; omega
  have hc' : ∀ e ∈ l, e.ch.length ≤ 1048576 := fun e he => by have := chN_mem he; omega
  have HTo : Hid (∀ V, Ext w V → Calls Try.prog 8 #[.slice p n cap] V fun e w' => (∃ g, e = .returned (.slice (some ⟨g, 0, none⟩) n n) ∧ V.heap.size ≤ g ∧ g < w'.heap.size ∧ OwnSt w' g l) ∧ Ext V w') := fun V x => by have := toSteps _ l V (HI.out.later x) hl' hc'; rw [HN.out] at this; exact this
  have HSp : Hid (∀ V g, OwnSt V g l → Calls Try.prog 15 #[.slice (some ⟨g, 0, none⟩) n n] V fun z w' => z = .returned (.int .i64 (lastR isU l : Nat)) ∧ Ext V w') := fun V g o => undoS _ l V (o.steps HN.out) hl' hc'
  have HIm : Hid (∀ V g, OwnSt V g l → Calls Try.prog 16 #[.slice (some ⟨g, 0, none⟩) n n] V fun z w' => z = .returned (.int .i64 (lastR isU l : Nat)) ∧ Ext V w') := fun V g o => undoI _ l V (o.steps HN.out) hl' hc'
  have HEq : Hid (∀ V g g', OwnSt V g l → OwnSt V g' l → Calls Try.prog 11 #[.slice (some ⟨g, 0, none⟩) n n, .slice (some ⟨g', 0, none⟩) n n] V fun z w' => z = .returned (.bool true) ∧ Ext V w') := fun V g g' o o' => eqSteps _ _ l V (o.steps HN.out) (o'.steps HN.out) hl' hc'
  obtain ⟨q, hq⟩ : ∃ q : Nat, lastR isU l = q := ⟨_, rfl⟩
  rw [hq] at HSp HIm
  clear hq hb hl' hc' HR HI
  go_wp2_with fail
  refine (HTo.out w1 e1).mono ?_
  rintro z w2 ⟨⟨g, rfl, _, _, O⟩, e2⟩
  have X2 := xt e1 e2
  have C := HSp.out w2 g O
  clear O
  go_wp2_with fail
  refine C.mono ?_
  rintro z w3 ⟨rfl, e3⟩
  have X3 := xt X2 e3
  clear C
  go_wp2_with fail
  refine (HTo.out w3 X3).mono ?_
  rintro z w4 ⟨⟨g', rfl, _, _, O⟩, e4⟩
  have X4 := xt X3 e4
  have C := HIm.out w4 g' O
  have HO : Hid (OwnSt w4 g' l) := O
  clear O
  go_wp2_with fail
  refine C.mono ?_
  rintro z w5 ⟨rfl, e5⟩
  have X5 := xt X4 e5
  clear C
  go_wp2_with fail
  refine (HTo.out w5 X5).mono ?_
  rintro z w6 ⟨⟨g2, rfl, _, _, O⟩, e6⟩
  have C := HEq.out w6 g' g2 (HO.out.later (xt e5 e6)) O
  clear O
  go_wp2_with fail
  refine C.mono ?_
  rintro z w7 ⟨rfl, e7⟩
  go_wp2_with fail
  go_ret
  exact ⟨rfl, xt X5 (xt e6 e7)⟩
set_option maxRecDepth 8000 in
set_option maxHeartbeats 4000000 in
theorem lawLastRedo (v : Value) (l : List STP) (w : World) (h : StpsIn w v l) (hl : l.length ≤ 9223372036854775807) (hf : ∀ e ∈ l, e.fits) :
    Calls Try.prog 5 #[v] w fun z w' => z = .returned (.bool true) ∧ Ext w w' := by
  have CS := szSteps v l 1048576 w h (by omega) (by omega) hl hf
  have HI : Hid (StpsIn w v l) := h
  obtain ⟨p, cap, rfl, -⟩ := h
  obtain ⟨n, hn⟩ : ∃ n, l.length = n := ⟨_, rfl⟩
  have HN : Hid (l.length = n) := hn
  rw [hn] at CS HI ⊢
  clear hl hf hn
  go_enter Try.func5, Try.ntmps5
  go_wp2_with fail
  refine CS.mono ?_
  rintro z w1 ⟨⟨r, rfl, r0, r1, hr⟩, e1⟩
  have HR : Hid (0 ≤ r → (n : Int) + chN l ≤ 1048576) := hr
  clear hr CS
  by_cases hneg : r < 0
  · go_wp2_with fail
    go_ret
    exact ⟨rfl, e1⟩
  have hb := HR.out (by omega)
  have hl' : l.length ≤ 1048576 := by rw [HN.out]; omega
  have hc' : ∀ e ∈ l, e.ch.length ≤ 1048576 := fun e he => by have := chN_mem he; omega
  have HTo : Hid (∀ V, Ext w V → Calls Try.prog 8 #[.slice p n cap] V fun e w' => (∃ g, e = .returned (.slice (some ⟨g, 0, none⟩) n n) ∧ V.heap.size ≤ g ∧ g < w'.heap.size ∧ OwnSt w' g l) ∧ Ext V w') := fun V x => by have := toSteps _ l V (HI.out.later x) hl' hc'; rw [HN.out] at this; exact this
  have HSp : Hid (∀ V g, OwnSt V g l → Calls Try.prog 17 #[.slice (some ⟨g, 0, none⟩) n n] V fun z w' => z = .returned (.int .i64 (lastR isR l : Nat)) ∧ Ext V w') := fun V g o => redoS _ l V (o.steps HN.out) hl' hc'
  have HIm : Hid (∀ V g, OwnSt V g l → Calls Try.prog 18 #[.slice (some ⟨g, 0, none⟩) n n] V fun z w' => z = .returned (.int .i64 (lastR isR l : Nat)) ∧ Ext V w') := fun V g o => redoI _ l V (o.steps HN.out) hl' hc'
  have HEq : Hid (∀ V g g', OwnSt V g l → OwnSt V g' l → Calls Try.prog 11 #[.slice (some ⟨g, 0, none⟩) n n, .slice (some ⟨g', 0, none⟩) n n] V fun z w' => z = .returned (.bool true) ∧ Ext V w') := fun V g g' o o' => eqSteps _ _ l V (o.steps HN.out) (o'.steps HN.out) hl' hc'
  obtain ⟨q, hq⟩ : ∃ q : Nat, lastR isR l = q := ⟨_, rfl⟩
  rw [hq] at HSp HIm
  clear hq hb hl' hc' HR HI
  go_wp2_with fail
  refine (HTo.out w1 e1).mono ?_
  rintro z w2 ⟨⟨g, rfl, _, _, O⟩, e2⟩
  have X2 := xt e1 e2
  have C := HSp.out w2 g O
  clear O
  go_wp2_with fail
  refine C.mono ?_
  rintro z w3 ⟨rfl, e3⟩
  have X3 := xt X2 e3
  clear C
  go_wp2_with fail
  refine (HTo.out w3 X3).mono ?_
  rintro z w4 ⟨⟨g', rfl, _, _, O⟩, e4⟩
  have X4 := xt X3 e4
  have C := HIm.out w4 g' O
  have HO : Hid (OwnSt w4 g' l) := O
  clear O
  go_wp2_with fail
  refine C.mono ?_
  rintro z w5 ⟨rfl, e5⟩
  have X5 := xt X4 e5
  clear C
  go_wp2_with fail
  refine (HTo.out w5 X5).mono ?_
  rintro z w6 ⟨⟨g2, rfl, _, _, O⟩, e6⟩
  have C := HEq.out w6 g' g2 (HO.out.later (xt e5 e6)) O
  clear O
  go_wp2_with fail
  refine C.mono ?_
  rintro z w7 ⟨rfl, e7⟩
  go_wp2_with fail
  go_ret
  exact ⟨rfl, xt X5 (xt e6 e7)⟩

end Go.Proofs.Ytmpemgpfjopkgaa
