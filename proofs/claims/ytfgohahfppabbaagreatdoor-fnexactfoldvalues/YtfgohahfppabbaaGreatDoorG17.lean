/-
  Chapter 12: the law of FoldValues.
-/
import Derived.Test.YtfgohahfppabbaaGreatDoorG14
import Derived.Test.YtfgohahfppabbaaGreatDoorG16
import Derived.Test.YtfgohahfppabbaaGreatDoorVq
namespace Go.Proofs.YtfgohahfppabbaaGreatDoor
open Go.RowKit

set_option maxRecDepth 8000 in
set_option maxHeartbeats 4000000 in
theorem lawFold (v : Value) (f : Int) (l : List VT) (w : World) (h : ValsIn w v l) (hl : l.length ≤ 9223372036854775807) (ht : ∀ e ∈ l, e.t.length ≤ 9223372036854775807) (hd : ∀ e ∈ l, -9223372036854775808 ≤ e.d ∧ e.d ≤ 9223372036854775807) (hT : Tens w) (hE : ErrTab w) :
  Calls Tryz.prog 3 #[v, .int .i64 f] w fun e w' => e = .returned (.bool true) ∧ Ext w w' := by
 have CS := szVals v l 1048576 w h (by omega) (by omega) hl ht
 have HV : Hid (ValsIn w v l) := h
 have HTE : Hid (Tens w ∧ ErrTab w) := ⟨hT, hE⟩
 have HD : Hid (∀ e ∈ l, -9223372036854775808 ≤ e.d ∧ e.d ≤ 9223372036854775807) := hd
 obtain ⟨p, cap, rfl, -, -⟩ := h
 obtain ⟨n, hn⟩ : ∃ n, l.length = n := ⟨_, rfl⟩
 have HN : Hid (l.length = n) := hn
 rw [hn] at CS HV ⊢
 clear hn hl ht hd hT hE
 go_enter Tryz.func3, Tryz.ntmps3
 go_wp2_with fail
 refine CS.mono ?_
 rintro z w1 ⟨⟨r, rfl, r0, r1, hr⟩, e1⟩
 have HR : Hid (0 ≤ r → (n : Int) ≤ 1048576 ∧ ∀ q ∈ l, (q.t.length : Int) ≤ 1048576) := hr
 clear hr CS
 by_cases hneg : r < 0
 ·
  go_wp2_with fail
  go_ret
  exact ⟨rfl, e1⟩
 obtain ⟨ln, lt⟩ := HR.out (by omega)
 have HRoom : Hid (∀ e ∈ l, e.room) := fun e he => ⟨by have := lt e he; omega, (HD.out e he).1, (HD.out e he).2⟩
 have HTo : Hid (∀ W, Ext w W → Calls Tryz.prog 6 #[.slice p n cap] W fun e w' => (∃ g, e = .returned (.slice (some ⟨g, 0, none⟩) n n) ∧ W.heap.size ≤ g ∧ OwnV w' g l) ∧ Ext W w') := fun W x => by
  have := toVals (.slice p n cap) l W (HV.out.later x) (by rw [HN.out]; omega)
  rw [HN.out] at this
  exact this
 have HSp : Hid (∀ W g, OwnV W g l → Calls Tryz.prog 5 #[.slice (some ⟨g, 0, none⟩) n n, .int .i64 f] W fun e w' => e = .returned (foldT f l).val ∧ Ext W w') := fun W g o =>
  foldVS f _ l W ⟨_, n, by rw [HN.out], by rw [HN.out]; exact Nat.le_refl _, fun _ => ⟨g, 0, rfl, o.row⟩⟩ (by rw [HN.out]; omega) HRoom.out
 have HIm : Hid (∀ W g, Ext w W → OwnV W g l → Calls Tryz.prog 7 #[.slice (some ⟨g, 0, none⟩) n n, .int .i64 f] W fun e w' => e = .returned (foldT f l).val ∧ Ext W w') := fun W g x o =>
  foldVI countsAll f g 0 n n l W o.row HN.out (Nat.le_refl _) (by omega) HRoom.out (HTE.out.1.later x) (HTE.out.2.later x)
 have HEq : Hid (∀ W g g', OwnV W g l → OwnV W g' l → Calls Tryz.prog 9 #[.slice (some ⟨g, 0, none⟩) n n, .slice (some ⟨g', 0, none⟩) n n] W fun e w' => e = .returned (.bool true) ∧ Ext W w') := fun W g g' o o' =>
  eqVals _ _ l W ⟨_, n, by rw [HN.out], by rw [HN.out]; exact Nat.le_refl _, fun _ => ⟨g, 0, rfl, o.row⟩⟩ ⟨_, n, by rw [HN.out], by rw [HN.out]; exact Nat.le_refl _, fun _ => ⟨g', 0, rfl, o'.row⟩⟩ (by rw [HN.out]; omega)
 obtain ⟨⟨k2, n2, d2, x2, t2⟩, hc⟩ : ∃ r, foldT f l = r := ⟨_, rfl⟩
 rw [hc] at HSp HIm
 clear hc HR lt HD HV HTE
 go_wp2_with fail
 refine (HTo.out w1 e1).mono ?_
 rintro z w2 ⟨⟨g, rfl, hg, OV⟩, e2⟩
 have CP := HSp.out w2 g OV
 clear OV
 go_wp2_with fail
 refine CP.mono ?_
 rintro z w3 ⟨rfl, e3⟩
 have X3 := xt (xt e1 e2) e3
 have Y4 := x1 w3 (.cells #[.int .i64 k2, .bool n2, .int .i64 d2, .int .i64 x2, sV t2] 27)
 have K4 := vec_made w3 (valL k2 n2 d2 x2 t2) 27
 change Vec (w3.alloc (.cells #[.int .i64 k2, .bool n2, .int .i64 d2, .int .i64 x2, sV t2] 27)) _ _ at K4
 obtain ⟨w4, h4⟩ : ∃ w4, w3.alloc (.cells #[.int .i64 k2, .bool n2, .int .i64 d2, .int .i64 x2, sV t2] 27) = w4 := ⟨_, rfl⟩
 rw [h4] at Y4 K4
 have X4 := xt X3 Y4
 clear CP
 go_wp2_with fail
 clear h4
 refine (HTo.out w4 X4).mono ?_
 rintro z w5 ⟨⟨g5, rfl, hg5, O5⟩, e5⟩
 have X5 := xt X4 e5
 have CI := HIm.out w5 g5 X5 O5
 go_wp2_with fail
 refine CI.mono ?_
 rintro z w6 ⟨rfl, e6⟩
 have X6 := xt X5 e6
 have Y7 := x1 w6 (.cells #[.int .i64 k2, .bool n2, .int .i64 d2, .int .i64 x2, sV t2] 27)
 have K7 := vec_made w6 (valL k2 n2 d2 x2 t2) 27
 change Vec (w6.alloc (.cells #[.int .i64 k2, .bool n2, .int .i64 d2, .int .i64 x2, sV t2] 27)) _ _ at K7
 obtain ⟨w7, h7⟩ : ∃ w7, w6.alloc (.cells #[.int .i64 k2, .bool n2, .int .i64 d2, .int .i64 x2, sV t2] 27) = w7 := ⟨_, rfl⟩
 rw [h7] at Y7 K7
 have X7 := xt X6 Y7
 have K4' := K4.later (xt (xt e5 e6) Y7)
 have O7 := O5.later (xt e6 Y7)
 obtain ⟨a0, a1, a2, a3, a4⟩ := Vec.five K4'
 obtain ⟨c0, c1, c2, c3, c4⟩ := Vec.five K7
 clear CI O5 K4
 go_wp2_with fail
 clear a0 a1 a2 a3 a4 c0 c1 c2 c3 c4 h7
 refine (eqValue_same k2 n2 d2 x2 t2 w7).mono ?_
 rintro z w8 ⟨rfl, e8⟩
 have X8 := xt X7 e8
 go_wp2_with fail
 refine (HTo.out w8 X8).mono ?_
 rintro z w9 ⟨⟨g9, rfl, hg9, O9⟩, e9⟩
 have CE := HEq.out w9 g5 g9 (O7.later (xt e8 e9)) O9
 go_wp2_with fail
 refine CE.mono ?_
 rintro z w10 ⟨rfl, e10⟩
 go_wp2_with fail
 go_ret
 exact ⟨rfl, xt (xt X8 e9) e10⟩

end Go.Proofs.YtfgohahfppabbaaGreatDoor

