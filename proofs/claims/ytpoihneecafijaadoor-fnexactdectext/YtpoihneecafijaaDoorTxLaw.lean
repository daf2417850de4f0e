/-
  FnExactDecText, walked.
-/
import Derived.Test.YtpoihneecafijaaDoorTxJ
import Derived.Test.YtpoihneecafijaaDoorLibC
namespace Go.Proofs.YtpoihneecafijaaDoor
open Go.RowKit

theorem ItoaC.later {w0 w : World} (h : ItoaC w0) (x : Ext w0 w) : ItoaC w := fun n w1 a b c => h n w1 a b (xt x c)
theorem string_ext {s t : ByteArray} (h : s.data.toList = t.data.toList) : s = t := by
  cases s
  cases t
  simp only [ByteArray.mk.injEq]
  exact Array.toList_inj.1 h

set_option maxHeartbeats 1000000 in
theorem lawText (n : Bool) (d x : Int) (w : World) (d1 : -9223372036854775808 ≤ d) (d2 : d ≤ 9223372036854775807) (hT : Tens w) (hI : ItoaC w) :
    Calls Tryd.prog 14 #[.agg #[.bool n, .int .i64 d, .int .i64 x]] w fun r w' => r = .returned (.bool true) ∧ Ext w w' := by
  have B := Box3.made w (.bool n) (.int .i64 d) (.int .i64 x) 23
  have X0 := x1 w (.cells #[.bool n, .int .i64 d, .int .i64 x] 23)
  go_enter Tryd.func14, Tryd.ntmps14
  go_wp2_with fail
  refine (toDec _ _ _ _).mono ?_
  rintro r w1 ⟨rfl, e1⟩
  go_wp2_with fail
  refine (textS _ _ _ _).mono ?_
  rintro r w2 ⟨s, rfl, hs, e2⟩
  have HS : Hid (s.data.toList = textT n d x) := hs
  have X2 := xt X0 (xt e1 e2)
  obtain ⟨⟨p0, p1, p2⟩, _⟩ := B.later (xt e1 e2)
  clear hs B
  go_wp2_with fail
  refine (toDec _ _ _ _).mono ?_
  rintro r w3 ⟨rfl, e3⟩
  go_wp2_with fail
  refine (textI repC n d x w3 (hI.later (xt X2 e3)) d1 d2 (hT.later (xt X2 e3))).mono ?_
  rintro r w4 ⟨t, rfl, ht, e4⟩
  obtain rfl : t = s := string_ext (ht.trans HS.out.symm)
  have X4 := xt (xt X2 e3) e4
  clear ht HS d1 d2 p0 p1 p2 hT hI
  go_wp2
  go_ret
  exact ⟨rfl, X4⟩

end Go.Proofs.YtpoihneecafijaaDoor
