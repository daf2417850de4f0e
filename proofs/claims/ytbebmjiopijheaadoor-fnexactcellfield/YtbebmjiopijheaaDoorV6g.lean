/-
  Chapter 6: TextOf, ShowValue, on both sides; the laws.
-/
import Derived.Test.YtbebmjiopijheaaDoorV9e
import Derived.Test.YtbebmjiopijheaaDoorV6f
import Derived.Test.YtbebmjiopijheaaDoorTxLaw
namespace Go.Proofs.YtbebmjiopijheaaDoor
open Go.RowKit

/-- The text that a value is. -/
def textOf (k : Int) (n : Bool) (d x : Int) (t : List UInt8) : Value :=
  if k = 0 then valV 2 false 0 0 [] else if k = 1 then valV 2 false 0 0 (textT n d x) else if k = 3 then valV 2 false 0 0 t else valV k n d x t
def textOfV (k : Int) (n : Bool) (d x : Int) (t : List UInt8) : Value := if goodV k n d x t then textOf k n d x t else errW
theorem textOf_val (k : Int) (n : Bool) (d x : Int) (t : List UInt8) : ∃ k2 n2 d2 x2 t2, textOf k n d x t = valV k2 n2 d2 x2 t2 := by
  unfold textOf
  split
  · exact ⟨_, _, _, _, _, rfl⟩
  · split
    · exact ⟨_, _, _, _, _, rfl⟩
    · split
      · exact ⟨_, _, _, _, _, rfl⟩
      · exact ⟨_, _, _, _, _, rfl⟩
theorem sV_of {s : ByteArray} {l : List UInt8} (h : s.data.toList = l) : (.string s : Value) = sV l := by
  subst h
  rfl
set_option maxRecDepth 8000 in
set_option maxHeartbeats 2000000 in
theorem textOfI (k : Int) (n : Bool) (d x : Int) (t : List UInt8) (w : World) (hl : t.length ≤ 2000000) (d1 : -9223372036854775808 ≤ d) (d2 : d ≤ 9223372036854775807) (hT : Tens w) (hE : ErrTab w) (hI : ItoaC w) :
    Calls Tryd.prog 27 #[valV k n d x t] w fun e w' => e = .returned (textOfV k n d x t) ∧ Ext w w' := by
  obtain ⟨R, hR⟩ : ∃ R, textOfV k n d x t = R := ⟨_, rfl⟩
  have HR0 : Hid (textOfV k n d x t = R) := hR
  rw [hR]
  clear hR
  obtain ⟨wa, wb, ha, hb, sa, _, B1, B2, X⟩ := mkB2 w [.int .i64 k, .bool n, .int .i64 d, .int .i64 x, sV t] [.int .i64 0, .bool false, .int .i64 0, .int .i64 0, sV []] 30 30
  obtain ⟨a0, a1, a2, a3, a4⟩ := Vec.five B1
  go_enter Tryd.func27, Tryd.ntmps27
  go_wp2_with fail
  clear ha hb sa a0 a1 a2 a3 a4
  refine (goodVI k n d x t wb hl d1 d2 (hT.later X) (hE.later X)).mono ?_
  rintro e w1 ⟨rfl, e1⟩
  have C1 := B1.later e1
  have C2 := B2.later e1
  have X1 := xt X e1
  clear B1 B2 hE
  obtain ⟨g, hg⟩ : ∃ g, goodV k n d x t = g := ⟨_, rfl⟩
  rw [hg]
  cases g
  · have HR : Hid (errW = R) := by show _ = _; rw [← HR0.out]; simp [textOfV, hg]
    clear hg hT hI d1 d2
    go_wp2_with fail
    refine (errVI errT _).mono ?_
    rintro e w2 ⟨rfl, e2⟩
    obtain ⟨wy, hy, FX, ⟨b0, b1, b2, b3, b4⟩, ⟨fb0, fb1, fb2, fb3, fb4⟩, fd0, fd1, fd2, fd3, fd4⟩ := fin5 (C2.later e2) (xt X1 e2) (by omega) (4) (false) (0) (0) (errT)
    go_wp2_with fail
    exact bodyPost_ret (v := errW) (by simp [results, Tryd.results27, go_sem, fd0, fd1, fd2, fd3, fd4]) rfl ⟨congrArg Ending.returned HR.out, FX⟩
  · have HR1 : Hid (textOf k n d x t = R) := by show _ = _; rw [← HR0.out]; simp [textOfV, hg]
    obtain ⟨a0, a1, a2, a3, a4⟩ := Vec.five C1
    by_cases h1 : k = 1
    · subst h1
      clear hg
      go_wp2_with fail
      clear a0 a1 a2 a3 a4
      refine (textI repC n d x w1 (hI.later X1) d1 d2 (hT.later X1)).mono ?_
      rintro e w2 ⟨s, rfl, hs, e2⟩
      have es := sV_of hs
      rw [es]
      clear hs es hT hI d1 d2 s
      have HR : Hid (valV 2 false 0 0 (textT n d x) = R) := by show _ = _; rw [← HR1.out]; simp [textOf]
      obtain ⟨u, hu⟩ : ∃ u, textT n d x = u := ⟨_, rfl⟩
      rw [hu] at HR ⊢
      clear hu
      go_wp2_with fail
      refine (textVI u _).mono ?_
      rintro e w3 ⟨rfl, e3⟩
      obtain ⟨wy, hy, FX, ⟨b0, b1, b2, b3, b4⟩, ⟨fb0, fb1, fb2, fb3, fb4⟩, fd0, fd1, fd2, fd3, fd4⟩ := fin5 ((C2.later e2).later e3) (xt (xt X1 e2) e3) (by omega) (2) (false) (0) (0) (u)
      go_wp2_with fail
      exact bodyPost_ret (v := valV 2 false 0 0 u) (by simp [results, Tryd.results27, go_sem, fd0, fd1, fd2, fd3, fd4]) rfl ⟨congrArg Ending.returned HR.out, FX⟩
    · obtain ⟨rfl, rfl, rfl⟩ := goodV_zero hg h1
      clear hT hI d1 d2
      by_cases h4 : k = 4
      · subst h4
        clear hg
        have HR : Hid (valV 4 false 0 0 t = R) := by show _ = _; rw [← HR1.out]; simp [textOf]
        obtain ⟨wy, hy, FX, ⟨b0, b1, b2, b3, b4⟩, ⟨fb0, fb1, fb2, fb3, fb4⟩, fd0, fd1, fd2, fd3, fd4⟩ := fin5 (C2) (X1) (by omega) (4) (false) (0) (0) (t)
        go_wp2_with fail
        exact bodyPost_ret (v := valV 4 false 0 0 t) (by simp [results, Tryd.results27, go_sem, fd0, fd1, fd2, fd3, fd4]) rfl ⟨congrArg Ending.returned HR.out, FX⟩
      · have HR : Hid (valV 2 false 0 0 t = R) := by
          show _ = _
          rw [← HR1.out]
          by_cases h0 : k = 0
          · subst h0
            rw [goodV_empty hg]
            simp [textOf]
          · by_cases h3 : k = 3
            · simp [textOf, h3]
            · have h2 : k = 2 := by
                simp only [goodV, h1, if_false, h0, h3, h4] at hg
                by_cases h2 : k = 2
                · exact h2
                · simp [h2] at hg
              simp [textOf, h2]
        clear hg
        go_wp2_with fail
        clear a0 a1 a2 a3 a4
        refine (textVI t _).mono ?_
        rintro e w3 ⟨rfl, e3⟩
        obtain ⟨wy, hy, FX, ⟨b0, b1, b2, b3, b4⟩, ⟨fb0, fb1, fb2, fb3, fb4⟩, fd0, fd1, fd2, fd3, fd4⟩ := fin5 (C2.later e3) (xt X1 e3) (by omega) (2) (false) (0) (0) (t)
        go_wp2_with fail
        exact bodyPost_ret (v := valV 2 false 0 0 t) (by simp [results, Tryd.results27, go_sem, fd0, fd1, fd2, fd3, fd4]) rfl ⟨congrArg Ending.returned HR.out, FX⟩
set_option maxRecDepth 8000 in
set_option maxHeartbeats 2000000 in
theorem asTextS (k : Int) (n : Bool) (d x : Int) (t : List UInt8) (w : World)  :
    Calls Tryd.prog 34 #[valV k n d x t] w fun e w' => e = .returned (textOf k n d x t) ∧ Ext w w' := by
  obtain ⟨R, hR⟩ : ∃ R, textOf k n d x t = R := ⟨_, rfl⟩
  have HR0 : Hid (textOf k n d x t = R) := hR
  rw [hR]
  clear hR
  obtain ⟨wa, wb, ha, hb, sa, _, B1, B2, X⟩ := mkB2 w [.int .i64 k, .bool n, .int .i64 d, .int .i64 x, sV t] [.int .i64 0, .bool false, .int .i64 0, .int .i64 0, sV []] 30 30
  obtain ⟨a0, a1, a2, a3, a4⟩ := Vec.five B1
  go_enter Tryd.func34, Tryd.ntmps34
  by_cases h0 : k = 0
  · subst h0
    have HR : Hid (valV 2 false 0 0 [] = R) := by show _ = _; rw [← HR0.out]; simp [textOf]
    go_wp2_with fail
    clear ha hb sa a0 a1 a2 a3 a4
    refine (textVS [] wb).mono ?_
    rintro e w2 ⟨rfl, e2⟩
    obtain ⟨wy, hy, FX, ⟨b0, b1, b2, b3, b4⟩, ⟨fb0, fb1, fb2, fb3, fb4⟩, fd0, fd1, fd2, fd3, fd4⟩ := fin5 (B2.later e2) (xt X e2) (by omega) (2) (false) (0) (0) ([])
    go_wp2_with fail
    exact bodyPost_ret (v := valV 2 false 0 0 []) (by simp [results, Tryd.results34, go_sem, fd0, fd1, fd2, fd3, fd4]) rfl ⟨congrArg Ending.returned HR.out, FX⟩
  · by_cases h1 : k = 1
    · subst h1
      go_wp2_with fail
      clear ha hb sa a0 a1 a2 a3 a4
      refine (textS n d x wb).mono ?_
      rintro e w2 ⟨s, rfl, hs, e2⟩
      have es := sV_of hs
      rw [es]
      clear hs es s
      have HR : Hid (valV 2 false 0 0 (textT n d x) = R) := by show _ = _; rw [← HR0.out]; simp [textOf]
      obtain ⟨u, hu⟩ : ∃ u, textT n d x = u := ⟨_, rfl⟩
      rw [hu] at HR ⊢
      clear hu
      go_wp2_with fail
      refine (textVS u w2).mono ?_
      rintro e w3 ⟨rfl, e3⟩
      obtain ⟨wy, hy, FX, ⟨b0, b1, b2, b3, b4⟩, ⟨fb0, fb1, fb2, fb3, fb4⟩, fd0, fd1, fd2, fd3, fd4⟩ := fin5 ((B2.later e2).later e3) (xt (xt X e2) e3) (by omega) (2) (false) (0) (0) (u)
      go_wp2_with fail
      exact bodyPost_ret (v := valV 2 false 0 0 u) (by simp [results, Tryd.results34, go_sem, fd0, fd1, fd2, fd3, fd4]) rfl ⟨congrArg Ending.returned HR.out, FX⟩
    · by_cases h3 : k = 3
      · subst h3
        have HR : Hid (valV 2 false 0 0 t = R) := by show _ = _; rw [← HR0.out]; simp [textOf]
        go_wp2_with fail
        clear ha hb sa a0 a1 a2 a3 a4
        refine (textVS t wb).mono ?_
        rintro e w2 ⟨rfl, e2⟩
        obtain ⟨wy, hy, FX, ⟨b0, b1, b2, b3, b4⟩, ⟨fb0, fb1, fb2, fb3, fb4⟩, fd0, fd1, fd2, fd3, fd4⟩ := fin5 (B2.later e2) (xt X e2) (by omega) (2) (false) (0) (0) (t)
        go_wp2_with fail
        exact bodyPost_ret (v := valV 2 false 0 0 t) (by simp [results, Tryd.results34, go_sem, fd0, fd1, fd2, fd3, fd4]) rfl ⟨congrArg Ending.returned HR.out, FX⟩
      · have HR : Hid (valV k n d x t = R) := by show _ = _; rw [← HR0.out]; simp [textOf, h0, h1, h3]
        obtain ⟨wy, hy, FX, ⟨b0, b1, b2, b3, b4⟩, ⟨fb0, fb1, fb2, fb3, fb4⟩, fd0, fd1, fd2, fd3, fd4⟩ := fin5 (B2) (X) (by omega) (k) (n) (d) (x) (t)
        go_wp2_with fail
        exact bodyPost_ret (v := valV k n d x t) (by simp [results, Tryd.results34, go_sem, fd0, fd1, fd2, fd3, fd4]) rfl ⟨congrArg Ending.returned HR.out, FX⟩

end Go.Proofs.YtbebmjiopijheaaDoor

