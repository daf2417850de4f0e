/-
  Chapter 6: good values, on both sides.
-/
import Derived.Test.YtbebmjiopijheaaDoorGood
import Derived.Test.YtbebmjiopijheaaDoorFk
import Derived.Deep.RegionWith
namespace Go.Proofs.YtbebmjiopijheaaDoor
open Go.RowKit

abbrev valV (k : Int) (n : Bool) (d x : Int) (t : List UInt8) : Value := .agg #[.int .i64 k, .bool n, .int .i64 d, .int .i64 x, sV t]
abbrev valL (k : Int) (n : Bool) (d x : Int) (t : List UInt8) : List Value := [.int .i64 k, .bool n, .int .i64 d, .int .i64 x, sV t]
/-- The zero of decimals. -/
def zeroD (n : Bool) (d x : Int) : Bool := !n && decide (d = 0) && decide (x = 0)
/-- What a good value is. -/
def goodV (k : Int) (n : Bool) (d x : Int) (t : List UInt8) : Bool :=
  if k = 1 then goodB n d x && (t == []) else
  zeroD n d x && (if k = 0 then t == [] else if k = 2 then printN 1000 t else if k = 3 then boolB t else if k = 4 then memB errL t else false)

set_option maxRecDepth 8000 in
set_option maxHeartbeats 2000000 in
theorem goodVI (k : Int) (n : Bool) (d x : Int) (t : List UInt8) (w : World) (hl : t.length ≤ 2000000) (d1 : -9223372036854775808 ≤ d) (d2 : d ≤ 9223372036854775807) (hT : Tens w) (hE : ErrTab w) :
    Calls Tryd.prog 11 #[valV k n d x t] w fun e w' => e = .returned (.bool (goodV k n d x t)) ∧ Ext w w' := by
  have X0 := x1 w (.cells #[.int .i64 k, .bool n, .int .i64 d, .int .i64 x, sV t] 30)
  have B := vec_made w (valL k n d x t) 30
  have T1 := hT.later X0
  have E1 := hE.later X0
  obtain ⟨p, hp⟩ : ∃ p, (t == []) = p := ⟨_, rfl⟩
  clear hT hE
  by_cases h1 : k = 1
  · subst h1
    have C := fun W (X : Ext (w.alloc (.cells #[.int .i64 1, .bool n, .int .i64 d, .int .i64 x, sV t] 30)) W) => goodI n d x W d1 d2 (T1.later X)
    have e : goodV 1 n d x t = (goodB n d x && p) := by simp [goodV, hp]
    rw [e]
    obtain ⟨q, hq⟩ : ∃ q, goodB n d x = q := ⟨_, rfl⟩
    rw [hq] at C ⊢
    clear e hq d1 d2
    cases q
    · go_enter Tryd.func11, Tryd.ntmps11
      go_wp2_with (go_at_call 23; refine (C _ (xr _)).mono ?_; rintro e w1 ⟨rfl, e1⟩)
      go_ret
      exact ⟨rfl, xt X0 e1⟩
    · cases p
      all_goals
        go_enter Tryd.func11, Tryd.ntmps11
        go_wp2_with (go_at_call 23; refine (C _ (xr _)).mono ?_; rintro e w1 ⟨rfl, e1⟩; have a4 := ((B.later e1) 4 _ rfl).1)
        go_ret
        exact ⟨rfl, xt X0 e1⟩
  · by_cases hz : zeroD n d x = true
    · obtain ⟨rfl, rfl, rfl⟩ : n = false ∧ d = 0 ∧ x = 0 := by simpa [zeroD, and_assoc] using hz
      clear hz d1 d2 T1
      by_cases h0 : k = 0
      · subst h0
        have e : goodV 0 false 0 0 t = p := by simp [goodV, zeroD, hp]
        rw [e]
        clear e
        cases p
        all_goals
          go_enter Tryd.func11, Tryd.ntmps11
          go_wp2_with fail
          go_ret
          exact ⟨rfl, X0⟩
      · clear hp
        by_cases h2 : k = 2
        · subst h2
          have C := fun W => plainI t W hl
          have e : goodV 2 false 0 0 t = (plainB t && decide ((t.length : Int) ≤ 1000)) := by
            have e2 : decide (t.length ≤ 1000) = decide ((t.length : Int) ≤ 1000) := decide_eq_decide.2 (by omega)
            simp [goodV, zeroD, printN, plainB, e2]
          rw [e]
          obtain ⟨m, hm⟩ : ∃ m, t.length = m := ⟨_, rfl⟩
          have hs : (⟨t.toArray⟩ : ByteArray).size = m := hm
          rw [hm] at hl ⊢
          obtain ⟨q, hq⟩ : ∃ q, plainB t = q := ⟨_, rfl⟩
          rw [hq] at C ⊢
          clear e hq hm h0 h1
          cases q
          all_goals
            go_enter Tryd.func11, Tryd.ntmps11
            go_wp2_with (go_at_call 24; refine (C _).mono ?_; rintro e w1 ⟨rfl, rfl⟩)
            go_ret
            exact ⟨ret_bool (by simp), X0⟩
        · by_cases h3 : k = 3
          · subst h3
            have C := fun W => boolI t W
            have e : goodV 3 false 0 0 t = boolB t := by simp [goodV, zeroD]
            rw [e]
            clear e h0 h1 h2
            go_enter Tryd.func11, Tryd.ntmps11
            go_wp2_with (go_at_call 25; refine (C _).mono ?_; rintro e w1 ⟨rfl, rfl⟩)
            go_ret
            exact ⟨rfl, X0⟩
          · by_cases h4 : k = 4
            · subst h4
              have C := errI t _ E1
              have e : goodV 4 false 0 0 t = memB errL t := by simp [goodV, zeroD]
              rw [e]
              clear e h0 h1 h2 h3
              go_enter Tryd.func11, Tryd.ntmps11
              go_wp2_with (go_at_call 26; refine C.mono ?_; rintro e w1 ⟨rfl, rfl⟩)
              go_ret
              exact ⟨rfl, X0⟩
            · have e : goodV k false 0 0 t = false := by simp [goodV, zeroD, h0, h1, h2, h3, h4]
              rw [e]
              clear e
              go_enter Tryd.func11, Tryd.ntmps11
              go_wp2_with fail
              go_ret
              exact ⟨rfl, X0⟩
    · have e : goodV k n d x t = false := by simp only [Bool.not_eq_true] at hz; simp [goodV, hz, h1]
      rw [e]
      clear e hp B T1 E1 hl
      have hz' : n = true ∨ (n = false ∧ (d ≠ 0 ∨ (d = 0 ∧ x ≠ 0))) := by
        cases n
        · right
          refine ⟨rfl, ?_⟩
          by_cases hd : d = 0
          · right
            refine ⟨hd, fun hx => hz ?_⟩
            simp [zeroD, hd, hx]
          · exact Or.inl hd
        · exact Or.inl rfl
      clear hz
      rcases hz' with rfl | ⟨rfl, hd | ⟨rfl, hx⟩⟩
      all_goals
        go_enter Tryd.func11, Tryd.ntmps11
        go_wp2_with fail
        go_ret
        exact ⟨rfl, X0⟩

set_option maxRecDepth 8000 in
set_option maxHeartbeats 2000000 in
theorem goodVS (k : Int) (n : Bool) (d x : Int) (t : List UInt8) (w : World) (hl : t.length ≤ 2000000) :
    Calls Tryd.prog 8 #[valV k n d x t] w fun e w' => e = .returned (.bool (goodV k n d x t)) ∧ Ext w w' := by
  have X0 := x1 w (.cells #[.int .i64 k, .bool n, .int .i64 d, .int .i64 x, sV t] 30)
  have B := vec_made w (valL k n d x t) 30
  obtain ⟨p, hp⟩ : ∃ p, (t == []) = p := ⟨_, rfl⟩
  by_cases h1 : k = 1
  · subst h1
    have C := fun W => goodS n d x W
    have e : goodV 1 n d x t = (goodB n d x && p) := by simp [goodV, hp]
    rw [e]
    obtain ⟨q, hq⟩ : ∃ q, goodB n d x = q := ⟨_, rfl⟩
    rw [hq] at C ⊢
    clear e hq
    cases p
    · go_enter Tryd.func8, Tryd.ntmps8
      go_wp2_with fail
      go_ret
      exact ⟨ret_bool (by simp), X0⟩
    · go_enter Tryd.func8, Tryd.ntmps8
      go_wp2_with (go_at_call 16; refine (C _).mono ?_; rintro e w1 ⟨rfl, e1⟩)
      go_ret
      exact ⟨ret_bool (by simp), xt X0 e1⟩
  · by_cases hz : zeroD n d x = true
    · obtain ⟨rfl, rfl, rfl⟩ : n = false ∧ d = 0 ∧ x = 0 := by simpa [zeroD, and_assoc] using hz
      clear hz
      by_cases h0 : k = 0
      · subst h0
        have e : goodV 0 false 0 0 t = p := by simp [goodV, zeroD, hp]
        rw [e]
        clear e
        cases p
        all_goals
          go_enter Tryd.func8, Tryd.ntmps8
          go_wp2_with fail
          go_ret
          exact ⟨rfl, X0⟩
      · clear hp
        by_cases h2 : k = 2
        · subst h2
          have C := fun W => printS 1000 t W hl
          have e : goodV 2 false 0 0 t = printN 1000 t := by simp [goodV, zeroD]
          rw [e]
          clear e h0 h1
          go_enter Tryd.func8, Tryd.ntmps8
          go_wp2_with (go_at_call 17; refine (C _).mono ?_; rintro e w1 ⟨rfl, rfl⟩)
          go_ret
          exact ⟨rfl, X0⟩
        · by_cases h3 : k = 3
          · subst h3
            obtain ⟨p, hp⟩ : ∃ p, (t == [84, 82, 85, 69]) = p := ⟨_, rfl⟩
            obtain ⟨q, hq⟩ : ∃ q, (t == [70, 65, 76, 83, 69]) = q := ⟨_, rfl⟩
            have e : goodV 3 false 0 0 t = (p || q) := by simp only [goodV, zeroD, boolB, hp, hq]; rfl
            rw [e]
            clear e h0 h1 h2
            cases p <;> cases q
            all_goals
              go_enter Tryd.func8, Tryd.ntmps8
              go_wp2_with fail
              go_ret
              exact ⟨rfl, X0⟩
          · by_cases h4 : k = 4
            · subst h4
              have C := fun W => errorsS W
              have D := fun g W V => inS errL t g 9 W (by decide) V
              have e : goodV 4 false 0 0 t = memB errL t := by simp [goodV, zeroD]
              rw [e]
              clear e h0 h1 h2 h3
              go_enter Tryd.func8, Tryd.ntmps8
              go_wp2_with fail
              go_region_with (first
                | (go_at_call 19; refine (C _).mono ?_; rintro e w1 ⟨g, rfl, V, e1⟩; have a4 := ((B.later (xt (xd (xr _)) e1)) 4 _ rfl).1)
                | (go_at_call 18; refine (D g _ V).mono ?_; rintro e w2 ⟨rfl, rfl⟩))
              all_goals
                go_wp2_with fail
                go_ret
                exact ⟨rfl, xt (xd X0) e1⟩
            · have e : goodV k false 0 0 t = false := by simp [goodV, zeroD, h0, h1, h2, h3, h4]
              rw [e]
              clear e
              go_enter Tryd.func8, Tryd.ntmps8
              go_wp2_with fail
              go_ret
              exact ⟨rfl, X0⟩
    · have e : goodV k n d x t = false := by simp only [Bool.not_eq_true] at hz; simp [goodV, hz, h1]
      rw [e]
      clear e B hl
      have hz' : n = true ∨ (n = false ∧ (d ≠ 0 ∨ (d = 0 ∧ x ≠ 0))) := by
        cases n
        · right
          refine ⟨rfl, ?_⟩
          by_cases hd : d = 0
          · right
            refine ⟨hd, fun hx => hz ?_⟩
            simp [zeroD, hd, hx]
          · exact Or.inl hd
        · exact Or.inl rfl
      clear hz
      by_cases h0 : k = 0
      · subst h0
        cases p
        all_goals rcases hz' with rfl | ⟨rfl, hd | ⟨rfl, hx⟩⟩
        all_goals
          go_enter Tryd.func8, Tryd.ntmps8
          go_wp2_with fail
          go_ret
          exact ⟨rfl, X0⟩
      · clear hp
        rcases hz' with rfl | ⟨rfl, hd | ⟨rfl, hx⟩⟩
        all_goals
          go_enter Tryd.func8, Tryd.ntmps8
          go_wp2_with fail
          go_ret
          exact ⟨rfl, X0⟩

end Go.Proofs.YtbebmjiopijheaaDoor

