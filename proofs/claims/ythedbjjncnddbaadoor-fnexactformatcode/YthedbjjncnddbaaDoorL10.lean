/-
  Chapter 10: both tell the same codes.
-/
import Derived.Test.YthedbjjncnddbaaDoorL9
namespace Go.Proofs.YthedbjjncnddbaaDoor
open Go.RowKit

theorem code_same {f : KT} (h : goodK f) : codeS f = codeP f := by
  obtain ⟨hc, _, hd⟩ := h
  have hcc : 0 ≤ f.wh ∧ 0 ≤ f.pl ∧ 0 ≤ f.mb ∧ 0 ≤ f.tm ∧ f.wh ≤ 9 ∧ f.pl ≤ 9 ∧ f.mb ≤ 9 ∧ f.tm ≤ 9 := of_decide_eq_true hc
  have mI : ∀ a : Int, a ≤ 9 → minI a 20 = a := fun a ha => by unfold minI; rw [if_pos (by omega)]
  have hw : wrap64 (f.pl + f.mb) = f.pl + f.mb := by unfold wrap64; omega
  unfold codeS codeP
  rw [mI _ hcc.2.2.2.2.1, mI _ hcc.2.2.2.2.2.1, mI _ hcc.2.2.2.2.2.2.1, mI _ hcc.2.2.2.2.2.2.2, hw]
  by_cases hdt : f.dt = []
  · rw [if_pos hdt, hdt]
    unfold numC
    simp only [List.append_assoc, List.nil_append]
  · rcases hd with hd | ⟨h1, h2, h3, h4, h5⟩
    · exact absurd hd hdt
    · rw [if_neg hdt, h1, h2, h3, h4, h5]
      simp [repF]
theorem jk_join {l : List KT} (h1 : 1 ≤ l.length) (h3 : l.length ≤ 3) (hg : ∀ f ∈ l, codeS f = codeP f) : jk l l.length = Lib.join (l.map codeP) [59] := by
  match l, h1, h3, hg with
  | [a], _, _, hg =>
    have := hg a (by simp)
    simp [jk, Lib.join, List.intercalate, this]
  | [a, b], _, _, hg =>
    have e1 := hg a (by simp)
    have e2 := hg b (by simp)
    simp [jk, Lib.join, List.intercalate, e1, e2]
  | [a, b, c], _, _, hg =>
    have e1 := hg a (by simp)
    have e2 := hg b (by simp)
    have e3 := hg c (by simp)
    simp [jk, Lib.join, List.intercalate, e1, e2, e3]
  | _ :: _ :: _ :: _ :: _, _, h3, _ => simp at h3
theorem told_same (l : List KT) : toldP l = toldS l := by
  unfold toldP toldS
  by_cases h3 : 3 < l.length
  · rw [if_pos h3, if_pos (.inr h3)]
  · rw [if_neg h3]
    by_cases h1 : l.length < 1
    · have hl : l = [] := List.length_eq_zero_iff.1 (by omega)
      subst hl
      simp [Lib.join, List.intercalate]
    · rw [if_neg (show ¬ (l.length < 1 ∨ 3 < l.length) by omega)]
      by_cases hg : ∀ f ∈ l, goodK f
      · have a1 : l.any (fun f => !cntB f) = false := by
          rw [List.any_eq_false]
          intro f hf
          rw [(hg f hf).1]
          decide
        have a2 : l.any (fun f => decide (200 < wideK f)) = false := by
          rw [List.any_eq_false]
          intro f hf
          have := (hg f hf).2.1
          simp
          omega
        rw [a1, a2, jk_join (by omega) (by omega) (fun f hf => code_same (hg f hf))]
      · have n1 : ∀ c, readF c ≠ l := fun c e => hg (fun f hf => readF_good c f (by rw [e]; exact hf))
        rw [if_neg (n1 _), if_neg (n1 _)]
        repeat' split
        all_goals rfl

end Go.Proofs.YthedbjjncnddbaaDoor
