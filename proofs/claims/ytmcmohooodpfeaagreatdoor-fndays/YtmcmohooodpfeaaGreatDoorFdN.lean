/-
  The plain maths of FnDays: a date's day, the next day's date, months added and taken back.
-/
import Derived.Test.YtmcmohooodpfeaaGreatDoorRdQ
import Derived.Test.YtmcmohooodpfeaaGreatDoorAddFn
import Derived.Test.YtmcmohooodpfeaaGreatDoorCurD
namespace Go.Proofs.YtmcmohooodpfeaaGreatDoor
open Go.RowKit

theorem IsDt.year {cal day y m d : Int} (hc : cal = 1 ∨ cal = 2) (h : IsDt cal day y m d) (h0 : -1000001 ≤ day) (h1 : day ≤ 1000001) : -5000 ≤ y ∧ y ≤ 9999 := by
  have hh := h.holds
  have o : 730485 ≤ off cal ∧ off cal ≤ 730487 := by unfold off; split <;> omega
  constructor
  · apply Classical.byContradiction
    intro hy
    have := ahead_mono cal (a := y + 1) (b := -5000) (by omega)
    have hl : ahead cal (-5000) ≤ -1800000 := by unfold ahead; rcases hc with rfl | rfl <;> decide
    have := hh.2
    omega
  · apply Classical.byContradiction
    intro hy
    have := ahead_mono cal (a := 9999) (b := y) (by omega)
    have hl : 3000000 ≤ ahead cal 9999 := by unfold ahead; rcases hc with rfl | rfl <;> decide
    have := hh.1
    omega
theorem IsDt.good {cal day y m d : Int} (hc : cal = 1 ∨ cal = 2) (h : IsDt cal day y m d) (h0 : -1000000 ≤ day) (h1 : day ≤ 1000000) : GoodDate cal y m d :=
  ⟨hc, h.year hc (by omega) (by omega), ⟨h.1, h.2.1⟩, h.2.2.1, h.2.2.2.1⟩
theorem IsDt.dayP {cal day y m d : Int} (hc : cal = 1 ∨ cal = 2) (h : IsDt cal day y m d) (h0 : -1000000 ≤ day) (h1 : day ≤ 1000000) : dayP cal y m d = some day := by
  have g := h.good hc h0 h1
  obtain ⟨_, _, _, _, e⟩ := h
  unfold Go.Proofs.YtmcmohooodpfeaaGreatDoor.dayP
  rw [e, if_pos ⟨g, h0, h1⟩]
theorem IsDt.text {cal day y m d : Int} (hc : cal = 1 ∨ cal = 2) (h : IsDt cal day y m d) (h0 : -1000000 ≤ day) (h1 : day ≤ 1000000) : DText y m d := by
  have g := h.good hc h0 h1
  have := mlen_pos cal y m
  exact ⟨g.2.1, g.2.2.1, g.2.2.2.1, by have := g.2.2.2.2; omega⟩
theorem IsDt.next {cal day y m d y' m' d' : Int} (h : IsDt cal day y m d) (h' : IsDt cal (day + 1) y' m' d') : (d = mlen cal y m ∧ d' = 1) ∨ (d ≠ mlen cal y m ∧ d' ≠ 1 ∧ d' = d + 1) := by
  obtain ⟨a, b, c, e, f⟩ := h
  by_cases hd : d = mlen cal y m
  · left
    refine ⟨hd, ?_⟩
    by_cases hm : m = 12
    · have k : IsDt cal (day + 1) (y + 1) 1 1 := by
        refine ⟨by omega, by omega, by omega, (by have := mlen_pos cal (y + 1) 1; omega), ?_⟩
        have e1 := ahead_next cal y
        have e2 := cum_succ cal y 11
        subst hm
        have t1 : ((12 : Int) - 1).toNat = 11 := by decide
        have t2 : ((1 : Int) - 1).toNat = 0 := by decide
        rw [t1] at f
        rw [t2]
        have t3 : (((11 : Nat) : Int) + 1) = 12 := by decide
        rw [t3, ← hd] at e2
        have t4 : cum cal y (11 + 1) = cum cal y 12 := rfl
        rw [t4] at e2
        simp only [cum]
        omega
      exact (h'.one k).2.2
    · have k : IsDt cal (day + 1) y (m + 1) 1 := by
        refine ⟨by omega, by omega, by omega, (by have := mlen_pos cal y (m + 1); omega), ?_⟩
        have t : (m + 1 - 1).toNat = (m - 1).toNat + 1 := by omega
        have t3 : (((m - 1).toNat : Int) + 1) = m := by omega
        rw [t, cum_succ, t3, ← hd]
        omega
      exact (h'.one k).2.2
  · right
    have k : IsDt cal (day + 1) y m (d + 1) := ⟨a, b, by omega, by omega, by omega⟩
    have := (h'.one k).2.2
    exact ⟨hd, by omega, this⟩
theorem RdOK.of_text {y m d cal : Int} {r : Option Int} (h : DText y m d) (k : RdOK (dateB y m d) cal r) : r = dayP cal y m d := k.one (.inl ⟨y, m, d, ⟨h, rfl⟩, rfl⟩)
theorem dateB_short {y m d : Int} (h : DText y m d) : (dateB y m d).size ≤ 1048576 := by
  have e := congrArg List.length (dateB_list h)
  have k : ∀ s : ByteArray, s.size = s.data.toList.length := fun ⟨⟨_⟩⟩ => rfl
  rw [k, e]
  unfold dateL
  split <;> simp
theorem AddRes.back {cal y m d n Y M D Y' M' D' : Int} (h : AddRes cal y m d n Y M D) (hz : ¬ (Y = 0 ∧ M = 0 ∧ D = 0)) (k : AddRes cal Y M D (-n) Y' M' D') : Y' = y ∧ M' = m ∧ D' ≤ d := by
  unfold AddRes at h
  split at h
  case isFalse => exact (hz h).elim
  case isTrue g =>
    obtain ⟨⟨⟨hc, hy, hm, hd0, hd1⟩, hn0, hn1⟩, hY0, hY1⟩ := g
    obtain ⟨e1, e2, e3⟩ := h
    have mp := mlen_pos cal Y M
    have gd : GoodDate cal Y M D := ⟨hc, by omega, by omega, by rw [e3]; split <;> omega, by rw [e3]; split <;> omega⟩
    have t : Y * 12 + M - 1 + -n = y * 12 + m - 1 := by omega
    have t1 : (y * 12 + m - 1) / 12 = y := by omega
    have t2 : (y * 12 + m - 1) % 12 = m - 1 := by omega
    have hD : D ≤ d := by rw [e3]; split <;> omega
    unfold AddRes at k
    rw [t, t1, t2] at k
    rw [if_pos ⟨⟨gd, by omega, by omega⟩, hy⟩] at k
    obtain ⟨k1, k2, k3⟩ := k
    refine ⟨k1, by omega, ?_⟩
    rw [k3]
    split <;> omega

end Go.Proofs.YtmcmohooodpfeaaGreatDoor
