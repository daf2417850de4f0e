/-
  Chapter 10: both tell the same codes, plain.
-/
import Derived.Test.YthedbjjncnddbaaDoorL8
namespace Go.Proofs.YthedbjjncnddbaaDoor
open Go.RowKit

def goodK (f : KT) : Prop := cntB f = true ∧ wideK f ≤ 200 ∧ (f.dt = [] ∨ (f.gr = false ∧ f.wh = 0 ∧ f.pl = 0 ∧ f.mb = 0 ∧ f.tm = 0))
theorem quoS_le {l : BL} {x : BL × BL} (h : quoS l = some x) : x.1.length ≤ 20 ∧ x.2.length ≤ l.length := by
  unfold quoS at h
  split at h
  · obtain ⟨t, r⟩ := x
    obtain ⟨h1, _, _⟩ := qT_parts h
    refine ⟨?_, by rw [h1]; simp; omega⟩
    cases l with
    | nil => cases h
    | cons c0 r0 =>
      have h : (if (c0 == 34) = true then (if (r0.dropWhile nq) ≠ [] ∧ (r0.takeWhile nq) ≠ [] ∧ (r0.takeWhile nq).length ≤ 20 ∧ plainB (r0.takeWhile nq) = true then some (r0.takeWhile nq, (r0.dropWhile nq).drop 1) else none) else none) = some (t, r) := h
      split at h
      · split at h
        · rename_i hh; cases h; exact hh.2.2.1
        · cases h
      · cases h
  · cases h; simp
theorem cnt_of {f : KT} (h : 0 ≤ f.wh ∧ 0 ≤ f.pl ∧ 0 ≤ f.mb ∧ 0 ≤ f.tm ∧ f.wh ≤ 9 ∧ f.pl ≤ 9 ∧ f.mb ≤ 9 ∧ f.tm ≤ 9) : cntB f = true := decide_eq_true h
theorem numS_good {b l : BL} {x : KT × BL} (hb : b.length ≤ 20) (h : numS b l = some x) : goodK x.1 ∧ x.2.length ≤ l.length := by
  obtain ⟨g, hg⟩ : ∃ g, Lib.hasPrefix (l.drop 0) [35, 44] = g := ⟨_, rfl⟩
  obtain ⟨k2, hk2⟩ : ∃ k2, (if g = true then 0 + 2 else 0) = k2 := ⟨_, rfl⟩
  obtain ⟨wn, hwn⟩ : ∃ wn, runF 48 9 (l.drop k2) = wn := ⟨_, rfl⟩
  obtain ⟨pt, hpt⟩ : ∃ pt, Lib.hasPrefix (l.drop (k2 + wn)) [46] = pt := ⟨_, rfl⟩
  obtain ⟨k4, hk4⟩ : ∃ k4, (if pt = true then k2 + wn + 1 else k2 + wn) = k4 := ⟨_, rfl⟩
  obtain ⟨pn, hpn⟩ : ∃ pn, (if pt = true then runF 48 9 (l.drop k4) else 0) = pn := ⟨_, rfl⟩
  obtain ⟨mn, hmn⟩ : ∃ mn, (if pt = true then runF 35 9 (l.drop (k4 + pn)) else 0) = mn := ⟨_, rfl⟩
  obtain ⟨tn, htn⟩ : ∃ tn, runF 37 3 (l.drop (k4 + pn + mn)) = tn := ⟨_, rfl⟩
  have hk := numS_at b l 0 hg hk2 hwn hpt hk4 hpn hmn htn
  have bw : wn ≤ 9 := by rw [← hwn]; exact run_le _ _ _
  have bp : pn ≤ 9 := by rw [← hpn]; split; exact run_le _ _ _; omega
  have bm : mn ≤ 9 := by rw [← hmn]; split; exact run_le _ _ _; omega
  have bt : tn ≤ 3 := by rw [← htn]; exact run_le _ _ _
  rw [List.drop_zero, h] at hk
  split at hk
  · cases hk
  · split at hk
    · cases hk
    · cases hq : quoS (l.drop (k4 + pn + mn + tn)) with
      | none => rw [hq] at hk; cases hk
      | some y =>
        rw [hq] at hk
        cases hk
        obtain ⟨q1, q2⟩ := quoS_le hq
        rw [List.length_drop] at q2
        refine ⟨⟨cnt_of ?_, ?_, .inl rfl⟩, ?_⟩
        · dsimp only
          omega
        · unfold wideK
          dsimp only [List.length_nil]
          omega
        · dsimp only
          omega
theorem dateS_good {b l : BL} {x : KT × BL} (hb : b.length ≤ 20) (hl : l.length ≤ 100) (h : dateS b l = some x) : goodK x.1 ∧ x.2.length ≤ l.length := by
  have hk := dateS_at b l 0 (0 + ((l.drop 0).takeWhile sepC).length) rfl rfl
  rw [List.drop_zero, h] at hk
  split at hk
  · cases hq : quoS (l.drop (0 + (l.takeWhile sepC).length)) with
    | none => rw [hq] at hk; cases hk
    | some y =>
      rw [hq] at hk
      cases hk
      obtain ⟨q1, q2⟩ := quoS_le hq
      rw [List.length_drop] at q2
      have := takeWhile_drop sepC l
      refine ⟨⟨cnt_of ?_, ?_, .inr ⟨rfl, rfl, rfl, rfl, rfl⟩⟩, ?_⟩
      · dsimp only
        omega
      · unfold wideK
        dsimp only
        omega
      · dsimp only
        omega
  · cases hk
theorem secS_good {l : BL} {x : KT × BL} (hl : l.length ≤ 100) (h : secS l = some x) : goodK x.1 ∧ x.2.length ≤ l.length := by
  unfold secS at h
  cases hq : quoS l with
  | none => rw [hq] at h; cases h
  | some y =>
    rw [hq] at h
    obtain ⟨q1, q2⟩ := quoS_le hq
    have h : (if Lib.hasPrefix y.2 [35, 44] || Lib.hasPrefix y.2 [48] then numS y.1 y.2 else dateS y.1 y.2) = some x := h
    split at h
    · obtain ⟨g1, g2⟩ := numS_good q1 h
      exact ⟨g1, by omega⟩
    · obtain ⟨g1, g2⟩ := dateS_good q1 (by omega) h
      exact ⟨g1, by omega⟩
theorem readL_good : ∀ (k : Nat) (l : BL) (acc : List KT), l.length ≤ 100 → (∀ f ∈ acc, goodK f) → ∀ f ∈ readL k l acc, goodK f := by
  intro k
  induction k with
  | zero => intro l acc _ _ f hf; cases hf
  | succ k ih =>
    intro l acc hl ha f hf
    simp only [readL] at hf
    cases hS : secS l with
    | none => rw [hS] at hf; cases hf
    | some x =>
      rw [hS] at hf
      obtain ⟨g1, g2⟩ := secS_good hl hS
      have hacc : ∀ f ∈ acc ++ [x.1], goodK f := fun f hf => by
        rcases List.mem_append.1 hf with hf | hf
        · exact ha f hf
        · have : f = x.1 := by simpa using hf
          rw [this]; exact g1
      dsimp only at hf
      split at hf
      · cases hf
      · split at hf
        · exact hacc f hf
        · split at hf
          · exact ih _ _ (by rw [List.length_drop]; omega) hacc f hf
          · cases hf
theorem readF_good (c : BL) : ∀ f ∈ readF c, goodK f := by
  intro f hf
  unfold readF at hf
  split at hf
  · cases hf
  · exact readL_good 4 c [] (by omega) (fun f hf => by cases hf) f hf

end Go.Proofs.YthedbjjncnddbaaDoor
