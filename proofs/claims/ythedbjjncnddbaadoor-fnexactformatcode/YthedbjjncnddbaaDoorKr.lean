/-
  Chapter 10: letters; the words of a date's row, as the specification reads them.
-/
import Derived.Test.YthedbjjncnddbaaDoorKq
import Derived.Deep.AppendLies
import Derived.OwnWalk
import Derived.Laws.OwnMore
namespace Go.Proofs.YthedbjjncnddbaaDoor
open Go.RowKit

theorem let_cases (c : UInt8) : (c.toNat < 65 ∧ letF c = false) ∨ (65 ≤ c.toNat ∧ c.toNat ≤ 90 ∧ letF c = true) ∨ (90 < c.toNat ∧ c.toNat < 97 ∧ letF c = false) ∨ (97 ≤ c.toNat ∧ c.toNat ≤ 122 ∧ letF c = true) ∨ (122 < c.toNat ∧ letF c = false) := by
  unfold letF
  by_cases h1 : c.toNat < 65
  · left; exact ⟨h1, decide_eq_false (by omega)⟩
  by_cases h2 : c.toNat ≤ 90
  · right; left; exact ⟨by omega, h2, decide_eq_true (by omega)⟩
  by_cases h3 : c.toNat < 97
  · right; right; left; exact ⟨by omega, h3, decide_eq_false (by omega)⟩
  by_cases h4 : c.toNat ≤ 122
  · right; right; right; left; exact ⟨by omega, h4, decide_eq_true (by omega)⟩
  · right; right; right; right; exact ⟨by omega, decide_eq_false (by omega)⟩
set_option maxHeartbeats 1000000 in
theorem letterS (c : UInt8) (w : World) : Calls Tryd.prog 56 #[.int .u8 (c.toNat : Int)] w fun e w' => e = .returned (.bool (letF c)) ∧ w' = w := by
  have h := let_cases c
  obtain ⟨N, hN⟩ : ∃ N : Int, (c.toNat : Int) = N := ⟨_, rfl⟩
  have h0 : 0 ≤ N := by omega
  have h' : (N < 65 ∧ letF c = false) ∨ (65 ≤ N ∧ N ≤ 90 ∧ letF c = true) ∨ (90 < N ∧ N < 97 ∧ letF c = false) ∨ (97 ≤ N ∧ N ≤ 122 ∧ letF c = true) ∨ (122 < N ∧ letF c = false) := by
    rw [← hN]
    rcases h with ⟨h1, h2⟩ | ⟨h1, h2, h3⟩ | ⟨h1, h2, h3⟩ | ⟨h1, h2, h3⟩ | ⟨h1, h2⟩
    · exact .inl ⟨by omega, h2⟩
    · exact .inr (.inl ⟨by omega, by omega, h3⟩)
    · exact .inr (.inr (.inl ⟨by omega, by omega, h3⟩))
    · exact .inr (.inr (.inr (.inl ⟨by omega, by omega, h3⟩)))
    · exact .inr (.inr (.inr (.inr ⟨by omega, h2⟩)))
  rw [hN]
  obtain ⟨b, hb⟩ : ∃ b, letF c = b := ⟨_, rfl⟩
  rw [hb] at h' ⊢
  clear hN hb h
  rcases h' with ⟨h1, rfl⟩ | ⟨h1, h2, rfl⟩ | ⟨h1, h2, rfl⟩ | ⟨h1, h2, rfl⟩ | ⟨h1, rfl⟩
  all_goals
    go_enter Tryd.func56, Tryd.ntmps56
    go_wp2_with fail
    go_ret
    first | exact ⟨rfl, rfl⟩ | exact ⟨ret_bool (by simp; omega), rfl⟩
set_option maxHeartbeats 1000000 in
theorem letterI (c : UInt8) (w : World) : Calls Tryd.prog 61 #[.int .u8 (c.toNat : Int)] w fun e w' => e = .returned (.bool (letF c)) ∧ w' = w := by
  have h := let_cases c
  obtain ⟨N, hN⟩ : ∃ N : Int, (c.toNat : Int) = N := ⟨_, rfl⟩
  have h0 : 0 ≤ N := by omega
  have h' : (N < 65 ∧ letF c = false) ∨ (65 ≤ N ∧ N ≤ 90 ∧ letF c = true) ∨ (90 < N ∧ N < 97 ∧ letF c = false) ∨ (97 ≤ N ∧ N ≤ 122 ∧ letF c = true) ∨ (122 < N ∧ letF c = false) := by
    rw [← hN]
    rcases h with ⟨h1, h2⟩ | ⟨h1, h2, h3⟩ | ⟨h1, h2, h3⟩ | ⟨h1, h2, h3⟩ | ⟨h1, h2⟩
    · exact .inl ⟨by omega, h2⟩
    · exact .inr (.inl ⟨by omega, by omega, h3⟩)
    · exact .inr (.inr (.inl ⟨by omega, by omega, h3⟩))
    · exact .inr (.inr (.inr (.inl ⟨by omega, by omega, h3⟩)))
    · exact .inr (.inr (.inr (.inr ⟨by omega, h2⟩)))
  rw [hN]
  obtain ⟨b, hb⟩ : ∃ b, letF c = b := ⟨_, rfl⟩
  rw [hb] at h' ⊢
  clear hN hb h
  rcases h' with ⟨h1, rfl⟩ | ⟨h1, h2, rfl⟩ | ⟨h1, h2, rfl⟩ | ⟨h1, h2, rfl⟩ | ⟨h1, rfl⟩
  all_goals
    go_enter Tryd.func61, Tryd.ntmps61
    go_wp2_with fail
    go_ret
    first | exact ⟨rfl, rfl⟩ | exact ⟨ret_bool (by simp; omega), rfl⟩

theorem wordF_at {l : BL} {k : Nat} {o : BL} (hk : wordsT[k]? = some o) (hp : Lib.hasPrefix l o = true) (hn : ∀ (j : Nat) o, j < k → wordsT[j]? = some o → Lib.hasPrefix l o = false) : wordF l = o := by
  unfold wordF
  have : wordsT.find? (fun o => Lib.hasPrefix l o) = some o := by
    rw [List.find?_eq_some_iff_getElem]
    obtain ⟨hk1, hk2⟩ := List.getElem?_eq_some_iff.1 hk
    refine ⟨hp, k, hk1, hk2, fun j hj => ?_⟩
    rw [hn j _ hj (List.getElem?_eq_getElem (Nat.lt_trans hj hk1))]
    rfl
  rw [this]
  rfl
theorem wordF_none {l : BL} (hn : ∀ (j : Nat) o, wordsT[j]? = some o → Lib.hasPrefix l o = false) : wordF l = [] := by
  unfold wordF
  have : wordsT.find? (fun o => Lib.hasPrefix l o) = none := by
    rw [List.find?_eq_none]
    intro o ho
    obtain ⟨j, hj⟩ := List.getElem?_of_mem ho
    rw [hn j o hj]
    decide
  rw [this]
  rfl
theorem words_len : ∀ o ∈ wordsT, 1 ≤ o.length ∧ o.length ≤ 4 := by decide
theorem wordF_mem (l : BL) : wordF l = [] ∨ (wordF l ∈ wordsT ∧ Lib.hasPrefix l (wordF l) = true) := by
  unfold wordF
  cases h : wordsT.find? (fun o => Lib.hasPrefix l o) with
  | none => left; rfl
  | some o => right; exact ⟨List.mem_of_find?_eq_some h, List.find?_some (p := fun o => Lib.hasPrefix l o) h⟩
theorem wordF_le (l : BL) : (wordF l).length ≤ l.length := by
  rcases wordF_mem l with h | h
  · rw [h]; simp
  · have := h.2
    rw [prefK_iff, Bool.and_eq_true] at this
    exact of_decide_eq_true this.1
theorem parts_fuel : ∀ (f f' : Nat) (l : BL), l.length ≤ f → l.length ≤ f' → partsF f l = partsF f' l := by
  intro f
  induction f with
  | zero =>
    intro f' l h _
    have : l = [] := List.length_eq_zero_iff.1 (by omega)
    subst this
    cases f' <;> simp [partsF]
  | succ f ih =>
    intro f' l h h'
    by_cases hl : l = []
    · subst hl; cases f' <;> simp [partsF]
    · cases f' with
      | zero => exact absurd (List.length_eq_zero_iff.1 (by omega)) hl
      | succ f' =>
        show (if l = [] then some [] else if wordF l = [] then none else _) = (if l = [] then some [] else if wordF l = [] then none else _)
        rw [if_neg hl, if_neg hl]
        by_cases hw : wordF l = []
        · rw [if_pos hw, if_pos hw]
        · rw [if_neg hw, if_neg hw]
          have h1 : 1 ≤ (wordF l).length := by
            rcases Nat.eq_zero_or_pos (wordF l).length with h0 | h0
            · exact absurd (List.length_eq_zero_iff.1 h0) hw
            · exact h0
          rw [ih f' (l.drop (wordF l).length) (by rw [List.length_drop]; omega) (by rw [List.length_drop]; omega)]
theorem parts_none {s : BL} {j : Nat} (hj : j < s.length) (hw : wordF (s.drop j) = []) : partsF (s.length - j) (s.drop j) = none := by
  have hne : s.drop j ≠ [] := fun e => by have := congrArg List.length e; rw [List.length_drop] at this; simp at this; omega
  rw [show s.length - j = (s.length - j - 1) + 1 by omega]
  show (if s.drop j = [] then some [] else if wordF (s.drop j) = [] then none else _) = _
  rw [if_neg hne, if_pos hw]
theorem parts_step {s : BL} {j : Nat} (hj : j < s.length) (hw : wordF (s.drop j) ≠ []) : partsF (s.length - j) (s.drop j) = (partsF (s.length - (j + (wordF (s.drop j)).length)) (s.drop (j + (wordF (s.drop j)).length))).map (wordF (s.drop j) :: ·) := by
  have hne : s.drop j ≠ [] := fun e => by have := congrArg List.length e; rw [List.length_drop] at this; simp at this; omega
  have hle := wordF_le (s.drop j)
  rw [List.length_drop] at hle
  have h1 : 1 ≤ (wordF (s.drop j)).length := by
    rcases Nat.eq_zero_or_pos (wordF (s.drop j)).length with h0 | h0
    · exact absurd (List.length_eq_zero_iff.1 h0) hw
    · exact h0
  conv => lhs; rw [show s.length - j = (s.length - j - 1) + 1 by omega]
  show (if s.drop j = [] then some [] else if wordF (s.drop j) = [] then none else _) = _
  rw [if_neg hne, if_neg hw, List.drop_drop]
  rw [parts_fuel (s.length - j - 1) (s.length - (j + (wordF (s.drop j)).length)) _ (by rw [List.length_drop]; omega) (by rw [List.length_drop]; omega)]
theorem parts_end (s : BL) : partsF (s.length - s.length) (s.drop s.length) = some [] := by simp [partsF]

/-- A row of texts of one's own, that may grow. -/
abbrev OwnT (w : World) (base : Nat) (v : Value) (l : List BL) : Prop := w.ownsRow base 9 1 v l.length (l.map sV)
theorem ownT_later {w w' : World} {base : Nat} {v : Value} {l : List BL} (h : OwnT w base v l) (hx : Ext w w') : OwnT w' base v l := by
  refine ⟨h.1, h.2.imp id ?_⟩
  rintro ⟨g, cap, cur, h1, h2, h3, h4⟩
  have hlt : g < w.heap.size := by
    rcases Nat.lt_or_ge g w.heap.size with h' | h'
    · exact h'
    · rw [Array.getElem?_eq_none h'] at h3; cases h3
  exact ⟨g, cap, cur, h1, h2, by rw [hx.block g hlt]; exact h3, h4⟩
theorem ownT_only {w w' : World} {b base : Nat} {v : Value} {l : List BL} (h : OwnT w base v l) (hx : OnlyK b w w') (hb : b < base) : OwnT w' base v l := by
  refine ⟨h.1, h.2.imp id ?_⟩
  rintro ⟨g, cap, cur, h1, h2, h3, h4⟩
  have hlt : g < w.heap.size := by
    rcases Nat.lt_or_ge g w.heap.size with h' | h'
    · exact h'
    · rw [Array.getElem?_eq_none h'] at h3; cases h3
  exact ⟨g, cap, cur, h1, h2, by rw [hx.block g (by omega) hlt]; exact h3, h4⟩
theorem ownT_block {w : World} {base : Nat} {v : Value} {l : List BL} (h : OwnT w base v l) : ∀ r, v.ownBlock = some r → base ≤ r ∧ r < w.heap.size := by
  intro r hr
  rcases h.2 with ⟨rfl, _⟩ | ⟨g, cap, cur, rfl, h2, h3, _⟩
  · cases hr
  · have : g = r := by simpa [Value.ownBlock] using hr
    subst this
    refine ⟨h2, ?_⟩
    rcases Nat.lt_or_ge g w.heap.size with h' | h'
    · exact h'
    · rw [Array.getElem?_eq_none h'] at h3; cases h3
theorem ownT_slice {w : World} {base : Nat} {v : Value} {l : List BL} (h : OwnT w base v l) : ∃ p c, v = .slice p l.length c ∧ l.length ≤ c := by
  rcases h.2 with ⟨rfl, h0⟩ | ⟨g, cap, cur, rfl, _, _, h3, _⟩
  · exact ⟨none, 0, by rw [h0], by omega⟩
  · exact ⟨_, _, rfl, h3⟩
theorem ownT_nil (w : World) (base : Nat) : OwnT w base (.slice none 0 0) [] := World.ownsRow_nil _ _ _ _
theorem infoT : ∃ inf, Tryd.prog.info? 9 = some inf ∧ inf.zero = some (.string ByteArray.empty) ∧ inf.size = 1 ∧ inf.bytes = 16 := by
  have h : (Tryd.prog.info? 9).map (fun i => (i.zero, i.size, i.bytes)) = some (some (.string ByteArray.empty), 1, 16) := by kernel_rfl
  cases h' : Tryd.prog.info? 9 with
  | none => rw [h'] at h; cases h
  | some inf =>
    rw [h'] at h
    simp at h
    exact ⟨inf, rfl, h.1, h.2.1, h.2.2⟩
theorem vec_grown {w w' : World} {g : Nat} {l : List Value} {row : Option Nat} (h : Vec w g l) (hg : w.grownBy w' row) (hr : ∀ r, row = some r → r ≠ g) (hl : l ≠ []) : Vec w' g l := by
  have hlt : g < w.heap.size := by
    cases l with
    | nil => exact absurd rfl hl
    | cons u l => exact World.block_lt_of_cell? _ _ (h 0 u rfl).1
  have hb := hg.block g hlt (fun e => hr g e.symm rfl)
  intro i v hi
  obtain ⟨a, f⟩ := h i v hi
  refine ⟨?_, ?_⟩
  · unfold World.cell? at a ⊢
    rw [hb]; exact a
  · unfold World.frozen? at f ⊢
    rw [hb]; exact f
theorem AtK.grown {w w' : World} {b k : Nat} {l : BL} {row : Option Nat} (h : AtK w b l k) (hg : w.grownBy w' row) (hr : ∀ r, row = some r → r ≠ b) : AtK w' b l k := ⟨vec_grown h.1 hg hr (by simp), h.2⟩

def marksV : List Value := [.string ⟨#[121, 121, 121, 121]⟩, .string ⟨#[121, 121]⟩, .string ⟨#[109, 109]⟩, .string ⟨#[109]⟩, .string ⟨#[100, 100]⟩, .string ⟨#[100]⟩, .string ⟨#[104, 104]⟩, .string ⟨#[110, 110]⟩, .string ⟨#[115, 115]⟩, .string ⟨#[45]⟩, .string ⟨#[47]⟩, .string ⟨#[58]⟩, .string ⟨#[46]⟩, .string ⟨#[32]⟩]
theorem marks_at (k : Nat) (hk : k < 14) : ∃ o, wordsT[k]? = some o ∧ marksV[k]? = some (sV o) ∧ 1 ≤ o.length ∧ o.length ≤ 4 := by
  match k, hk with
  | 0, _ => exact ⟨_, rfl, rfl, by decide, by decide⟩
  | 1, _ => exact ⟨_, rfl, rfl, by decide, by decide⟩
  | 2, _ => exact ⟨_, rfl, rfl, by decide, by decide⟩
  | 3, _ => exact ⟨_, rfl, rfl, by decide, by decide⟩
  | 4, _ => exact ⟨_, rfl, rfl, by decide, by decide⟩
  | 5, _ => exact ⟨_, rfl, rfl, by decide, by decide⟩
  | 6, _ => exact ⟨_, rfl, rfl, by decide, by decide⟩
  | 7, _ => exact ⟨_, rfl, rfl, by decide, by decide⟩
  | 8, _ => exact ⟨_, rfl, rfl, by decide, by decide⟩
  | 9, _ => exact ⟨_, rfl, rfl, by decide, by decide⟩
  | 10, _ => exact ⟨_, rfl, rfl, by decide, by decide⟩
  | 11, _ => exact ⟨_, rfl, rfl, by decide, by decide⟩
  | 12, _ => exact ⟨_, rfl, rfl, by decide, by decide⟩
  | 13, _ => exact ⟨_, rfl, rfl, by decide, by decide⟩
set_option maxRecDepth 8000 in
set_option maxHeartbeats 1000000 in
theorem marksK (w : World) : Calls Tryd.prog 55 #[] w fun e w' => e = .returned (.slice (some ⟨w.heap.size, 0, none⟩) 14 14) ∧ Vec w' w.heap.size marksV ∧ Ext w w' := by
  have V := vec_made w marksV 9
  have X := x1 w (.cells marksV.toArray 9)
  go_enter Tryd.func55, Tryd.ntmps55
  go_wp2_with fail
  go_ret
  exact ⟨rfl, V, X⟩

end Go.Proofs.YthedbjjncnddbaaDoor
