/-
  Chapter 10: dates in codes, and whole codes: both read the same, plain.
-/
import Derived.Test.YthedbjjncnddbaaDoorK4
namespace Go.Proofs.YthedbjjncnddbaaDoor
open Go.RowKit

def stopR (r : BL) : Prop := ∀ y q, r = y :: q → sepC y = false
theorem pre_app : ∀ (o d r : BL), (∀ x ∈ o, sepC x = true) → stopR r → o.isPrefixOf (d ++ r) = o.isPrefixOf d := by
  intro o
  induction o with
  | nil => intro d r _ _; simp [List.isPrefixOf]
  | cons x o ih =>
    intro d r ho hr
    cases d with
    | nil =>
      cases r with
      | nil => rfl
      | cons y q =>
        have hx := ho x (by simp)
        have hy := hr y q rfl
        have : (x == y) = false := by
          rw [beq_eq_false_iff_ne]
          intro e
          rw [e, hy] at hx
          cases hx
        show ((x == y) && o.isPrefixOf q) = false
        rw [this]
        rfl
    | cons z d =>
      show ((x == z) && o.isPrefixOf (d ++ r)) = ((x == z) && o.isPrefixOf d)
      rw [ih d r (fun y hy => ho y (by simp [hy])) hr]
theorem words_sep : ∀ o ∈ wordsT, ∀ x ∈ o, sepC x = true := by decide
theorem find_congr {P Q : BL → Bool} : ∀ (l : List BL), (∀ o ∈ l, P o = Q o) → l.find? P = l.find? Q
  | [], _ => rfl
  | o :: l, h => by
    rw [List.find?_cons, List.find?_cons, h o (by simp), find_congr l (fun x hx => h x (by simp [hx]))]
theorem word_app (d r : BL) (hr : stopR r) : wordF (d ++ r) = wordF d := by
  unfold wordF
  rw [find_congr wordsT (fun o ho => show Lib.hasPrefix (d ++ r) o = Lib.hasPrefix d o from pre_app o d r (words_sep o ho) hr)]
theorem parts_pos {d : BL} {ps : List BL} (h : partsF d.length d = some ps) (hd : d ≠ []) : 1 ≤ ps.length := by
  rcases Nat.eq_zero_or_pos ps.length with h0 | h0
  · have : ps = [] := List.length_eq_zero_iff.1 h0
    rw [this] at h
    exact absurd (parts_nil _ _ h) hd
  · exact h0
theorem dateN_rel : ∀ (k : Nat) (d r : BL), stopR r → dateN k (d ++ r) ≤ d.length ∧ (dateN k (d ++ r) = d.length ↔ ∃ ps, partsF d.length d = some ps ∧ ps.length ≤ k) := by
  intro k
  induction k with
  | zero =>
    intro d r _
    refine ⟨by simp [dateN], ?_⟩
    constructor
    · intro h
      have : d = [] := List.length_eq_zero_iff.1 (by simpa [dateN] using h.symm)
      subst this
      exact ⟨[], rfl, by simp⟩
    · rintro ⟨ps, h1, h2⟩
      have : ps = [] := List.length_eq_zero_iff.1 (by omega)
      rw [this] at h1
      rw [parts_nil _ _ h1]
      rfl
  | succ k ih =>
    intro d r hr
    have hw := word_app d r hr
    simp only [dateN, hw]
    by_cases h0 : wordF d = []
    · rw [h0]
      simp only [List.length_nil, Nat.zero_add, List.drop_zero]
      obtain ⟨i1, i2⟩ := ih d r hr
      refine ⟨i1, ?_⟩
      rw [i2]
      by_cases hd : d = []
      · subst hd
        constructor
        · intro _; exact ⟨[], rfl, by simp⟩
        · intro _; exact ⟨[], rfl, by simp⟩
      · have hp : 0 < d.length := by
          rcases Nat.eq_zero_or_pos d.length with h | h
          · exact absurd (List.length_eq_zero_iff.1 h) hd
          · exact h
        have hn := parts_none (s := d) (j := 0) hp (by simpa using h0)
        rw [Nat.sub_zero, List.drop_zero] at hn
        rw [hn]
        simp
    · have hle := wordF_le d
      have hp : 0 < d.length := by
        rcases Nat.eq_zero_or_pos (wordF d).length with h | h
        · exact absurd (List.length_eq_zero_iff.1 h) h0
        · omega
      have hdr : (d ++ r).drop (wordF d).length = d.drop (wordF d).length ++ r := List.drop_append_of_le_length hle
      rw [hdr]
      obtain ⟨i1, i2⟩ := ih (d.drop (wordF d).length) r hr
      rw [List.length_drop] at i1 i2
      have hs := parts_step (s := d) (j := 0) hp (by simpa using h0)
      simp only [Nat.sub_zero, List.drop_zero, Nat.zero_add] at hs
      refine ⟨by omega, ?_⟩
      rw [hs]
      constructor
      · intro h
        obtain ⟨ps, h1, h2⟩ := i2.1 (by omega)
        exact ⟨wordF d :: ps, by rw [h1]; rfl, by simp; omega⟩
      · rintro ⟨ps, h1, h2⟩
        cases hq : partsF (d.length - (wordF d).length) (d.drop (wordF d).length) with
        | none => rw [hq] at h1; cases h1
        | some qs =>
          rw [hq] at h1
          cases h1
          have hqs : qs.length ≤ k := by simpa using h2
          have e := i2.2 ⟨qs, hq, hqs⟩
          clear i2 h2 hs hq
          omega
theorem tw_stop (c : BL) : stopR (c.dropWhile sepC) := by
  induction c with
  | nil => intro y q h; cases h
  | cons x c ih =>
    cases hx : sepC x with
    | false => intro y q h; simp only [List.dropWhile, hx] at h; cases h; exact hx
    | true => simp only [List.dropWhile, hx]; exact ih
theorem date_len (c : BL) : (partsOK (c.takeWhile sepC) = true → dateLen c = (c.takeWhile sepC).length ∧ 0 < dateLen c) ∧ (partsOK (c.takeWhile sepC) = false → dateLen c = 0 ∨ dateLen c < (c.takeWhile sepC).length) := by
  have hc : c.takeWhile sepC ++ c.dropWhile sepC = c := List.takeWhile_append_dropWhile
  have hst := tw_stop c
  obtain ⟨d, hd⟩ : ∃ d, c.takeWhile sepC = d := ⟨_, rfl⟩
  obtain ⟨r, hr⟩ : ∃ r, c.dropWhile sepC = r := ⟨_, rfl⟩
  rw [hr] at hst
  obtain ⟨h1, h2⟩ := dateN_rel 12 d r hst
  rw [← hd, ← hr, hc] at h1 h2
  rw [hd] at h1 h2 ⊢
  cases c with
  | nil =>
    have : d = [] := hd.symm
    subst this
    exact ⟨fun h => by simp [partsOK, partsF] at h, fun _ => .inl rfl⟩
  | cons x q =>
    cases hx : sepC x with
    | false =>
      have hd0 : d = [] := by rw [← hd]; simp only [List.takeWhile, hx]
      subst hd0
      refine ⟨fun h => by simp [partsOK, partsF] at h, fun _ => .inl ?_⟩
      have hl : letF x = false := by
        unfold sepC at hx
        rw [Bool.and_eq_false_iff] at hx
        rcases hx with hx | hx
        · have : x = 34 := by simpa using hx
          rw [this]; decide
        · have : x = 59 := by simpa using hx
          rw [this]; decide
      show (if letF x then _ else 0) = 0
      rw [hl]; rfl
    | true =>
      have hdn : d ≠ [] := by rw [← hd]; simp only [List.takeWhile, hx]; simp
      have hg : d.getD 0 0 = x := by rw [← hd]; simp only [List.takeWhile, hx]; rfl
      have hdl : 0 < d.length := by
        rcases Nat.eq_zero_or_pos d.length with h | h
        · exact absurd (List.length_eq_zero_iff.1 h) hdn
        · exact h
      have hD : dateLen (x :: q) = if letF x then dateN 12 (x :: q) else 0 := rfl
      rw [hD]
      cases hl : letF x with
      | false =>
        refine ⟨fun h => ?_, fun _ => .inl rfl⟩
        unfold partsOK at h
        rw [hg, hl] at h
        split at h
        · simp at h
        · cases h
      | true =>
        refine ⟨fun h => ?_, fun h => .inr ?_⟩
        · unfold partsOK at h
          split at h
          · rename_i ps hps
            rw [Bool.and_eq_true] at h
            have hh := of_decide_eq_true h.1
            have := h2.2 ⟨ps, hps, hh.2⟩
            exact ⟨this, by show 0 < dateN 12 (x :: q); omega⟩
          · cases h
        · show dateN 12 (x :: q) < _
          rcases Nat.lt_or_ge (dateN 12 (x :: q)) d.length with h3 | h3
          · exact h3
          · obtain ⟨ps, hps, hle⟩ := h2.1 (by omega)
            have hpos := parts_pos hps hdn
            unfold partsOK at h
            rw [hps] at h
            simp only [hg, hl] at h
            rw [decide_eq_true ⟨hpos, hle⟩] at h
            cases h
theorem dateRel (k last : Nat) (c b : BL) (hl : mayB 10 last = false) (hn : nextP last c = cond (decide (0 < partLen 8 c)) (some 8) none) :
    SecRel (dateS b c) (scanK (k + 2) last c ⟨false, b, [], 0, 0, 0, false, 0, []⟩) := by
  obtain ⟨h1, h2⟩ := date_len c
  have hdr : c.drop (c.takeWhile sepC).length = c.dropWhile sepC := drop_while_len sepC c
  have htk : c.take (c.takeWhile sepC).length = c.takeWhile sepC := take_while_len sepC c
  have hS : dateS b c = if partsOK (c.takeWhile sepC) = true then (quoS (c.drop (c.takeWhile sepC).length)).map (fun x => (⟨false, b, x.1, 0, 0, 0, false, 0, c.takeWhile sepC⟩, x.2)) else none := rfl
  have h8 : partLen 8 c = dateLen c := rfl
  rw [h8] at hn
  cases hp : partsOK (c.takeWhile sepC) with
  | true =>
    obtain ⟨e, e0⟩ := h1 hp
    have hn' : nextP last c = some 8 := by rw [hn, decide_eq_true e0]; rfl
    rw [hS, hp, if_pos rfl, scan_step hn', h8, e, htk]
    exact aft k 8 (c.drop (c.takeWhile sepC).length) b (c.takeWhile sepC) 0 0 0 0 false (next8 _) may10.2.2.2.2.2.2.2.2.1
  | false =>
    rw [hS, hp, if_neg (by decide)]
    rcases Nat.eq_zero_or_pos (dateLen c) with e0 | e0
    · rw [e0] at hn
      rw [scan_stop hn]
      exact .inl hl
    · have hlt : dateLen c < (c.takeWhile sepC).length := by
        rcases h2 hp with h | h
        · omega
        · exact h
      have hn' : nextP last c = some 8 := by rw [hn, decide_eq_true e0]; rfl
      rw [scan_step hn', h8]
      obtain ⟨y, q, hy, hs⟩ : ∃ y q, c.drop (dateLen c) = y :: q ∧ sepC y = true := by
        have hc : c.takeWhile sepC ++ c.dropWhile sepC = c := List.takeWhile_append_dropWhile
        have e1 : c.drop (dateLen c) = (c.takeWhile sepC).drop (dateLen c) ++ c.dropWhile sepC := by
          rw [show c.drop (dateLen c) = (c.takeWhile sepC ++ c.dropWhile sepC).drop (dateLen c) by rw [hc]]
          exact List.drop_append_of_le_length (by omega)
        cases hd : (c.takeWhile sepC).drop (dateLen c) with
        | nil =>
          have := congrArg List.length hd
          rw [List.length_drop] at this
          simp at this
          omega
        | cons y q =>
          refine ⟨y, q ++ c.dropWhile sepC, by rw [e1, hd]; rfl, mem_tw (l := c) ?_⟩
          have : y ∈ (c.takeWhile sepC).drop (dateLen c) := by rw [hd]; simp
          exact List.mem_of_mem_drop this
      have hy34 : y ≠ 34 ∧ y ≠ 59 := by
        unfold sepC at hs
        rw [Bool.and_eq_true] at hs
        exact ⟨by simpa using hs.1, by simpa using hs.2⟩
      have h9 : partLen 9 (c.drop (dateLen c)) = 0 := by
        show quoLen _ = 0
        apply quoLen_no
        rw [hy, pre_cons, beq_eq_false_iff_ne]
        exact fun e => hy34.1 e.symm
      have hn8 : nextP 8 (c.drop (dateLen c)) = none := by rw [next8, h9]; rfl
      rw [scan_stop hn8]
      right
      refine ⟨by rw [hy]; simp, ?_⟩
      rw [hy, pre_cons, beq_eq_false_iff_ne]
      exact fun e => hy34.2 e.symm

theorem pre_first {c : BL} (h : Lib.hasPrefix c [35, 44] = true) : 2 ≤ c.length := by
  rw [prefK_iff, Bool.and_eq_true] at h
  exact of_decide_eq_true h.1
theorem run_pos {x : UInt8} {m : Nat} {c : BL} (h : 0 < runF x m c) : Lib.hasPrefix c [x] = true := by
  cases hp : Lib.hasPrefix c [x] with
  | true => rfl
  | false => rw [run_none hp] at h; omega
theorem fromWhole (k : Nat) (c b : BL) (wn : Int) (g : Bool) :
    SecRel (let pt := Lib.hasPrefix c [46]
      let l4 := if pt then c.drop 1 else c
      let p := if pt then runF 48 9 l4 else 0
      let l5 := l4.drop p
      let m := if pt then runF 35 9 l5 else 0
      if pt = true ∧ p + m = 0 then none else
      let l6 := l5.drop m
      let t := runF 37 3 l6
      (quoS (l6.drop t)).map fun x => (⟨false, b, x.1, wn, p, m, g, t, []⟩, x.2)) (scanK (k + 6) 3 c ⟨false, b, [], wn, 0, 0, g, 0, []⟩) := by
  have h4 : partLen 4 c = if Lib.hasPrefix c [46] then 1 else 0 := run46 c
  cases hpt : Lib.hasPrefix c [46] with
  | false =>
    simp only [Bool.false_eq_true, if_false, false_and, List.drop_zero]
    rw [hpt] at h4
    have hn : nextP 3 c = cond (decide (0 < partLen 7 c)) (some 7) (cond (decide (0 < partLen 9 c)) (some 9) none) := by rw [next3, h4]; rfl
    exact tim (k + 4) 3 c b wn 0 0 g hn may10.2.2.2.1
  | true =>
    simp only [if_true, true_and]
    rw [hpt] at h4
    have hn : nextP 3 c = some 4 := by rw [next3, h4]; rfl
    rw [scan_step hn, h4]
    simp only [if_true, takeP]
    obtain ⟨c4, hc4⟩ : ∃ c4, c.drop 1 = c4 := ⟨_, rfl⟩
    rw [hc4]
    obtain ⟨p, hp⟩ : ∃ p, runF 48 9 c4 = p := ⟨_, rfl⟩
    have hpl : p ≤ c4.length := by rw [← hp]; exact run_len _ _ _
    rw [hp]
    obtain ⟨c5, hc5⟩ : ∃ c5, c4.drop p = c5 := ⟨_, rfl⟩
    rw [hc5]
    obtain ⟨m, hm⟩ : ∃ m, runF 35 9 c5 = m := ⟨_, rfl⟩
    have hml : m ≤ c5.length := by rw [← hm]; exact run_len _ _ _
    rw [hm]
    have h5 : partLen 5 c4 = p := hp
    rcases Nat.eq_zero_or_pos p with hp0 | hp0
    · subst hp0
      have hc54 : c5 = c4 := by rw [← hc5]; rfl
      have h6 : partLen 6 c4 = m := by rw [← hc54]; exact hm
      rcases Nat.eq_zero_or_pos m with hm0 | hm0
      · subst hm0
        rw [if_pos (by rfl)]
        have hn4 : nextP 4 c4 = none := by rw [next4, h5, h6]; rfl
        rw [scan_stop hn4]
        exact .inl may10.2.2.2.2.1
      · rw [if_neg (by omega)]
        have hn4 : nextP 4 c4 = some 6 := by rw [next4, h5, h6, decide_eq_true hm0]; rfl
        rw [scan_step hn4, h6]
        rw [hc54] at hml ⊢
        simp only [takeP, take_len hml]
        exact tim (k + 2) 6 (c4.drop m) b wn 0 m g (next6 _) may10.2.2.2.2.2.2.1
    · rw [if_neg (by omega)]
      have hn4 : nextP 4 c4 = some 5 := by rw [next4, h5, decide_eq_true hp0]; rfl
      rw [scan_step hn4, h5, hc5]
      simp only [takeP, take_len hpl]
      have h6 : partLen 6 c5 = m := hm
      rcases Nat.eq_zero_or_pos m with hm0 | hm0
      · subst hm0
        have hn5 : nextP 5 c5 = cond (decide (0 < partLen 7 c5)) (some 7) (cond (decide (0 < partLen 9 c5)) (some 9) none) := by rw [next5, h6]; rfl
        exact tim (k + 2) 5 c5 b wn p 0 g hn5 may10.2.2.2.2.2.1
      · have hn5 : nextP 5 c5 = some 6 := by rw [next5, h6, decide_eq_true hm0]; rfl
        rw [scan_step hn5, h6]
        simp only [takeP, take_len hml]
        exact tim (k + 1) 6 (c5.drop m) b wn p m g (next6 _) may10.2.2.2.2.2.2.1
theorem numRel (k last : Nat) (c b : BL) (hh : (Lib.hasPrefix c [35, 44] || Lib.hasPrefix c [48]) = true)
    (hn : nextP last c = cond (decide (0 < partLen 2 c)) (some 2) (cond (decide (0 < partLen 3 c)) (some 3) (cond (decide (0 < partLen 8 c)) (some 8) none))) :
    SecRel (numS b c) (scanK (k + 8) last c ⟨false, b, [], 0, 0, 0, false, 0, []⟩) := by
  have h2 : partLen 2 c = if Lib.hasPrefix c [35, 44] then 2 else 0 := rfl
  cases hg : Lib.hasPrefix c [35, 44] with
  | true =>
    rw [hg] at h2
    have hn' : nextP last c = some 2 := by rw [hn, h2]; rfl
    rw [scan_step hn', h2]
    simp only [if_true, takeP]
    unfold numS
    simp only [hg, if_true]
    obtain ⟨c2, hc2⟩ : ∃ c2, c.drop 2 = c2 := ⟨_, rfl⟩
    rw [hc2]
    obtain ⟨wn, hwn⟩ : ∃ wn, runF 48 9 c2 = wn := ⟨_, rfl⟩
    have hwl : wn ≤ c2.length := by rw [← hwn]; exact run_len _ _ _
    rw [hwn]
    have h3 : partLen 3 c2 = wn := hwn
    rcases Nat.eq_zero_or_pos wn with h0 | h0
    · subst h0
      have hn2 : nextP 2 c2 = none := by rw [next2, h3]; rfl
      rw [scan_stop hn2]
      exact .inl may10.2.2.1
    · rw [if_neg (by omega)]
      have hn2 : nextP 2 c2 = some 3 := by rw [next2, h3, decide_eq_true h0]; rfl
      rw [scan_step hn2, h3]
      simp only [takeP, take_len hwl]
      exact fromWhole k (c2.drop wn) b wn true
  | false =>
    rw [hg] at h2 hh
    have hz : Lib.hasPrefix c [48] = true := hh
    unfold numS
    simp only [hg, Bool.false_eq_true, if_false]
    obtain ⟨wn, hwn⟩ : ∃ wn, runF 48 9 c = wn := ⟨_, rfl⟩
    have hwl : wn ≤ c.length := by rw [← hwn]; exact run_len _ _ _
    have h0 : 0 < wn := by rw [← hwn, run_some hz (by decide)]; omega
    rw [hwn, if_neg (by omega)]
    have h3 : partLen 3 c = wn := hwn
    have hn' : nextP last c = some 3 := by rw [hn, h2, h3, decide_eq_true h0]; rfl
    rw [scan_step hn', h3]
    simp only [takeP, take_len hwl]
    exact fromWhole (k + 1) (c.drop wn) b wn false
theorem restRel (k last : Nat) (c b : BL) (hl : mayB 10 last = false)
    (hn : nextP last c = cond (decide (0 < partLen 2 c)) (some 2) (cond (decide (0 < partLen 3 c)) (some 3) (cond (decide (0 < partLen 8 c)) (some 8) none))) :
    SecRel (if Lib.hasPrefix c [35, 44] || Lib.hasPrefix c [48] then numS b c else dateS b c) (scanK (k + 8) last c ⟨false, b, [], 0, 0, 0, false, 0, []⟩) := by
  cases hh : (Lib.hasPrefix c [35, 44] || Lib.hasPrefix c [48]) with
  | true => exact numRel k last c b hh hn
  | false =>
    rw [Bool.or_eq_false_iff] at hh
    have h2 : partLen 2 c = 0 := by show (if Lib.hasPrefix c [35, 44] then 2 else 0) = 0; rw [hh.1]; rfl
    have h3 : partLen 3 c = 0 := run_none hh.2
    exact dateRel (k + 6) last c b hl (by rw [hn, h2, h3]; rfl)
theorem secRel (c : BL) : SecRel (secS c) (secI c) := by
  unfold secI
  cases hq : Lib.hasPrefix c [34] with
  | false =>
    have hS : secS c = if Lib.hasPrefix c [35, 44] || Lib.hasPrefix c [48] then numS [] c else dateS [] c := by
      unfold secS
      have : quoS c = some ([], c) := by unfold quoS; rw [hq]; rfl
      rw [this]
    rw [hS]
    have h1 : partLen 1 c = 0 := quoLen_no hq
    exact restRel 2 0 c [] may10.1 (by rw [next0, h1]; rfl)
  | true =>
    have hqS : quoS c = qT c := by unfold quoS; rw [if_pos hq]
    obtain ⟨r0, hr0⟩ := pre_head hq
    cases hT : qT c with
    | none =>
      have hS : secS c = none := by unfold secS; rw [hqS, hT]
      rw [hS]
      have h1 : partLen 1 c = 0 := by show quoLen c = 0; unfold quoLen; rw [hT]
      have h2 : partLen 2 c = 0 := by
        show (if Lib.hasPrefix c [35, 44] then 2 else 0) = 0
        have : Lib.hasPrefix c [35, 44] = false := by rw [hr0]; simp [Lib.hasPrefix, List.isPrefixOf]
        rw [this]; rfl
      have h3 : partLen 3 c = 0 := run_none (by rw [hr0, pre_cons]; decide)
      have h8 : partLen 8 c = 0 := by
        show dateLen c = 0
        rw [hr0]
        show (if letF 34 = true then dateN 12 (34 :: r0) else 0) = 0
        rw [if_neg (by decide)]
      rw [scan_stop (by rw [next0, h1, h2, h3, h8]; rfl)]
      exact .inl may10.1
    | some x =>
      obtain ⟨t, r⟩ := x
      obtain ⟨e1, e2, e3⟩ := quo_taken hT
      have hS : secS c = if Lib.hasPrefix r [35, 44] || Lib.hasPrefix r [48] then numS t r else dateS t r := by unfold secS; rw [hqS, hT]
      rw [hS]
      have h1 : partLen 1 c = t.length + 2 := e1
      rw [scan_step (by rw [next0, h1]; rfl), h1, e3]
      show SecRel _ (scanK 9 1 r (takeP 1 (c.take (t.length + 2)) zeroKT))
      simp only [takeP, e2]
      exact restRel 1 1 r t may10.2.1 (next1 r)
theorem read_same : ∀ (k : Nat) (c : BL) (acc : List KT), readP k c acc = readL k c acc := by
  intro k
  induction k with
  | zero => intro c acc; rfl
  | succ k ih =>
    intro c acc
    have hr := secRel c
    cases hS : secS c with
    | none =>
      rw [readL_none hS]
      rw [hS] at hr
      simp only [readP]
      rcases hr with hr | ⟨h1, h2⟩
      · rw [if_pos (.inl hr)]
      · rw [h2, if_neg h1]
        split <;> rfl
    | some x =>
      obtain ⟨f, r⟩ := x
      rw [hS] at hr
      obtain ⟨h1, h2, h3⟩ := hr
      have h1 : (secI c).1 = f := h1
      have h2 : (secI c).2.1 = r := h2
      simp only [readP, readL, hS, h1, h2, h3]
      by_cases ha : acc.length = 3
      · simp [ha]
      · by_cases hr0 : r = []
        · subst hr0
          simp [ha, Lib.hasPrefix, List.isPrefixOf]
        · cases hp : Lib.hasPrefix r [59] with
          | true => simp [ha, hr0, ih]
          | false => simp [ha, hr0]
theorem readF_same (l : BL) : readFP l = readF l := by unfold readFP readF; rw [read_same]

end Go.Proofs.YthedbjjncnddbaaDoor
