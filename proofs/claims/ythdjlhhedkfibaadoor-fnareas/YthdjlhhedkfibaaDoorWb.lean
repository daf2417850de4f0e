/-
  What lies beside a hole in a block: a map of four pieces, put in in any order.
-/
import Derived.Test.YthdjlhhedkfibaaDoorMp
import Derived.Test.YthdjlhhedkfibaaDoorRf
namespace Go.Proofs.YthdjlhhedkfibaaDoor
open Go.RowKit

set_option maxHeartbeats 1000000 in
theorem spanAhead (a b a' b' : Int) (w : World) (hw : IntKind.i64.wrap (a' - 1) = a' - 1) :
    Calls Tryd.prog 39 #[spV a b, spV a' b'] w fun e w' => e = .returned (spV a (a' - 1)) ∧ Ext w w' := by
  go_enter Tryd.func39, Tryd.ntmps39
  go_wp2
  exact bodyPost_ret (v := spV a (a' - 1)) (by simp [results, Tryd.results39, go_sem]) rfl ⟨rfl, xa (xa (x1 _ _) _) _⟩
set_option maxHeartbeats 1000000 in
theorem spanBehind (a b a' b' : Int) (w : World) (hw : IntKind.i64.wrap (b' + 1) = b' + 1) :
    Calls Tryd.prog 40 #[spV a b, spV a' b'] w fun e w' => e = .returned (spV (b' + 1) b) ∧ Ext w w' := by
  go_enter Tryd.func40, Tryd.ntmps40
  go_wp2
  exact bodyPost_ret (v := spV (b' + 1) b) (by simp [results, Tryd.results40, go_sem]) rfl ⟨rfl, xa (xa (x1 _ _) _) _⟩

/-- Which operation puts a side in. -/
def insK : Nat → Nat
  | 0 => 10
  | 1 => 20
  | 2 => 30
  | _ => 40
/-- What holds on the way: the map, once it is made, has what has been put in so far. -/
def JB (w0 : World) (p : Nat → Value) (m : Nat) (listed : Array Bool) (w : World) : Prop :=
  Ext w0 w ∧ (listed.getD 0 false = true → w0.heap.size ≤ m ∧ ∃ L, Pieces w m p L ∧ ∀ k, k ∈ L ↔ k < 4 ∧ listed.getD (insK k) false = true)
theorem JB.other {w0 w w' : World} {p : Nat → Value} {m : Nat} {listed : Array Bool} (h : JB w0 p m listed w) {i : Nat} (hi : i ≠ 0) (hk : ∀ k, k < 4 → i ≠ insK k) (e : Ext w w') : JB w0 p m (listed.setIfInBounds i true) w' := by
  refine ⟨xt h.1 e, fun h0 => ?_⟩
  rw [getD_set_ne false hi] at h0
  obtain ⟨hm, L, hP, hL⟩ := h.2 h0
  refine ⟨hm, L, hP.later e, fun k => ?_⟩
  rw [hL k]
  constructor
  · rintro ⟨h4, hl⟩; exact ⟨h4, by rw [getD_set_ne false (hk k h4)]; exact hl⟩
  · rintro ⟨h4, hl⟩; rw [getD_set_ne false (hk k h4)] at hl; exact ⟨h4, hl⟩
theorem getD_set_self {listed : Array Bool} {i : Nat} (h : i < listed.size) : (listed.setIfInBounds i true).getD i false = true := by
  simp [h]
theorem JB.make {w0 w : World} {p : Nat → Value} {m : Nat} {listed : Array Bool} (h : JB w0 p m listed w) (hno : ∀ k, k < 4 → listed.getD (insK k) false = false) :
    JB w0 p w.heap.size (listed.setIfInBounds 0 true) (w.alloc (.map #[] 0)) := by
  refine ⟨xa h.1 _, fun _ => ⟨h.1.size, [], ⟨#[], 0, heap_alloc_new w _, rfl⟩, fun k => ?_⟩⟩
  constructor
  · intro hh; cases hh
  · rintro ⟨h4, hl⟩
    have hne : 0 ≠ insK k := by
      match k with
      | 0 | 1 | 2 | _ + 3 => simp [insK]
    rw [getD_set_ne false hne, hno k h4] at hl
    cases hl
theorem insK_inj {k j : Nat} (hk : k < 4) (hj : j < 4) (h : insK k = insK j) : k = j := by
  match k, j, hk, hj with
  | 0, 0, _, _ | 1, 1, _, _ | 2, 2, _, _ | 3, 3, _, _ => rfl
  | 0, 1, _, _ | 0, 2, _, _ | 0, 3, _, _ | 1, 0, _, _ | 1, 2, _, _ | 1, 3, _, _ | 2, 0, _, _ | 2, 1, _, _ | 2, 3, _, _ | 3, 0, _, _ | 3, 1, _, _ | 3, 2, _, _ => exact absurd h (by simp [insK])
theorem JB.insert {w0 w : World} {p : Nat → Value} {m : Nat} {listed : Array Bool} (h : JB w0 p m listed w) (h0 : listed.getD 0 false = true) {k : Nat} (hk : k < 4) (hun : listed.getD (insK k) true = false) :
    ∃ o, (Instr.mapUpdate 52 (.map (some m)) (sideK k) (p k)).run Tryd.prog w = .ok () { w with heap := w.heap.setIfInBounds m o } ∧
      JB w0 p m (listed.setIfInBounds (insK k) true) { w with heap := w.heap.setIfInBounds m o } := by
  obtain ⟨hm, L, hP, hL⟩ := h.2 h0
  have hlt : insK k < listed.size := by
    rcases Nat.lt_or_ge (insK k) listed.size with h' | h'
    · exact h'
    · rw [Array.getD_eq_getD_getElem?, Array.getElem?_eq_none h'] at hun; cases hun
  have hun' : listed.getD (insK k) false = false := by
    rw [Array.getD_eq_getD_getElem?, Array.getElem?_eq_getElem hlt] at hun ⊢; exact hun
  have hn : k ∉ L := fun hh => by
    have := ((hL k).1 hh).2
    rw [hun'] at this; cases this
  obtain ⟨o, hr, hP'⟩ := hP.insert (fun j hj => ((hL j).1 hj).1) hk hn
  refine ⟨o, hr, Ext.setBlock h.1 hm o, fun _ => ⟨hm, L ++ [k], hP', fun j => ?_⟩⟩
  rw [List.mem_append, List.mem_singleton]
  constructor
  · rintro (hj | rfl)
    · exact ⟨((hL j).1 hj).1, getD_set_true ((hL j).1 hj).2⟩
    · exact ⟨hk, getD_set_self hlt⟩
  · rintro ⟨h4, hl⟩
    by_cases e : j = k
    · exact .inr e
    · rw [getD_set_ne false (fun q => e (insK_inj h4 hk q.symm))] at hl
      exact .inl ((hL j).2 ⟨h4, hl⟩)
/-- An insert. -/
theorem wp_insert {P : Program} {o : Oper} {a : Act} {w w' : World} {K : Act → World → Prop} {Q : Exit → Act → World → Prop} (t : TypeId) (x y z : Operand) (ho : o.op = .insert t x y z) (hd : o.dst = none)
    (hr : (Instr.mapUpdate t (a.eval x) (a.eval y) (a.eval z)).run P w = .ok () w') (h : K a w') : o.wp P a w K Q := by
  unfold Oper.wp execOp
  simp only [ho, Sem.run_bind, hr, Result.andThen_ok, Sem.run_pure, Oper.upon, hd]
  exact h

theorem cfAhead (p q : Value) (w : World) : (callFunc 39 #[p, q]).run Tryd.prog w = .ok (.enter 39 #[p, q]) w := by
  go_simp
theorem cfBehind (p q : Value) (w : World) : (callFunc 40 #[p, q]).run Tryd.prog w = .ok (.enter 40 #[p, q]) w := by
  go_simp
theorem fa0 (b : Nat) (w : World) : (Instr.fieldAt 47 (.pointer (some ⟨b, 0, none⟩)) 0).run Tryd.prog w = .ok (.pointer (some ⟨b, 0, none⟩)) w := by
  go_simp
theorem fa1 (b : Nat) (w : World) : (Instr.fieldAt 47 (.pointer (some ⟨b, 0, none⟩)) 1).run Tryd.prog w = .ok (.pointer (some ⟨b, 2, none⟩)) w := by
  go_simp
theorem ld0 {b : Nat} {x y : Int} {w : World} (h0 : w.cell? ⟨b, 0, none⟩ = some (.int .i64 x)) (h1 : w.cell? ⟨b, 1, none⟩ = some (.int .i64 y)) : (Instr.loadAt 45 (.pointer (some ⟨b, 0, none⟩))).run Tryd.prog w = .ok (spV x y) w := by
  go_simp
theorem ld2 {b : Nat} {x y : Int} {w : World} (h0 : w.cell? ⟨b, 2, none⟩ = some (.int .i64 x)) (h1 : w.cell? ⟨b, 3, none⟩ = some (.int .i64 y)) : (Instr.loadAt 45 (.pointer (some ⟨b, 2, none⟩))).run Tryd.prog w = .ok (spV x y) w := by
  go_simp
theorem buS (x y : Int) (w : World) : (Instr.build 55 #[(0, .int .i64 x), (1, .int .i64 y)]).run Tryd.prog w = .ok (siV x y) w := by
  go_simp
theorem buB (x y z u : Int) (w : World) : (Instr.build 47 #[(0, spV x y), (1, spV z u)]).run Tryd.prog w = .ok (blV x y z u) w := by
  go_simp

/-- The pieces. -/
def pieceV (a b c d a' b' c' d' : Int) : Nat → Value
  | 0 => blV a (a' - 1) c d
  | 1 => blV (b' + 1) b c d
  | 2 => blV a' b' c (c' - 1)
  | _ => blV a' b' (d' + 1) d
/-- The frame behind the region. -/
def besF (w : World) (a b c d a' b' c' d' : Int) (m : Nat) : Act :=
  { tmps := #[blV a b c d, blV a' b' c' d', .pointer (some ⟨w.heap.size, 0, none⟩), .pointer (some ⟨w.heap.size + 1, 0, none⟩), .map (some m), .map (some m), siV (-1) 0, .pointer (some ⟨w.heap.size, 0, none⟩), spV a b, .pointer (some ⟨w.heap.size + 1, 0, none⟩), spV a' b', spV a (a' - 1), .pointer (some ⟨w.heap.size, 2, none⟩), spV c d, blV a (a' - 1) c d, siV 1 0, .pointer (some ⟨w.heap.size, 0, none⟩), spV a b, .pointer (some ⟨w.heap.size + 1, 0, none⟩), spV a' b', spV (b' + 1) b, .pointer (some ⟨w.heap.size, 2, none⟩), spV c d, blV (b' + 1) b c d, siV 0 (-1), .pointer (some ⟨w.heap.size + 1, 0, none⟩), spV a' b', .pointer (some ⟨w.heap.size, 2, none⟩), spV c d, .pointer (some ⟨w.heap.size + 1, 2, none⟩), spV c' d', spV c (c' - 1), blV a' b' c (c' - 1), siV 0 1, .pointer (some ⟨w.heap.size + 1, 0, none⟩), spV a' b', .pointer (some ⟨w.heap.size, 2, none⟩), spV c d, .pointer (some ⟨w.heap.size + 1, 2, none⟩), spV c' d', spV (d' + 1) d, blV a' b' (d' + 1) d, .map (some m)], defers := [] }

set_option maxRecDepth 16000 in
set_option maxHeartbeats 8000000 in
theorem beside (a b c d a' b' c' d' : Int) (w : World) (ha : IntKind.i64.wrap (a' - 1) = a' - 1) (hb : IntKind.i64.wrap (b' + 1) = b' + 1) (hc : IntKind.i64.wrap (c' - 1) = c' - 1) (hd : IntKind.i64.wrap (d' + 1) = d' + 1) :
    Calls Tryd.prog 25 #[blV a b c d, blV a' b' c' d'] w fun e w' =>
      ∃ m L, e = .returned (.map (some m)) ∧ Pieces w' m (pieceV a b c d a' b' c' d') L ∧ (∀ k, k ∈ L ↔ k < 4) ∧ Ext w w' := by
  have B1 := Vec.made4 w (.int .i64 a) (.int .i64 b) (.int .i64 c) (.int .i64 d) 47
  have X1 := x1 w (.cells #[.int .i64 a, .int .i64 b, .int .i64 c, .int .i64 d] 47)
  obtain ⟨wa, hwa⟩ : ∃ wa, w.alloc (.cells #[.int .i64 a, .int .i64 b, .int .i64 c, .int .i64 d] 47) = wa := ⟨_, rfl⟩
  have B2 := Vec.made4 wa (.int .i64 a') (.int .i64 b') (.int .i64 c') (.int .i64 d') 47
  have X2 := x1 wa (.cells #[.int .i64 a', .int .i64 b', .int .i64 c', .int .i64 d'] 47)
  obtain ⟨wb, hwb⟩ : ∃ wb, wa.alloc (.cells #[.int .i64 a', .int .i64 b', .int .i64 c', .int .i64 d'] 47) = wb := ⟨_, rfl⟩
  have sa : wa.heap.size = w.heap.size + 1 := by rw [← hwa, World.size_alloc]
  rw [hwa] at X1 B1
  rw [hwb] at X2 B2
  rw [sa] at B2
  have B1 := B1.later X2
  have X := xt X1 X2
  clear X1 X2
  go_enter Tryd.func25, Tryd.ntmps25
  go_upto_region 1 with fail
  refine wp_region_final (M := Nat) (besF w a b c d a' b' c' d') (JB wb (pieceV a b c d a' b' c' d')) rfl (by kernel_rfl) (by kernel_rfl) 0 ?h0 ?hJ ?step ?fin
  case h0 =>
    refine RS.start rfl rfl fun d hd => ?_
    match d with
    | 0 => rfl
    | 1 => rfl
    | 2 => rfl
    | 3 => rfl
    | 4 => exact absurd rfl (hd 42 _ rfl)
    | 5 => exact absurd rfl (hd 0 _ rfl)
    | 6 => exact absurd rfl (hd 1 _ rfl)
    | 7 => exact absurd rfl (hd 2 _ rfl)
    | 8 => exact absurd rfl (hd 3 _ rfl)
    | 9 => exact absurd rfl (hd 4 _ rfl)
    | 10 => exact absurd rfl (hd 5 _ rfl)
    | 11 => exact absurd rfl (hd 6 _ rfl)
    | 12 => exact absurd rfl (hd 7 _ rfl)
    | 13 => exact absurd rfl (hd 8 _ rfl)
    | 14 => exact absurd rfl (hd 9 _ rfl)
    | 15 => exact absurd rfl (hd 11 _ rfl)
    | 16 => exact absurd rfl (hd 12 _ rfl)
    | 17 => exact absurd rfl (hd 13 _ rfl)
    | 18 => exact absurd rfl (hd 14 _ rfl)
    | 19 => exact absurd rfl (hd 15 _ rfl)
    | 20 => exact absurd rfl (hd 16 _ rfl)
    | 21 => exact absurd rfl (hd 17 _ rfl)
    | 22 => exact absurd rfl (hd 18 _ rfl)
    | 23 => exact absurd rfl (hd 19 _ rfl)
    | 24 => exact absurd rfl (hd 21 _ rfl)
    | 25 => exact absurd rfl (hd 22 _ rfl)
    | 26 => exact absurd rfl (hd 23 _ rfl)
    | 27 => exact absurd rfl (hd 24 _ rfl)
    | 28 => exact absurd rfl (hd 25 _ rfl)
    | 29 => exact absurd rfl (hd 26 _ rfl)
    | 30 => exact absurd rfl (hd 27 _ rfl)
    | 31 => exact absurd rfl (hd 28 _ rfl)
    | 32 => exact absurd rfl (hd 29 _ rfl)
    | 33 => exact absurd rfl (hd 31 _ rfl)
    | 34 => exact absurd rfl (hd 32 _ rfl)
    | 35 => exact absurd rfl (hd 33 _ rfl)
    | 36 => exact absurd rfl (hd 34 _ rfl)
    | 37 => exact absurd rfl (hd 35 _ rfl)
    | 38 => exact absurd rfl (hd 36 _ rfl)
    | 39 => exact absurd rfl (hd 37 _ rfl)
    | 40 => exact absurd rfl (hd 38 _ rfl)
    | 41 => exact absurd rfl (hd 39 _ rfl)
    | 42 => exact absurd rfl (hd 41 _ rfl)
    | d + 43 => rw [Array.getElem?_eq_none (by simp), Array.getElem?_eq_none (by simp [besF])]
  case hJ => exact ⟨xd (xr wb), fun h => by simp at h⟩
  case fin =>
    intro m listed w1 hall hJ
    obtain ⟨hm, L, hP, hL⟩ := hJ.2 (hall 0 (by decide))
    have hL' : ∀ k, k ∈ L ↔ k < 4 := fun k => by
      rw [hL k]
      refine ⟨fun h => h.1, fun h => ⟨h, hall _ ?_⟩⟩
      match k, h with
      | 0, _ | 1, _ | 2, _ | 3, _ => decide
    have X' := xt X hJ.1
    clear hall hJ hL
    unfold besF
    go_wp2_with fail
    exact bodyPost_ret (v := .map (some m)) (by simp [results, Tryd.results25, go_sem]) rfl ⟨m, L, rfl, hP, hL', X'⟩
  case step =>
    intro m listed f w1 i o R Jm hi ho
    obtain ⟨hun, o', ho', hall⟩ := mem_ready.1 hi
    obtain rfl : o' = o := Option.some.inj (ho'.symm.trans ho)
    have hlt : i < 43 := by
      rcases Nat.lt_or_ge i 43 with h' | h'
      · exact h'
      · rw [Array.getElem?_eq_none (by simpa using h')] at ho; cases ho
    obtain ⟨⟨a0, a1, a2, a3⟩, _⟩ := (B1.later Jm.1).box4
    obtain ⟨⟨b0, b1, b2, b3⟩, _⟩ := (B2.later Jm.1).box4
    clear ho' hi hwa hwb sa B1 B2 X
    match i, hlt with
    | 0, _ =>
      obtain rfl := Option.some.inj ho
      have no0 : listed.getD 0 false ≠ true := fun h => by
        have hun' := hun
        rw [Array.getD_eq_getD_getElem?] at h hun'
        cases hq : listed[0]? <;> simp [hq] at h hun'
        rw [h] at hun'; cases hun'
      have no41 : listed.getD 41 false ≠ true := fun h => no0 (R.closed 41 _ rfl h ⟨0, .data⟩ (by simp) rfl)
      have no42 : listed.getD 42 false ≠ true := fun h => no41 (R.closed 42 _ rfl h ⟨41, .data⟩ (by simp) rfl)
      refine ⟨w1.heap.size, ⟨R.size, R.defers, R.tsize, fun d hd => ?_, R.closed⟩, ?_⟩
      · rw [R.vals d hd]
        match d with
        | 0 => rfl
        | 1 => rfl
        | 2 => rfl
        | 3 => rfl
        | 4 => exact absurd (hd 42 _ rfl rfl) no42
        | 5 => exact absurd (hd 0 _ rfl rfl) no0
        | 6 => rfl
        | 7 => rfl
        | 8 => rfl
        | 9 => rfl
        | 10 => rfl
        | 11 => rfl
        | 12 => rfl
        | 13 => rfl
        | 14 => rfl
        | 15 => rfl
        | 16 => rfl
        | 17 => rfl
        | 18 => rfl
        | 19 => rfl
        | 20 => rfl
        | 21 => rfl
        | 22 => rfl
        | 23 => rfl
        | 24 => rfl
        | 25 => rfl
        | 26 => rfl
        | 27 => rfl
        | 28 => rfl
        | 29 => rfl
        | 30 => rfl
        | 31 => rfl
        | 32 => rfl
        | 33 => rfl
        | 34 => rfl
        | 35 => rfl
        | 36 => rfl
        | 37 => rfl
        | 38 => rfl
        | 39 => rfl
        | 40 => rfl
        | 41 => rfl
        | 42 => exact absurd (hd 41 _ rfl rfl) no41
        | d + 43 => rw [Array.getElem?_eq_none (by simp [besF]), Array.getElem?_eq_none (by simp [besF])]
      · have hno : ∀ k, k < 4 → listed.getD (insK k) false = false := fun k hk => by
          match k, hk with
          | 0, _ => exact Bool.eq_false_iff.2 fun h => no0 (R.closed 10 _ rfl h ⟨0, .data⟩ (by simp) rfl)
          | 1, _ => exact Bool.eq_false_iff.2 fun h => no0 (R.closed 20 _ rfl h ⟨0, .data⟩ (by simp) rfl)
          | 2, _ => exact Bool.eq_false_iff.2 fun h => no0 (R.closed 30 _ rfl h ⟨0, .data⟩ (by simp) rfl)
          | 3, _ => exact Bool.eq_false_iff.2 fun h => no0 (R.closed 40 _ rfl h ⟨0, .data⟩ (by simp) rfl)
        exact wp_yields rfl rfl (run_makes rfl) (Jm.make hno)
    | 1, _ =>
      obtain rfl := Option.some.inj ho
      exact ⟨m, R, wp_yields rfl rfl (run_build2 rfl rfl rfl (buS _ _ _)) (Jm.other (by decide) (by decide) (xr _))⟩
    | 2, _ =>
      obtain rfl := Option.some.inj ho
      exact ⟨m, R, wp_yields rfl rfl (run_fieldAddr rfl rfl (fa0 _ _)) (Jm.other (by decide) (by decide) (xr _))⟩
    | 3, _ =>
      obtain rfl := Option.some.inj ho
      exact ⟨m, R, wp_yields rfl rfl (run_load rfl rfl (ld0 a0 a1)) (Jm.other (by decide) (by decide) (xr _))⟩
    | 4, _ =>
      obtain rfl := Option.some.inj ho
      exact ⟨m, R, wp_yields rfl rfl (run_fieldAddr rfl rfl (fa0 _ _)) (Jm.other (by decide) (by decide) (xr _))⟩
    | 5, _ =>
      obtain rfl := Option.some.inj ho
      exact ⟨m, R, wp_yields rfl rfl (run_load rfl rfl (ld0 b0 b1)) (Jm.other (by decide) (by decide) (xr _))⟩
    | 6, _ =>
      obtain rfl := Option.some.inj ho
      exact ⟨m, R, wp_enters rfl rfl (run_call2 rfl rfl rfl rfl (cfAhead _ _ _)) ((spanAhead _ _ _ _ _ ha).mono fun e w2 he => ⟨he.1, Jm.other (by decide) (by decide) he.2⟩)⟩
    | 7, _ =>
      obtain rfl := Option.some.inj ho
      exact ⟨m, R, wp_yields rfl rfl (run_fieldAddr rfl rfl (fa1 _ _)) (Jm.other (by decide) (by decide) (xr _))⟩
    | 8, _ =>
      obtain rfl := Option.some.inj ho
      exact ⟨m, R, wp_yields rfl rfl (run_load rfl rfl (ld2 a2 a3)) (Jm.other (by decide) (by decide) (xr _))⟩
    | 9, _ =>
      obtain rfl := Option.some.inj ho
      exact ⟨m, R, wp_yields rfl rfl (run_build2 rfl rfl rfl (buB _ _ _ _ _)) (Jm.other (by decide) (by decide) (xr _))⟩
    | 10, _ =>
      obtain rfl := Option.some.inj ho
      obtain ⟨q, hr, hJ'⟩ := Jm.insert (hall ⟨0, .data⟩ (by simp) rfl) (k := 0) (by decide) hun
      exact ⟨m, R, wp_insert 52 (.tmp 5) (.tmp 6) (.tmp 14) rfl rfl hr ⟨rfl, hJ'⟩⟩
    | 11, _ =>
      obtain rfl := Option.some.inj ho
      exact ⟨m, R, wp_yields rfl rfl (run_build2 rfl rfl rfl (buS _ _ _)) (Jm.other (by decide) (by decide) (xr _))⟩
    | 12, _ =>
      obtain rfl := Option.some.inj ho
      exact ⟨m, R, wp_yields rfl rfl (run_fieldAddr rfl rfl (fa0 _ _)) (Jm.other (by decide) (by decide) (xr _))⟩
    | 13, _ =>
      obtain rfl := Option.some.inj ho
      exact ⟨m, R, wp_yields rfl rfl (run_load rfl rfl (ld0 a0 a1)) (Jm.other (by decide) (by decide) (xr _))⟩
    | 14, _ =>
      obtain rfl := Option.some.inj ho
      exact ⟨m, R, wp_yields rfl rfl (run_fieldAddr rfl rfl (fa0 _ _)) (Jm.other (by decide) (by decide) (xr _))⟩
    | 15, _ =>
      obtain rfl := Option.some.inj ho
      exact ⟨m, R, wp_yields rfl rfl (run_load rfl rfl (ld0 b0 b1)) (Jm.other (by decide) (by decide) (xr _))⟩
    | 16, _ =>
      obtain rfl := Option.some.inj ho
      exact ⟨m, R, wp_enters rfl rfl (run_call2 rfl rfl rfl rfl (cfBehind _ _ _)) ((spanBehind _ _ _ _ _ hb).mono fun e w2 he => ⟨he.1, Jm.other (by decide) (by decide) he.2⟩)⟩
    | 17, _ =>
      obtain rfl := Option.some.inj ho
      exact ⟨m, R, wp_yields rfl rfl (run_fieldAddr rfl rfl (fa1 _ _)) (Jm.other (by decide) (by decide) (xr _))⟩
    | 18, _ =>
      obtain rfl := Option.some.inj ho
      exact ⟨m, R, wp_yields rfl rfl (run_load rfl rfl (ld2 a2 a3)) (Jm.other (by decide) (by decide) (xr _))⟩
    | 19, _ =>
      obtain rfl := Option.some.inj ho
      exact ⟨m, R, wp_yields rfl rfl (run_build2 rfl rfl rfl (buB _ _ _ _ _)) (Jm.other (by decide) (by decide) (xr _))⟩
    | 20, _ =>
      obtain rfl := Option.some.inj ho
      obtain ⟨q, hr, hJ'⟩ := Jm.insert (hall ⟨0, .data⟩ (by simp) rfl) (k := 1) (by decide) hun
      exact ⟨m, R, wp_insert 52 (.tmp 5) (.tmp 15) (.tmp 23) rfl rfl hr ⟨rfl, hJ'⟩⟩
    | 21, _ =>
      obtain rfl := Option.some.inj ho
      exact ⟨m, R, wp_yields rfl rfl (run_build2 rfl rfl rfl (buS _ _ _)) (Jm.other (by decide) (by decide) (xr _))⟩
    | 22, _ =>
      obtain rfl := Option.some.inj ho
      exact ⟨m, R, wp_yields rfl rfl (run_fieldAddr rfl rfl (fa0 _ _)) (Jm.other (by decide) (by decide) (xr _))⟩
    | 23, _ =>
      obtain rfl := Option.some.inj ho
      exact ⟨m, R, wp_yields rfl rfl (run_load rfl rfl (ld0 b0 b1)) (Jm.other (by decide) (by decide) (xr _))⟩
    | 24, _ =>
      obtain rfl := Option.some.inj ho
      exact ⟨m, R, wp_yields rfl rfl (run_fieldAddr rfl rfl (fa1 _ _)) (Jm.other (by decide) (by decide) (xr _))⟩
    | 25, _ =>
      obtain rfl := Option.some.inj ho
      exact ⟨m, R, wp_yields rfl rfl (run_load rfl rfl (ld2 a2 a3)) (Jm.other (by decide) (by decide) (xr _))⟩
    | 26, _ =>
      obtain rfl := Option.some.inj ho
      exact ⟨m, R, wp_yields rfl rfl (run_fieldAddr rfl rfl (fa1 _ _)) (Jm.other (by decide) (by decide) (xr _))⟩
    | 27, _ =>
      obtain rfl := Option.some.inj ho
      exact ⟨m, R, wp_yields rfl rfl (run_load rfl rfl (ld2 b2 b3)) (Jm.other (by decide) (by decide) (xr _))⟩
    | 28, _ =>
      obtain rfl := Option.some.inj ho
      exact ⟨m, R, wp_enters rfl rfl (run_call2 rfl rfl rfl rfl (cfAhead _ _ _)) ((spanAhead _ _ _ _ _ hc).mono fun e w2 he => ⟨he.1, Jm.other (by decide) (by decide) he.2⟩)⟩
    | 29, _ =>
      obtain rfl := Option.some.inj ho
      exact ⟨m, R, wp_yields rfl rfl (run_build2 rfl rfl rfl (buB _ _ _ _ _)) (Jm.other (by decide) (by decide) (xr _))⟩
    | 30, _ =>
      obtain rfl := Option.some.inj ho
      obtain ⟨q, hr, hJ'⟩ := Jm.insert (hall ⟨0, .data⟩ (by simp) rfl) (k := 2) (by decide) hun
      exact ⟨m, R, wp_insert 52 (.tmp 5) (.tmp 24) (.tmp 32) rfl rfl hr ⟨rfl, hJ'⟩⟩
    | 31, _ =>
      obtain rfl := Option.some.inj ho
      exact ⟨m, R, wp_yields rfl rfl (run_build2 rfl rfl rfl (buS _ _ _)) (Jm.other (by decide) (by decide) (xr _))⟩
    | 32, _ =>
      obtain rfl := Option.some.inj ho
      exact ⟨m, R, wp_yields rfl rfl (run_fieldAddr rfl rfl (fa0 _ _)) (Jm.other (by decide) (by decide) (xr _))⟩
    | 33, _ =>
      obtain rfl := Option.some.inj ho
      exact ⟨m, R, wp_yields rfl rfl (run_load rfl rfl (ld0 b0 b1)) (Jm.other (by decide) (by decide) (xr _))⟩
    | 34, _ =>
      obtain rfl := Option.some.inj ho
      exact ⟨m, R, wp_yields rfl rfl (run_fieldAddr rfl rfl (fa1 _ _)) (Jm.other (by decide) (by decide) (xr _))⟩
    | 35, _ =>
      obtain rfl := Option.some.inj ho
      exact ⟨m, R, wp_yields rfl rfl (run_load rfl rfl (ld2 a2 a3)) (Jm.other (by decide) (by decide) (xr _))⟩
    | 36, _ =>
      obtain rfl := Option.some.inj ho
      exact ⟨m, R, wp_yields rfl rfl (run_fieldAddr rfl rfl (fa1 _ _)) (Jm.other (by decide) (by decide) (xr _))⟩
    | 37, _ =>
      obtain rfl := Option.some.inj ho
      exact ⟨m, R, wp_yields rfl rfl (run_load rfl rfl (ld2 b2 b3)) (Jm.other (by decide) (by decide) (xr _))⟩
    | 38, _ =>
      obtain rfl := Option.some.inj ho
      exact ⟨m, R, wp_enters rfl rfl (run_call2 rfl rfl rfl rfl (cfBehind _ _ _)) ((spanBehind _ _ _ _ _ hd).mono fun e w2 he => ⟨he.1, Jm.other (by decide) (by decide) he.2⟩)⟩
    | 39, _ =>
      obtain rfl := Option.some.inj ho
      exact ⟨m, R, wp_yields rfl rfl (run_build2 rfl rfl rfl (buB _ _ _ _ _)) (Jm.other (by decide) (by decide) (xr _))⟩
    | 40, _ =>
      obtain rfl := Option.some.inj ho
      obtain ⟨q, hr, hJ'⟩ := Jm.insert (hall ⟨0, .data⟩ (by simp) rfl) (k := 3) (by decide) hun
      exact ⟨m, R, wp_insert 52 (.tmp 5) (.tmp 33) (.tmp 41) rfl rfl hr ⟨rfl, hJ'⟩⟩
    | 41, _ =>
      obtain rfl := Option.some.inj ho
      exact ⟨m, R, wp_yields rfl rfl (run_moves rfl rfl) (Jm.other (by decide) (by decide) (xr _))⟩
    | 42, _ =>
      obtain rfl := Option.some.inj ho
      exact ⟨m, R, wp_yields rfl rfl (run_assigns rfl rfl) (Jm.other (by decide) (by decide) (xr _))⟩

end Go.Proofs.YthdjlhhedkfibaaDoor
