/-
  Days drawn.
-/
import Derived.Test.YthmdfephafpdnaaXc
import Derived.Test.YthmdfephafpdnaaWt
namespace Go.Proofs.Ythmdfephafpdnaa
open Go.RowKit

theorem IntsIn.of_own {w : World} {base : Nat} {v : Value} {l : List Int} (h : w.ownsRow base 3 1 v l.length (l.map (Value.int .i64))) : IntsIn w v l := by
  rcases h.2 with ⟨rfl, h0⟩ | ⟨g, cap, cur, rfl, _, _, hc, _⟩
  · exact ⟨none, 0, by rw [h0], by omega, fun h => by omega⟩
  · refine ⟨_, cap, rfl, hc, fun _ => ⟨g, 0, rfl, fun i hi => ?_⟩⟩
    have := h.cells (g := g) rfl i (.int .i64 (l.getD i 0)) (by simp [hi])
    rw [Addr.add_lit] at this
    exact this
theorem IntsIn.zeros (w : World) (n : Nat) : IntsIn (w.alloc (.cells (madeCells #[.int .i64 0] n) 3)) (.slice (some ⟨w.heap.size, 0, none⟩) n n) (List.replicate n 0) := by
  refine ⟨_, n, by rw [List.length_replicate], by rw [List.length_replicate]; exact Nat.le_refl _, fun _ => ⟨w.heap.size, 0, rfl, fun i hi => ?_⟩⟩
  rw [List.length_replicate] at hi
  have := World.rowIs.cell (World.rowIs_made w (.int .i64 0) n 3) (i := i) hi
  rw [Nat.zero_add, this]
  simp [hi]

set_option maxRecDepth 8000 in
set_option maxHeartbeats 4000000 in
theorem drawWork (v : Value) (n : Nat) (w : World) (hc : CodeIn w w.heap.size v n) (hn : n ≤ 1048576) :
    Calls Try.prog 5 #[v] w fun e w' => ∃ (a b : Int) (u : Value) (l : List Int), e = .returned (.tuple #[.int .i64 a, .int .i64 b, u]) ∧ (-20000000 ≤ a ∧ a ≤ 20000000) ∧ (-20000000 ≤ b ∧ b ≤ 20000000) ∧ IntsIn w' u l ∧ l.length ≤ 1001 ∧ Ext w w' := by
  have C0 := Cur.made w v n w.heap.size 36 hc hn (Nat.le_refl _)
  have X0 := x1 w (.cells #[v, .int .i64 0, .int .u64 0] 36)
  have hv : ∃ p cap, v = .slice p n cap := by
    rcases hc with ⟨⟨p, cap, h⟩, rfl⟩ | ⟨pb, po, cap, _, h, _⟩
    · exact ⟨p, cap, h⟩
    · exact ⟨_, cap, h⟩
  clear hc
  obtain ⟨p, cap, rfl⟩ := hv
  obtain ⟨inf, hi, hz, hz1, hz2⟩ : ∃ inf, Try.prog.info? 3 = some inf ∧ inf.zero = some (.int .i64 0) ∧ inf.size = 1 ∧ inf.bytes = 8 := by
    obtain ⟨inf, e1, e2⟩ := Option.map_eq_some_iff.1 infoI
    simp only [Prod.mk.injEq] at e2
    exact ⟨inf, e1, e2.1, e2.2.1, e2.2.2⟩
  -- behind the loop: the last draws
  go_enter Try.func5, Try.ntmps5
  go_wp2_with fail
  refine (dayC w.heap.size w.heap.size _ _ C0 (by omega)).mono ?_
  rintro e w1 ⟨a, rfl, ha, c1, o1⟩
  go_wp2_with fail
  refine (pickC w.heap.size w.heap.size _ 60 w1 c1 (by omega) (by omega) (by omega)).mono ?_
  rintro e w2 ⟨i2, rfl, hi2, c2, o2⟩
  go_wp2_with fail
  refine (oneC w.heap.size w.heap.size _ 4 w2 c2 (by omega) (by omega) (by omega)).mono ?_
  rintro e w3 ⟨q, rfl, c3, o3⟩
  have X3 : Ext w w3 := Only.ext X0 (o1.trans (o2.trans o3)) (Nat.le_refl _)
  clear c1 c2 o1 o2 o3 C0 X0
  cases q
  · go_wp2_with fail
    refine (pickC w.heap.size w.heap.size _ 8 w3 c3 (by omega) (by omega) (by omega)).mono ?_
    rintro e w5 ⟨m5, rfl, hm5, c5, o5⟩
    have X5 := Only.ext X3 o5 (Nat.le_refl _)
    have s5 := c5.lt
    obtain ⟨m0, rfl⟩ : ∃ m : Nat, m5 = (m : Int) := ⟨m5.toNat, by omega⟩
    clear c3 o5 X3
    go_wp2_with fail
    go_loopw [8, 9] (fun fr j wr => ∃ (m K : Nat) (l : List Int), j = .int .i64 m ∧ l.length + m ≤ 8 ∧ K + 10 * m ≤ 1000 ∧ Cur wr w.heap.size w.heap.size K ∧ wr.ownsRow (w.heap.size + 1) 3 1 fr l.length (l.map (Value.int .i64)) ∧ Ext w wr) (fun _ j _ => (intOf j).toNat)
    case atStart => exact ⟨m0, _, [], rfl, by simp; omega, by omega, c5, World.ownsRow_nil _ _ _ _, X5⟩
    case round =>
      obtain ⟨m, K, l, rfl, hlm, hK, cr, own, X⟩ := hrel
      have sr := cr.lt
      by_cases h0 : m = 0
      · subst h0
        clear c5 X5
        go_wp2_with fail
        refine (oneC w.heap.size w.heap.size _ 60 wr cr (by omega) (by omega) (by omega)).mono ?_
        rintro e w6 ⟨q6, rfl, c6, o6⟩
        have own6 := own.kept (Only.to_grown o6) (.inr (fun e => by have := (own.lt _ e).1; omega))
        have X6 := Only.ext X o6 (Nat.le_refl _)
        clear cr o6 X own
        cases q6
        · have I6 := IntsIn.of_own own6
          clear own6 c6
          go_wp2_with fail
          exact bodyPost_ret (v := .tuple #[.int .i64 a, .int .i64 (a + i2 - 10), _]) (by simp [results, Try.results5, go_sem]) rfl ⟨a, _, _, l, rfl, by omega, by omega, I6, by omega, X6⟩
        · go_wp2_with fail
          refine (pickC w.heap.size w.heap.size _ 3 w6 c6 (by omega) (by omega) (by omega)).mono ?_
          rintro e w7 ⟨j7, rfl, hj7, c7, o7⟩
          obtain ⟨j, rfl⟩ : ∃ j : Nat, j7 = (j : Int) := ⟨j7.toNat, by omega⟩
          have X7 := Only.ext X6 o7 (Nat.le_refl _)
          have I8 := IntsIn.zeros w7 (999 + j)
          have X8 := xa X7 (.cells (madeCells #[.int .i64 0] (999 + j)) 3)
          have hmk := run_make_row' (P := Try.prog) 23 3 (.int .i64 0) 8 Try.underlying23 infoI rfl .i64 .i64 (999 + j) (by omega) (by omega)
          have ec : ((999 + j : Nat) : Int) = 999 + (j : Int) := by omega
          rw [ec] at hmk
          clear ec c6 c7 o7 own6 X6 X7
          go_wp2_with fail
          exact bodyPost_ret (v := .tuple #[.int .i64 a, .int .i64 (a + i2 - 10), _]) (by simp [results, Try.results5, go_sem]) rfl ⟨a, _, _, _, rfl, by omega, by omega, I8, by simp; omega, X8⟩
      · obtain ⟨m', rfl⟩ : ∃ m', m = m' + 1 := ⟨m - 1, by omega⟩
        have hp : (0 : Int) < ((m' + 1 : Nat) : Int) := by omega
        clear c5 X5
        go_wp2_with fail
        refine (pickC w.heap.size w.heap.size _ 40 wr cr (by omega) (by omega) (by omega)).mono ?_
        rintro e w6 ⟨x6, rfl, hx6, c6, o6⟩
        have own6 := own.kept (Only.to_grown o6) (.inr (fun e => by have := (own.lt _ e).1; omega))
        have X6 := Only.ext X o6 (Nat.le_refl _)
        have s6 := c6.lt
        clear cr o6 X own
        go_wp2_with (at_builtin; refine wpList_append_own _ rfl _ _ 23 rfl (w.heap.size + 1) 3 inf (.int .i64 0) 1 8 Try.underlying23 hi hz hz1 hz2 rfl (by decide) _ _ _ rfl (own6.alloc _) ⟨w6.heap.size, 0, none⟩ 1 1 [.int .i64 (a + x6 - 5)] rfl rfl (cell_one_new _ _ _) (by simp [Value.oneCell']) (by simp only [maxLen]; omega) (by omega) (by simp; omega) ?_)
        intro v7 w7 own7 g7 _
        have X7 := xa X6 (.cells #[.int .i64 (a + x6 - 5)] 3)
        have c7 := c6.ext (x1 w6 (.cells #[.int .i64 (a + x6 - 5)] 3))
        have lt6 := fun r e => (own6.lt r e).1
        have c8 := c7.grown g7 (fun r e => by have := lt6 r e; constructor <;> omega)
        have X8 : Ext w w7 := X7.grown g7 X7.size (fun r e => by have := lt6 r e; omega)
        clear c6 c7 X6 X7 own6 g7 lt6
        go_wp2_with fail
        go_roundw
        case rel => exact ⟨m', _, l ++ [a + x6 - 5], by go_num, by simp; omega, by omega, c8, by simpa using own7, X8⟩
        case measure => simp [intOf]
  · go_wp2_with fail
    refine (dayC w.heap.size w.heap.size _ w3 c3 (by omega)).mono ?_
    rintro e w4 ⟨b, rfl, hb, c4, o4⟩
    have X4 := Only.ext X3 o4 (Nat.le_refl _)
    clear c3 o4 X3
    go_wp2_with fail
    refine (pickC w.heap.size w.heap.size _ 8 w4 c4 (by omega) (by omega) (by omega)).mono ?_
    rintro e w5 ⟨m5, rfl, hm5, c5, o5⟩
    have X5 := Only.ext X4 o5 (Nat.le_refl _)
    have s5 := c5.lt
    obtain ⟨m0, rfl⟩ : ∃ m : Nat, m5 = (m : Int) := ⟨m5.toNat, by omega⟩
    clear c4 o5 X4
    go_wp2_with fail
    go_loopw [8, 9] (fun fr j wr => ∃ (m K : Nat) (l : List Int), j = .int .i64 m ∧ l.length + m ≤ 8 ∧ K + 10 * m ≤ 1000 ∧ Cur wr w.heap.size w.heap.size K ∧ wr.ownsRow (w.heap.size + 1) 3 1 fr l.length (l.map (Value.int .i64)) ∧ Ext w wr) (fun _ j _ => (intOf j).toNat)
    case atStart => exact ⟨m0, _, [], rfl, by simp; omega, by omega, c5, World.ownsRow_nil _ _ _ _, X5⟩
    case round =>
      obtain ⟨m, K, l, rfl, hlm, hK, cr, own, X⟩ := hrel
      have sr := cr.lt
      by_cases h0 : m = 0
      · subst h0
        clear c5 X5
        go_wp2_with fail
        refine (oneC w.heap.size w.heap.size _ 60 wr cr (by omega) (by omega) (by omega)).mono ?_
        rintro e w6 ⟨q6, rfl, c6, o6⟩
        have own6 := own.kept (Only.to_grown o6) (.inr (fun e => by have := (own.lt _ e).1; omega))
        have X6 := Only.ext X o6 (Nat.le_refl _)
        clear cr o6 X own
        cases q6
        · have I6 := IntsIn.of_own own6
          clear own6 c6
          go_wp2_with fail
          exact bodyPost_ret (v := .tuple #[.int .i64 a, .int .i64 b, _]) (by simp [results, Try.results5, go_sem]) rfl ⟨a, _, _, l, rfl, by omega, by omega, I6, by omega, X6⟩
        · go_wp2_with fail
          refine (pickC w.heap.size w.heap.size _ 3 w6 c6 (by omega) (by omega) (by omega)).mono ?_
          rintro e w7 ⟨j7, rfl, hj7, c7, o7⟩
          obtain ⟨j, rfl⟩ : ∃ j : Nat, j7 = (j : Int) := ⟨j7.toNat, by omega⟩
          have X7 := Only.ext X6 o7 (Nat.le_refl _)
          have I8 := IntsIn.zeros w7 (999 + j)
          have X8 := xa X7 (.cells (madeCells #[.int .i64 0] (999 + j)) 3)
          have hmk := run_make_row' (P := Try.prog) 23 3 (.int .i64 0) 8 Try.underlying23 infoI rfl .i64 .i64 (999 + j) (by omega) (by omega)
          have ec : ((999 + j : Nat) : Int) = 999 + (j : Int) := by omega
          rw [ec] at hmk
          clear ec c6 c7 o7 own6 X6 X7
          go_wp2_with fail
          exact bodyPost_ret (v := .tuple #[.int .i64 a, .int .i64 b, _]) (by simp [results, Try.results5, go_sem]) rfl ⟨a, _, _, _, rfl, by omega, by omega, I8, by simp; omega, X8⟩
      · obtain ⟨m', rfl⟩ : ∃ m', m = m' + 1 := ⟨m - 1, by omega⟩
        have hp : (0 : Int) < ((m' + 1 : Nat) : Int) := by omega
        clear c5 X5
        go_wp2_with fail
        refine (pickC w.heap.size w.heap.size _ 40 wr cr (by omega) (by omega) (by omega)).mono ?_
        rintro e w6 ⟨x6, rfl, hx6, c6, o6⟩
        have own6 := own.kept (Only.to_grown o6) (.inr (fun e => by have := (own.lt _ e).1; omega))
        have X6 := Only.ext X o6 (Nat.le_refl _)
        have s6 := c6.lt
        clear cr o6 X own
        go_wp2_with (at_builtin; refine wpList_append_own _ rfl _ _ 23 rfl (w.heap.size + 1) 3 inf (.int .i64 0) 1 8 Try.underlying23 hi hz hz1 hz2 rfl (by decide) _ _ _ rfl (own6.alloc _) ⟨w6.heap.size, 0, none⟩ 1 1 [.int .i64 (a + x6 - 5)] rfl rfl (cell_one_new _ _ _) (by simp [Value.oneCell']) (by simp only [maxLen]; omega) (by omega) (by simp; omega) ?_)
        intro v7 w7 own7 g7 _
        have X7 := xa X6 (.cells #[.int .i64 (a + x6 - 5)] 3)
        have c7 := c6.ext (x1 w6 (.cells #[.int .i64 (a + x6 - 5)] 3))
        have lt6 := fun r e => (own6.lt r e).1
        have c8 := c7.grown g7 (fun r e => by have := lt6 r e; constructor <;> omega)
        have X8 : Ext w w7 := X7.grown g7 X7.size (fun r e => by have := lt6 r e; omega)
        clear c6 c7 X6 X7 own6 g7 lt6
        go_wp2_with fail
        go_roundw
        case rel => exact ⟨m', _, l ++ [a + x6 - 5], by go_num, by simp; omega, by omega, c8, by simpa using own7, X8⟩
        case measure => simp [intOf]

end Go.Proofs.Ythmdfephafpdnaa
