/-
  The program's readParts and ReadDate.
-/
import Derived.Test.YtmcmohooodpfeaaGreatDoorRdP
import Derived.Test.YtmcmohooodpfeaaGreatDoorRdT
import Derived.Lib.AtoiAllCases
namespace Go.Proofs.YtmcmohooodpfeaaGreatDoor
open Go.RowKit

set_option maxRecDepth 8000 in
set_option maxHeartbeats 2000000 in
theorem partsI (t : ByteArray) (w : World) (hs : t.size ≤ 1048576) (LW : LibW w) :
    Calls Tryz.prog 37 #[.string t] w fun e w' => ∃ (ok : Bool) (y m d : Int), e = .returned (.tuple #[.agg #[.int .i64 y, .int .i64 m, .int .i64 d], .bool ok]) ∧
      ((ok = true ∧ t.size ≠ 0 ∧ ∀ y' m' d', HasText t y' m' d' → y = y' ∧ m = m' ∧ d = d') ∨ (ok = false ∧ ∀ y' m' d', ¬ HasText t y' m' d')) ∧ Ext w w' := by
  have hl : t.data.toList = t.data.toList := rfl
  have hsz := size_ofL hl
  have IP : Hid (∀ y m d, HasText t y m d → _) := fun y m d h => impl_parse hl (y := y) (m := m) (d := d) h
  have tl := trim_len t.data.toList
  have CC := cutC t
  obtain ⟨c, hc⟩ : ∃ c : ByteArray, (⟨(Lib.trimPrefix t.data.toList [45]).toArray⟩ : ByteArray) = c := ⟨_, rfl⟩
  have hcl : c.data.toList = Lib.trimPrefix t.data.toList [45] := by rw [← hc]
  have hcs : c.size ≤ 1048576 := by rw [size_ofL hcl]; omega
  obtain ⟨bl, hbl⟩ : ∃ bl, Lib.hasPrefix t.data.toList [45] = bl := ⟨_, rfl⟩
  rw [hc, hbl] at CC
  have X0 := x1 w (.cells #[.int .i64 0, .int .i64 0, .int .i64 0] 26)
  have SC := splitC c _ hcs (LW.later X0)
  have L1 := LW.later X0
  have B := Box3.made w (.int .i64 0) (.int .i64 0) (.int .i64 0) 26
  have HC : Hid (c.data.toList = Lib.trimPrefix t.data.toList [45] ∧ Lib.hasPrefix t.data.toList [45] = bl) := ⟨hcl, hbl⟩
  clear hc hcl hbl hl tl LW
  go_enter Tryz.func37, Tryz.ntmps37
  go_wp2_with fail
  refine (CC _).mono ?_
  rintro e w0 ⟨rfl, rfl⟩
  go_wp2_with fail
  refine SC.mono ?_
  rintro e w1 ⟨ps, cap, rfl, hpc, hcap, hps, hw1⟩
  simp only [World.size_alloc]
  have X1 : Ext (w.alloc (.cells #[.int .i64 0, .int .i64 0, .int .i64 0] 26)) w1 := by rw [hw1]; exact x1 _ _
  have Br := B.later X1
  have LW1 := L1.later X1
  have Bq := Br
  obtain ⟨⟨r0, r1, r2⟩, s0, s1, s2⟩ := Bq
  by_cases h3 : ps.length = 3
  · obtain ⟨p0, p1, p2, rfl⟩ : ∃ p0 p1 p2, ps = [p0, p1, p2] := by
      match ps, h3 with
      | [a, b, c], _ => exact ⟨a, b, c, rfl⟩
    have k0 : w1.cell? ⟨w.heap.size + 1, 0, none⟩ = some (.string p0) := by rw [hw1]; simp [go_sem, Lib.cellsOf]
    have k1 : w1.cell? ⟨w.heap.size + 1, 1, none⟩ = some (.string p1) := by rw [hw1]; simp [go_sem, Lib.cellsOf]
    have k2 : w1.cell? ⟨w.heap.size + 1, 2, none⟩ = some (.string p2) := by rw [hw1]; simp [go_sem, Lib.cellsOf]
    have hlen : ∀ p ∈ [p0, p1, p2], p.size ≤ 1048576 := fun p hp => by
      have h1 : p.data.toList ∈ Lib.splitN c.data.toList [45] 4 := by rw [← hps]; exact List.mem_map_of_mem hp
      have h2 := splitK_len [45] _ _ _ h1
      have h3 := size_ofL (s := p) rfl
      have h4 := size_ofL (s := c) rfl
      omega
    have HPS : Hid ([p0, p1, p2].map (·.data.toList) = Lib.splitN c.data.toList [45] 4) := hps
    have z0 := hlen p0 (by simp)
    have z1 := hlen p1 (by simp)
    have z2 := hlen p2 (by simp)
    clear hw1 hps hlen h3 SC CC
    go_wp2_with fail
    refine (atoiC p0 _ z0 LW1).mono ?_
    rintro e w2 ⟨v0, ev0, rfl, ha0, e2⟩
    have k1' := cell_later e2 k1
    have k2' := cell_later e2 k2
    go_wp2_with fail
    refine (atoiC p1 _ z1 (LW1.later e2)).mono ?_
    rintro e w3 ⟨v1, ev1, rfl, ha1, e3⟩
    have k2x := cell_later e3 k2'
    go_wp2_with fail
    refine (atoiC p2 _ z2 (LW1.later (xt e2 e3))).mono ?_
    rintro e w4 ⟨v2, ev2, rfl, ha2, e4⟩
    have Y4 := xt (xt e2 e3) e4
    have B4 := Br.later Y4
    obtain ⟨⟨q0, q1, q2⟩, h0, h1, h2⟩ := B4
    have X4 : Ext w w4 := xt (xt X0 X1) Y4
    -- what a date's text has in its parts
    have PA : Hid (∀ y m d, HasText t y m d → Lib.atoiAll p0.data.toList = .ok (y.natAbs : Int) ∧ Lib.atoiAll p1.data.toList = .ok m ∧ Lib.atoiAll p2.data.toList = .ok d ∧ bl = decide (y < 0)) := fun y m d h => by
      obtain ⟨a, b, c', e1, e2', e3', e4', e5⟩ := IP.out y m d h
      rw [← HC.out.1, ← HPS.out] at e1
      simp only [List.map_cons, List.map_nil, List.cons.injEq, and_true] at e1
      obtain ⟨rfl, rfl, rfl⟩ := e1
      exact ⟨e2', e3', e4', HC.out.2.symm.trans e5⟩
    have T0 : Hid (t.size ≠ 0) := fun h => by
      have e1 : t.data.toList = [] := by
        have := size_ofL (s := t) rfl
        exact List.eq_nil_of_length_eq_zero (by omega)
      have e2' := HC.out.1
      rw [e1] at e2'
      have e3' : Lib.trimPrefix [] [45] = [] := by simp [Lib.trimPrefix]
      have e4' := HPS.out
      rw [e2', e3'] at e4'
      simp [Lib.splitN, Lib.splitK] at e4'
    clear IP HC HPS k0 k1 k2 k1' k2' k2x r0 r1 r2 s0 s1 s2 Br B L1 LW1 hsz z0 z1 z2 hpc hcap e2 e3 e4 X1 hcs
    rcases ha0 with ⟨rfl, a0⟩ | ⟨⟨T0', P0, rfl⟩, a0⟩
    · rcases ha1 with ⟨rfl, a1⟩ | ⟨⟨T1', P1, rfl⟩, a1⟩
      · rcases ha2 with ⟨rfl, a2⟩ | ⟨⟨T2', P2, rfl⟩, a2⟩
        · have bv := Lib.atoiAll_bounds a0
          have HF : Hid (∀ y' m' d', HasText t y' m' d' → v0 = (y'.natAbs : Int) ∧ v1 = m' ∧ v2 = d' ∧ bl = decide (y' < 0)) := fun y' m' d' h => by
            obtain ⟨f0, f1, f2, f3⟩ := PA.out y' m' d' h
            rw [a0] at f0
            rw [a1] at f1
            rw [a2] at f2
            injection f0 with f0
            injection f1 with f1
            injection f2 with f2
            exact ⟨f0, f1, f2, f3⟩
          clear PA a0 a1 a2
          cases bl
          · go_wp2_with fail
            exact bodyPost_ret (v := .tuple #[.agg #[.int .i64 v0, .int .i64 v1, .int .i64 v2], .bool true]) (by simp [results, Tryz.results37, go_sem, q0, q1, q2]) rfl ⟨true, v0, v1, v2, rfl, .inl ⟨rfl, T0.out, fun y' m' d' h => by
              obtain ⟨f0, f1, f2, f3⟩ := HF.out y' m' d' h
              have : ¬ y' < 0 := by simpa using f3
              exact ⟨by omega, f1, f2⟩⟩, xset (xset (xset X4 (Nat.le_refl _) _) (Nat.le_refl _) _) (Nat.le_refl _) _⟩
          · obtain ⟨N, hN⟩ : ∃ N, wrap64 (-v0) = N := ⟨_, rfl⟩
            have HNN : Hid (wrap64 (-v0) = N) := hN
            go_wp2_with fail
            exact bodyPost_ret (v := .tuple #[.agg #[.int .i64 N, .int .i64 v1, .int .i64 v2], .bool true]) (by simp [results, Tryz.results37, go_sem, q0, q1, q2]) rfl ⟨true, N, v1, v2, rfl, .inl ⟨rfl, T0.out, fun y' m' d' h => by
              obtain ⟨f0, f1, f2, f3⟩ := HF.out y' m' d' h
              have hy : y' < 0 := by simpa using f3.symm
              have hb := h.1.1
              have hN := HNN.out
              unfold wrap64 at hN
              exact ⟨by omega, f1, f2⟩⟩, xset (xset (xset X4 (Nat.le_refl _) _) (Nat.le_refl _) _) (Nat.le_refl _) _⟩
        · have HF : Hid (∀ y' m' d', ¬ HasText t y' m' d') := fun y' m' d' h => a2 _ (PA.out y' m' d' h).2.2.1
          clear PA
          go_wp2_with fail
          exact bodyPost_ret (v := .tuple #[.agg #[.int .i64 0, .int .i64 0, .int .i64 0], .bool false]) (by simp [results, Tryz.results37, go_sem, q0, q1, q2]) rfl ⟨false, 0, 0, 0, rfl, .inr ⟨rfl, HF.out⟩, by first | exact X4 | exact xset (xset (xset X4 (Nat.le_refl _) _) (Nat.le_refl _) _) (Nat.le_refl _) _⟩
      · have HF : Hid (∀ y' m' d', ¬ HasText t y' m' d') := fun y' m' d' h => a1 _ (PA.out y' m' d' h).2.1
        clear PA
        go_wp2_with fail
        exact bodyPost_ret (v := .tuple #[.agg #[.int .i64 0, .int .i64 0, .int .i64 0], .bool false]) (by simp [results, Tryz.results37, go_sem, q0, q1, q2]) rfl ⟨false, 0, 0, 0, rfl, .inr ⟨rfl, HF.out⟩, by first | exact X4 | exact xset (xset (xset X4 (Nat.le_refl _) _) (Nat.le_refl _) _) (Nat.le_refl _) _⟩
    · have HF : Hid (∀ y' m' d', ¬ HasText t y' m' d') := fun y' m' d' h => a0 _ (PA.out y' m' d' h).1
      clear PA
      go_wp2_with fail
      exact bodyPost_ret (v := .tuple #[.agg #[.int .i64 0, .int .i64 0, .int .i64 0], .bool false]) (by simp [results, Tryz.results37, go_sem, q0, q1, q2]) rfl ⟨false, 0, 0, 0, rfl, .inr ⟨rfl, HF.out⟩, by first | exact X4 | exact xset (xset (xset X4 (Nat.le_refl _) _) (Nat.le_refl _) _) (Nat.le_refl _) _⟩
  · have HF : Hid (∀ y' m' d', ¬ HasText t y' m' d') := fun y' m' d' h => by
      obtain ⟨a, b, c', e1, _⟩ := IP.out y' m' d' h
      rw [← HC.out.1, ← hps] at e1
      have := congrArg List.length e1
      simp at this
      exact h3 this
    obtain ⟨k, hk⟩ : ∃ k, ps.length = k := ⟨_, rfl⟩
    rw [hk] at hpc h3 ⊢
    have f1 : ((k : Int) != 3) = true := by simp; omega
    have X4 : Ext w w1 := xt X0 X1
    clear IP HC hw1 hps SC CC hk
    go_wp2_with fail
    exact bodyPost_ret (v := .tuple #[.agg #[.int .i64 0, .int .i64 0, .int .i64 0], .bool false]) (by simp [results, Tryz.results37, go_sem, r0, r1, r2]) rfl ⟨false, 0, 0, 0, rfl, .inr ⟨rfl, HF.out⟩, by first | exact X4 | exact xset (xset (xset X4 (Nat.le_refl _) _) (Nat.le_refl _) _) (Nat.le_refl _) _⟩

theorem ItoaC.laterR {w0 w : World} (h : ItoaC w0) (x : Ext w0 w) : ItoaC w := fun n w1 a b c => h n w1 a b (xt x c)

set_option maxRecDepth 8000 in
set_option maxHeartbeats 2000000 in
/-- The program's ReadDate, at every text of at most a million letters. -/
theorem readI (cal : Int) (t : ByteArray) (w : World) (hs : t.size ≤ 1048576) (LW : LibW w) (hM : Months w) (hC : Cals w) (IT : ItoaC w) :
    Calls Tryz.prog 15 #[.int .i64 cal, .string t] w fun e w' => ∃ r, e = .returned (optV r) ∧ RdOK t cal r ∧ Ext w w' := by
  go_enter Tryz.func15, Tryz.ntmps15
  go_wp2_with fail
  refine (partsI t w hs LW).mono ?_
  rintro e w1 ⟨ok, y, m, d, rfl, hp, e1⟩
  rcases hp with ⟨rfl, ht0, hp⟩ | ⟨rfl, hp⟩
  · obtain ⟨s, hsd, _, CI⟩ := dtext_any y m d
    have HRD : Hid ((s = t → RdOK t cal (dayP cal y m d)) ∧ (s ≠ t → RdOK t cal none)) := RdOK.of_parse (cal := cal) ht0 hsd hp
    have B := Box3.made w1 (.int .i64 y) (.int .i64 m) (.int .i64 d) 26
    have X1 : Ext w (w1.alloc (.cells #[.int .i64 y, .int .i64 m, .int .i64 d] 26)) := xa e1 _
    have CI1 := CI _ (IT.laterR X1)
    clear hp hsd CI LW IT
    go_wp2_with fail
    refine CI1.mono ?_
    rintro e w2 ⟨rfl, e2⟩
    obtain ⟨⟨p0, p1, p2⟩, _⟩ := B.later e2
    have X2 : Ext w w2 := xt X1 e2
    have DY := dayI_any cal y m d w2 (hM.later X2) (hC.later X2)
    by_cases hst : s = t
    · have HR : Hid (RdOK t cal (dayP cal y m d)) := HRD.out.1 hst
      clear HRD hM hC
      subst hst
      go_wp2_with fail
      refine DY.mono ?_
      rintro e w3 ⟨rfl, e3⟩
      have hr := HR.out
      cases hp : dayP cal y m d with
      | none =>
        rw [hp] at hr
        simp only [optV]
        go_wp2_with fail
        exact bodyPost_ret (v := .tuple #[.int .i64 0, .bool false]) (by simp [results, Tryz.results15, go_sem]) rfl ⟨none, rfl, hr, xt X2 e3⟩
      | some k =>
        rw [hp] at hr
        simp only [optV]
        go_wp2_with fail
        exact bodyPost_ret (v := .tuple #[.int .i64 k, .bool true]) (by simp [results, Tryz.results15, go_sem]) rfl ⟨some k, rfl, hr, xt X2 e3⟩
    · have hne : (s.toList == t.toList) = false := by
        rw [beq_eq_false_iff_ne]
        exact fun q => hst (toList_inj q)
      have hr := HRD.out.2 hst
      clear HRD DY hM hC
      go_wp2_with fail
      exact bodyPost_ret (v := .tuple #[.int .i64 0, .bool false]) (by simp [results, Tryz.results15, go_sem]) rfl ⟨none, rfl, hr, X2⟩
  · have hr : Hid (RdOK t cal none) := .inr ⟨hp, rfl⟩
    clear hp LW IT hM hC
    go_wp2_with fail
    exact bodyPost_ret (v := .tuple #[.int .i64 0, .bool false]) (by simp [results, Tryz.results15, go_sem]) rfl ⟨none, rfl, hr.out, xa e1 _⟩

set_option maxRecDepth 8000 in
set_option maxHeartbeats 2000000 in
theorem lawRead (cal : Int) (t : ByteArray) (w : World) (hs : t.size ≤ 9223372036854775807) (LW : LibW w) (hM : Months w) (hC : Cals w) (IT : ItoaC w) :
    Calls Tryz.prog 4 #[.int .i64 cal, .string t] w fun e w' => e = .returned (.bool true) ∧ Ext w w' := by
  by_cases hb : t.size ≤ 1048576
  · have CS := readS cal t w hb
    have CI := fun w x => readI cal t w hb (LW.later (w' := w) x) (hM.later x) (hC.later x) (IT.laterR x)
    obtain ⟨L, hL⟩ : ∃ L, t.size = L := ⟨_, rfl⟩
    rw [hL] at hs hb
    have f1 : decide ((L : Int) > 1048576) = false := by simp; omega
    clear LW hM hC IT
    go_enter Tryz.func4, Tryz.ntmps4
    go_wp2_with fail
    refine CS.mono ?_
    rintro e w1 ⟨r, rfl, h1, e1⟩
    have CI1 := CI w1 e1
    clear CI
    cases r with
    | none =>
      simp only [optV]
      go_wp2_with fail
      refine CI1.mono ?_
      rintro e w2 ⟨r', rfl, h2, e2⟩
      obtain rfl := h1.one h2
      simp only [optV]
      go_wp2_with fail
      go_ret
      exact ⟨rfl, xt e1 e2⟩
    | some k =>
      simp only [optV]
      go_wp2_with fail
      refine CI1.mono ?_
      rintro e w2 ⟨r', rfl, h2, e2⟩
      obtain rfl := h1.one h2
      simp only [optV]
      go_wp2_with fail
      go_ret
      exact ⟨rfl, xt e1 e2⟩
  · obtain ⟨L, hL⟩ : ∃ L, t.size = L := ⟨_, rfl⟩
    rw [hL] at hs hb
    have f1 : decide ((L : Int) > 1048576) = true := by simp; omega
    clear LW hM hC IT
    go_enter Tryz.func4, Tryz.ntmps4
    go_wp2_with fail
    go_ret
    exact ⟨rfl, xr _⟩

end Go.Proofs.YtmcmohooodpfeaaGreatDoor
