/-
  The specification's ReadDate.
-/
import Derived.Test.YtmcmohooodpfeaaGreatDoorRdS
import Derived.Test.YtmcmohooodpfeaaGreatDoorDxBoth
import Derived.Test.YtmcmohooodpfeaaGreatDoorSpeD
namespace Go.Proofs.YtmcmohooodpfeaaGreatDoor
open Go.RowKit

/-- What the specification takes the text apart into. -/
theorem spec_parse {t : ByteArray} {l : List UInt8} (hl : t.data.toList = l) {y m d : Int} (h : HasText t y m d) :
    10 ≤ l.length ∧ l.getD (l.length - 3) 0 = 45 ∧ l.getD (l.length - 6) 0 = 45 ∧
      (if l.getD 0 0 = 45 then -numL ((l.take (l.length - 6)).drop 1) else numL (l.take (l.length - 6))) = y ∧ numL ((l.drop (l.length - 5)).take 2) = m ∧ numL (l.drop (l.length - 2)) = d := by
  obtain ⟨hy, hm, hd⟩ := h.1
  have e : l = dateL (decide (y < 0)) y.natAbs m.toNat d.toNat := by rw [← hl, ← h.2, dateB_list h.1]
  have n4 := num4 (u := y.natAbs) (by omega)
  have nm := num2 (u := m.toNat) (by omega)
  have nd := num2 (u := d.toNat) (by omega)
  have d45 : ∀ {a : Nat}, a < 10 → dig a ≠ 45 := fun {a} ha e => by
    have := congrArg UInt8.toNat e
    rw [dig_toNat ha] at this
    simp at this
    omega
  have h0 := d45 (a := y.natAbs / 1000) (by omega)
  subst e
  by_cases hn : y < 0
  · simp [dateL, hn, n4, nm, nd]
    omega
  · simp [dateL, hn, n4, nm, nd, h0]
    omega

theorem toList_inj {s t : ByteArray} (h : s.toList = t.toList) : s = t := by
  rw [ByteArray.toList_eq, ByteArray.toList_eq] at h
  exact string_extL h
theorem ext_list {t : ByteArray} {l : List UInt8} (h : t.data.toList = l) (a b : Nat) : (t.extract a b).data.toList = (l.drop a).take (b - a) := by
  subst h
  simp [ByteArray.data_extract]

set_option maxRecDepth 8000 in
set_option maxHeartbeats 2000000 in
theorem readS_off (cal : Int) (t : ByteArray) (l : List UInt8) (w : World) (hl : t.data.toList = l) (hsmall : l.length ≤ 1048576) (h : ¬ (10 ≤ l.length ∧ l.getD (l.length - 3) 0 = 45 ∧ l.getD (l.length - 6) 0 = 45)) :
    Calls Tryz.prog 19 #[.int .i64 cal, .string t] w fun e w' => e = .returned (.tuple #[.int .i64 0, .bool false]) ∧ Ext w w' := by
  have hsz := size_ofL hl
  obtain ⟨L, hL⟩ : ∃ L, l.length = L := ⟨_, rfl⟩
  rw [hL] at hsz h hsmall
  by_cases h10 : L < 10
  · have f1 : decide ((L : Int) < 10) = true := by simp; omega
    clear h hl hL
    go_enter Tryz.func19, Tryz.ntmps19
    go_wp2_with fail
    exact bodyPost_ret (v := .tuple #[.int .i64 0, .bool false]) (by simp [results, Tryz.results19, go_sem]) rfl ⟨rfl, xr _⟩
  · have f1 : decide ((L : Int) < 10) = false := by simp; omega
    obtain ⟨A3, h3⟩ : ∃ A : Nat, A = L - 3 := ⟨_, rfl⟩
    obtain ⟨A6, h6⟩ : ∃ A : Nat, A = L - 6 := ⟨_, rfl⟩
    have e3 : (L : Int) - 3 = (A3 : Int) := by omega
    have e6 : (L : Int) - 6 = (A6 : Int) := by omega
    have l3 : A3 < t.size := by omega
    have l6 : A6 < t.size := by omega
    have i3 : (A3 : Int) < (L : Int) := by omega
    have i6 : (A6 : Int) < (L : Int) := by omega
    have n3 : ((t[A3]'l3).toNat : Int) = ((l.getD (L - 3) 0).toNat : Int) := by rw [byte_at hl l3, h3]
    have n6 : ((t[A6]'l6).toNat : Int) = ((l.getD (L - 6) 0).toNat : Int) := by rw [byte_at hl l6, h6]
    obtain ⟨c3, g3⟩ : ∃ c, l.getD (L - 3) 0 = c := ⟨_, rfl⟩
    obtain ⟨c6, g6⟩ : ∃ c, l.getD (L - 6) 0 = c := ⟨_, rfl⟩
    rw [g3] at n3 h
    rw [g6] at n6 h
    clear h3 h6 g3 g6 hl hL
    by_cases k3 : c3 = 45
    · have k6 : c6 ≠ 45 := fun k => h ⟨by omega, k3, k⟩
      have n3' : ((t[A3]'l3).toNat : Int) = 45 := by rw [n3, k3]; rfl
      have n6' : ((t[A6]'l6).toNat : Int) ≠ 45 := by
        rw [n6]
        intro e
        exact k6 (UInt8.toNat_inj.1 (by have : (45 : UInt8).toNat = 45 := rfl; omega))
      have n6b : (((t[A6]'l6).toNat : Int) != 45) = true := by simpa using n6'
      clear h n3 n6 k3 k6 n6'
      go_enter Tryz.func19, Tryz.ntmps19
      go_wp2_with fail
      exact bodyPost_ret (v := .tuple #[.int .i64 0, .bool false]) (by simp [results, Tryz.results19, go_sem]) rfl ⟨rfl, xr _⟩
    · have n3' : ((t[A3]'l3).toNat : Int) ≠ 45 := by
        rw [n3]
        intro e
        exact k3 (UInt8.toNat_inj.1 (by have : (45 : UInt8).toNat = 45 := rfl; omega))
      have n3b : (((t[A3]'l3).toNat : Int) != 45) = true := by simpa using n3'
      clear h n3 n6 k3 n3'
      go_enter Tryz.func19, Tryz.ntmps19
      go_wp2_with fail
      exact bodyPost_ret (v := .tuple #[.int .i64 0, .bool false]) (by simp [results, Tryz.results19, go_sem]) rfl ⟨rfl, xr _⟩

set_option maxRecDepth 8000 in
set_option maxHeartbeats 2000000 in
theorem readS_neg (cal : Int) (t : ByteArray) (l : List UInt8) (w : World) (hl : t.data.toList = l) (hsmall : l.length ≤ 1048576) (h10 : 10 ≤ l.length) (k3 : l.getD (l.length - 3) 0 = 45) (k6 : l.getD (l.length - 6) 0 = 45) (k0 : l.getD 0 0 = 45) :
    Calls Tryz.prog 19 #[.int .i64 cal, .string t] w fun e w' => ∃ r, e = .returned (optV r) ∧ RdOK t cal r ∧ Ext w w' := by
  have HP : Hid (∀ y' m' d', HasText t y' m' d' → -numL ((l.take (l.length - 6)).drop 1) = y' ∧ numL ((l.drop (l.length - 5)).take 2) = m' ∧ numL (l.drop (l.length - 2)) = d') := fun y' m' d' h => by
    have q := spec_parse hl h
    rw [if_pos k0] at q
    exact q.2.2.2
  have hsz := size_ofL hl
  obtain ⟨L, hL⟩ : ∃ L, l.length = L := ⟨_, rfl⟩
  rw [hL] at hsz hsmall h10 k3 k6 HP
  have f1 : decide ((L : Int) < 10) = false := by simp; omega
  obtain ⟨A3, h3⟩ : ∃ A : Nat, A = L - 3 := ⟨_, rfl⟩
  obtain ⟨A6, h6⟩ : ∃ A : Nat, A = L - 6 := ⟨_, rfl⟩
  obtain ⟨A5, h5⟩ : ∃ A : Nat, A = L - 5 := ⟨_, rfl⟩
  obtain ⟨A2, h2⟩ : ∃ A : Nat, A = L - 2 := ⟨_, rfl⟩
  have e3 : (L : Int) - 3 = (A3 : Int) := by omega
  have e6 : (L : Int) - 6 = (A6 : Int) := by omega
  have e5 : (L : Int) - 5 = (A5 : Int) := by omega
  have e2 : (L : Int) - 2 = (A2 : Int) := by omega
  have l3 : A3 < t.size := by omega
  have l6 : A6 < t.size := by omega
  have i3 : (A3 : Int) < (L : Int) := by omega
  have i6 : (A6 : Int) < (L : Int) := by omega
  have n3 : ((t[A3]'l3).toNat : Int) = 45 := by rw [byte_at hl l3, h3, k3]; rfl
  have n6 : ((t[A6]'l6).toNat : Int) = 45 := by rw [byte_at hl l6, h6, k6]; rfl
  have xl : (t.extract 0 A6).data.toList = l.take (L - 6) := by rw [ext_list hl, h6]; simp
  have xs : (t.extract 0 A6).size = A6 := by rw [size_ofL xl, List.length_take, hL]; omega
  obtain ⟨g, hg⟩ : ∃ g, t.extract 0 A6 = g := ⟨_, rfl⟩
  rw [hg] at xl xs
  have g0 : 0 < g.size := by omega
  have n0 : ((g[0]'g0).toNat : Int) = 45 := by
    rw [byte_at xl g0]
    have e : (l.take (L - 6)).getD 0 0 = l.getD 0 0 := by simp [List.getD_eq_getElem?_getD, show 0 < L - 6 by omega]
    rw [e, k0]
    rfl
  have n0b : (((g[0]'g0).toNat : Int) == 45) = true := by simpa using n0
  have zl : (g.extract 1 A6).data.toList = (l.take (L - 6)).drop 1 := by
    rw [ext_list xl]
    exact List.take_of_length_le (by simp; omega)
  have ml : (t.extract A5 A3).data.toList = (l.drop (L - 5)).take 2 := by rw [ext_list hl, h5, h3, show L - 3 - (L - 5) = 2 by omega]
  have dl : (t.extract A2 L).data.toList = l.drop (L - 2) := by
    rw [ext_list hl, h2]
    exact List.take_of_length_le (by simp; omega)
  have ii : (A5 : Int) ≤ (A3 : Int) := by omega
  have i5 : (A5 : Int) ≤ (L : Int) := by omega
  have i2 : (A2 : Int) ≤ (L : Int) := by omega
  have i33 : (A3 : Int) ≤ (L : Int) := by omega
  have i66 : (A6 : Int) ≤ (L : Int) := by omega
  have p6 : (1 : Int) ≤ (A6 : Int) := by omega
  have w5 : IntKind.i64.wrap (A5 : Int) = (A5 : Int) := by rw [IntKind.wrap_i64]; omega
  have w3 : IntKind.i64.wrap (A3 : Int) = (A3 : Int) := by rw [IntKind.wrap_i64]; omega
  have w2 : IntKind.i64.wrap (A2 : Int) = (A2 : Int) := by rw [IntKind.wrap_i64]; omega
  have z5 : (0 : Int) ≤ (A5 : Int) := by omega
  have z3 : (0 : Int) ≤ (A3 : Int) := by omega
  have z2 : (0 : Int) ≤ (A2 : Int) := by omega
  clear k3 k6 k0 h3 h6 h5 h2 n0 hl hL
  obtain ⟨z, hz⟩ : ∃ z, g.extract 1 A6 = z := ⟨_, rfl⟩
  rw [hz] at zl
  obtain ⟨mm, hmm⟩ : ∃ z, t.extract A5 A3 = z := ⟨_, rfl⟩
  obtain ⟨dd, hdd⟩ : ∃ z, t.extract A2 L = z := ⟨_, rfl⟩
  rw [hmm] at ml
  rw [hdd] at dl
  have NY := fun w => numS z _ w zl
  have NM := fun w => numS mm _ w ml
  have ND := fun w => numS dd _ w dl
  have fy := numL_fits ((l.take (L - 6)).drop 1)
  obtain ⟨Y, hY⟩ : ∃ Y, numL ((l.take (L - 6)).drop 1) = Y := ⟨_, rfl⟩
  obtain ⟨M, hMo⟩ : ∃ M, numL ((l.drop (L - 5)).take 2) = M := ⟨_, rfl⟩
  obtain ⟨D, hD⟩ : ∃ D, numL (l.drop (L - 2)) = D := ⟨_, rfl⟩
  rw [hY] at NY fy HP
  rw [hMo] at NM HP
  rw [hD] at ND HP
  obtain ⟨s, hs, CS, _⟩ := dtext_any (-Y) M D
  have ht0 : t.size ≠ 0 := by omega
  have RD := RdOK.of_parse (cal := cal) ht0 hs HP.out
  have HRD : Hid ((s = t → RdOK t cal (dayP cal (-Y) M D)) ∧ (s ≠ t → RdOK t cal none)) := RD
  have DY := fun w => dayS_any cal (-Y) M D w
  clear hY hMo hD zl ml dl hs RD HP xl
  go_enter Tryz.func19, Tryz.ntmps19
  go_wp2_with fail
  go_cut [9] (fun v wc => v = .pointer (some ⟨w.heap.size, 0, none⟩) ∧ Box3 wc w.heap.size (.int .i64 Y) (.int .i64 M) (.int .i64 D) ∧ Ext w wc)
  case first =>
    go_region_held3 (fun _ => True) (trivial) (first
      | (go_at_call_of 47 (Value.string z); refine (NY _).mono ?_; rintro e w' ⟨rfl, rfl⟩)
      | (go_at_call_of 47 (Value.string mm); refine (NM _).mono ?_; rintro e w' ⟨rfl, rfl⟩)
      | (go_at_call_of 47 (Value.string dd); refine (ND _).mono ?_; rintro e w' ⟨rfl, rfl⟩))
    all_goals go_wp2_with fail
    all_goals
      go_meet
      case rel => exact ⟨rfl, by first | exact (Box3.made _ _ _ _ _).later (xd (xr _)) | exact Box3.made _ _ _ _ _, by first | exact xd (x1 _ _) | exact xa (xd (xr _)) _ | exact x1 _ _⟩
  case rest =>
    obtain ⟨rfl, Bc, Xc⟩ := hcut
    have Bc' := Bc
    obtain ⟨⟨q0, q1, q2⟩, h0, h1, h2⟩ := Bc'
    have hwy : wrap64 (-Y) = -Y := by unfold wrap64; omega
    have B2 := Bc.put0 (.int .i64 (-Y))
    clear NY NM ND e3 e6 e5 e2 l3 l6 i3 i6 n3 n6 hg g0 n0b hz hmm hdd ii i5 i2 i33 i66 p6 w5 w3 w2 z5 z3 z2 f1 xs
    go_wp2_with fail
    refine (CS _).mono ?_
    rintro e w2 ⟨rfl, e2⟩
    obtain ⟨⟨p0, p1, p2⟩, _⟩ := B2.later e2
    have X2 : Ext w w2 := xt (xset Xc (Nat.le_refl _) _) e2
    by_cases hst : s = t
    · have hr := HRD.out.1 hst
      have HR : Hid (RdOK t cal (dayP cal (-Y) M D)) := hr
      clear hr HRD
      subst hst
      clear q0 q1 q2 h0 h1 h2 Bc
      go_wp2_with fail
      refine (DY _).mono ?_
      rintro e w3 ⟨rfl, e3⟩
      have hr := HR.out
      cases hp : dayP cal (-Y) M D with
      | none =>
        rw [hp] at hr
        simp only [optV]
        go_wp2_with fail
        exact bodyPost_ret (v := .tuple #[.int .i64 0, .bool false]) (by simp [results, Tryz.results19, go_sem]) rfl ⟨none, rfl, hr, xt X2 e3⟩
      | some k =>
        rw [hp] at hr
        simp only [optV]
        go_wp2_with fail
        exact bodyPost_ret (v := .tuple #[.int .i64 k, .bool true]) (by simp [results, Tryz.results19, go_sem]) rfl ⟨some k, rfl, hr, xt X2 e3⟩
    · have hne : (s.toList == t.toList) = false := by
        rw [beq_eq_false_iff_ne]
        exact fun q => hst (toList_inj q)
      have hr := HRD.out.2 hst
      clear q0 q1 q2 h0 h1 h2 Bc HRD
      go_wp2_with fail
      exact bodyPost_ret (v := .tuple #[.int .i64 0, .bool false]) (by simp [results, Tryz.results19, go_sem]) rfl ⟨none, rfl, hr, X2⟩

set_option maxRecDepth 8000 in
set_option maxHeartbeats 2000000 in
theorem readS_pos (cal : Int) (t : ByteArray) (l : List UInt8) (w : World) (hl : t.data.toList = l) (hsmall : l.length ≤ 1048576) (h10 : 10 ≤ l.length) (k3 : l.getD (l.length - 3) 0 = 45) (k6 : l.getD (l.length - 6) 0 = 45) (k0 : l.getD 0 0 ≠ 45) :
    Calls Tryz.prog 19 #[.int .i64 cal, .string t] w fun e w' => ∃ r, e = .returned (optV r) ∧ RdOK t cal r ∧ Ext w w' := by
  have HP : Hid (∀ y' m' d', HasText t y' m' d' → numL (l.take (l.length - 6)) = y' ∧ numL ((l.drop (l.length - 5)).take 2) = m' ∧ numL (l.drop (l.length - 2)) = d') := fun y' m' d' h => by
    have q := spec_parse hl h
    rw [if_neg k0] at q
    exact q.2.2.2
  have hsz := size_ofL hl
  obtain ⟨L, hL⟩ : ∃ L, l.length = L := ⟨_, rfl⟩
  rw [hL] at hsz hsmall h10 k3 k6 HP
  have f1 : decide ((L : Int) < 10) = false := by simp; omega
  obtain ⟨A3, h3⟩ : ∃ A : Nat, A = L - 3 := ⟨_, rfl⟩
  obtain ⟨A6, h6⟩ : ∃ A : Nat, A = L - 6 := ⟨_, rfl⟩
  obtain ⟨A5, h5⟩ : ∃ A : Nat, A = L - 5 := ⟨_, rfl⟩
  obtain ⟨A2, h2⟩ : ∃ A : Nat, A = L - 2 := ⟨_, rfl⟩
  have e3 : (L : Int) - 3 = (A3 : Int) := by omega
  have e6 : (L : Int) - 6 = (A6 : Int) := by omega
  have e5 : (L : Int) - 5 = (A5 : Int) := by omega
  have e2 : (L : Int) - 2 = (A2 : Int) := by omega
  have l3 : A3 < t.size := by omega
  have l6 : A6 < t.size := by omega
  have i3 : (A3 : Int) < (L : Int) := by omega
  have i6 : (A6 : Int) < (L : Int) := by omega
  have n3 : ((t[A3]'l3).toNat : Int) = 45 := by rw [byte_at hl l3, h3, k3]; rfl
  have n6 : ((t[A6]'l6).toNat : Int) = 45 := by rw [byte_at hl l6, h6, k6]; rfl
  have xl : (t.extract 0 A6).data.toList = l.take (L - 6) := by rw [ext_list hl, h6]; simp
  have xs : (t.extract 0 A6).size = A6 := by rw [size_ofL xl, List.length_take, hL]; omega
  obtain ⟨g, hg⟩ : ∃ g, t.extract 0 A6 = g := ⟨_, rfl⟩
  rw [hg] at xl xs
  have g0 : 0 < g.size := by omega
  have n0 : ((g[0]'g0).toNat : Int) ≠ 45 := by
    rw [byte_at xl g0]
    have e : (l.take (L - 6)).getD 0 0 = l.getD 0 0 := by simp [List.getD_eq_getElem?_getD, show 0 < L - 6 by omega]
    rw [e]
    intro q; exact k0 (UInt8.toNat_inj.1 (by have : (45 : UInt8).toNat = 45 := rfl; omega))
  have n0b : (((g[0]'g0).toNat : Int) == 45) = false := by simpa using n0
  have ml : (t.extract A5 A3).data.toList = (l.drop (L - 5)).take 2 := by rw [ext_list hl, h5, h3, show L - 3 - (L - 5) = 2 by omega]
  have dl : (t.extract A2 L).data.toList = l.drop (L - 2) := by
    rw [ext_list hl, h2]
    exact List.take_of_length_le (by simp; omega)
  have ii : (A5 : Int) ≤ (A3 : Int) := by omega
  have i5 : (A5 : Int) ≤ (L : Int) := by omega
  have i2 : (A2 : Int) ≤ (L : Int) := by omega
  have i33 : (A3 : Int) ≤ (L : Int) := by omega
  have i66 : (A6 : Int) ≤ (L : Int) := by omega
  have p6 : (1 : Int) ≤ (A6 : Int) := by omega
  have w5 : IntKind.i64.wrap (A5 : Int) = (A5 : Int) := by rw [IntKind.wrap_i64]; omega
  have w3 : IntKind.i64.wrap (A3 : Int) = (A3 : Int) := by rw [IntKind.wrap_i64]; omega
  have w2 : IntKind.i64.wrap (A2 : Int) = (A2 : Int) := by rw [IntKind.wrap_i64]; omega
  have z5 : (0 : Int) ≤ (A5 : Int) := by omega
  have z3 : (0 : Int) ≤ (A3 : Int) := by omega
  have z2 : (0 : Int) ≤ (A2 : Int) := by omega
  clear k3 k6 k0 h3 h6 h5 h2 n0 hl hL
  obtain ⟨mm, hmm⟩ : ∃ z, t.extract A5 A3 = z := ⟨_, rfl⟩
  obtain ⟨dd, hdd⟩ : ∃ z, t.extract A2 L = z := ⟨_, rfl⟩
  rw [hmm] at ml
  rw [hdd] at dl
  have NY := fun w => numS g _ w xl
  have NM := fun w => numS mm _ w ml
  have ND := fun w => numS dd _ w dl
  have fy := numL_fits (l.take (L - 6))
  obtain ⟨Y, hY⟩ : ∃ Y, numL (l.take (L - 6)) = Y := ⟨_, rfl⟩
  obtain ⟨M, hMo⟩ : ∃ M, numL ((l.drop (L - 5)).take 2) = M := ⟨_, rfl⟩
  obtain ⟨D, hD⟩ : ∃ D, numL (l.drop (L - 2)) = D := ⟨_, rfl⟩
  rw [hY] at NY fy HP
  rw [hMo] at NM HP
  rw [hD] at ND HP
  obtain ⟨s, hs, CS, _⟩ := dtext_any (Y) M D
  have ht0 : t.size ≠ 0 := by omega
  have RD := RdOK.of_parse (cal := cal) ht0 hs HP.out
  have HRD : Hid ((s = t → RdOK t cal (dayP cal (Y) M D)) ∧ (s ≠ t → RdOK t cal none)) := RD
  have DY := fun w => dayS_any cal (Y) M D w
  clear hY hMo hD ml dl hs RD HP xl
  go_enter Tryz.func19, Tryz.ntmps19
  go_wp2_with fail
  go_cut [9] (fun v wc => v = .pointer (some ⟨w.heap.size, 0, none⟩) ∧ Box3 wc w.heap.size (.int .i64 Y) (.int .i64 M) (.int .i64 D) ∧ Ext w wc)
  case first =>
    go_region_held3 (fun _ => True) (trivial) (first
      | (go_at_call_of 47 (Value.string g); refine (NY _).mono ?_; rintro e w' ⟨rfl, rfl⟩)
      | (go_at_call_of 47 (Value.string mm); refine (NM _).mono ?_; rintro e w' ⟨rfl, rfl⟩)
      | (go_at_call_of 47 (Value.string dd); refine (ND _).mono ?_; rintro e w' ⟨rfl, rfl⟩))
    all_goals go_wp2_with fail
    all_goals
      go_meet
      case rel => exact ⟨rfl, by first | exact (Box3.made _ _ _ _ _).later (xd (xr _)) | exact Box3.made _ _ _ _ _, by first | exact xd (x1 _ _) | exact xa (xd (xr _)) _ | exact x1 _ _⟩
  case rest =>
    obtain ⟨rfl, Bc, Xc⟩ := hcut
    have Bc' := Bc
    obtain ⟨⟨q0, q1, q2⟩, h0, h1, h2⟩ := Bc'
    clear NY NM ND e3 e6 e5 e2 l3 l6 i3 i6 n3 n6 hg g0 n0b hmm hdd ii i5 i2 i33 i66 p6 w5 w3 w2 z5 z3 z2 f1 xs
    go_wp2_with fail
    refine (CS _).mono ?_
    rintro e w2 ⟨rfl, e2⟩
    obtain ⟨⟨p0, p1, p2⟩, _⟩ := Bc.later e2
    have X2 : Ext w w2 := xt Xc e2
    by_cases hst : s = t
    · have hr := HRD.out.1 hst
      have HR : Hid (RdOK t cal (dayP cal Y M D)) := hr
      clear hr HRD
      subst hst
      clear q0 q1 q2 h0 h1 h2 Bc
      go_wp2_with fail
      refine (DY _).mono ?_
      rintro e w3 ⟨rfl, e3⟩
      have hr := HR.out
      cases hp : dayP cal (Y) M D with
      | none =>
        rw [hp] at hr
        simp only [optV]
        go_wp2_with fail
        exact bodyPost_ret (v := .tuple #[.int .i64 0, .bool false]) (by simp [results, Tryz.results19, go_sem]) rfl ⟨none, rfl, hr, xt X2 e3⟩
      | some k =>
        rw [hp] at hr
        simp only [optV]
        go_wp2_with fail
        exact bodyPost_ret (v := .tuple #[.int .i64 k, .bool true]) (by simp [results, Tryz.results19, go_sem]) rfl ⟨some k, rfl, hr, xt X2 e3⟩
    · have hne : (s.toList == t.toList) = false := by
        rw [beq_eq_false_iff_ne]
        exact fun q => hst (toList_inj q)
      have hr := HRD.out.2 hst
      clear q0 q1 q2 h0 h1 h2 Bc HRD
      go_wp2_with fail
      exact bodyPost_ret (v := .tuple #[.int .i64 0, .bool false]) (by simp [results, Tryz.results19, go_sem]) rfl ⟨none, rfl, hr, X2⟩

/-- The specification's ReadDate, at every text of at most a million letters. -/
theorem readS (cal : Int) (t : ByteArray) (w : World) (hs : t.size ≤ 1048576) :
    Calls Tryz.prog 19 #[.int .i64 cal, .string t] w fun e w' => ∃ r, e = .returned (optV r) ∧ RdOK t cal r ∧ Ext w w' := by
  have hl : t.data.toList = t.data.toList := rfl
  have hsz := size_ofL hl
  by_cases h : 10 ≤ t.data.toList.length ∧ t.data.toList.getD (t.data.toList.length - 3) 0 = 45 ∧ t.data.toList.getD (t.data.toList.length - 6) 0 = 45
  · by_cases k0 : t.data.toList.getD 0 0 = 45
    · exact readS_neg cal t _ w hl (by omega) h.1 h.2.1 h.2.2 k0
    · exact readS_pos cal t _ w hl (by omega) h.1 h.2.1 h.2.2 k0
  · refine (readS_off cal t _ w hl (by omega) h).mono ?_
    rintro e w' ⟨rfl, e1⟩
    refine ⟨none, rfl, .inr ⟨fun y m d q => ?_, rfl⟩, e1⟩
    have p := spec_parse hl q
    exact h ⟨p.1, p.2.1, p.2.2.1⟩

end Go.Proofs.YtmcmohooodpfeaaGreatDoor
