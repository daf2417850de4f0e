/-
  Chapter 15: the specification: Standing, LastUndo, LastRedo.
-/
import Derived.Test.YtmpemgpfjopkgaaHs5
namespace Go.Proofs.Ytmpemgpfjopkgaa
open Go.RowKit

/-- The steps are as said. -/
def goodH (l : List STP) : Bool := okL l l.length && decide (l.length ≤ 60)
def isU (us : List Nat) (i : Nat) : Bool := us.getD i 0 == 0
def isR (us : List Nat) (i : Nat) : Bool := us.getD i 0 != 0 && us.getD (us.getD i 0 - 1) 0 == 0
def qB (us : List Nat) (p : Nat → Bool) (i : Nat) : Bool := (stV us 0).getD i false && p i
def lastR (p : List Nat → Nat → Bool) (l : List STP) : Nat := if goodH l then lastN (qB (undos l) (p (undos l))) l.length else 0
theorem stV_getD (us : List Nat) (i : Nat) (hi : i < us.length) : (stV us 0).getD i false = decide (i ∈ dnL us 0) := by
  rw [← stV_told us, List.getD_eq_getElem?_getD, List.getElem?_map, List.getElem?_range hi]
  rfl
theorem lastN_congr {q q' : Nat → Bool} {n : Nat} (h : ∀ i, i < n → q i = q' i) : lastN q n = lastN q' n := by
  induction n with
  | zero => rfl
  | succ n ih =>
    show (if q n then n + 1 else lastN q n) = (if q' n then n + 1 else lastN q' n)
    rw [h n (by omega), ih (fun i hi => h i (by omega))]
/-- By the program's way: the first one that is come to. -/
theorem lastR_first {p : List Nat → Nat → Bool} {l : List STP} (h : goodH l = true) : lastR p l = firstN (p (undos l)) (dnL (undos l) 0) := by
  unfold lastR
  rw [if_pos h, first_last, undos_length]
  exact lastN_congr (fun i hi => by unfold qB; rw [stV_getD _ _ (by rw [undos_length]; exact hi)])
theorem goodH_iff {l : List STP} : goodH l = true ↔ okL l l.length = true ∧ l.length ≤ 60 := by
  unfold goodH
  rw [Bool.and_eq_true_iff, decide_eq_true_iff]
theorem undos_getD {l : List STP} {k : Nat} {e : STP} (h : l[k]? = some e) : (undos l).getD k 0 = e.u.toNat := by
  rw [List.getD_eq_getElem?_getD, undos_at h]
  rfl
/-- What Standing answers: none where the steps are not as said. -/
def standR (l : List STP) : List Bool := if goodH l then stV (undos l) 0 else []
set_option maxRecDepth 8000 in
set_option maxHeartbeats 2000000 in
theorem standingS (v : Value) (l : List STP) (w : World) (h : StpsIn w v l) (hl : l.length ≤ 1048576) (hc : ∀ e ∈ l, e.ch.length ≤ 1048576) :
    Calls Try.prog 7 #[v] w fun z w' => (∃ (p : Option Addr) (m : Nat), z = .returned (.slice p m m) ∧ BoolsIn w' (.slice p m m) (standR l)) ∧ Ext w w' := by
  have C := stepsS v l w h hl hc
  have HG : Hid ((okL l l.length && decide (l.length ≤ 60)) = goodH l) := rfl
  rw [HG.out] at C
  have HS : Hid (goodH l = true → ∀ W, Ext w W → Calls Try.prog 21 #[v] W fun z w' => z = .returned (ownV W.heap.size l.length) ∧ Vec w' W.heap.size ((stV (undos l) 0).map bV) ∧ Ext W w') := fun hg W x => standS v l W (h.later x) (goodH_iff.1 hg).2 (goodH_iff.1 hg).1
  obtain ⟨q, hq⟩ : ∃ q, goodH l = q := ⟨_, rfl⟩
  have HR : Hid (standR l = if q then stV (undos l) 0 else []) := by show _ = _; unfold standR; rw [hq]
  have HL : Hid ((stV (undos l) 0).length = l.length) := by show _ = _; rw [stV_length, undos_length]
  rw [hq] at C HS
  obtain ⟨n, hn⟩ : ∃ n, l.length = n := ⟨_, rfl⟩
  rw [hn] at HS HL hl
  clear hq h hc HG hn
  cases q
  · have HR2 : Hid (standR l = []) := HR.out
    clear HS HR
    go_enter Try.func7, Try.ntmps7
    go_wp2_with fail
    refine C.mono ?_
    rintro z w1 ⟨rfl, e1⟩
    go_wp2_with fail
    go_ret
    refine ⟨⟨none, 0, rfl, none, 0, by rw [HR2.out]; rfl, by rw [HR2.out]; exact Nat.le_refl _, fun h0 => by rw [HR2.out] at h0; simp at h0⟩, e1⟩
  · have HS2 : Hid (∀ W, Ext w W → Calls Try.prog 21 #[v] W fun z w' => z = .returned (ownV W.heap.size n) ∧ Vec w' W.heap.size ((stV (undos l) 0).map bV) ∧ Ext W w') := HS.out rfl
    have HR2 : Hid (standR l = stV (undos l) 0) := HR.out
    clear HS HR
    go_enter Try.func7, Try.ntmps7
    go_wp2_with fail
    refine C.mono ?_
    rintro z w1 ⟨rfl, e1⟩
    have CS := HS2.out w1 e1
    clear HS2 C
    go_wp2_with fail
    refine CS.mono ?_
    rintro z w2 ⟨rfl, V, e2⟩
    have HV : Hid (Vec w2 w1.heap.size ((stV (undos l) 0).map bV)) := V
    clear V CS
    go_wp2_with fail
    go_ret
    refine ⟨⟨some ⟨w1.heap.size, 0, none⟩, n, rfl, some ⟨w1.heap.size, 0, none⟩, n, by rw [HR2.out, HL.out], by rw [HR2.out, HL.out]; exact Nat.le_refl _, fun h0 => ⟨_, 0, rfl, fun i hi => ?_⟩⟩, xt e1 e2⟩
    rw [HR2.out] at hi ⊢
    rw [Nat.zero_add]
    refine (HV.out i _ ?_).1
    rw [List.getElem?_map, List.getElem?_eq_getElem hi, List.getD_eq_getElem?_getD, List.getElem?_eq_getElem hi]
    rfl
set_option maxRecDepth 8000 in
set_option maxHeartbeats 4000000 in
theorem undoS (v : Value) (l : List STP) (w : World) (h : StpsIn w v l) (hl : l.length ≤ 1048576) (hc : ∀ e ∈ l, e.ch.length ≤ 1048576) :
    Calls Try.prog 15 #[v] w fun z w' => z = .returned (.int .i64 (lastR isU l : Nat)) ∧ Ext w w' := by
  have C := stepsS v l w h hl hc
  have HG : Hid ((okL l l.length && decide (l.length ≤ 60)) = goodH l) := rfl
  rw [HG.out] at C
  have HS : Hid (goodH l = true → ∀ W, Ext w W → Calls Try.prog 21 #[v] W fun z w' => z = .returned (ownV W.heap.size l.length) ∧ Vec w' W.heap.size ((stV (undos l) 0).map bV) ∧ Ext W w') := fun hg W x => standS v l W (h.later x) (goodH_iff.1 hg).2 (goodH_iff.1 hg).1
  obtain ⟨q, hq⟩ : ∃ q, goodH l = q := ⟨_, rfl⟩
  have HU : Hid (q = true → ∀ (k : Nat) (e : STP), l[k]? = some e → 0 ≤ e.u) := fun ht k e he => (STP.ok_u (okL_step (goodH_iff.1 (hq.trans ht)).1 (List.getElem?_eq_some_iff.1 he).1 he)).1
  have HR : Hid (lastR isU l = if q then lastN (qB (undos l) (isU (undos l))) l.length else 0) := by show _ = _; unfold lastR; rw [hq]
  have HL : Hid ((stV (undos l) 0).length = l.length) := by show _ = _; rw [stV_length, undos_length]
  have h6 : q = true → l.length ≤ 60 := fun ht => (goodH_iff.1 (hq.trans ht)).2
  rw [hq] at C HS
  obtain ⟨p, cap, rfl, hcap, hrow⟩ := h
  obtain ⟨n, hn⟩ : ∃ n, l.length = n := ⟨_, rfl⟩
  have HN : Hid (l.length = n) := hn
  rw [hn] at HS HL hl HR hrow hcap h6 C ⊢
  have HRow : Hid (0 < n → ∃ b o, p = some ⟨b, o, none⟩ ∧ RowSt w b o l) := hrow
  clear hq hc HG hn hrow
  cases q
  · have HR2 : Hid (lastR isU l = 0) := HR.out
    clear HS h6 HR HU
    go_enter Try.func15, Try.ntmps15
    go_wp2_with fail
    refine C.mono ?_
    rintro z w1 ⟨rfl, e1⟩
    go_wp2_with fail
    go_ret
    exact ⟨by rw [HR2.out]; rfl, e1⟩
  · have h6' := h6 rfl
    have HS2 : Hid (∀ W, Ext w W → Calls Try.prog 21 #[.slice p n cap] W fun z w' => z = .returned (ownV W.heap.size n) ∧ Vec w' W.heap.size ((stV (undos l) 0).map bV) ∧ Ext W w') := HS.out rfl
    have HU2 : Hid (∀ (k : Nat) (e : STP), l[k]? = some e → 0 ≤ e.u) := HU.out rfl
    have HR2 : Hid (lastR isU l = lastN (qB (undos l) (isU (undos l))) n) := HR.out
    clear h6 HS HU HR
    go_enter Try.func15, Try.ntmps15
    go_wp2_with fail
    refine C.mono ?_
    rintro z w1 ⟨rfl, e1⟩
    have CS := HS2.out w1 e1
    clear HS2 C
    go_wp2_with fail
    refine CS.mono ?_
    rintro z w2 ⟨rfl, V, e2⟩
    obtain ⟨g, hg⟩ : ∃ g, w1.heap.size = g := ⟨_, rfl⟩
    rw [hg] at V
    have HV : Hid (Vec w2 g ((stV (undos l) 0).map bV)) := V
    have X2 := xt e1 e2
    clear V CS
    simp only [hg]
    clear hg
    go_wp2_with fail
    go_loopw [3, 12] (fun s j wr => ∃ k m : Nat, k ≤ n ∧ m ≤ k ∧ j = .int .i64 k ∧ s = .int .i64 (m : Int) ∧ Hid (m = lastN (qB (undos l) (isU (undos l))) k) ∧ Ext w2 wr) (fun _ j _ => n - (intOf j).toNat)
    case atStart => exact ⟨0, 0, by omega, by omega, rfl, rfl, rfl, xr _⟩
    case round =>
      obtain ⟨k, m, hk, hm, rfl, rfl, HM, X⟩ := hrel
      by_cases hlt : k < n
      · obtain ⟨e, he⟩ : ∃ e, l[k]? = some e := ⟨_, List.getElem?_eq_getElem (by rw [HN.out]; exact hlt)⟩
        obtain ⟨b, o, rfl, hRw⟩ := HRow.out (by omega)
        obtain ⟨cv, _, a0, _⟩ := (hRw.later (xt X2 X)) k e he
        have hu := HU2.out k e he
        obtain ⟨tb, htb⟩ : ∃ tb, (stV (undos l) 0)[k]? = some tb := ⟨_, List.getElem?_eq_getElem (by rw [HL.out]; exact hlt)⟩
        have c1 := ((HV.out.later X) k (bV tb) (by rw [List.getElem?_map, htb]; rfl)).1
        have HST : Hid (lastN (qB (undos l) (isU (undos l))) (k + 1) = if tb && e.u.toNat == 0 then k + 1 else m) := by
          show (if qB (undos l) (isU (undos l)) k then k + 1 else lastN (qB (undos l) (isU (undos l))) k) = _
          rw [← HM.out]
          have : qB (undos l) (isU (undos l)) k = (tb && e.u.toNat == 0) := by
            unfold qB isU
            rw [undos_getD he, List.getD_eq_getElem?_getD, htb]
            rfl
          rw [this]
        obtain ⟨u, ech⟩ := e
        dsimp only at a0 hu HST
        have i3 : (k : Int) < (n : Int) := by omega
        clear hRw he htb
        cases tb
        · have HZ : Hid (m = lastN (qB (undos l) (isU (undos l))) (k + 1)) := by show _ = _; rw [HST.out]; rfl
          clear HM HST
          go_wp2_with fail
          go_roundw
          case rel => exact ⟨k + 1, m, by omega, by omega, by go_num, rfl, HZ, X⟩
          case measure => simp [intOf]; omega
        · by_cases hu0 : u = 0
          · subst hu0
            have HZ : Hid (k + 1 = lastN (qB (undos l) (isU (undos l))) (k + 1)) := by show _ = _; rw [HST.out]; rfl
            clear HM HST
            go_wp2_with fail
            go_roundw
            case rel => exact ⟨k + 1, k + 1, by omega, by omega, by go_num, by go_num, HZ, X⟩
            case measure => simp [intOf]; omega
          · have HZ : Hid (m = lastN (qB (undos l) (isU (undos l))) (k + 1)) := by
              show _ = _
              have : (u.toNat == 0) = false := by simp; omega
              rw [HST.out, this]
              rfl
            have hu' : (u == 0) = false := by simpa using hu0
            clear HM HST
            go_wp2_with fail
            go_roundw
            case rel => exact ⟨k + 1, m, by omega, by omega, by go_num, rfl, HZ, X⟩
            case measure => simp [intOf]; omega
      · obtain rfl : k = n := by omega
        have HF : Hid (lastR isU l = m) := by show _ = _; rw [HR2.out]; exact HM.out.symm
        clear HM HR2
        go_wp2_with fail
        go_ret
        exact ⟨congrArg (fun z : Nat => Ending.returned (Value.int .i64 (z : Int))) HF.out.symm, xt X2 X⟩
set_option maxRecDepth 8000 in
set_option maxHeartbeats 4000000 in
theorem redoS (v : Value) (l : List STP) (w : World) (h : StpsIn w v l) (hl : l.length ≤ 1048576) (hc : ∀ e ∈ l, e.ch.length ≤ 1048576) :
    Calls Try.prog 17 #[v] w fun z w' => z = .returned (.int .i64 (lastR isR l : Nat)) ∧ Ext w w' := by
  have C := stepsS v l w h hl hc
  have HG : Hid ((okL l l.length && decide (l.length ≤ 60)) = goodH l) := rfl
  rw [HG.out] at C
  have HS : Hid (goodH l = true → ∀ W, Ext w W → Calls Try.prog 21 #[v] W fun z w' => z = .returned (ownV W.heap.size l.length) ∧ Vec w' W.heap.size ((stV (undos l) 0).map bV) ∧ Ext W w') := fun hg W x => standS v l W (h.later x) (goodH_iff.1 hg).2 (goodH_iff.1 hg).1
  obtain ⟨q, hq⟩ : ∃ q, goodH l = q := ⟨_, rfl⟩
  have HU : Hid (q = true → ∀ (k : Nat) (e : STP), l[k]? = some e → 0 ≤ e.u ∧ e.u ≤ k) := fun ht k e he => STP.ok_u (okL_step (goodH_iff.1 (hq.trans ht)).1 (List.getElem?_eq_some_iff.1 he).1 he)
  have HR : Hid (lastR isR l = if q then lastN (qB (undos l) (isR (undos l))) l.length else 0) := by show _ = _; unfold lastR; rw [hq]
  have HL : Hid ((stV (undos l) 0).length = l.length) := by show _ = _; rw [stV_length, undos_length]
  have h6 : q = true → l.length ≤ 60 := fun ht => (goodH_iff.1 (hq.trans ht)).2
  rw [hq] at C HS
  obtain ⟨p, cap, rfl, hcap, hrow⟩ := h
  obtain ⟨n, hn⟩ : ∃ n, l.length = n := ⟨_, rfl⟩
  have HN : Hid (l.length = n) := hn
  rw [hn] at HS HL hl HR hrow hcap h6 C ⊢
  have HRow : Hid (0 < n → ∃ b o, p = some ⟨b, o, none⟩ ∧ RowSt w b o l) := hrow
  clear hq hc HG hn hrow
  cases q
  · have HR2 : Hid (lastR isR l = 0) := HR.out
    clear HS h6 HR HU
    go_enter Try.func17, Try.ntmps17
    go_wp2_with fail
    refine C.mono ?_
    rintro z w1 ⟨rfl, e1⟩
    go_wp2_with fail
    go_ret
    exact ⟨by rw [HR2.out]; rfl, e1⟩
  · have h6' := h6 rfl
    have HS2 : Hid (∀ W, Ext w W → Calls Try.prog 21 #[.slice p n cap] W fun z w' => z = .returned (ownV W.heap.size n) ∧ Vec w' W.heap.size ((stV (undos l) 0).map bV) ∧ Ext W w') := HS.out rfl
    have HU2 : Hid (∀ (k : Nat) (e : STP), l[k]? = some e → 0 ≤ e.u ∧ e.u ≤ k) := HU.out rfl
    have HR2 : Hid (lastR isR l = lastN (qB (undos l) (isR (undos l))) n) := HR.out
    clear h6 HS HU HR
    go_enter Try.func17, Try.ntmps17
    go_wp2_with fail
    refine C.mono ?_
    rintro z w1 ⟨rfl, e1⟩
    have CS := HS2.out w1 e1
    clear HS2 C
    go_wp2_with fail
    refine CS.mono ?_
    rintro z w2 ⟨rfl, V, e2⟩
    obtain ⟨g, hg⟩ : ∃ g, w1.heap.size = g := ⟨_, rfl⟩
    rw [hg] at V
    have HV : Hid (Vec w2 g ((stV (undos l) 0).map bV)) := V
    have X2 := xt e1 e2
    clear V CS
    simp only [hg]
    clear hg
    go_wp2_with fail
    go_loopw [3, 13] (fun s j wr => ∃ k m : Nat, k ≤ n ∧ m ≤ k ∧ j = .int .i64 k ∧ s = .int .i64 (m : Int) ∧ Hid (m = lastN (qB (undos l) (isR (undos l))) k) ∧ Ext w2 wr) (fun _ j _ => n - (intOf j).toNat)
    case atStart => exact ⟨0, 0, by omega, by omega, rfl, rfl, rfl, xr _⟩
    case round =>
      obtain ⟨k, m, hk, hm, rfl, rfl, HM, X⟩ := hrel
      by_cases hlt : k < n
      · obtain ⟨e, he⟩ : ∃ e, l[k]? = some e := ⟨_, List.getElem?_eq_getElem (by rw [HN.out]; exact hlt)⟩
        obtain ⟨b, o, rfl, hRw⟩ := HRow.out (by omega)
        obtain ⟨cv, _, a0, _⟩ := (hRw.later (xt X2 X)) k e he
        have hu := HU2.out k e he
        obtain ⟨tb, htb⟩ : ∃ tb, (stV (undos l) 0)[k]? = some tb := ⟨_, List.getElem?_eq_getElem (by rw [HL.out]; exact hlt)⟩
        have c1 := ((HV.out.later X) k (bV tb) (by rw [List.getElem?_map, htb]; rfl)).1
        have HST : Hid (lastN (qB (undos l) (isR (undos l))) (k + 1) = if tb && (e.u.toNat != 0 && (undos l).getD (e.u.toNat - 1) 0 == 0) then k + 1 else m) := by
          show (if qB (undos l) (isR (undos l)) k then k + 1 else lastN (qB (undos l) (isR (undos l))) k) = _
          rw [← HM.out]
          have : qB (undos l) (isR (undos l)) k = (tb && (e.u.toNat != 0 && (undos l).getD (e.u.toNat - 1) 0 == 0)) := by
            unfold qB isR
            rw [undos_getD he, List.getD_eq_getElem?_getD, htb]
            rfl
          rw [this]
        have HRw : Hid (RowSt wr b o l) := hRw.later (xt X2 X)
        obtain ⟨u, ech⟩ := e
        dsimp only at a0 hu HST
        have i3 : (k : Int) < (n : Int) := by omega
        clear hRw he htb
        by_cases hu0 : u = 0
        · subst hu0
          have HZ : Hid (m = lastN (qB (undos l) (isR (undos l))) (k + 1)) := by show _ = _; rw [HST.out]; cases tb <;> rfl
          clear HM HST
          cases tb
          all_goals
            go_wp2_with fail
            go_roundw
            case rel => exact ⟨k + 1, m, by omega, by omega, by go_num, rfl, HZ, X⟩
            case measure => simp [intOf]; omega
        · obtain ⟨y, rfl⟩ : ∃ y : Nat, u = (y : Int) + 1 := ⟨(u - 1).toNat, by omega⟩
          have hy : y < n := by omega
          obtain ⟨e2, he2⟩ : ∃ e, l[y]? = some e := ⟨_, List.getElem?_eq_getElem (by rw [HN.out]; exact hy)⟩
          obtain ⟨cv2, _, b0, _⟩ := HRw.out y e2 he2
          have hu2 := (HU2.out y e2 he2).1
          have e3 : (((y : Int) + 1).toNat != 0 && (undos l).getD (((y : Int) + 1).toNat - 1) 0 == 0) = (e2.u.toNat == 0) := by
            have h1 : ((y : Int) + 1).toNat = y + 1 := by omega
            rw [h1, Nat.add_sub_cancel, undos_getD he2]
            simp
          rw [e3] at HST
          obtain ⟨u2, ech2⟩ := e2
          dsimp only at b0 hu2 HST
          have i4 : (y : Int) < (n : Int) := by omega
          clear he2 e3 hu0 HRw
          cases tb
          · have HZ : Hid (m = lastN (qB (undos l) (isR (undos l))) (k + 1)) := by show _ = _; rw [HST.out]; rfl
            clear HM HST
            go_wp2_with fail
            go_roundw
            case rel => exact ⟨k + 1, m, by omega, by omega, by go_num, rfl, HZ, X⟩
            case measure => simp [intOf]; omega
          · have g1 : decide ((0 : Int) < (y : Int) + 1) = true := decide_eq_true (by omega)
            by_cases hu3 : u2 = 0
            · subst hu3
              have HZ : Hid (k + 1 = lastN (qB (undos l) (isR (undos l))) (k + 1)) := by show _ = _; rw [HST.out]; rfl
              clear HM HST
              go_wp2_with fail
              go_roundw
              case rel => exact ⟨k + 1, k + 1, by omega, by omega, by go_num, by go_num, HZ, X⟩
              case measure => simp [intOf]; omega
            · have HZ : Hid (m = lastN (qB (undos l) (isR (undos l))) (k + 1)) := by
                show _ = _
                have : (u2.toNat == 0) = false := by simp; omega
                rw [HST.out, this]
                rfl
              have hu' : (u2 == 0) = false := by simpa using hu3
              clear HM HST
              go_wp2_with fail
              go_roundw
              case rel => exact ⟨k + 1, m, by omega, by omega, by go_num, rfl, HZ, X⟩
              case measure => simp [intOf]; omega
      · obtain rfl : k = n := by omega
        have HF : Hid (lastR isR l = m) := by show _ = _; rw [HR2.out]; exact HM.out.symm
        clear HM HR2
        go_wp2_with fail
        go_ret
        exact ⟨congrArg (fun z : Nat => Ending.returned (Value.int .i64 (z : Int))) HF.out.symm, xt X2 X⟩

end Go.Proofs.Ytmpemgpfjopkgaa
