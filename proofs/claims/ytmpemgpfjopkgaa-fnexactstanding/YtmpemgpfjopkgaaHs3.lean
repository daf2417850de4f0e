/-
  Chapter 15: steps as said, on both sides.
-/
import Derived.Test.YtmpemgpfjopkgaaHs2
import Derived.Test.YtmpemgpfjopkgaaRef
import Derived.BigQuiet
import Derived.Deep.QuietTactic
namespace Go.Proofs.Ytmpemgpfjopkgaa
open Go.RowKit

/-- A change's place is good. -/
def CH.ok (c : CH) : Bool := goodRB c.r c.c
/-- A step is as said, i others ahead of it. -/
def STP.ok (e : STP) (i : Nat) : Bool := if e.u = 0 then (decide (1 ≤ e.ch.length) && decide (e.ch.length ≤ 20)) && e.ch.all CH.ok else (decide (0 < e.u) && decide (e.u ≤ (i : Int))) && decide (e.ch.length = 0)
/-- The first k steps are as said. -/
def okL (l : List STP) : Nat → Bool
  | 0 => true
  | k + 1 => okL l k && ((l[k]?).map (fun e => e.ok k)).getD true
theorem okL_at {l : List STP} {k : Nat} {e : STP} (h : l[k]? = some e) : okL l (k + 1) = (okL l k && e.ok k) := by
  show (okL l k && ((l[k]?).map (fun e => e.ok k)).getD true) = _
  rw [h]
  rfl
theorem okL_le {l : List STP} {n : Nat} (h : okL l n = true) : ∀ k, k ≤ n → okL l k = true := by
  induction n with
  | zero => intro k hk; obtain rfl : k = 0 := by omega
            exact h
  | succ n ih =>
    intro k hk
    have h1 : okL l n = true := by
      have : (okL l n && ((l[n]?).map (fun e => e.ok n)).getD true) = true := h
      exact (Bool.and_eq_true_iff.1 this).1
    by_cases e : k = n + 1
    · subst e; exact h
    · exact ih h1 k (by omega)
theorem okL_bad {l : List STP} {n : Nat} : ∀ k, k ≤ n → okL l k = false → okL l n = false := fun k hk h => by
  cases hn : okL l n
  · rfl
  · rw [okL_le hn k hk] at h; exact absurd h (by decide)
theorem okL_step {l : List STP} {n k : Nat} {e : STP} (h : okL l n = true) (hk : k < n) (he : l[k]? = some e) : e.ok k = true := by
  have := okL_le h (k + 1) hk
  rw [okL_at he] at this
  exact (Bool.and_eq_true_iff.1 this).2
/-- What is taken back, step by step. -/
def undos (l : List STP) : List Nat := l.map fun e => e.u.toNat
theorem undos_at {l : List STP} {k : Nat} {e : STP} (h : l[k]? = some e) : (undos l)[k]? = some e.u.toNat := by
  unfold undos
  rw [List.getElem?_map, h]
  rfl
theorem undos_length (l : List STP) : (undos l).length = l.length := by simp [undos]
theorem STP.ok_u {e : STP} {i : Nat} (h : e.ok i = true) : 0 ≤ e.u ∧ e.u ≤ i := by
  unfold STP.ok at h
  split at h
  · omega
  · simp at h
    omega

set_option maxHeartbeats 1000000 in
theorem spotH (r c : Int) (t : List UInt8) (w : World) :
    Calls Try.prog 39 #[changeV r c t] w fun e w' => e = .returned (.agg #[.int .i64 r, .int .i64 c]) ∧ Ext w w' := by
  obtain ⟨u0, u1, h0, h1, s0, s1, B0, B1, X⟩ := mkB2 w [.int .i64 r, .int .i64 c, sV t] [.int .i64 0, .int .i64 0] 53 72
  have a0 := (B0 0 _ rfl).1
  have a1 := (B0 1 _ rfl).1
  have k0 := (B1 0 _ rfl).1
  have k1 := (B1 1 _ rfl).1
  have f0 := (B1 0 _ rfl).2
  have f1 := (B1 1 _ rfl).2
  have G1 : Vec ((u1.setCell ⟨w.heap.size + 1, 0, none⟩ (.int .i64 r)).setCell ⟨w.heap.size + 1, 1, none⟩ (.int .i64 c)) (w.heap.size + 1) [.int .i64 r, .int .i64 c] := (B1.put 0 (by simp) _).put 1 (by simp) _
  have XD := xset (xset X (p := ⟨w.heap.size + 1, 0, none⟩) (by show _ ≤ w.heap.size + 1; omega) (.int .i64 r)) (p := ⟨w.heap.size + 1, 1, none⟩) (by show _ ≤ w.heap.size + 1; omega) (.int .i64 c)
  obtain ⟨wd, hd⟩ : ∃ wd, (u1.setCell ⟨w.heap.size + 1, 0, none⟩ (.int .i64 r)).setCell ⟨w.heap.size + 1, 1, none⟩ (.int .i64 c) = wd := ⟨_, rfl⟩
  rw [hd] at G1 XD
  have p0 := (G1 0 _ rfl).1
  have p1 := (G1 1 _ rfl).1
  clear G1 B0 B1 X
  go_enter Try.func39, Try.ntmps39
  go_wp2_with fail
  exact bodyPost_ret (v := .agg #[.int .i64 r, .int .i64 c]) (by simp [results, Try.results39, go_sem, p0, p1]) rfl ⟨rfl, XD⟩
set_option maxHeartbeats 1000000 in
theorem refH (r c : Int) (w : World) :
    Calls Try.prog 40 #[.agg #[.int .i64 r, .int .i64 c]] w fun e w' => e = .returned (refV r c false false) ∧ Ext w w' := by
  obtain ⟨u0, u1, h0, h1, s0, s1, B0, B1, X⟩ := mkB2 w [.int .i64 r, .int .i64 c] [.int .i64 0, .int .i64 0, .bool false, .bool false] 72 69
  have a0 := (B0 0 _ rfl).1
  have a1 := (B0 1 _ rfl).1
  have k0 := (B1 0 _ rfl).1
  have k1 := (B1 1 _ rfl).1
  have k2 := (B1 2 _ rfl).1
  have k3 := (B1 3 _ rfl).1
  have f0 := (B1 0 _ rfl).2
  have f1 := (B1 1 _ rfl).2
  have f2 := (B1 2 _ rfl).2
  have f3 := (B1 3 _ rfl).2
  have G1 : Vec ((((u1.setCell ⟨w.heap.size + 1, 0, none⟩ (.int .i64 r)).setCell ⟨w.heap.size + 1, 1, none⟩ (.int .i64 c)).setCell ⟨w.heap.size + 1, 2, none⟩ (.bool false)).setCell ⟨w.heap.size + 1, 3, none⟩ (.bool false)) (w.heap.size + 1) [.int .i64 r, .int .i64 c, .bool false, .bool false] := (((B1.put 0 (by simp) _).put 1 (by simp) _).put 2 (by simp) _).put 3 (by simp) _
  have XD := xset (xset (xset (xset X (p := ⟨w.heap.size + 1, 0, none⟩) (by show _ ≤ w.heap.size + 1; omega) (.int .i64 r)) (p := ⟨w.heap.size + 1, 1, none⟩) (by show _ ≤ w.heap.size + 1; omega) (.int .i64 c)) (p := ⟨w.heap.size + 1, 2, none⟩) (by show _ ≤ w.heap.size + 1; omega) (.bool false)) (p := ⟨w.heap.size + 1, 3, none⟩) (by show _ ≤ w.heap.size + 1; omega) (.bool false)
  obtain ⟨wd, hd⟩ : ∃ wd, (((u1.setCell ⟨w.heap.size + 1, 0, none⟩ (.int .i64 r)).setCell ⟨w.heap.size + 1, 1, none⟩ (.int .i64 c)).setCell ⟨w.heap.size + 1, 2, none⟩ (.bool false)).setCell ⟨w.heap.size + 1, 3, none⟩ (.bool false) = wd := ⟨_, rfl⟩
  rw [hd] at G1 XD
  obtain ⟨p0, p1, p2, p3⟩ := Vec.four G1
  clear G1 B0 B1 X
  go_enter Try.func40, Try.ntmps40
  go_wp2_with fail
  exact bodyPost_ret (v := refV r c false false) (by simp [results, Try.results40, go_sem, p0, p1, p2, p3]) rfl ⟨rfl, XD⟩
set_option maxHeartbeats 1000000 in
theorem placeS (r c : Int) (w : World) :
    Calls Try.prog 28 #[.int .i64 r, .int .i64 c] w fun e w' => e = .returned (.bool (goodRB r c)) ∧ Ext w w' := by
  go_enter Try.func28, Try.ntmps28
  go_wp2_with fail
  refine (goodRS r c false false w).mono ?_
  rintro e w1 ⟨rfl, e1⟩
  go_wp2_with fail
  go_ret
  exact ⟨rfl, e1⟩
set_option maxRecDepth 8000 in
set_option maxHeartbeats 4000000 in
theorem isGoodI (e : STP) (cv : Value) (i : Nat) (w : World) (h : ChangesIn w cv e.ch) (hl : e.ch.length ≤ 1048576) :
    Calls Try.prog 30 #[stepV e.u cv, .int .i64 i] w fun z w' => z = .returned (.bool (e.ok i)) ∧ Ext w w' := by
  obtain ⟨u, l⟩ := e
  dsimp only at h hl ⊢
  obtain ⟨p, cap, rfl, hcap, hrow⟩ := h
  obtain ⟨n, hn⟩ : ∃ n, l.length = n := ⟨_, rfl⟩
  have HN : Hid (l.length = n) := hn
  rw [hn] at hl hcap hrow ⊢
  have HRow : Hid (0 < n → ∃ b o, p = some ⟨b, o, none⟩ ∧ RowCh w b o l) := hrow
  have X0 := x1 w (.cells #[.int .i64 u, .slice p n cap] 41)
  have B0 := vec_made w [.int .i64 u, .slice p n cap] 41
  change Vec (w.alloc (.cells #[.int .i64 u, .slice p n cap] 41)) _ _ at B0
  obtain ⟨wa, ha⟩ : ∃ wa, w.alloc (.cells #[.int .i64 u, .slice p n cap] 41) = wa := ⟨_, rfl⟩
  rw [ha] at X0 B0
  have a0 := (B0 0 _ rfl).1
  have a1 := (B0 1 _ rfl).1
  clear hrow
  by_cases hu : u = 0
  · subst hu
    have HO : Hid ((STP.mk 0 l).ok i = ((decide (1 ≤ n) && decide (n ≤ 20)) && l.all CH.ok)) := by
      show _ = _
      unfold STP.ok
      simp only [if_true, hn]
    clear hn
    go_enter Try.func30, Try.ntmps30
    go_wp2_with fail
    clear a0 a1 ha
    go_loopw [28] (fun j wr => ∃ k : Nat, k ≤ n ∧ j = .int .i64 k ∧ Hid ((l.take k).all CH.ok = true) ∧ Ext wa wr) (fun j _ => n - (intOf j).toNat)
    case atStart => exact ⟨0, by omega, rfl, by simp [Hid], xr _⟩
    case round =>
      obtain ⟨k, hk, rfl, HA, X⟩ := hrel
      by_cases hlt : k < n
      · obtain ⟨c, hc⟩ : ∃ c, l[k]? = some c := ⟨_, List.getElem?_eq_getElem (by rw [HN.out]; exact hlt)⟩
        obtain ⟨b, o, rfl, hR⟩ := HRow.out (by omega)
        obtain ⟨c0, c1, c2⟩ := (hR.later (xt X0 X)).all hc
        have HT : Hid ((l.take (k + 1)).all CH.ok = ((l.take k).all CH.ok && c.ok)) := by
          show _ = _
          rw [List.take_add_one, hc]
          simp
        have HM : Hid (c ∈ l) := List.mem_of_getElem? hc
        obtain ⟨cr, cc, ct⟩ := c
        have i2 : (k : Int) < (n : Int) := by omega
        have X1 := x1 wr (.cells #[.int .i64 cr, .int .i64 cc, sV ct] 53)
        have B1 := vec_made wr [.int .i64 cr, .int .i64 cc, sV ct] 53
        change Vec (wr.alloc (.cells #[.int .i64 cr, .int .i64 cc, sV ct] 53)) _ _ at B1
        obtain ⟨wb, hb⟩ : ∃ wb, wr.alloc (.cells #[.int .i64 cr, .int .i64 cc, sV ct] 53) = wb := ⟨_, rfl⟩
        rw [hb] at X1 B1
        obtain ⟨d0, d1, d2⟩ := Vec.three B1
        have hok : (CH.mk cr cc ct).ok = goodRB cr cc := rfl
        obtain ⟨q, hq⟩ : ∃ q, goodRB cr cc = q := ⟨_, rfl⟩
        have CG : Hid (∀ W, Calls Try.prog 38 #[.agg #[.int .i64 cr, .int .i64 cc, .bool false, .bool false]] W fun e w' => e = .returned (.bool q) ∧ Ext W w') := fun W => by rw [← hq]; exact goodRI cr cc false false W
        have HQ : Hid ((CH.mk cr cc ct).ok = q) := hq
        clear hR hc hok hq
        dsimp only at c0 c1 c2
        cases q
        all_goals
          go_wp2_with fail
          clear c0 c1 c2 hb
          refine (spotH cr cc ct wb).mono ?_
          rintro e w1 ⟨rfl, e1⟩
          go_wp2_with fail
          refine (refH cr cc w1).mono ?_
          rintro e w2 ⟨rfl, e2⟩
          go_wp2_with fail
          refine (CG.out w2).mono ?_
          rintro e w3 ⟨rfl, e3⟩
        · have HF : Hid ((STP.mk 0 l).ok i = false) := by
            show _ = _
            rw [HO.out]
            have : l.all CH.ok = false := by
              rw [Bool.eq_false_iff]
              intro h
              have := List.all_eq_true.1 h _ HM.out
              rw [HQ.out] at this
              exact absurd this (by decide)
            rw [this, Bool.and_false]
          clear d0 d1 d2
          go_wp2_with fail
          go_ret
          exact ⟨ret_bool HF.out.symm, xt X0 (xt X (xt X1 (xt e1 (xt e2 e3))))⟩
        · clear d0 d1 d2
          go_wp2_with fail
          go_roundw
          case rel => exact ⟨k + 1, by omega, by go_num, by show _ = _; rw [HT.out, HA.out, HQ.out]; rfl, xt X (xt X1 (xt e1 (xt e2 e3)))⟩
          case measure => simp [intOf]; omega
      · obtain rfl : k = n := by omega
        have HB : Hid (l.all CH.ok = true) := by
          have := HA.out
          rw [List.take_of_length_le (by rw [HN.out]; exact Nat.le_refl _)] at this
          exact this
        have B2 := B0.later X
        have a0 := (B2 0 _ rfl).1
        have a1 := (B2 1 _ rfl).1
        clear HA
        have HZ : Hid ((STP.mk 0 l).ok i = (decide (1 ≤ k) && decide (k ≤ 20))) := by
          show _ = _
          rw [HO.out, HB.out, Bool.and_true]
        by_cases h1 : 1 ≤ k
        · have g1 : decide ((0 : Int) < (k : Int)) = true := decide_eq_true (by omega)
          by_cases h2 : k ≤ 20
          · have HR : Hid ((STP.mk 0 l).ok i = true) := by show _ = _; rw [HZ.out]; simp [h1, h2]
            go_wp2_with fail
            go_ret
            exact ⟨ret_bool (by rw [HR.out]; try simp; try omega), xt X0 X⟩
          · have HR : Hid ((STP.mk 0 l).ok i = false) := by show _ = _; rw [HZ.out]; simp [h2]
            go_wp2_with fail
            go_ret
            exact ⟨ret_bool (by rw [HR.out]; try simp; try omega), xt X0 X⟩
        · obtain rfl : k = 0 := by omega
          have HR : Hid ((STP.mk 0 l).ok i = false) := by show _ = _; rw [HZ.out]; simp
          go_wp2_with fail
          go_ret
          exact ⟨ret_bool HR.out.symm, xt X0 X⟩
  · have HO : Hid ((STP.mk u l).ok i = ((decide (0 < u) && decide (u ≤ (i : Int))) && decide (n = 0))) := by
      show _ = _
      unfold STP.ok
      simp only [if_neg hu, hn]
    have hu' : (u == 0) = false := by simpa using hu
    clear hn
    by_cases h1 : 0 < u
    · by_cases h2 : u ≤ (i : Int)
      · by_cases h3 : n = 0
        · subst h3
          have HR : Hid ((STP.mk u l).ok i = true) := by show _ = _; rw [HO.out]; simp [h1, h2]
          go_enter Try.func30, Try.ntmps30
          go_wp2_with fail
          go_ret
          exact ⟨ret_bool HR.out.symm, X0⟩
        · have HR : Hid ((STP.mk u l).ok i = false) := by show _ = _; rw [HO.out]; simp [h3]
          have h3' : ((n : Int) == 0) = false := by simpa using h3
          go_enter Try.func30, Try.ntmps30
          go_wp2_with fail
          go_ret
          exact ⟨ret_bool HR.out.symm, X0⟩
      · have HR : Hid ((STP.mk u l).ok i = false) := by show _ = _; rw [HO.out]; simp [h2]
        go_enter Try.func30, Try.ntmps30
        go_wp2_with fail
        go_ret
        exact ⟨ret_bool HR.out.symm, X0⟩
    · have HR : Hid ((STP.mk u l).ok i = false) := by show _ = _; rw [HO.out]; simp [h1]
      go_enter Try.func30, Try.ntmps30
      go_wp2_with fail
      go_ret
      exact ⟨ret_bool HR.out.symm, X0⟩

end Go.Proofs.Ytmpemgpfjopkgaa
