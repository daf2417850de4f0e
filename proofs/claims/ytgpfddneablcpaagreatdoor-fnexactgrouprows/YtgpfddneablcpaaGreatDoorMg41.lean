/-
  Several texts in one: E21, E22, E24.
-/
import Derived.Test.YtgpfddneablcpaaGreatDoorMg33
import Derived.Test.YtgpfddneablcpaaGreatDoorMg34
namespace Go.Proofs.YtgpfddneablcpaaGreatDoor
open Go.RowKit

set_option maxRecDepth 8000 in
set_option maxHeartbeats 2000000 in
theorem colsG (r c : Int) (v u : Value) (l : List Int) (w : World) (h : IntsIn w u l) (hl : l.length ≤ 1048576) :
  Calls Tryz.prog 18 #[grV r c v, u, .int .i64 4] w fun e w' => e = .returned (.bool (onceB c l && decide (l.length ≤ 4))) ∧ Ext w w' := by
 obtain ⟨p, cap, rfl, hcap, hi⟩ := h
 obtain ⟨n, hn⟩ : ∃ n, l.length = n := ⟨_, rfl⟩
 have HN : Hid (l.length = n) := hn
 have HI : Hid (0 < n → ∃ b o, p = some ⟨b, o, none⟩ ∧ ∀ i, i < n → w.cell? ⟨b, o + i, none⟩ = some (.int .i64 (l.getD i 0))) := by rw [← hn]; exact hi
 obtain ⟨R, hR⟩ : ∃ R, onceB c l = R := ⟨_, rfl⟩
 have HR : Hid (onceB c l = R) := hR
 rw [hR]
 rw [hn] at hcap hl ⊢
 have X0 := x1 w (.cells #[.int .i64 r, .int .i64 c, v] 31)
 have B0 := vec_made w [.int .i64 r, .int .i64 c, v] 31
 obtain ⟨u0, hu0⟩ : ∃ u, w.alloc (.cells #[.int .i64 r, .int .i64 c, v] 31) = u := ⟨_, rfl⟩
 change Vec (w.alloc (.cells #[.int .i64 r, .int .i64 c, v] 31)) _ _ at B0
 rw [hu0] at X0 B0
 clear hn hi hR
 go_enter Tryz.func18, Tryz.ntmps18
 go_wp2_with fail
 go_loopw [13] (fun i wr => ∃ k : Nat, k ≤ n ∧ i = .int .i64 k ∧ Hid (Ext u0 wr ∧ ∀ j, j < k → okAt c l j = true)) (fun i _ => n - (intOf i).toNat)
 case atStart => exact ⟨0, by omega, rfl, xr _, fun j hj => absurd hj (by omega)⟩
 case round =>
  obtain ⟨k, hk, rfl, HO⟩ := hrel
  by_cases hlt : k < n
  ·
   have i2 : (k : Int) < (n : Int) := by omega
   obtain ⟨b, o, rfl, hc⟩ := HI.out (by omega)
   have HC : Hid (∀ W, Ext w W → ∀ i, i < n → W.cell? ⟨b, o + i, none⟩ = some (.int .i64 (l.getD i 0))) := fun W hW i hi => cell_later hW (hc i hi)
   have c1 := HC.out wr (xt X0 HO.out.1) k hlt
   have a1 := ((B0.later HO.out.1) 1 _ rfl).1
   obtain ⟨x, hx⟩ : ∃ x, l.getD k 0 = x := ⟨_, rfl⟩
   have HX : Hid (l.getD k 0 = x) := hx
   rw [hx] at c1
   clear hx hc
   by_cases hb : x < 1 ∨ c < x
   ·
    have hr : R = false := by
     rw [← HR.out]
     refine onceB_false (i := k) (by rw [HN.out]; exact hlt) ?_
     unfold okAt
     rw [HX.out, decide_eq_true hb]
     rfl
    have HF : Hid (Ext w wr) := xt X0 HO.out.1
    subst hr
    by_cases h1 : x < 1
    ·
     have f1 : decide (x < 1) = true := decide_eq_true h1
     go_wp2_with fail
     go_ret
     exact ⟨rfl, HF.out⟩
    ·
     have f1 : decide (x < 1) = false := decide_eq_false h1
     have f2 : decide (x > c) = true := decide_eq_true (by omega)
     have f3 : decide (c < x) = true := decide_eq_true (by omega)
     go_wp2_with fail
     go_ret
     exact ⟨rfl, HF.out⟩
   ·
    have f1 : decide (x < 1) = false := decide_eq_false (by omega)
    have f2 : decide (x > c) = false := decide_eq_false (by omega)
    have f3 : decide (c < x) = false := decide_eq_false (by omega)
    have HB : Hid (¬ (x < 1 ∨ c < x)) := hb
    have kc : (k : Int) ≤ (cap : Int) := by omega
    clear hb
    go_wp2_with fail
    go_loopw [30] (fun i wq => ∃ j : Nat, j ≤ k ∧ i = .int .i64 j ∧ Hid (Ext u0 wq ∧ ∀ q, q < j → l.getD q 0 ≠ x)) (fun i _ => k - (intOf i).toNat)
    case atStart => exact ⟨0, by omega, rfl, HO.out.1, fun q hq => absurd hq (by omega)⟩
    case round =>
     obtain ⟨j, hj, rfl, HQ⟩ := hrel
     by_cases hjk : j < k
     ·
      have j2 : (j : Int) < (k : Int) := by omega
      have c2 := HC.out wr (xt X0 HQ.out.1) j (by omega)
      obtain ⟨y, hy⟩ : ∃ y, l.getD j 0 = y := ⟨_, rfl⟩
      have HY : Hid (l.getD j 0 = y) := hy
      rw [hy] at c2
      clear hy
      by_cases hxy : y = x
      ·
       subst hxy
       have hr : R = false := by
        rw [← HR.out]
        refine onceB_false (i := k) (by rw [HN.out]; exact hlt) ?_
        unfold okAt
        rw [HX.out, contains_at hjk (by rw [HN.out]; omega) HY.out]
        simp
       subst hr
       have HF : Hid (Ext w wr) := xt X0 HQ.out.1
       go_wp2_with fail
       go_ret
       exact ⟨rfl, HF.out⟩
      ·
       have HM : Hid (Ext u0 wr ∧ ∀ q, q < j + 1 → l.getD q 0 ≠ x) := ⟨HQ.out.1, fun q hq => by
        by_cases e : q = j
        ·
         subst e; rw [HY.out]; exact hxy
        ·
         exact HQ.out.2 q (by omega)⟩
       go_wp2_with fail
       go_roundw
       case rel => exact ⟨j + 1, by omega, by go_num, HM⟩
       case measure => simp [intOf]; omega
     ·
      obtain rfl : j = k := by omega
      have HM : Hid (Ext u0 wr ∧ ∀ q, q < j + 1 → okAt c l q = true) := ⟨HQ.out.1, fun q hq => by
       by_cases e : q = j
       ·
        subst e
        unfold okAt
        rw [HX.out, contains_none HQ.out.2, decide_eq_false HB.out]
        rfl
       ·
        exact HO.out.2 q (by omega)⟩
      go_wp2_with fail
      go_roundw
      case rel => exact ⟨j + 1, by omega, by go_num, HM⟩
      case measure => simp [intOf]; omega
  ·
   obtain rfl : k = n := by omega
   have hr : R = true := by
    rw [← HR.out]
    exact onceB_true fun i hi => HO.out.2 i (by rw [← HN.out]; exact hi)
   subst hr
   have HF : Hid (Ext w wr) := xt X0 HO.out.1
   have HD : Hid (decide ((k : Int) ≤ 4) = (true && decide (k ≤ 4))) := by show _ = _; rw [Bool.true_and]; exact decide_eq_decide.2 (by omega)
   go_wp2_with fail
   go_ret
   exact ⟨ret_bool HD.out, HF.out⟩

theorem grpB_alt (r c : Int) (l : List VT) (cl : List Int) : grpB r c l cl = (goodG r c l && (onceB c cl && decide (cl.length ≤ 4))) := by
 unfold grpB
 cases goodG r c l <;> cases onceB c cl <;> simp
set_option maxRecDepth 8000 in
set_option maxHeartbeats 2000000 in
/-- Where nothing is put together. -/
theorem specNone (r c : Int) (v u : Value) (l : List VT) (cl : List Int) (w : World) (h : ValsIn w v l) (hl : l.length ≤ 1048576) (hr : ∀ e ∈ l, e.t.length ≤ 2000000) (hu : IntsIn w u cl) (hc : cl.length ≤ 1048576) (hb : grpB r c l cl = false) :
  Calls Tryz.prog 5 #[grV r c v, u] w fun e w' => e = .returned (.slice none 0 0) ∧ Ext w w' := by
 rw [grpB_alt] at hb
 have X0 := x1 w (.cells #[.int .i64 r, .int .i64 c, v] 31)
 have B0 := vec_made w [.int .i64 r, .int .i64 c, v] 31
 obtain ⟨u0, hu0⟩ : ∃ u, w.alloc (.cells #[.int .i64 r, .int .i64 c, v] 31) = u := ⟨_, rfl⟩
 change Vec (w.alloc (.cells #[.int .i64 r, .int .i64 c, v] 31)) _ _ at B0
 rw [hu0] at X0 B0
 obtain ⟨a0, a1, a2⟩ := Vec.three B0
 have C0 := goodGS r c v l u0 (h.later X0) (by omega) hr
 have CO : Hid (∀ W, Ext w W → Calls Tryz.prog 18 #[grV r c v, u, .int .i64 4] W fun e w' => e = .returned (.bool (onceB c cl && decide (cl.length ≤ 4))) ∧ Ext W w') := fun W hW => colsG r c v u cl W (hu.later hW) hc
 clear h hr hu hl hc
 by_cases hg : goodG r c l = true
 ·
  rw [hg, Bool.true_and] at hb
  rw [hg] at C0
  rw [hb] at CO
  go_enter Tryz.func5, Tryz.ntmps5
  go_wp2_with fail
  refine C0.mono ?_
  rintro e w1 ⟨rfl, e1⟩
  obtain ⟨a0, a1, a2⟩ := Vec.three (B0.later e1)
  have C2 := CO.out w1 (xt X0 e1)
  go_wp2_with fail
  refine C2.mono ?_
  rintro e w2 ⟨rfl, e2⟩
  go_wp2_with fail
  go_ret
  exact ⟨rfl, xt X0 (xt e1 e2)⟩
 ·
  have hg' : goodG r c l = false := by simpa using hg
  rw [hg'] at C0
  go_enter Tryz.func5, Tryz.ntmps5
  go_wp2_with fail
  refine C0.mono ?_
  rintro e w1 ⟨rfl, e1⟩
  obtain ⟨a0, a1, a2⟩ := Vec.three (B0.later e1)
  go_wp2_with fail
  go_ret
  exact ⟨rfl, xt X0 e1⟩
set_option maxRecDepth 8000 in
set_option maxHeartbeats 2000000 in
/-- Where rows are put together. -/
theorem specSome (r c : Int) (v u : Value) (l : List VT) (cl : List Int) (w : World) (P : World → Value → World → Prop) (h : ValsIn w v l) (hl : l.length ≤ 1048576) (hr : ∀ e ∈ l, e.t.length ≤ 2000000) (hu : IntsIn w u cl) (hc : cl.length ≤ 1048576) (hb : grpB r c l cl = true)
  (CG : ∀ W, Ext w W → Calls Tryz.prog 19 #[grV r c v, u] W fun e w' => ∃ p n cp, e = .returned (.slice p n cp) ∧ P W (.slice p n cp) w' ∧ Ext W w') :
  Calls Tryz.prog 5 #[grV r c v, u] w fun e w' => ∃ W sv, e = .returned sv ∧ Ext w W ∧ P W sv w' ∧ Ext w w' := by
 rw [grpB_alt, Bool.and_eq_true] at hb
 have X0 := x1 w (.cells #[.int .i64 r, .int .i64 c, v] 31)
 have B0 := vec_made w [.int .i64 r, .int .i64 c, v] 31
 obtain ⟨u0, hu0⟩ : ∃ u, w.alloc (.cells #[.int .i64 r, .int .i64 c, v] 31) = u := ⟨_, rfl⟩
 change Vec (w.alloc (.cells #[.int .i64 r, .int .i64 c, v] 31)) _ _ at B0
 rw [hu0] at X0 B0
 obtain ⟨a0, a1, a2⟩ := Vec.three B0
 have C0 := goodGS r c v l u0 (h.later X0) (by omega) hr
 have CO : Hid (∀ W, Ext w W → Calls Tryz.prog 18 #[grV r c v, u, .int .i64 4] W fun e w' => e = .returned (.bool (onceB c cl && decide (cl.length ≤ 4))) ∧ Ext W w') := fun W hW => colsG r c v u cl W (hu.later hW) hc
 have HCG : Hid (∀ W, Ext w W → Calls Tryz.prog 19 #[grV r c v, u] W fun e w' => ∃ p n cp, e = .returned (.slice p n cp) ∧ P W (.slice p n cp) w' ∧ Ext W w') := CG
 clear h hr hu hl hc CG
 rw [hb.1] at C0
 rw [hb.2] at CO
 go_enter Tryz.func5, Tryz.ntmps5
 go_wp2_with fail
 refine C0.mono ?_
 rintro e w1 ⟨rfl, e1⟩
 obtain ⟨a0, a1, a2⟩ := Vec.three (B0.later e1)
 have C2 := CO.out w1 (xt X0 e1)
 go_wp2_with fail
 refine C2.mono ?_
 rintro e w2 ⟨rfl, e2⟩
 obtain ⟨a0, a1, a2⟩ := Vec.three (B0.later (xt e1 e2))
 have C3 := HCG.out w2 (xt X0 (xt e1 e2))
 go_wp2_with fail
 refine C3.mono ?_
 rintro e w3 ⟨p, n, cp, rfl, hP, e3⟩
 have HP : Hid (P w2 (.slice p n cp) w3) := hP
 clear hP C3 C2 C0
 go_wp2_with fail
 go_ret
 exact ⟨w2, _, rfl, xt X0 (xt e1 e2), HP.out, xt X0 (xt (xt e1 e2) e3)⟩

set_option maxRecDepth 8000 in
set_option maxHeartbeats 2000000 in
theorem markGroups (L : List GG) (g cap k0 : Nat) (w : World) (hL : L.length ≤ 2000) (hcap : L.length ≤ cap) (hC : GrCells w g L) (A : ApartG g L) (hM : MarkG w k0 L 0) (h1 : 1 ≤ k0) (h2 : k0 + sumM L ≤ 900000) (hs : ∀ x ∈ L, x.K.length ≤ 1048576 ∧ x.e.ns.length ≤ 1048576) :
  Calls Tryz.prog 14 #[.slice (some ⟨g, 0, none⟩) L.length cap, .int .i64 k0] w fun e w' => e = .returned (.int .i64 ((k0 + sumM L : Nat) : Int)) ∧ MarkG w' k0 L L.length ∧ GrCells w' g L ∧ OnlyG w w' L := by
 obtain ⟨n, hn⟩ : ∃ n, L.length = n := ⟨_, rfl⟩
 have HN : Hid (L.length = n) := hn
 have HA : Hid (ApartG g L ∧ ∀ x ∈ L, x.K.length ≤ 1048576 ∧ x.e.ns.length ≤ 1048576) := ⟨A, hs⟩
 have H0 : Hid (GrCells w g L ∧ MarkG w k0 L 0) := ⟨hC, hM⟩
 have HS : Hid (∀ i, sumM (L.take i) ≤ sumM L) := sumM_le L
 rw [hn] at hL hcap ⊢
 obtain ⟨S, hS⟩ : ∃ S, sumM L = S := ⟨_, rfl⟩
 have HSS : Hid (sumM L = S) := hS
 rw [hS] at h2 HS ⊢
 clear hn A hs hC hM hS
 go_enter Tryz.func14, Tryz.ntmps14
 go_wp2_with fail
 go_loopw [1, 5] (fun m i wr => ∃ (k q : Nat), k ≤ n ∧ i = .int .i64 k ∧ m = .int .i64 q ∧ q ≤ 900000 ∧ Hid (q = k0 + sumM (L.take k) ∧ GrCells wr g L ∧ MarkG wr k0 L k ∧ OnlyG w wr L)) (fun _ i _ => n - (intOf i).toNat)
 case atStart => exact ⟨0, k0, by omega, rfl, rfl, by omega, rfl, H0.out.1, H0.out.2, OnlyG.refl _ _⟩
 case round =>
  obtain ⟨k, q, hk, rfl, rfl, hq, HO⟩ := hrel
  by_cases hlt : k < n
  ·
   have i2 : (k : Int) < (n : Int) := by omega
   obtain ⟨x, hx⟩ : ∃ x, L[k]? = some x := ⟨_, List.getElem?_eq_getElem (by rw [HN.out]; exact hlt)⟩
   obtain ⟨hq0, hc, hm, ho⟩ := HO.out
   have hxm := HA.out.2 x (List.mem_of_getElem? hx)
   obtain ⟨c0, c1⟩ := hc k x hx
   obtain ⟨⟨M, hrow⟩, Nn, hnum, hnl⟩ := (hm k x hx).2 (Nat.le_refl _)
   have ht := sumM_take hx
   have hle := HS.out (k + 1)
   have CV := markVals x.kv x.K.length M q wr hrow hxm.1 (by omega) (by omega)
   have HX : Hid (L[k]? = some x ∧ GrCells wr g L ∧ MarkG wr k0 L k ∧ OnlyG w wr L ∧ q = k0 + sumM (L.take k) ∧ sumM (L.take (k + 1)) = sumM (L.take k) + (x.K.length * 5 + x.e.ns.length)) := ⟨hx, hc, hm, ho, hq0, ht⟩
   have HNum : Hid (NumsAt wr x.e.sl Nn ∧ Nn.length = x.e.ns.length) := ⟨hnum, hnl⟩
   have hq1 : q + x.K.length * 5 ≤ 900000 := by omega
   have hq2 : q + x.K.length * 5 + x.e.ns.length ≤ 900000 := by omega
   obtain ⟨kv, hkv⟩ : ∃ v, x.kv = v := ⟨_, rfl⟩
   obtain ⟨sl, hsl⟩ : ∃ v, x.e.sl = v := ⟨_, rfl⟩
   have HKS : Hid (x.kv = kv ∧ x.e.sl = sl) := ⟨hkv, hsl⟩
   rw [hkv] at c0 CV
   rw [hsl] at c1
   obtain ⟨q1, hqq1⟩ : ∃ q1, q + x.K.length * 5 = q1 := ⟨_, rfl⟩
   rw [hqq1] at CV hq1 hq2
   have HQ1 : Hid (q + x.K.length * 5 = q1) := hqq1
   clear hx hc hm ho hq0 ht hrow hnum hkv hsl hqq1 HO hle
   go_wp2_with fail
   refine CV.mono ?_
   rintro e w1 ⟨rfl, hM1, G1⟩
   have hgne : some g ≠ (if x.K.length = 0 then none else kv.ownBlock) := fun e => by
    split at e
    ·
     cases e
    ·
     have := (HA.out.1.own k x HX.out.1).1
     rw [HKS.out.1] at this
     exact this e.symm
   have c1' : w1.cell? ⟨g, k * 2 + 1, none⟩ = some sl := by
    have := (cells_kept HX.out.2.1 G1 hgne k x HX.out.1).2
    rw [HKS.out.2] at this
    exact this
   have hxm2 := (HA.out.2 x (List.mem_of_getElem? HX.out.1)).2
   have CN := markNumsG sl Nn x.e.ns.length q1 w1 (by
    have := HNum.out.1
    rw [HKS.out.2] at this
    refine this.keep G1 (fun b _ hb e => ?_)
    split at e
    ·
     cases e
    ·
     have h3 := (HA.out.1.own k x HX.out.1).2.2
     rw [HKS.out.1, ← e] at h3
     have : x.e.g = b := by rw [← HKS.out.2] at hb; simpa [Value.ownBlock] using hb
     exact h3 (by rw [this])) HNum.out.2 hxm2 (by have h5 := HX.out.2.2.2.2.1; have h6 := HQ1.out; omega) (by omega)
   have HM1 : Hid ((∃ M, RowAt w1 kv x.K.length M ∧ MarkedV M q x.K.length) ∧ wr.grownBy w1 (if x.K.length = 0 then none else kv.ownBlock)) := ⟨hM1, G1⟩
   obtain ⟨q2, hqq2⟩ : ∃ q2, q1 + x.e.ns.length = q2 := ⟨_, rfl⟩
   rw [hqq2] at CN hq2
   have HQ2 : Hid (q1 + x.e.ns.length = q2) := hqq2
   clear c0 c1 CV hM1 G1 hgne hqq2
   go_wp2_with fail
   refine CN.mono ?_
   rintro e w2 ⟨rfl, hN2, G2⟩
   have HF : Hid (q2 = k0 + sumM (L.take (k + 1)) ∧ GrCells w2 g L ∧ MarkG w2 k0 L (k + 1) ∧ OnlyG w w2 L) := by
    obtain ⟨hx, hc, hm, ho, hq0, ht⟩ := HX.out
    obtain ⟨e1, e2⟩ := HKS.out
    have A := HA.out.1
    have r1 : ∀ b, (if x.K.length = 0 then none else kv.ownBlock) = some b → x.kv.ownBlock = some b := fun b hb => by
     split at hb
     ·
      cases hb
     ·
      rw [e1]; exact hb
    have r2 : ∀ b, (if x.e.ns.length = 0 then none else sl.ownBlock) = some b → x.e.g = b := fun b hb => by
     split at hb
     ·
      cases hb
     ·
      rw [← e2] at hb; simpa [Value.ownBlock] using hb
    refine ⟨by have := HQ1.out; have := HQ2.out; omega, ?_, ?_, ?_⟩
    ·
     refine cells_kept (cells_kept hc HM1.out.2 (fun e => (A.own k x hx).1 (r1 g e.symm))) G2 (fun e => (A.own k x hx).2.1 (r2 g e.symm))
    ·
     refine hm.step A hx ?_ HM1.out.2 r1 ?_ G2 r2
     ·
      rw [e1, ← hq0]; exact HM1.out.1
     ·
      rw [e2, ← hq0, HQ1.out]; exact hN2
    ·
     exact (ho.grown HM1.out.2 (fun b hb => ⟨x, List.mem_of_getElem? hx, Or.inl (r1 b hb)⟩)).grown G2 (fun b hb => ⟨x, List.mem_of_getElem? hx, Or.inr (r2 b hb)⟩)
   clear CN hN2 G2 HM1 c1'
   go_wp2_with fail
   go_roundw
   case rel => exact ⟨k + 1, q2, by omega, by go_num, rfl, hq2, HF⟩
   case measure => simp [intOf]; omega
  ·
   obtain rfl : k = n := by omega
   have i2 : ¬ (k : Int) < (k : Int) := by omega
   have HF : Hid (q = k0 + S) := by
    have := HO.out.1
    rw [List.take_of_length_le (by rw [HN.out]; exact Nat.le_refl _), HSS.out] at this
    exact this
   go_wp2_with fail
   go_ret
   exact ⟨ret_int (by have := HF.out; omega), HO.out.2.2.1, HO.out.2.1, HO.out.2.2.2⟩

end Go.Proofs.YtgpfddneablcpaaGreatDoor

