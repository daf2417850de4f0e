/-
  Chapter 15: the deeds that stand, from the last one on: what the iterator hands over.
-/
import Derived.Test.YtmpemgpfjopkgaaHs8
import Derived.Test.YtmpemgpfjopkgaaHs9
import Derived.Sort.LoopGhostIn
namespace Go.Proofs.Ytmpemgpfjopkgaa
open Go.RowKit Go.Shelf

attribute [local go_sem] Oper.semAt_some

theorem dnL_len (us : List Nat) : ∀ i, (dnL us i).length ≤ us.length := by
  induction us with
  | nil => intro i; simp [dnL]
  | cons u r ih =>
    intro i
    have e : dnL (u :: r) i = dnL r (i + 1) ++ (if tkB (stV r (i + 1)) r (i + 1) then [] else [i]) := rfl
    have := ih (i + 1)
    rw [e, List.length_append, List.length_cons]
    cases tkB (stV r (i + 1)) r (i + 1) <;> simp <;> omega
theorem Vec.below {n₀ b : Nat} {w w' : World} {l : List Value} (h : Vec w b l) (hb : b < n₀) (x : Below n₀ w w') : Vec w' b l := fun i v hi =>
  ⟨(x.cell (p := ⟨b, i, none⟩) hb).trans (h i v hi).1, (x.frozen (p := ⟨b, i, none⟩) hb).trans (h i v hi).2⟩
/-- A history that lies below n₀. -/
def HistB (n₀ : Nat) (w : World) (l : List STP) (bs : List Nat) : Prop := HistAt w l bs ∧ ∀ (i b : Nat), bs[i]? = some b → b < n₀
theorem HistB.below {n₀ : Nat} {w w' : World} {l : List STP} {bs : List Nat} (h : HistB n₀ w l bs) (x : Below n₀ w w') : HistB n₀ w' l bs := ⟨fun i b hb => by
  obtain ⟨e, cv, h1, h2, h3, h4⟩ := h.1 i b hb
  exact ⟨e, cv, h1, h2, h3, h4.below (h.2 i b hb) x⟩, h.2⟩
theorem HistAt.lt {w : World} {l : List STP} {bs : List Nat} (h : HistAt w l bs) {i b : Nat} (hb : bs[i]? = some b) : b < w.heap.size := by
  obtain ⟨e, cv, h1, h2, h3, h4⟩ := h i b hb
  exact World.block_lt_of_cell? _ _ (h4 0 _ rfl).1
theorem HistAt.toB {w : World} {l : List STP} {bs : List Nat} (h : HistAt w l bs) : HistB w.heap.size w l bs := ⟨h, fun _ _ hb => h.lt hb⟩
theorem SetM.walks {w w' : World} {b n : Nat} {s : Nat → Bool} (h : SetM w b n s) (k : KeepsWalks w w') : SetM w' b n s := by
  obtain ⟨D, ⟨es, ck, hb, F, hs, hD⟩, h2⟩ := h
  exact ⟨D, ⟨es, ck, k.same b _ hb rfl, F, hs, hD⟩, h2⟩
/-- What the set holds when the deeds from the k-th on are gone through. -/
def setS (us : List Nat) (k m : Nat) : Bool := decide (0 < m ∧ m ≤ us.length) && !tkB (stV (us.drop k) k) (us.drop k) m
theorem setS_start (us : List Nat) (m : Nat) : decide (0 < m ∧ m ≤ us.length) = setS us us.length m := by
  unfold setS
  rw [List.drop_eq_nil_of_le (Nat.le_refl _)]
  simp [stV, tkB]
theorem setS_here {us : List Nat} {k : Nat} (h : k < us.length) : setS us (k + 1) (k + 1) = !tkB (stV (us.drop (k + 1)) (k + 1)) (us.drop (k + 1)) (k + 1) := by
  unfold setS
  rw [decide_eq_true (by omega : 0 < k + 1 ∧ k + 1 ≤ us.length), Bool.true_and]
theorem setS_no {us : List Nat} {k u : Nat} (hu : us[k]? = some u) (h : tkB (stV (us.drop (k + 1)) (k + 1)) (us.drop (k + 1)) (k + 1) = true) (m : Nat) : setS us (k + 1) m = setS us k m := by
  unfold setS
  rw [tkB_at hu, h]
  simp
theorem setS_yes {us : List Nat} {k u : Nat} (hu : us[k]? = some u) (h : tkB (stV (us.drop (k + 1)) (k + 1)) (us.drop (k + 1)) (k + 1) = false) (m : Nat) : (setS us (k + 1) m && m != u) = setS us k m := by
  unfold setS
  rw [tkB_at hu, h]
  by_cases h1 : m = u
  · subst h1
    simp
  · have h2 : (m != u) = true := by simp [h1]
    have h3 : (u == m) = false := by simp; exact fun h => h1 h.symm
    rw [h2, h3]
    simp
/-- What is handed over: a deed by its number. -/
abbrev DeedN (n : Nat) := { i : Nat // i < n }
abbrev encD (bs : List Nat) {n : Nat} (x : DeedN n) : Array Value := #[.pointer (some ⟨bs.getD x.1 0, 0, none⟩)]
abbrev KpD (n₀ : Nat) (V V' : World) : Prop := Below n₀ V V' ∧ KeepsWalks V V'
abbrev numsD {n : Nat} (xs : List (DeedN n)) : List Nat := xs.map (·.1)
set_option maxRecDepth 100000 in
set_option maxHeartbeats 4000000 in
theorem standing_in (nF : Nat) (hn : 1 ≤ nF) (l0 n₀ n : Nat) (l : List STP) (bs us : List Nat) (hbl : bs.length = n) (hus : us = undos l) (hul : us.length = n) (h6 : n ≤ 60) (J Jx : List (DeedN n) → World → Prop)
    (hY : ∀ pre x V, J pre V → pre.length < n → YieldAt Fence.wide (nF - 1) Try.prog l0 (encD bs x) V fun e V' => (e = .returned (.bool true) ∧ J (pre ++ [x]) V' ∧ KpD n₀ V V') ∨ (e = .returned (.bool false) ∧ Jx (pre ++ [x]) V'))
    (W : World) (hJ : AbidesFrom W.heap.size J) (hH : HistB n₀ W l bs) (hn0 : n₀ ≤ W.heap.size) (h0 : J [] W) :
    CallsIn Fence.wide nF Try.prog 24 #[.pointer (ptrD bs n), .func (.yield l0) #[] #[]] W fun e W' => (∃ v, e = .returned v) ∧ ((∃ xs, numsD xs = dnL us 0 ∧ J xs W') ∨ (∃ pre, numsD pre <+: dnL us 0 ∧ Jx pre W')) := by
  have CN := numbersI l bs W hH.1 (by omega)
  rw [hbl] at CN
  have HH : Hid (HistB n₀ W l bs) := hH
  have HJ : Hid (AbidesFrom W.heap.size J) := hJ
  have HY : Hid (∀ pre x V, J pre V → pre.length < n → YieldAt Fence.wide (nF - 1) Try.prog l0 (encD bs x) V fun e V' => (e = .returned (.bool true) ∧ J (pre ++ [x]) V' ∧ KpD n₀ V V') ∨ (e = .returned (.bool false) ∧ Jx (pre ++ [x]) V')) := hY
  have HL : Hid (bs.length = n ∧ us = undos l ∧ us.length = n) := ⟨hbl, hus, hul⟩
  clear hH hJ hY hbl hus hul
  refine callsIn_of_wp Try.func24 rfl trivial ?_ rfl
  simp only [Try.ntmps24, List.size_toArray, List.length_cons, List.length_nil, Nat.reduceAdd, Nat.reduceSub, Array.replicate_succ, Array.replicate_zero, List.push_toArray, List.append_toArray, List.nil_append, List.cons_append]
  gi_wp2_with (refine ⟨trivial, ?_⟩; gi_at_call 32; refine (callsIn_wide.2 CN).mono ?_; rintro e w1 ⟨rfl, S1, e1⟩)
  have G1 : W.grownBy w1 none := ⟨e1.os, e1.tape, e1.output, e1.size, fun k hk _ => e1.block k hk⟩
  obtain ⟨B, hB⟩ : ∃ B, W.heap.size = B := ⟨_, rfl⟩
  have HB : Hid (W.heap.size = B) := hB
  have hnB : n₀ ≤ B := by omega
  have HS1 : Hid (SetM w1 B n (setS us n)) := by
    rw [hB] at S1
    exact S1.congr (fun m => by rw [← HL.out.2.2]; exact setS_start us m)
  have HJ1 : Hid (J [] w1) := HJ.out [] W w1 none h0 G1 (fun r e => by cases e)
  have B1 : Below n₀ W w1 := e1.mono hn0
  have hB1 : B ≤ w1.heap.size := by rw [← hB]; exact e1.size
  rw [hB]
  clear S1 CN G1 e1 h0 hB
  have hzm : ∀ W : World, (zeroValue 61).run Try.prog W = .ok (.agg #[]) W := fun W => Try.zeroValue61 W
  gi_loopg [0] n (fun gk s wr => ∃ pre : List (DeedN n), s = .pointer (ptrD bs gk) ∧ gk ≤ n ∧ Hid (numsD pre = dnL (us.drop gk) gk) ∧ Hid (SetM wr B n (setS us gk)) ∧ Hid (J pre wr) ∧ Hid (Below n₀ W wr) ∧ Hid (B ≤ wr.heap.size))
  case atStart => exact ⟨[], rfl, Nat.le_refl _, by show _ = _; rw [List.drop_eq_nil_of_le (by rw [HL.out.2.2]; exact Nat.le_refl _)]; rfl, HS1, HJ1, B1, hB1⟩
  case round =>
    clear HS1 HJ1 B1 hB1
    obtain ⟨pre, rfl, hgk, HP, HS, HJr, HX, HZ⟩ := hrel
    by_cases hg0 : gk = 0
    · subst hg0
      have HF : Hid (numsD pre = dnL us 0) := HP.out
      rw [ptrD_zero]
      clear HP
      gi_wp2
      go_end0
      exact ⟨⟨_, rfl⟩, .inl ⟨pre, HF.out, HJr.out⟩⟩
    · obtain ⟨k, rfl⟩ : ∃ k, gk = k + 1 := ⟨gk - 1, by omega⟩
      obtain ⟨b, hb⟩ : ∃ b, bs[k]? = some b := ⟨_, List.getElem?_eq_getElem (by rw [HL.out.1]; omega)⟩
      have HHr : Hid (HistB n₀ wr l bs) := HH.out.below HX.out
      obtain ⟨e, cv, he, u0, u1, V⟩ := HHr.out.1 k b hb
      have hbn := HHr.out.2 k b hb
      have hkn : k < n := by omega
      have hbg : bs.getD k 0 = b := by rw [List.getD_eq_getElem?_getD, hb]; rfl
      have HYk : Hid (∀ V, J pre V → YieldAt Fence.wide (nF - 1) Try.prog l0 #[.pointer (some ⟨b, 0, none⟩)] V fun e V' => (e = .returned (.bool true) ∧ J (pre ++ [⟨k, hkn⟩]) V' ∧ KpD n₀ V V') ∨ (e = .returned (.bool false) ∧ Jx (pre ++ [⟨k, hkn⟩]) V')) := fun V hV => by
        have hlen : pre.length < n := by
          have h1 := congrArg List.length HP.out
          have h2 := dnL_len (us.drop (k + 1)) (k + 1)
          rw [List.length_map] at h1
          rw [List.length_drop, HL.out.2.2] at h2
          omega
        have := HY.out pre ⟨k, hkn⟩ V hV hlen
        rw [show encD bs (⟨k, hkn⟩ : DeedN n) = #[.pointer (some ⟨b, 0, none⟩)] by unfold encD; rw [hbg]] at this
        exact this
      have c0 := (V 0 _ rfl).1
      have c2 := (V 2 _ rfl).1
      have c3 := (V 3 _ rfl).1
      rw [ptrD_succ hb]
      obtain ⟨q, hq⟩ : ∃ q, ptrD bs k = q := ⟨_, rfl⟩
      have HQ : Hid (ptrD bs k = q) := hq
      rw [hq] at c3
      obtain ⟨K, hK⟩ : ∃ K : Nat, k + 1 = K := ⟨_, rfl⟩
      have hKn : K ≤ 60 := by omega
      rw [hK] at c2
      have hkey := keyN (m := K) (by omega)
      obtain ⟨u, hu⟩ : ∃ u : Nat, e.u = (u : Int) := ⟨e.u.toNat, by omega⟩
      rw [hu] at c0
      have hu60 : u ≤ 60 := by omega
      have hkeyU := keyN (m := u) (by omega)
      have huk : us[k]? = some u := by rw [HL.out.2.1, undos_at he, hu]; simp
      obtain ⟨D, hown, hhas⟩ := HS.out
      obtain ⟨t, ht⟩ : ∃ t, tkB (stV (us.drop (k + 1)) (k + 1)) (us.drop (k + 1)) (k + 1) = t := ⟨_, rfl⟩
      have hhK : Maps.has D (.int .i64 (K : Int)) = !t := by rw [hhas K, ← hK, setS_here (by rw [HL.out.2.2]; omega), ht]
      have HHas : Hid (∀ m : Nat, Maps.has D (.int .i64 (m : Int)) = setS us (k + 1) m) := hhas
      have HT : Hid (tkB (stV (us.drop (k + 1)) (k + 1)) (us.drop (k + 1)) (k + 1) = t ∧ us[k]? = some u) := ⟨ht, huk⟩
      have HDn : Hid (dnL (us.drop k) k = dnL (us.drop (k + 1)) (k + 1) ++ (if t then [] else [k])) := by show _ = _; rw [dnL_at huk, ht]
      have GA : wr.grownBy (wr.alloc (.cells #[] 61)) none := World.grownBy_alloc _ _ none
      have HJ2 : Hid (J pre (wr.alloc (.cells #[] 61))) := HJ.out pre wr _ none HJr.out GA (fun r e => by cases e)
      have HX2 : Hid (Below n₀ W (wr.alloc (.cells #[] 61))) := HX.out.alloc (by have := HZ.out; omega) _
      have HZ2 : Hid (B ≤ (wr.alloc (.cells #[] 61)).heap.size) := by show _ ≤ _; rw [World.size_alloc]; have := HZ.out; omega
      have hown2 := hown.alloc (.cells #[] 61)
      have XA := x1 wr (.cells #[] 61)
      have C0 := cell_later XA c0
      have C3 := cell_later XA c3
      obtain ⟨wb, hwb⟩ : ∃ wb, wr.alloc (.cells #[] 61) = wb := ⟨_, rfl⟩
      rw [hwb] at HJ2 HX2 HZ2 hown2 C0 C3
      clear V he hq hb hhas ht huk GA HJr HX HZ HS u0 u1 hu XA
      cases t
      · simp only [Bool.not_false] at hhK
        have HP2 : Hid (numsD (pre ++ [(⟨k, hkn⟩ : DeedN n)]) = dnL (us.drop k) k) := by
          show _ = _
          rw [HDn.out]
          show List.map _ (pre ++ [_]) = _
          rw [List.map_append, show List.map (fun x : DeedN n => x.1) pre = _ from HP.out]
          rfl
        have HB2 : Hid (∀ w2, w2.ownsMap Try.prog 3 unitElem B n (D.del (.int .i64 (u : Int))) → wb.mapTurned w2 B → SetM w2 B n (setS us k) ∧ J pre w2 ∧ Below n₀ W w2 ∧ B ≤ w2.heap.size ∧ w2.cell? ⟨b, 3, none⟩ = some (.pointer q)) := fun w2 ho ht => by
          have hm : ∃ o : Obj, wb.heap[B]? = some o ∧ o.isWalk = true := by
            obtain ⟨es, ck, hm, _⟩ := hown2
            exact ⟨_, hm, rfl⟩
          obtain ⟨o, ho1, ho2⟩ := hm
          have hg := ht.grown
          refine ⟨SetM.congr ⟨_, ho, SetM.del_has HHas.out u⟩ (fun m => setS_yes HT.out.2 HT.out.1 m), ?_, ?_, ?_, ?_⟩
          · exact HJ.out pre wb w2 (some B) HJ2.out hg (fun r e => by cases e; exact ⟨by rw [HB.out]; exact Nat.le_refl _, o, ho1, ho2⟩)
          · exact HX2.out.grown hg (by have := HZ2.out; omega) (fun r e => by cases e; exact hnB)
          · exact Nat.le_trans HZ2.out hg.size
          · exact cell_kept C3 hg (fun r e => by cases e; exact ⟨o, ho1, Obj.not_cells_of_walk ho2⟩)
        gi_wp2_with (first
          | (gi_at_lookup; refine wpListIn_lookup_own_unit _ rfl _ _ 59 rfl 3 61 intK mapI_type (hzm _) B n D rfl hown _ _ rfl hkey ?_)
          | (gi_at_delete; refine wpListIn_delete_own _ rfl _ _ 59 3 rfl 61 intK mapI_type _ B n _ rfl hown2 _ _ rfl hkeyU ?_; intro w2 hown3 hturn3; obtain ⟨S2, J2, X2, Z2, C4⟩ := HB2.out w2 hown3 hturn3; have HS3 : Hid (SetM w2 B n (setS us k)) := S2; have HX3 : Hid (Below n₀ W w2) := X2; have HZ3 : Hid (B ≤ w2.heap.size) := Z2; obtain ⟨fn, tmps, assign, body, hy, hR⟩ := HYk.out w2 J2; clear S2 J2 X2 Z2 hown3 hturn3))
        refine hR.mono ?_
        rintro e W3 (⟨rfl, hJ3, hk3⟩ | ⟨rfl, hJx3⟩)
        · have C5 : W3.cell? ⟨b, 3, none⟩ = some (.pointer q) := (hk3.1.cell (p := ⟨b, 3, none⟩) hbn).trans C4
          have HJ3 : Hid (J (pre ++ [⟨k, hkn⟩]) W3) := hJ3
          have HS4 : Hid (SetM W3 B n (setS us k)) := HS3.out.walks hk3.2
          have HX4 : Hid (Below n₀ W W3) := HX3.out.trans hk3.1
          have HZ4 : Hid (B ≤ W3.heap.size) := Nat.le_trans HZ3.out hk3.1.size
          clear hJ3 hk3
          gi_wp2
          gi_roundg k
          case measure => omega
          case rel => exact ⟨pre ++ [⟨k, hkn⟩], congrArg Value.pointer HQ.out.symm, by omega, HP2, HS4, HJ3, HX4, HZ4⟩
        · have HJx : Hid (Jx (pre ++ [⟨k, hkn⟩]) W3) := hJx3
          clear hJx3
          gi_wp2
          refine bodyPost_ret (results_none rfl _ _ _) rfl ?_
          exact ⟨⟨_, rfl⟩, .inr ⟨_, by rw [HP2.out]; exact dnL_pre us k, HJx.out⟩⟩
      · simp only [Bool.not_true] at hhK
        have HP2 : Hid (numsD pre = dnL (us.drop k) k) := by show _ = _; rw [HDn.out]; simp; exact HP.out
        have HS2 : Hid (SetM wb B n (setS us k)) := SetM.congr ⟨D, hown2, HHas.out⟩ (fun m => setS_no HT.out.2 HT.out.1 m)
        gi_wp2_with (gi_at_lookup; refine wpListIn_lookup_own_unit _ rfl _ _ 59 rfl 3 61 intK mapI_type (hzm _) B n D rfl hown _ _ rfl hkey ?_)
        gi_roundg k
        case measure => omega
        case rel => exact ⟨pre, congrArg Value.pointer HQ.out.symm, by omega, HP2, HS2, HJ2, HX2, HZ2⟩

end Go.Proofs.Ytmpemgpfjopkgaa
