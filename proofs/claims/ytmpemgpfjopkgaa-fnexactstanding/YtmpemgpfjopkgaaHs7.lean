/-
  Chapter 15: a history in memory: deeds linked by pointers; the set of numbers.
-/
import Derived.Test.YtmpemgpfjopkgaaHs6
import Derived.Deep.LoopGhost
import Derived.Maps.OwnIn
import Derived.RangeFuncOwn
namespace Go.Proofs.Ytmpemgpfjopkgaa
open Go.RowKit

/-- The way to the k-th deed: none for 0. -/
def ptrD (bs : List Nat) (k : Nat) : Option Addr := if k = 0 then none else (bs[k - 1]?).map fun b => ⟨b, 0, none⟩
theorem ptrD_zero (bs : List Nat) : ptrD bs 0 = none := rfl
theorem ptrD_succ {bs : List Nat} {k b : Nat} (h : bs[k]? = some b) : ptrD bs (k + 1) = some ⟨b, 0, none⟩ := by
  unfold ptrD
  rw [if_neg (by omega), Nat.add_sub_cancel, h]
  rfl
theorem ptrD_app {bs : List Nat} {k : Nat} (h : k ≤ bs.length) (b : Nat) : ptrD (bs ++ [b]) k = ptrD bs k := by
  unfold ptrD
  by_cases h0 : k = 0
  · rw [if_pos h0, if_pos h0]
  · rw [if_neg h0, if_neg h0, List.getElem?_append_left (by omega)]
/-- A deed's cells. -/
abbrev deedL (bs : List Nat) (i : Nat) (e : STP) (cv : Value) : List Value := [.int .i64 e.u, cv, .int .i64 ((i + 1 : Nat) : Int), .pointer (ptrD bs i), .pointer (ptrD bs e.u.toNat)]
/-- The first steps as deeds. -/
def HistAt (w : World) (l : List STP) (bs : List Nat) : Prop := ∀ (i b : Nat), bs[i]? = some b → ∃ e cv, l[i]? = some e ∧ 0 ≤ e.u ∧ e.u ≤ i ∧ Vec w b (deedL bs i e cv)
theorem HistAt.later {w w' : World} {l : List STP} {bs : List Nat} (h : HistAt w l bs) (x : Ext w w') : HistAt w' l bs := fun i b hb => by
  obtain ⟨e, cv, h1, h2, h3, h4⟩ := h i b hb
  exact ⟨e, cv, h1, h2, h3, h4.later x⟩
theorem HistAt.snoc {w : World} {l : List STP} {bs : List Nat} (h : HistAt w l bs) {b : Nat} {e : STP} {cv : Value} (he : l[bs.length]? = some e) (h0 : 0 ≤ e.u) (h1 : e.u ≤ (bs.length : Nat)) (hv : Vec w b (deedL bs bs.length e cv)) : HistAt w l (bs ++ [b]) := fun i c hc => by
  have hi : i < bs.length + 1 := by have := (List.getElem?_eq_some_iff.1 hc).1; simpa using this
  by_cases e1 : i = bs.length
  · subst e1
    rw [List.getElem?_append_right (Nat.le_refl _), Nat.sub_self] at hc
    cases hc
    refine ⟨e, cv, he, h0, h1, ?_⟩
    rw [show deedL (bs ++ [b]) bs.length e cv = deedL bs bs.length e cv by unfold deedL; rw [ptrD_app (Nat.le_refl _), ptrD_app (by omega)]]
    exact hv
  · rw [List.getElem?_append_left (by omega)] at hc
    obtain ⟨e', cv', g1, g2, g3, g4⟩ := h i c hc
    refine ⟨e', cv', g1, g2, g3, ?_⟩
    rw [show deedL (bs ++ [b]) i e' cv' = deedL bs i e' cv' by unfold deedL; rw [ptrD_app (by omega), ptrD_app (by omega)]]
    exact g4
set_option maxRecDepth 8000 in
set_option maxHeartbeats 2000000 in
theorem findI (l : List STP) (bs : List Nat) (m : Nat) (w : World) (h : HistAt w l bs) (hm : m ≤ bs.length) :
    Calls Try.prog 31 #[.pointer (ptrD bs bs.length), .int .i64 (m : Int)] w fun z w' => z = .returned (.pointer (ptrD bs m)) ∧ Ext w w' := by
  have HH : Hid (HistAt w l bs) := h
  obtain ⟨n, hn⟩ : ∃ n, bs.length = n := ⟨_, rfl⟩
  have HN : Hid (bs.length = n) := hn
  rw [hn] at hm ⊢
  clear h hn
  go_enter Try.func31, Try.ntmps31
  go_wp2_with fail
  go_loopg [0] n (fun gk s wr => s = .pointer (ptrD bs gk) ∧ m ≤ gk ∧ gk ≤ n ∧ Ext w wr)
  case atStart => exact ⟨rfl, hm, Nat.le_refl _, xr _⟩
  case round =>
    obtain ⟨rfl, h1, h2, X⟩ := hrel
    by_cases h0 : gk = 0
    · subst h0
      obtain rfl : m = 0 := by omega
      rw [ptrD_zero]
      go_wp2_with fail
      go_ret
      exact ⟨rfl, X⟩
    · obtain ⟨k, rfl⟩ : ∃ k, gk = k + 1 := ⟨gk - 1, by omega⟩
      obtain ⟨b, hb⟩ : ∃ b, bs[k]? = some b := ⟨_, List.getElem?_eq_getElem (by rw [HN.out]; omega)⟩
      obtain ⟨e, cv, he, u0, u1, V⟩ := HH.out k b hb
      have V := V.later X
      have c2 := (V 2 _ rfl).1
      have c3 := (V 3 _ rfl).1
      rw [ptrD_succ hb]
      by_cases hmk : m = k + 1
      · have HM : Hid (ptrD bs m = some ⟨b, 0, none⟩) := by show _ = _; rw [hmk]; exact ptrD_succ hb
        have g1 : (((k + 1 : Nat) : Int) == (m : Int)) = true := by rw [hmk]; simp
        have g2 : (((k + 1 : Nat) : Int) != (m : Int)) = false := by rw [hmk]; simp
        subst hmk
        clear V he g1 g2
        go_wp2_with fail
        go_ret
        exact ⟨congrArg (fun z => Ending.returned (Value.pointer z)) HM.out.symm, X⟩
      · obtain ⟨q, hq⟩ : ∃ q, ptrD bs k = q := ⟨_, rfl⟩
        have HQ : Hid (ptrD bs k = q) := hq
        rw [hq] at c3
        obtain ⟨K, hK⟩ : ∃ K : Int, ((k + 1 : Nat) : Int) = K := ⟨_, rfl⟩
        rw [hK] at c2
        have g1 : (K == (m : Int)) = false := by simp; omega
        have g2 : (K != (m : Int)) = true := by simp; omega
        clear V he hq hb hK
        go_wp2_with fail
        go_roundg k
        case measure => omega
        case rel => exact ⟨congrArg Value.pointer HQ.out.symm, by omega, by omega, X⟩

theorem intK : Maps.Keyed Try.prog 3 := Maps.int_keyed Try.underlying3
theorem mapI_type : Try.prog.underlying 59 = some (.map 3 61) := by kernel_rfl
theorem wfN {m : Nat} (h : m ≤ 1000) : (Lit.int .i64 (m : Int)).wf = true := by
  have m0 : IntKind.i64.min = -9223372036854775808 := by decide
  have m1 : IntKind.i64.max = 9223372036854775807 := by decide
  simp [Lit.wf, m0, m1]
  omega
theorem keyN {m : Nat} (h : m ≤ 1000) : keyOf Try.prog 3 (.int .i64 (m : Int)) = some (.int .i64 (m : Int)) := Maps.keyOf_int_mk Try.underlying3 (wfN h)
/-- A set of numbers, in a block. -/
def SetM (w : World) (b n : Nat) (s : Nat → Bool) : Prop := ∃ D : DataW Unit, w.ownsMap Try.prog 3 unitElem b n D ∧ ∀ m : Nat, Maps.has D (.int .i64 (m : Int)) = s m
theorem ownsMap_isMap {w : World} {P : Program} {k : TypeId} {R : Value → Option (DataW Unit × List MemPlace)} {b n : Nat} {D : DataW Unit} (h : w.ownsMap P k R b n D) : Maps.IsMap D := by
  obtain ⟨es, clock, _, _, _, rfl⟩ := h
  exact ⟨_, rfl⟩
theorem lit_ne {m m' : Nat} (h : m' ≠ m) : (Lit.int .i64 (m' : Int)) ≠ .int .i64 (m : Int) := fun e => by
  injection e with _ e2
  exact h (by omega)
theorem SetM.put_has {D : DataW Unit} {s : Nat → Bool} (hD : Maps.IsMap D) (h : ∀ m : Nat, Maps.has D (.int .i64 (m : Int)) = s m) (x : Nat) (d : DataW Unit) : ∀ m : Nat, Maps.has (D.put (.int .i64 (x : Int)) d) (.int .i64 (m : Int)) = (s m || m == x) := fun m => by
  by_cases e : m = x
  · subst e
    rw [Maps.has_put_same hD (show WideAt.IsKeyLit (.int .i64 (m : Int)) from trivial)]
    simp
  · rw [Maps.has_put_other (lit_ne e), h m]
    simp [e]
theorem SetM.del_has {D : DataW Unit} {s : Nat → Bool} (h : ∀ m : Nat, Maps.has D (.int .i64 (m : Int)) = s m) (x : Nat) : ∀ m : Nat, Maps.has (D.del (.int .i64 (x : Int))) (.int .i64 (m : Int)) = (s m && m != x) := fun m => by
  by_cases e : m = x
  · subst e
    rw [Maps.has_del_same]
    simp
  · rw [Maps.has_del_other (lit_ne e), h m]
    simp [e]
theorem SetM.kept {w w' : World} {b n : Nat} {s : Nat → Bool} {row : Option Nat} (h : SetM w b n s) (hg : w.grownBy w' row) (hne : some b ≠ row) : SetM w' b n s := by
  obtain ⟨D, h1, h2⟩ := h
  exact ⟨D, h1.kept hg hne, h2⟩
theorem SetM.congr {w : World} {b n : Nat} {s s' : Nat → Bool} (h : SetM w b n s) (e : ∀ m, s m = s' m) : SetM w b n s' := by
  obtain ⟨D, h1, h2⟩ := h
  exact ⟨D, h1, fun m => (h2 m).trans (e m)⟩
theorem SetM.lt {w : World} {b n : Nat} {s : Nat → Bool} (h : SetM w b n s) : b < w.heap.size := by
  obtain ⟨D, h1, _⟩ := h
  exact h1.lt
set_option maxRecDepth 8000 in
set_option maxHeartbeats 2000000 in
theorem numbersI (l : List STP) (bs : List Nat) (w : World) (h : HistAt w l bs) (h6 : bs.length ≤ 60) :
    Calls Try.prog 32 #[.pointer (ptrD bs bs.length)] w fun z w' => z = .returned (.map (some w.heap.size)) ∧ SetM w' w.heap.size bs.length (fun m => decide (0 < m ∧ m ≤ bs.length)) ∧ Ext w w' := by
  have HH : Hid (HistAt w l bs) := h
  obtain ⟨n, hn⟩ : ∃ n, bs.length = n := ⟨_, rfl⟩
  have HN : Hid (bs.length = n) := hn
  rw [hn] at h6 ⊢
  have hmm := @run_makeMap Try.prog
  have S0 : SetM (w.alloc (.map #[] 0)) w.heap.size (n - n) (fun m => decide (n < m ∧ m ≤ n)) := ⟨.map [], by rw [Nat.sub_self]; exact World.ownsMap_made w Try.prog 3 unitElem, fun m => by
    show false = decide (n < m ∧ m ≤ n)
    exact (decide_eq_false (by omega)).symm⟩
  have X0 : Ext w (w.alloc (.map #[] 0)) := x1 w _
  obtain ⟨B, hB⟩ : ∃ B, w.heap.size = B := ⟨_, rfl⟩
  have HB : Hid (w.heap.size = B) := hB
  rw [hB] at S0 ⊢
  have HS0 : Hid (SetM (w.alloc (.map #[] 0)) B (n - n) (fun m => decide (n < m ∧ m ≤ n))) := S0
  clear h hn S0
  go_enter Try.func32, Try.ntmps32
  go_wp2_with fail
  go_loopg [0] n (fun gk s wr => s = .pointer (ptrD bs gk) ∧ gk ≤ n ∧ Hid (SetM wr B (n - gk) (fun m => decide (gk < m ∧ m ≤ n))) ∧ Ext w wr)
  case atStart => exact ⟨rfl, Nat.le_refl _, HS0, X0⟩
  case round =>
    clear HS0 hmm
    obtain ⟨rfl, h2, HS, X⟩ := hrel
    by_cases h0 : gk = 0
    · subst h0
      have HF : Hid (SetM wr B n (fun m => decide (0 < m ∧ m ≤ n))) := HS.out
      rw [ptrD_zero]
      clear HS
      go_wp2_with fail
      go_ret
      exact ⟨rfl, HF.out, X⟩
    · obtain ⟨k, rfl⟩ : ∃ k, gk = k + 1 := ⟨gk - 1, by omega⟩
      obtain ⟨b, hb⟩ : ∃ b, bs[k]? = some b := ⟨_, List.getElem?_eq_getElem (by rw [HN.out]; omega)⟩
      obtain ⟨e, cv, he, u0, u1, V⟩ := HH.out k b hb
      have V := V.later X
      have c2 := (V 2 _ rfl).1
      have c3 := (V 3 _ rfl).1
      have HV : Hid (Vec wr b (deedL bs k e cv)) := V
      rw [ptrD_succ hb]
      obtain ⟨q, hq⟩ : ∃ q, ptrD bs k = q := ⟨_, rfl⟩
      have HQ : Hid (ptrD bs k = q) := hq
      rw [hq] at c3
      obtain ⟨K, hK⟩ : ∃ K : Nat, k + 1 = K := ⟨_, rfl⟩
      have HK : Hid (k + 1 = K) := hK
      rw [hK] at c2
      have hkey := keyN (m := K) (by omega)
      obtain ⟨D, hown, hhas⟩ := HS.out
      have HHas : Hid (∀ m : Nat, Maps.has D (.int .i64 (m : Int)) = decide (k + 1 < m ∧ m ≤ n)) := hhas
      have HD : Hid (Maps.IsMap D) := ownsMap_isMap hown
      have hbB : b < wr.heap.size ∧ b < B := by
        have h1 := World.block_lt_of_cell? _ _ (V 2 _ rfl).1
        obtain ⟨e2, cv2, _, _, _, V2⟩ := HH.out k b hb
        have h2 := World.block_lt_of_cell? _ _ (V2 2 _ rfl).1
        exact ⟨h1, by rw [← HB.out]; exact h2⟩
      have hnk : n - (k + 1) < maxLen := by unfold maxLen; omega
      clear V he hq hb hK hhas
      go_wp2_with (at_mapUpdate; refine wpList_mapUpdate_own _ rfl _ _ _ 59 rfl 3 61 intK mapI_type _ B (n - (k + 1)) D rfl hown hnk _ _ (.int .i64 (K : Int)) rfl rfl hkey (.agg []) [] unitElem_mk ?_; intro w1 hown1 hgrow1; have c4 : w1.cell? ⟨b, 3, none⟩ = some (.pointer q) := cell_kept c3 hgrow1 (fun r e => by cases e; obtain ⟨es, ck, hm, _⟩ := hown; exact ⟨_, hm, rfl⟩))
      have XW : Ext w w1 := X.grown hgrow1 X.size (fun r e => by cases e; rw [HB.out]; exact Nat.le_refl _)
      have HSW : Hid (SetM w1 B (n - k) (fun m => decide (k < m ∧ m ≤ n))) := by
        refine SetM.congr ⟨_, ?_, SetM.put_has HD.out HHas.out K (.agg [])⟩ (fun m => ?_)
        · have := hown1
          rw [show n - (k + 1) + 1 = n - k by omega] at this
          exact this
        · rw [← HK.out]
          by_cases e : m = k + 1
          · subst e
            simp
            omega
          · have : (m == k + 1) = false := by simp [e]
            rw [this, Bool.or_false]
            exact decide_eq_decide.2 (by omega)
      clear hown hown1 hgrow1 HS HV HHas hbB
      go_roundg k
      case measure => omega
      case rel => exact ⟨congrArg Value.pointer HQ.out.symm, by omega, HSW, XW⟩

end Go.Proofs.Ytmpemgpfjopkgaa
