/-
  Chapter 15: steps marked.
-/
import Derived.Test.YtmpemgpfjopkgaaHs13
namespace Go.Proofs.Ytmpemgpfjopkgaa
open Go.RowKit

/-- One cell of a step written over. -/
theorem OwnSc.put0 {w : World} {g k : Nat} {l : List SC} {e : SC} (h : OwnSc w g l) (hk : l[k]? = some e) (u : Int) : OwnSc (w.setCell ⟨g, k * 2, none⟩ (.int .i64 u)) g (l.set k ⟨u, e.cv⟩) := by
  intro i q hi c' v hc'
  have h3 := SC.cells_lt hc'
  have hkl : k < l.length := (List.getElem?_eq_some_iff.1 hk).1
  by_cases hik : i = k
  · subst hik
    rw [List.getElem?_set_self hkl] at hi
    cases hi
    match c', h3, hc' with
    | 0, _, hc' =>
      cases hc'
      have old := h i e hk 0 _ rfl
      exact ⟨World.cell?_setCell_same' _ _ _ (by rw [show (⟨g, i * 2, none⟩ : Addr) = ⟨g, i * 2 + 0, none⟩ from rfl, old.1]; rfl), by rw [World.frozen?_setCell]; exact old.2⟩
    | 1, _, hc' =>
      cases hc'
      have old := h i e hk 1 _ rfl
      refine ⟨?_, by rw [World.frozen?_setCell]; exact old.2⟩
      rw [World.cell?_setCell_other _ _ _ _ (fun q => by have := congrArg Addr.off q; simp at this)]
      exact old.1
  · rw [List.getElem?_set_ne (fun q => hik q.symm)] at hi
    have old := h i q hi c' v hc'
    refine ⟨?_, by rw [World.frozen?_setCell]; exact old.2⟩
    rw [World.cell?_setCell_other _ _ _ _ (fun q => hik (by have := congrArg Addr.off q; simp at this; omega))]
    exact old.1
theorem OwnSc.turned {w w' : World} {g a b : Nat} {l : List SC} (h : OwnSc w g l) (t : TurnedIn a b w w') (hg : g < a ∨ b ≤ g) : OwnSc w' g l := fun i e hi c u hc =>
  ⟨t.cell _ _ hg (h i e hi c u hc).1, t.froz _ _ hg (h i e hi c u hc).1 (h i e hi c u hc).2⟩
theorem OwnCh.turned {w w' : World} {g a b : Nat} {l : List CH} (h : OwnCh w g l) (t : TurnedIn a b w w') (hg : g < a ∨ b ≤ g) : OwnCh w' g l := fun i e hi c u hc =>
  ⟨t.cell _ _ hg (h i e hi c u hc).1, t.froz _ _ hg (h i e hi c u hc).1 (h i e hi c u hc).2⟩
/-- What is left to be marked when the first k are. -/
def LeftM (wr : World) (g n k : Nat) (l : List STP) (bs : List Nat) : Prop :=
  (∃ M : List SC, M.length = n ∧ OwnSc wr g M ∧ ∀ (i b : Nat) (e : STP), bs[i]? = some b → l[i]? = some e → ∃ u, M[i]? = some ⟨u, ownV b e.ch.length⟩) ∧
    ∀ (i b : Nat) (e : STP), k ≤ i → bs[i]? = some b → l[i]? = some e → OwnCh wr b e.ch
set_option maxRecDepth 8000 in
set_option maxHeartbeats 4000000 in
theorem markSteps (g n hi : Nat) (l : List STP) (wo w : World) (h : OwnSt wo g l) (hx : Ext wo w) (hn : l.length = n) (hs : wo.heap.size ≤ hi) (hg : g < hi) (hb : n + chN l ≤ 1048576) :
    Calls Try.prog 12 #[ownV g n, .int .i64 1] w fun e w' => e = .returned (.int .i64 ((1 + n + 3 * chN l : Nat) : Int)) ∧ TurnedIn g hi w w' := by
  obtain ⟨M, bs, O, Z⟩ := h
  rw [hn] at Z
  have HZ : Hid (bs.length = n ∧ (∀ (i b : Nat) (e : STP), bs[i]? = some b → l[i]? = some e → g < b ∧ (0 < e.ch.length → b < hi)) ∧ ∀ (i j b c : Nat) (e : STP), i < j → bs[i]? = some b → bs[j]? = some c → l[i]? = some e → 0 < e.ch.length → b < c) := by
    refine ⟨Z.2.1, fun i b e h1 h2 => ?_, Z.2.2.2⟩
    obtain ⟨b', q0, q1, _⟩ := Z.2.2.1 i e (by rw [← Z.2.1]; exact (List.getElem?_eq_some_iff.1 h1).1) h2
    rw [h1] at q1
    cases q1
    exact ⟨q0, fun h0 => Nat.lt_of_lt_of_le (Z.lt h1 h2 h0) hs⟩
  have H0 : Hid (LeftM w g n 0 l bs) := by
    refine ⟨⟨M, Z.1, O.later hx, fun i b e h1 h2 => ?_⟩, fun i b e _ h1 h2 => ?_⟩
    · obtain ⟨b', q0, q1, q2, _⟩ := Z.2.2.1 i e (by rw [← Z.2.1]; exact (List.getElem?_eq_some_iff.1 h1).1) h2
      rw [h1] at q1
      cases q1
      exact ⟨e.u, q2⟩
    · obtain ⟨b', q0, q1, q2, q3⟩ := Z.2.2.1 i e (by rw [← Z.2.1]; exact (List.getElem?_eq_some_iff.1 h1).1) h2
      rw [h1] at q1
      cases q1
      exact q3.later hx
  have HN : Hid (l.length = n) := hn
  obtain ⟨C, hC⟩ : ∃ C, chN l = C := ⟨_, rfl⟩
  have HC : Hid (chN l = C) := hC
  rw [hC] at hb ⊢
  clear O Z hn hC hx
  go_enter Try.func12, Try.ntmps12
  go_wp2_with fail
  go_loopw [1, 5] (fun a i wr => ∃ k m : Nat, k ≤ n ∧ Hid (m = 1 + k + 3 * chN (l.take k)) ∧ i = .int .i64 k ∧ a = .int .i64 (m : Int) ∧ Hid (LeftM wr g n k l bs) ∧ Hid (TurnedIn g hi w wr)) (fun _ i _ => n - (intOf i).toNat)
  case atStart => exact ⟨0, 1, by omega, by show _ = _; simp [chN], rfl, rfl, H0, TurnedIn.refl _ _ w⟩
  case round =>
    clear H0
    obtain ⟨k, m, hk, Hm, rfl, rfl, HM, HT⟩ := hrel
    by_cases hlt : k < n
    · obtain ⟨e, he⟩ : ∃ e, l[k]? = some e := ⟨_, List.getElem?_eq_getElem (by rw [HN.out]; exact hlt)⟩
      obtain ⟨b, hbk⟩ : ∃ b, bs[k]? = some b := ⟨_, List.getElem?_eq_getElem (by rw [HZ.out.1]; exact hlt)⟩
      obtain ⟨⟨M, hM, O, hMi⟩, hLf⟩ := HM.out
      obtain ⟨u, hMk⟩ := hMi k b e hbk he
      have hgb := HZ.out.2.1 k b e hbk he
      have hOb := hLf k b e (Nat.le_refl _) hbk he
      obtain ⟨⟨c0, c1⟩, f0, f1⟩ := O.all hMk
      have hch : chN (l.take (k + 1)) = chN (l.take k) + e.ch.length := chN_take he
      have hcl := chN_le l (k + 1)
      have hcl2 := HC.out
      have i2 : (k : Int) < (n : Int) := by omega
      have hm1 := Hm.out
      have P1 := O.put0 hMk (m : Int)
      have T1 := HT.out.put g (k * 2) (by omega) (.int .i64 (m : Int))
      have B1 := hOb.far (p := ⟨g, k * 2, none⟩) (by show g ≠ b; omega) (.int .i64 (m : Int))
      have L1 : ∀ (i c : Nat) (q : STP), k ≤ i → bs[i]? = some c → l[i]? = some q → OwnCh (wr.setCell ⟨g, k * 2, none⟩ (.int .i64 (m : Int))) c q.ch := fun i c q hi h1 h2 => (hLf i c q hi h1 h2).far (p := ⟨g, k * 2, none⟩) (by have := (HZ.out.2.1 i c q h1 h2).1; show g ≠ c; omega) _
      obtain ⟨w1, hw1⟩ : ∃ w1, wr.setCell ⟨g, k * 2, none⟩ (.int .i64 (m : Int)) = w1 := ⟨_, rfl⟩
      rw [hw1] at P1 T1 B1 L1
      have hMk1 : (M.set k ⟨(m : Int), ownV b e.ch.length⟩)[k]? = some ⟨(m : Int), ownV b e.ch.length⟩ := List.getElem?_set_self (by omega)
      obtain ⟨⟨_, d1⟩, _⟩ := P1.all hMk1
      obtain ⟨N, hN⟩ : ∃ N, e.ch.length = N := ⟨_, rfl⟩
      have CM := markChanges b N (m + 1) e.ch w1 B1 hN (by omega) (by omega)
      have hm2 : ((m + 1 : Nat) : Int) = (m : Int) + 1 := by omega
      rw [hm2] at CM
      have HX : Hid (∀ w', TurnedIn b (b + 1) w1 w' → (N = 0 → Ext w1 w') → LeftM w' g n (k + 1) l bs ∧ TurnedIn g hi w w') := fun w' t tx => by
        by_cases h0 : N = 0
        · have x := tx h0
          refine ⟨⟨⟨M.set k ⟨(m : Int), ownV b e.ch.length⟩, by rw [List.length_set, hM], P1.later x, fun i c q h1 h2 => ?_⟩, fun i c q hi h1 h2 => (L1 i c q (by omega) h1 h2).later x⟩, T1.step x⟩
          by_cases hik : i = k
          · subst hik
            rw [h1] at hbk; cases hbk
            rw [h2] at he; cases he
            exact ⟨_, hMk1⟩
          · rw [List.getElem?_set_ne (fun z => hik z.symm)]
            exact hMi i c q h1 h2
        · have hb2 := hgb.2 (by omega)
          refine ⟨⟨⟨M.set k ⟨(m : Int), ownV b e.ch.length⟩, by rw [List.length_set, hM], P1.turned t (.inl hgb.1), fun i c q h1 h2 => ?_⟩, fun i c q hi h1 h2 => (L1 i c q (by omega) h1 h2).turned t (.inr ?_)⟩, T1.trans (t.mono (by omega) (by omega))⟩
          · by_cases hik : i = k
            · subst hik
              rw [h1] at hbk; cases hbk
              rw [h2] at he; cases he
              exact ⟨_, hMk1⟩
            · rw [List.getElem?_set_ne (fun z => hik z.symm)]
              exact hMi i c q h1 h2
          · have := HZ.out.2.2 k i b c e (by omega) hbk h1 he (by omega)
            omega
      have HR : Hid (m + 1 + 3 * N = 1 + (k + 1) + 3 * chN (l.take (k + 1))) := by show _ = _; omega
      have hmb : m + 1 + 3 * N ≤ 9000000 := by omega
      rw [hN] at c1 d1
      clear O P1 T1 B1 L1 hLf hMi hMk hMk1 hOb HM HT he hbk hgb hch hcl hcl2 hM hm1 hm2 hN Hm
      go_wp2_with fail
      clear c0 c1 f0 f1 d1 hw1
      refine CM.mono ?_
      rintro z w2 ⟨rfl, _, T2, H2⟩
      obtain ⟨L2, T3⟩ := HX.out w2 T2 H2.out
      have HL2 : Hid (LeftM w2 g n (k + 1) l bs) := L2
      have HT3 : Hid (TurnedIn g hi w w2) := T3
      clear T2 H2 L2 T3 HX CM
      go_wp2_with fail
      go_roundw
      case rel => exact ⟨k + 1, m + 1 + 3 * N, by omega, HR, by go_num, rfl, HL2, HT3⟩
      case measure => simp [intOf]; omega
    · obtain rfl : k = n := by omega
      have HF : Hid (m = 1 + k + 3 * C) := by
        have := Hm.out
        rw [List.take_of_length_le (by rw [HN.out]; exact Nat.le_refl _), HC.out] at this
        exact this
      obtain rfl := HF.out
      clear HF Hm
      go_wp2_with fail
      go_ret
      exact ⟨rfl, HT.out⟩

end Go.Proofs.Ytmpemgpfjopkgaa
