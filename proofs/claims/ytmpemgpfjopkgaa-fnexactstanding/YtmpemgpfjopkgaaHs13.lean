/-
  Chapter 15: what is marked: bools, changes, steps.
-/
import Derived.Test.YtmpemgpfjopkgaaHs5
import Derived.Test.YtmpemgpfjopkgaaTur
import Derived.Test.YtmpemgpfjopkgaaF7g
namespace Go.Proofs.Ytmpemgpfjopkgaa
open Go.RowKit

/-- A row of bools of one's own, from a block on. -/
def BoolsOwn (w : World) (lo g : Nat) (v : Value) (l : List Bool) : Prop := ∃ p, v = .slice p l.length l.length ∧ (0 < l.length → p = some ⟨g, 0, none⟩) ∧ lo ≤ g ∧ Vec w g (l.map bV)
theorem BoolsOwn.bools {w : World} {lo g : Nat} {v : Value} {l : List Bool} (h : BoolsOwn w lo g v l) : BoolsIn w v l := by
  obtain ⟨p, rfl, h1, _, h3⟩ := h
  refine ⟨p, _, rfl, Nat.le_refl _, fun h0 => ⟨g, 0, h1 h0, fun i hi => ?_⟩⟩
  rw [Nat.zero_add]
  refine (h3 i _ ?_).1
  rw [List.getElem?_map, List.getElem?_eq_getElem hi, List.getD_eq_getElem?_getD, List.getElem?_eq_getElem hi]
  rfl
theorem BoolsOwn.later {w w' : World} {lo g : Nat} {v : Value} {l : List Bool} (h : BoolsOwn w lo g v l) (x : Ext w w') : BoolsOwn w' lo g v l := by
  obtain ⟨p, h0, h1, h2, h3⟩ := h
  exact ⟨p, h0, h1, h2, h3.later x⟩
theorem BoolsOwn.turned {w w' : World} {lo g a b : Nat} {v : Value} {l : List Bool} (h : BoolsOwn w lo g v l) (t : TurnedIn a b w w') (hb : b ≤ g) : BoolsOwn w' lo g v l := by
  obtain ⟨p, h0, h1, h2, h3⟩ := h
  exact ⟨p, h0, h1, h2, t.vec g _ (.inr hb) h3⟩
theorem BoolsIn.turned {w w' : World} {a b : Nat} {v : Value} {l : List Bool} (h : BoolsIn w v l) (hlt : ∀ p n c, v = .slice (some p) n c → 0 < n → p.block < a) (t : TurnedIn a b w w') : BoolsIn w' v l := by
  obtain ⟨p, cap, rfl, h2, h3⟩ := h
  refine ⟨p, cap, rfl, h2, fun h0 => ?_⟩
  obtain ⟨g, o, rfl, h5⟩ := h3 h0
  exact ⟨g, o, rfl, fun i hi => t.cell _ _ (.inl (show g < a from hlt ⟨g, o, none⟩ _ _ rfl h0)) (h5 i hi)⟩
def mkB (k : Nat) : Bool := k % 3 == 0
def marksB (k : Nat) (n : Nat) : List Bool := (List.range n).map fun i => mkB (k + i)
theorem marksB_length (k n : Nat) : (marksB k n).length = n := by simp [marksB]
theorem marksB_at {k n i : Nat} (h : i < n) : (marksB k n)[i]? = some (mkB (k + i)) := by
  unfold marksB
  rw [List.getElem?_map, List.getElem?_range h]
  rfl
set_option maxRecDepth 8000 in
set_option maxHeartbeats 2000000 in
theorem markBools (v : Value) (l : List Bool) (lo g n : Nat) (w : World) (h : BoolsOwn w lo g v l) (hn : l.length = n) (hl : n ≤ 1000) :
    Calls Try.prog 13 #[v, .int .i64 1] w fun e w' => e = .returned (.int .i64 ((1 + n : Nat) : Int)) ∧ BoolsOwn w' lo g v (marksB 1 n) ∧ TurnedIn g (g + 1) w w' := by
  obtain ⟨p, rfl, h1, h2, h3⟩ := h
  rw [hn] at h1 ⊢
  have HP : Hid (0 < n → p = some ⟨g, 0, none⟩) := h1
  have H0 : Hid (∃ M : List Value, M.length = n ∧ Vec w g M ∧ ∀ i, i < 0 → M[i]? = some (bV (mkB (1 + i)))) := ⟨l.map bV, by simp [hn], h3, fun i hi => by omega⟩
  have HLo : Hid (lo ≤ g) := h2
  clear h1 h2 h3 hn
  go_enter Try.func13, Try.ntmps13
  go_wp2_with fail
  go_loopw [1, 5] (fun a i wr => ∃ k m : Nat, k ≤ n ∧ (m ≤ 1001 ∧ Hid (m = 1 + k)) ∧ i = .int .i64 k ∧ a = .int .i64 (m : Int) ∧ Hid (∃ M : List Value, M.length = n ∧ Vec wr g M ∧ ∀ i, i < k → M[i]? = some (bV (mkB (1 + i)))) ∧ Hid (TurnedIn g (g + 1) w wr)) (fun _ i _ => n - (intOf i).toNat)
  case atStart => exact ⟨0, 1, by omega, ⟨by omega, rfl⟩, rfl, rfl, H0, TurnedIn.refl _ _ w⟩
  case round =>
    clear H0
    obtain ⟨k, m, hk, ⟨hm1, Hm⟩, rfl, rfl, HM, HT⟩ := hrel
    have Hm2 : Hid (m + 1 ≤ 1001 ∨ ¬ k < n) := by have := Hm.out; show _ ∨ _; omega
    by_cases hlt : k < n
    · obtain rfl := HP.out (by omega)
      have i2 : (k : Int) < (n : Int) := by omega
      obtain ⟨a, ha⟩ : ∃ a : Nat, m % 3 = a := ⟨_, rfl⟩
      have ha' : (m : Int).tmod 3 = (a : Int) := by rw [Int.tmod_eq_emod_of_nonneg (by omega)]; omega
      have ha2 : (m : Int) % 3 = (a : Int) := by omega
      obtain ⟨M, q1, q2, q3⟩ := HM.out
      obtain ⟨v0, hv0⟩ : ∃ v, M[k]? = some v := ⟨_, List.getElem?_eq_getElem (by omega)⟩
      have c0 := (q2 k v0 hv0).1
      have f0 := (q2 k v0 hv0).2
      have HQ : Hid (∀ b, mkB m = b → ∃ M : List Value, M.length = n ∧ Vec (wr.setCell ⟨g, k, none⟩ (.bool b)) g M ∧ ∀ i, i < k + 1 → M[i]? = some (bV (mkB (1 + i)))) := fun b hb => by
        refine ⟨M.set k (bV b), by simp [q1], q2.put k (by omega) _, fun i hi => ?_⟩
        by_cases e : i = k
        · subst e
          rw [List.getElem?_set_self (by omega), ← Hm.out, hb]
        · rw [List.getElem?_set_ne (fun q => e q.symm)]
          exact q3 i (by omega)
      have HU : Hid (∀ b, TurnedIn g (g + 1) w (wr.setCell ⟨g, k, none⟩ (.bool b))) := fun b => HT.out.put g k (by omega) _
      have HB : Hid (mkB m = (a == 0)) := by show _ = _; unfold mkB; rw [ha]
      clear HM HT q2 q3 hv0
      by_cases ha0 : a = 0
      · subst ha0
        have HQ1 := HQ.out true (by rw [HB.out]; rfl)
        have HU1 := HU.out true
        obtain ⟨w2, hw2⟩ : ∃ q, wr.setCell ⟨g, k, none⟩ (.bool true) = q := ⟨_, rfl⟩
        rw [hw2] at HQ1 HU1
        have HQ1 : Hid _ := HQ1
        have HU1 : Hid _ := HU1
        clear HQ HU HB ha
        go_wp2_with fail
        go_roundw
        case rel => exact ⟨k + 1, m + 1, by omega, ⟨by rcases Hm2.out with h | h <;> omega, by have := Hm.out; show _ = _; omega⟩, by go_num, by go_num, HQ1.out, HU1.out⟩
        case measure => simp [intOf]; omega
      · have g1 : ((a : Int) == 0) = false := by simp [ha0]
        have HQ1 := HQ.out false (by rw [HB.out]; simp [ha0])
        have HU1 := HU.out false
        obtain ⟨w2, hw2⟩ : ∃ q, wr.setCell ⟨g, k, none⟩ (.bool false) = q := ⟨_, rfl⟩
        rw [hw2] at HQ1 HU1
        have HQ1 : Hid _ := HQ1
        have HU1 : Hid _ := HU1
        clear HQ HU HB ha
        go_wp2_with fail
        go_roundw
        case rel => exact ⟨k + 1, m + 1, by omega, ⟨by rcases Hm2.out with h | h <;> omega, by have := Hm.out; show _ = _; omega⟩, by go_num, by go_num, HQ1.out, HU1.out⟩
        case measure => simp [intOf]; omega
    · obtain rfl : k = n := by omega
      obtain rfl := Hm.out
      clear Hm2
      have HF : Hid (Vec wr g ((marksB 1 k).map bV)) := by
        obtain ⟨M, q1, q2, q3⟩ := HM.out
        intro i v hi
        rw [List.getElem?_map] at hi
        have hik : i < k := by
          rcases Nat.lt_or_ge i k with h' | h'
          · exact h'
          · rw [List.getElem?_eq_none (by rw [marksB_length]; exact h')] at hi; cases hi
        rw [marksB_at hik] at hi
        exact q2 i v ((q3 i hik).trans hi)
      clear HM
      go_wp2_with fail
      go_ret
      exact ⟨rfl, ⟨p, by rw [marksB_length], fun h => HP.out (by rw [marksB_length] at h; exact h), HLo.out, HF.out⟩, HT.out⟩
set_option maxRecDepth 8000 in
set_option maxHeartbeats 2000000 in
theorem heldBools (v : Value) (lo g n : Nat) (w : World) (h : BoolsOwn w lo g v (marksB 1 n)) (hl : n ≤ 1000) :
    Calls Try.prog 14 #[v, .int .i64 1] w fun e w' => e = .returned (.int .i64 ((1 + n : Nat) : Int)) ∧ Ext w w' := by
  obtain ⟨p, rfl, h1, h2, h3⟩ := h
  rw [marksB_length] at h1 ⊢
  have HP : Hid (0 < n → p = some ⟨g, 0, none⟩) := h1
  have HV : Hid (Vec w g ((marksB 1 n).map bV)) := h3
  clear h1 h2 h3
  go_enter Try.func14, Try.ntmps14
  go_wp2_with fail
  go_loopw [1, 5] (fun a i wr => ∃ k m : Nat, k ≤ n ∧ (m ≤ 1001 ∧ Hid (m = 1 + k)) ∧ i = .int .i64 k ∧ a = .int .i64 (m : Int) ∧ Ext w wr) (fun _ i _ => n - (intOf i).toNat)
  case atStart => exact ⟨0, 1, by omega, ⟨by omega, rfl⟩, rfl, rfl, xr _⟩
  case round =>
    obtain ⟨k, m, hk, ⟨hm1, Hm⟩, rfl, rfl, X⟩ := hrel
    have Hm2 : Hid (m + 1 ≤ 1001 ∨ ¬ k < n) := by have := Hm.out; show _ ∨ _; omega
    by_cases hlt : k < n
    · obtain rfl := HP.out (by omega)
      have i2 : (k : Int) < (n : Int) := by omega
      obtain ⟨a, ha⟩ : ∃ a : Nat, m % 3 = a := ⟨_, rfl⟩
      have ha' : (m : Int).tmod 3 = (a : Int) := by rw [Int.tmod_eq_emod_of_nonneg (by omega)]; omega
      have ha2 : (m : Int) % 3 = (a : Int) := by omega
      have c0 := ((HV.out.later X) k (bV (a == 0)) (by rw [List.getElem?_map, marksB_at hlt, ← Hm.out]; unfold mkB; rw [ha]; rfl)).1
      by_cases ha0 : a = 0
      · subst ha0
        have c1 : wr.cell? ⟨g, k, none⟩ = some (.bool true) := c0
        clear c0 ha
        go_wp2_with fail
        go_roundw
        case rel => exact ⟨k + 1, m + 1, by omega, ⟨by rcases Hm2.out with h | h <;> omega, by have := Hm.out; show _ = _; omega⟩, by go_num, by go_num, X⟩
        case measure => simp [intOf]; omega
      · have g1 : ((a : Int) == 0) = false := by simp [ha0]
        have c1 : wr.cell? ⟨g, k, none⟩ = some (.bool false) := by rw [c0]; simp [ha0]
        clear c0 ha
        go_wp2_with fail
        go_roundw
        case rel => exact ⟨k + 1, m + 1, by omega, ⟨by rcases Hm2.out with h | h <;> omega, by have := Hm.out; show _ = _; omega⟩, by go_num, by go_num, X⟩
        case measure => simp [intOf]; omega
    · obtain rfl : k = n := by omega
      obtain rfl := Hm.out
      clear Hm2
      go_wp2_with fail
      go_ret
      exact ⟨rfl, X⟩
/-- One cell of a change written over. -/
theorem OwnCh.put1 {w : World} {g k c : Nat} {l : List CH} {e e' : CH} {u : Value} (h : OwnCh w g l) (hk : l[k]? = some e) (hc : c < 3) (he : e'.cells = e.cells.set c u) : OwnCh (w.setCell ⟨g, k * 3 + c, none⟩ u) g (l.set k e') := by
  intro i q hi c' v hc'
  have h3 := CH.cells_lt hc'
  have hkl : k < l.length := (List.getElem?_eq_some_iff.1 hk).1
  by_cases hik : i = k
  · subst hik
    rw [List.getElem?_set_self hkl] at hi
    cases hi
    rw [he] at hc'
    obtain ⟨v0, hv0⟩ : ∃ v0, e.cells[c']? = some v0 := ⟨_, List.getElem?_eq_getElem (show c' < e.cells.length from h3)⟩
    have old := h i e hk c' v0 hv0
    refine ⟨?_, by rw [World.frozen?_setCell]; exact old.2⟩
    by_cases hcc : c' = c
    · subst hcc
      rw [List.getElem?_set_self (show c' < e.cells.length from h3)] at hc'
      cases hc'
      exact World.cell?_setCell_same' _ _ _ (by rw [old.1]; rfl)
    · rw [List.getElem?_set_ne (fun q => hcc q.symm)] at hc'
      rw [World.cell?_setCell_other _ _ _ _ (fun q => hcc (by have := congrArg Addr.off q; simp at this; omega))]
      exact (h i e hk c' v hc').1
  · rw [List.getElem?_set_ne (fun q => hik q.symm)] at hi
    have old := h i q hi c' v hc'
    refine ⟨?_, by rw [World.frozen?_setCell]; exact old.2⟩
    rw [World.cell?_setCell_other _ _ _ _ (fun q => hik (by have := congrArg Addr.off q; simp at this; omega))]
    exact old.1
set_option maxRecDepth 8000 in
set_option maxHeartbeats 4000000 in
theorem markChanges (b n k0 : Nat) (l : List CH) (w : World) (h : OwnCh w b l) (hn : l.length = n) (h1 : 1 ≤ k0) (h2 : k0 + 3 * n ≤ 9000000) :
    Calls Try.prog 26 #[ownV b n, .int .i64 k0] w fun e w' => e = .returned (.int .i64 ((k0 + 3 * n : Nat) : Int)) ∧ (∃ l', OwnCh w' b l' ∧ l'.length = n) ∧ TurnedIn b (b + 1) w w' ∧ Hid (n = 0 → Ext w w') := by
  have H0 : Hid (∃ l', OwnCh w b l' ∧ l'.length = n) := ⟨l, h, hn⟩
  clear h hn
  go_enter Try.func26, Try.ntmps26
  go_wp2_with fail
  go_loopw [1, 5] (fun a i wr => ∃ k m : Nat, k ≤ n ∧ m = k0 + 3 * k ∧ i = .int .i64 k ∧ a = .int .i64 (m : Int) ∧ Hid (∃ l', OwnCh wr b l' ∧ l'.length = n) ∧ Hid (TurnedIn b (b + 1) w wr) ∧ Hid (k = 0 → Ext w wr)) (fun _ i _ => n - (intOf i).toNat)
  case atStart => exact ⟨0, k0, by omega, by omega, rfl, rfl, H0, TurnedIn.refl _ _ w, fun _ => xr _⟩
  case round =>
    clear H0
    obtain ⟨k, m, hk, hm, rfl, rfl, HM, HT, HE⟩ := hrel
    by_cases hlt : k < n
    · obtain ⟨l', O, hl'⟩ := HM.out
      obtain ⟨e, he⟩ : ∃ e, l'[k]? = some e := ⟨_, List.getElem?_eq_getElem (by omega)⟩
      obtain ⟨⟨b0, b1, b2⟩, f0, f1, f2⟩ := O.all he
      have i2 : (k : Int) < (n : Int) := by omega
      have P1 := O.put1 (c := 0) (u := .int .i64 (m : Int)) (e' := ⟨(m : Int), e.c, e.t⟩) he (by omega) rfl
      have T1 := HT.out.put b (k * 3) (by omega) (.int .i64 (m : Int))
      obtain ⟨w1, hw1⟩ : ∃ w1, wr.setCell ⟨b, k * 3, none⟩ (.int .i64 (m : Int)) = w1 := ⟨_, rfl⟩
      change OwnCh (wr.setCell ⟨b, k * 3, none⟩ (.int .i64 (m : Int))) b _ at P1
      rw [hw1] at P1 T1
      have he1 : (l'.set k ⟨(m : Int), e.c, e.t⟩)[k]? = some ⟨(m : Int), e.c, e.t⟩ := List.getElem?_set_self (by omega)
      obtain ⟨⟨_, c1, _⟩, _, g1, _⟩ := P1.all he1
      have P2 := P1.put1 (c := 1) (u := .int .i64 ((m : Int) + 1)) (e' := ⟨(m : Int), (m : Int) + 1, e.t⟩) he1 (by omega) rfl
      have T2 := T1.put b (k * 3 + 1) (by omega) (.int .i64 ((m : Int) + 1))
      obtain ⟨w2, hw2⟩ : ∃ w2, w1.setCell ⟨b, k * 3 + 1, none⟩ (.int .i64 ((m : Int) + 1)) = w2 := ⟨_, rfl⟩
      rw [hw2] at P2 T2
      have he2 : ((l'.set k ⟨(m : Int), e.c, e.t⟩).set k ⟨(m : Int), (m : Int) + 1, e.t⟩)[k]? = some ⟨(m : Int), (m : Int) + 1, e.t⟩ := List.getElem?_set_self (by simp; omega)
      have CM := markTextL (m + 2) w2 (by omega) (by omega)
      have hm2 : ((m + 2 : Nat) : Int) = (m : Int) + 1 + 1 := by omega
      rw [hm2] at CM
      have HL : Hid (((l'.set k ⟨(m : Int), e.c, e.t⟩).set k ⟨(m : Int), (m : Int) + 1, e.t⟩).length = n) := by show _ = _; simp [hl']
      obtain ⟨L2, hL2⟩ : ∃ L2, (l'.set k ⟨(m : Int), e.c, e.t⟩).set k ⟨(m : Int), (m : Int) + 1, e.t⟩ = L2 := ⟨_, rfl⟩
      rw [hL2] at P2 he2 HL
      have H2 : Hid (OwnCh w2 b L2 ∧ L2[k]? = some ⟨(m : Int), (m : Int) + 1, e.t⟩ ∧ TurnedIn b (b + 1) w w2) := ⟨P2, he2, T2⟩
      have Hm : Hid (m = k0 + 3 * k) := hm
      have hmb : m ≤ 9000000 := by omega
      clear O P1 P2 T1 T2 he he1 he2 hL2 HM HT hl' hm2 hm
      go_wp2_with fail
      clear b0 b1 b2 f0 f1 f2 c1 g1 hw1 hw2
      refine CM.mono ?_
      rintro z w3 ⟨rfl, e3⟩
      obtain ⟨T, hT⟩ : ∃ T, markT (m + 2) = T := ⟨_, rfl⟩
      rw [hT]
      have P3 := H2.out.1.later e3
      obtain ⟨⟨_, _, d2⟩, _, _, x2⟩ := P3.all H2.out.2.1
      have P4 := P3.put1 (c := 2) (u := sV T) (e' := ⟨(m : Int), (m : Int) + 1, T⟩) H2.out.2.1 (by omega) rfl
      have T4 := (H2.out.2.2.step e3).put b (k * 3 + 2) (by omega) (sV T)
      obtain ⟨w4, hw4⟩ : ∃ w4, w3.setCell ⟨b, k * 3 + 2, none⟩ (sV T) = w4 := ⟨_, rfl⟩
      rw [hw4] at P4 T4
      have HZ : Hid (∃ l', OwnCh w4 b l' ∧ l'.length = n) := ⟨_, P4, by rw [List.length_set]; exact HL.out⟩
      have HU : Hid (TurnedIn b (b + 1) w w4) := T4
      clear P3 P4 T4 H2 CM hT
      go_wp2_with fail
      go_roundw
      case rel => exact ⟨k + 1, m + 3, by omega, by have := Hm.out; omega, by go_num, by go_num, HZ, HU, fun h => by omega⟩
      case measure => simp [intOf]; omega
    · obtain rfl : k = n := by omega
      subst hm
      go_wp2_with fail
      go_ret
      exact ⟨rfl, HM.out, HT.out, HE.out⟩

end Go.Proofs.Ytmpemgpfjopkgaa
