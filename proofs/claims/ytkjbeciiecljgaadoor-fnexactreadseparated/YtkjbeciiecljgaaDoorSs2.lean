/-
  Rows of rows of texts: marked; what has turned lies between two blocks.
-/
import Derived.Test.YtkjbeciiecljgaaDoorSs1
import Derived.Test.YtkjbeciiecljgaaDoorF7g
import Derived.Test.YtkjbeciiecljgaaDoorTur
namespace Go.Proofs.YtkjbeciiecljgaaDoor
open Go.RowKit

set_option maxRecDepth 8000 in
set_option maxHeartbeats 2000000 in
theorem markStrs2 (v : Value) (l : List (List UInt8)) (b k0 : Nat) (w : World) (h : TxtsOwn w v l b) (hn : l.length ≤ 3000000) (h1 : 1 ≤ k0) (h2 : k0 ≤ 3000000) :
    Calls Tryd.prog 23 #[v, .int .i64 k0] w fun e w' => e = .returned (.int .i64 ((k0 + l.length : Nat) : Int)) ∧ TxtsOwn w' v (marksT k0 l.length) b ∧ TurnedIn b (b + 1) w w' := by
  obtain ⟨p, cap, rfl, hcap, hp, V⟩ := h
  obtain ⟨n, hl⟩ : ∃ n, l.length = n := ⟨_, rfl⟩
  have HP : Hid (0 < n → p = some ⟨b, 0, none⟩) := by rw [← hl]; exact hp
  have H0 : Hid (∃ M : List Value, M.length = n ∧ Vec w b M ∧ ∀ i, i < 0 → M[i]? = some (sV (markT (k0 + i)))) := ⟨l.map sV, by simp [hl], V, fun i hi => by omega⟩
  rw [hl] at hcap hn ⊢
  clear V hp hl
  go_enter Tryd.func23, Tryd.ntmps23
  go_wp2_with fail
  go_loopw [1, 5] (fun a i wr => ∃ k : Nat, k ≤ n ∧ i = .int .i64 k ∧ a = .int .i64 ((k0 + k : Nat) : Int) ∧ Hid (∃ M : List Value, M.length = n ∧ Vec wr b M ∧ ∀ i, i < k → M[i]? = some (sV (markT (k0 + i)))) ∧ Hid (TurnedIn b (b + 1) w wr)) (fun _ i _ => n - (intOf i).toNat)
  case atStart => exact ⟨0, by omega, rfl, rfl, H0, TurnedIn.refl _ _ w⟩
  case round =>
    clear H0
    obtain ⟨k, hk, rfl, rfl, HM, HT⟩ := hrel
    by_cases hlt : k < n
    · obtain rfl := HP.out (by omega)
      have i2 : (k : Int) < (n : Int) := by omega
      obtain ⟨m, hm⟩ : ∃ m, k0 + k = m := ⟨_, rfl⟩
      have m1 : m ≤ 6000000 := by omega
      rw [hm]
      have CM := markTextL m wr (by omega) (by omega)
      go_wp2_with fail
      refine CM.mono ?_
      rintro e w1 ⟨rfl, e1⟩
      obtain ⟨M, q1, q2, q3⟩ := HM.out
      obtain ⟨v0, hv0⟩ : ∃ v, M[k]? = some v := ⟨_, List.getElem?_eq_getElem (by omega)⟩
      have q2 := q2.later e1
      have c0 := (q2 k v0 hv0).1
      have f0 := (q2 k v0 hv0).2
      have HQ : Hid (∃ M : List Value, M.length = n ∧ Vec (w1.setCell ⟨b, k, none⟩ (sV (markT m))) b M ∧ ∀ i, i < k + 1 → M[i]? = some (sV (markT (k0 + i)))) := by
        refine ⟨M.set k (sV (markT m)), by simp [q1], q2.put k (by omega) _, fun i hi => ?_⟩
        by_cases e : i = k
        · subst e
          rw [List.getElem?_set_self (by omega), hm]
        · rw [List.getElem?_set_ne (fun q => e q.symm)]
          exact q3 i (by omega)
      have HU : Hid (TurnedIn b (b + 1) w (w1.setCell ⟨b, k, none⟩ (sV (markT m)))) := (HT.out.step e1).put b k (by omega) _
      obtain ⟨w2, hw2⟩ : ∃ q, w1.setCell ⟨b, k, none⟩ (sV (markT m)) = q := ⟨_, rfl⟩
      rw [hw2] at HQ HU
      have hnx : ((m : Nat) : Int) + 1 = ((k0 + (k + 1) : Nat) : Int) := by omega
      clear HM HT CM q2 q3 hv0 e1
      go_wp2_with fail
      go_roundw
      case rel => exact ⟨k + 1, by omega, by go_num, by first | (rw [hnx]) | (congr 1), HQ, HU⟩
      case measure => simp [intOf]; omega
    · obtain rfl : k = n := by omega
      have HF : Hid (Vec wr b ((marksT k0 k).map sV)) := by
        obtain ⟨M, q1, q2, q3⟩ := HM.out
        intro i v hi
        rw [List.getElem?_map] at hi
        have hik : i < k := by
          rcases Nat.lt_or_ge i k with h' | h'
          · exact h'
          · rw [List.getElem?_eq_none (by rw [marksT_length]; exact h')] at hi; cases hi
        rw [marksT_at _ _ _ hik] at hi
        exact q2 i v ((q3 i hik).trans hi)
      clear HM
      go_wp2_with fail
      go_ret
      exact ⟨rfl, ⟨p, cap, by rw [marksT_length], by rw [marksT_length]; exact hcap, fun h => HP.out (by rw [marksT_length] at h; exact h), HF.out⟩, HT.out⟩

/-- How many fields. -/
def cntF (L : List (List (List UInt8))) (k : Nat) : Nat := ((L.take k).map List.length).sum
theorem cntF_next {L : List (List (List UInt8))} {k : Nat} {e : List (List UInt8)} (h : L[k]? = some e) : cntF L (k + 1) = cntF L k + e.length := by
  unfold cntF
  obtain ⟨hk, rfl⟩ := List.getElem?_eq_some_iff.1 h
  rw [← List.take_append_getElem hk, List.map_append, List.sum_append]
  simp
theorem cntF_le (L : List (List (List UInt8))) (k : Nat) : cntF L k ≤ lenTT L k := by
  induction k with
  | zero => simp [cntF]
  | succ k ih =>
    by_cases h : k < L.length
    · have he := List.getElem?_eq_getElem h
      rw [cntF_next he, lenTT_next he]
      have : (L[k]).length ≤ szT L[k] := by unfold szT; omega
      omega
    · have e1 : cntF L (k + 1) = cntF L k := by unfold cntF; rw [List.take_of_length_le (by omega), List.take_of_length_le (by omega)]
      have e2 : lenTT L (k + 1) = lenTT L k := by unfold lenTT; rw [List.take_of_length_le (by omega), List.take_of_length_le (by omega)]
      omega
/-- The rows as they are when the first k are marked. -/
def marksL (k0 : Nat) (L : List (List (List UInt8))) (k : Nat) : List (List (List UInt8)) := (List.range L.length).map fun i => if i < k then marksT (k0 + cntF L i) (L.getD i []).length else L.getD i []
theorem marksL_at {k0 : Nat} {L : List (List (List UInt8))} {k i : Nat} (h : i < L.length) : (marksL k0 L k)[i]? = some (if i < k then marksT (k0 + cntF L i) (L.getD i []).length else L.getD i []) := by
  unfold marksL
  rw [List.getElem?_map, List.getElem?_range h]
  rfl
theorem marksL_length (k0 : Nat) (L : List (List (List UInt8))) (k : Nat) : (marksL k0 L k).length = L.length := by unfold marksL; simp
theorem marksL_zero (k0 : Nat) (L : List (List (List UInt8))) : marksL k0 L 0 = L := by
  apply List.ext_getElem?
  intro i
  by_cases h : i < L.length
  · rw [marksL_at h, if_neg (by omega), List.getD, List.getElem?_eq_getElem h]
    rfl
  · rw [List.getElem?_eq_none (by rw [marksL_length]; omega), List.getElem?_eq_none (by omega)]

/-- One row marked: the rows are so. -/
theorem SsOwn.marked {w w' : World} {lo hi : Nat} {L : List (List (List UInt8))} {k0 k b : Nat} {u : Value} {l : List (List UInt8)} {p : Option Addr} {vs : List Value} {bs : List Nat}
    (h5 : 0 < L.length → ∃ b o, p = some ⟨b, o, none⟩ ∧ (∀ (j c : Nat), bs[j]? = some c → c ≠ b) ∧ ∀ (i : Nat) (u : Value), vs[i]? = some u → w.cell? ⟨b, o + i, none⟩ = some u)
    (h6 : ∀ (i : Nat) (u : Value) (l : List (List UInt8)) (b : Nat), vs[i]? = some u → (marksL k0 L k)[i]? = some l → bs[i]? = some b → TxtsOwn w u l b ∧ lo ≤ b ∧ b < hi)
    (h7 : ∀ (i j b : Nat), bs[i]? = some b → bs[j]? = some b → i = j)
    (hk : L[k]? = some l) (hu : vs[k]? = some u) (hb : bs[k]? = some b) (T : TxtsOwn w' u (marksT (k0 + cntF L k) l.length) b) (R : TurnedIn b (b + 1) w w') :
    (0 < L.length → ∃ b o, p = some ⟨b, o, none⟩ ∧ (∀ (j c : Nat), bs[j]? = some c → c ≠ b) ∧ ∀ (i : Nat) (u : Value), vs[i]? = some u → w'.cell? ⟨b, o + i, none⟩ = some u) ∧
    (∀ (i : Nat) (u : Value) (l : List (List UInt8)) (b : Nat), vs[i]? = some u → (marksL k0 L (k + 1))[i]? = some l → bs[i]? = some b → TxtsOwn w' u l b ∧ lo ≤ b ∧ b < hi) := by
  refine ⟨fun h0 => ?_, fun i u' l' b' hu' hl' hb' => ?_⟩
  · obtain ⟨g, o, q1, q2, q3⟩ := h5 h0
    exact ⟨g, o, q1, q2, fun i u' hu' => R.cell _ _ (by have := q2 k b hb; show g < b ∨ b + 1 ≤ g; omega) (q3 i u' hu')⟩
  · have hlt : k < L.length := (List.getElem?_eq_some_iff.1 hk).1
    have hi : i < L.length := by have := (List.getElem?_eq_some_iff.1 hl').1; rw [marksL_length] at this; exact this
    have hgd : L.getD k [] = l := by rw [List.getD, hk]; rfl
    have base := h6 k u (L.getD k []) b hu (by rw [marksL_at hlt, if_neg (by omega)]) hb
    by_cases e : i = k
    · subst e
      rw [hu] at hu'; cases hu'
      rw [hb] at hb'; cases hb'
      rw [marksL_at hi, if_pos (by omega), hgd] at hl'
      cases hl'
      exact ⟨T, base.2⟩
    · rw [marksL_at hi] at hl'
      have hl2 : (marksL k0 L k)[i]? = some l' := by
        rw [marksL_at hi, ← hl']
        congr 1
        by_cases h : i < k
        · rw [if_pos h, if_pos (by omega)]
        · rw [if_neg h, if_neg (by omega)]
      have q := h6 i u' l' b' hu' hl2 hb'
      refine ⟨?_, q.2⟩
      obtain ⟨p', cap', z1, z2, z3, z4⟩ := q.1
      have hne : b' ≠ b := fun e' => e (h7 i k b (e' ▸ hb') hb)
      exact ⟨p', cap', z1, z2, z3, R.vec b' _ (by omega) z4⟩

set_option maxRecDepth 8000 in
set_option maxHeartbeats 2000000 in
theorem markSS (v : Value) (L : List (List (List UInt8))) (lo hi k0 : Nat) (w : World) (h : SsOwn w lo hi v L) (hn : szTT L ≤ 1048576) (h1 : 1 ≤ k0) (h2 : k0 ≤ 1000000) :
    Calls Tryd.prog 15 #[v, .int .i64 k0] w fun e w' => e = .returned (.int .i64 ((k0 + cntF L L.length : Nat) : Int)) ∧ SsOwn w' lo hi v (marksL k0 L L.length) ∧ TurnedIn lo hi w w' := by
  obtain ⟨p, cap, vs, bs, rfl, hcap, hvs, hbs, h5, h6, h7⟩ := h
  obtain ⟨n, hl⟩ : ∃ n, L.length = n := ⟨_, rfl⟩
  have HN : Hid (L.length = n ∧ vs.length = n ∧ bs.length = n) := ⟨hl, by omega, by omega⟩
  have HZ : Hid (∀ k, cntF L k ≤ 1048576) := fun k => by
    have := cntF_le L k
    have h3 := lenTT_le L k
    unfold szTT at hn
    omega
  have hnb : n ≤ 1048576 := by unfold szTT at hn; omega
  have HS : Hid (∀ (k : Nat) (l : List (List UInt8)), L[k]? = some l → l.length ≤ 1048576) := fun k l he => by
    have h3 := lenTT_next he
    have h4 := lenTT_le L (k + 1)
    unfold szTT at hn
    have : l.length ≤ szT l := by unfold szT; omega
    omega
  have H7 : Hid (∀ (i j b : Nat), bs[i]? = some b → bs[j]? = some b → i = j) := h7
  have H0 : Hid ((0 < L.length → ∃ b o, p = some ⟨b, o, none⟩ ∧ (∀ (j c : Nat), bs[j]? = some c → c ≠ b) ∧ ∀ (i : Nat) (u : Value), vs[i]? = some u → w.cell? ⟨b, o + i, none⟩ = some u) ∧
      (∀ (i : Nat) (u : Value) (l : List (List UInt8)) (b : Nat), vs[i]? = some u → (marksL k0 L 0)[i]? = some l → bs[i]? = some b → TxtsOwn w u l b ∧ lo ≤ b ∧ b < hi)) := ⟨h5, by rw [marksL_zero]; exact h6⟩
  have C0 : Hid (k0 + cntF L 0 = k0) := by show _ = _; simp [cntF]
  rw [hl] at hcap ⊢
  clear h5 h6 h7 hvs hbs hn hl
  go_enter Tryd.func15, Tryd.ntmps15
  go_wp2_with fail
  go_loopw [1, 5] (fun a i wr => ∃ k m : Nat, k ≤ n ∧ i = .int .i64 k ∧ a = .int .i64 (m : Int) ∧ Hid (m = k0 + cntF L k) ∧ Hid ((0 < L.length → ∃ b o, p = some ⟨b, o, none⟩ ∧ (∀ (j c : Nat), bs[j]? = some c → c ≠ b) ∧ ∀ (i : Nat) (u : Value), vs[i]? = some u → wr.cell? ⟨b, o + i, none⟩ = some u) ∧
      (∀ (i : Nat) (u : Value) (l : List (List UInt8)) (b : Nat), vs[i]? = some u → (marksL k0 L k)[i]? = some l → bs[i]? = some b → TxtsOwn wr u l b ∧ lo ≤ b ∧ b < hi)) ∧ Hid (TurnedIn lo hi w wr)) (fun _ i _ => n - (intOf i).toNat)
  case atStart => exact ⟨0, k0, by omega, rfl, rfl, C0.out.symm, H0, TurnedIn.refl _ _ w⟩
  case round =>
    clear H0 C0
    obtain ⟨k, m, hk, rfl, rfl, HM, HI, HT⟩ := hrel
    by_cases hlt : k < n
    · have hkl : k < L.length := by rw [HN.out.1]; exact hlt
      obtain ⟨l, he⟩ : ∃ l, L[k]? = some l := ⟨_, List.getElem?_eq_getElem hkl⟩
      obtain ⟨u, hu⟩ : ∃ u, vs[k]? = some u := ⟨_, List.getElem?_eq_getElem (by rw [HN.out.2.1]; exact hlt)⟩
      obtain ⟨b, hb⟩ : ∃ b, bs[k]? = some b := ⟨_, List.getElem?_eq_getElem (by rw [HN.out.2.2]; exact hlt)⟩
      have hgd : L.getD k [] = l := by rw [List.getD, he]; rfl
      obtain ⟨q5, q6⟩ := HI.out
      have T0 := q6 k u l b hu (by rw [marksL_at hkl, if_neg (by omega), hgd]) hb
      obtain ⟨g, o, rfl, _, q8⟩ := q5 (by omega)
      have c1 := q8 k u hu
      have hm := HM.out
      have mb := HZ.out k
      have CM := markStrs2 u l b m wr T0.1 (by have := HS.out k l he; omega) (by omega) (by omega)
      have HX : Hid (∀ w', TxtsOwn w' u (marksT m l.length) b → TurnedIn b (b + 1) wr w' → (0 < L.length → ∃ b o', some (⟨g, o, none⟩ : Addr) = some ⟨b, o', none⟩ ∧ (∀ (j c : Nat), bs[j]? = some c → c ≠ b) ∧ ∀ (i : Nat) (u : Value), vs[i]? = some u → w'.cell? ⟨b, o' + i, none⟩ = some u) ∧
          (∀ (i : Nat) (u : Value) (l : List (List UInt8)) (b : Nat), vs[i]? = some u → (marksL k0 L (k + 1))[i]? = some l → bs[i]? = some b → TxtsOwn w' u l b ∧ lo ≤ b ∧ b < hi)) := fun w' T R => SsOwn.marked q5 q6 H7.out he hu hb (by rw [← hm]; exact T) R
      have HC : Hid (m + l.length = k0 + cntF L (k + 1)) := by show _ = _; rw [cntF_next he, hm]; omega
      have i2 : (k : Int) < (n : Int) := by omega
      have hbb := T0.2
      obtain ⟨p2, cap2, hsl, _⟩ := T0.1
      subst hsl
      obtain ⟨z, hz⟩ : ∃ z, l.length = z := ⟨_, rfl⟩
      rw [hz] at c1 CM HC HX
      clear he hu hb hgd q5 q6 q8 HM HI hm mb T0
      go_wp2_with fail
      refine CM.mono ?_
      rintro e w1 ⟨rfl, T1, R1⟩
      have HI2 := HX.out w1 T1 R1
      have HI2 : Hid _ := HI2
      have HT2 : Hid (TurnedIn lo hi w w1) := HT.out.trans (R1.mono hbb.1 (by omega))
      clear T1 R1 CM HX HT
      go_wp2_with fail
      go_roundw
      case rel => exact ⟨k + 1, m + z, by omega, by go_num, rfl, HC, HI2.out, HT2⟩
      case measure => simp [intOf]; omega
    · obtain rfl : k = n := by omega
      have hm := HM.out
      subst hm
      clear HM
      go_wp2_with fail
      go_ret
      obtain ⟨q5, q6⟩ := HI.out
      refine ⟨rfl, ⟨p, cap, vs, bs, by rw [marksL_length, HN.out.1], by rw [marksL_length, HN.out.1]; exact hcap, by rw [marksL_length, HN.out.1]; exact HN.out.2.1, by rw [marksL_length, HN.out.1]; exact HN.out.2.2, by rw [marksL_length]; exact q5, q6, H7.out⟩, HT.out⟩

end Go.Proofs.YtkjbeciiecljgaaDoor
