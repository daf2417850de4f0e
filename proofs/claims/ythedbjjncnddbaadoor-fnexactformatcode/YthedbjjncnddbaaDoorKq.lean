/-
  Chapter 10: a text in quotes, as the specification reads it.
-/
import Derived.Test.YthedbjjncnddbaaDoorKc
import Derived.Deep.LoopGhost
namespace Go.Proofs.YthedbjjncnddbaaDoor
open Go.RowKit

theorem get_drop {l : BL} {j : Nat} (h : j < l.length) : l.drop j = l.getD j 0 :: l.drop (j + 1) := drop_atA h
/-- What is known while the quotes' end is looked for. -/
def SeekK (l : BL) (k j : Nat) (P : UInt8 → Bool) : Prop := k ≤ j ∧ j ≤ l.length ∧ (l.drop k).take (j - k) ++ (l.drop j).takeWhile P = (l.drop k).takeWhile P ∧ (l.drop j).dropWhile P = (l.drop k).dropWhile P
theorem SeekK.start {l : BL} {k : Nat} {P : UInt8 → Bool} (h : k ≤ l.length) : SeekK l k k P := ⟨Nat.le_refl _, h, by simp, rfl⟩
theorem SeekK.step {l : BL} {k j : Nat} {P : UInt8 → Bool} (h : SeekK l k j P) (hj : j < l.length) (hp : P (l.getD j 0) = true) : SeekK l k (j + 1) P := by
  obtain ⟨h1, h2, h3, h4⟩ := h
  refine ⟨by omega, by omega, ?_, ?_⟩
  · rw [← h3, get_drop hj]
    simp only [List.takeWhile, hp]
    rw [show j + 1 - k = (j - k) + 1 by omega, List.take_add_one]
    have : (l.drop k)[j - k]? = some (l.getD j 0) := by
      rw [List.getElem?_drop, show k + (j - k) = j by omega, List.getElem?_eq_getElem hj]
      simp [hj]
    rw [this]
    simp
  · rw [← h4, get_drop hj]
    simp only [List.dropWhile, hp]
theorem SeekK.stop {l : BL} {k j : Nat} {P : UInt8 → Bool} (h : SeekK l k j P) (he : j = l.length ∨ P (l.getD j 0) = false) : (l.drop k).takeWhile P = (l.drop k).take (j - k) ∧ j = k + ((l.drop k).takeWhile P).length ∧ l.drop j = (l.drop k).dropWhile P := by
  obtain ⟨h1, h2, h3, h4⟩ := h
  have ht : (l.drop j).takeWhile P = [] ∧ (l.drop j).dropWhile P = l.drop j := by
    by_cases hj : j < l.length
    · have hp : P (l.getD j 0) = false := by
        rcases he with he | he
        · omega
        · exact he
      rw [get_drop hj]
      simp only [List.takeWhile, List.dropWhile, hp]
      exact ⟨trivial, trivial⟩
    · rw [List.drop_eq_nil_of_le (by omega)]
      exact ⟨rfl, rfl⟩
  rw [ht.1, List.append_nil] at h3
  rw [ht.2] at h4
  refine ⟨h3.symm, ?_, h4⟩
  rw [← h3, List.length_take, List.length_drop]
  omega
def nq (c : UInt8) : Bool := c != 34
theorem nq_head (r : BL) : Lib.hasPrefix (r.dropWhile nq) [34] = decide (r.dropWhile nq ≠ []) := by
  cases h : r.dropWhile nq with
  | nil => simp [Lib.hasPrefix, List.isPrefixOf]
  | cons c t =>
    have hc : nq c = false := by
      have : ∀ (m : BL), m.dropWhile nq = c :: t → nq c = false := by
        intro m
        induction m with
        | nil => intro h; cases h
        | cons d m ih =>
          intro h
          cases hd : nq d
          · simp only [List.dropWhile, hd] at h
            cases h
            exact hd
          · simp only [List.dropWhile, hd] at h
            exact ih h
      exact this r h
    have : c = 34 := by simpa [nq] using hc
    subst this
    simp [Lib.hasPrefix, List.isPrefixOf]
theorem qT_eq {l : BL} (h : Lib.hasPrefix l [34] = true) : quoS l = if ((l.drop 1).dropWhile nq ≠ []) ∧ ((l.drop 1).takeWhile nq ≠ []) ∧ ((l.drop 1).takeWhile nq).length ≤ 20 ∧ plainB ((l.drop 1).takeWhile nq) = true then some ((l.drop 1).takeWhile nq, ((l.drop 1).dropWhile nq).drop 1) else none := by
  unfold quoS
  rw [if_pos h]
  cases l with
  | nil => cases h
  | cons c r =>
    have hc : (c == 34) = true := by
      simp [Lib.hasPrefix, List.isPrefixOf] at h
      rw [← h]; rfl
    show (if (c == 34) = true then _ else none) = _
    rw [if_pos hc]
    rfl

set_option maxRecDepth 8000 in
set_option maxHeartbeats 2000000 in
theorem quotedK (b : Nat) (l : BL) (k : Nat) (w : World) (h : AtK w b l k) :
    Calls Tryd.prog 39 #[.pointer (some ⟨b, 0, none⟩)] w fun e w' => (∃ k', AtK w' b l k' ∧ ((∃ x, quoS (l.drop k) = some x ∧ e = .returned (.tuple #[sV x.1, .bool true]) ∧ l.drop k' = x.2 ∧ k ≤ k') ∨ (quoS (l.drop k) = none ∧ e = .returned (.tuple #[sV [], .bool false])))) ∧ OnlyK b w w' := by
  have CT := takeK b l [34] k w h (by simp)
  have hl : l.length ≤ 1000 := h.2.2
  have HH : Hid (AtK w b l k) := h
  clear h
  obtain ⟨p, hp⟩ : ∃ p, Lib.hasPrefix (l.drop k) [34] = p := ⟨_, rfl⟩
  rw [hp] at CT
  have CT : Calls Tryd.prog 27 #[.pointer (some ⟨b, 0, none⟩), sV [34]] w fun e w' => e = .returned (.bool p) ∧ AtK w' b l (if p = true then k + 1 else k) ∧ OnlyK b w w' := CT
  cases p
  · have HQ : Hid (quoS (l.drop k) = some ([], l.drop k)) := by show _ = _; unfold quoS; rw [hp]; rfl
    clear hp
    go_enter Tryd.func39, Tryd.ntmps39
    go_wp2_with fail
    refine CT.mono ?_
    rintro e w1 ⟨rfl, hA, o1⟩
    go_wp2_with fail
    exact bodyPost_ret (v := .tuple #[sV [], .bool true]) (by simp [results, Tryd.results39, go_sem]) rfl ⟨⟨k, hA, .inl ⟨_, HQ.out, rfl, rfl, Nat.le_refl _⟩⟩, o1⟩
  · have hk1 : k + 1 ≤ l.length := by
      rcases drop_pre hp with h1 | h1
      · exact h1
      · cases h1
    have HQ := qT_eq hp
    rw [List.drop_drop] at HQ
    have HQ : Hid (quoS (l.drop k) = if ((l.drop (k + 1)).dropWhile nq ≠ []) ∧ ((l.drop (k + 1)).takeWhile nq ≠ []) ∧ ((l.drop (k + 1)).takeWhile nq).length ≤ 20 ∧ plainB ((l.drop (k + 1)).takeWhile nq) = true then some ((l.drop (k + 1)).takeWhile nq, ((l.drop (k + 1)).dropWhile nq).drop 1) else none) := HQ
    obtain ⟨Q, hQ⟩ : ∃ Q, quoS (l.drop k) = Q := ⟨_, rfl⟩
    rw [hQ] at HQ ⊢
    clear hp hQ
    go_enter Tryd.func39, Tryd.ntmps39
    go_wp2_with fail
    refine CT.mono ?_
    rintro e w1 ⟨rfl, hA, o1⟩
    have hA : AtK w1 b l (k + 1) := hA
    have c1 : w1.cell? ⟨b, 1, none⟩ = some (.int .i64 ((k + 1 : Nat) : Int)) := (hA.1 1 _ rfl).1
    clear CT HH
    go_wp2_with fail
    clear c1
    go_loopg [] (l.length - (k + 1)) (fun gk wr => ∃ j : Nat, Hid (j + gk = l.length) ∧ Hid (AtK wr b l j) ∧ Hid (SeekK l (k + 1) j nq) ∧ OnlyK b w wr)
    case atStart => exact ⟨k + 1, by show _ = _; omega, hA, SeekK.start hk1, o1⟩
    case round =>
      clear hA o1
      obtain ⟨j, HG, HA, HS, O⟩ := hrel
      have hj := HA.out.2.1
      have c0 : wr.cell? ⟨b, 0, none⟩ = some (.string ⟨l.toArray⟩) := (HA.out.1 0 _ rfl).1
      obtain ⟨c1, f1⟩ := HA.out.1 1 _ rfl
      obtain ⟨s, hs⟩ : ∃ s : ByteArray, (⟨l.toArray⟩ : ByteArray) = s := ⟨_, rfl⟩
      have HSL : Hid (s.data.toList = l) := by show _ = _; rw [← hs]
      have hsz := size_ofL' HSL.out
      have EX := ext_sub l (k + 1) j
      rw [hs] at c0 EX
      clear hs
      obtain ⟨n, hn⟩ : ∃ n, l.length = n := ⟨_, rfl⟩
      have HN : Hid (l.length = n) := hn
      rw [hn] at hj hl hk1 hsz
      clear hn
      by_cases hgo : j < n ∧ nq (l.getD j 0) = true
      · obtain ⟨hlt, hq⟩ := hgo
        have hks : j < s.size := by omega
        have hb0 := byte_atA HSL.out hks
        have HS2 : Hid (SeekK l (k + 1) (j + 1) nq) := HS.out.step (by rw [HN.out]; exact hlt) hq
        obtain ⟨c, hcc⟩ : ∃ c, l.getD j 0 = c := ⟨_, rfl⟩
        rw [hcc] at hb0 hq
        have hb : ((s[j]'hks).toNat : Int) = (c.toNat : Int) := by rw [hb0]
        have hc34 : c.toNat ≠ 34 := by
          intro e
          have : c = 34 := UInt8.toNat_inj.1 (by rw [e]; rfl)
          rw [this] at hq
          cases hq
        obtain ⟨N, hN⟩ : ∃ N : Int, (c.toNat : Int) = N := ⟨_, rfl⟩
        rw [hN] at hb
        have n1 : N ≠ 34 := by omega
        have i2 : (j : Int) < (n : Int) := by omega
        have g1 : decide ((j : Int) < (n : Int)) = true := by simp; omega
        have HP : Hid (∀ q, AtK ((wr.drewN q).setCell ⟨b, 1, none⟩ (.int .i64 ((j : Int) + 1))) b l (j + 1)) := fun q => by
          have := (HA.out.drewN q).put (j + 1) (by rw [HN.out]; omega)
          rw [Int.natCast_add] at this
          exact this
        clear hN hcc hb0 hq hc34 HS HA EX HQ
        go_wp2_with fail
        go_quiet (fail)
        go_wp2_with fail
        go_roundg (gk - 1)
        case measure => have := HG.out; have := HN.out; omega
        case rel => exact ⟨j + 1, by show _ = _; have := HG.out; have := HN.out; omega, HP.out _, HS2, (O.drewN _).set _⟩
      · have hst : j = n ∨ nq (l.getD j 0) = false := by
          by_cases h1 : j < n
          · right
            cases hc : nq (l.getD j 0) with
            | false => rfl
            | true => exact absurd ⟨h1, hc⟩ hgo
          · left; omega
        obtain ⟨hT, hjT, hD⟩ := HS.out.stop (by rw [HN.out]; exact hst)
        have hkj := HS.out.1
        clear HS hgo
        have hfin : ∀ (W : World), OnlyK b w W → AtK W b l j → s.extract (k + 1) j = ⟨((l.drop (k + 1)).takeWhile nq).toArray⟩ → True := fun _ _ _ _ => trivial
        clear hfin
        rw [← hT] at EX
        have hnh := nq_head (l.drop (k + 1))
        obtain ⟨T, hTT⟩ : ∃ T, (l.drop (k + 1)).takeWhile nq = T := ⟨_, rfl⟩
        obtain ⟨D, hDD⟩ : ∃ D, (l.drop (k + 1)).dropWhile nq = D := ⟨_, rfl⟩
        rw [hTT] at EX hjT HQ
        rw [hDD] at hD hnh HQ
        clear hT hTT hDD
        obtain ⟨X, hX⟩ : ∃ X, s.extract (k + 1) j = X := ⟨_, rfl⟩
        rw [hX] at EX
        have hXs : X.size = T.length := by rw [EX]; rfl
        have hTl : T.length ≤ 1000 := by omega
        have CT2 := fun W (hW : AtK W b l j) => takeK b l [34] j W hW (by simp)
        rw [hD, hnh] at CT2
        have PT : ∀ W, Calls Tryd.prog 54 #[.string X, .int .i64 20] W fun e w' => e = .returned (.bool (printN 20 T)) ∧ w' = W := fun W => by rw [EX]; exact printS 20 T W (by omega)
        have HXV : Hid (X = ⟨T.toArray⟩) := EX
        have HD : Hid (l.drop j = D) := hD
        have i0 : (0 : Int) ≤ (k : Int) + 1 := by omega
        have i1 : (k : Int) + 1 ≤ (j : Int) := by omega
        have i3 : (j : Int) ≤ (n : Int) := by omega
        clear EX hD hnh hjT
        by_cases hD0 : D = []
        · have HQ2 : Hid (Q = none) := by show _ = _; rw [HQ.out, if_neg (fun h => h.1 hD0)]
          have CT3 : ∀ W, AtK W b l j → Calls Tryd.prog 27 #[.pointer (some ⟨b, 0, none⟩), sV [34]] W fun e w' => e = .returned (.bool false) ∧ AtK w' b l j ∧ OnlyK b W w' := fun W hW => by
            have := CT2 W hW
            rw [decide_eq_false (fun h => h hD0)] at this
            exact this
          have hjn : j = n := by
            have := congrArg List.length HD.out
            rw [hD0, List.length_drop, HN.out] at this
            simp at this
            omega
          have g1 : decide ((j : Int) < (n : Int)) = false := by simp; omega
          have i2 : (n : Int) ≤ (j : Int) := by omega
          have g2 : ¬ (j < n) := by omega
          clear CT2 HQ PT hD0 hst hjn
          go_wp2_with fail
          go_quiet (fail)
          go_wp2_with fail
          go_quiet (fail)
          go_wp2_with fail
          refine (CT3 _ (HA.out.drewN _)).mono ?_
          rintro e w2 ⟨rfl, hA2, o2⟩
          go_wp2_with fail
          exact bodyPost_ret (v := .tuple #[sV [], .bool false]) (by simp [results, Tryd.results39, go_sem]) rfl ⟨⟨j, hA2, .inr ⟨HQ2.out, rfl⟩⟩, (O.drewN _).trans o2⟩
        · have CT3 : ∀ W, AtK W b l j → Calls Tryd.prog 27 #[.pointer (some ⟨b, 0, none⟩), sV [34]] W fun e w' => e = .returned (.bool true) ∧ AtK w' b l (j + 1) ∧ OnlyK b W w' := fun W hW => by
            have := CT2 W hW
            rw [decide_eq_true hD0] at this
            exact this
          have hjn : j < n := by
            have h0 : D.length ≠ 0 := fun h => hD0 (List.length_eq_zero_iff.1 h)
            have := congrArg List.length HD.out
            rw [List.length_drop, HN.out] at this
            omega
          have HD1 : Hid (l.drop (j + 1) = D.drop 1) := by show _ = _; rw [← HD.out, List.drop_drop]
          have hks : j < s.size := by omega
          have hb0 := byte_atA HSL.out hks
          have hq34 : nq (l.getD j 0) = false := by
            rcases hst with h1 | h1
            · omega
            · exact h1
          obtain ⟨c, hcc⟩ : ∃ c, l.getD j 0 = c := ⟨_, rfl⟩
          rw [hcc] at hb0 hq34
          have hb : ((s[j]'hks).toNat : Int) = 34 := by
            rw [hb0]
            have : c = 34 := by simpa [nq] using hq34
            rw [this]; rfl
          have g1 : decide ((j : Int) < (n : Int)) = true := by simp; omega
          have i2 : (j : Int) < (n : Int) := by omega
          clear CT2 hst hcc hb0 hq34
          by_cases hT0 : T.length < 1
          · have HQ2 : Hid (Q = none) := by show _ = _; rw [HQ.out, if_neg (fun h => h.2.1 (List.length_eq_zero_iff.1 (by omega)))]
            have t0 : (T.length : Int) < 1 := by omega
            clear HQ PT hT0
            go_wp2_with fail
            go_quiet (fail)
            go_wp2_with fail
            go_quiet (fail)
            go_wp2_with fail
            refine (CT3 _ (HA.out.drewN _)).mono ?_
            rintro e w2 ⟨rfl, hA2, o2⟩
            go_wp2_with fail
            exact bodyPost_ret (v := .tuple #[sV [], .bool false]) (by simp [results, Tryd.results39, go_sem]) rfl ⟨⟨j + 1, hA2, .inr ⟨HQ2.out, rfl⟩⟩, (O.drewN _).trans o2⟩
          · have t0 : 1 ≤ (T.length : Int) := by omega
            have HT0 : Hid (T ≠ []) := fun e => hT0 (by rw [e]; decide)
            obtain ⟨pr, hpr⟩ : ∃ pr, printN 20 T = pr := ⟨_, rfl⟩
            rw [hpr] at PT
            cases pr
            · have HQ2 : Hid (Q = none) := by
                show _ = _
                rw [HQ.out, if_neg]
                rintro ⟨_, _, h3, h4⟩
                unfold printN at hpr
                unfold plainB at h4
                rw [h4, decide_eq_true h3] at hpr
                cases hpr
              clear HQ hT0 hpr
              go_wp2_with fail
              go_quiet (fail)
              go_wp2_with fail
              go_quiet (fail)
              go_wp2_with fail
              refine (CT3 _ (HA.out.drewN _)).mono ?_
              rintro e w2 ⟨rfl, hA2, o2⟩
              go_wp2_with fail
              refine (PT _).mono ?_
              rintro e w3 ⟨rfl, rfl⟩
              go_wp2_with fail
              exact bodyPost_ret (v := .tuple #[sV [], .bool false]) (by simp [results, Tryd.results39, go_sem]) rfl ⟨⟨j + 1, hA2, .inr ⟨HQ2.out, rfl⟩⟩, (O.drewN _).trans o2⟩
            · have HQ2 : Hid (Q = some (T, D.drop 1)) := by
                show _ = _
                unfold printN at hpr
                rw [Bool.and_eq_true] at hpr
                rw [HQ.out, if_pos ⟨hD0, HT0.out, of_decide_eq_true hpr.2, hpr.1⟩]
              clear HQ hT0 hpr
              go_wp2_with fail
              go_quiet (fail)
              go_wp2_with fail
              go_quiet (fail)
              go_wp2_with fail
              refine (CT3 _ (HA.out.drewN _)).mono ?_
              rintro e w2 ⟨rfl, hA2, o2⟩
              go_wp2_with fail
              refine (PT _).mono ?_
              rintro e w3 ⟨rfl, rfl⟩
              go_wp2_with fail
              exact bodyPost_ret (v := .tuple #[.string X, .bool true]) (by simp [results, Tryd.results39, go_sem]) rfl ⟨⟨j + 1, hA2, .inl ⟨_, HQ2.out, by rw [HXV.out], HD1.out, by omega⟩⟩, (O.drewN _).trans o2⟩

end Go.Proofs.YthedbjjncnddbaaDoor
