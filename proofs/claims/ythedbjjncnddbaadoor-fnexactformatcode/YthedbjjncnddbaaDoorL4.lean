/-
  Chapter 10: codes told by the specification.
-/
import Derived.Test.YthedbjjncnddbaaDoorL3
namespace Go.Proofs.YthedbjjncnddbaaDoor
open Go.RowKit

def wideK (f : KT) : Nat := f.bf.length + f.af.length + f.dt.length
/-- The codes of the first so many, with marks between. -/
def jk (l : List KT) : Nat → BL
  | 0 => []
  | k + 1 => (if 0 < k then jk l k ++ [59] else jk l k) ++ codeS (l.getD k zeroKT)
def toldS (l : List KT) : BL := if l.length < 1 ∨ 3 < l.length then [] else if l.any (fun f => decide (200 < wideK f)) then [] else if readF (jk l l.length) = l then jk l l.length else []
theorem codeS_len (f : KT) (h : wideK f ≤ 200) : (codeS f).length ≤ 300 := by
  unfold wideK at h
  unfold codeS
  have q1 := quoB_len f.bf
  have q2 := quoB_len f.af
  simp only [List.length_append]
  split
  · unfold numC
    have m1 := minI_le f.wh 20
    have m2 := minI_le f.pl 20
    have m3 := minI_le f.mb 20
    have m4 := minI_le f.tm 20
    have r1 := repF_le [48] (minI f.wh 20).toNat rfl
    have r2 := repF_le [48] (minI f.pl 20).toNat rfl
    have r3 := repF_le [35] (minI f.mb 20).toNat rfl
    have r4 := repF_le [37] (minI f.tm 20).toNat rfl
    simp only [List.length_append]
    rw [r1, r4]
    have g : (if f.gr then ([35, 44] : BL) else []).length ≤ 2 := by split <;> simp
    have h : (if (decide (0 < wrap64 (f.pl + f.mb))) then (46 :: (repF [48] (minI f.pl 20).toNat ++ repF [35] (minI f.mb 20).toNat) : BL) else []).length ≤ 41 := by
      split
      · simp only [List.length_cons, List.length_append]; rw [r2, r3]; omega
      · simp
    omega
  · omega

theorem readL_lenK : ∀ (k : Nat) (l : BL) (acc : List KT), (readL k l acc).length ≤ acc.length + k := by
  intro k
  induction k with
  | zero => intro l acc; simp [readL]
  | succ k ih =>
    intro l acc
    simp only [readL]
    cases secS l with
    | none => simp
    | some x =>
      dsimp only
      split
      · simp
      · split
        · rw [List.length_append]; simp
        · split
          · have := ih (x.2.drop 1) (acc ++ [x.1])
            rw [List.length_append, List.length_singleton] at this
            omega
          · simp
theorem readL_len4 (l : BL) : (readF l).length ≤ 4 := by
  unfold readF
  split
  · simp
  · have := readL_lenK 4 l []
    simpa using this
set_option maxRecDepth 8000 in
set_option maxHeartbeats 8000000 in
theorem toldSS (v : Value) (l : List KT) (w : World) (h : FormatsIn w v l) (hl : l.length ≤ 2000000) (ht : ∀ f ∈ l, f.bf.length ≤ 2000000 ∧ f.af.length ≤ 2000000 ∧ f.dt.length ≤ 2000000) :
    Calls Tryd.prog 11 #[v] w fun e w' => e = .returned (sV (toldS l)) ∧ Ext w w' := by
  obtain ⟨p, cap, rfl, hcap, hrow⟩ := h
  obtain ⟨n, hn⟩ : ∃ n, l.length = n := ⟨_, rfl⟩
  have HN : Hid (l.length = n) := hn
  obtain ⟨R, hR⟩ : ∃ R, toldS l = R := ⟨_, rfl⟩
  have HR : Hid ((if n < 1 ∨ 3 < n then [] else if l.any (fun f => decide (200 < wideK f)) then [] else if readF (jk l n) = l then jk l n else []) = R) := by show _ = _; rw [← hR, ← hn]; rfl
  rw [hR]
  rw [hn] at hcap hl hrow ⊢
  have HRow : Hid (0 < n → ∃ b o, p = some ⟨b, o, none⟩ ∧ RowK w b o l) := hrow
  have HTx : Hid (∀ f ∈ l, f.bf.length ≤ 2000000 ∧ f.af.length ≤ 2000000 ∧ f.dt.length ≤ 2000000) := ht
  clear hn hR hrow ht
  by_cases hlen : n < 1 ∨ 3 < n
  · have HE : Hid (R = []) := by show _ = _; rw [← HR.out, if_pos hlen]
    clear HR
    by_cases h1 : n < 1
    · have i1 : (n : Int) < 1 := by omega
      clear hlen
      go_enter Tryd.func11, Tryd.ntmps11
      go_wp2_with fail
      go_ret
      exact ⟨by rw [HE.out] <;> rfl, xr _⟩
    · have i1 : 1 ≤ (n : Int) := by omega
      have i2 : 3 < (n : Int) := by omega
      clear hlen
      go_enter Tryd.func11, Tryd.ntmps11
      go_wp2_with fail
      go_ret
      exact ⟨by rw [HE.out] <;> rfl, xr _⟩
  · have i1 : 1 ≤ (n : Int) := by omega
    have i2 : (n : Int) ≤ 3 := by omega
    have HR : Hid ((if l.any (fun f => decide (200 < wideK f)) then [] else if readF (jk l n) = l then jk l n else []) = R) := by show _ = _; rw [← HR.out, if_neg hlen]
    have hn3 : n ≤ 3 := by omega
    clear hlen
    go_enter Tryd.func11, Tryd.ntmps11
    go_wp2_with fail
    go_loopw [3, 18] (fun s i wr => ∃ k : Nat, k ≤ n ∧ i = .int .i64 k ∧ s = sV (jk l k) ∧ Hid ((jk l k).length ≤ k * 400) ∧ Hid (∀ f ∈ l.take k, wideK f ≤ 200) ∧ Ext w wr) (fun _ i _ => n - (intOf i).toNat)
    case atStart => exact ⟨0, by omega, rfl, rfl, by show _ ≤ _; simp [jk], fun f hf => by simp at hf, xr _⟩
    case round =>
      obtain ⟨k, hk, rfl, rfl, HL, HW, X⟩ := hrel
      by_cases hlt : k < n
      · obtain ⟨f, hf⟩ : ∃ f, l[k]? = some f := ⟨_, List.getElem?_eq_getElem (by rw [HN.out]; exact hlt)⟩
        have hmem : f ∈ l := List.mem_of_getElem? hf
        obtain ⟨b, o, rfl, hRw⟩ := HRow.out (by omega)
        obtain ⟨a0, a1, a2, a3, a4, a5, a6, a7, a8⟩ := (hRw.later X).all hf
        obtain ⟨t1, t2, t3⟩ := HTx.out f hmem
        have s1 := szB f.bf
        have s2 := szB f.af
        have s3 := szB f.dt
        have j2 : (k : Int) < (n : Int) := by omega
        have j1 : (0 : Int) ≤ (k : Int) := by omega
        by_cases hw : 200 < wideK f
        · have HE : Hid (R = []) := by
            show _ = _
            rw [← HR.out, if_pos]
            rw [List.any_eq_true]
            exact ⟨f, hmem, decide_eq_true hw⟩
          have j3 : 200 < (f.bf.length : Int) + (f.af.length : Int) + (f.dt.length : Int) := by unfold wideK at hw; omega
          clear HR HW hf hmem hRw hw
          go_wp2_with fail
          go_ret
          exact ⟨by rw [HE.out] <;> rfl, xa X _⟩
        · have j3 : (f.bf.length : Int) + (f.af.length : Int) + (f.dt.length : Int) ≤ 200 := by unfold wideK at hw; omega
          have hwk : wideK f ≤ 200 := by omega
          have CC := fun W => codeSS f W (by unfold wideK at hwk; omega) (by unfold wideK at hwk; omega) (by unfold wideK at hwk; omega)
          have hcl := codeS_len f hwk
          have hgd : l.getD k zeroKT = f := by rw [List.getD_eq_getElem?_getD, hf]; rfl
          have HW2 : Hid (∀ f ∈ l.take (k + 1), wideK f ≤ 200) := fun g hg => by
            rw [List.take_add_one, hf] at hg
            rcases List.mem_append.1 hg with hg | hg
            · exact HW.out g hg
            · have : g = f := by simpa using hg
              rw [this]; exact hwk
          have hj : jk l (k + 1) = (if 0 < k then jk l k ++ [59] else jk l k) ++ codeS f := by rw [← hgd]; rfl
          have HL2 : Hid ((jk l (k + 1)).length ≤ (k + 1) * 400) := by
            show _ ≤ _
            have := HL.out
            rw [hj, List.length_append]
            split
            · rw [List.length_append]; simp; omega
            · omega
          have hLk : (jk l k).length ≤ 1200 := by have := HL.out; omega
          have HJ : Hid (jk l (k + 1) = (if 0 < k then jk l k ++ [59] else jk l k) ++ codeS f) := hj
          obtain ⟨J, hJ⟩ : ∃ J, jk l k = J := ⟨_, rfl⟩
          obtain ⟨c, hc⟩ : ∃ c, codeS f = c := ⟨_, rfl⟩
          rw [hJ] at HJ hLk ⊢
          rw [hc] at HJ hcl
          simp only [hc] at CC
          have z1 := szB J
          have z2 := szB c
          have E1 := x1 wr (.cells f.cells.toArray 33)
          clear HL HW hf hmem hRw hw hwk hgd hj hJ hc HR
          by_cases hk0 : 0 < k
          · have i5 : 0 < (k : Int) := by omega
            have HJ2 : Hid (jk l (k + 1) = J ++ [59] ++ c) := by show _ = _; rw [HJ.out, if_pos hk0]
            have z3 := szB (J ++ [59])
            rw [List.length_append] at z3
            have A1 : Hid ((⟨J.toArray⟩ ++ ⟨#[59]⟩ : ByteArray) = ⟨(J ++ [59]).toArray⟩) := app_str _ _
            go_wp2_with fail
            refine (CC _).mono ?_
            rintro e w2 ⟨rfl, e2⟩
            go_wp2_with fail
            go_roundw
            case rel => exact ⟨k + 1, by omega, by go_num, by rw [HJ2.out]; simp only [app_str], HL2, HW2, xt (xt X E1) e2⟩
            case measure => simp [intOf]; omega
          · have i5 : (k : Int) ≤ 0 := by omega
            have HJ2 : Hid (jk l (k + 1) = J ++ c) := by show _ = _; rw [HJ.out, if_neg hk0]
            go_wp2_with fail
            refine (CC _).mono ?_
            rintro e w2 ⟨rfl, e2⟩
            go_wp2_with fail
            go_roundw
            case rel => exact ⟨k + 1, by omega, by go_num, by rw [HJ2.out]; simp only [app_str], HL2, HW2, xt (xt X E1) e2⟩
            case measure => simp [intOf]; omega
      · obtain rfl : k = n := by omega
        have HQ : Hid ((if readF (jk l k) = l then jk l k else []) = R) := by
          show _ = _
          rw [← HR.out]
          have : l.any (fun f => decide (200 < wideK f)) = false := by
            rw [List.any_eq_false]
            intro f hf
            have := HW.out f (by rw [List.take_of_length_le (by rw [HN.out]; exact Nat.le_refl _)]; exact hf)
            simp; omega
          rw [this]; rfl
        have CR := readS (jk l k) wr (by have := HL.out; omega)
        obtain ⟨J, hJ⟩ : ∃ J, jk l k = J := ⟨_, rfl⟩
        rw [hJ] at HQ CR ⊢
        clear HL HW hJ HR
        go_wp2_with fail
        refine CR.mono ?_
        rintro e w2 ⟨⟨v2, rfl, V2⟩, e2⟩
        have X2 := xt X e2
        obtain ⟨p2, cp2, hrow2⟩ := ownF_in V2
        obtain ⟨rfl, hcap2, hrw2⟩ := hrow2
        obtain ⟨D, hD⟩ : ∃ D, readF J = D := ⟨_, rfl⟩
        rw [hD] at HQ V2 hcap2 hrw2 ⊢
        have hdl : D.length ≤ 2000000 := by
          have := readL_len4 J
          rw [hD] at this
          omega
        obtain ⟨m, hm⟩ : ∃ m, D.length = m := ⟨_, rfl⟩
        have HMl : Hid (D.length = m) := hm
        rw [hm] at hcap2 hrw2 hdl ⊢
        have HRw2 : Hid (0 < m → ∃ b o, p2 = some ⟨b, o, none⟩ ∧ RowK w2 b o D) := hrw2
        clear hD hm hrw2 V2 CR e2
        by_cases hmk : m = k
        · subst hmk
          have HEq : Hid (D.take m = l.take m → D = l) := fun e => by rw [List.take_of_length_le (by rw [HMl.out]; exact Nat.le_refl _), List.take_of_length_le (by rw [HN.out]; exact Nat.le_refl _)] at e; exact e
          have HNe : Hid (∀ (k : Nat) (e f : KT), D[k]? = some e → l[k]? = some f → e ≠ f → D ≠ l) := fun k e f he hf hd q => by rw [q] at he; rw [he] at hf; exact hd (Option.some.inj hf)
          go_wp2_with fail
          go_loopw [53] (fun i wx => ∃ j : Nat, j ≤ m ∧ i = .int .i64 j ∧ Hid (D.take j = l.take j) ∧ Ext w2 wx) (fun i _ => m - (intOf i).toNat)
          case atStart => exact ⟨0, by omega, rfl, by show _ = _; rfl, xr _⟩
          case round =>
            obtain ⟨j, hj, rfl, HT, Y⟩ := hrel
            by_cases hlt2 : j < m
            · obtain ⟨e, he⟩ : ∃ e, D[j]? = some e := ⟨_, List.getElem?_eq_getElem (by rw [HMl.out]; exact hlt2)⟩
              obtain ⟨f, hf⟩ : ∃ f, l[j]? = some f := ⟨_, List.getElem?_eq_getElem (by rw [HN.out]; exact hlt2)⟩
              obtain ⟨b, o, rfl, hRw⟩ := HRow.out (by omega)
              obtain ⟨b', o', rfl, hRw'⟩ := HRw2.out (by omega)
              obtain ⟨c0, c1, c2, c3, c4, c5, c6, c7, c8⟩ := (hRw.later (xt X2 Y)).all hf
              obtain ⟨a0, a1, a2, a3, a4, a5, a6, a7, a8⟩ := (hRw'.later Y).all he
              have KN := fun W => kt_neq e f W
              obtain ⟨d, hd⟩ : ∃ d, decide (e = f) = d := ⟨_, rfl⟩
              simp only [hd] at KN
              have j2 : (j : Int) < (m : Int) := by omega
              have j1 : (0 : Int) ≤ (j : Int) := by omega
              clear hRw hRw'
              cases d
              · have HE : Hid (R = []) := by show _ = _; rw [← HQ.out, if_neg (HNe.out j e f he hf (of_decide_eq_false hd))]
                clear he hf hd HT HQ
                go_wp2_with fail
                go_quiet (fail)
                go_wp2_with fail
                go_ret
                exact ⟨by rw [HE.out] <;> rfl, xdNk (xt X2 Y) _⟩
              · have HT2 : Hid (D.take (j + 1) = l.take (j + 1)) := take_eq_step HT.out he hf (of_decide_eq_true hd)
                clear he hf hd HT HQ
                go_wp2_with fail
                go_quiet (fail)
                go_wp2_with fail
                go_roundw
                case rel => exact ⟨j + 1, by omega, by go_num, HT2, xdNk Y _⟩
                case measure => simp [intOf]; omega
            · obtain rfl : j = m := by omega
              have HE : Hid (R = J) := by show _ = _; rw [← HQ.out, if_pos (HEq.out HT.out)]
              clear HT HQ
              go_wp2_with fail
              go_ret
              exact ⟨by rw [HE.out] <;> rfl, xt X2 Y⟩
        · have HE : Hid (R = []) := by show _ = _; rw [← HQ.out, if_neg (fun e => hmk (by rw [← HMl.out, e, HN.out]))]
          have i9 : (m : Int) ≠ (k : Int) := by omega
          clear HQ
          go_wp2_with fail
          go_ret
          exact ⟨by rw [HE.out] <;> rfl, X2⟩

end Go.Proofs.YthedbjjncnddbaaDoor
