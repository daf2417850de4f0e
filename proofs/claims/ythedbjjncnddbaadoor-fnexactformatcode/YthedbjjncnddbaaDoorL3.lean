/-
  Chapter 10: formats compared; rows of formats compared by the library.
-/
import Derived.Test.YthedbjjncnddbaaDoorL2
namespace Go.Proofs.YthedbjjncnddbaaDoor
open Go.RowKit

theorem KT.eq_iff (e f : KT) : e = f ↔ (e.ng = f.ng ∧ e.bf = f.bf ∧ e.af = f.af ∧ e.wh = f.wh ∧ e.pl = f.pl ∧ e.mb = f.mb ∧ e.gr = f.gr ∧ e.tm = f.tm ∧ e.dt = f.dt) := by
  constructor
  · rintro rfl; simp
  · rintro ⟨h1, h2, h3, h4, h5, h6, h7, h8, h9⟩
    cases e; cases f
    simp_all
instance : DecidableEq KT := fun e f => decidable_of_iff _ (KT.eq_iff e f).symm
set_option maxHeartbeats 4000000 in
theorem kt_neq (e f : KT) (W : World) :
    (binOp BinOp.neq 33 (.agg #[.bool e.ng, sV e.bf, sV e.af, .int .i64 e.wh, .int .i64 e.pl, .int .i64 e.mb, .bool e.gr, .int .i64 e.tm, sV e.dt]) (.agg #[.bool f.ng, sV f.bf, sV f.af, .int .i64 f.wh, .int .i64 f.pl, .int .i64 f.mb, .bool f.gr, .int .i64 f.tm, sV f.dt])).run Tryd.prog W = .ok (.bool (!decide (e = f))) W := by
  by_cases h : e = f
  · subst h
    rw [decide_eq_true rfl]
    go_simp
  · rw [decide_eq_false h]
    rw [KT.eq_iff] at h
    obtain ⟨a1, a2, a3, a4, a5, a6, a7, a8, a9⟩ := e
    obtain ⟨b1, b2, b3, b4, b5, b6, b7, b8, b9⟩ := f
    dsimp only at h ⊢
    have H : Hid (¬ (a1 = b1 ∧ a2 = b2 ∧ a3 = b3 ∧ a4 = b4 ∧ a5 = b5 ∧ a6 = b6 ∧ a7 = b7 ∧ a8 = b8 ∧ a9 = b9)) := h
    clear h
    go_simp
    intros
    have := H.out
    simp_all

theorem take_eq_step {l l' : List KT} {k : Nat} {e f : KT} (h : l.take k = l'.take k) (he : l[k]? = some e) (hf : l'[k]? = some f) (hef : e = f) : l.take (k + 1) = l'.take (k + 1) := by
  rw [List.take_add_one, List.take_add_one, h, he, hf, hef]
set_option maxRecDepth 8000 in
set_option maxHeartbeats 4000000 in
theorem equalF (v v' : Value) (l l' : List KT) (w : World) (h : FormatsIn w v l) (h' : FormatsIn w v' l') (hl : l.length ≤ 2000000) :
    Calls Tryd.prog 25 #[v, v'] w fun e w' => e = .returned (.bool (decide (l = l'))) ∧ Ext w w' := by
  obtain ⟨p, cap, rfl, hcap, hrow⟩ := h
  obtain ⟨p', cap', rfl, hcap', hrow'⟩ := h'
  by_cases hne : l.length = l'.length
  · obtain ⟨n, hn⟩ : ∃ n, l.length = n := ⟨_, rfl⟩
    have hn' : l'.length = n := by rw [← hne, hn]
    have HN : Hid (l.length = n) := hn
    have HN' : Hid (l'.length = n) := hn'
    rw [hn] at hcap hl hrow ⊢
    rw [hn'] at hcap' hrow' ⊢
    have HRow : Hid (0 < n → ∃ b o, p = some ⟨b, o, none⟩ ∧ RowK w b o l) := hrow
    have HRow' : Hid (0 < n → ∃ b o, p' = some ⟨b, o, none⟩ ∧ RowK w b o l') := hrow'
    have HEq : Hid (l.take n = l'.take n → l = l') := fun e => by rw [List.take_of_length_le (by omega), List.take_of_length_le (by omega)] at e; exact e
    have HNe : Hid (∀ (k : Nat) (e f : KT), l[k]? = some e → l'[k]? = some f → e ≠ f → l ≠ l') := fun k e f he hf hd q => by rw [q] at he; rw [he] at hf; exact hd (Option.some.inj hf)
    obtain ⟨R, hR⟩ : ∃ R, decide (l = l') = R := ⟨_, rfl⟩
    have HR : Hid (decide (l = l') = R) := hR
    rw [hR]
    clear hn hn' hrow hrow' hne hR
    go_enter Tryd.func25, Tryd.ntmps25
    go_wp2_with fail
    go_loopw [13] (fun i wr => ∃ k : Nat, k ≤ n ∧ i = .int .i64 k ∧ Hid (l.take k = l'.take k) ∧ Ext w wr) (fun i _ => n - (intOf i).toNat)
    case atStart => exact ⟨0, by omega, rfl, by show _ = _; rfl, xr _⟩
    case round =>
      obtain ⟨k, hk, rfl, HT, X⟩ := hrel
      by_cases hlt : k < n
      · obtain ⟨e, he⟩ : ∃ e, l[k]? = some e := ⟨_, List.getElem?_eq_getElem (by rw [HN.out]; exact hlt)⟩
        obtain ⟨f, hf⟩ : ∃ f, l'[k]? = some f := ⟨_, List.getElem?_eq_getElem (by rw [HN'.out]; exact hlt)⟩
        obtain ⟨b, o, rfl, hRw⟩ := HRow.out (by omega)
        obtain ⟨b', o', rfl, hRw'⟩ := HRow'.out (by omega)
        obtain ⟨a0, a1, a2, a3, a4, a5, a6, a7, a8⟩ := (hRw.later X).all he
        obtain ⟨c0, c1, c2, c3, c4, c5, c6, c7, c8⟩ := (hRw'.later X).all hf
        have KN := fun W => kt_neq e f W
        obtain ⟨d, hd⟩ : ∃ d, decide (e = f) = d := ⟨_, rfl⟩
        simp only [hd] at KN
        have i2 : (k : Int) < (n : Int) := by omega
        have i1 : (0 : Int) ≤ (k : Int) := by omega
        clear hRw hRw'
        cases d
        · have HF : Hid (R = false) := by show _ = _; rw [← HR.out, decide_eq_false (HNe.out k e f he hf (of_decide_eq_false hd))]
          clear he hf hd HT
          go_wp2_with fail
          go_quiet (fail)
          go_wp2_with fail
          go_ret
          exact ⟨ret_bool (by rw [HF.out]), xdNk X _⟩
        · have HT2 : Hid (l.take (k + 1) = l'.take (k + 1)) := take_eq_step HT.out he hf (of_decide_eq_true hd)
          clear he hf hd HT
          go_wp2_with fail
          go_quiet (fail)
          go_wp2_with fail
          go_roundw
          case rel => exact ⟨k + 1, by omega, by go_num, HT2, xdNk X _⟩
          case measure => simp [intOf]; omega
      · obtain rfl : k = n := by omega
        have HF : Hid (R = true) := by show _ = _; rw [← HR.out, decide_eq_true (HEq.out HT.out)]
        clear HT
        go_wp2_with fail
        go_ret
        exact ⟨ret_bool (by rw [HF.out]), X⟩
  · have i1 : (l.length : Int) ≠ (l'.length : Int) := by omega
    rw [decide_eq_false (fun e => hne (by rw [e]))]
    clear hrow hrow'
    go_enter Tryd.func25, Tryd.ntmps25
    go_wp2_with fail
    go_ret
    exact ⟨rfl, xr _⟩

end Go.Proofs.YthedbjjncnddbaaDoor
