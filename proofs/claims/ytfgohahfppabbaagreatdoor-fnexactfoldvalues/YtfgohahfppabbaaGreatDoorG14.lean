/-
  Chapter 12: FoldValues of the specification, whole.
-/
import Derived.Test.YtfgohahfppabbaaGreatDoorG13
namespace Go.Proofs.YtfgohahfppabbaaGreatDoor
open Go.RowKit

theorem foldT_bad {f : Int} {l : List VT} (h : decide (1 ≤ f ∧ f ≤ 5) = false ∨ 2000 < l.length ∨ l.all VT.good = false) : foldT f l = badT := by
 unfold foldT
 by_cases h1 : decide (1 ≤ f ∧ f ≤ 5) = false
 ·
  rw [if_pos h1]
 ·
  rw [if_neg h1]
  by_cases h2 : 2000 < l.length
  ·
   rw [if_pos h2]
  ·
   rw [if_neg h2]
   rcases h with h | h | h
   ·
    exact absurd h h1
   ·
    exact absurd h h2
   ·
    rw [if_pos h]
theorem foldT_good {f : Int} {l : List VT} (h1 : 1 ≤ f ∧ f ≤ 5) (h2 : l.length ≤ 2000) (h3 : l.all VT.good = true) : foldT f l = innerT f l := by
 unfold foldT innerT
 rw [decide_eq_true h1, if_neg (by decide), if_neg (by omega), h3, if_neg (by decide)]
 rfl
theorem innerAll (f : Int) (v : Value) (l : List VT) (w : World) (h : ValsIn w v l) (hl : l.length ≤ 2000) (hf : 1 ≤ f ∧ f ≤ 5) (hg : l.all VT.good = true) :
  Calls Tryz.prog 13 #[v, .int .i64 f] w fun e w' => e = .returned (innerT f l).val ∧ Ext w w' := by
 by_cases h2 : f = 2
 ·
  subst h2
  exact innerS2 v l w h hl
 ·
  exact innerS f v l w h hl hf h2 hg
set_option maxRecDepth 8000 in
set_option maxHeartbeats 4000000 in
theorem foldVS (f : Int) (v : Value) (l : List VT) (w : World) (h : ValsIn w v l) (hl : l.length ≤ 1048576) (hr : ∀ e ∈ l, e.room) :
  Calls Tryz.prog 5 #[v, .int .i64 f] w fun e w' => e = .returned (foldT f l).val ∧ Ext w w' := by
 have X0 := x1 w (.cells #[.int .i64 0, .bool false, .int .i64 0, .int .i64 0, sV []] 27)
 have B0 := vec_made w (valL 0 false 0 0 []) 27
 change Vec (w.alloc (.cells #[.int .i64 0, .bool false, .int .i64 0, .int .i64 0, sV []] 27)) _ _ at B0
 obtain ⟨u0, hu0⟩ : ∃ u, w.alloc (.cells #[.int .i64 0, .bool false, .int .i64 0, .int .i64 0, sV []] 27) = u := ⟨_, rfl⟩
 rw [hu0] at X0 B0
 have HV : Hid (ValsIn w v l) := h
 have HBad : Hid (decide (1 ≤ f ∧ f ≤ 5) = false ∨ 2000 < l.length ∨ l.all VT.good = false → foldT f l = badT) := foldT_bad
 have HGood : Hid (1 ≤ f ∧ f ≤ 5 → l.length ≤ 2000 → l.all VT.good = true → foldT f l = innerT f l) := foldT_good
 have HR : Hid (∀ e ∈ l, e.room) := hr
 obtain ⟨R, hRR⟩ : ∃ R, foldT f l = R := ⟨_, rfl⟩
 rw [hRR] at HBad HGood ⊢
 obtain ⟨p, cap, rfl, hcap, hrow⟩ := h
 obtain ⟨n, hn⟩ : ∃ n, l.length = n := ⟨_, rfl⟩
 have HN : Hid (l.length = n) := hn
 rw [hn] at hcap hl hrow HV HBad HGood ⊢
 have HRow : Hid (0 < n → ∃ b o, p = some ⟨b, o, none⟩ ∧ RowV w b o l) := hrow
 clear hn hrow hRR hr
 by_cases h2 : 2000 < n
 ·
  obtain rfl : R = badT := HBad.out (Or.inr (Or.inl h2))
  have g2 : decide ((2000 : Int) < (n : Int)) = true := decide_eq_true (by omega)
  go_enter Tryz.func5, Tryz.ntmps5
  go_wp2_with fail
  clear hu0
  refine (errVS valueT _).mono ?_
  rintro rr w1 ⟨rfl, e1⟩
  obtain ⟨wy, hy, FX, ⟨b0, b1, b2, b3, b4⟩, ⟨fb0, fb1, fb2, fb3, fb4⟩, fd0, fd1, fd2, fd3, fd4⟩ := fin5 (B0.later e1) (xt X0 e1) (by omega) 4 false 0 0 valueT
  go_wp2_with fail
  exact bodyPost_ret (v := valV 4 false 0 0 valueT) (by simp [results, Tryz.results5, go_sem, fd0, fd1, fd2, fd3, fd4]) rfl ⟨rfl, FX⟩
 have g2 : decide ((2000 : Int) < (n : Int)) = false := decide_eq_false (by omega)
 have HS : Hid (Vec u0 w.heap.size (valL 0 false 0 0 []) ∧ Ext w u0 ∧ (l.take 0).all VT.good = true) := ⟨B0, X0, by simp⟩
 obtain ⟨B, hB⟩ : ∃ B, w.heap.size = B := ⟨_, rfl⟩
 have HB : Hid (w.heap.size = B) := hB
 rw [hB] at HS
 clear B0 X0
 go_enter Tryz.func5, Tryz.ntmps5
 go_wp2_with fail
 clear hu0 hB
 go_loopw [13] (fun i wr => ∃ k : Nat, k ≤ n ∧ i = .int .i64 k ∧ Hid (Vec wr B (valL 0 false 0 0 []) ∧ Ext w wr ∧ (l.take k).all VT.good = true)) (fun i _ => n - (intOf i).toNat)
 case atStart => exact ⟨0, by omega, rfl, HS⟩
 case round =>
  obtain ⟨k, hk, rfl, HO⟩ := hrel
  clear HS
  by_cases hlt : k < n
  ·
   have i2 : (k : Int) < (n : Int) := by omega
   obtain ⟨e, hx⟩ : ∃ x, l[k]? = some x := ⟨_, List.getElem?_eq_getElem (by rw [HN.out]; exact hlt)⟩
   obtain ⟨b, o, rfl, RW⟩ := HRow.out (by omega)
   obtain ⟨a0, a1, a2, a3, a4⟩ := (RW.later HO.out.2.1).five hx
   have HStep : Hid ((l.take (k + 1)).all VT.good = e.good) := by show _ = _; rw [all_step hx, HO.out.2.2]; rfl
   have HFal : Hid (e.good = false → l.all VT.good = false) := fun hb => all_bad hx hb
   have Y := x1 wr (.cells #[.int .i64 e.k, .bool e.n, .int .i64 e.d, .int .i64 e.x, sV e.t] 27)
   have KB := vec_made wr (valL e.k e.n e.d e.x e.t) 27
   change Vec (wr.alloc (.cells #[.int .i64 e.k, .bool e.n, .int .i64 e.d, .int .i64 e.x, sV e.t] 27)) _ _ at KB
   obtain ⟨wx, hwx⟩ : ∃ wx, wr.alloc (.cells #[.int .i64 e.k, .bool e.n, .int .i64 e.d, .int .i64 e.x, sV e.t] 27) = wx := ⟨_, rfl⟩
   rw [hwx] at Y KB
   have CG := goodVS e.k e.n e.d e.x e.t wx (HR.out e (List.mem_of_getElem? hx)).1
   change Calls _ _ _ _ fun r w' => r = .returned (.bool e.good) ∧ _ at CG
   obtain ⟨qg, hqg⟩ : ∃ q, e.good = q := ⟨_, rfl⟩
   rw [hqg] at CG HStep HFal
   have VB := HO.out.1.later Y
   have XW := xt HO.out.2.1 Y
   obtain ⟨ek, en, ed, ex, et⟩ := e
   dsimp only at a0 a1 a2 a3 a4 hwx KB CG
   obtain ⟨k0, k1, k2', k3, k4⟩ := Vec.five KB
   clear hx RW HO KB hqg
   go_wp2_with fail
   clear a0 a1 a2 a3 a4 k0 k1 k2' k3 k4 hwx
   refine CG.mono ?_
   rintro rr w2 ⟨rfl, e2⟩
   cases qg
   ·
    obtain rfl : R = badT := HBad.out (Or.inr (Or.inr (HFal.out (by first | rfl | trivial))))
    go_wp2_with fail
    refine (errVS valueT _).mono ?_
    rintro rr w3 ⟨rfl, e3⟩
    obtain ⟨wy, hy, FX, ⟨b0, b1, b2, b3, b4⟩, ⟨fb0, fb1, fb2, fb3, fb4⟩, fd0, fd1, fd2, fd3, fd4⟩ := fin5 ((VB.later e2).later e3) (xt (xt XW e2) e3) (by have := HB.out; omega) 4 false 0 0 valueT
    go_wp2_with fail
    exact bodyPost_ret (v := valV 4 false 0 0 valueT) (by simp [results, Tryz.results5, go_sem, fd0, fd1, fd2, fd3, fd4]) rfl ⟨rfl, FX⟩
   ·
    have HQ : Hid (Vec w2 B (valL 0 false 0 0 []) ∧ Ext w w2 ∧ (l.take (k + 1)).all VT.good = true) := ⟨VB.later e2, xt XW e2, HStep.out⟩
    clear VB XW HStep HFal CG
    go_wp2_with fail
    go_roundw
    case rel => exact ⟨k + 1, by omega, by go_num, HQ⟩
    case measure => simp [intOf]; omega
  ·
   obtain rfl : k = n := by omega
   have i2 : ¬ (k : Int) < (k : Int) := by omega
   have hall : l.all VT.good = true := by
    have := HO.out.2.2
    rw [List.take_of_length_le (by rw [HN.out]; exact Nat.le_refl _)] at this
    exact this
   have VB := HO.out.1
   have XW := HO.out.2.1
   by_cases h1 : f < 1
   ·
    obtain rfl : R = badT := HBad.out (Or.inl (decide_eq_false (by omega)))
    have g1 : decide (f < 1) = true := decide_eq_true h1
    clear HO
    go_wp2_with fail
    refine (errVS valueT _).mono ?_
    rintro rr w3 ⟨rfl, e3⟩
    obtain ⟨wy, hy, FX, ⟨b0, b1, b2, b3, b4⟩, ⟨fb0, fb1, fb2, fb3, fb4⟩, fd0, fd1, fd2, fd3, fd4⟩ := fin5 (VB.later e3) (xt XW e3) (by have := HB.out; omega) 4 false 0 0 valueT
    go_wp2_with fail
    exact bodyPost_ret (v := valV 4 false 0 0 valueT) (by simp [results, Tryz.results5, go_sem, fd0, fd1, fd2, fd3, fd4]) rfl ⟨rfl, FX⟩
   have g1 : decide (f < 1) = false := decide_eq_false h1
   by_cases h5 : 5 < f
   ·
    obtain rfl : R = badT := HBad.out (Or.inl (decide_eq_false (by omega)))
    have g5 : decide (5 < f) = true := decide_eq_true h5
    clear HO
    go_wp2_with fail
    refine (errVS valueT _).mono ?_
    rintro rr w3 ⟨rfl, e3⟩
    obtain ⟨wy, hy, FX, ⟨b0, b1, b2, b3, b4⟩, ⟨fb0, fb1, fb2, fb3, fb4⟩, fd0, fd1, fd2, fd3, fd4⟩ := fin5 (VB.later e3) (xt XW e3) (by have := HB.out; omega) 4 false 0 0 valueT
    go_wp2_with fail
    exact bodyPost_ret (v := valV 4 false 0 0 valueT) (by simp [results, Tryz.results5, go_sem, fd0, fd1, fd2, fd3, fd4]) rfl ⟨rfl, FX⟩
   have g5 : decide (5 < f) = false := decide_eq_false h5
   have CI := innerAll f (.slice p k cap) l wr (by have := HV.out.later XW; exact this) (by rw [HN.out]; omega) ⟨by omega, by omega⟩ hall
   rw [← HGood.out ⟨by omega, by omega⟩ (by omega) hall] at CI
   obtain ⟨k2, n2, d2, x2, t2⟩ := R
   clear HO hall HGood HBad
   go_wp2_with fail
   refine CI.mono ?_
   rintro rr w3 ⟨rfl, e3⟩
   obtain ⟨wy, hy, FX, ⟨b0, b1, b2, b3, b4⟩, ⟨fb0, fb1, fb2, fb3, fb4⟩, fd0, fd1, fd2, fd3, fd4⟩ := fin5 (VB.later e3) (xt XW e3) (by have := HB.out; omega) k2 n2 d2 x2 t2
   go_wp2_with fail
   exact bodyPost_ret (v := valV k2 n2 d2 x2 t2) (by simp [results, Tryz.results5, go_sem, fd0, fd1, fd2, fd3, fd4]) rfl ⟨rfl, FX⟩

end Go.Proofs.YtfgohahfppabbaaGreatDoor

