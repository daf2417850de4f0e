/-
  Chapter 12: FoldValues of the program.
-/
import Derived.Test.YtfgohahfppabbaaGreatDoorG2
import Derived.Test.YtfgohahfppabbaaGreatDoorG6
namespace Go.Proofs.YtfgohahfppabbaaGreatDoor
open Go.RowKit

def foldN (f : Int) (l : List VT) : VT := if f = 1 then sumT (cntT 0) l else if f = 3 then lowT l else if f = 4 then highT l else meanT l
set_option maxHeartbeats 4000000 in
theorem foldNI (f : Int) (v : Value) (l : List VT) (w : World) (h : ValsIn w v l) (hl : l.length ≤ 2000) (hv : ∀ e ∈ l, e.isN) (hT : Tens w) (hE : ErrTab w) :
  Calls Tryz.prog 26 #[.int .i64 f, v] w fun e w' => e = .returned (foldN f l).val ∧ Ext w w' := by
 have X0 := x1 w (.cells #[.int .i64 0, .bool false, .int .i64 0, .int .i64 0, sV []] 27)
 have B0 := vec_made w (valL 0 false 0 0 []) 27
 change Vec (w.alloc (.cells #[.int .i64 0, .bool false, .int .i64 0, .int .i64 0, sV []] 27)) _ _ at B0
 have C1 := sumOfI v l _ (h.later X0) hl hv (hT.later X0) (hE.later X0)
 have C3 := leastOfI v l _ (h.later X0) hl hv (hT.later X0) (hE.later X0)
 have C4 := greatestOfI v l _ (h.later X0) hl hv (hT.later X0) (hE.later X0)
 have C5 := meanI v l _ (h.later X0) hl hv (hT.later X0) (hE.later X0)
 obtain ⟨p, cap, rfl, -, -⟩ := h
 obtain ⟨n, hn⟩ : ∃ n, l.length = n := ⟨_, rfl⟩
 rw [hn] at C1 C3 C4 C5 ⊢
 clear hn hv hT hE
 by_cases h1 : f = 1
 ·
  subst h1
  have e0 : foldN 1 l = sumT (cntT 0) l := rfl
  rw [e0]
  obtain ⟨⟨k2, n2, d2, x2, t2⟩, hc⟩ : ∃ r, sumT (cntT 0) l = r := ⟨_, rfl⟩
  rw [hc] at C1 ⊢
  clear hc e0 C3 C4 C5
  go_enter Tryz.func26, Tryz.ntmps26
  go_wp2_with fail
  refine C1.mono ?_
  rintro rr w1 ⟨rfl, e1⟩
  obtain ⟨wy, hy, FX, ⟨b0, b1, b2, b3, b4⟩, ⟨fb0, fb1, fb2, fb3, fb4⟩, fd0, fd1, fd2, fd3, fd4⟩ := fin5 (B0.later e1) (xt X0 e1) (by omega) k2 n2 d2 x2 t2
  go_wp2_with fail
  exact bodyPost_ret (v := valV k2 n2 d2 x2 t2) (by simp [results, Tryz.results26, go_sem, fd0, fd1, fd2, fd3, fd4]) rfl ⟨rfl, FX⟩
 have g1 : (f == 1) = false := beq_eq_false_iff_ne.2 h1
 by_cases h3 : f = 3
 ·
  subst h3
  have e0 : foldN 3 l = lowT l := rfl
  rw [e0]
  obtain ⟨⟨k2, n2, d2, x2, t2⟩, hc⟩ : ∃ r, lowT l = r := ⟨_, rfl⟩
  rw [hc] at C3 ⊢
  clear hc e0 C1 C4 C5
  go_enter Tryz.func26, Tryz.ntmps26
  go_wp2_with fail
  refine C3.mono ?_
  rintro rr w1 ⟨rfl, e1⟩
  obtain ⟨wy, hy, FX, ⟨b0, b1, b2, b3, b4⟩, ⟨fb0, fb1, fb2, fb3, fb4⟩, fd0, fd1, fd2, fd3, fd4⟩ := fin5 (B0.later e1) (xt X0 e1) (by omega) k2 n2 d2 x2 t2
  go_wp2_with fail
  exact bodyPost_ret (v := valV k2 n2 d2 x2 t2) (by simp [results, Tryz.results26, go_sem, fd0, fd1, fd2, fd3, fd4]) rfl ⟨rfl, FX⟩
 have g3 : (f == 3) = false := beq_eq_false_iff_ne.2 h3
 by_cases h4 : f = 4
 ·
  subst h4
  have e0 : foldN 4 l = highT l := rfl
  rw [e0]
  obtain ⟨⟨k2, n2, d2, x2, t2⟩, hc⟩ : ∃ r, highT l = r := ⟨_, rfl⟩
  rw [hc] at C4 ⊢
  clear hc e0 C1 C3 C5
  go_enter Tryz.func26, Tryz.ntmps26
  go_wp2_with fail
  refine C4.mono ?_
  rintro rr w1 ⟨rfl, e1⟩
  obtain ⟨wy, hy, FX, ⟨b0, b1, b2, b3, b4⟩, ⟨fb0, fb1, fb2, fb3, fb4⟩, fd0, fd1, fd2, fd3, fd4⟩ := fin5 (B0.later e1) (xt X0 e1) (by omega) k2 n2 d2 x2 t2
  go_wp2_with fail
  exact bodyPost_ret (v := valV k2 n2 d2 x2 t2) (by simp [results, Tryz.results26, go_sem, fd0, fd1, fd2, fd3, fd4]) rfl ⟨rfl, FX⟩
 have g4 : (f == 4) = false := beq_eq_false_iff_ne.2 h4
 have e0 : foldN f l = meanT l := by unfold foldN; rw [if_neg h1, if_neg h3, if_neg h4]
 rw [e0]
 obtain ⟨⟨k2, n2, d2, x2, t2⟩, hc⟩ : ∃ r, meanT l = r := ⟨_, rfl⟩
 rw [hc] at C5 ⊢
 clear hc e0 C1 C3 C4
 go_enter Tryz.func26, Tryz.ntmps26
 go_wp2_with fail
 refine C5.mono ?_
 rintro rr w1 ⟨rfl, e1⟩
 obtain ⟨wy, hy, FX, ⟨b0, b1, b2, b3, b4⟩, ⟨fb0, fb1, fb2, fb3, fb4⟩, fd0, fd1, fd2, fd3, fd4⟩ := fin5 (B0.later e1) (xt X0 e1) (by omega) k2 n2 d2 x2 t2
 go_wp2_with fail
 exact bodyPost_ret (v := valV k2 n2 d2 x2 t2) (by simp [results, Tryz.results26, go_sem, fd0, fd1, fd2, fd3, fd4]) rfl ⟨rfl, FX⟩
theorem valuesI (p : Option Addr) (n cap : Nat) (w : World) :
  Calls Tryz.prog 21 #[.slice p n cap] w fun e w' => e = .returned (.func (.func 47) #[] #[.pointer (some ⟨w.heap.size, 0, none⟩)]) ∧ w' = w.alloc (.cells #[.slice p n cap] 29) := by
 go_enter Tryz.func21, Tryz.ntmps21
 go_wp2_with fail
 go_ret
 exact ⟨rfl, rfl⟩
abbrev valueT : List UInt8 := [35, 86, 65, 76, 85, 69, 33]
abbrev badT : VT := ⟨4, false, 0, 0, valueT⟩
/-- The values that are numbers. -/
def numsT (l : List VT) : List VT := l.filter fun e => !(e.k != 1)
def fullN (l : List VT) : Nat := (l.filter fun e => e.k != 0).length
/-- What FoldValues answers. -/
def foldT (f : Int) (l : List VT) : VT :=
 if decide (1 ≤ f ∧ f ≤ 5) = false then badT else if 2000 < l.length then badT else if l.all VT.good = false then badT else
 if f = 2 then cntT (fullN l) else match l.find? (fun e => decide (e.k = 4)) with
  | some e => e
  | none => foldN f (numsT l)
theorem numsT_isN {l : List VT} (h : l.all VT.good = true) : ∀ e ∈ numsT l, e.isN := by
 intro e he
 obtain ⟨hm, hk⟩ := List.mem_filter.1 he
 have hg := List.all_eq_true.1 h e hm
 obtain ⟨k, n, d, x, t⟩ := e
 have hk1 : k = 1 := by simpa using hk
 subst hk1
 have := goodV_num hg
 exact ⟨rfl, this.2, this.1⟩
theorem any_bad (l : List VT) : (l.any fun e => !e.good) = !(l.all VT.good) := by
 induction l with
 | nil => rfl
 | cons a l ih => simp only [List.any_cons, List.all_cons, Bool.not_and, ih]
theorem find_first {l : List VT} {m : Nat} {x : VT} (hm : l[m]? = some x) (hp : decide (x.k = 4) = true) (hb : ∀ j y, j < m → l[j]? = some y → decide (y.k = 4) = false) : l.find? (fun e => decide (e.k = 4)) = some x := by
 induction l generalizing m with
 | nil => simp at hm
 | cons a l ih =>
  cases m with
  | zero =>
   simp at hm
   subst hm
   rw [List.find?_cons_of_pos (by exact hp)]
  | succ m =>
   have ha := hb 0 a (by omega) rfl
   rw [List.find?_cons_of_neg (by rw [ha]; simp)]
   exact ih (m := m) (by simpa using hm) (fun j y hj hy => hb (j + 1) y (by omega) (by simpa using hy))
theorem find_none {l : List VT} (h : ∀ x ∈ l, decide (x.k = 4) = false) : l.find? (fun e => decide (e.k = 4)) = none := by
 rw [List.find?_eq_none]
 intro x hx
 rw [h x hx]
 simp
/-- What howMany says of values. -/
def CountsAll : Prop := ∀ (B : Nat) (p : Option Addr) (n cap : Nat) (l : List VT) (w : World), w.cell? ⟨B, 0, none⟩ = some (.slice p n cap) → ValsIn w (.slice p n cap) l → l.length ≤ 2000 → Tens w →
 Calls Tryz.prog 20 #[.func (.func 47) #[] #[.pointer (some ⟨B, 0, none⟩)], fnV 22] w fun e w' => e = .returned (cntT (fullN l)).val ∧ Ext w w'
set_option maxRecDepth 8000 in
set_option maxHeartbeats 4000000 in
theorem foldVI (HM : CountsAll) (f : Int) (b o n cap : Nat) (l : List VT) (w : World) (h : RowV w b o l) (hn : l.length = n) (hcap : n ≤ cap) (hl : n ≤ 1048576) (hr : ∀ e ∈ l, e.room) (hT : Tens w) (hE : ErrTab w) :
  Calls Tryz.prog 7 #[.slice (some ⟨b, o, none⟩) n cap, .int .i64 f] w fun e w' => e = .returned (foldT f l).val ∧ Ext w w' := by
 have X0 := x1 w (.cells #[.int .i64 0, .bool false, .int .i64 0, .int .i64 0, sV []] 27)
 have B0 := vec_made w (valL 0 false 0 0 []) 27
 change Vec (w.alloc (.cells #[.int .i64 0, .bool false, .int .i64 0, .int .i64 0, sV []] 27)) _ _ at B0
 obtain ⟨u0, hu0⟩ : ∃ u, w.alloc (.cells #[.int .i64 0, .bool false, .int .i64 0, .int .i64 0, sV []] 27) = u := ⟨_, rfl⟩
 rw [hu0] at X0 B0
 have su : u0.heap.size = w.heap.size + 1 := by rw [← hu0, World.size_alloc]
 have V0 : ValsIn u0 (.slice (some ⟨b, o, none⟩) n cap) l := ⟨_, cap, by rw [hn], by rw [hn]; exact hcap, fun _ => ⟨b, o, rfl, h.later X0⟩⟩
 have CB := foldB f u0
 have CC := containsF 15 _ l (fun e => !e.good) u0 ⟨fun ar w => by kernel_rfl, fun W e x he => badF e W (hr e he) ((hT.later X0).later x) ((hE.later X0).later x)⟩ V0 (by omega)
 rw [any_bad] at CC
 have HD : Hid (foldT f l = if decide (1 ≤ f ∧ f ≤ 5) = false then badT else if 2000 < n then badT else if l.all VT.good = false then badT else
  if f = 2 then cntT (fullN l) else match l.find? (fun e => decide (e.k = 4)) with | some e => e | none => foldN f (numsT l)) := by show _ = _; unfold foldT; rw [hn]
 obtain ⟨R, hR⟩ : ∃ R, foldT f l = R := ⟨_, rfl⟩
 rw [hR] at HD ⊢
 have HN : Hid (l.length = n) := hn
 have HRow : Hid (RowV w b o l) := h
 have HT : Hid (Tens w ∧ ErrTab w) := ⟨hT, hE⟩
 clear hR h hr hT hE hn
 obtain ⟨qf, hqf⟩ : ∃ q, decide (1 ≤ f ∧ f ≤ 5) = q := ⟨_, rfl⟩
 rw [hqf] at CB HD
 have HF : Hid (decide (1 ≤ f ∧ f ≤ 5) = qf) := hqf
 clear hqf
 cases qf
 ·
  obtain rfl : R = badT := by rw [HD.out]; rfl
  go_enter Tryz.func7, Tryz.ntmps7
  go_wp2_with (go_at_call 17; refine CB.mono ?_; rintro rr w1 ⟨rfl, rfl⟩)
  clear hu0
  refine (errVI valueT _).mono ?_
  rintro rr w1 ⟨rfl, e1⟩
  obtain ⟨wy, hy, FX, ⟨b0, b1, b2, b3, b4⟩, ⟨fb0, fb1, fb2, fb3, fb4⟩, fd0, fd1, fd2, fd3, fd4⟩ := fin5 (B0.later e1) (xt X0 e1) (by omega) 4 false 0 0 valueT
  go_wp2_with fail
  exact bodyPost_ret (v := valV 4 false 0 0 valueT) (by simp [results, Tryz.results7, go_sem, fd0, fd1, fd2, fd3, fd4]) rfl ⟨rfl, FX⟩
 by_cases h2 : 2000 < n
 ·
  obtain rfl : R = badT := by rw [HD.out, if_neg (by decide), if_pos h2]
  have g2 : decide ((2000 : Int) < (n : Int)) = true := decide_eq_true (by omega)
  go_enter Tryz.func7, Tryz.ntmps7
  go_wp2_with (go_at_call 17; refine CB.mono ?_; rintro rr w1 ⟨rfl, rfl⟩)
  clear hu0
  refine (errVI valueT _).mono ?_
  rintro rr w1 ⟨rfl, e1⟩
  obtain ⟨wy, hy, FX, ⟨b0, b1, b2, b3, b4⟩, ⟨fb0, fb1, fb2, fb3, fb4⟩, fd0, fd1, fd2, fd3, fd4⟩ := fin5 (B0.later e1) (xt X0 e1) (by omega) 4 false 0 0 valueT
  go_wp2_with fail
  exact bodyPost_ret (v := valV 4 false 0 0 valueT) (by simp [results, Tryz.results7, go_sem, fd0, fd1, fd2, fd3, fd4]) rfl ⟨rfl, FX⟩
 have g2 : decide ((2000 : Int) < (n : Int)) = false := decide_eq_false (by omega)
 have HA : Hid (∀ e ∈ numsT l, l.all VT.good = true → e.isN) := fun e he hg => numsT_isN hg e he
 obtain ⟨qa, hqa⟩ : ∃ q, l.all VT.good = q := ⟨_, rfl⟩
 rw [hqa] at CC HD HA
 clear hqa
 cases qa
 ·
  obtain rfl : R = badT := by rw [HD.out, if_neg (by decide), if_neg h2, if_pos rfl]
  go_enter Tryz.func7, Tryz.ntmps7
  go_wp2_with (go_at_call 17; refine CB.mono ?_; rintro rr w1 ⟨rfl, rfl⟩)
  clear hu0
  refine CC.mono ?_
  rintro rr w1 ⟨rfl, e1⟩
  go_wp2_with fail
  refine (errVI valueT w1).mono ?_
  rintro rr w2 ⟨rfl, e2⟩
  obtain ⟨wy, hy, FX, ⟨b0, b1, b2, b3, b4⟩, ⟨fb0, fb1, fb2, fb3, fb4⟩, fd0, fd1, fd2, fd3, fd4⟩ := fin5 ((B0.later e1).later e2) (xt (xt X0 e1) e2) (by omega) 4 false 0 0 valueT
  go_wp2_with fail
  exact bodyPost_ret (v := valV 4 false 0 0 valueT) (by simp [results, Tryz.results7, go_sem, fd0, fd1, fd2, fd3, fd4]) rfl ⟨rfl, FX⟩
 have HD2 : Hid (R = if f = 2 then cntT (fullN l) else match l.find? (fun e => decide (e.k = 4)) with | some e => e | none => foldN f (numsT l)) := by show _ = _; rw [HD.out, if_neg (by decide), if_neg h2, if_neg (by decide)]
 clear HD
 by_cases hf : f = 2
 ·
  subst hf
  obtain rfl : R = cntT (fullN l) := by rw [HD2.out]; rfl
  have HCn : Hid (∀ W B, Ext w W → W.cell? ⟨B, 0, none⟩ = some (.slice (some ⟨b, o, none⟩) n cap) → Calls Tryz.prog 20 #[.func (.func 47) #[] #[.pointer (some ⟨B, 0, none⟩)], fnV 22] W fun e w' => e = .returned (cntT (fullN l)).val ∧ Ext W w') := fun W B x hb =>
   HM B _ n cap l W hb ⟨_, cap, by rw [HN.out], by rw [HN.out]; exact hcap, fun _ => ⟨b, o, rfl, HRow.out.later x⟩⟩ (by rw [HN.out]; omega) (HT.out.1.later x)
  obtain ⟨⟨k2, n2, d2, x2, t2⟩, hc⟩ : ∃ r, cntT (fullN l) = r := ⟨_, rfl⟩
  rw [hc] at HCn ⊢
  clear hc HD2
  go_enter Tryz.func7, Tryz.ntmps7
  go_wp2_with (go_at_call 17; refine CB.mono ?_; rintro rr w1 ⟨rfl, rfl⟩)
  clear hu0
  refine CC.mono ?_
  rintro rr w1 ⟨rfl, e1⟩
  go_wp2_with fail
  refine (valuesI _ n cap w1).mono ?_
  rintro rr w2 ⟨rfl, rfl⟩
  have Y := x1 w1 (.cells #[.slice (some ⟨b, o, none⟩) n cap] 29)
  have KB := vec_made w1 [.slice (some ⟨b, o, none⟩) n cap] 29
  change Vec (w1.alloc (.cells #[.slice (some ⟨b, o, none⟩) n cap] 29)) _ _ at KB
  have CH := HCn.out _ w1.heap.size (xt (xt X0 e1) Y) (KB 0 _ rfl).1
  go_wp2_with fail
  refine CH.mono ?_
  rintro rr w3 ⟨rfl, e3⟩
  obtain ⟨wy, hy, FX, ⟨b0, b1, b2, b3, b4⟩, ⟨fb0, fb1, fb2, fb3, fb4⟩, fd0, fd1, fd2, fd3, fd4⟩ := fin5 (((B0.later e1).later Y).later e3) (xt (xt (xt X0 e1) Y) e3) (by omega) k2 n2 d2 x2 t2
  go_wp2_with fail
  exact bodyPost_ret (v := valV k2 n2 d2 x2 t2) (by simp [results, Tryz.results7, go_sem, fd0, fd1, fd2, fd3, fd4]) rfl ⟨rfl, FX⟩
 have hf2 : (f == 2) = false := beq_eq_false_iff_ne.2 hf
 have HD3 : Hid (R = match l.find? (fun e => decide (e.k = 4)) with | some e => e | none => foldN f (numsT l)) := by show _ = _; rw [HD2.out, if_neg hf]
 clear HD2
 have HIx : Hid (∀ W, Ext w W → Calls Tryz.prog 23 #[.slice (some ⟨b, o, none⟩) n cap, fnV 24] W fun e w' => FirstF l (fun e => decide (e.k = 4)) e ∧ Ext W w') := fun W x =>
  indexF 24 _ l _ W ⟨fun ar w => by kernel_rfl, fun V e _ _ => isErrI e.k e.n e.d e.x e.t V⟩ ⟨_, cap, by rw [HN.out], by rw [HN.out]; exact hcap, fun _ => ⟨b, o, rfl, HRow.out.later x⟩⟩ (by rw [HN.out]; omega)
 go_enter Tryz.func7, Tryz.ntmps7
 go_wp2_with (go_at_call 17; refine CB.mono ?_; rintro rr w1 ⟨rfl, rfl⟩)
 clear hu0
 refine CC.mono ?_
 rintro rr w1 ⟨rfl, e1⟩
 go_wp2_with fail
 refine (HIx.out w1 (xt X0 e1)).mono ?_
 rintro rr w2 ⟨hfi, e2⟩
 have X2 := xt (xt X0 e1) e2
 have B2 := (B0.later e1).later e2
 clear CC CB HIx
 rcases hfi with ⟨rfl, hno⟩ | ⟨m, x, rfl, hm, hp, hbe⟩
 ·
  have HR2 : Hid (R = foldN f (numsT l)) := by show _ = _; rw [HD3.out, find_none hno]
  have CL := cloneI b o n cap l w2 (HRow.out.later X2) HN.out hcap (by omega)
  clear hno HD3
  go_wp2_with fail
  refine CL.mono ?_
  rintro rr w3 ⟨g, c, rfl, hc, hg, OV, e3⟩
  have X3 := xt X2 e3
  have CD := deleteF 25 l (fun e => e.k != 1) g c w3 OV (by rw [HN.out]; exact hc) (by rw [HN.out]; omega) (fun ar w => by kernel_rfl) (fun W e => otherF e W)
  rw [HN.out] at CD
  have HG : Hid (w.heap.size + 1 ≤ g) := by show _ ≤ _; have := X2.size; have := e1.size; have := e2.size; omega
  clear CL OV hg
  go_wp2_with fail
  refine CD.mono ?_
  rintro rr w4 ⟨m, rfl, hm, OD, GD⟩
  have X4 := ext_grownF X3 GD (fun k hk => by cases hk; have := HG.out; omega)
  have B4 : Vec w4 w.heap.size (valL 0 false 0 0 []) := fun i u hi => by
   obtain ⟨a, ff⟩ := (B2.later e3) i u hi
   have hne : w.heap.size ≠ g := by have := HG.out; omega
   have hlt := World.block_lt_of_cell? _ _ a
   have e4 := GD.block w.heap.size hlt (fun e => hne (Option.some.inj e))
   exact ⟨by rw [World.cell?_of_block e4]; exact a, by rw [World.frozen?_of_block e4]; exact ff⟩
  have hmn : m ≤ c := by
   rw [hm]
   have := List.length_filter_le (fun e : VT => !(e.k != 1)) l
   rw [HN.out] at this
   omega
  have CN := foldNI f (.slice (some ⟨g, 0, none⟩) m c) (numsT l) w4 ⟨_, c, by rw [hm]; rfl, by unfold numsT; rw [← hm]; exact hmn, fun _ => ⟨g, 0, rfl, OD.row⟩⟩ (by
   have := List.length_filter_le (fun e : VT => !(e.k != 1)) l
   rw [HN.out] at this
   unfold numsT
   omega) (fun e he => HA.out e he (by first | rfl | trivial)) (HT.out.1.later X4) (HT.out.2.later X4)
  rw [← HR2.out] at CN
  obtain ⟨k2, n2, d2, x2, t2⟩ := R
  clear CD OD GD B2 hm hmn HG
  go_wp2_with fail
  refine CN.mono ?_
  rintro rr w5 ⟨rfl, e5⟩
  obtain ⟨wy, hy, FX, ⟨b0, b1, b2, b3, b4⟩, ⟨fb0, fb1, fb2, fb3, fb4⟩, fd0, fd1, fd2, fd3, fd4⟩ := fin5 (B4.later e5) (xt X4 e5) (by omega) k2 n2 d2 x2 t2
  go_wp2_with fail
  exact bodyPost_ret (v := valV k2 n2 d2 x2 t2) (by simp [results, Tryz.results7, go_sem, fd0, fd1, fd2, fd3, fd4]) rfl ⟨rfl, FX⟩
 ·
  have e3 : R = x := by rw [HD3.out, find_first hm hp hbe]
  subst e3
  have hml : m < n := by rw [← HN.out]; exact (List.getElem?_eq_some_iff.1 hm).1
  obtain ⟨a0, a1, a2, a3, a4⟩ := (HRow.out.later X2).five hm
  have m0 : (0 : Int) ≤ (m : Int) := by omega
  have m1 : (m : Int) < (n : Int) := by omega
  have m2 : decide ((m : Int) ≥ 0) = true := decide_eq_true m0
  obtain ⟨k2, n2, d2, x2, t2⟩ := R
  dsimp only at a0 a1 a2 a3 a4
  clear hm hp hbe HD3
  obtain ⟨wy, hy, FX, ⟨b0, b1, b2, b3, b4⟩, ⟨fb0, fb1, fb2, fb3, fb4⟩, fd0, fd1, fd2, fd3, fd4⟩ := fin5 B2 X2 (by omega) k2 n2 d2 x2 t2
  go_wp2_with fail
  exact bodyPost_ret (v := valV k2 n2 d2 x2 t2) (by simp [results, Tryz.results7, go_sem, fd0, fd1, fd2, fd3, fd4]) rfl ⟨rfl, FX⟩

end Go.Proofs.YtfgohahfppabbaaGreatDoor

