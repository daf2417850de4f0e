/-
  Several texts in one: G7, G10.
-/
import Derived.Test.YtfgohahfppabbaaGreatDoorMg29
import Derived.Test.YtfgohahfppabbaaGreatDoorMg28
namespace Go.Proofs.YtfgohahfppabbaaGreatDoor
open Go.RowKit

def foldN (f : Int) (l : List VT) : VT := if f = 1 then sumT (cntT 0) l else if f = 3 then lowT l else if f = 4 then highT l else meanT l
set_option maxHeartbeats 4000000 in
theorem foldNI (f : Int) (v : Value) (l : List VT) (w : World) (h : ValsIn w v l) (hl : l.length ≤ 2000) (hv : ∀ e ∈ l, e.isN) (hT : Tens w) (hE : ErrTab w) :
  Calls Tryz.prog 26 #[.int .i64 f, v] w fun e w' => e = .returned (foldN f l).val ∧ Ext w w' := by
 have X0 := x1 w (.cells #[.int .i64 0, .bool false, .int .i64 0, .int .i64 0, sV []] 27)
 have B0 := vec_made w (valL 0 false 0 0 []) 27
 change Vec (w.alloc (.cells #[.int .i64 0, .bool false, .int .i64 0, .int .i64 0, sV []] 27)) _ _ at B0
 have C1 := sumOfI v l _ (h.later X0) hl hv (hT.later X0) (hE.later X0)
 have C3 := leastOfI v l _ (h.later X0) hl hv (hT.later X0) (hE.later X0)
 have C4 := greatestOfI v l _ (h.later X0) hl hv (hT.later X0) (hE.later X0)
 have C5 := meanI v l _ (h.later X0) hl hv (hT.later X0) (hE.later X0)
 obtain ⟨p, cap, rfl, -, -⟩ := h
 obtain ⟨n, hn⟩ : ∃ n, l.length = n := ⟨_, rfl⟩
 rw [hn] at C1 C3 C4 C5 ⊢
 clear hn hv hT hE
 by_cases h1 : f = 1
 ·
  subst h1
  have e0 : foldN 1 l = sumT (cntT 0) l := rfl
  rw [e0]
  obtain ⟨⟨k2, n2, d2, x2, t2⟩, hc⟩ : ∃ r, sumT (cntT 0) l = r := ⟨_, rfl⟩
  rw [hc] at C1 ⊢
  clear hc e0 C3 C4 C5
  go_enter Tryz.func26, Tryz.ntmps26
  go_wp2_with fail
  refine C1.mono ?_
  rintro rr w1 ⟨rfl, e1⟩
  obtain ⟨wy, hy, FX, ⟨b0, b1, b2, b3, b4⟩, ⟨fb0, fb1, fb2, fb3, fb4⟩, fd0, fd1, fd2, fd3, fd4⟩ := fin5 (B0.later e1) (xt X0 e1) (by omega) k2 n2 d2 x2 t2
  go_wp2_with fail
  exact bodyPost_ret (v := valV k2 n2 d2 x2 t2) (by simp [results, Tryz.results26, go_sem, fd0, fd1, fd2, fd3, fd4]) rfl ⟨rfl, FX⟩
 have g1 : (f == 1) = false := beq_eq_false_iff_ne.2 h1
 by_cases h3 : f = 3
 ·
  subst h3
  have e0 : foldN 3 l = lowT l := rfl
  rw [e0]
  obtain ⟨⟨k2, n2, d2, x2, t2⟩, hc⟩ : ∃ r, lowT l = r := ⟨_, rfl⟩
  rw [hc] at C3 ⊢
  clear hc e0 C1 C4 C5
  go_enter Tryz.func26, Tryz.ntmps26
  go_wp2_with fail
  refine C3.mono ?_
  rintro rr w1 ⟨rfl, e1⟩
  obtain ⟨wy, hy, FX, ⟨b0, b1, b2, b3, b4⟩, ⟨fb0, fb1, fb2, fb3, fb4⟩, fd0, fd1, fd2, fd3, fd4⟩ := fin5 (B0.later e1) (xt X0 e1) (by omega) k2 n2 d2 x2 t2
  go_wp2_with fail
  exact bodyPost_ret (v := valV k2 n2 d2 x2 t2) (by simp [results, Tryz.results26, go_sem, fd0, fd1, fd2, fd3, fd4]) rfl ⟨rfl, FX⟩
 have g3 : (f == 3) = false := beq_eq_false_iff_ne.2 h3
 by_cases h4 : f = 4
 ·
  subst h4
  have e0 : foldN 4 l = highT l := rfl
  rw [e0]
  obtain ⟨⟨k2, n2, d2, x2, t2⟩, hc⟩ : ∃ r, highT l = r := ⟨_, rfl⟩
  rw [hc] at C4 ⊢
  clear hc e0 C1 C3 C5
  go_enter Tryz.func26, Tryz.ntmps26
  go_wp2_with fail
  refine C4.mono ?_
  rintro rr w1 ⟨rfl, e1⟩
  obtain ⟨wy, hy, FX, ⟨b0, b1, b2, b3, b4⟩, ⟨fb0, fb1, fb2, fb3, fb4⟩, fd0, fd1, fd2, fd3, fd4⟩ := fin5 (B0.later e1) (xt X0 e1) (by omega) k2 n2 d2 x2 t2
  go_wp2_with fail
  exact bodyPost_ret (v := valV k2 n2 d2 x2 t2) (by simp [results, Tryz.results26, go_sem, fd0, fd1, fd2, fd3, fd4]) rfl ⟨rfl, FX⟩
 have g4 : (f == 4) = false := beq_eq_false_iff_ne.2 h4
 have e0 : foldN f l = meanT l := by unfold foldN; rw [if_neg h1, if_neg h3, if_neg h4]
 rw [e0]
 obtain ⟨⟨k2, n2, d2, x2, t2⟩, hc⟩ : ∃ r, meanT l = r := ⟨_, rfl⟩
 rw [hc] at C5 ⊢
 clear hc e0 C1 C3 C4
 go_enter Tryz.func26, Tryz.ntmps26
 go_wp2_with fail
 refine C5.mono ?_
 rintro rr w1 ⟨rfl, e1⟩
 obtain ⟨wy, hy, FX, ⟨b0, b1, b2, b3, b4⟩, ⟨fb0, fb1, fb2, fb3, fb4⟩, fd0, fd1, fd2, fd3, fd4⟩ := fin5 (B0.later e1) (xt X0 e1) (by omega) k2 n2 d2 x2 t2
 go_wp2_with fail
 exact bodyPost_ret (v := valV k2 n2 d2 x2 t2) (by simp [results, Tryz.results26, go_sem, fd0, fd1, fd2, fd3, fd4]) rfl ⟨rfl, FX⟩
theorem valuesI (p : Option Addr) (n cap : Nat) (w : World) :
  Calls Tryz.prog 21 #[.slice p n cap] w fun e w' => e = .returned (.func (.func 47) #[] #[.pointer (some ⟨w.heap.size, 0, none⟩)]) ∧ w' = w.alloc (.cells #[.slice p n cap] 29) := by
 go_enter Tryz.func21, Tryz.ntmps21
 go_wp2_with fail
 go_ret
 exact ⟨rfl, rfl⟩
abbrev valueT : List UInt8 := [35, 86, 65, 76, 85, 69, 33]
abbrev badT : VT := ⟨4, false, 0, 0, valueT⟩
/-- The values that are numbers. -/
def numsT (l : List VT) : List VT := l.filter fun e => !(e.k != 1)
def fullN (l : List VT) : Nat := (l.filter fun e => e.k != 0).length
/-- What FoldValues answers. -/
def foldT (f : Int) (l : List VT) : VT :=
 if decide (1 ≤ f ∧ f ≤ 5) = false then badT else if 2000 < l.length then badT else if l.all VT.good = false then badT else
 if f = 2 then cntT (fullN l) else match l.find? (fun e => decide (e.k = 4)) with
  | some e => e
  | none => foldN f (numsT l)
theorem numsT_isN {l : List VT} (h : l.all VT.good = true) : ∀ e ∈ numsT l, e.isN := by
 intro e he
 obtain ⟨hm, hk⟩ := List.mem_filter.1 he
 have hg := List.all_eq_true.1 h e hm
 obtain ⟨k, n, d, x, t⟩ := e
 have hk1 : k = 1 := by simpa using hk
 subst hk1
 have := goodV_num hg
 exact ⟨rfl, this.2, this.1⟩
theorem any_bad (l : List VT) : (l.any fun e => !e.good) = !(l.all VT.good) := by
 induction l with
 | nil => rfl
 | cons a l ih => simp only [List.any_cons, List.all_cons, Bool.not_and, ih]
theorem find_first {l : List VT} {m : Nat} {x : VT} (hm : l[m]? = some x) (hp : decide (x.k = 4) = true) (hb : ∀ j y, j < m → l[j]? = some y → decide (y.k = 4) = false) : l.find? (fun e => decide (e.k = 4)) = some x := by
 induction l generalizing m with
 | nil => simp at hm
 | cons a l ih =>
  cases m with
  | zero =>
   simp at hm
   subst hm
   rw [List.find?_cons_of_pos (by exact hp)]
  | succ m =>
   have ha := hb 0 a (by omega) rfl
   rw [List.find?_cons_of_neg (by rw [ha]; simp)]
   exact ih (m := m) (by simpa using hm) (fun j y hj hy => hb (j + 1) y (by omega) (by simpa using hy))
theorem find_none {l : List VT} (h : ∀ x ∈ l, decide (x.k = 4) = false) : l.find? (fun e => decide (e.k = 4)) = none := by
 rw [List.find?_eq_none]
 intro x hx
 rw [h x hx]
 simp
/-- What howMany says of values. -/
def CountsAll : Prop := ∀ (B : Nat) (p : Option Addr) (n cap : Nat) (l : List VT) (w : World), w.cell? ⟨B, 0, none⟩ = some (.slice p n cap) → ValsIn w (.slice p n cap) l → l.length ≤ 2000 → Tens w →
 Calls Tryz.prog 20 #[.func (.func 47) #[] #[.pointer (some ⟨B, 0, none⟩)], fnV 22] w fun e w' => e = .returned (cntT (fullN l)).val ∧ Ext w w'
set_option maxRecDepth 8000 in
set_option maxHeartbeats 4000000 in
theorem foldVI (HM : CountsAll) (f : Int) (b o n cap : Nat) (l : List VT) (w : World) (h : RowV w b o l) (hn : l.length = n) (hcap : n ≤ cap) (hl : n ≤ 1048576) (hr : ∀ e ∈ l, e.room) (hT : Tens w) (hE : ErrTab w) :
  Calls Tryz.prog 7 #[.slice (some ⟨b, o, none⟩) n cap, .int .i64 f] w fun e w' => e = .returned (foldT f l).val ∧ Ext w w' := by
 have X0 := x1 w (.cells #[.int .i64 0, .bool false, .int .i64 0, .int .i64 0, sV []] 27)
 have B0 := vec_made w (valL 0 false 0 0 []) 27
 change Vec (w.alloc (.cells #[.int .i64 0, .bool false, .int .i64 0, .int .i64 0, sV []] 27)) _ _ at B0
 obtain ⟨u0, hu0⟩ : ∃ u, w.alloc (.cells #[.int .i64 0, .bool false, .int .i64 0, .int .i64 0, sV []] 27) = u := ⟨_, rfl⟩
 rw [hu0] at X0 B0
 have su : u0.heap.size = w.heap.size + 1 := by rw [← hu0, World.size_alloc]
 have V0 : ValsIn u0 (.slice (some ⟨b, o, none⟩) n cap) l := ⟨_, cap, by rw [hn], by rw [hn]; exact hcap, fun _ => ⟨b, o, rfl, h.later X0⟩⟩
 have CB := foldB f u0
 have CC := containsF 15 _ l (fun e => !e.good) u0 ⟨fun ar w => by kernel_rfl, fun W e x he => badF e W (hr e he) ((hT.later X0).later x) ((hE.later X0).later x)⟩ V0 (by omega)
 rw [any_bad] at CC
 have HD : Hid (foldT f l = if decide (1 ≤ f ∧ f ≤ 5) = false then badT else if 2000 < n then badT else if l.all VT.good = false then badT else
  if f = 2 then cntT (fullN l) else match l.find? (fun e => decide (e.k = 4)) with | some e => e | none => foldN f (numsT l)) := by show _ = _; unfold foldT; rw [hn]
 obtain ⟨R, hR⟩ : ∃ R, foldT f l = R := ⟨_, rfl⟩
 rw [hR] at HD ⊢
 have HN : Hid (l.length = n) := hn
 have HRow : Hid (RowV w b o l) := h
 have HT : Hid (Tens w ∧ ErrTab w) := ⟨hT, hE⟩
 clear hR h hr hT hE hn
 obtain ⟨qf, hqf⟩ : ∃ q, decide (1 ≤ f ∧ f ≤ 5) = q := ⟨_, rfl⟩
 rw [hqf] at CB HD
 have HF : Hid (decide (1 ≤ f ∧ f ≤ 5) = qf) := hqf
 clear hqf
 cases qf
 ·
  obtain rfl : R = badT := by rw [HD.out]; rfl
  go_enter Tryz.func7, Tryz.ntmps7
  go_wp2_with (go_at_call 17; refine CB.mono ?_; rintro rr w1 ⟨rfl, rfl⟩)
  clear hu0
  refine (errVI valueT _).mono ?_
  rintro rr w1 ⟨rfl, e1⟩
  obtain ⟨wy, hy, FX, ⟨b0, b1, b2, b3, b4⟩, ⟨fb0, fb1, fb2, fb3, fb4⟩, fd0, fd1, fd2, fd3, fd4⟩ := fin5 (B0.later e1) (xt X0 e1) (by omega) 4 false 0 0 valueT
  go_wp2_with fail
  exact bodyPost_ret (v := valV 4 false 0 0 valueT) (by simp [results, Tryz.results7, go_sem, fd0, fd1, fd2, fd3, fd4]) rfl ⟨rfl, FX⟩
 by_cases h2 : 2000 < n
 ·
  obtain rfl : R = badT := by rw [HD.out, if_neg (by decide), if_pos h2]
  have g2 : decide ((2000 : Int) < (n : Int)) = true := decide_eq_true (by omega)
  go_enter Tryz.func7, Tryz.ntmps7
  go_wp2_with (go_at_call 17; refine CB.mono ?_; rintro rr w1 ⟨rfl, rfl⟩)
  clear hu0
  refine (errVI valueT _).mono ?_
  rintro rr w1 ⟨rfl, e1⟩
  obtain ⟨wy, hy, FX, ⟨b0, b1, b2, b3, b4⟩, ⟨fb0, fb1, fb2, fb3, fb4⟩, fd0, fd1, fd2, fd3, fd4⟩ := fin5 (B0.later e1) (xt X0 e1) (by omega) 4 false 0 0 valueT
  go_wp2_with fail
  exact bodyPost_ret (v := valV 4 false 0 0 valueT) (by simp [results, Tryz.results7, go_sem, fd0, fd1, fd2, fd3, fd4]) rfl ⟨rfl, FX⟩
 have g2 : decide ((2000 : Int) < (n : Int)) = false := decide_eq_false (by omega)
 have HA : Hid (∀ e ∈ numsT l, l.all VT.good = true → e.isN) := fun e he hg => numsT_isN hg e he
 obtain ⟨qa, hqa⟩ : ∃ q, l.all VT.good = q := ⟨_, rfl⟩
 rw [hqa] at CC HD HA
 clear hqa
 cases qa
 ·
  obtain rfl : R = badT := by rw [HD.out, if_neg (by decide), if_neg h2, if_pos rfl]
  go_enter Tryz.func7, Tryz.ntmps7
  go_wp2_with (go_at_call 17; refine CB.mono ?_; rintro rr w1 ⟨rfl, rfl⟩)
  clear hu0
  refine CC.mono ?_
  rintro rr w1 ⟨rfl, e1⟩
  go_wp2_with fail
  refine (errVI valueT w1).mono ?_
  rintro rr w2 ⟨rfl, e2⟩
  obtain ⟨wy, hy, FX, ⟨b0, b1, b2, b3, b4⟩, ⟨fb0, fb1, fb2, fb3, fb4⟩, fd0, fd1, fd2, fd3, fd4⟩ := fin5 ((B0.later e1).later e2) (xt (xt X0 e1) e2) (by omega) 4 false 0 0 valueT
  go_wp2_with fail
  exact bodyPost_ret (v := valV 4 false 0 0 valueT) (by simp [results, Tryz.results7, go_sem, fd0, fd1, fd2, fd3, fd4]) rfl ⟨rfl, FX⟩
 have HD2 : Hid (R = if f = 2 then cntT (fullN l) else match l.find? (fun e => decide (e.k = 4)) with | some e => e | none => foldN f (numsT l)) := by show _ = _; rw [HD.out, if_neg (by decide), if_neg h2, if_neg (by decide)]
 clear HD
 by_cases hf : f = 2
 ·
  subst hf
  obtain rfl : R = cntT (fullN l) := by rw [HD2.out]; rfl
  have HCn : Hid (∀ W B, Ext w W → W.cell? ⟨B, 0, none⟩ = some (.slice (some ⟨b, o, none⟩) n cap) → Calls Tryz.prog 20 #[.func (.func 47) #[] #[.pointer (some ⟨B, 0, none⟩)], fnV 22] W fun e w' => e = .returned (cntT (fullN l)).val ∧ Ext W w') := fun W B x hb =>
   HM B _ n cap l W hb ⟨_, cap, by rw [HN.out], by rw [HN.out]; exact hcap, fun _ => ⟨b, o, rfl, HRow.out.later x⟩⟩ (by rw [HN.out]; omega) (HT.out.1.later x)
  obtain ⟨⟨k2, n2, d2, x2, t2⟩, hc⟩ : ∃ r, cntT (fullN l) = r := ⟨_, rfl⟩
  rw [hc] at HCn ⊢
  clear hc HD2
  go_enter Tryz.func7, Tryz.ntmps7
  go_wp2_with (go_at_call 17; refine CB.mono ?_; rintro rr w1 ⟨rfl, rfl⟩)
  clear hu0
  refine CC.mono ?_
  rintro rr w1 ⟨rfl, e1⟩
  go_wp2_with fail
  refine (valuesI _ n cap w1).mono ?_
  rintro rr w2 ⟨rfl, rfl⟩
  have Y := x1 w1 (.cells #[.slice (some ⟨b, o, none⟩) n cap] 29)
  have KB := vec_made w1 [.slice (some ⟨b, o, none⟩) n cap] 29
  change Vec (w1.alloc (.cells #[.slice (some ⟨b, o, none⟩) n cap] 29)) _ _ at KB
  have CH := HCn.out _ w1.heap.size (xt (xt X0 e1) Y) (KB 0 _ rfl).1
  go_wp2_with fail
  refine CH.mono ?_
  rintro rr w3 ⟨rfl, e3⟩
  obtain ⟨wy, hy, FX, ⟨b0, b1, b2, b3, b4⟩, ⟨fb0, fb1, fb2, fb3, fb4⟩, fd0, fd1, fd2, fd3, fd4⟩ := fin5 (((B0.later e1).later Y).later e3) (xt (xt (xt X0 e1) Y) e3) (by omega) k2 n2 d2 x2 t2
  go_wp2_with fail
  exact bodyPost_ret (v := valV k2 n2 d2 x2 t2) (by simp [results, Tryz.results7, go_sem, fd0, fd1, fd2, fd3, fd4]) rfl ⟨rfl, FX⟩
 have hf2 : (f == 2) = false := beq_eq_false_iff_ne.2 hf
 have HD3 : Hid (R = match l.find? (fun e => decide (e.k = 4)) with | some e => e | none => foldN f (numsT l)) := by show _ = _; rw [HD2.out, if_neg hf]
 clear HD2
 have HIx : Hid (∀ W, Ext w W → Calls Tryz.prog 23 #[.slice (some ⟨b, o, none⟩) n cap, fnV 24] W fun e w' => FirstF l (fun e => decide (e.k = 4)) e ∧ Ext W w') := fun W x =>
  indexF 24 _ l _ W ⟨fun ar w => by kernel_rfl, fun V e _ _ => isErrI e.k e.n e.d e.x e.t V⟩ ⟨_, cap, by rw [HN.out], by rw [HN.out]; exact hcap, fun _ => ⟨b, o, rfl, HRow.out.later x⟩⟩ (by rw [HN.out]; omega)
 go_enter Tryz.func7, Tryz.ntmps7
 go_wp2_with (go_at_call 17; refine CB.mono ?_; rintro rr w1 ⟨rfl, rfl⟩)
 clear hu0
 refine CC.mono ?_
 rintro rr w1 ⟨rfl, e1⟩
 go_wp2_with fail
 refine (HIx.out w1 (xt X0 e1)).mono ?_
 rintro rr w2 ⟨hfi, e2⟩
 have X2 := xt (xt X0 e1) e2
 have B2 := (B0.later e1).later e2
 clear CC CB HIx
 rcases hfi with ⟨rfl, hno⟩ | ⟨m, x, rfl, hm, hp, hbe⟩
 ·
  have HR2 : Hid (R = foldN f (numsT l)) := by show _ = _; rw [HD3.out, find_none hno]
  have CL := cloneI b o n cap l w2 (HRow.out.later X2) HN.out hcap (by omega)
  clear hno HD3
  go_wp2_with fail
  refine CL.mono ?_
  rintro rr w3 ⟨g, c, rfl, hc, hg, OV, e3⟩
  have X3 := xt X2 e3
  have CD := deleteF 25 l (fun e => e.k != 1) g c w3 OV (by rw [HN.out]; exact hc) (by rw [HN.out]; omega) (fun ar w => by kernel_rfl) (fun W e => otherF e W)
  rw [HN.out] at CD
  have HG : Hid (w.heap.size + 1 ≤ g) := by show _ ≤ _; have := X2.size; have := e1.size; have := e2.size; omega
  clear CL OV hg
  go_wp2_with fail
  refine CD.mono ?_
  rintro rr w4 ⟨m, rfl, hm, OD, GD⟩
  have X4 := ext_grownF X3 GD (fun k hk => by cases hk; have := HG.out; omega)
  have B4 : Vec w4 w.heap.size (valL 0 false 0 0 []) := fun i u hi => by
   obtain ⟨a, ff⟩ := (B2.later e3) i u hi
   have hne : w.heap.size ≠ g := by have := HG.out; omega
   have hlt := World.block_lt_of_cell? _ _ a
   have e4 := GD.block w.heap.size hlt (fun e => hne (Option.some.inj e))
   exact ⟨by rw [World.cell?_of_block e4]; exact a, by rw [World.frozen?_of_block e4]; exact ff⟩
  have hmn : m ≤ c := by
   rw [hm]
   have := List.length_filter_le (fun e : VT => !(e.k != 1)) l
   rw [HN.out] at this
   omega
  have CN := foldNI f (.slice (some ⟨g, 0, none⟩) m c) (numsT l) w4 ⟨_, c, by rw [hm]; rfl, by unfold numsT; rw [← hm]; exact hmn, fun _ => ⟨g, 0, rfl, OD.row⟩⟩ (by
   have := List.length_filter_le (fun e : VT => !(e.k != 1)) l
   rw [HN.out] at this
   unfold numsT
   omega) (fun e he => HA.out e he (by first | rfl | trivial)) (HT.out.1.later X4) (HT.out.2.later X4)
  rw [← HR2.out] at CN
  obtain ⟨k2, n2, d2, x2, t2⟩ := R
  clear CD OD GD B2 hm hmn HG
  go_wp2_with fail
  refine CN.mono ?_
  rintro rr w5 ⟨rfl, e5⟩
  obtain ⟨wy, hy, FX, ⟨b0, b1, b2, b3, b4⟩, ⟨fb0, fb1, fb2, fb3, fb4⟩, fd0, fd1, fd2, fd3, fd4⟩ := fin5 (B4.later e5) (xt X4 e5) (by omega) k2 n2 d2 x2 t2
  go_wp2_with fail
  exact bodyPost_ret (v := valV k2 n2 d2 x2 t2) (by simp [results, Tryz.results7, go_sem, fd0, fd1, fd2, fd3, fd4]) rfl ⟨rfl, FX⟩
 ·
  have e3 : R = x := by rw [HD3.out, find_first hm hp hbe]
  subst e3
  have hml : m < n := by rw [← HN.out]; exact (List.getElem?_eq_some_iff.1 hm).1
  obtain ⟨a0, a1, a2, a3, a4⟩ := (HRow.out.later X2).five hm
  have m0 : (0 : Int) ≤ (m : Int) := by omega
  have m1 : (m : Int) < (n : Int) := by omega
  have m2 : decide ((m : Int) ≥ 0) = true := decide_eq_true m0
  obtain ⟨k2, n2, d2, x2, t2⟩ := R
  dsimp only at a0 a1 a2 a3 a4
  clear hm hp hbe HD3
  obtain ⟨wy, hy, FX, ⟨b0, b1, b2, b3, b4⟩, ⟨fb0, fb1, fb2, fb3, fb4⟩, fd0, fd1, fd2, fd3, fd4⟩ := fin5 B2 X2 (by omega) k2 n2 d2 x2 t2
  go_wp2_with fail
  exact bodyPost_ret (v := valV k2 n2 d2 x2 t2) (by simp [results, Tryz.results7, go_sem, fd0, fd1, fd2, fd3, fd4]) rfl ⟨rfl, FX⟩

set_option maxHeartbeats 2000000 in
theorem stepDS (s c : VT) (w : World) (hs : s.isP) (hc : c.isN) :
  Calls Tryz.prog 55 #[sV [47], s.val, c.val] w fun e w' => e = .returned (if s.k = 4 then s else overT s.n s.d s.x c.n c.d c.x).val ∧ Ext w w' := by
 obtain ⟨ck, cn, cd, cx, ct⟩ := c
 obtain ⟨rfl, rfl, gc⟩ : ck = 1 ∧ ct = [] ∧ goodB cn cd cx = true := hc
 rcases hs with hs | rfl
 ·
  obtain ⟨sk, sn, sd, sx, st⟩ := s
  obtain ⟨rfl, rfl, gs⟩ : sk = 1 ∧ st = [] ∧ goodB sn sd sx = true := hs
  rw [if_neg (show ¬ (1 : Int) = 4 by decide)]
  obtain ⟨u0, u1, u2, h0, h1, h2, s0, s1, s2, B0, B1, B2, X⟩ := mkB3 w [.int .i64 1, .bool sn, .int .i64 sd, .int .i64 sx, sV []] [.int .i64 1, .bool cn, .int .i64 cd, .int .i64 cx, sV []] [.int .i64 0, .bool false, .int .i64 0, .int .i64 0, sV []] 27 27 27
  have HO : Hid (∀ W, Calls Tryz.prog 54 #[sV [47], decV sn sd sx, decV cn cd cx] W fun rr w' => rr = .returned (overT sn sd sx cn cd cx).val ∧ Ext W w') := fun W => by
   have := overS sn sd sx cn cd cx W
   unfold overT
   split
   ·
    next h0 => rw [if_pos h0] at this; exact this
   ·
    next h0 => rw [if_neg h0] at this; rw [putT_val]; exact this
  dsimp only
  obtain ⟨⟨k2, n2, d2, x2, t2⟩, hr⟩ : ∃ r, overT sn sd sx cn cd cx = r := ⟨_, rfl⟩
  rw [hr] at HO ⊢
  have C1 := isErrG 1 sn sd sx [] u2
  have C2 := fun W => isErrG 1 cn cd cx [] W
  rw [show decide ((1 : Int) = 4) = false by decide] at C1
  simp only [show decide ((1 : Int) = 4) = false by decide] at C2
  obtain ⟨a0, a1, a2, a3, a4⟩ := Vec.five B0
  clear hr gc gs
  go_enter Tryz.func55, Tryz.ntmps55
  go_wp2_with fail
  clear a0 a1 a2 a3 a4 h0 h1 h2 s0 s1 s2
  refine C1.mono ?_
  rintro rr w1 ⟨rfl, e1⟩
  obtain ⟨c0, c1, c2, c3, c4⟩ := Vec.five (B1.later e1)
  go_wp2_with fail
  clear c0 c1 c2 c3 c4
  refine (C2 w1).mono ?_
  rintro rr w2 ⟨rfl, e2⟩
  obtain ⟨a0, a1, a2, a3, a4⟩ := Vec.five ((B0.later e1).later e2)
  obtain ⟨c0, c1, c2, c3, c4⟩ := Vec.five ((B1.later e1).later e2)
  go_wp2_with fail
  clear a0 a1 a2 a3 a4 c0 c1 c2 c3 c4
  refine (HO.out w2).mono ?_
  rintro rr w3 ⟨rfl, e3⟩
  obtain ⟨wy, hy, FX, ⟨b0, b1, b2, b3, b4⟩, ⟨fb0, fb1, fb2, fb3, fb4⟩, fd0, fd1, fd2, fd3, fd4⟩ := fin5 (((B2.later e1).later e2).later e3) (xt (xt (xt X e1) e2) e3) (by omega) k2 n2 d2 x2 t2
  go_wp2_with fail
  exact bodyPost_ret (v := valV k2 n2 d2 x2 t2) (by simp [results, Tryz.results55, go_sem, fd0, fd1, fd2, fd3, fd4]) rfl ⟨rfl, FX⟩
 ·
  rw [if_pos rfl]
  obtain ⟨u0, u1, u2, h0, h1, h2, s0, s1, s2, B0, B1, B2, X⟩ := mkB3 w [.int .i64 4, .bool false, .int .i64 0, .int .i64 0, sV numbT] [.int .i64 1, .bool cn, .int .i64 cd, .int .i64 cx, sV []] [.int .i64 0, .bool false, .int .i64 0, .int .i64 0, sV []] 27 27 27
  have C1 := isErrG 4 false 0 0 numbT u2
  rw [show decide ((4 : Int) = 4) = true by decide] at C1
  obtain ⟨a0, a1, a2, a3, a4⟩ := Vec.five B0
  clear gc
  go_enter Tryz.func55, Tryz.ntmps55
  go_wp2_with fail
  clear a0 a1 a2 a3 a4 h0 h1 h2 s0 s1 s2
  refine C1.mono ?_
  rintro rr w1 ⟨rfl, e1⟩
  obtain ⟨a0, a1, a2, a3, a4⟩ := Vec.five (B0.later e1)
  obtain ⟨wy, hy, FX, ⟨b0, b1, b2, b3, b4⟩, ⟨fb0, fb1, fb2, fb3, fb4⟩, fd0, fd1, fd2, fd3, fd4⟩ := fin5 (B2.later e1) (xt X e1) (by omega) 4 false 0 0 numbT
  go_wp2_with fail
  exact bodyPost_ret (v := valV 4 false 0 0 numbT) (by simp [results, Tryz.results55, go_sem, fd0, fd1, fd2, fd3, fd4]) rfl ⟨rfl, FX⟩
theorem mean_nil : meanT [] = ⟨4, false, 0, 0, divT⟩ := by
 unfold meanT
 show (if (cntT 0).k = 4 then _ else _) = _
 rw [cntT_zero, if_neg (by decide)]
 show overT _ _ _ (cntT 0).n (cntT 0).d (cntT 0).x = _
 rw [cntT_zero]
 rfl
set_option maxHeartbeats 2000000 in
theorem meanS (v : Value) (l : List DT) (w : World) (h : DecsIn w v l) (hl : l.length ≤ 2000) :
  Calls Tryz.prog 38 #[v] w fun e w' => e = .returned (meanT (l.map DT.num)).val ∧ Ext w w' := by
 have X0 := x1 w (.cells #[.int .i64 0, .bool false, .int .i64 0, .int .i64 0, sV []] 27)
 have B0 := vec_made w (valL 0 false 0 0 []) 27
 change Vec (w.alloc (.cells #[.int .i64 0, .bool false, .int .i64 0, .int .i64 0, sV []] 27)) _ _ at B0
 cases l with
 | nil =>
  obtain ⟨p, cap, rfl, -, -⟩ := h
  have e0 : meanT (([] : List DT).map DT.num) = ⟨4, false, 0, 0, divT⟩ := mean_nil
  rw [e0]
  clear e0
  go_enter Tryz.func38, Tryz.ntmps38
  go_wp2_with fail
  refine (errVS divT _).mono ?_
  rintro rr w1 ⟨rfl, e1⟩
  obtain ⟨wy, hy, FX, ⟨b0, b1, b2, b3, b4⟩, ⟨fb0, fb1, fb2, fb3, fb4⟩, fd0, fd1, fd2, fd3, fd4⟩ := fin5 (B0.later e1) (xt X0 e1) (by omega) 4 false 0 0 divT
  go_wp2_with fail
  exact bodyPost_ret (v := valV 4 false 0 0 divT) (by simp [results, Tryz.results38, go_sem, fd0, fd1, fd2, fd3, fd4]) rfl ⟨rfl, FX⟩
 | cons a l =>
  have CS := sumS v (a :: l) (w.alloc (.cells #[.int .i64 0, .bool false, .int .i64 0, .int .i64 0, sV []] 27)) (h.later X0) hl
  have HC : Hid (∀ W, Calls Tryz.prog 34 #[.int .i64 ((a :: l).length : Int)] W fun e w' => e = .returned (cntT (a :: l).length).val ∧ Ext W w') := fun W => countS (a :: l).length W hl
  have HO : Hid (∀ W, Calls Tryz.prog 55 #[sV [47], (sumT (cntT 0) ((a :: l).map DT.num)).val, (cntT (a :: l).length).val] W fun e w' => e = .returned (meanT ((a :: l).map DT.num)).val ∧ Ext W w') := fun W => by
   have := stepDS (sumT (cntT 0) ((a :: l).map DT.num)) (cntT (a :: l).length) W (sumT_isP _ (Or.inl (cntT_isN (by omega)))) (cntT_isN hl)
   unfold meanT
   rw [List.length_map]
   exact this
  obtain ⟨p, cap, rfl, -, -⟩ := h
  obtain ⟨⟨k2, n2, d2, x2, t2⟩, hc⟩ : ∃ r, meanT ((a :: l).map DT.num) = r := ⟨_, rfl⟩
  obtain ⟨⟨k3, n3, d3, x3, t3⟩, hz⟩ : ∃ r, cntT (a :: l).length = r := ⟨_, rfl⟩
  obtain ⟨⟨k4, n4, d4, x4, t4⟩, hs⟩ : ∃ r, sumT (cntT 0) ((a :: l).map DT.num) = r := ⟨_, rfl⟩
  rw [hc]
  rw [hc, hz, hs] at HO
  rw [hz] at HC
  rw [hs] at CS
  obtain ⟨n, hn⟩ : ∃ n, (a :: l).length = n := ⟨_, rfl⟩
  have n0 : ((n : Int) == 0) = false := beq_eq_false_iff_ne.2 (by rw [← hn]; simp; omega)
  rw [hn] at CS HC ⊢
  clear hc hz hn hs
  go_enter Tryz.func38, Tryz.ntmps38
  go_wp2_with fail
  refine CS.mono ?_
  rintro rr w1 ⟨rfl, e1⟩
  go_wp2_with fail
  refine (HC.out w1).mono ?_
  rintro rr w2 ⟨rfl, e2⟩
  go_wp2_with fail
  refine (HO.out w2).mono ?_
  rintro rr w3 ⟨rfl, e3⟩
  obtain ⟨wy, hy, FX, ⟨b0, b1, b2, b3, b4⟩, ⟨fb0, fb1, fb2, fb3, fb4⟩, fd0, fd1, fd2, fd3, fd4⟩ := fin5 (((B0.later e1).later e2).later e3) (xt (xt (xt X0 e1) e2) e3) (by omega) k2 n2 d2 x2 t2
  go_wp2_with fail
  exact bodyPost_ret (v := valV k2 n2 d2 x2 t2) (by simp [results, Tryz.results38, go_sem, fd0, fd1, fd2, fd3, fd4]) rfl ⟨rfl, FX⟩
/-- The number of a value. -/
def VT.dec (e : VT) : DT := ⟨e.n, e.d, e.x⟩
theorem num_dec {e : VT} (h : e.isN) : e.dec.num = e := by
 obtain ⟨k, n, d, x, t⟩ := e
 obtain ⟨rfl, rfl, _⟩ : k = 1 ∧ t = [] ∧ goodB n d x = true := h
 rfl
def decsT (l : List VT) : List DT := (numsT l).map VT.dec
theorem decsT_num {l : List VT} (h : l.all VT.good = true) : (decsT l).map DT.num = numsT l := by
 unfold decsT
 rw [List.map_map]
 have : ∀ e ∈ numsT l, (DT.num ∘ VT.dec) e = e := fun e he => num_dec (numsT_isN h e he)
 rw [List.map_congr_left this, List.map_id']
theorem decsT_step {l : List VT} {k : Nat} {e : VT} (he : l[k]? = some e) : decsT (l.take (k + 1)) = decsT (l.take k) ++ (if e.k = 1 then [e.dec] else []) := by
 unfold decsT numsT
 rw [List.take_add_one, he, List.filter_append, List.map_append]
 congr 1
 by_cases h1 : e.k = 1
 ·
  rw [if_pos h1]; simp [h1]
 ·
  rw [if_neg h1]; simp [h1]
/-- What l7Numbers answers. -/
def NumsAns (w w' : World) (l : List VT) (e : Ending) : Prop := (∃ x, l.find? (fun e => decide (e.k = 4)) = some x ∧ e = .returned (.tuple #[.slice none 0 0, x.val]) ∧ Ext w w') ∨
 (∃ u, l.find? (fun e => decide (e.k = 4)) = none ∧ e = .returned (.tuple #[u, valV 0 false 0 0 []]) ∧ OwnE w' (w.heap.size + 1) u (decsT l) ∧ Ext w w')
set_option maxRecDepth 8000 in
set_option maxHeartbeats 4000000 in
theorem numsS (v : Value) (l : List VT) (w : World) (h : ValsIn w v l) (hl : l.length ≤ 2000) :
  Calls Tryz.prog 35 #[v] w fun e w' => NumsAns w w' l e := by
 obtain ⟨p, cap, rfl, hcap, hrow⟩ := h
 obtain ⟨n, hn⟩ : ∃ n, l.length = n := ⟨_, rfl⟩
 have HN : Hid (l.length = n) := hn
 rw [hn] at hcap hl hrow ⊢
 have HRow : Hid (0 < n → ∃ b o, p = some ⟨b, o, none⟩ ∧ RowV w b o l) := hrow
 have X0 := x1 w (.cells #[.int .i64 0, .bool false, .int .i64 0, .int .i64 0, sV []] 27)
 have B0 := vec_made w (valL 0 false 0 0 []) 27
 have s0 : (w.alloc (.cells #[.int .i64 0, .bool false, .int .i64 0, .int .i64 0, sV []] 27)).heap.size = w.heap.size + 1 := World.size_alloc _ _
 change Vec (w.alloc (.cells #[.int .i64 0, .bool false, .int .i64 0, .int .i64 0, sV []] 27)) _ _ at B0
 obtain ⟨u0, hu0⟩ : ∃ u, w.alloc (.cells #[.int .i64 0, .bool false, .int .i64 0, .int .i64 0, sV []] 27) = u := ⟨_, rfl⟩
 rw [hu0] at X0 B0 s0
 obtain ⟨B, hB⟩ : ∃ B, w.heap.size = B := ⟨_, rfl⟩
 have HB : Hid (w.heap.size = B) := hB
 rw [hB] at B0 s0
 have HS : Hid (OwnE u0 (B + 1) (.slice none 0 0) (decsT (l.take 0)) ∧ Vec u0 B (valL 0 false 0 0 []) ∧ Ext w u0 ∧ (∀ x ∈ l.take 0, decide (x.k = 4) = false) ∧ B + 1 ≤ u0.heap.size) := ⟨World.ownsRow_nil _ _ _ _, B0, X0, by simp, by omega⟩
 clear hn hrow B0 X0
 go_enter Tryz.func35, Tryz.ntmps35
 go_wp2_with fail
 clear hu0 s0 hB
 go_loopw [4, 9] (fun s4 i wr => ∃ (k : Nat) (q : Option Addr) (n2 c2 : Nat), k ≤ n ∧ i = .int .i64 k ∧ s4 = .slice q n2 c2 ∧ Hid (OwnE wr (B + 1) (.slice q n2 c2) (decsT (l.take k)) ∧ Vec wr B (valL 0 false 0 0 []) ∧ Ext w wr ∧ (∀ x ∈ l.take k, decide (x.k = 4) = false) ∧ B + 1 ≤ wr.heap.size)) (fun _ i _ => n - (intOf i).toNat)
 case atStart => exact ⟨0, none, 0, 0, by omega, rfl, rfl, HS⟩
 case round =>
  obtain ⟨k, q, n2, c2, hk, rfl, rfl, HO⟩ := hrel
  clear HS
  by_cases hlt : k < n
  ·
   have i2 : (k : Int) < (n : Int) := by omega
   obtain ⟨e, hx⟩ : ∃ x, l[k]? = some x := ⟨_, List.getElem?_eq_getElem (by rw [HN.out]; exact hlt)⟩
   obtain ⟨b, o, rfl, RW⟩ := HRow.out (by omega)
   obtain ⟨OE, VB, XW, HNo, hsz⟩ := HO.out
   obtain ⟨a0, a1, a2, a3, a4⟩ := (RW.later XW).five hx
   have HStep : Hid (decsT (l.take (k + 1)) = decsT (l.take k) ++ (if e.k = 1 then [e.dec] else [])) := decsT_step hx
   have HFst : Hid (decide (e.k = 4) = true → l.find? (fun e => decide (e.k = 4)) = some e) := fun h4 => find_first hx h4 (fun j y hj hy => HNo y (by
    rw [List.mem_iff_getElem?]
    exact ⟨j, by rw [List.getElem?_take_of_lt hj]; exact hy⟩))
   have HNx : Hid (decide (e.k = 4) = false → ∀ x ∈ l.take (k + 1), decide (x.k = 4) = false) := fun h4 x hm => by
    rw [List.take_add_one, hx] at hm
    rcases List.mem_append.1 hm with hm | hm
    ·
     exact HNo x hm
    ·
     simp at hm; subst hm; exact h4
   have Y := x1 wr (.cells #[.int .i64 e.k, .bool e.n, .int .i64 e.d, .int .i64 e.x, sV e.t] 27)
   have KB := vec_made wr (valL e.k e.n e.d e.x e.t) 27
   change Vec (wr.alloc (.cells #[.int .i64 e.k, .bool e.n, .int .i64 e.d, .int .i64 e.x, sV e.t] 27)) _ _ at KB
   obtain ⟨C, hC⟩ : ∃ C, wr.heap.size = C := ⟨_, rfl⟩
   rw [hC] at KB hsz
   obtain ⟨wx, hwx⟩ : ∃ wx, wr.alloc (.cells #[.int .i64 e.k, .bool e.n, .int .i64 e.d, .int .i64 e.x, sV e.t] 27) = wx := ⟨_, rfl⟩
   have sx : wx.heap.size = C + 1 := by rw [← hwx, World.size_alloc, hC]
   rw [hwx] at Y KB
   have CE := isErrG e.k e.n e.d e.x e.t wx
   have HOx : Hid (OwnE wx (B + 1) (.slice q n2 c2) (decsT (l.take k)) ∧ Vec wx B (valL 0 false 0 0 []) ∧ Ext w wx) := ⟨ownE_later OE Y, VB.later Y, xt XW Y⟩
   obtain ⟨h4, hh4⟩ : ∃ q, decide (e.k = 4) = q := ⟨_, rfl⟩
   rw [hh4] at CE HFst HNx
   obtain ⟨ek, en, ed, ex, et⟩ := e
   dsimp only at a0 a1 a2 a3 a4 hwx CE KB HStep
   obtain ⟨k0, k1, k2, k3, k4⟩ := Vec.five KB
   clear hx RW HO OE VB XW HNo hh4
   go_wp2_with fail
   clear a0 a1 a2 a3 a4 k0 k1 k2 k3 k4 hwx hC
   refine CE.mono ?_
   rintro z w2 ⟨rfl, e2⟩
   have K2 := KB.later e2
   cases h4
   ·
    obtain ⟨OE, VB, XW⟩ := HOx.out
    have sz2 : C + 1 ≤ w2.heap.size := by have := e2.size; omega
    have O2 := ownE_later OE e2
    have V2 := VB.later e2
    have X2 := xt XW e2
    obtain ⟨k0, k1, k2, k3, k4⟩ := Vec.five K2
    by_cases h1 : ek = 1
    ·
     subst h1
     have HD : Hid (decsT (l.take (k + 1)) = decsT (l.take k) ++ [⟨en, ed, ex⟩]) := by show _ = _; rw [HStep.out, if_pos rfl]; rfl
     have hlen : (decsT (l.take k)).length ≤ 2000 := by
      unfold decsT numsT
      rw [List.length_map]
      have := List.length_filter_le (fun e : VT => !(e.k != 1)) (l.take k)
      rw [List.length_take] at this
      omega
     obtain ⟨inf, hi, hz, hz1, hz2⟩ := infoE
     have HO2 : Hid (OwnE w2 (B + 1) (.slice q n2 c2) (decsT (l.take k)) ∧ Vec w2 B (valL 0 false 0 0 []) ∧ Ext w w2) := ⟨O2, V2, X2⟩
     clear OE VB XW O2 V2 X2 HOx K2 KB HStep HFst
     go_wp2_with (at_builtin; refine wpList_append_own _ rfl _ _ 59 rfl (B + 1) 25 inf (decV false 0 0) 3 24 Tryz.underlying59 hi hz hz1 hz2 rfl (by decide) _ _ _ rfl (HO2.out.1.alloc _) ⟨w2.heap.size, 0, none⟩ 1 1 [.bool en, .int .i64 ed, .int .i64 ex] rfl rfl (World.news_of_block (heap_alloc_new _ _)) (by simp [Value.oneCell']) (by simp only [maxLen]; omega) (by omega) (by simp; omega) ?_)
     intro v7 wC ownC gC _
     obtain ⟨O2, V2, X2⟩ := HO2.out
     have lb := ownE_block O2
     have XC : Ext w wC := (xa X2 _).grown gC (xa X2 _).size (fun r hr => by have := lb r hr; have := HB.out; omega)
     have VC := vec_same (V2.later (x1 w2 _)) (gC.block B (by rw [World.size_alloc]; omega) (fun q => by have := lb _ q.symm; omega))
     have OC : OwnE wC (B + 1) v7 (decsT (l.take (k + 1))) := by
      rw [HD.out]
      show World.ownsRow _ _ _ _ _ _ _
      rw [List.length_append, flatD_append]
      exact ownC
     obtain ⟨q7, n7, c7, rfl⟩ := ownE_slice OC
     have HQ : Hid (OwnE wC (B + 1) (.slice q7 n7 c7) (decsT (l.take (k + 1))) ∧ Vec wC B (valL 0 false 0 0 []) ∧ Ext w wC ∧ (∀ x ∈ l.take (k + 1), decide (x.k = 4) = false) ∧ B + 1 ≤ wC.heap.size) := ⟨OC, VC, XC, HNx.out (by first | rfl | trivial), by have := gC.size; rw [World.size_alloc] at this; omega⟩
     clear HO2 O2 V2 X2 lb XC VC OC ownC gC hlen
     go_wp2_with fail
     go_roundw
     case rel => exact ⟨k + 1, q7, n7, c7, by omega, by go_num, rfl, HQ⟩
     case measure => simp [intOf]; omega
    ·
     have h1' : (ek == 1) = false := beq_eq_false_iff_ne.2 h1
     have HD : Hid (decsT (l.take (k + 1)) = decsT (l.take k)) := by show _ = _; rw [HStep.out, if_neg h1, List.append_nil]
     have HQ : Hid (OwnE w2 (B + 1) (.slice q n2 c2) (decsT (l.take (k + 1))) ∧ Vec w2 B (valL 0 false 0 0 []) ∧ Ext w w2 ∧ (∀ x ∈ l.take (k + 1), decide (x.k = 4) = false) ∧ B + 1 ≤ w2.heap.size) := ⟨by rw [HD.out]; exact O2, V2, X2, HNx.out (by first | rfl | trivial), by omega⟩
     clear OE VB XW O2 V2 X2 HOx K2 KB HStep HFst HD
     go_wp2_with fail
     go_roundw
     case rel => exact ⟨k + 1, q, n2, c2, by omega, by go_num, rfl, HQ⟩
     case measure => simp [intOf]; omega
   ·
    obtain ⟨OE, VB, XW⟩ := HOx.out
    obtain ⟨k0, k1, k2, k3, k4⟩ := Vec.five K2
    obtain ⟨wy, hy, FX, ⟨b0, b1, b2, b3, b4⟩, ⟨fb0, fb1, fb2, fb3, fb4⟩, fd0, fd1, fd2, fd3, fd4⟩ := fin5 (VB.later e2) (xt XW e2) (by have := HB.out; omega) ek en ed ex et
    clear OE VB XW HOx K2 KB HStep HNx
    have HF4 : Hid (l.find? (fun e => decide (e.k = 4)) = some ⟨ek, en, ed, ex, et⟩) := HFst.out (by first | rfl | trivial)
    clear HFst
    go_wp2_with fail
    go_region
    go_wp2_with fail
    exact bodyPost_ret (v := .tuple #[.slice none 0 0, valV ek en ed ex et]) (by simp [results, Tryz.results35, go_sem, fd0, fd1, fd2, fd3, fd4]) rfl (Or.inl ⟨_, HF4.out, rfl, xd FX⟩)
  ·
   obtain rfl : k = n := by omega
   have i2 : ¬ (k : Int) < (k : Int) := by omega
   obtain ⟨OE, VB, XW, HNo, hsz⟩ := HO.out
   have hfull : l.take k = l := List.take_of_length_le (by rw [HN.out]; exact Nat.le_refl _)
   rw [hfull] at OE HNo
   have HF : Hid (l.find? (fun e => decide (e.k = 4)) = none) := find_none HNo
   obtain ⟨wy, hy, FX, ⟨b0, b1, b2, b3, b4⟩, ⟨fb0, fb1, fb2, fb3, fb4⟩, fd0, fd1, fd2, fd3, fd4⟩ := fin5 VB XW (by have := HB.out; omega) 0 false 0 0 []
   have HOY : Hid (OwnE wy (B + 1) (.slice q n2 c2) (decsT l)) := by
    have h0 : ∀ c : Nat, (⟨B, c, none⟩ : Addr).block < B + 1 := fun c => Nat.lt_succ_self B
    show OwnE _ _ _ _
    rw [← hy]
    exact ownE_far (ownE_far (ownE_far (ownE_far (ownE_far OE (h0 0) _) (h0 1) _) (h0 2) _) (h0 3) _) (h0 4) _
   clear OE VB XW HNo hfull HO
   go_wp2_with fail
   exact bodyPost_ret (v := .tuple #[.slice q n2 c2, valV 0 false 0 0 []]) (by simp [results, Tryz.results35, go_sem, fd0, fd1, fd2, fd3, fd4]) rfl (Or.inr ⟨_, HF.out, rfl, by rw [HB.out]; exact HOY.out, FX⟩)

end Go.Proofs.YtfgohahfppabbaaGreatDoor

