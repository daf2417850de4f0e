/-
  Chapter 13: limits handed over and compared.
-/
import Derived.Test.YtnpcckhalbbbhaaDoorZ7
namespace Go.Proofs.YtnpcckhalbbbhaaDoor
open Go.RowKit

theorem OwnDc.decs {w : World} {g n : Nat} {l : List DT} (h : OwnDc w g l) (hn : l.length = n) : DecsIn w (.slice (some ⟨g, 0, none⟩) n n) l := by
  subst hn
  exact h.slice
theorem Vec.put5c {w : World} {b : Nat} {v0 v1 v2 v3 v4 : Value} (h : Vec w b [v0, v1, v2, v3, v4]) (u0 u1 u2 u3 u4 : Value) :
    Vec (((((w.setCell ⟨b, 0, none⟩ u0).setCell ⟨b, 1, none⟩ u1).setCell ⟨b, 2, none⟩ u2).setCell ⟨b, 3, none⟩ u3).setCell ⟨b, 4, none⟩ u4) b [u0, u1, u2, u3, u4] :=
  ((((h.put 0 (by simp) u0).put 1 (by simp) u1).put 2 (by simp) u2).put 3 (by simp) u3).put 4 (by simp) u4
set_option maxRecDepth 8000 in
set_option maxHeartbeats 4000000 in
theorem toLimit (cv : Value) (e : LT) (w : World) (h : DecsIn w cv e.cf) (hl : e.cf.length ≤ 1048576) :
    Calls Tryd.prog 26 #[limV cv e.op e.rt] w fun z w' => ∃ b, z = .returned (limV (.slice (some ⟨b, 0, none⟩) e.cf.length e.cf.length) e.op e.rt) ∧ w.heap.size ≤ b ∧ OwnDc w' b e.cf ∧ Ext w w' := by
  obtain ⟨cf, op, ⟨n, d, x⟩⟩ := e
  dsimp only at h hl ⊢
  obtain ⟨u0, u1, u2, h0, h1, h2, s0, s1, s2, B0, B1, B2, X⟩ := mkB3 w [cv, sV op, .bool n, .int .i64 d, .int .i64 x] [.slice none 0 0, sV [], .bool false, .int .i64 0, .int .i64 0] [.slice none 0 0, sV [], .bool false, .int .i64 0, .int .i64 0] 57 46 46
  obtain ⟨a0, a1, a2, a3, a4⟩ := Vec.five B0
  have CD := toDecs cv cf u2 (h.later X) (by omega)
  rw [s2] at CD
  obtain ⟨N, hN⟩ : ∃ N, cf.length = N := ⟨_, rfl⟩
  have HN : Hid (cf.length = N) := hN
  simp only [hN] at CD ⊢
  clear h hl hN
  go_enter Tryd.func26, Tryd.ntmps26
  go_wp2_with fail
  clear a0 a1 a2 a3 a4 h0 h1 h2 s0 s1 s2
  refine CD.mono ?_
  rintro z w1 ⟨⟨g, rfl, hg, OW⟩, e1⟩
  have V0 := (B0.later e1).far (p := ⟨w.heap.size + 1 + 1, 0, none⟩) (by show w.heap.size + 1 + 1 ≠ _; omega) (.slice (some ⟨g, 0, none⟩) N N)
  have V1 := (B1.later e1).far (p := ⟨w.heap.size + 1 + 1, 0, none⟩) (by show w.heap.size + 1 + 1 ≠ _; omega) (.slice (some ⟨g, 0, none⟩) N N)
  have V2 : Vec (w1.setCell ⟨w.heap.size + 1 + 1, 0, none⟩ (.slice (some ⟨g, 0, none⟩) N N)) (w.heap.size + 1 + 1) [.slice (some ⟨g, 0, none⟩) N N, sV [], .bool false, .int .i64 0, .int .i64 0] := (B2.later e1).put 0 (by simp) _
  have XA := xset (xt X e1) (p := ⟨w.heap.size + 1 + 1, 0, none⟩) (by show _ ≤ w.heap.size + 1 + 1; omega) (.slice (some ⟨g, 0, none⟩) N N)
  have OA := OW.far (p := ⟨w.heap.size + 1 + 1, 0, none⟩) (by show w.heap.size + 1 + 1 ≠ _; omega) (.slice (some ⟨g, 0, none⟩) N N)
  have k0 := ((B2.later e1) 0 _ rfl).1
  have f0 := ((B2.later e1) 0 _ rfl).2
  obtain ⟨wa, ha⟩ : ∃ wa, w1.setCell ⟨w.heap.size + 1 + 1, 0, none⟩ (.slice (some ⟨g, 0, none⟩) N N) = wa := ⟨_, rfl⟩
  rw [ha] at V0 V1 V2 XA OA
  clear B0 B1 B2 OW X CD
  have a1 := (V0 1 _ rfl).1
  have k1 := (V2 1 _ rfl).1
  have f1 := (V2 1 _ rfl).2
  have W0 := V0.far (p := ⟨w.heap.size + 1 + 1, 1, none⟩) (by show w.heap.size + 1 + 1 ≠ _; omega) (sV op)
  have W1 := V1.far (p := ⟨w.heap.size + 1 + 1, 1, none⟩) (by show w.heap.size + 1 + 1 ≠ _; omega) (sV op)
  have W2 : Vec (wa.setCell ⟨w.heap.size + 1 + 1, 1, none⟩ (sV op)) (w.heap.size + 1 + 1) [.slice (some ⟨g, 0, none⟩) N N, sV op, .bool false, .int .i64 0, .int .i64 0] := V2.put 1 (by simp) _
  have XB := xset XA (p := ⟨w.heap.size + 1 + 1, 1, none⟩) (by show _ ≤ w.heap.size + 1 + 1; omega) (sV op)
  have OB := OA.far (p := ⟨w.heap.size + 1 + 1, 1, none⟩) (by show w.heap.size + 1 + 1 ≠ _; omega) (sV op)
  obtain ⟨wb, hb⟩ : ∃ wb, wa.setCell ⟨w.heap.size + 1 + 1, 1, none⟩ (sV op) = wb := ⟨_, rfl⟩
  rw [hb] at W0 W1 W2 XB OB
  clear V0 V1 V2 XA OA
  have b2 := (W0 2 _ rfl).1
  have b3 := (W0 3 _ rfl).1
  have b4 := (W0 4 _ rfl).1
  go_wp2_with fail
  clear k0 f0 a1 k1 f1 b2 b3 b4 ha hb
  refine (toDec n d x wb).mono ?_
  rintro z w2 ⟨rfl, e2⟩
  have k2 := ((W2.later e2) 2 _ rfl).1
  have f2 := ((W2.later e2) 2 _ rfl).2
  have k3 := ((W2.later e2) 3 _ rfl).1
  have f3 := ((W2.later e2) 3 _ rfl).2
  have k4 := ((W2.later e2) 4 _ rfl).1
  have f4 := ((W2.later e2) 4 _ rfl).2
  have Y1 := (((W1.later e2).far (p := ⟨w.heap.size + 1 + 1, 2, none⟩) (by show w.heap.size + 1 + 1 ≠ _; omega) (.bool n)).far (p := ⟨w.heap.size + 1 + 1, 3, none⟩) (by show w.heap.size + 1 + 1 ≠ _; omega) (.int .i64 d)).far (p := ⟨w.heap.size + 1 + 1, 4, none⟩) (by show w.heap.size + 1 + 1 ≠ _; omega) (.int .i64 x)
  have Y2 : Vec (((w2.setCell ⟨w.heap.size + 1 + 1, 2, none⟩ (.bool n)).setCell ⟨w.heap.size + 1 + 1, 3, none⟩ (.int .i64 d)).setCell ⟨w.heap.size + 1 + 1, 4, none⟩ (.int .i64 x)) (w.heap.size + 1 + 1) [.slice (some ⟨g, 0, none⟩) N N, sV op, .bool n, .int .i64 d, .int .i64 x] := (((W2.later e2).put 2 (by simp) _).put 3 (by simp) _).put 4 (by simp) _
  have XC := xset (xset (xset (xt XB e2) (p := ⟨w.heap.size + 1 + 1, 2, none⟩) (by show _ ≤ w.heap.size + 1 + 1; omega) (.bool n)) (p := ⟨w.heap.size + 1 + 1, 3, none⟩) (by show _ ≤ w.heap.size + 1 + 1; omega) (.int .i64 d)) (p := ⟨w.heap.size + 1 + 1, 4, none⟩) (by show _ ≤ w.heap.size + 1 + 1; omega) (.int .i64 x)
  have OC := (((OB.later e2).far (p := ⟨w.heap.size + 1 + 1, 2, none⟩) (by show w.heap.size + 1 + 1 ≠ _; omega) (.bool n)).far (p := ⟨w.heap.size + 1 + 1, 3, none⟩) (by show w.heap.size + 1 + 1 ≠ _; omega) (.int .i64 d)).far (p := ⟨w.heap.size + 1 + 1, 4, none⟩) (by show w.heap.size + 1 + 1 ≠ _; omega) (.int .i64 x)
  obtain ⟨wc, hc⟩ : ∃ wc, ((w2.setCell ⟨w.heap.size + 1 + 1, 2, none⟩ (.bool n)).setCell ⟨w.heap.size + 1 + 1, 3, none⟩ (.int .i64 d)).setCell ⟨w.heap.size + 1 + 1, 4, none⟩ (.int .i64 x) = wc := ⟨_, rfl⟩
  rw [hc] at Y1 Y2 XC OC
  clear W0 W1 W2 XB OB
  obtain ⟨q0, q1, q2, q3, q4⟩ := Vec.five Y2
  obtain ⟨r0, r1, r2, r3, r4⟩ := Vec.five Y1
  obtain ⟨t0, t1, t2, t3, t4⟩ := Vec.fiveF Y1
  have G1 := Y1.put5c (.slice (some ⟨g, 0, none⟩) N N) (sV op) (.bool n) (.int .i64 d) (.int .i64 x)
  have XD := xset (xset (xset (xset (xset XC (p := ⟨w.heap.size + 1, 0, none⟩) (by show _ ≤ w.heap.size + 1; omega) (.slice (some ⟨g, 0, none⟩) N N)) (p := ⟨w.heap.size + 1, 1, none⟩) (by show _ ≤ w.heap.size + 1; omega) (sV op)) (p := ⟨w.heap.size + 1, 2, none⟩) (by show _ ≤ w.heap.size + 1; omega) (.bool n)) (p := ⟨w.heap.size + 1, 3, none⟩) (by show _ ≤ w.heap.size + 1; omega) (.int .i64 d)) (p := ⟨w.heap.size + 1, 4, none⟩) (by show _ ≤ w.heap.size + 1; omega) (.int .i64 x)
  have OD := ((((OC.far (p := ⟨w.heap.size + 1, 0, none⟩) (by show w.heap.size + 1 ≠ _; omega) (.slice (some ⟨g, 0, none⟩) N N)).far (p := ⟨w.heap.size + 1, 1, none⟩) (by show w.heap.size + 1 ≠ _; omega) (sV op)).far (p := ⟨w.heap.size + 1, 2, none⟩) (by show w.heap.size + 1 ≠ _; omega) (.bool n)).far (p := ⟨w.heap.size + 1, 3, none⟩) (by show w.heap.size + 1 ≠ _; omega) (.int .i64 d)).far (p := ⟨w.heap.size + 1, 4, none⟩) (by show w.heap.size + 1 ≠ _; omega) (.int .i64 x)
  obtain ⟨wd, hd⟩ : ∃ wd, ((((wc.setCell ⟨w.heap.size + 1, 0, none⟩ (.slice (some ⟨g, 0, none⟩) N N)).setCell ⟨w.heap.size + 1, 1, none⟩ (sV op)).setCell ⟨w.heap.size + 1, 2, none⟩ (.bool n)).setCell ⟨w.heap.size + 1, 3, none⟩ (.int .i64 d)).setCell ⟨w.heap.size + 1, 4, none⟩ (.int .i64 x) = wd := ⟨_, rfl⟩
  rw [hd] at G1 XD OD
  obtain ⟨p0, p1, p2, p3, p4⟩ := Vec.five G1
  have HO : Hid (OwnDc wd g cf) := OD
  have hg2 : w.heap.size ≤ g := by omega
  clear Y1 Y2 OC OD XC G1
  go_wp2_with fail
  exact bodyPost_ret (v := limV (.slice (some ⟨g, 0, none⟩) N N) op ⟨n, d, x⟩) (by simp [results, Tryd.results26, go_sem, p0, p1, p2, p3, p4]) rfl ⟨g, rfl, hg2, HO.out, XD⟩
/-- What is handed over by an index. -/
def LC.of (e : LT) (cv : Value) : LC := ⟨cv, e.op, e.rt.ng, e.rt.dg, e.rt.ex⟩
abbrev ownS (b n : Nat) : Value := .slice (some ⟨b, 0, none⟩) n n
def ZipL (w : World) (g : Nat) (l : List LT) (M : List LC) (k : Nat) : Prop := M.length = k ∧ ∀ (i : Nat) (e : LT), i < k → l[i]? = some e → ∃ b, g < b ∧ M[i]? = some (LC.of e (ownS b e.cf.length)) ∧ OwnDc w b e.cf
theorem ZipL.later {w w' : World} {g : Nat} {l : List LT} {M : List LC} {k : Nat} (h : ZipL w g l M k) (x : Ext w w') : ZipL w' g l M k := ⟨h.1, fun i e hi he => by
  obtain ⟨b, h0, h1, h2⟩ := h.2 i e hi he
  exact ⟨b, h0, h1, h2.later x⟩⟩
theorem ZipL.far {w : World} {g : Nat} {l : List LT} {M : List LC} {k : Nat} (h : ZipL w g l M k) (o : Nat) (u : Value) : ZipL (w.setCell ⟨g, o, none⟩ u) g l M k := ⟨h.1, fun i e hi he => by
  obtain ⟨b, h0, h1, h2⟩ := h.2 i e hi he
  exact ⟨b, h0, h1, h2.far (p := ⟨g, o, none⟩) (by show g ≠ _; omega) u⟩⟩
theorem ZipL.snoc {w : World} {g : Nat} {l : List LT} {M : List LC} {k : Nat} {e : LT} {b : Nat} (h : ZipL w g l M k) (he : l[k]? = some e) (hb : g < b) (hd : OwnDc w b e.cf) : ZipL w g l (M ++ [LC.of e (ownS b e.cf.length)]) (k + 1) :=
  ⟨by simp [h.1], fun i q hi hq => by
    by_cases hik : i = k
    · subst hik
      rw [he] at hq
      cases hq
      exact ⟨b, hb, by rw [List.getElem?_append_right (by rw [h.1]; omega), h.1]; simp, hd⟩
    · obtain ⟨c, h0, h1, h2⟩ := h.2 i q (by omega) hq
      exact ⟨c, h0, by rw [List.getElem?_append_left (by rw [h.1]; omega)]; exact h1, h2⟩⟩
theorem RowLc.limits {w : World} {g b o : Nat} {l : List LT} {M : List LC} (h : RowLc w b o M) (z : ZipL w g l M l.length) : RowL w b o l := fun i e hi => by
  obtain ⟨c, h0, h1, h2⟩ := z.2 i e (List.getElem?_eq_some_iff.1 hi).1 hi
  obtain ⟨a0, a1, a2, a3, a4⟩ := h.all h1
  exact ⟨_, h2.slice, a0, a1, a2, a3, a4⟩
theorem zlc_at {M : List LC} {k n : Nat} (hM : M.length = k) (h : k < n) : (M ++ List.replicate (n - k) zeroLC)[k]? = some zeroLC := by
  rw [List.getElem?_append_right (by omega), List.getElem?_replicate, if_pos (by omega)]
theorem zlc_set {M : List LC} {k n : Nat} (hM : M.length = k) (h : k < n) (e : LC) : (M ++ List.replicate (n - k) zeroLC).set k e = (M ++ [e]) ++ List.replicate (n - (k + 1)) zeroLC := by
  obtain ⟨j, hj⟩ : ∃ j, n - k = j + 1 := ⟨n - k - 1, by omega⟩
  rw [hj, show n - (k + 1) = j by omega, List.set_append_right _ _ (by omega), hM, Nat.sub_self, List.replicate_succ, List.set_cons_zero, List.append_assoc]
  rfl
theorem infoLc : (Tryd.prog.info? 46).map (fun i => (i.zero, i.size, i.bytes)) = some (some (.agg #[.slice none 0 0, sV [], .bool false, .int .i64 0, .int .i64 0]), 5, 64) := by kernel_rfl
theorem makeRowLc (n : Nat) (hn : n ≤ 2000000) (w : World) :
    (Instr.makeSlice 30 (.int .i64 (n : Int)) (.int .i64 (n : Int))).run Tryd.prog w = .ok (.slice (some ⟨w.heap.size, 0, none⟩) n n) (w.alloc (.cells (madeCells #[.slice none 0 0, sV [], .bool false, .int .i64 0, .int .i64 0] (n * 5)) 46)) := by
  obtain ⟨i, hi, hzz⟩ := Option.map_eq_some_iff.1 infoLc
  simp only [Prod.mk.injEq] at hzz
  obtain ⟨hz, hs, hb⟩ := hzz
  have hr := run_make (P := Tryd.prog) w 30 46 i _ Tryd.underlying30 hi hz .i64 .i64 n n (by omega) (Int.le_refl _) (by rw [hb]; omega) (by omega)
  simp only [Int.toNat_natCast, hs] at hr
  exact hr
set_option maxRecDepth 8000 in
set_option maxHeartbeats 2000000 in
theorem eqLimit_same (cv cv' : Value) (e : LT) (w : World) (h : DecsIn w cv e.cf) (h' : DecsIn w cv' e.cf) (hl : e.cf.length ≤ 1048576) :
    Calls Tryd.prog 32 #[limV cv e.op e.rt, limV cv' e.op e.rt] w fun z w' => z = .returned (.bool true) ∧ Ext w w' := by
  obtain ⟨cf, op, ⟨n, d, x⟩⟩ := e
  dsimp only at h h' hl ⊢
  obtain ⟨u0, u1, h0, h1, s0, s1, B0, B1, X⟩ := mkB2 w [cv, sV op, .bool n, .int .i64 d, .int .i64 x] [cv', sV op, .bool n, .int .i64 d, .int .i64 x] 46 46
  obtain ⟨a0, a1, a2, a3, a4⟩ := Vec.five B0
  obtain ⟨b0, b1, b2, b3, b4⟩ := Vec.five B1
  have hp : (op == op) = true := by simp
  go_enter Tryd.func32, Tryd.ntmps32
  go_wp2_with fail
  clear a0 a1 a2 a3 a4 b0 b1 b2 b3 b4 h0 h1 s0 s1
  refine (eqDecs cv cv' cf u1 (h.later X) (h'.later X) (by omega)).mono ?_
  rintro z w1 ⟨rfl, e1⟩
  have C0 := B0.later e1
  have C1 := B1.later e1
  obtain ⟨a0, a1, a2, a3, a4⟩ := Vec.five C0
  obtain ⟨b0, b1, b2, b3, b4⟩ := Vec.five C1
  clear B0 B1
  go_wp2_with fail
  clear a0 a1 a2 a3 a4 b0 b1 b2 b3 b4
  refine (eqDecD_same n d x w1).mono ?_
  rintro z w2 ⟨rfl, e2⟩
  go_wp2_with fail
  go_ret
  exact ⟨rfl, xt X (xt e1 e2)⟩

end Go.Proofs.YtnpcckhalbbbhaaDoor
