/-
  Chapter 14: whether a sheet without names is good, by the specification.
-/
import Derived.Test.YtichaheefailoaaSh3
import Derived.Deep.QuietTactic
namespace Go.Proofs.Ytichaheefailoaa
open Go.RowKit

theorem xdN8 {a b : World} (h : Ext a b) (n : Nat) : Ext a (b.drewN n) := ⟨h.os, h.tape, h.output, h.size, h.block⟩
set_option maxHeartbeats 1000000 in
theorem refSC (r c : Int) (w : World) (h1 : 1 ≤ r) (h2 : 1 ≤ c) : Calls Try.prog 41 #[.agg #[.int .i64 r, .int .i64 c, .bool false, .bool false]] w fun e w' => e = .returned (.bool (decide (r ≤ 1000) && decide (c ≤ 200))) ∧ Ext w w' := by
  have X := x1 w (.cells #[.int .i64 r, .int .i64 c, .bool false, .bool false] 56)
  by_cases h3 : r ≤ 1000
  · go_enter Try.func41, Try.ntmps41
    go_wp2_with fail
    go_ret
    exact ⟨ret_bool (by simp [h3]), X⟩
  · go_enter Try.func41, Try.ntmps41
    go_wp2_with fail
    go_ret
    exact ⟨ret_bool (by simp; omega), X⟩
set_option maxHeartbeats 1000000 in
theorem placeS (r c : Int) (w : World) (h1 : 1 ≤ r) (h2 : 1 ≤ c) : Calls Try.prog 26 #[.int .i64 r, .int .i64 c] w fun e w' => e = .returned (.bool (decide (r ≤ 1000) && decide (c ≤ 200))) ∧ Ext w w' := by
  have C := refSC r c w h1 h2
  obtain ⟨q, hq⟩ : ∃ q, (decide (r ≤ 1000) && decide (c ≤ 200)) = q := ⟨_, rfl⟩
  rw [hq] at C ⊢
  clear hq
  go_enter Try.func26, Try.ntmps26
  go_wp2_with fail
  refine C.mono ?_
  rintro e w1 ⟨rfl, e1⟩
  go_wp2_with fail
  go_ret
  exact ⟨rfl, e1⟩
set_option maxHeartbeats 1000000 in
theorem aheadS14 (a b c d : Int) (w : World) (h : a < c ∨ (a = c ∧ b < d)) : Calls Try.prog 28 #[.int .i64 a, .int .i64 b, .int .i64 c, .int .i64 d] w fun e w' => e = .returned (.bool true) ∧ w' = w := by
  by_cases h1 : a < c
  · go_enter Try.func28, Try.ntmps28
    go_wp2_with fail
    go_ret
    exact ⟨rfl, rfl⟩
  · obtain ⟨rfl, h2⟩ : a = c ∧ b < d := by omega
    go_enter Try.func28, Try.ntmps28
    go_wp2_with fail
    go_ret
    exact ⟨by first | rfl | simp [h2], rfl⟩

theorem RowCE.cells3 {w : World} {p : Option Addr} {n cap : Nat} {l : List CE} (h : RowCE w (.slice p n cap) l) {i : Nat} {e : CE} (hi : l[i]? = some e) :
    ∃ b, p = some ⟨b, 0, none⟩ ∧ w.cell? ⟨b, i * 3, none⟩ = some (.int .i64 e.r) ∧ w.cell? ⟨b, i * 3 + 1, none⟩ = some (.int .i64 e.c) ∧ w.cell? ⟨b, i * 3 + 2, none⟩ = some (sV e.t) := by
  obtain ⟨p', cap', h1, h2, h3⟩ := h
  cases h1
  have hlt := (List.getElem?_eq_some_iff.1 hi).1
  obtain ⟨b, h4, h5⟩ := h3 (by omega)
  exact ⟨b, h4, h5 i e hi 0 _ rfl, h5 i e hi 1 _ rfl, h5 i e hi 2 _ rfl⟩

set_option maxRecDepth 8000 in
set_option maxHeartbeats 4000000 in
theorem goodSheetS (v : Value) (l : List CE) (w : World) (h : RowCE w v l) (hr : l.Pairwise CE.lt) (hb : ∀ e ∈ l, 1 ≤ e.r ∧ 1 ≤ e.c ∧ 1 ≤ e.t.length ∧ e.t.length ≤ 2000000) (hl : l.length ≤ 3000000) :
    Calls Try.prog 14 #[.agg #[v, .slice none 0 0]] w fun e w' => e = .returned (.bool (okC l)) ∧ Ext w w' := by
  have HV : Hid (RowCE w v l) := h
  obtain ⟨p, cap, rfl, hcap, -⟩ := h
  obtain ⟨n, hn⟩ : ∃ n, l.length = n := ⟨_, rfl⟩
  have HN : Hid (l.length = n) := hn
  have HB : Hid (∀ e ∈ l, 1 ≤ e.r ∧ 1 ≤ e.c ∧ 1 ≤ e.t.length ∧ e.t.length ≤ 2000000) := hb
  have HR : Hid (∀ (i : Nat) (a b : CE), l[i]? = some a → l[i + 1]? = some b → CE.lt a b) := fun i a b ha hb => by
    have li := (List.getElem?_eq_some_iff.1 ha).1
    have lj := (List.getElem?_eq_some_iff.1 hb).1
    have := List.pairwise_iff_getElem.1 hr i (i + 1) li lj (by omega)
    rw [(List.getElem?_eq_some_iff.1 ha).2, (List.getElem?_eq_some_iff.1 hb).2] at this
    exact this
  rw [hn] at hcap hl HV ⊢
  clear hn hb hr
  have A0 := vec_made w [.slice p n cap, .slice none 0 0] 27
  have X0 := x1 w (.cells #[.slice p n cap, .slice none 0 0] 27)
  change Vec (w.alloc (.cells #[.slice p n cap, .slice none 0 0] 27)) _ _ at A0
  obtain ⟨wa, ha⟩ : ∃ wa, w.alloc (.cells #[.slice p n cap, .slice none 0 0] 27) = wa := ⟨_, rfl⟩
  rw [ha] at A0 X0
  have a0 := (A0 0 _ rfl).1
  have a1 := (A0 1 _ rfl).1
  have HA : Hid (Vec wa w.heap.size [.slice p n cap, .slice none 0 0]) := A0
  clear A0
  by_cases h3 : n ≤ 300
  · have f1 : decide ((n : Int) > 300) = false := by simp; omega
    have HO : Hid (okC l = l.all CE.good) := by show _ = _; unfold okC; rw [HN.out, decide_eq_true h3, Bool.true_and]
    go_enter Try.func14, Try.ntmps14
    go_wp2_with fail
    clear a0 a1 ha
    go_loopw [20] (fun i wr => ∃ k : Nat, k ≤ n ∧ i = .int .i64 k ∧ Ext wa wr ∧ Hid ((l.take k).all CE.good = true)) (fun i _ => n - (intOf i).toNat)
    case atStart => exact ⟨0, by omega, rfl, xr _, rfl⟩
    case round =>
      obtain ⟨k, hk, rfl, X, HG⟩ := hrel
      by_cases hlt : k < n
      · obtain ⟨e, he⟩ : ∃ e, l[k]? = some e := ⟨_, List.getElem?_eq_getElem (by rw [HN.out]; exact hlt)⟩
        obtain ⟨b, rfl, c0, c1, c2⟩ := (HV.out.later (xt X0 X)).cells3 he
        have hbe := HB.out e (List.mem_of_getElem? he)
        have hlt' : (k : Int) < (n : Int) := by omega
        have HTK : Hid (l.take (k + 1) = l.take k ++ [e]) := by show _ = _; rw [List.take_add_one, he]; rfl
        have HE : Hid (l[k]? = some e) := he
        have HPV : Hid (0 < k → ∃ a, l[k - 1]? = some a ∧ CE.lt a e ∧ wr.cell? ⟨b, (k - 1) * 3, none⟩ = some (.int .i64 a.r) ∧ wr.cell? ⟨b, (k - 1) * 3 + 1, none⟩ = some (.int .i64 a.c)) := fun h0 => by
          obtain ⟨a, ha⟩ : ∃ a, l[k - 1]? = some a := ⟨_, List.getElem?_eq_getElem (by rw [HN.out]; omega)⟩
          obtain ⟨b', hb', d0, d1, _⟩ := (HV.out.later (xt X0 X)).cells3 ha
          cases hb'
          exact ⟨a, ha, HR.out (k - 1) a e ha (by rw [show k - 1 + 1 = k by omega]; exact he), d0, d1⟩
        obtain ⟨r, c, t⟩ := e
        dsimp only at c0 c1 c2 hbe HPV HTK
        have VB := vec_made wr [.int .i64 r, .int .i64 c, sV t] 37
        have X1 := x1 wr (.cells #[.int .i64 r, .int .i64 c, sV t] 37)
        change Vec (wr.alloc (.cells #[.int .i64 r, .int .i64 c, sV t] 37)) _ _ at VB
        obtain ⟨w1, hw1⟩ : ∃ q, wr.alloc (.cells #[.int .i64 r, .int .i64 c, sV t] 37) = q := ⟨_, rfl⟩
        rw [hw1] at VB X1
        have b0 := (VB 0 _ rfl).1
        have b1 := (VB 1 _ rfl).1
        have b2 := (VB 2 _ rfl).1
        have CP := placeS r c w1 (by omega) (by omega)
        have CT := fun W => printS 2000 t W hbe.2.2.2
        have hts : (⟨t.toArray⟩ : ByteArray).size = t.length := rfl
        obtain ⟨z, hz⟩ : ∃ z, t.length = z := ⟨_, rfl⟩
        have HGD : Hid ((⟨r, c, t⟩ : CE).good = ((decide ((r : Int) ≤ 1000) && decide ((c : Int) ≤ 200)) && printN 2000 t)) := by
          show _ = _
          unfold CE.good printN plainB
          have a3 : decide ((r : Int) ≤ 1000) = decide (r ≤ 1000) := by congr 1; simp; omega
          have a4 : decide ((c : Int) ≤ 200) = decide (c ≤ 200) := by congr 1; simp; omega
          rw [a3, a4, Bool.and_assoc _ (decide (t.length ≤ 2000)), Bool.and_comm (decide (t.length ≤ 2000))]
        rw [hz] at hts hbe
        obtain ⟨P, hP⟩ : ∃ P, (decide ((r : Int) ≤ 1000) && decide ((c : Int) ≤ 200)) = P := ⟨_, rfl⟩
        obtain ⟨Q, hQ⟩ : ∃ Q, printN 2000 t = Q := ⟨_, rfl⟩
        rw [hP] at CP HGD
        rw [hQ] at CT HGD
        have HBAD : Hid ((P && Q) = false → okC l = false) := fun hpq => by
          rw [HO.out]
          cases hq : l.all CE.good with
          | false => rfl
          | true =>
            have := (List.all_eq_true.1 hq) _ (List.mem_of_getElem? HE.out)
            rw [HGD.out, hpq] at this
            cases this
        have HNX : Hid ((P && Q) = true → (l.take (k + 1)).all CE.good = true) := fun hpq => by
          rw [HTK.out, List.all_append, HG.out, List.all_cons, HGD.out, hpq]
          rfl
        clear he hP hQ hz
        have hz1 : decide ((z : Int) < 1) = false := by simp; omega
        go_wp2_with fail
        refine CP.mono ?_
        rintro _ w2 ⟨rfl, e2⟩
        have q2 := cell_later e2 b2
        have q0 := cell_later e2 b0
        have q1 := cell_later e2 b1
        clear CP
        cases P
        · have HF : Hid (okC l = false) := HBAD.out rfl
          go_wp2_with fail
          go_ret
          exact ⟨ret_bool (by rw [HF.out]), xt X0 (xt X (xt X1 e2))⟩
        · go_wp2_with fail
          refine (CT _).mono ?_
          rintro _ w3 ⟨rfl, rfl⟩
          cases Q
          · have HF : Hid (okC l = false) := HBAD.out rfl
            go_wp2_with fail
            go_ret
            exact ⟨ret_bool (by rw [HF.out]), xt X0 (xt X (xt X1 e2))⟩
          · have HNX2 : Hid ((l.take (k + 1)).all CE.good = true) := HNX.out rfl
            have sa := ((HA.out.later (xt X (xt X1 e2))) 0 _ rfl).1
            have HXX : Hid (Ext wa w3) := xt X (xt X1 e2)
            by_cases hk0 : k = 0
            · subst hk0
              clear HPV CT HBAD HNX
              go_wp2_with fail
              go_quiet (fail)
              go_wp2_with fail
              go_roundw
              case rel => exact ⟨1, by omega, by go_num, xdN8 HXX.out _, HNX2⟩
              case measure => simp [intOf]; omega
            · obtain ⟨a, _, hlt2, d0, d1⟩ := HPV.out (by omega)
              have d0 := cell_later (xt X1 e2) d0
              have d1 := cell_later (xt X1 e2) d1
              have g1 : 0 < k := by omega
              have g2 : decide (0 < k) = true := by simp; omega
              have CA := fun W => aheadS14 a.r a.c r c W (by unfold CE.lt at hlt2; simp at hlt2; omega)
              obtain ⟨y, hy⟩ : ∃ y, k - 1 = y := ⟨_, rfl⟩
              have hy2 : IntKind.i64.wrap ((k : Int) - 1) = (y : Int) := by rw [IntKind.wrap_i64]; omega
              have hy3 : (k : Int) - 1 = (y : Int) := by omega
              have hyn : (y : Int) < (n : Int) := by omega
              rw [hy] at d0 d1
              clear HPV CT HBAD HNX hy hk0
              go_wp2_with fail
              go_quiet (first | (go_at_call 28; exact Calls.quiet_of_same (CA _)))
              go_wp2_with fail
              go_roundw
              case rel => exact ⟨k + 1, by omega, by go_num, xdN8 HXX.out _, HNX2⟩
              case measure => simp [intOf]; omega
      · obtain rfl : k = n := by omega
        have HT : Hid (okC l = true) := by
          show _ = _
          rw [HO.out]
          have := HG.out
          rw [List.take_of_length_le (by rw [HN.out]; omega)] at this
          exact this
        have s1 := ((HA.out.later X) 1 _ rfl).1
        go_wp2_with fail
        go_loopw [71] (fun i wr => i = .int .i64 0 ∧ Ext wa wr) (fun _ _ => 0)
        case atStart => exact ⟨rfl, X⟩
        case round =>
          obtain ⟨rfl, Y⟩ := hrel
          go_wp2_with fail
          go_ret
          exact ⟨ret_bool (by rw [HT.out]), xt X0 Y⟩
  · have f1 : decide ((n : Int) > 300) = true := by simp; omega
    have HF : Hid (okC l = false) := by show _ = _; unfold okC; rw [HN.out, decide_eq_false h3]; rfl
    go_enter Try.func14, Try.ntmps14
    go_wp2_with fail
    go_ret
    exact ⟨ret_bool (by rw [HF.out]), X0⟩

end Go.Proofs.Ytichaheefailoaa
