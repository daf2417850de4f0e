/-
  Chapter 10: codes read by the specification; rows of formats that grow.
-/
import Derived.Test.YthedbjjncnddbaaDoorKu
import Derived.Test.YthedbjjncnddbaaDoorKd
namespace Go.Proofs.YthedbjjncnddbaaDoor
open Go.RowKit

def flatK : List KT → List Value
  | [] => []
  | x :: l => x.cells ++ flatK l
theorem flatK_append (l m : List KT) : flatK (l ++ m) = flatK l ++ flatK m := by
  induction l with
  | nil => rfl
  | cons x l ih => simp [flatK, ih]
theorem flatK_at {l : List KT} {i : Nat} {x : KT} (h : l[i]? = some x) (j : Nat) (hj : j < 9) : (flatK l)[i * 9 + j]? = x.cells[j]? := by
  induction l generalizing i with
  | nil => cases h
  | cons y l ih =>
    have h8 : y.cells.length = 9 := rfl
    cases i with
    | zero =>
      have : y = x := by simpa using h
      subst this
      show (y.cells ++ flatK l)[0 * 9 + j]? = _
      rw [Nat.zero_mul, Nat.zero_add, List.getElem?_append_left (by omega)]
    | succ i =>
      show (y.cells ++ flatK l)[(i + 1) * 9 + j]? = _
      rw [List.getElem?_append_right (by omega), show (i + 1) * 9 + j - y.cells.length = i * 9 + j by omega]
      exact ih (by simpa using h)
/-- A row of formats of one's own, that may grow. -/
abbrev OwnF (w : World) (base : Nat) (v : Value) (l : List KT) : Prop := w.ownsRow base 33 9 v l.length (flatK l)
theorem ownF_later {w w' : World} {base : Nat} {v : Value} {l : List KT} (h : OwnF w base v l) (hx : Ext w w') : OwnF w' base v l := by
  refine ⟨h.1, h.2.imp id ?_⟩
  rintro ⟨g, cap, cur, h1, h2, h3, h4⟩
  have hlt : g < w.heap.size := by
    rcases Nat.lt_or_ge g w.heap.size with h' | h'
    · exact h'
    · rw [Array.getElem?_eq_none h'] at h3; cases h3
  exact ⟨g, cap, cur, h1, h2, by rw [hx.block g hlt]; exact h3, h4⟩
theorem ownF_only {w w' : World} {b base : Nat} {v : Value} {l : List KT} (h : OwnF w base v l) (hx : OnlyK b w w') (hb : b < base) : OwnF w' base v l := by
  refine ⟨h.1, h.2.imp id ?_⟩
  rintro ⟨g, cap, cur, h1, h2, h3, h4⟩
  have hlt : g < w.heap.size := by
    rcases Nat.lt_or_ge g w.heap.size with h' | h'
    · exact h'
    · rw [Array.getElem?_eq_none h'] at h3; cases h3
  exact ⟨g, cap, cur, h1, h2, by rw [hx.block g (by omega) hlt]; exact h3, h4⟩
theorem ownF_base {w : World} {base base' : Nat} {v : Value} {l : List KT} (h : OwnF w base v l) (hb : base' ≤ base) : OwnF w base' v l := by
  refine ⟨h.1, h.2.imp id ?_⟩
  rintro ⟨g, cap, cur, h1, h2, h3⟩
  exact ⟨g, cap, cur, h1, Nat.le_trans hb h2, h3⟩
theorem ownF_block {w : World} {base : Nat} {v : Value} {l : List KT} (h : OwnF w base v l) : ∀ r, v.ownBlock = some r → base ≤ r ∧ r < w.heap.size := by
  intro r hr
  rcases h.2 with ⟨rfl, _⟩ | ⟨g, cap, cur, rfl, h2, h3, _⟩
  · cases hr
  · have : g = r := by simpa [Value.ownBlock] using hr
    subst this
    refine ⟨h2, ?_⟩
    rcases Nat.lt_or_ge g w.heap.size with h' | h'
    · exact h'
    · rw [Array.getElem?_eq_none h'] at h3; cases h3
theorem ownF_slice {w : World} {base : Nat} {v : Value} {l : List KT} (h : OwnF w base v l) : ∃ p c, v = .slice p l.length c ∧ l.length ≤ c := by
  rcases h.2 with ⟨rfl, h0⟩ | ⟨g, cap, cur, rfl, _, _, h3, _⟩
  · exact ⟨none, 0, by rw [h0], by omega⟩
  · exact ⟨_, _, rfl, h3⟩
theorem ownF_nil (w : World) (base : Nat) : OwnF w base (.slice none 0 0) [] := World.ownsRow_nil _ _ _ _
theorem ownF_in {w : World} {base : Nat} {v : Value} {l : List KT} (h : OwnF w base v l) : FormatsIn w v l := by
  rcases h.2 with ⟨rfl, h0⟩ | ⟨g, cap, cur, rfl, hb, hg, hc, _, hcs, htake⟩
  · exact ⟨none, 0, by rw [h0], by omega, fun h => absurd h0 (by omega)⟩
  · refine ⟨_, cap, rfl, hc, fun _ => ⟨g, 0, rfl, fun i e hi c u hu => ?_⟩⟩
    have := h.cells (g := g) rfl (i * 9 + c) u ((flatK_at hi c (KT.cells_lt hu)).trans hu)
    rw [show (⟨g, 0, none⟩ : Addr).add (i * 9 + c) = ⟨g, 0 + i * 9 + c, none⟩ by unfold Addr.add; split <;> simp_all] at this
    exact this
theorem infoF : ∃ inf, Tryd.prog.info? 33 = some inf ∧ inf.zero = some (.agg zeroKT.cells.toArray) ∧ inf.size = 9 ∧ inf.bytes = 96 := by
  have h := infoK
  cases h' : Tryd.prog.info? 33 with
  | none => rw [h'] at h; cases h
  | some inf =>
    rw [h'] at h
    simp at h
    exact ⟨inf, rfl, h.1, h.2.1, h.2.2⟩

theorem readL_none {k : Nat} {l : BL} {acc : List KT} (h : secS l = none) : readL k l acc = [] := by
  cases k with
  | zero => rfl
  | succ k => simp only [readL, h]
theorem readL_full {k : Nat} {l : BL} {acc : List KT} (h : acc.length = 3) : readL k l acc = [] := by
  cases k with
  | zero => rfl
  | succ k =>
    simp only [readL]
    cases secS l with
    | none => rfl
    | some x => simp [h]
theorem readL_end {k : Nat} {l : BL} {acc : List KT} {x : KT} (h : secS l = some (x, [])) (ha : acc.length ≠ 3) : readL (k + 1) l acc = acc ++ [x] := by
  simp only [readL, h, if_neg ha]
  simp
theorem readL_more {k : Nat} {l r : BL} {acc : List KT} {x : KT} (h : secS l = some (x, r)) (ha : acc.length ≠ 3) (hr : r ≠ []) (hp : Lib.hasPrefix r [59] = true) : readL (k + 1) l acc = readL k (r.drop 1) (acc ++ [x]) := by
  simp only [readL, h, if_neg ha, if_neg hr, hp, if_true]
theorem readL_bad {k : Nat} {l r : BL} {acc : List KT} {x : KT} (h : secS l = some (x, r)) (hr : r ≠ []) (hp : Lib.hasPrefix r [59] = false) : readL k l acc = [] := by
  cases k with
  | zero => rfl
  | succ k =>
    simp only [readL, h, if_neg hr, hp]
    split <;> rfl

theorem drop_nil_iff {l : BL} {k : Nat} (hk : k ≤ l.length) : l.drop k = [] ↔ k = l.length := by
  rw [List.drop_eq_nil_iff]
  omega
set_option maxRecDepth 8000 in
set_option maxHeartbeats 4000000 in
theorem readS (l : BL) (w : World) (hL : l.length ≤ 100000000) :
    Calls Tryd.prog 14 #[sV l] w fun e w' => (∃ v, e = .returned v ∧ OwnF w' w.heap.size v (readF l)) ∧ Ext w w' := by
  have HZ : (⟨l.toArray⟩ : ByteArray).size = l.length := rfl
  by_cases hbig : 100 < l.length
  · have HR : Hid (readF l = []) := by show _ = _; unfold readF; rw [if_pos hbig]
    obtain ⟨R, hR⟩ : ∃ R, readF l = R := ⟨_, rfl⟩
    rw [hR] at HR ⊢
    obtain ⟨n, hn⟩ : ∃ n, l.length = n := ⟨_, rfl⟩
    rw [hn] at HZ hbig hL
    have i1 : 100 < (n : Int) := by omega
    clear hR hn
    go_enter Tryd.func14, Tryd.ntmps14
    go_wp2_with fail
    go_ret
    exact ⟨⟨_, rfl, by rw [HR.out]; exact ownF_nil _ _⟩, xr _⟩
  · have HR : Hid (readL (4 - ([] : List KT).length) (l.drop 0) [] = readF l) := by show _ = _; unfold readF; rw [if_neg hbig]; rfl
    obtain ⟨R, hR⟩ : ∃ R, readF l = R := ⟨_, rfl⟩
    rw [hR] at HR ⊢
    clear hR
    have V0 : Vec (w.alloc (.cells #[sV l, .int .i64 0] 50)) w.heap.size [sV l, .int .i64 0] := vec_made w [sV l, .int .i64 0] 50
    have X0 := x1 w (.cells #[sV l, .int .i64 0] 50)
    have A0 : Hid (AtK (w.alloc (.cells #[sV l, .int .i64 0] 50)) w.heap.size l 0) := ⟨V0, by omega, by omega⟩
    obtain ⟨n, hn⟩ : ∃ n, l.length = n := ⟨_, rfl⟩
    have HN : Hid (l.length = n) := hn
    rw [hn] at HZ hbig
    have i1 : (n : Int) ≤ 100 := by omega
    have hn100 : n ≤ 100 := by omega
    clear hn hL hbig V0
    obtain ⟨B, hB⟩ : ∃ B, w.heap.size = B := ⟨_, rfl⟩
    have HB : Hid (w.heap.size = B) := hB
    have sz0 : (w.alloc (.cells #[sV l, .int .i64 0] 50)).heap.size = B + 1 := by rw [World.size_alloc, hB]
    rw [hB] at A0 ⊢
    go_enter Tryd.func14, Tryd.ntmps14
    go_wp2_with fail
    clear hB
    have T0 := ownF_nil (w.alloc (.cells #[sV l, .int .i64 0] 50)) (B + 1)
    go_loopg [4] 4 (fun gk v wr => ∃ (q : Nat) (acc : List KT), Hid (acc.length + gk = 4) ∧ Hid (AtK wr B l q) ∧ OwnF wr (B + 1) v acc ∧ Hid (readL (4 - acc.length) (l.drop q) acc = R) ∧ acc.length ≤ 3 ∧ Hid (B + 1 ≤ wr.heap.size) ∧ Ext w wr)
    case atStart => exact ⟨0, [], by show _ = _; rfl, A0, T0, HR, by simp, by show _ ≤ _; omega, X0⟩
    case round =>
      clear A0 T0 HR sz0 X0
      obtain ⟨q, acc, HG, HA, OF, HR, h3, HSz, X⟩ := hrel
      obtain ⟨p4, c4, rfl, hc4⟩ := ownF_slice OF
      have OFH : Hid (OwnF wr (B + 1) (.slice p4 acc.length c4) acc) := OF
      have SC := sectionK B l q wr HA.out
      clear OF
      go_wp2_with fail
      refine SC.mono ?_
      rintro e w1 ⟨⟨k1, A1, hq | hq⟩, o1⟩
      · obtain ⟨⟨x, r⟩, hx, rfl, hd1⟩ := hq
        have hd1 : l.drop k1 = r := hd1
        have O1 : Hid (OwnF w1 (B + 1) (.slice p4 acc.length c4) acc) := ownF_only OFH.out o1 (by omega)
        have X1 := OnlyK.ext X o1 (by have := HB.out; omega)
        have S1 : B + 1 ≤ w1.heap.size := by have := HSz.out; have := o1.size; omega
        clear SC HA OFH X HSz o1
        by_cases ha3 : acc.length = 3
        · have HE : Hid (R = []) := by show _ = _; rw [← HR.out]; exact readL_full ha3
          have i3 : (acc.length : Int) = 3 := by omega
          clear hx HR
          obtain ⟨ng, bf, af, wh, pl, mb, gr, tm, dt⟩ := x
          go_wp2_with fail
          go_ret
          refine ⟨⟨_, rfl, by rw [HE.out]; exact ownF_nil _ _⟩, xa X1 _⟩
        · have i3 : (acc.length : Int) ≠ 3 := by omega
          have hx' : secS (l.drop q) = some (x, r) := hx
          have HX : Hid (secS (l.drop q) = some (x, r)) := hx'
          clear hx hx'
          obtain ⟨inf, hi, hz, hz1, hz2⟩ := infoF
          have hk1 : k1 ≤ n := by have := A1.2.1; rw [HN.out] at this; exact this
          have HD : Hid (l.drop k1 = r) := hd1
          have HA1 : Hid (AtK w1 B l k1) := A1
          have E1 := x1 w1 (.cells x.cells.toArray 33)
          have OQ : Hid (OwnF (w1.alloc (.cells x.cells.toArray 33)) (B + 1) (.slice p4 acc.length c4) acc) := ownF_later O1.out E1
          clear hd1 O1 A1
          go_wp2_with (at_builtin; refine wpList_append_own _ rfl _ _ 22 rfl (B + 1) 33 inf (.agg zeroKT.cells.toArray) 9 96 Tryd.underlying22 hi hz hz1 hz2 rfl (by decide) _ _ _ rfl (OQ.out.alloc _) ⟨w1.heap.size + 1, 0, none⟩ 1 1 x.cells rfl rfl (World.news_of_block (by have := heap_alloc_new (w1.alloc (.cells x.cells.toArray 33)) (.cells x.cells.toArray 33); rw [World.size_alloc] at this; exact this)) (by simp [Value.oneCell']) (by simp only [maxLen]; omega) (by omega) (by simp; omega) ?_)
          intro v7 wC ownC gC _
          have XA := xa (xa X1 (.cells x.cells.toArray 33)) (.cells x.cells.toArray 33)
          have EA := xa E1 (.cells x.cells.toArray 33)
          have HOB := ownF_block OQ.out
          have XC : Ext w wC := XA.grown gC XA.size (fun z hz => by have := (HOB z hz).1; have := HB.out; omega)
          have OC : Hid (OwnF wC (B + 1) v7 (acc ++ [x])) := by
            show World.ownsRow _ _ _ _ _ _ _
            rw [flatK_append, List.length_append]
            rw [show flatK [x] = x.cells by simp [flatK]]
            exact ownC
          have AC : Hid (AtK wC B l k1) := (HA1.out.later EA).grown gC (fun z hz => by have := (HOB z hz).1; omega)
          have SC2 : Hid (B + 1 ≤ wC.heap.size) := World.block_lt_of_cell? _ _ (AC.out.1 0 _ rfl).1
          obtain ⟨p7, c7, rfl, hc7⟩ := ownF_slice OC.out
          obtain ⟨d1, e1⟩ := AC.out.1 1 _ rfl
          obtain ⟨L7, hL7⟩ : ∃ L7, (acc ++ [x]).length = L7 := ⟨_, rfl⟩
          have HL7 : Hid ((acc ++ [x]).length = L7) := hL7
          rw [hL7] at OC ⊢
          clear gC ownC OQ XA X1 EA E1 hi hz hz1 hz2 HA1 HOB hL7 hc7 S1
          by_cases hr : r = []
          · have hkn : k1 = n := by
              have := (drop_nil_iff (l := l) (k := k1) (by rw [HN.out]; exact hk1)).1 (by rw [HD.out, hr])
              rw [this, HN.out]
            have HE : Hid (R = acc ++ [x]) := by
              show _ = _
              rw [← HR.out, show 4 - acc.length = (3 - acc.length) + 1 by omega]
              exact readL_end (by rw [HX.out, hr]) ha3
            have i5 : (k1 : Int) = (n : Int) := by omega
            subst hkn
            clear HR HX HD hr i5
            go_wp2_with fail
            go_ret
            exact ⟨⟨_, rfl, by rw [HE.out]; exact ownF_base OC.out (by have := HB.out; omega)⟩, XC⟩
          · have hkn : k1 ≠ n := fun e => hr (by rw [← HD.out]; exact (drop_nil_iff (by rw [HN.out]; exact hk1)).2 (by rw [HN.out]; exact e))
            have i5 : (k1 : Int) ≠ (n : Int) := by omega
            have CT := takeK B l [59] k1 wC AC.out (by simp)
            rw [HD.out] at CT
            obtain ⟨p, hp⟩ : ∃ p, Lib.hasPrefix r [59] = p := ⟨_, rfl⟩
            rw [hp] at CT
            have CT : Calls Tryd.prog 27 #[.pointer (some ⟨B, 0, none⟩), sV [59]] wC fun e w' => e = .returned (.bool p) ∧ AtK w' B l (if p = true then k1 + 1 else k1) ∧ OnlyK B wC w' := CT
            cases p
            · have HE : Hid (R = []) := by show _ = _; rw [← HR.out]; exact readL_bad HX.out hr hp
              clear HR HX HD hp
              go_wp2_with fail
              refine CT.mono ?_
              rintro e w2 ⟨rfl, A2, o2⟩
              go_wp2_with fail
              go_ret
              exact ⟨⟨_, rfl, by rw [HE.out]; exact ownF_nil _ _⟩, OnlyK.ext XC o2 (by have := HB.out; omega)⟩
            · have HE : Hid (readL (4 - (acc ++ [x]).length) (l.drop (k1 + 1)) (acc ++ [x]) = R) := by
                show _ = _
                have hl4 : 4 - (acc ++ [x]).length = 3 - acc.length := by rw [List.length_append]; simp only [List.length_singleton]; omega
                rw [← HR.out, show 4 - acc.length = (3 - acc.length) + 1 by omega, readL_more HX.out ha3 hr hp, hl4, ← HD.out, List.drop_drop]
              clear HR HX HD hp
              go_wp2_with fail
              refine CT.mono ?_
              rintro e w2 ⟨rfl, A2, o2⟩
              have A2 : Hid (AtK w2 B l (k1 + 1)) := A2
              have O2 : OwnF w2 (B + 1) (.slice p7 L7 c7) (acc ++ [x]) := ownF_only OC.out o2 (by omega)
              have X2 := OnlyK.ext XC o2 (by have := HB.out; omega)
              have S2 : Hid (B + 1 ≤ w2.heap.size) := by show _ ≤ _; have := SC2.out; have := o2.size; omega
              have l7 : (acc ++ [x]).length = acc.length + 1 := by simp
              have L3 : Hid ((acc ++ [x]).length ≤ 3) := by show _ ≤ _; omega
              have LG : Hid ((acc ++ [x]).length + (gk - 1) = 4) := by show _ = _; have := HG.out; omega
              have LM : Hid (0 < gk) := by show _ < _; have := HG.out; omega
              clear CT o2 XC AC OC d1 e1 l7
              go_wp2_with fail
              go_roundg (gk - 1)
              case measure => have := LM.out; omega
              case rel => exact ⟨k1 + 1, acc ++ [x], LG, A2, O2, HE, L3.out, S2, X2⟩
      · obtain ⟨hx, ⟨ng, bf, af, wh, pl, mb, gr, tm, dt⟩, rfl⟩ := hq
        have HE : Hid (R = []) := by show _ = _; rw [← HR.out]; exact readL_none hx
        have X1 := OnlyK.ext X o1 (by have := HB.out; omega)
        clear hx HR SC HA OFH X HSz
        go_wp2_with fail
        go_ret
        refine ⟨⟨_, rfl, by rw [HE.out]; exact ownF_nil _ _⟩, xa X1 _⟩

end Go.Proofs.YthedbjjncnddbaaDoor
