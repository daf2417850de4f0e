/-
  Chapter 10: codes read by the program.
-/
import Derived.Test.YthedbjjncnddbaaDoorK2
import Derived.Test.YthedbjjncnddbaaDoorKw
namespace Go.Proofs.YthedbjjncnddbaaDoor
open Go.RowKit

def readP : Nat → BL → List KT → List KT
  | 0, _, _ => []
  | k + 1, c, acc => if mayB 10 (secI c).2.2 = false ∨ acc.length = 3 then [] else if Lib.hasPrefix (secI c).2.1 [59] then readP k ((secI c).2.1.drop 1) (acc ++ [(secI c).1]) else if (secI c).2.1 = [] then acc ++ [(secI c).1] else []
def readFP (l : BL) : List KT := if 100 < l.length then [] else readP 4 l []
theorem scan_len : ∀ (k last : Nat) (l : BL) (f : KT), (scanK k last l f).2.1.length ≤ l.length := by
  intro k
  induction k with
  | zero => intro last l f; exact Nat.le_refl _
  | succ k ih =>
    intro last l f
    show ((match nextP last l with | none => (f, l, last) | some p => scanK k p (l.drop (partLen p l)) (takeP p (l.take (partLen p l)) f)) : KT × BL × Nat).2.1.length ≤ _
    cases nextP last l with
    | none => exact Nat.le_refl _
    | some p =>
      have := ih p (l.drop (partLen p l)) (takeP p (l.take (partLen p l)) f)
      rw [List.length_drop] at this
      show (scanK k p _ _).2.1.length ≤ _
      omega

set_option maxRecDepth 8000 in
set_option maxHeartbeats 4000000 in
theorem readI (l : BL) (w : World) (hL : l.length ≤ 100000000) (T : TabK w) :
    Calls Tryd.prog 6 #[sV l] w fun e w' => (∃ v, e = .returned v ∧ OwnF w' w.heap.size v (readFP l)) ∧ Ext w w' := by
  have HZ : (⟨l.toArray⟩ : ByteArray).size = l.length := rfl
  by_cases hbig : 100 < l.length
  · have HR : Hid (readFP l = []) := by show _ = _; unfold readFP; rw [if_pos hbig]
    obtain ⟨R, hR⟩ : ∃ R, readFP l = R := ⟨_, rfl⟩
    rw [hR] at HR ⊢
    obtain ⟨n, hn⟩ : ∃ n, l.length = n := ⟨_, rfl⟩
    rw [hn] at HZ hbig hL
    have i1 : 100 < (n : Int) := by omega
    clear hR hn T
    go_enter Tryd.func6, Tryd.ntmps6
    go_wp2_with fail
    go_ret
    exact ⟨⟨_, rfl, by rw [HR.out]; exact ownF_nil _ _⟩, xr _⟩
  · have HR : Hid (readP (4 - ([] : List KT).length) l [] = readFP l) := by show _ = _; unfold readFP; rw [if_neg hbig]; rfl
    obtain ⟨R, hR⟩ : ∃ R, readFP l = R := ⟨_, rfl⟩
    rw [hR] at HR ⊢
    clear hR
    obtain ⟨n, hn⟩ : ∃ n, l.length = n := ⟨_, rfl⟩
    have HN : Hid (l.length = n) := hn
    rw [hn] at HZ hbig
    have i1 : (n : Int) ≤ 100 := by omega
    have hn100 : n ≤ 100 := by omega
    have hl1000 : Hid (l.length ≤ 1000) := by show _ ≤ _; omega
    have HT : Hid (TabK w) := T
    clear hn hL hbig T
    obtain ⟨B, hB⟩ : ∃ B, w.heap.size = B := ⟨_, rfl⟩
    have HB : Hid (w.heap.size = B) := hB
    rw [hB]
    clear hB
    go_enter Tryd.func6, Tryd.ntmps6
    go_wp2_with fail
    have T0 := ownF_nil w B
    go_loopg [0, 3, 4] 5 (fun gk sc v sm wr => ∃ (c : BL) (acc : List KT), sc = sV c ∧ OwnF wr B v acc ∧ Hid (c.length ≤ 1000) ∧ acc.length ≤ 3 ∧ Ext w wr ∧ ((sm = .bool true ∧ Hid (acc.length + gk = 5 ∧ readP (4 - acc.length) c acc = R)) ∨ (sm = .bool false ∧ Hid (gk = 0 ∧ (if c = [] then acc else []) = R))))
    case atStart => exact ⟨l, [], rfl, T0, hl1000, by simp, xr _, .inl ⟨rfl, rfl, HR.out⟩⟩
    case round =>
      clear T0 HR hl1000
      obtain ⟨c, acc, rfl, OF, Hc, h3, X, hcase⟩ := hrel
      obtain ⟨p4, c4, rfl, hc4⟩ := ownF_slice OF
      rcases hcase with ⟨rfl, HG⟩ | ⟨rfl, HG⟩
      · have SI := secIw c Hc.out wr (HT.out.later X)
        have hsl : (secI c).2.1.length ≤ c.length := scan_len _ _ _ _
        have OFH : Hid (OwnF wr B (.slice p4 acc.length c4) acc) := OF
        have HP : Hid (readP (4 - acc.length) c acc = R) := HG.out.2
        have HP : Hid ((if mayB 10 (secI c).2.2 = false ∨ acc.length = 3 then [] else if Lib.hasPrefix (secI c).2.1 [59] then readP (3 - acc.length) ((secI c).2.1.drop 1) (acc ++ [(secI c).1]) else if (secI c).2.1 = [] then acc ++ [(secI c).1] else []) = R) := by
          show _ = _
          rw [← HP.out, show 4 - acc.length = (3 - acc.length) + 1 by omega]
          rfl
        obtain ⟨x, hx⟩ : ∃ x, (secI c).1 = x := ⟨_, rfl⟩
        obtain ⟨r, hr⟩ : ∃ r, (secI c).2.1 = r := ⟨_, rfl⟩
        obtain ⟨m, hm⟩ : ∃ m, mayB 10 (secI c).2.2 = m := ⟨_, rfl⟩
        rw [hx, hr, hm] at SI HP
        rw [hr] at hsl
        have Hr : Hid (r.length ≤ 1000) := by show _ ≤ _; have := Hc.out; omega
        clear hx hr hm OF hsl
        by_cases hbad : m = false ∨ acc.length = 3
        · have HE : Hid (R = []) := by show _ = _; rw [← HP.out, if_pos hbad]
          clear HP
          cases m with
          | false =>
            go_wp2_with fail
            refine SI.mono ?_
            rintro e w1 ⟨rfl, e1⟩
            go_wp2_with fail
            go_ret
            exact ⟨⟨_, rfl, by rw [HE.out]; exact ownF_nil _ _⟩, xa (xt X e1) _⟩
          | true =>
            have ha3 : acc.length = 3 := by
              rcases hbad with h | h
              · cases h
              · exact h
            have i3 : (acc.length : Int) = 3 := by omega
            clear ha3 hbad
            go_wp2_with fail
            refine SI.mono ?_
            rintro e w1 ⟨rfl, e1⟩
            go_wp2_with fail
            go_ret
            exact ⟨⟨_, rfl, by rw [HE.out]; exact ownF_nil _ _⟩, xa (xt X e1) _⟩
        · obtain rfl : m = true := by
            cases m with
            | true => rfl
            | false => exact absurd (.inl rfl) hbad
          have ha3 : acc.length ≠ 3 := fun h => hbad (.inr h)
          have i3 : (acc.length : Int) ≠ 3 := by omega
          have HP : Hid ((if Lib.hasPrefix r [59] then readP (3 - acc.length) (r.drop 1) (acc ++ [x]) else if r = [] then acc ++ [x] else []) = R) := by
            show _ = _
            rw [← HP.out, if_neg hbad]
          have CP := fun W => cutPrefixK r 59 W
          obtain ⟨p, hp⟩ : ∃ p, Lib.hasPrefix r [59] = p := ⟨_, rfl⟩
          have hrest : Lib.trimPrefix r [59] = if p then r.drop 1 else r := by unfold Lib.trimPrefix; rw [hp]; cases p <;> rfl
          obtain ⟨r2, hr2⟩ : ∃ r2, Lib.trimPrefix r [59] = r2 := ⟨_, rfl⟩
          rw [hr2] at hrest
          simp only [hr2, hp] at CP
          rw [hp] at HP
          clear hbad hp hr2
          obtain ⟨inf, hi, hz, hz1, hz2⟩ := infoF
          go_wp2_with fail
          refine SI.mono ?_
          rintro e w1 ⟨rfl, e1⟩
          have OQ : Hid (OwnF (w1.alloc (.cells x.cells.toArray 33)) B (.slice p4 acc.length c4) acc) := ownF_later (ownF_later OFH.out e1) (x1 _ _)
          have X1 := xt X e1
          have S1 : B ≤ w1.heap.size := by have := X1.size; have := HB.out; omega
          clear SI OFH e1 X
          go_wp2_with (at_builtin; refine wpList_append_own _ rfl _ _ 22 rfl B 33 inf (.agg zeroKT.cells.toArray) 9 96 Tryd.underlying22 hi hz hz1 hz2 rfl (by decide) _ _ _ rfl (OQ.out.alloc _) ⟨w1.heap.size + 1, 0, none⟩ 1 1 x.cells rfl rfl (World.news_of_block (by have := heap_alloc_new (w1.alloc (.cells x.cells.toArray 33)) (.cells x.cells.toArray 33); rw [World.size_alloc] at this; exact this)) (by simp [Value.oneCell']) (by simp only [maxLen]; omega) (by omega) (by simp; omega) ?_)
          intro v7 wC ownC gC _
          have XA := xa (xa X1 (.cells x.cells.toArray 33)) (.cells x.cells.toArray 33)
          have HOB := ownF_block OQ.out
          have XC : Ext w wC := XA.grown gC XA.size (fun z hz => by have := (HOB z hz).1; have := HB.out; omega)
          have OC : OwnF wC B v7 (acc ++ [x]) := by
            show World.ownsRow _ _ _ _ _ _ _
            rw [flatK_append, List.length_append]
            rw [show flatK [x] = x.cells by simp [flatK]]
            exact ownC
          obtain ⟨p7, c7, rfl, hc7⟩ := ownF_slice OC
          have HOC : Hid (OwnF wC B (.slice p7 (acc.length + 1) c7) (acc ++ [x])) := by rw [List.length_append] at OC; exact OC
          have l7 : Hid ((acc ++ [x]).length = acc.length + 1) := by show _ = _; simp
          have Hr2 : Hid (r2.length ≤ 1000) := by
            show _ ≤ _
            have := Hr.out
            rw [hrest]; split
            · rw [List.length_drop]; omega
            · exact this
          clear gC ownC OQ XA X1 hi hz hz1 hz2 HOB hc7 S1 OC
          cases p with
          | true =>
            have HR2 : Hid (acc.length + 1 + (gk - 1) = 5 ∧ readP (4 - (acc.length + 1)) r2 (acc ++ [x]) = R) := by
              refine ⟨by have := HG.out.1; omega, ?_⟩
              rw [← HP.out, hrest, show 4 - (acc.length + 1) = 3 - acc.length by omega]
              rfl
            have HM : Hid (0 < gk) := by show _ < _; have := HG.out.1; omega
            clear hrest HP
            go_wp2_with fail
            refine (CP _).mono ?_
            rintro e w2 ⟨rfl, h2⟩
            rw [h2]
            clear h2
            go_wp2_with fail
            go_roundg (gk - 1)
            case measure => have := HM.out; omega
            case rel => exact ⟨r2, acc ++ [x], rfl, HOC.out, Hr2, by rw [l7.out]; omega, XC, .inl ⟨rfl, by rw [l7.out]; exact HR2⟩⟩
          | false =>
            have HR2 : Hid ((if r2 = [] then acc ++ [x] else []) = R) := by
              show _ = _
              rw [← HP.out, hrest]
              rfl
            have HM : Hid (0 < gk) := by show _ < _; have := HG.out.1; omega
            clear hrest HP
            go_wp2_with fail
            refine (CP _).mono ?_
            rintro e w2 ⟨rfl, h2⟩
            rw [h2]
            clear h2
            go_wp2_with fail
            go_roundg 0
            case measure => have := HM.out; omega
            case rel => exact ⟨r2, acc ++ [x], rfl, HOC.out, Hr2, by rw [l7.out]; omega, XC, .inr ⟨rfl, rfl, HR2.out⟩⟩
      · by_cases hc0 : c = []
        · have HE : Hid (R = acc) := by show _ = _; rw [← HG.out.2, if_pos hc0]
          subst hc0
          clear HG
          have OFH : Hid (OwnF wr B (.slice p4 acc.length c4) acc) := OF
          clear OF
          go_wp2_with fail
          go_ret
          exact ⟨⟨_, rfl, by rw [HE.out]; exact OFH.out⟩, X⟩
        · have HE : Hid (R = []) := by show _ = _; rw [← HG.out.2, if_neg hc0]
          have he : (c == []) = false := by rw [beq_eq_false_iff_ne]; exact hc0
          clear HG OF
          go_wp2_with fail
          go_ret
          exact ⟨⟨_, rfl, by rw [HE.out]; exact ownF_nil _ _⟩, X⟩

end Go.Proofs.YthedbjjncnddbaaDoor
