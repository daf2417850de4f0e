/-
  Several texts in one: Qc, Qd.
-/
import Derived.Test.YtbomplppgobkdaaGreatDoorMg28
import Derived.Lib.SlKept
import Derived.Shelf.SlicesE.Compact
import Derived.Lib.SliceRun
import Derived.Laws.IdiomCopy
namespace Go.Proofs.YtbomplppgobkdaaGreatDoor
open Go.RowKit

/-- What a function says of numbers, wherever what it reads stands. -/
structure Asks (f : Nat) (lb : Array Value) (l : List Nat) (p : Nat → Bool) (I : World → Prop) : Prop where
  ent : ∀ args w, (callFunc f args).run Tryz.prog w = .ok (.enter f args) w
  says : ∀ W x, I W → x ∈ l → Calls Tryz.prog f (#[numV x] ++ lb) W fun e w' => e = .returned (.bool (p x)) ∧ Ext W w'
  later : ∀ W W', I W → Ext W W' → I W'
set_option maxRecDepth 8000 in
set_option maxHeartbeats 2000000 in
theorem indexFI (f : Nat) (lb : Array Value) (l : List Nat) (p : Nat → Bool) (I : World → Prop) (A : Asks f lb l p I) (g cap : Nat) (w : World) (h : Vec w g (l.map numV)) (hc : l.length ≤ cap) (hl : l.length ≤ 2000) (hw : I w) :
    Calls Tryz.prog 74 #[.slice (some ⟨g, 0, none⟩) l.length cap, .func (.func f) #[] lb] w fun e w' =>
      ((e = .returned (.int .i64 (-1)) ∧ ∀ x ∈ l, p x = false) ∨ ∃ m : Nat, e = .returned (.int .i64 m) ∧ m < l.length ∧ (∀ x, l[m]? = some x → p x = true) ∧ ∀ j x, j < m → l[j]? = some x → p x = false) ∧ Ext w w' := by
  have ent := A.ent
  have HA : Hid (Asks f lb l p I) := A
  have HV : Hid (Vec w g (l.map numV) ∧ I w) := ⟨h, hw⟩
  obtain ⟨n, hn⟩ : ∃ n, l.length = n := ⟨_, rfl⟩
  have HN : Hid (l.length = n) := hn
  rw [hn] at hc hl ⊢
  clear h hw A hn
  go_enter Tryz.func74, Tryz.ntmps74
  go_wp2_with fail
  go_loopw [8] (fun i wr => ∃ k : Nat, k ≤ n ∧ i = .int .i64 k ∧ Hid (Ext w wr ∧ ∀ j x, j < k → l[j]? = some x → p x = false)) (fun i _ => n - (intOf i).toNat)
  case atStart => exact ⟨0, by omega, rfl, xr _, fun j x hj => absurd hj (by omega)⟩
  case round =>
    obtain ⟨k, hk, rfl, HO⟩ := hrel
    by_cases hlt : k < n
    · have i2 : (k : Int) < (n : Int) := by omega
      obtain ⟨x, hx⟩ : ∃ x, l[k]? = some x := ⟨_, List.getElem?_eq_getElem (by rw [HN.out]; exact hlt)⟩
      have a0 := ((HV.out.1.later HO.out.1) k (numV x) (by rw [List.getElem?_map, hx]; rfl)).1
      have CA := HA.out.says wr x (HA.out.later _ _ HV.out.2 HO.out.1) (List.mem_of_getElem? hx)
      have HX : Hid (l[k]? = some x) := hx
      obtain ⟨q, hq⟩ : ∃ q, p x = q := ⟨_, rfl⟩
      have HQ : Hid (p x = q) := hq
      rw [hq] at CA
      clear hx hq
      cases q
      · go_wp2_with (go_at_fn f; refine CA.mono ?_; rintro e w1 ⟨rfl, e1⟩)
        have HM : Hid (Ext w w1 ∧ ∀ j x, j < k + 1 → l[j]? = some x → p x = false) := ⟨xt HO.out.1 e1, fun j y hj hy => by
          by_cases e : j = k
          · subst e
            rw [HX.out] at hy
            cases hy
            exact HQ.out
          · exact HO.out.2 j y (by omega) hy⟩
        go_roundw
        case rel => exact ⟨k + 1, by omega, by go_num, HM⟩
        case measure => simp [intOf]; omega
      · go_wp2_with (go_at_fn f; refine CA.mono ?_; rintro e w1 ⟨rfl, e1⟩)
        go_ret
        exact ⟨Or.inr ⟨k, rfl, by omega, fun y hy => by rw [HX.out] at hy; cases hy; exact HQ.out, HO.out.2⟩, xt HO.out.1 e1⟩
    · obtain rfl : k = n := by omega
      have i2 : ¬ (k : Int) < (k : Int) := by omega
      go_wp2_with fail
      go_ret
      exact ⟨Or.inl ⟨rfl, fun x hx => by
        obtain ⟨j, hj, rfl⟩ := List.getElem_of_mem hx
        exact HO.out.2 j _ (by rw [← HN.out]; exact hj) (List.getElem?_eq_getElem hj)⟩, HO.out.1⟩

/-- What stands in a row while others are struck. -/
structure Kept (l : List Nat) (p : Nat → Bool) (j i : Nat) (M : List Nat) : Prop where
  len : M.length = l.length
  lt : i < j
  le : j ≤ l.length
  ahead : M.take i = (l.take j).filter fun x => !p x
  rest : ∀ t, j ≤ t → M[t]? = l[t]?
theorem Kept.num {l : List Nat} {p : Nat → Bool} {j i : Nat} {M : List Nat} (K : Kept l p j i M) : ((l.take j).filter fun x => !p x).length = i := by
  rw [← K.ahead, List.length_take, K.len]
  have := K.lt
  have := K.le
  omega
theorem Kept.start {l : List Nat} {p : Nat → Bool} {k : Nat} (hk : k < l.length) (hp : ∀ x, l[k]? = some x → p x = true) (ha : ∀ j x, j < k → l[j]? = some x → p x = false) : Kept l p (k + 1) k l := by
  refine ⟨rfl, Nat.lt_succ_self _, hk, ?_, fun _ _ => rfl⟩
  rw [List.take_add_one, List.getElem?_eq_getElem hk, List.filter_append]
  have e1 : (l.take k).filter (fun x => !p x) = l.take k := by
    rw [List.filter_eq_self]
    intro x hx
    obtain ⟨j, hj, rfl⟩ := List.getElem_of_mem hx
    rw [List.length_take] at hj
    rw [List.getElem_take, ha j _ (by omega) (List.getElem?_eq_getElem (by omega))]
    rfl
  rw [e1]
  have := hp _ (List.getElem?_eq_getElem hk)
  simp [this]
theorem Kept.keep {l : List Nat} {p : Nat → Bool} {j i x : Nat} {M : List Nat} (K : Kept l p j i M) (hx : l[j]? = some x) (hp : p x = false) : Kept l p (j + 1) (i + 1) (M.set i x) := by
  have hj : j < l.length := (List.getElem?_eq_some_iff.1 hx).1
  have h1 := K.lt
  have h2 := K.len
  refine ⟨by simp [K.len], by omega, hj, ?_, fun t ht => ?_⟩
  · have e1 : (l.take (j + 1)).filter (fun x => !p x) = (l.take j).filter (fun x => !p x) ++ [x] := by
      rw [List.take_add_one, hx, List.filter_append]
      simp [hp]
    have e2 : (M.set i x).take (i + 1) = M.take i ++ [x] := by
      rw [List.take_add_one, List.getElem?_set_self (by omega), List.take_set_of_le (Nat.le_refl _)]
      rfl
    rw [e1, e2, K.ahead]
  · rw [List.getElem?_set_ne (by omega)]
    exact K.rest t (by omega)
theorem Kept.skip {l : List Nat} {p : Nat → Bool} {j i x : Nat} {M : List Nat} (K : Kept l p j i M) (hx : l[j]? = some x) (hp : p x = true) : Kept l p (j + 1) i M := by
  have hj : j < l.length := (List.getElem?_eq_some_iff.1 hx).1
  refine ⟨K.len, Nat.lt_succ_of_lt K.lt, hj, ?_, fun t ht => K.rest t (by omega)⟩
  rw [List.take_add_one, hx, List.filter_append, ← K.ahead]
  simp [hp]
theorem setCells_vec {g : Nat} {L : List Value} : ∀ (us : List Value) (o : Nat) (w : World), L.length ≤ o → Vec w g L → Vec (w.setCells g o us) g L
  | [], _, _, _, h => h
  | u :: us, o, w, ho, h => setCells_vec us (o + 1) _ (by omega) (fun i v hi => by
      have hlt := (List.getElem?_eq_some_iff.1 hi).1
      obtain ⟨a, f⟩ := h i v hi
      refine ⟨?_, ?_⟩
      · rw [World.cell?_setCell_other _ _ _ _ (fun e => by cases e; omega)]; exact a
      · rw [World.frozen?_setCell]; exact f)
theorem setCells_grown {w : World} {g : Nat} : ∀ (us : List Value) (o : Nat) (w' : World), w.grownBy w' (some g) → w.grownBy (w'.setCells g o us) (some g)
  | [], _, _, h => h
  | u :: us, o, _, h => setCells_grown us (o + 1) _ (grown_set h u)

set_option maxRecDepth 8000 in
set_option maxHeartbeats 4000000 in
theorem deleteFI (f : Nat) (lb : Array Value) (l : List Nat) (p : Nat → Bool) (I : World → Prop) (A : Asks f lb l p I) (g cap : Nat) (w : World) (h : Vec w g (l.map numV)) (hc : l.length ≤ cap) (hl : l.length ≤ 2000) (hw : I w)
    (hI : ∀ W k u, I W → I (W.setCell ⟨g, k, none⟩ u)) :
    Calls Tryz.prog 42 #[.slice (some ⟨g, 0, none⟩) l.length cap, .func (.func f) #[] lb] w fun e w' =>
      ∃ m, e = .returned (.slice (some ⟨g, 0, none⟩) m cap) ∧ m = (l.filter fun x => !p x).length ∧ Vec w' g ((l.filter fun x => !p x).map numV) ∧ w.grownBy w' (some g) := by
  have IX : Hid (∀ W, Vec W g (l.map numV) → I W → Calls Tryz.prog 74 #[.slice (some ⟨g, 0, none⟩) l.length cap, .func (.func f) #[] lb] W fun e w' =>
      ((e = .returned (.int .i64 (-1)) ∧ ∀ x ∈ l, p x = false) ∨ ∃ m : Nat, e = .returned (.int .i64 m) ∧ m < l.length ∧ (∀ x, l[m]? = some x → p x = true) ∧ ∀ j x, j < m → l[j]? = some x → p x = false) ∧ Ext W w') := fun W hV hW => indexFI f lb l p I A g cap W hV hc hl hW
  have ent := A.ent
  have HA : Hid (Asks f lb l p I) := A
  have HI : Hid (∀ W k u, I W → I (W.setCell ⟨g, k, none⟩ u)) := hI
  have HV : Hid (Vec w g (l.map numV) ∧ I w) := ⟨h, hw⟩
  have C0 := IX.out w h hw
  obtain ⟨n, hn⟩ : ∃ n, l.length = n := ⟨_, rfl⟩
  have HN : Hid (l.length = n) := hn
  rw [hn] at hc hl C0 ⊢
  clear h hw A hn hI IX
  go_enter Tryz.func42, Tryz.ntmps42
  go_wp2_with fail
  refine C0.mono ?_
  rintro e w1 ⟨⟨rfl, hall⟩ | ⟨m, rfl, hm, hpm, hbe⟩, e1⟩
  · have e2 : (l.filter fun x => !p x) = l := by
      rw [List.filter_eq_self]
      intro x hx
      rw [hall x hx]; rfl
    have HF : Hid ((l.filter fun x => !p x) = l) := e2
    have HVe := HV.out.1.later e1
    have HW : Hid (Vec w1 g (l.map numV)) := HVe
    clear hall e2 HVe C0
    go_wp2_with fail
    go_ret
    exact ⟨n, rfl, by rw [HF.out, HN.out], by rw [HF.out]; exact HW.out, grown_ext (grown_refl w _) e1⟩
  · have K0 : Hid (Kept l p (m + 1) m l ∧ Vec w1 g (l.map numV) ∧ I w1 ∧ w.grownBy w1 (some g)) := ⟨Kept.start (by rw [HN.out]; exact hm) hpm hbe, HV.out.1.later e1, HA.out.later _ _ HV.out.2 e1, grown_ext (grown_refl w _) e1⟩
    have hne1 : ((m : Int) == -1) = false := beq_eq_false_iff_ne.2 (by omega)
    clear hpm hbe C0 HV e1
    go_wp2_with fail
    go_loopw [5, 6] (fun s5 s6 wr => ∃ (i j : Nat) (M : List Nat), s5 = .int .i64 i ∧ s6 = .int .i64 j ∧ j ≤ n ∧ i < j ∧ Hid (Kept l p j i M ∧ Vec wr g (M.map numV) ∧ I wr ∧ w.grownBy wr (some g))) (fun _ s6 _ => n - (intOf s6).toNat)
    case atStart => exact ⟨m, m + 1, l, rfl, by go_num, by omega, by omega, K0⟩
    case round =>
      obtain ⟨i, j, M, rfl, rfl, hjn, hij, HO⟩ := hrel
      by_cases hlt : j < n
      · have i2 : (j : Int) < (n : Int) := by omega
        obtain ⟨x, hx⟩ : ∃ x, l[j]? = some x := ⟨_, List.getElem?_eq_getElem (by rw [HN.out]; exact hlt)⟩
        have hMl : M.length = n := HO.out.1.len.trans HN.out
        have a0 := (HO.out.2.1 j (numV x) (by rw [List.getElem?_map, HO.out.1.rest j (Nat.le_refl _), hx]; rfl)).1
        have CA := HA.out.says wr x HO.out.2.2.1 (List.mem_of_getElem? hx)
        have HX : Hid (l[j]? = some x) := hx
        have HMl : Hid (M.length = n) := hMl
        obtain ⟨q, hq⟩ : ∃ q, p x = q := ⟨_, rfl⟩
        have HQ : Hid (p x = q) := hq
        rw [hq] at CA
        clear hx hq hMl K0
        cases q
        · obtain ⟨y, hy⟩ : ∃ y, M[i]? = some y := ⟨_, List.getElem?_eq_getElem (by rw [HMl.out]; omega)⟩
          have HY : Hid ((M.map numV)[i]? = some (numV y)) := by show _ = _; rw [List.getElem?_map, hy]; rfl
          have i3 : (i : Int) < (n : Int) := by omega
          clear hy
          go_wp2_with (go_at_fn f; refine CA.mono ?_; rintro e w2 ⟨rfl, e2⟩; obtain ⟨b0, f0⟩ := (HO.out.2.1.later e2) i _ HY.out)
          have V2 := HO.out.2.1.later e2
          have HM : Hid (Kept l p (j + 1) (i + 1) (M.set i x) ∧ Vec (w2.setCell ⟨g, i, none⟩ (numV x)) g ((M.set i x).map numV) ∧ I (w2.setCell ⟨g, i, none⟩ (numV x)) ∧ w.grownBy (w2.setCell ⟨g, i, none⟩ (numV x)) (some g)) := by
            refine ⟨HO.out.1.keep HX.out HQ.out, ?_, HI.out _ _ _ (HA.out.later _ _ HO.out.2.2.1 e2), grown_set (grown_ext HO.out.2.2.2 e2) _⟩
            rw [List.map_set]
            exact V2.put i (by rw [List.length_map, HMl.out]; omega) _
          go_roundw
          case rel => exact ⟨i + 1, j + 1, _, by go_num, by go_num, by omega, by omega, HM⟩
          case measure => simp [intOf]; omega
        · go_wp2_with (go_at_fn f; refine CA.mono ?_; rintro e w2 ⟨rfl, e2⟩)
          have HM : Hid (Kept l p (j + 1) i M ∧ Vec w2 g (M.map numV) ∧ I w2 ∧ w.grownBy w2 (some g)) := ⟨HO.out.1.skip HX.out HQ.out, HO.out.2.1.later e2, HA.out.later _ _ HO.out.2.2.1 e2, grown_ext HO.out.2.2.2 e2⟩
          clear HO CA a0
          go_roundw
          case rel => exact ⟨i, j + 1, M, rfl, by go_num, by omega, by omega, HM⟩
          case measure => simp [intOf]; omega
      · obtain rfl : j = n := by omega
        have i2 : ¬ (j : Int) < (j : Int) := by omega
        have HMl : M.length = j := HO.out.1.len.trans HN.out
        have hcl : ∀ ty, (Builtin.clear_ #[28] ty #[.slice (some ⟨g, i, none⟩) (j - i) (cap - i)]).run Tryz.prog wr = .ok (.tuple #[]) (wr.setCells g i (List.replicate (j - i) (.int .i64 0))) := fun ty =>
          Lib.run_clear_slice wr _ _ ty _ Tryz.underlying28 (fun w => Tryz.zeroValue3 w) rfl rfl g i _ _ (by omega)
            (fun t ht => by rw [(HO.out.2.1 (i + t) _ (List.getElem?_eq_getElem (by rw [List.length_map, HMl]; omega))).1]; rfl)
            (fun t ht => (HO.out.2.1 (i + t) _ (List.getElem?_eq_getElem (by rw [List.length_map, HMl]; omega))).2)
        have HE : Hid (i = (l.filter fun x => !p x).length ∧ Vec (wr.setCells g i (List.replicate (j - i) (.int .i64 0))) g ((l.filter fun x => !p x).map numV) ∧ w.grownBy (wr.setCells g i (List.replicate (j - i) (.int .i64 0))) (some g)) := by
          have hnum := HO.out.1.num
          have hah := HO.out.1.ahead
          have htl0 : l.take j = l := List.take_of_length_le (by rw [HN.out]; exact Nat.le_refl _)
          rw [htl0] at hnum hah
          refine ⟨hnum.symm, setCells_vec _ _ _ (by rw [List.length_map, hnum]; exact Nat.le_refl _) ?_, setCells_grown _ _ _ HO.out.2.2.2⟩
          rw [← hah]
          intro t v ht
          refine HO.out.2.1 t v ?_
          have htl := (List.getElem?_eq_some_iff.1 ht).1
          rw [List.length_map, List.length_take] at htl
          rw [List.getElem?_map, List.getElem?_take_of_lt (by omega)] at ht
          rw [List.getElem?_map]
          exact ht
        have i5 : (i : Int) ≤ (j : Int) := by omega
        have i6 : (j : Int) ≤ (cap : Int) := by omega
        clear HO HMl K0
        go_wp2_with fail
        go_ret
        exact ⟨i, rfl, HE.out.1, HE.out.2.1, HE.out.2.2⟩

end Go.Proofs.YtbomplppgobkdaaGreatDoor

