/-
  Chapter 4: the operator that a text begins with, beside what reads decimals.
-/
import Derived.Test.YtkadkfmidlhedaaGreatDoorMg3
import Derived.Test.YtkadkfmidlhedaaGreatDoorReM
import Derived.Deep.MidRow
namespace Go.Proofs.YtkadkfmidlhedaaGreatDoor
open Go.RowKit

theorem bs_list (l : List UInt8) : (bs l).data.toList = l := rfl
theorem ext_listA (l : List UInt8) (a b : Nat) : (bs l).extract a b = bs ((l.drop a).take (b - a)) := ext_bs l a b
theorem prefix_iff (l p : List UInt8) : Lib.hasPrefix l p = (decide (p.length ≤ l.length) && (l.take p.length == p)) := by
  unfold Lib.hasPrefix
  by_cases h : p <+: l
  · have h1 : p.isPrefixOf l = true := List.isPrefixOf_iff_prefix.2 h
    have h2 : l.take p.length = p := (List.prefix_iff_eq_take.1 h).symm
    rw [h1, h2, decide_eq_true h.length_le]
    simp
  · have h1 : p.isPrefixOf l = false := by
      cases hq : p.isPrefixOf l with
      | false => rfl
      | true => exact absurd (List.isPrefixOf_iff_prefix.1 hq) h
    rw [h1]
    symm
    rw [Bool.and_eq_false_iff]
    by_cases hl : p.length ≤ l.length
    · right
      rw [beq_eq_false_iff_ne]
      exact fun e => h (List.prefix_iff_eq_take.2 e.symm)
    · left; exact decide_eq_false hl

set_option maxRecDepth 8000 in
set_option maxHeartbeats 1000000 in
theorem prefixI (l p : List UInt8) (w : World) : Calls Tryz.prog 147 #[.string (bs l), .string (bs p)] w fun e w' => e = .returned (.bool (Lib.hasPrefix l p)) ∧ w' = w := by
  rw [prefix_iff]
  have EX := ext_listA l 0 p.length
  rw [Nat.sub_zero, List.drop_zero] at EX
  have z1 : (bs l).size = l.length := bs_size l
  have z2 : (bs p).size = p.length := bs_size p
  have tl : (bs (l.take p.length)).toList = l.take p.length := by rw [ByteArray.toList_eq, bs_list]
  have tp : (bs p).toList = p := by rw [ByteArray.toList_eq, bs_list]
  obtain ⟨b, hb⟩ : ∃ b, (l.take p.length == p) = b := ⟨_, rfl⟩
  have HB : ((bs (l.take p.length)).toList == (bs p).toList) = b := by rw [tl, tp]; exact hb
  rw [hb]
  obtain ⟨s, hs⟩ : ∃ s, bs l = s := ⟨_, rfl⟩
  obtain ⟨t, ht⟩ : ∃ s, bs p = s := ⟨_, rfl⟩
  obtain ⟨x, hx⟩ : ∃ x, bs (l.take p.length) = x := ⟨_, rfl⟩
  obtain ⟨n, hn⟩ : ∃ n, l.length = n := ⟨_, rfl⟩
  obtain ⟨k, hk⟩ : ∃ n, p.length = n := ⟨_, rfl⟩
  rw [hs] at EX z1 ⊢
  rw [ht] at z2 HB ⊢
  rw [hx] at EX HB
  rw [hn] at z1 ⊢
  rw [hk] at z2 EX ⊢
  clear tl tp hb hs ht hx hn hk
  by_cases h : k ≤ n
  · have i1 : (k : Int) ≤ (n : Int) := by omega
    have i2 : (0 : Int) ≤ (k : Int) := by omega
    rw [decide_eq_true h]
    cases b
    all_goals
      go_enter Tryz.func147, Tryz.ntmps147
      go_wp2_with fail
      go_ret
      first | exact ⟨rfl, rfl⟩ | exact ⟨by simp [EX, HB], rfl⟩
  · have i1 : (n : Int) < (k : Int) := by omega
    rw [decide_eq_false h]
    go_enter Tryz.func147, Tryz.ntmps147
    go_wp2_with fail
    go_ret
    exact ⟨rfl, rfl⟩
theorem hasPrefixI (l p : List UInt8) (w : World) : Calls Tryz.prog 124 #[.string (bs l), .string (bs p)] w fun e w' => e = .returned (.bool (Lib.hasPrefix l p)) ∧ w' = w := by
  have H := prefixI l p w
  go_enter Tryz.func124, Tryz.ntmps124
  go_wp2_with fail
  refine H.mono ?_
  rintro e w1 ⟨rfl, rfl⟩
  go_wp2_with fail
  go_ret
  exact ⟨rfl, rfl⟩

def opsT : List (List UInt8 × Int) := [([60, 61], 1), ([62, 61], 1), ([60, 62], 1), ([60], 1), ([62], 1), ([61], 1), ([38], 2), ([43], 3), ([45], 3), ([42], 4), ([47], 4), ([94], 5)]
def aheadO (l : List UInt8) : List UInt8 × Int := (opsT.find? fun o => Lib.hasPrefix l o.1).getD ([], 0)
theorem find_at {l : List UInt8} {k : Nat} {o : List UInt8 × Int} (hk : opsT[k]? = some o) (hp : Lib.hasPrefix l o.1 = true) (hn : ∀ (j : Nat) o, j < k → opsT[j]? = some o → Lib.hasPrefix l o.1 = false) : aheadO l = o := by
  unfold aheadO
  have : opsT.find? (fun o => Lib.hasPrefix l o.1) = some o := by
    rw [List.find?_eq_some_iff_getElem]
    obtain ⟨hk1, hk2⟩ := List.getElem?_eq_some_iff.1 hk
    refine ⟨hp, k, hk1, hk2, fun j hj => ?_⟩
    rw [hn j _ hj (List.getElem?_eq_getElem (Nat.lt_trans hj hk1))]
    rfl
  rw [this]
  rfl
theorem find_none {l : List UInt8} (hn : ∀ (j : Nat) o, opsT[j]? = some o → Lib.hasPrefix l o.1 = false) : aheadO l = ([], 0) := by
  unfold aheadO
  have : opsT.find? (fun o => Lib.hasPrefix l o.1) = none := by
    rw [List.find?_eq_none]
    intro o ho
    obtain ⟨j, hj⟩ := List.getElem?_of_mem ho
    rw [hn j o hj]
    decide
  rw [this]
  rfl
theorem ahead_mem (l : List UInt8) : aheadO l = ([], 0) ∨ memB opsL (aheadO l).1 = true := by
  unfold aheadO
  cases h : opsT.find? (fun o => Lib.hasPrefix l o.1) with
  | none => exact .inl rfl
  | some o =>
    right
    have := List.mem_of_find?_eq_some h
    have hall : ∀ o ∈ opsT, memB opsL o.1 = true := by decide
    exact hall o this
/-- Whether a text is an operator: as the program asks. -/
theorem op_is (l : List UInt8) (h : l ≠ []) : ((aheadO l).1 == l) = memB opsL l := by
  cases hm : memB opsL l with
  | true =>
    have : l ∈ opsL := by
      unfold memB at hm
      rw [List.any_eq_true] at hm
      obtain ⟨t, ht, e⟩ := hm
      rw [← eq_of_beq e]
      exact ht
    have hall : ∀ t ∈ opsL, ((aheadO t).1 == t) = true := by decide
    exact hall l this
  | false =>
    rw [beq_eq_false_iff_ne]
    intro e
    rcases ahead_mem l with h1 | h1
    · rw [h1] at e; exact h e.symm
    · rw [e, hm] at h1; cases h1

/-- The operators as they are laid. -/
def opsF : List Value := [.string ⟨#[60, 61]⟩, .int .i64 1, .string ⟨#[62, 61]⟩, .int .i64 1, .string ⟨#[60, 62]⟩, .int .i64 1, .string ⟨#[60]⟩, .int .i64 1, .string ⟨#[62]⟩, .int .i64 1, .string ⟨#[61]⟩, .int .i64 1, .string ⟨#[38]⟩, .int .i64 2, .string ⟨#[43]⟩, .int .i64 3, .string ⟨#[45]⟩, .int .i64 3, .string ⟨#[42]⟩, .int .i64 4, .string ⟨#[47]⟩, .int .i64 4, .string ⟨#[94]⟩, .int .i64 5]
def OpTab (w : World) : Prop := w.rangeAt 1 0 opsF
theorem OpTab.later {w w' : World} (h : OpTab w) (e : Ext w w') : OpTab w' := fun i v hv => cell_later e (h i v hv)
abbrev opV (o : List UInt8 × Int) : Value := .agg #[sV o.1, .int .i64 o.2]
abbrev opsV : Value := .agg opsF.toArray
theorem op_at0 (W : World) : (Instr.index 128 opsV (.int .i64 0)).run Tryz.prog W = .ok (opV ([60, 61], 1)) W := by kernel_rfl
theorem op_at1 (W : World) : (Instr.index 128 opsV (.int .i64 1)).run Tryz.prog W = .ok (opV ([62, 61], 1)) W := by kernel_rfl
theorem op_at2 (W : World) : (Instr.index 128 opsV (.int .i64 2)).run Tryz.prog W = .ok (opV ([60, 62], 1)) W := by kernel_rfl
theorem op_at3 (W : World) : (Instr.index 128 opsV (.int .i64 3)).run Tryz.prog W = .ok (opV ([60], 1)) W := by kernel_rfl
theorem op_at4 (W : World) : (Instr.index 128 opsV (.int .i64 4)).run Tryz.prog W = .ok (opV ([62], 1)) W := by kernel_rfl
theorem op_at5 (W : World) : (Instr.index 128 opsV (.int .i64 5)).run Tryz.prog W = .ok (opV ([61], 1)) W := by kernel_rfl
theorem op_at6 (W : World) : (Instr.index 128 opsV (.int .i64 6)).run Tryz.prog W = .ok (opV ([38], 2)) W := by kernel_rfl
theorem op_at7 (W : World) : (Instr.index 128 opsV (.int .i64 7)).run Tryz.prog W = .ok (opV ([43], 3)) W := by kernel_rfl
theorem op_at8 (W : World) : (Instr.index 128 opsV (.int .i64 8)).run Tryz.prog W = .ok (opV ([45], 3)) W := by kernel_rfl
theorem op_at9 (W : World) : (Instr.index 128 opsV (.int .i64 9)).run Tryz.prog W = .ok (opV ([42], 4)) W := by kernel_rfl
theorem op_at10 (W : World) : (Instr.index 128 opsV (.int .i64 10)).run Tryz.prog W = .ok (opV ([47], 4)) W := by kernel_rfl
theorem op_at11 (W : World) : (Instr.index 128 opsV (.int .i64 11)).run Tryz.prog W = .ok (opV ([94], 5)) W := by kernel_rfl
theorem op_at (k : Nat) (hk : k < 12) : ∃ o, opsT[k]? = some o ∧ ∀ W : World, (Instr.index 128 opsV (.int .i64 k)).run Tryz.prog W = .ok (opV o) W := by
  match k, hk with
  | 0, _ => exact ⟨_, rfl, op_at0⟩
  | 1, _ => exact ⟨_, rfl, op_at1⟩
  | 2, _ => exact ⟨_, rfl, op_at2⟩
  | 3, _ => exact ⟨_, rfl, op_at3⟩
  | 4, _ => exact ⟨_, rfl, op_at4⟩
  | 5, _ => exact ⟨_, rfl, op_at5⟩
  | 6, _ => exact ⟨_, rfl, op_at6⟩
  | 7, _ => exact ⟨_, rfl, op_at7⟩
  | 8, _ => exact ⟨_, rfl, op_at8⟩
  | 9, _ => exact ⟨_, rfl, op_at9⟩
  | 10, _ => exact ⟨_, rfl, op_at10⟩
  | 11, _ => exact ⟨_, rfl, op_at11⟩
theorem Vec.made2 (w : World) (v0 v1 : Value) (t : TypeId) : Vec (w.alloc (.cells #[v0, v1] t)) w.heap.size [v0, v1] := vec_made w [v0, v1] t

set_option maxRecDepth 8000 in
set_option maxHeartbeats 2000000 in
theorem aheadI (l : List UInt8) (w : World) (hO : OpTab w) : Calls Tryz.prog 79 #[.string (bs l)] w fun e w' => e = .returned (opV (aheadO l)) ∧ Ext w w' := by
  have HF : Hid (∀ (k : Nat) o, opsT[k]? = some o → Lib.hasPrefix l o.1 = true → (∀ (j : Nat) o, j < k → opsT[j]? = some o → Lib.hasPrefix l o.1 = false) → aheadO l = o) := fun k o h1 h2 h3 => find_at h1 h2 h3
  have HX : Hid ((∀ (j : Nat) o, opsT[j]? = some o → Lib.hasPrefix l o.1 = false) → aheadO l = ([], 0)) := fun h => find_none h
  obtain ⟨R, hR⟩ : ∃ R, aheadO l = R := ⟨_, rfl⟩
  rw [hR] at HF HX ⊢
  clear hR
  have X0 := x1 w (.cells #[.string ⟨#[]⟩, .int .i64 0] 106)
  have V0 : Hid (Vec (w.alloc (.cells #[.string ⟨#[]⟩, .int .i64 0] 106)) w.heap.size [.string ⟨#[]⟩, .int .i64 0]) := Vec.made2 w _ _ _
  have hO' := hO.later X0
  have hr131 : w.rangeAt 1 0 opsF := hO
  have hr' : (w.alloc (.cells #[.string ⟨#[]⟩, .int .i64 0] 106)).rangeAt 1 0 opsF := hO'
  clear hO hO' hr131
  go_enter Tryz.func79, Tryz.ntmps79
  go_wp2_with (refine wpList_load_mid rfl _ _ rfl 1 0 rfl opsF _ hr' Tryz.underlying128 rfl (by kernel_rfl) ?_)
  clear hr'
  go_loopw [6] (fun i wr => ∃ k : Nat, k ≤ 12 ∧ i = .int .i64 k ∧ Hid (∀ (j : Nat) o, j < k → opsT[j]? = some o → Lib.hasPrefix l o.1 = false) ∧ Hid (Vec wr w.heap.size [.string ⟨#[]⟩, .int .i64 0]) ∧ Ext w wr) (fun i _ => 12 - (intOf i).toNat)
  case atStart => exact ⟨0, by omega, rfl, (fun j o hj => by omega), V0, X0⟩
  case round =>
    obtain ⟨k, hk, rfl, HA, HV, X⟩ := hrel
    by_cases hlt : k < 12
    · obtain ⟨o, ho, hix⟩ := op_at k hlt
      obtain ⟨t, lev⟩ := o
      have i2 : (k : Int) < 12 := by omega
      have P := fun w => hasPrefixI l t w
      obtain ⟨p, hp⟩ : ∃ p, Lib.hasPrefix l t = p := ⟨_, rfl⟩
      rw [hp] at P
      have P : ∀ w, Calls Tryz.prog 124 #[.string (bs l), sV t] w fun e w' => e = .returned (.bool p) ∧ w' = w := P
      have V1 := Vec.made2 wr (sV t) (.int .i64 lev) 106
      have X1 := x1 wr (.cells #[sV t, .int .i64 lev] 106)
      obtain ⟨w1, h1⟩ : ∃ w1, wr.alloc (.cells #[sV t, .int .i64 lev] 106) = w1 := ⟨_, rfl⟩
      rw [h1] at V1 X1
      have VR := HV.out.later X1
      have X2 := xt X X1
      have c0 := (V1 0 _ rfl).1
      have c1 := (V1 1 _ rfl).1
      obtain ⟨b0, f0⟩ := VR 0 _ rfl
      obtain ⟨b1, f1⟩ := VR 1 _ rfl
      cases p
      · have HA2 : Hid (∀ (j : Nat) o, j < k + 1 → opsT[j]? = some o → Lib.hasPrefix l o.1 = false) := fun j o hj h => by
          rcases Nat.lt_or_ge j k with hjk | hjk
          · exact HA.out j o hjk h
          · obtain rfl : j = k := by omega
            rw [ho] at h
            cases h
            exact hp
        have HV2 : Hid (Vec w1 w.heap.size [.string ⟨#[]⟩, .int .i64 0]) := VR
        clear HA HV VR V1 X X1 ho hp
        go_wp2_with fail
        refine (P _).mono ?_
        rintro e w2 ⟨rfl, h2⟩
        rw [h2]
        clear h2
        go_wp2_with fail
        go_roundw
        case rel => exact ⟨k + 1, by omega, by go_num, HA2, HV2, X2⟩
        case measure => simp [intOf]; omega
      · have hr := HF.out k (t, lev) ho hp HA.out
        subst hr
        have VP := (VR.put 0 (by simp) (sV t)).put 1 (by simp) (.int .i64 lev)
        have XP := xset (p := ⟨w.heap.size, 1, none⟩) (xset (p := ⟨w.heap.size, 0, none⟩) X2 (Nat.le_refl _) (sV t)) (Nat.le_refl _) (.int .i64 lev)
        clear HA HV VR V1 X X1 ho hp HF HX
        go_wp2_with fail
        refine (P _).mono ?_
        rintro e w2 ⟨rfl, h2⟩
        rw [h2]
        clear h2
        go_wp2_with fail
        have d0 := (VP 0 _ rfl).1
        have d1 := (VP 1 _ rfl).1
        exact bodyPost_ret (v := opV (t, lev)) (by simp [results, Tryz.results79, go_sem, d0, d1]) rfl ⟨rfl, XP⟩
    · obtain rfl : k = 12 := by omega
      have hr := HX.out (fun j o h => HA.out j o (by have := (List.getElem?_eq_some_iff.1 h).1; simpa [opsT] using this) h)
      subst hr
      obtain ⟨b0, f0⟩ := HV.out 0 _ rfl
      obtain ⟨b1, f1⟩ := HV.out 1 _ rfl
      have VP := (HV.out.put 0 (by simp) (.string ⟨#[]⟩)).put 1 (by simp) (.int .i64 0)
      have XP := xset (p := ⟨w.heap.size, 1, none⟩) (xset (p := ⟨w.heap.size, 0, none⟩) X (Nat.le_refl _) (.string ⟨#[]⟩)) (Nat.le_refl _) (.int .i64 0)
      clear HA HF HX HV
      go_wp2_with fail
      have d0 := (VP 0 _ rfl).1
      have d1 := (VP 1 _ rfl).1
      exact bodyPost_ret (v := opV ([], 0)) (by simp [results, Tryz.results79, go_sem, d0, d1]) rfl ⟨rfl, XP⟩

end Go.Proofs.YtkadkfmidlhedaaGreatDoor

