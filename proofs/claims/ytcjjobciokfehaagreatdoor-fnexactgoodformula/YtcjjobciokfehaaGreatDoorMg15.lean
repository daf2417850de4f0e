/-
  Several texts in one: Fm, FrameOm, FrameT, FrameU.
-/
import Derived.Test.YtcjjobciokfehaaGreatDoorMg14
import Derived.Deep.MidRow
import Derived.Test.YtcjjobciokfehaaGreatDoorMg4
import Derived.Stop.LaidErr
import Derived.Test.YtcjjobciokfehaaGreatDoorMg1
import Derived.Test.YtcjjobciokfehaaGreatDoorMg6
namespace Go.Proofs.YtcjjobciokfehaaGreatDoor
open Go.RowKit

def opsT : List (List UInt8 × Int) := [([60, 61], 1), ([62, 61], 1), ([60, 62], 1), ([60], 1), ([62], 1), ([61], 1), ([38], 2), ([43], 3), ([45], 3), ([42], 4), ([47], 4), ([94], 5)]
def aheadO (l : List UInt8) : List UInt8 × Int := (opsT.find? fun o => Lib.hasPrefix l o.1).getD ([], 0)
theorem find_at {l : List UInt8} {k : Nat} {o : List UInt8 × Int} (hk : opsT[k]? = some o) (hp : Lib.hasPrefix l o.1 = true) (hn : ∀ (j : Nat) o, j < k → opsT[j]? = some o → Lib.hasPrefix l o.1 = false) : aheadO l = o := by
 unfold aheadO
 have : opsT.find? (fun o => Lib.hasPrefix l o.1) = some o := by
  rw [List.find?_eq_some_iff_getElem]
  obtain ⟨hk1, hk2⟩ := List.getElem?_eq_some_iff.1 hk
  refine ⟨hp, k, hk1, hk2, fun j hj => ?_⟩
  rw [hn j _ hj (List.getElem?_eq_getElem (Nat.lt_trans hj hk1))]
  rfl
 rw [this]
 rfl
theorem find_none {l : List UInt8} (hn : ∀ (j : Nat) o, opsT[j]? = some o → Lib.hasPrefix l o.1 = false) : aheadO l = ([], 0) := by
 unfold aheadO
 have : opsT.find? (fun o => Lib.hasPrefix l o.1) = none := by
  rw [List.find?_eq_none]
  intro o ho
  obtain ⟨j, hj⟩ := List.getElem?_of_mem ho
  rw [hn j o hj]
  decide
 rw [this]
 rfl
theorem ahead_mem (l : List UInt8) : aheadO l = ([], 0) ∨ memB opsL (aheadO l).1 = true := by
 unfold aheadO
 cases h : opsT.find? (fun o => Lib.hasPrefix l o.1) with
 | none => exact .inl rfl
 | some o =>
  right
  have := List.mem_of_find?_eq_some h
  have hall : ∀ o ∈ opsT, memB opsL o.1 = true := by decide
  exact hall o this
/-- Whether a text is an operator: as the program asks. -/
theorem op_is (l : List UInt8) (h : l ≠ []) : ((aheadO l).1 == l) = memB opsL l := by
 cases hm : memB opsL l with
 | true =>
  have : l ∈ opsL := by
   unfold memB at hm
   rw [List.any_eq_true] at hm
   obtain ⟨t, ht, e⟩ := hm
   rw [← eq_of_beq e]
   exact ht
  have hall : ∀ t ∈ opsL, ((aheadO t).1 == t) = true := by decide
  exact hall l this
 | false =>
  rw [beq_eq_false_iff_ne]
  intro e
  rcases ahead_mem l with h1 | h1
  ·
   rw [h1] at e; exact h e.symm
  ·
   rw [e, hm] at h1; cases h1

/-- The operators as they are laid. -/
def opsF : List Value := [.string ⟨#[60, 61]⟩, .int .i64 1, .string ⟨#[62, 61]⟩, .int .i64 1, .string ⟨#[60, 62]⟩, .int .i64 1, .string ⟨#[60]⟩, .int .i64 1, .string ⟨#[62]⟩, .int .i64 1, .string ⟨#[61]⟩, .int .i64 1, .string ⟨#[38]⟩, .int .i64 2, .string ⟨#[43]⟩, .int .i64 3, .string ⟨#[45]⟩, .int .i64 3, .string ⟨#[42]⟩, .int .i64 4, .string ⟨#[47]⟩, .int .i64 4, .string ⟨#[94]⟩, .int .i64 5]
def OpTab (w : World) : Prop := w.rangeAt 2 0 opsF
theorem OpTab.later {w w' : World} (h : OpTab w) (e : Ext w w') : OpTab w' := fun i v hv => cell_later e (h i v hv)
abbrev opV (o : List UInt8 × Int) : Value := .agg #[sV o.1, .int .i64 o.2]
abbrev opsV : Value := .agg opsF.toArray
theorem op_at0 (W : World) : (Instr.index 135 opsV (.int .i64 0)).run Tryz.prog W = .ok (opV ([60, 61], 1)) W := by kernel_rfl
theorem op_at1 (W : World) : (Instr.index 135 opsV (.int .i64 1)).run Tryz.prog W = .ok (opV ([62, 61], 1)) W := by kernel_rfl
theorem op_at2 (W : World) : (Instr.index 135 opsV (.int .i64 2)).run Tryz.prog W = .ok (opV ([60, 62], 1)) W := by kernel_rfl
theorem op_at3 (W : World) : (Instr.index 135 opsV (.int .i64 3)).run Tryz.prog W = .ok (opV ([60], 1)) W := by kernel_rfl
theorem op_at4 (W : World) : (Instr.index 135 opsV (.int .i64 4)).run Tryz.prog W = .ok (opV ([62], 1)) W := by kernel_rfl
theorem op_at5 (W : World) : (Instr.index 135 opsV (.int .i64 5)).run Tryz.prog W = .ok (opV ([61], 1)) W := by kernel_rfl
theorem op_at6 (W : World) : (Instr.index 135 opsV (.int .i64 6)).run Tryz.prog W = .ok (opV ([38], 2)) W := by kernel_rfl
theorem op_at7 (W : World) : (Instr.index 135 opsV (.int .i64 7)).run Tryz.prog W = .ok (opV ([43], 3)) W := by kernel_rfl
theorem op_at8 (W : World) : (Instr.index 135 opsV (.int .i64 8)).run Tryz.prog W = .ok (opV ([45], 3)) W := by kernel_rfl
theorem op_at9 (W : World) : (Instr.index 135 opsV (.int .i64 9)).run Tryz.prog W = .ok (opV ([42], 4)) W := by kernel_rfl
theorem op_at10 (W : World) : (Instr.index 135 opsV (.int .i64 10)).run Tryz.prog W = .ok (opV ([47], 4)) W := by kernel_rfl
theorem op_at11 (W : World) : (Instr.index 135 opsV (.int .i64 11)).run Tryz.prog W = .ok (opV ([94], 5)) W := by kernel_rfl
theorem op_at (k : Nat) (hk : k < 12) : ∃ o, opsT[k]? = some o ∧ ∀ W : World, (Instr.index 135 opsV (.int .i64 k)).run Tryz.prog W = .ok (opV o) W := by
 match k, hk with
 | 0, _ => exact ⟨_, rfl, op_at0⟩
 | 1, _ => exact ⟨_, rfl, op_at1⟩
 | 2, _ => exact ⟨_, rfl, op_at2⟩
 | 3, _ => exact ⟨_, rfl, op_at3⟩
 | 4, _ => exact ⟨_, rfl, op_at4⟩
 | 5, _ => exact ⟨_, rfl, op_at5⟩
 | 6, _ => exact ⟨_, rfl, op_at6⟩
 | 7, _ => exact ⟨_, rfl, op_at7⟩
 | 8, _ => exact ⟨_, rfl, op_at8⟩
 | 9, _ => exact ⟨_, rfl, op_at9⟩
 | 10, _ => exact ⟨_, rfl, op_at10⟩
 | 11, _ => exact ⟨_, rfl, op_at11⟩
theorem Vec.made2 (w : World) (v0 v1 : Value) (t : TypeId) : Vec (w.alloc (.cells #[v0, v1] t)) w.heap.size [v0, v1] := vec_made w [v0, v1] t

set_option maxRecDepth 8000 in
set_option maxHeartbeats 2000000 in
theorem aheadI (l : List UInt8) (w : World) (hO : OpTab w) : Calls Tryz.prog 71 #[.string (bs l)] w fun e w' => e = .returned (opV (aheadO l)) ∧ Ext w w' := by
 have HF : Hid (∀ (k : Nat) o, opsT[k]? = some o → Lib.hasPrefix l o.1 = true → (∀ (j : Nat) o, j < k → opsT[j]? = some o → Lib.hasPrefix l o.1 = false) → aheadO l = o) := fun k o h1 h2 h3 => find_at h1 h2 h3
 have HX : Hid ((∀ (j : Nat) o, opsT[j]? = some o → Lib.hasPrefix l o.1 = false) → aheadO l = ([], 0)) := fun h => find_none h
 obtain ⟨R, hR⟩ : ∃ R, aheadO l = R := ⟨_, rfl⟩
 rw [hR] at HF HX ⊢
 clear hR
 have X0 := x1 w (.cells #[.string ⟨#[]⟩, .int .i64 0] 112)
 have V0 : Hid (Vec (w.alloc (.cells #[.string ⟨#[]⟩, .int .i64 0] 112)) w.heap.size [.string ⟨#[]⟩, .int .i64 0]) := Vec.made2 w _ _ _
 have hO' := hO.later X0
 have hr131 : w.rangeAt 2 0 opsF := hO
 have hr' : (w.alloc (.cells #[.string ⟨#[]⟩, .int .i64 0] 112)).rangeAt 2 0 opsF := hO'
 clear hO hO' hr131
 go_enter Tryz.func71, Tryz.ntmps71
 go_wp2_with (refine wpList_load_mid rfl _ _ rfl 2 0 rfl opsF _ hr' Tryz.underlying135 rfl (by kernel_rfl) ?_)
 clear hr'
 go_loopw [6] (fun i wr => ∃ k : Nat, k ≤ 12 ∧ i = .int .i64 k ∧ Hid (∀ (j : Nat) o, j < k → opsT[j]? = some o → Lib.hasPrefix l o.1 = false) ∧ Hid (Vec wr w.heap.size [.string ⟨#[]⟩, .int .i64 0]) ∧ Ext w wr) (fun i _ => 12 - (intOf i).toNat)
 case atStart => exact ⟨0, by omega, rfl, (fun j o hj => by omega), V0, X0⟩
 case round =>
  obtain ⟨k, hk, rfl, HA, HV, X⟩ := hrel
  by_cases hlt : k < 12
  ·
   obtain ⟨o, ho, hix⟩ := op_at k hlt
   obtain ⟨t, lev⟩ := o
   have i2 : (k : Int) < 12 := by omega
   have P := fun w => hasPrefixI l t w
   obtain ⟨p, hp⟩ : ∃ p, Lib.hasPrefix l t = p := ⟨_, rfl⟩
   rw [hp] at P
   have P : ∀ w, Calls Tryz.prog 94 #[.string (bs l), sV t] w fun e w' => e = .returned (.bool p) ∧ w' = w := P
   have V1 := Vec.made2 wr (sV t) (.int .i64 lev) 112
   have X1 := x1 wr (.cells #[sV t, .int .i64 lev] 112)
   obtain ⟨w1, h1⟩ : ∃ w1, wr.alloc (.cells #[sV t, .int .i64 lev] 112) = w1 := ⟨_, rfl⟩
   rw [h1] at V1 X1
   have VR := HV.out.later X1
   have X2 := xt X X1
   have c0 := (V1 0 _ rfl).1
   have c1 := (V1 1 _ rfl).1
   obtain ⟨b0, f0⟩ := VR 0 _ rfl
   obtain ⟨b1, f1⟩ := VR 1 _ rfl
   cases p
   ·
    have HA2 : Hid (∀ (j : Nat) o, j < k + 1 → opsT[j]? = some o → Lib.hasPrefix l o.1 = false) := fun j o hj h => by
     rcases Nat.lt_or_ge j k with hjk | hjk
     ·
      exact HA.out j o hjk h
     ·
      obtain rfl : j = k := by omega
      rw [ho] at h
      cases h
      exact hp
    have HV2 : Hid (Vec w1 w.heap.size [.string ⟨#[]⟩, .int .i64 0]) := VR
    clear HA HV VR V1 X X1 ho hp
    go_wp2_with fail
    refine (P _).mono ?_
    rintro e w2 ⟨rfl, h2⟩
    rw [h2]
    clear h2
    go_wp2_with fail
    go_roundw
    case rel => exact ⟨k + 1, by omega, by go_num, HA2, HV2, X2⟩
    case measure => simp [intOf]; omega
   ·
    have hr := HF.out k (t, lev) ho hp HA.out
    subst hr
    have VP := (VR.put 0 (by simp) (sV t)).put 1 (by simp) (.int .i64 lev)
    have XP := xset (p := ⟨w.heap.size, 1, none⟩) (xset (p := ⟨w.heap.size, 0, none⟩) X2 (Nat.le_refl _) (sV t)) (Nat.le_refl _) (.int .i64 lev)
    clear HA HV VR V1 X X1 ho hp HF HX
    go_wp2_with fail
    refine (P _).mono ?_
    rintro e w2 ⟨rfl, h2⟩
    rw [h2]
    clear h2
    go_wp2_with fail
    have d0 := (VP 0 _ rfl).1
    have d1 := (VP 1 _ rfl).1
    exact bodyPost_ret (v := opV (t, lev)) (by simp [results, Tryz.results71, go_sem, d0, d1]) rfl ⟨rfl, XP⟩
  ·
   obtain rfl : k = 12 := by omega
   have hr := HX.out (fun j o h => HA.out j o (by have := (List.getElem?_eq_some_iff.1 h).1; simpa [opsT] using this) h)
   subst hr
   obtain ⟨b0, f0⟩ := HV.out 0 _ rfl
   obtain ⟨b1, f1⟩ := HV.out 1 _ rfl
   have VP := (HV.out.put 0 (by simp) (.string ⟨#[]⟩)).put 1 (by simp) (.int .i64 0)
   have XP := xset (p := ⟨w.heap.size, 1, none⟩) (xset (p := ⟨w.heap.size, 0, none⟩) X (Nat.le_refl _) (.string ⟨#[]⟩)) (Nat.le_refl _) (.int .i64 0)
   clear HA HF HX HV
   go_wp2_with fail
   have d0 := (VP 0 _ rfl).1
   have d1 := (VP 1 _ rfl).1
   exact bodyPost_ret (v := opV ([], 0)) (by simp [results, Tryz.results71, go_sem, d0, d1]) rfl ⟨rfl, XP⟩

end Go.Proofs.YtcjjobciokfehaaGreatDoor

namespace Go.Proofs.YtcjjobciokfehaaGreatDoor
open Go.ChangeShapes Go.WideShapes Go.ChangeAt Go.RowKit

theorem gOps : Tryz.prog.globalNamed "loop.example/g00025/impl.operators" = some 2 := by kernel_rfl
theorem gOpsType : (Tryz.prog.globals[2]?).map (·.type) = some 135 := by kernel_rfl
theorem opCells : Tryz.prog.cellsOf 112 = 2 := by kernel_rfl
theorem intCellsO : Tryz.prog.cellsOf 3 = 1 := by kernel_rfl
theorem op_fields : ∃ fs : Array Field, Tryz.prog.underlying 112 = some (.struct fs) ∧ ∃ f0 f1, fs.toList[0]? = some f0 ∧ fs.toList[1]? = some f1 ∧ (f0.type = 9 ∧ f0.offset = 0) ∧ (f1.type = 3 ∧ f1.offset = 1) :=
 ⟨_, Tryz.underlying112, _, _, rfl, rfl, ⟨rfl, rfl⟩, ⟨rfl, rfl⟩⟩
theorem int_cellO {H : Type} {enc : TypeId × Value → H} {w : World} {base : Nat} {sp : Nat → Bool} {held : Bool} {fuel : Nat} {cs : List Value} {z : Int} {p : List MemPlace} (o : Nat)
  (h : DataW.trod enc Tryz.prog w base sp held fuel 3 ((cs.drop o).take 1) = some (.lit (.int .i64 z), p)) : cs[o]? = some (.int .i64 z) := by
 obtain ⟨n, hc, hx, _⟩ := DataW.trod_int Tryz.underlying3 h
 simp only [Prod.mk.injEq, DataW.lit.injEq, Lit.int.injEq, true_and] at hx
 have := congrArg (·[0]?) hc
 simp only [List.getElem?_take, List.getElem?_drop, List.getElem?_cons_zero] at this
 simpa [hx.1] using this
theorem str_cellO {H : Type} {enc : TypeId × Value → H} {w : World} {base : Nat} {sp : Nat → Bool} {held : Bool} {fuel : Nat} {cs : List Value} {l : List UInt8} {p : List MemPlace} (o : Nat)
  (h : DataW.trod enc Tryz.prog w base sp held fuel 9 ((cs.drop o).take 1) = some (.lit (.string l), p)) : cs[o]? = some (sV l) := by
 obtain ⟨s, hc, hx, _⟩ := DataW.trod_string Tryz.underlying9 h
 simp only [Prod.mk.injEq, DataW.lit.injEq, Lit.string.injEq] at hx
 have := congrArg (·[0]?) hc
 simp only [List.getElem?_take, List.getElem?_drop, List.getElem?_cons_zero] at this
 have hs : s = ⟨l.toArray⟩ := by
  cases s
  rw [hx.1]
 rw [hs] at this
 simpa using this
theorem op_cells {H : Type} {enc : TypeId × Value → H} {w : World} {base : Nat} {sp : Nat → Bool} {held : Bool} {fuel : Nat} {cs : List Value} {l : List UInt8} {b : Int} {p : List MemPlace}
  (h : DataW.trod enc Tryz.prog w base sp held fuel 112 cs = some (.agg [.lit (.string l), .lit (.int .i64 b)], p)) : cs[0]? = some (sV l) ∧ cs[1]? = some (.int .i64 b) := by
 obtain ⟨fs, ht, f0, f1, e0, e1, ⟨t0, o0⟩, ⟨t1, o1⟩⟩ := op_fields
 obtain ⟨_, _, k0⟩ := trod_field ht h 0 f0 e0 _ rfl
 obtain ⟨_, _, k1⟩ := trod_field ht h 1 f1 e1 _ rfl
 rw [t0, o0, strCellsX] at k0
 rw [t1, o1, intCellsO] at k1
 exact ⟨str_cellO 0 k0, int_cellO 1 k1⟩
set_option maxRecDepth 100000 in
theorem ops_of {rest : List (String × DataW Unit)} {W : World} (h : laidMet Tryz.prog (("loop.example/g00025/impl.operators", Rows.laid_loop_example_g00025_impl_operators) :: rest) W) : OpTab W := by
 obtain ⟨ps, ⟨g', t', cs, fuel, p, q, hg', ht', hvar, hd, _, _⟩, _⟩ := h
 obtain rfl := Option.some.inj (gOps.symm.trans hg')
 obtain rfl := Option.some.inj (gOpsType.symm.trans ht')
 have C := fun i v (h : cs[i]? = some v) => (World.var?_cell gOps hvar i).trans (by simpa using h)
 obtain ⟨_, _, k0⟩ := trod_elem Tryz.underlying135 hd 0 (by decide) _ rfl
 obtain ⟨_, _, k1⟩ := trod_elem Tryz.underlying135 hd 1 (by decide) _ rfl
 obtain ⟨_, _, k2⟩ := trod_elem Tryz.underlying135 hd 2 (by decide) _ rfl
 obtain ⟨_, _, k3⟩ := trod_elem Tryz.underlying135 hd 3 (by decide) _ rfl
 obtain ⟨_, _, k4⟩ := trod_elem Tryz.underlying135 hd 4 (by decide) _ rfl
 obtain ⟨_, _, k5⟩ := trod_elem Tryz.underlying135 hd 5 (by decide) _ rfl
 obtain ⟨_, _, k6⟩ := trod_elem Tryz.underlying135 hd 6 (by decide) _ rfl
 obtain ⟨_, _, k7⟩ := trod_elem Tryz.underlying135 hd 7 (by decide) _ rfl
 obtain ⟨_, _, k8⟩ := trod_elem Tryz.underlying135 hd 8 (by decide) _ rfl
 obtain ⟨_, _, k9⟩ := trod_elem Tryz.underlying135 hd 9 (by decide) _ rfl
 obtain ⟨_, _, k10⟩ := trod_elem Tryz.underlying135 hd 10 (by decide) _ rfl
 obtain ⟨_, _, k11⟩ := trod_elem Tryz.underlying135 hd 11 (by decide) _ rfl
 rw [opCells] at k0 k1 k2 k3 k4 k5 k6 k7 k8 k9 k10 k11
 obtain ⟨a0, b0⟩ := op_cells k0
 obtain ⟨a1, b1⟩ := op_cells k1
 obtain ⟨a2, b2⟩ := op_cells k2
 obtain ⟨a3, b3⟩ := op_cells k3
 obtain ⟨a4, b4⟩ := op_cells k4
 obtain ⟨a5, b5⟩ := op_cells k5
 obtain ⟨a6, b6⟩ := op_cells k6
 obtain ⟨a7, b7⟩ := op_cells k7
 obtain ⟨a8, b8⟩ := op_cells k8
 obtain ⟨a9, b9⟩ := op_cells k9
 obtain ⟨a10, b10⟩ := op_cells k10
 obtain ⟨a11, b11⟩ := op_cells k11
 simp only [List.getElem?_take, List.getElem?_drop] at a0 b0 a1 b1 a2 b2 a3 b3 a4 b4 a5 b5 a6 b6 a7 b7 a8 b8 a9 b9 a10 b10 a11 b11
 intro i z hz
 match i, hz with
 | 0, hz => cases hz; exact C 0 _ (by simpa using a0)
 | 1, hz => cases hz; exact C 1 _ (by simpa using b0)
 | 2, hz => cases hz; exact C 2 _ (by simpa using a1)
 | 3, hz => cases hz; exact C 3 _ (by simpa using b1)
 | 4, hz => cases hz; exact C 4 _ (by simpa using a2)
 | 5, hz => cases hz; exact C 5 _ (by simpa using b2)
 | 6, hz => cases hz; exact C 6 _ (by simpa using a3)
 | 7, hz => cases hz; exact C 7 _ (by simpa using b3)
 | 8, hz => cases hz; exact C 8 _ (by simpa using a4)
 | 9, hz => cases hz; exact C 9 _ (by simpa using b4)
 | 10, hz => cases hz; exact C 10 _ (by simpa using a5)
 | 11, hz => cases hz; exact C 11 _ (by simpa using b5)
 | 12, hz => cases hz; exact C 12 _ (by simpa using a6)
 | 13, hz => cases hz; exact C 13 _ (by simpa using b6)
 | 14, hz => cases hz; exact C 14 _ (by simpa using a7)
 | 15, hz => cases hz; exact C 15 _ (by simpa using b7)
 | 16, hz => cases hz; exact C 16 _ (by simpa using a8)
 | 17, hz => cases hz; exact C 17 _ (by simpa using b8)
 | 18, hz => cases hz; exact C 18 _ (by simpa using a9)
 | 19, hz => cases hz; exact C 19 _ (by simpa using b9)
 | 20, hz => cases hz; exact C 20 _ (by simpa using a10)
 | 21, hz => cases hz; exact C 21 _ (by simpa using b10)
 | 22, hz => cases hz; exact C 22 _ (by simpa using a11)
 | 23, hz => cases hz; exact C 23 _ (by simpa using b11)
theorem ops_readable : ∀ g t, Tryz.prog.globalNamed "loop.example/g00025/impl.operators" = some g → (Tryz.prog.globals[g]?).map (·.type) = some t → Tryz.prog.readableRec t = true ∧ t < Tryz.prog.types.size := by
 intro g t hg ht
 obtain rfl := Option.some.inj (gOps.symm.trans hg)
 obtain rfl := Option.some.inj (gOpsType.symm.trans ht)
 exact ⟨by kernel_rfl, of_decide_eq_true (by kernel_rfl)⟩

end Go.Proofs.YtcjjobciokfehaaGreatDoor

namespace Go.Proofs.YtcjjobciokfehaaGreatDoor
open Go.ChangeShapes Go.WideShapes Go.ChangeAt Go.RowKit

theorem gPow10Type : (Tryz.prog.globals[5]?).map (·.type) = some 127 := by kernel_rfl
theorem pow10_of {rest : List (String × DataW Unit)} {W : World} (h : laidMet Tryz.prog (("internal/strconv.uint64pow10", Rows.laid_internal_strconv_uint64pow10) :: rest) W) : Lib.TabIs Tryz.prog W "internal/strconv.uint64pow10" .u64 Lib.pow10Tab :=
 Lib.tabIs_of_head (rest := rest) gPow10 gPow10Type Tryz.underlying127 Tryz.underlying126 (by kernel_rfl) (by kernel_rfl) h

end Go.Proofs.YtcjjobciokfehaaGreatDoor

namespace Go.Proofs.YtcjjobciokfehaaGreatDoor
open Go.ChangeShapes Go.WideShapes Go.ChangeAt Go.RowKit

/-- A variable of an int type holds SOME int. -/
theorem int_of_shape {P : Program} {w : World} {g : Nat} {t : TypeId} {zero : Array Value} (h : w.ShapedOpen P) (hg : g < P.globals.size)
  (h0 : ((begin P (fun _ _ => 0) default).world.heap[g]?).bind Obj.row? = some (zero, t)) (hz : zero.size = 1)
  (hb : P.buildable t = true) (hc : P.cellTypes P.depth t = some [t]) (hu : P.underlying t = some (.int .i64)) : ∃ m, w.cell? ⟨g, 0, none⟩ = some (.int .i64 m) := by
 obtain ⟨cs, hh, hs, hr⟩ := h.1 g zero t hg h0
 obtain ⟨ts, hts, _, hall⟩ := hr hb
 rw [hc] at hts
 cases hts
 have h1 : 0 < cs.size := by omega
 obtain ⟨u, hu', hok⟩ := hall 0 cs[0] (by simp [h1])
 have : u = t := by simpa using hu'.symm
 subst this
 have hcell : w.cell? ⟨g, 0, none⟩ = some cs[0] := by simp [World.cell?, hh, h1]
 rw [hcell]
 unfold Cell.ok at hok
 rw [hu] at hok
 cases hv : cs[0] <;> rw [hv] at hok <;> first | exact ⟨_, by rw [hok.1]⟩ | simp at hok
theorem maxLen_of {W : World} (h : W.ShapedOpen Tryz.prog) : ∃ m, W.cell? ⟨8, 0, none⟩ = some (.int .i64 m) :=
 int_of_shape (t := 3) (zero := #[.int .i64 0]) h (of_decide_eq_true (by kernel_rfl)) (by kernel_rfl) rfl (by kernel_rfl) (by kernel_rfl) Tryz.underlying3

theorem starErr : "*" ++ "errors.errorString" = "*errors.errorString" := by decide
/-- The one row of that name. -/
theorem rowErr (u : TypeId) (h : Tryz.prog.typeName? 3 u = some "*errors.errorString") : u = 200 :=
 typeName_ptr_named (nm := "errors.errorString") (by rw [starErr]; kernel_rfl) (by kernel_rfl) (by decide) u (by rw [starErr]; exact h)
theorem gSyntaxType : (Tryz.prog.globals[3]?).map (·.type) = some 138 := by kernel_rfl
theorem gRangeType : (Tryz.prog.globals[4]?).map (·.type) = some 138 := by kernel_rfl
theorem syntax_of {rest : List (String × DataW Unit)} {W : World} (h : laidMet Tryz.prog (("strconv.ErrSyntax", Rows.laid_strconv_ErrSyntax) :: rest) W) : ∃ tp p, W.var? Tryz.prog "strconv.ErrSyntax" = some #[.iface tp p] := by
 obtain ⟨a0, s0, hv0, -, -, -⟩ := laid_sentinel h gSyntax gSyntaxType Tryz.underlying138 rowErr Tryz.underlying200 Tryz.underlying202 rfl rfl Tryz.underlying9 (by kernel_rfl) (by kernel_rfl)
 exact ⟨_, _, hv0⟩
theorem range_of {rest : List (String × DataW Unit)} {W : World} (h : laidMet Tryz.prog (("strconv.ErrRange", Rows.laid_strconv_ErrRange) :: rest) W) : ∃ tp p, W.var? Tryz.prog "strconv.ErrRange" = some #[.iface tp p] := by
 obtain ⟨a0, s0, hv0, -, -, -⟩ := laid_sentinel h gRange gRangeType Tryz.underlying138 rowErr Tryz.underlying200 Tryz.underlying202 rfl rfl Tryz.underlying9 (by kernel_rfl) (by kernel_rfl)
 exact ⟨_, _, hv0⟩

end Go.Proofs.YtcjjobciokfehaaGreatDoor

