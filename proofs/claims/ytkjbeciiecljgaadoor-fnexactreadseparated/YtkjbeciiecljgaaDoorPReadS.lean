/-
  FnExactReadSeparated: the row and its card, out of the walk.
-/
import Derived.Test.YtkjbeciiecljgaaDoorCards
import Derived.Test.YtkjbeciiecljgaaDoorTie
import Derived.Test.YtkjbeciiecljgaaDoorFrameRs
import Derived.Test.YtkjbeciiecljgaaDoorRs4
namespace Go.Proofs.YtkjbeciiecljgaaDoor.fnExactReadSeparated
open Go.ChangeShapes Go.WideShapes Go.ChangeAt Go.RowKit
open Go.ChangeMaps (open_string)

/-- So many blocks has the settled world. -/
noncomputable def low : Nat := (World.holding Tryd.prog default ⟨#[], #[], []⟩).heap.size

set_option maxRecDepth 100000 in
/-- What the walk gives, for every argument and every world that holds the sentinels. -/
theorem contract (H : Type) (enc : TypeId × Value → H) (W : World) (base : Nat) (args : Array Value) (ds gs : List (DataW H)) (before : List MemPlace)
    (hval : ∀ (j : Nat) t v, Tryd.f3.params[j]? = some t → args[j]? = some v → Value.okWide Tryd.prog W .any base t v)
    (hW : DataW.Whole enc Tryd.prog Tryd.f3.params.toList Rows.fnExactReadSeparatedSpec.vars false W args.toList ds gs before) (hL : laidMetH Tryd.prog Rows.fnExactReadSeparatedRow.laid W) (hSh : W.ShapedOpen Tryd.prog) :
    Calls Tryd.prog 3 args W fun e W' => ∃ v, e = .returned v ∧ Rows.fnExactReadSeparatedSpec.post enc Tryd.prog Tryd.f3 false true false false W args v W' := by
  have hW' := hW
  obtain ⟨p, q, hA0, hV, rfl, hfz, hnd⟩ := hW
  have hA : DataW.TrodAll enc Tryd.prog W 0 (fun _ => true) true Tryd.f3.params.toList args.toList ds p := hA0
  rw [Tryd.params3] at hA hval
  obtain ⟨v0, vs0, d0, ds0, p0, q0, hargs, rfl, rfl, h0, r0⟩ := trodAll_cons hA
  obtain ⟨v1, vs1, d1, ds1, p1, q1, rfl, rfl, rfl, h1, r1⟩ := trodAll_cons r0
  obtain ⟨rfl, rfl, rfl⟩ := trodAll_nil r1
  obtain rfl : args = #[v0, v1] := by cases args; simp_all
  obtain ⟨g0, g1, g2, g3, g4, g5, rfl⟩ : ∃ g0 g1 g2 g3 g4 g5, gs = [g0, g1, g2, g3, g4, g5] := by
    match gs, hV with
    | a :: az, ⟨_, _, _, _, _, _, _, _, _, _, hs2, _⟩ =>
      match az, hs2 with
      | b :: bs, ⟨_, _, _, _, _, _, _, _, _, _, hs1, _⟩ =>
        match bs, hs1 with
        | c :: cs, ⟨_, _, _, _, _, _, _, _, _, _, hs0, _⟩ =>
          match cs, hs0 with
          | d :: ds, ⟨_, _, _, _, _, _, _, _, _, _, hs, _⟩ =>
            obtain ⟨_, _, _, _, d0, _, _, _, _, _, d1, _, rfl, _⟩ := trodVars_two hs
            exact ⟨a, b, c, d, d0, d1, rfl⟩
  have lt : ∀ x ∈ (p0 ++ (p1 ++ [])) ++ q, x.block < W.heap.size := fun x hx => by simpa using hW'.lt x hx
  have k0 := h0
  obtain ⟨s0, e0, _, _, w0⟩ := open_string Tryd.underlying9 (hval 0 9 v0 rfl rfl) h0
  subst e0
  have k1 := h1
  obtain ⟨s1, e1, _, _, w1⟩ := open_string Tryd.underlying9 (hval 1 9 v1 rfl rfl) h1
  subst e1
  have hL' := laidMetH_iff.1 hL
  obtain ⟨a1, a2, a3, hS⟩ := sen_of hL'.1
  have hT := errT_of hL'.2
  refine (lawRead s0.data.toList s1.data.toList a1 a2 a3 W (big_of hSh) hS hT (by rw [← maxLen_eq]; exact w0) (by rw [← maxLen_eq]; exact w1)).mono fun e W' ⟨he, bel⟩ => ?_
  subst he
  have rd : ∀ n ∈ Rows.fnExactReadSeparatedSpec.vars, ∀ g t, Tryd.prog.globalNamed n = some g → (Tryd.prog.globals[g]?).map (·.type) = some t → Tryd.prog.readableRec t = true ∧ t < Tryd.prog.types.size := by
    intro n hn
    simp only [Rows.fnExactReadSeparatedSpec, List.mem_cons, List.not_mem_nil, or_false] at hn
    rcases hn with rfl | rfl | rfl | rfl | rfl | rfl
    · exact rdErr gRangeF tRangeF
    · exact rdErr gShort tShort
    · exact rdErr gCode tCode
    · exact rdErr gOrder tOrder
    · exact rdErr gSum tSum
    · exact rdErr gMore tMore
  exact ⟨_, rfl, _, _, _, [], _, _, hW', trodAll_mk1 (shut_bool Tryd.underlying4 _),
    trodAll_cons_mk (Below.trod laidOut (by kernel_rfl) (of_decide_eq_true (by kernel_rfl)) k0 bel (fun x hx => lt x (by simp [hx]))) (trodAll_cons_mk (Below.trod laidOut (by kernel_rfl) (of_decide_eq_true (by kernel_rfl)) k1 bel (fun x hx => lt x (by simp [hx]))) trodAll_mk0),
    vars_below laidOut bel rd (fun x hx => lt x (by simp [hx])) hV, bel.frame _, fun h => by cases h⟩

set_option maxRecDepth 100000 in
theorem lifted (os : Os) (started : os.Started) (H : Type) (enc : TypeId × Value → H) (F : Stop.Interp) :
    ReturnsInHanded {} Tryd.checked os 3 .any ((OpenSpec.ofChange Rows.fnExactReadSeparatedSpec).preRow enc Tryd.prog Tryd.f3 Rows.fnExactReadSeparatedRow.domain false Rows.fnExactReadSeparatedRow.laid) (((OpenSpec.ofChange Rows.fnExactReadSeparatedSpec).at F).post enc Tryd.prog Tryd.f3 false true false false) := by
  refine returnsInHanded_of_row (C := Tryd.checked) (s := OpenSpec.ofChange Rows.fnExactReadSeparatedSpec) own started (by kernel_rfl) Tryd.func3
    (witness_row_at (enc := enc) (C := Tryd.checked) false ({ World.holding Tryd.prog os ⟨#[.cells #[.string ⟨#[115, 111, 109, 101, 116, 104, 105, 110, 103, 32, 105, 115, 32, 98, 101, 121, 111, 110, 100, 32, 105, 116, 115, 32, 98, 111, 117, 110, 100, 115]⟩] 115, .cells #[.string ⟨#[116, 104, 101, 32, 102, 105, 108, 101, 32, 101, 110, 100, 115, 32, 101, 97, 114, 108, 121]⟩] 115, .cells #[.string ⟨#[97, 32, 98, 121, 116, 101, 32, 109, 97, 121, 32, 110, 111, 116, 32, 99, 111, 109, 101, 32, 116, 104, 101, 114, 101]⟩] 115, .cells #[.string ⟨#[115, 111, 109, 101, 116, 104, 105, 110, 103, 32, 105, 115, 32, 111, 117, 116, 32, 111, 102, 32, 111, 114, 100, 101, 114]⟩] 115, .cells #[.string ⟨#[116, 104, 101, 32, 99, 104, 101, 99, 107, 115, 117, 109, 32, 105, 115, 32, 97, 110, 111, 116, 104, 101, 114]⟩] 115, .cells #[.string ⟨#[98, 121, 116, 101, 115, 32, 102, 111, 108, 108, 111, 119, 32, 98, 101, 104, 105, 110, 100, 32, 116, 104, 101, 32, 101, 110, 100]⟩] 115], #[], []⟩ with heap := ((((((((World.holding Tryd.prog os ⟨#[.cells #[.string ⟨#[115, 111, 109, 101, 116, 104, 105, 110, 103, 32, 105, 115, 32, 98, 101, 121, 111, 110, 100, 32, 105, 116, 115, 32, 98, 111, 117, 110, 100, 115]⟩] 115, .cells #[.string ⟨#[116, 104, 101, 32, 102, 105, 108, 101, 32, 101, 110, 100, 115, 32, 101, 97, 114, 108, 121]⟩] 115, .cells #[.string ⟨#[97, 32, 98, 121, 116, 101, 32, 109, 97, 121, 32, 110, 111, 116, 32, 99, 111, 109, 101, 32, 116, 104, 101, 114, 101]⟩] 115, .cells #[.string ⟨#[115, 111, 109, 101, 116, 104, 105, 110, 103, 32, 105, 115, 32, 111, 117, 116, 32, 111, 102, 32, 111, 114, 100, 101, 114]⟩] 115, .cells #[.string ⟨#[116, 104, 101, 32, 99, 104, 101, 99, 107, 115, 117, 109, 32, 105, 115, 32, 97, 110, 111, 116, 104, 101, 114]⟩] 115, .cells #[.string ⟨#[98, 121, 116, 101, 115, 32, 102, 111, 108, 108, 111, 119, 32, 98, 101, 104, 105, 110, 100, 32, 116, 104, 101, 32, 101, 110, 100]⟩] 115], #[], []⟩).heap.modify 0 fun
        | .cells _ t frozen => .cells #[.iface 92 (.pointer (some ⟨low + 0, 0, none⟩))] t frozen
        | o => o).modify 1 fun
        | .cells _ t frozen => .cells #[.iface 92 (.pointer (some ⟨low + 1, 0, none⟩))] t frozen
        | o => o).modify 2 fun
        | .cells _ t frozen => .cells #[.iface 92 (.pointer (some ⟨low + 2, 0, none⟩))] t frozen
        | o => o).modify 3 fun
        | .cells _ t frozen => .cells #[.iface 92 (.pointer (some ⟨low + 3, 0, none⟩))] t frozen
        | o => o).modify 4 fun
        | .cells _ t frozen => .cells #[.iface 92 (.pointer (some ⟨low + 4, 0, none⟩))] t frozen
        | o => o).modify 5 fun
        | .cells _ t frozen => .cells #[.iface 92 (.pointer (some ⟨low + 5, 0, none⟩))] t frozen
        | o => o).modify 6 fun
        | .cells _ t frozen => .cells #[.iface 72 (.agg #[.pointer (some ⟨8, 34, none⟩)])] t frozen
        | o => o) }) #[.string ⟨#[]⟩, .string ⟨#[]⟩] rfl (by kernel_rfl) (by kernel_rfl) (by kernel_rfl)
      (OpenSpec.preRow_of_cond 40 (x := ([.lit (.string []), .lit (.string [])], [.held (enc (92, .pointer (some ⟨low + 0, 0, none⟩))), .held (enc (92, .pointer (some ⟨low + 1, 0, none⟩))), .held (enc (92, .pointer (some ⟨low + 2, 0, none⟩))), .held (enc (92, .pointer (some ⟨low + 3, 0, none⟩))), .held (enc (92, .pointer (some ⟨low + 4, 0, none⟩))), .held (enc (92, .pointer (some ⟨low + 5, 0, none⟩)))], MemPlace.row ⟨0, 0, none⟩ 1 ++ MemPlace.row ⟨1, 0, none⟩ 1 ++ MemPlace.row ⟨2, 0, none⟩ 1 ++ MemPlace.row ⟨3, 0, none⟩ 1 ++ MemPlace.row ⟨4, 0, none⟩ 1 ++ MemPlace.row ⟨5, 0, none⟩ 1)) (by kernel_rfl) (by kernel_rfl) (fun k hk => by cases hk) (by kernel_rfl) (laidMetH_of_parts (laidMet_of_run' 40 (by kernel_rfl) (by kernel_rfl)) (by kernel_rfl)))) ?_
  intro W base args ds gs before hval hW _ _ _ hL hSh _
  exact contract H enc W base args ds gs before hval hW hL hSh

theorem said : Rows.FnExactReadSeparatedSaid :=
  OpenClaim.holds_of_cond 3 Tryd.f3 rfl rfl rfl rfl rfl rfl rfl ⟨rfl, rfl, rfl, rfl, rfl⟩ rfl rfl rfl rfl rfl (by kernel_rfl) Tryd.func3 (by kernel_rfl)
    (of_decide_eq_true (by kernel_rfl)) (by unfold Func.isWrapper; first | (rw [if_pos (by decide +kernel)]; kernel_rfl) | (rw [if_neg (by decide +kernel)]; exact ⟨rfl, rfl⟩))
    (fun os started H enc _ F => by rw [OpenClaim.pre_eq_preRow]; exact lifted os started H enc F)

theorem plain (f : FuncId) (fn : Func) (hf : Tryd.pinned.checked.prog.funcNamed "loop.example/g00025/laws.FnExactReadSeparated" = some f) (hfn : Tryd.pinned.checked.prog.funcs[f]? = some fn) :
    true = Tryd.pinned.checked.prog.looks [] ∧ ∀ (j : Nat) t, fn.params[j]? = some t → Tryd.pinned.checked.prog.wantsStandIn t = false := by
  obtain rfl : f = 3 := Option.some.inj ((show Tryd.prog.funcNamed "loop.example/g00025/laws.FnExactReadSeparated" = some 3 by kernel_rfl).symm.trans hf) |>.symm
  obtain rfl : fn = Tryd.f3 := (Option.some.inj (Tryd.func3.symm.trans hfn)).symm
  refine ⟨by kernel_rfl, fun j t ht => ?_⟩
  rw [Tryd.params3] at ht
  have hm := Array.mem_of_getElem? ht
  have hall : (#[9, 9].all fun u => !Tryd.prog.wantsStandIn u) = true := by kernel_rfl
  exact (show Tryd.prog.wantsStandIn t = false by simpa using Array.all_eq_true_iff_forall_mem.1 hall t hm)

theorem card : Rows.FnExactReadSeparatedCardSaid :=
  Claim7.holds_tied_plain_at .later [] _ _ _ _ said (fun _ h => by cases h) (by kernel_rfl) (fun _ h => by cases h) fnExactReadSeparated_row_tie rfl ⟨rfl, rfl⟩ (by kernel_rfl) rfl plain (by kernel_rfl)
#print axioms card
end Go.Proofs.YtkjbeciiecljgaaDoor.fnExactReadSeparated
