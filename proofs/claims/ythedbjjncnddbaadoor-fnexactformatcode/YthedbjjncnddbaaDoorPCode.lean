/-
  FnExactFormatCode: the row and its card, out of the walk.
-/
import Derived.Test.YthedbjjncnddbaaDoorCards
import Derived.Test.YthedbjjncnddbaaDoorTie
import Derived.Test.YthedbjjncnddbaaDoorFrameF
import Derived.Test.YthedbjjncnddbaaDoorL11
namespace Go.Proofs.YthedbjjncnddbaaDoor.fnExactFormatCode
open Go.ChangeShapes Go.WideShapes Go.ChangeAt Go.RowKit

set_option maxRecDepth 100000 in
/-- What the walk gives, for every argument and every world that holds the tables. -/
theorem contract (H : Type) (enc : TypeId × Value → H) (W : World) (base : Nat) (args : Array Value) (ds gs : List (DataW H)) (before : List MemPlace)
    (hval : ∀ (j : Nat) t v, Tryd.f4.params[j]? = some t → args[j]? = some v → Value.okWide Tryd.prog W .any base t v)
    (hW : DataW.Whole enc Tryd.prog Tryd.f4.params.toList Rows.fnExactFormatCodeSpec.vars false W args.toList ds gs before) (hL : laidMetH Tryd.prog Rows.fnExactFormatCodeRow.laid W) (hSh : W.ShapedOpen Tryd.prog) :
    Calls Tryd.prog 4 args W fun e W' => ∃ v, e = .returned v ∧ Rows.fnExactFormatCodeSpec.post enc Tryd.prog Tryd.f4 false true false false W args v W' := by
  have hW' := hW
  obtain ⟨p, q, hA0, hV, rfl, hfz, hnd⟩ := hW
  have hA : DataW.TrodAll enc Tryd.prog W 0 (fun _ => true) true Tryd.f4.params.toList args.toList ds p := hA0
  rw [Tryd.params4] at hA hval
  obtain ⟨v0, vs0, d0, ds0, p0, q0, hargs, rfl, rfl, h0, r0⟩ := trodAll_cons hA
  obtain ⟨rfl, rfl, rfl⟩ := trodAll_nil r0
  obtain rfl : args = #[v0] := by cases args; simp_all
  obtain ⟨g0, g1, rfl⟩ : ∃ g0 g1, gs = [g0, g1] := by
    obtain ⟨_, _, _, _, d0, _, _, _, _, _, d1, _, rfl, _⟩ := trodVars_two hV
    exact ⟨d0, d1, rfl⟩
  have lt : ∀ x ∈ (p0 ++ []) ++ q, x.block < W.heap.size := fun x hx => by simpa using hW'.lt x hx
  have k0 := h0
  obtain ⟨l0, c0, lb0, tb0⟩ := open_formats (hval 0 27 v0 rfl rfl) h0
  have hL0 : laidMet Tryd.prog Rows.fnExactFormatCodeRow.laid W := hL
  have hL1 := laidMet.tail hL0
  have hL2 := laidMet.tail hL1
  have hL3 := laidMet.tail hL2
  refine (lawCode v0 l0 W c0 ⟨maxLen_ofK hSh, ahead_of hL1, words_of hL2⟩ (by unfold maxLen at lb0; exact lb0) (fun f hf => by have := tb0 f hf; unfold maxLen at this; omega)).mono fun e W' ⟨he, bel⟩ => ?_
  subst he
  have rd : ∀ n ∈ Rows.fnExactFormatCodeSpec.vars, ∀ g t, Tryd.prog.globalNamed n = some g → (Tryd.prog.globals[g]?).map (·.type) = some t → Tryd.prog.readableRec t = true ∧ t < Tryd.prog.types.size := by
    intro n hn
    simp only [Rows.fnExactFormatCodeSpec, List.mem_cons, List.not_mem_nil, or_false] at hn
    rcases hn with rfl | rfl
    · exact ahead_readable
    · exact words_readable
  exact ⟨_, rfl, _, _, _, [], _, _, hW', trodAll_mk1 (shut_bool Tryd.underlying4 _),
    trodAll_cons_mk (Below.trod laidOut (by kernel_rfl) (of_decide_eq_true (by kernel_rfl)) k0 bel (fun x hx => lt x (by simp [hx]))) trodAll_mk0,
    vars_below laidOut bel rd (fun x hx => lt x (by simp [hx])) hV, bel.frame _, fun h => by cases h⟩

set_option maxRecDepth 100000 in
theorem lifted (os : Os) (started : os.Started) (H : Type) (enc : TypeId × Value → H) (F : Stop.Interp) :
    ReturnsInHanded {} Tryd.checked os 4 .any ((OpenSpec.ofChange Rows.fnExactFormatCodeSpec).preRow enc Tryd.prog Tryd.f4 Rows.fnExactFormatCodeRow.domain false Rows.fnExactFormatCodeRow.laid) (((OpenSpec.ofChange Rows.fnExactFormatCodeSpec).at F).post enc Tryd.prog Tryd.f4 false true false false) := by
  refine returnsInHanded_of_row (C := Tryd.checked) (s := OpenSpec.ofChange Rows.fnExactFormatCodeSpec) own started (by kernel_rfl) Tryd.func4
    (witness_row_at (enc := enc) (C := Tryd.checked) false ({ World.holding Tryd.prog os ⟨#[], #[], []⟩ with heap := (((((World.holding Tryd.prog os ⟨#[], #[], []⟩).heap.modify 4 fun
        | .cells _ t frozen => .cells #[.int .u8 128, .int .u8 191, .int .u8 160, .int .u8 191, .int .u8 128, .int .u8 159, .int .u8 144, .int .u8 191, .int .u8 128, .int .u8 143, .int .u8 0, .int .u8 0, .int .u8 0, .int .u8 0, .int .u8 0, .int .u8 0, .int .u8 0, .int .u8 0, .int .u8 0, .int .u8 0, .int .u8 0, .int .u8 0, .int .u8 0, .int .u8 0, .int .u8 0, .int .u8 0, .int .u8 0, .int .u8 0, .int .u8 0, .int .u8 0, .int .u8 0, .int .u8 0] t frozen
        | o => o).modify 0 fun
        | .cells _ t frozen => .cells #[.int .u16 0, .int .u16 1, .int .u16 3, .int .u16 7, .int .u16 8, .int .u16 16, .int .u16 48, .int .u16 104, .int .u16 3, .int .u16 488, .int .u16 1000] t frozen
        | o => o).modify 1 fun
        | .cells _ t frozen => .cells #[.string ⟨#[121, 121, 121, 121]⟩, .string ⟨#[121, 121]⟩, .string ⟨#[109, 109]⟩, .string ⟨#[109]⟩, .string ⟨#[100, 100]⟩, .string ⟨#[100]⟩, .string ⟨#[104, 104]⟩, .string ⟨#[110, 110]⟩, .string ⟨#[115, 115]⟩, .string ⟨#[45]⟩, .string ⟨#[47]⟩, .string ⟨#[58]⟩, .string ⟨#[46]⟩, .string ⟨#[32]⟩] t frozen
        | o => o).modify 3 fun
        | .cells _ t frozen => .cells (#[(128, 240), (66, 241), (30, 2), (1, 19), (12, 3), (1, 35), (2, 3), (1, 52), (3, 4), (1, 68), (11, 241)].flatMap fun p => Array.replicate p.1 (.int .u8 p.2)) t frozen
        | o => o) }) #[.slice none 0 0] rfl (by kernel_rfl) (by kernel_rfl) (by kernel_rfl)
      (OpenSpec.preRow_of_cond 40 (x := ([.nil], [Rows.laid_loop_example_g00025_impl_mayBeAhead, Rows.laid_loop_example_g00025_impl_dateWords], MemPlace.row ⟨0, 0, none⟩ 11 ++ MemPlace.row ⟨1, 0, none⟩ 14)) (by kernel_rfl) (by kernel_rfl) (fun k hk => by cases hk) (by kernel_rfl) (laidMet_of_run' 40 (by kernel_rfl) (by kernel_rfl)))) ?_
  intro W base args ds gs before hval hW _ _ _ hL hSh _
  exact contract H enc W base args ds gs before hval hW hL hSh

theorem said : Rows.FnExactFormatCodeSaid :=
  OpenClaim.holds_of_cond 4 Tryd.f4 rfl rfl rfl rfl rfl rfl rfl ⟨rfl, rfl, rfl, rfl, rfl⟩ rfl rfl rfl rfl rfl (by kernel_rfl) Tryd.func4 (by kernel_rfl)
    (of_decide_eq_true (by kernel_rfl)) (by unfold Func.isWrapper; first | (rw [if_pos (by decide +kernel)]; kernel_rfl) | (rw [if_neg (by decide +kernel)]; exact ⟨rfl, rfl⟩))
    (fun os started H enc _ F => by rw [OpenClaim.pre_eq_preRow]; exact lifted os started H enc F)

theorem plain (f : FuncId) (fn : Func) (hf : Tryd.pinned.checked.prog.funcNamed "loop.example/g00025/laws.FnExactFormatCode" = some f) (hfn : Tryd.pinned.checked.prog.funcs[f]? = some fn) :
    false = Tryd.pinned.checked.prog.looks [] ∧ ∀ (j : Nat) t, fn.params[j]? = some t → Tryd.pinned.checked.prog.wantsStandIn t = false := by
  obtain rfl : f = 4 := Option.some.inj ((show Tryd.prog.funcNamed "loop.example/g00025/laws.FnExactFormatCode" = some 4 by kernel_rfl).symm.trans hf) |>.symm
  obtain rfl : fn = Tryd.f4 := (Option.some.inj (Tryd.func4.symm.trans hfn)).symm
  refine ⟨by kernel_rfl, fun j t ht => ?_⟩
  rw [Tryd.params4] at ht
  have hm := Array.mem_of_getElem? ht
  have hall : (#[27].all fun u => !Tryd.prog.wantsStandIn u) = true := by kernel_rfl
  exact (show Tryd.prog.wantsStandIn t = false by simpa using Array.all_eq_true_iff_forall_mem.1 hall t hm)

theorem card : Rows.FnExactFormatCodeCardSaid :=
  Claim7.holds_tied_plain_at .later [] _ _ _ _ said (fun _ h => by cases h) (by kernel_rfl) (fun _ h => by cases h) fnExactFormatCode_row_tie rfl ⟨rfl, rfl⟩ (by kernel_rfl) rfl plain (by kernel_rfl)
#print axioms card
end Go.Proofs.YthedbjjncnddbaaDoor.fnExactFormatCode
