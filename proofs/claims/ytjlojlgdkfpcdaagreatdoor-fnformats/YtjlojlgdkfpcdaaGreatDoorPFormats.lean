/-
  FnFormats: the row and its card, out of the walk.
-/
import Derived.Test.YtjlojlgdkfpcdaaGreatDoorCards
import Derived.Test.YtjlojlgdkfpcdaaGreatDoorTie
import Derived.Test.YtjlojlgdkfpcdaaGreatDoorMg1
import Derived.Test.YtjlojlgdkfpcdaaGreatDoorMg3
import Derived.Test.YtjlojlgdkfpcdaaGreatDoorMg5
import Derived.Test.YtjlojlgdkfpcdaaGreatDoorMg42
set_option maxRecDepth 100000
namespace Go.Proofs.YtjlojlgdkfpcdaaGreatDoor.fnFormats
open Go.ChangeShapes Go.WideShapes Go.ChangeAt Go.RowKit
theorem contract (H:Type) (enc:TypeId × Value->H) (W:World) (base:Nat) (args:Array Value) (ds gs:List (DataW H)) (before:List MemPlace)
    (hval:∀ (j:Nat) t v,Tryz.f3.params[j]?=some t->args[j]?=some v->Value.okWide Tryz.prog W .any base t v)
    (hW:DataW.Whole enc Tryz.prog Tryz.f3.params.toList Rows.fnFormatsSpec.vars false W args.toList ds gs before) (hL:laidMetH Tryz.prog Rows.fnFormatsRow.laid W) (hSh:W.ShapedOpen Tryz.prog) :
    Calls Tryz.prog 3 args W fun e W'=>∃ v,e=.returned v/\Rows.fnFormatsSpec.post enc Tryz.prog Tryz.f3 false true false false W args v W':=by
  have hW':=hW;obtain ⟨p,q,hA0,hV,rfl,hfz,hnd⟩:=hW;have hA:DataW.TrodAll enc Tryz.prog W 0 (fun _=>true) true Tryz.f3.params.toList args.toList ds p:=hA0;rw [Tryz.params3] at hA hval;obtain ⟨v0,vs0,d0,ds0,p0,q0,hargs,rfl,rfl,h0,r0⟩:=trodAll_cons hA;obtain ⟨rfl,rfl,rfl⟩:=trodAll_nil r0;obtain rfl:args=#[v0]:=by cases args;simp_all
  obtain ⟨g0,g1,g2,g3,g4,g5,rfl⟩:∃ g0 g1 g2 g3 g4 g5,gs=[g0,g1,g2,g3,g4,g5]:=by
    match gs,hV with
    | a :: az,⟨_,_,_,_,_,_,_,_,_,_,hs2,_⟩ =>
      match az,hs2 with
      | b :: bs,⟨_,_,_,_,_,_,_,_,_,_,hs1,_⟩ =>
        match bs,hs1 with
        | c :: cs,⟨_,_,_,_,_,_,_,_,_,_,hs0,_⟩ =>
          match cs,hs0 with
          | d :: ds,⟨_,_,_,_,_,_,_,_,_,_,hs,_⟩ =>
            obtain ⟨_,_,_,_,d0,_,_,_,_,_,d1,_,rfl,_⟩:=trodVars_two hs;exact ⟨a,b,c,d,d0,d1,rfl⟩
  have lt:∀ x ∈ (p0++[])++q,x.block<W.heap.size:=fun x hx=>by simpa using hW'.lt x hx
  have k0:=h0;obtain ⟨n0,c0⟩:=zS8 Tryz.underlying22 Tryz.underlying5 (by kernel_rfl) (hval 0 22 v0 rfl rfl) h0;have hL0:laidMet Tryz.prog Rows.fnFormatsRow.laid W:=hL;have hL1:=laidMet.tail hL0;have hL2:=laidMet.tail hL1;have hL3:=laidMet.tail hL2;have hL4:=laidMet.tail hL3;have hL5:=laidMet.tail hL4;have hL6:=laidMet.tail hL5;have hL7:=laidMet.tail hL6;have hL8:=laidMet.tail hL7;have hL9:=laidMet.tail hL8;have hL10:=laidMet.tail hL9;refine (zPL repC v0 n0 W c0 (tens_of hL6) (errs_of hL9) (itoaC (zUS hL2)) (zSP hL8) (cals_of hL7) ⟨zPJ hSh,ahead_of hL4,zU8 hL5⟩).mono fun e W' ⟨he,bel⟩=>?_;subst he;have rd:∀ n ∈ Rows.fnFormatsSpec.vars,∀ g t,Tryz.prog.globalNamed n=some g->(Tryz.prog.globals[g]?).map (·.type)=some t->Tryz.prog.readableRec t=true/\t<Tryz.prog.types.size:=by
    intro n hn;simp only [Rows.fnFormatsSpec,List.mem_cons,List.not_mem_nil,or_false] at hn
    rcases hn with rfl | rfl | rfl | rfl | rfl | rfl
    · exact zIG
    · exact zI9
    · exact zIA
    · exact zK8
    · exact zKE
    · exact zHP
  exact ⟨_,rfl,_,_,_,[],_,_,hW',trodAll_mk1 (shut_bool Tryz.underlying4 _),
    trodAll_cons_mk (Below.trod zSY (by kernel_rfl) (of_decide_eq_true (by kernel_rfl)) k0 bel (fun x hx=>lt x (by simp [hx]))) trodAll_mk0,
    zIK zSY bel rd (fun x hx=>lt x (by simp [hx])) hV,bel.frame _,fun h=>by cases h⟩
theorem lifted (os:Os) (started:os.Started) (H:Type) (enc:TypeId × Value->H) (F:Stop.Interp) :
    ReturnsInHanded {} Tryz.checked os 3 .any ((OpenSpec.ofChange Rows.fnFormatsSpec).preRow enc Tryz.prog Tryz.f3 Rows.fnFormatsRow.domain false Rows.fnFormatsRow.laid) (((OpenSpec.ofChange Rows.fnFormatsSpec).at F).post enc Tryz.prog Tryz.f3 false true false false):=by
  refine returnsInHanded_of_row (C:=Tryz.checked) (s:=OpenSpec.ofChange Rows.fnFormatsSpec) own started (by kernel_rfl) Tryz.func3
    (witness_row_at (enc:=enc) (C:=Tryz.checked) false ({ World.holding Tryz.prog os ⟨#[],#[],[]⟩ with heap:=((((((((((((World.holding Tryz.prog os ⟨#[],#[],[]⟩).heap.modify 12 fun
        | .cells _ t frozen=>.cells #[.int .u8 0,.int .u8 1,.int .u8 28,.int .u8 2,.int .u8 29,.int .u8 14,.int .u8 24,.int .u8 3,.int .u8 30,.int .u8 22,.int .u8 20,.int .u8 15,.int .u8 25,.int .u8 17,.int .u8 4,.int .u8 8,.int .u8 31,.int .u8 27,.int .u8 13,.int .u8 23,.int .u8 21,.int .u8 19,.int .u8 16,.int .u8 7,.int .u8 26,.int .u8 12,.int .u8 18,.int .u8 6,.int .u8 11,.int .u8 5,.int .u8 10,.int .u8 9] t frozen
        | o=>o).modify 13 fun
        | .cells _ t frozen=>.cells #[.int .u8 0,.int .u8 1,.int .u8 56,.int .u8 2,.int .u8 57,.int .u8 49,.int .u8 28,.int .u8 3,.int .u8 61,.int .u8 58,.int .u8 42,.int .u8 50,.int .u8 38,.int .u8 29,.int .u8 17,.int .u8 4,.int .u8 62,.int .u8 47,.int .u8 59,.int .u8 36,.int .u8 45,.int .u8 43,.int .u8 51,.int .u8 22,.int .u8 53,.int .u8 39,.int .u8 33,.int .u8 30,.int .u8 24,.int .u8 18,.int .u8 12,.int .u8 5,.int .u8 63,.int .u8 55,.int .u8 48,.int .u8 27,.int .u8 60,.int .u8 41,.int .u8 37,.int .u8 16,.int .u8 46,.int .u8 35,.int .u8 44,.int .u8 21,.int .u8 52,.int .u8 32,.int .u8 23,.int .u8 11,.int .u8 54,.int .u8 26,.int .u8 40,.int .u8 15,.int .u8 34,.int .u8 20,.int .u8 31,.int .u8 10,.int .u8 25,.int .u8 14,.int .u8 19,.int .u8 9,.int .u8 13,.int .u8 8,.int .u8 7,.int .u8 6] t frozen
        | o=>o).modify 11 fun
        | .cells _ t frozen=>.cells #[.int .u64 1,.int .u64 10,.int .u64 100,.int .u64 1000,.int .u64 10000,.int .u64 100000,.int .u64 1000000,.int .u64 10000000,.int .u64 100000000,.int .u64 1000000000,.int .u64 10000000000,.int .u64 100000000000,.int .u64 1000000000000,.int .u64 10000000000000,.int .u64 100000000000000,.int .u64 1000000000000000,.int .u64 10000000000000000,.int .u64 100000000000000000,.int .u64 1000000000000000000,.int .u64 10000000000000000000] t frozen
        | o=>o).modify 10 fun
        | .cells _ t frozen=>.cells #[.int .u8 128,.int .u8 191,.int .u8 160,.int .u8 191,.int .u8 128,.int .u8 159,.int .u8 144,.int .u8 191,.int .u8 128,.int .u8 143,.int .u8 0,.int .u8 0,.int .u8 0,.int .u8 0,.int .u8 0,.int .u8 0,.int .u8 0,.int .u8 0,.int .u8 0,.int .u8 0,.int .u8 0,.int .u8 0,.int .u8 0,.int .u8 0,.int .u8 0,.int .u8 0,.int .u8 0,.int .u8 0,.int .u8 0,.int .u8 0,.int .u8 0,.int .u8 0] t frozen
        | o=>o).modify 0 fun
        | .cells _ t frozen=>.cells #[.int .u16 0,.int .u16 1,.int .u16 3,.int .u16 7,.int .u16 8,.int .u16 16,.int .u16 48,.int .u16 104,.int .u16 3,.int .u16 488,.int .u16 1000] t frozen
        | o=>o).modify 3 fun
        | .cells _ t frozen=>.cells #[.string ⟨#[121,121,121,121]⟩,.string ⟨#[121,121]⟩,.string ⟨#[109,109]⟩,.string ⟨#[109]⟩,.string ⟨#[100,100]⟩,.string ⟨#[100]⟩,.string ⟨#[104,104]⟩,.string ⟨#[110,110]⟩,.string ⟨#[115,115]⟩,.string ⟨#[45]⟩,.string ⟨#[47]⟩,.string ⟨#[58]⟩,.string ⟨#[46]⟩,.string ⟨#[32]⟩] t frozen
        | o=>o).modify 1 fun
        | .cells _ t frozen=>.cells #[.int .u64 1,.int .u64 10,.int .u64 100,.int .u64 1000,.int .u64 10000,.int .u64 100000,.int .u64 1000000,.int .u64 10000000,.int .u64 100000000,.int .u64 1000000000,.int .u64 10000000000,.int .u64 100000000000,.int .u64 1000000000000,.int .u64 10000000000000,.int .u64 100000000000000,.int .u64 1000000000000000,.int .u64 10000000000000000,.int .u64 100000000000000000,.int .u64 1000000000000000000,.int .u64 10000000000000000000] t frozen
        | o=>o).modify 5 fun
        | .cells _ t frozen=>.cells #[iQ 0,iQ 0,iQ 0,iQ 0,iQ 0,iQ 400,iQ 146097,iQ 2000,iQ 1,iQ 1,iQ 4,iQ 1461,iQ 1999,iQ 12,iQ 19] t frozen
        | o=>o).modify 6 fun
        | .cells _ t frozen=>.cells #[iQ 0,iQ 31,iQ 28,iQ 31,iQ 30,iQ 31,iQ 30,iQ 31,iQ 31,iQ 30,iQ 31,iQ 30,iQ 31] t frozen
        | o=>o).modify 2 fun
        | .cells _ t frozen=>.cells #[.string ⟨#[35,78,85,76,76,33]⟩,.string ⟨#[35,68,73,86,47,48,33]⟩,.string ⟨#[35,86,65,76,85,69,33]⟩,.string ⟨#[35,82,69,70,33]⟩,.string ⟨#[35,78,65,77,69,63]⟩,.string ⟨#[35,78,85,77,33]⟩,.string ⟨#[35,78,47,65]⟩,.string ⟨#[35,83,80,73,76,76,33]⟩,.string ⟨#[35,67,89,67,76,69,33]⟩] t frozen
        | o=>o).modify 9 fun
        | .cells _ t frozen=>.cells (#[(128,240),(66,241),(30,2),(1,19),(12,3),(1,35),(2,3),(1,52),(3,4),(1,68),(11,241)].flatMap fun p=>Array.replicate p.1 (.int .u8 p.2)) t frozen
        | o=>o) }) #[.slice none 0 0] rfl (by kernel_rfl) (by kernel_rfl) (by kernel_rfl)
      (OpenSpec.preRow_of_cond 40 (x:=([.nil],[Rows.laid_loop_example_g00025_impl_mayBeAhead,Rows.laid_loop_example_g00025_impl_dateWords,Rows.laid_loop_example_g00025_impl_tens,Rows.laid_loop_example_g00025_impl_errorTexts,Rows.laid_loop_example_g00025_impl_calendars,Rows.laid_loop_example_g00025_impl_monthLengths],MemPlace.row ⟨0,0,none⟩ 11++MemPlace.row ⟨3,0,none⟩ 14++MemPlace.row ⟨1,0,none⟩ 20++MemPlace.row ⟨2,0,none⟩ 9++MemPlace.row ⟨5,0,none⟩ 15++MemPlace.row ⟨6,0,none⟩ 13)) (by kernel_rfl) (by kernel_rfl) (fun k hk=>by cases hk) (by kernel_rfl) (laidMet_of_run' 40 (by kernel_rfl) (by kernel_rfl)))) ?_
  intro W base args ds gs before hval hW _ _ _ hL hSh _;exact contract H enc W base args ds gs before hval hW hL hSh
theorem said:Rows.FnFormatsSaid:=
  OpenClaim.holds_of_cond 3 Tryz.f3 rfl rfl rfl rfl rfl rfl rfl ⟨rfl,rfl,rfl,rfl,rfl⟩ rfl rfl rfl rfl rfl (by kernel_rfl) Tryz.func3 (by kernel_rfl)
    (of_decide_eq_true (by kernel_rfl)) (by unfold Func.isWrapper;first | (rw [if_pos (by decide +kernel)];kernel_rfl) | (rw [if_neg (by decide +kernel)];exact ⟨rfl,rfl⟩))
    (fun os started H enc _ F=>by rw [OpenClaim.pre_eq_preRow];exact lifted os started H enc F)
theorem plain (f:FuncId) (fn:Func) (hf:Tryz.pinned.checked.prog.funcNamed "loop.example/g00025/laws.FnFormats" = some f) (hfn:Tryz.pinned.checked.prog.funcs[f]?=some fn) :
    false=Tryz.pinned.checked.prog.looks []/\∀ (j:Nat) t,fn.params[j]?=some t->Tryz.pinned.checked.prog.wantsStandIn t=false:=by
  obtain rfl:f=3:=Option.some.inj ((show Tryz.prog.funcNamed "loop.example/g00025/laws.FnFormats" = some 3 by kernel_rfl).symm.trans hf) |>.symm;obtain rfl:fn=Tryz.f3:=(Option.some.inj (Tryz.func3.symm.trans hfn)).symm;refine ⟨by kernel_rfl,fun j t ht=>?_⟩;rw [Tryz.params3] at ht;have hm:=Array.mem_of_getElem? ht;have hall:(#[22].all fun u=>!Tryz.prog.wantsStandIn u)=true:=by kernel_rfl
  exact (show Tryz.prog.wantsStandIn t=false by simpa using Array.all_eq_true_iff_forall_mem.1 hall t hm)
theorem card:Rows.FnFormatsCardSaid:=
  Claim7.holds_tied_plain_at .later [] _ _ _ _ said (fun _ h=>by cases h) (by kernel_rfl) (fun _ h=>by cases h) fnFormats_row_tie rfl ⟨rfl,rfl⟩ (by kernel_rfl) rfl plain (by kernel_rfl)
#print axioms card
end Go.Proofs.YtjlojlgdkfpcdaaGreatDoor.fnFormats

