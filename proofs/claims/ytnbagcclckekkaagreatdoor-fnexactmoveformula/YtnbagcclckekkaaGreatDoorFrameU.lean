/-
  What the rows of the readers of addresses share: the sentinels and the length of the library's, out of what a row lists and of the world's shape.
-/
import Derived.Test.YtnbagcclckekkaaGreatDoorMg9
namespace Go.Proofs.YtnbagcclckekkaaGreatDoor
open Go.ChangeShapes Go.WideShapes Go.ChangeAt Go.RowKit
theorem int_of_shape {P:Program} {w:World} {g:Nat} {t:TypeId} {zero:Array Value} (h:w.ShapedOpen P) (hg:g<P.globals.size)
  (h0:((begin P (fun _ _=>0) default).world.heap[g]?).bind Obj.row?=some (zero,t)) (hz:zero.size=1)
  (hb:P.buildable t=true) (hc:P.cellTypes P.depth t=some [t]) (hu:P.underlying t=some (.int .i64)):∃ m,w.cell? ⟨g,0,none⟩=some (.int .i64 m):=by
 obtain ⟨cs,hh,hs,hr⟩:=h.1 g zero t hg h0;obtain ⟨ts,hts,_,hall⟩:=hr hb;rw [hc] at hts;cases hts;have h1:0<cs.size:=by omega
 obtain ⟨u,hu',hok⟩:=hall 0 cs[0] (by simp [h1]);have:u=t:=by simpa using hu'.symm
 subst this;have hcell:w.cell? ⟨g,0,none⟩=some cs[0]:=by simp [World.cell?,hh,h1]
 rw [hcell];unfold Cell.ok at hok;rw [hu] at hok;cases hv:cs[0] <;> rw [hv] at hok <;> first | exact ⟨_,by rw [hok.1]⟩ | simp at hok
theorem maxLen_of {W:World} (h:W.ShapedOpen Tryz.prog):∃ m,W.cell? ⟨8,0,none⟩=some (.int .i64 m):=
 int_of_shape (t:=3) (zero:=#[.int .i64 0]) h (of_decide_eq_true (by kernel_rfl)) (by kernel_rfl) rfl (by kernel_rfl) (by kernel_rfl) Tryz.underlying3
theorem starErr : "*" ++ "errors.errorString" = "*errors.errorString" := by decide
theorem rowErr (u:TypeId) (h:Tryz.prog.typeName? 3 u=some "*errors.errorString"):u=230:=
 typeName_ptr_named (nm := "errors.errorString") (by rw [starErr];kernel_rfl) (by kernel_rfl) (by decide) u (by rw [starErr];exact h)
theorem gSyntaxType:(Tryz.prog.globals[3]?).map (·.type)=some 175:=by kernel_rfl
theorem gRangeType:(Tryz.prog.globals[4]?).map (·.type)=some 175:=by kernel_rfl
theorem syntax_of {rest:List (String × DataW Unit)} {W:World} (h:laidMet Tryz.prog (("strconv.ErrSyntax", Rows.laid_strconv_ErrSyntax) :: rest) W):∃ tp p,W.var? Tryz.prog "strconv.ErrSyntax" = some #[.iface tp p]:=by
 obtain ⟨a0,s0,hv0,-,-,-⟩:=laid_sentinel h gSyntax gSyntaxType Tryz.underlying175 rowErr Tryz.underlying230 Tryz.underlying232 rfl rfl Tryz.underlying9 (by kernel_rfl) (by kernel_rfl);exact ⟨_,_,hv0⟩
theorem range_of {rest:List (String × DataW Unit)} {W:World} (h:laidMet Tryz.prog (("strconv.ErrRange", Rows.laid_strconv_ErrRange) :: rest) W):∃ tp p,W.var? Tryz.prog "strconv.ErrRange" = some #[.iface tp p]:=by
 obtain ⟨a0,s0,hv0,-,-,-⟩:=laid_sentinel h gRange gRangeType Tryz.underlying175 rowErr Tryz.underlying230 Tryz.underlying232 rfl rfl Tryz.underlying9 (by kernel_rfl) (by kernel_rfl);exact ⟨_,_,hv0⟩
end Go.Proofs.YtnbagcclckekkaaGreatDoor

