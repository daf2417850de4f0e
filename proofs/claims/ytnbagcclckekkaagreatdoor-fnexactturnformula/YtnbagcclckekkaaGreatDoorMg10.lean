import Derived.Test.YtnbagcclckekkaaGreatDoorMg10a
import Derived.Test.YtnbagcclckekkaaGreatDoorMg9
import Derived.Deep.DeepCutAuto
import Derived.RegionTactic
import Derived.ChangeAlike
import Derived.Test.YtnbagcclckekkaaGreatDoorMg1
import Derived.Deep.RegionHeld3
import Derived.BigQuiet
import Derived.Deep.Strs
namespace Go.Proofs.YtnbagcclckekkaaGreatDoor
open Go.RowKit
abbrev tuV (k a m:Int) (d:Bool):Value:=.agg #[.int .i64 k,.int .i64 a,.int .i64 m,.bool d]
def limT (k:Int):Int:=if k=1 then 1000 else 200
def gTurnB (k a m:Int) (d:Bool):Bool:=decide ((k=1∨k=2)∧(1≤m∧m≤100)∧(1≤a∧a≤limT k)∧(d=true→a+m - 1≤limT k))
set_option maxHeartbeats 400000 in
theorem lastI (k:Int) (w:World) :
  Calls Tryz.prog 53 #[.int .i64 k] w fun e w'=>e=.returned (.int .i64 (if k=1 then 1000 else if k=2 then 200 else 0))∧w'=w:=by
 go_enter Tryz.func53,Tryz.ntmps53
 go_wp2
 all_goals go_ret
 all_goals refine ⟨ret_int ?_,rfl⟩
 all_goals simp_all
set_option maxHeartbeats 400000 in
theorem limitS (k:Int) (w:World) :
  Calls Tryz.prog 44 #[.int .i64 k] w fun e w'=>e=.returned (.int .i64 (limT k))∧w'=w:=by
 go_enter Tryz.func44,Tryz.ntmps44
 go_wp2
 all_goals go_ret
 all_goals refine ⟨ret_int ?_,rfl⟩
 all_goals simp_all [limT]
theorem xdNt {a b:World} (h:Ext a b) (n:Nat):Ext a (b.drewN n):=⟨h.os,h.tape,h.output,h.size,h.block⟩
theorem limT_is (k:Int):∃ x,limT k=x∧((k=1∧x=1000)∨(k ≠ 1∧x=200)):=by
 unfold limT;by_cases h:k=1
 ·exact ⟨1000,by simp [h],.inl ⟨h,rfl⟩⟩
 ·exact ⟨200,by simp [h],.inr ⟨h,rfl⟩⟩
set_option maxRecDepth 8000 in
set_option maxHeartbeats 2000000 in
theorem goodTI (k a m:Int) (d:Bool) (w:World) :
  Calls Tryz.prog 26 #[tuV k a m d] w fun e w'=>e=.returned (.bool (gTurnB k a m d))∧Ext w w':=by
 have L:=fun w=>lastI k w;obtain ⟨l,hl⟩:∃ l,(if k=1 then (1000:Int) else if k=2 then 200 else 0)=l:=⟨_,rfl⟩;have hl0:(k=1∧l=1000)∨(k=2∧l=200)∨(k ≠ 1∧k ≠ 2∧l=0):=by rw [← hl];split;omega;split <;> omega
 rw [hl] at L;clear hl;obtain ⟨lt,hlt,hlt0⟩:=limT_is k;unfold gTurnB;rw [hlt];clear hlt;cases d
 all_goals go_enter Tryz.func26,Tryz.ntmps26
 all_goals go_wp2_with fail
 all_goals refine (L _).mono ?_
 all_goals rintro e w1 ⟨rfl,rfl⟩
 all_goals go_wp2_with fail
 all_goals go_ret
 all_goals refine ⟨ret_bool ?_,x1 _ _⟩
 all_goals clear L
 all_goals rw [Bool.eq_iff_iff]
 all_goals first | (simp only [decide_eq_true_eq,Bool.false_eq_true,true_imp_iff,false_iff];omega) | (simp;omega)
set_option maxRecDepth 8000 in
set_option maxHeartbeats 4000000 in
theorem gTurnS (k a m:Int) (d:Bool) (w:World) :
  Calls Tryz.prog 20 #[tuV k a m d] w fun e w'=>e=.returned (.bool (gTurnB k a m d))∧Ext w w':=by
 obtain ⟨lt,hlt,hlt0⟩:=limT_is k;unfold gTurnB;rw [hlt];have L:∀ w,Calls Tryz.prog 44 #[.int .i64 k] w fun e w'=>e=.returned (.int .i64 lt)∧w'=w:=fun w=>by rw [← hlt];exact limitS k w
 clear hlt;have B:=Box4.made w (.int .i64 k) (.int .i64 a) (.int .i64 m) (.bool d) 28;obtain ⟨⟨q0,q1,q2,q3⟩,_⟩:=B;have X:=x1 w (.cells #[.int .i64 k,.int .i64 a,.int .i64 m,.bool d] 28);go_enter Tryz.func20,Tryz.ntmps20;go_upto_region 1 with fail;obtain ⟨w0,hw0⟩:∃ u,w.alloc (.cells #[.int .i64 k,.int .i64 a,.int .i64 m,.bool d] 28)=u:=⟨_,rfl⟩;rw [hw0] at X q0 q1 q2 q3 ⊢;clear hw0;go_cut [33] (fun v wc=>v=.bool (decide (¬ ((k=1∨k=2)∧(1≤m∧m≤100)∧(1≤a∧a≤lt))))∧Ext w0 wc)
 case first =>
  by_cases h1:k=1
  ·subst h1;by_cases h3:m<1
   ·(go_quiet ((go_at_call 44;refine Calls.quiet_of_same (L _)));go_wp2;go_meet;case rel=>(refine ⟨congrArg Value.bool ?_,xdNt (xr _) _⟩;rw [Bool.eq_iff_iff];first | (simp only [decide_eq_true_eq];omega) | (simp;omega) | (simp only [decide_eq_true_eq,true_iff];omega)))
   have f3:decide (m<1)=false:=decide_eq_false h3;by_cases h4:100<m
   ·(go_quiet ((go_at_call 44;refine Calls.quiet_of_same (L _)));go_wp2;go_meet;case rel=>(refine ⟨congrArg Value.bool ?_,xdNt (xr _) _⟩;rw [Bool.eq_iff_iff];first | (simp only [decide_eq_true_eq];omega) | (simp;omega) | (simp only [decide_eq_true_eq,true_iff];omega)))
   have f4:decide (100<m)=false:=decide_eq_false h4;by_cases h5:a<1
   ·(go_quiet ((go_at_call 44;refine Calls.quiet_of_same (L _)));go_wp2;go_meet;case rel=>(refine ⟨congrArg Value.bool ?_,xdNt (xr _) _⟩;rw [Bool.eq_iff_iff];first | (simp only [decide_eq_true_eq];omega) | (simp;omega) | (simp only [decide_eq_true_eq,true_iff];omega)))
   have f5:decide (a<1)=false:=decide_eq_false h5
   (go_quiet ((go_at_call 44;refine Calls.quiet_of_same (L _)));go_wp2;go_meet;case rel=>(refine ⟨congrArg Value.bool ?_,xdNt (xr _) _⟩;rw [Bool.eq_iff_iff];first | (simp only [decide_eq_true_eq];omega) | (simp;omega) | (simp only [decide_eq_true_eq,true_iff];omega)))
  by_cases h2:k=2
  ·subst h2;by_cases h3:m<1
   ·(go_quiet ((go_at_call 44;refine Calls.quiet_of_same (L _)));go_wp2;go_meet;case rel=>(refine ⟨congrArg Value.bool ?_,xdNt (xr _) _⟩;rw [Bool.eq_iff_iff];first | (simp only [decide_eq_true_eq];omega) | (simp;omega) | (simp only [decide_eq_true_eq,true_iff];omega)))
   have f3:decide (m<1)=false:=decide_eq_false h3;by_cases h4:100<m
   ·(go_quiet ((go_at_call 44;refine Calls.quiet_of_same (L _)));go_wp2;go_meet;case rel=>(refine ⟨congrArg Value.bool ?_,xdNt (xr _) _⟩;rw [Bool.eq_iff_iff];first | (simp only [decide_eq_true_eq];omega) | (simp;omega) | (simp only [decide_eq_true_eq,true_iff];omega)))
   have f4:decide (100<m)=false:=decide_eq_false h4;by_cases h5:a<1
   ·(go_quiet ((go_at_call 44;refine Calls.quiet_of_same (L _)));go_wp2;go_meet;case rel=>(refine ⟨congrArg Value.bool ?_,xdNt (xr _) _⟩;rw [Bool.eq_iff_iff];first | (simp only [decide_eq_true_eq];omega) | (simp;omega) | (simp only [decide_eq_true_eq,true_iff];omega)))
   have f5:decide (a<1)=false:=decide_eq_false h5
   (go_quiet ((go_at_call 44;refine Calls.quiet_of_same (L _)));go_wp2;go_meet;case rel=>(refine ⟨congrArg Value.bool ?_,xdNt (xr _) _⟩;rw [Bool.eq_iff_iff];first | (simp only [decide_eq_true_eq];omega) | (simp;omega) | (simp only [decide_eq_true_eq,true_iff];omega)))
  have f1:decide (k=1)=false:=decide_eq_false h1;have f2:decide (k=2)=false:=decide_eq_false h2;have f1':(k == 1)=false:=beq_eq_false_iff_ne.2 h1;have f2':(k == 2)=false:=beq_eq_false_iff_ne.2 h2
  (go_quiet ((go_at_call 44;refine Calls.quiet_of_same (L _)));go_wp2;go_meet;case rel=>(refine ⟨congrArg Value.bool ?_,xdNt (xr _) _⟩;rw [Bool.eq_iff_iff];first | (simp only [decide_eq_true_eq];omega) | (simp;omega) | (simp only [decide_eq_true_eq,true_iff];omega)))
 case rest =>
  obtain ⟨rfl,E1⟩:=hcut
  rename World=>w2
  have Y:=xt X E1;replace q0:=cell_later E1 q0;replace q1:=cell_later E1 q1;replace q2:=cell_later E1 q2;replace q3:=cell_later E1 q3;by_cases hb:(k=1∨k=2)∧(1≤m∧m≤100)∧(1≤a∧a≤lt)
  ·have hb':decide (¬ ((k=1∨k=2)∧(1≤m∧m≤100)∧(1≤a∧a≤lt)))=false:=decide_eq_false (fun h=>h hb);simp only [hb'];have e1:IntKind.i64.wrap (a+m)=a+m:=by rw [IntKind.wrap_i64];omega
   have e2:IntKind.i64.wrap (a+m - 1)=a+m - 1:=by rw [IntKind.wrap_i64];omega
   go_upto_region 3 with fail;cases d
   all_goals go_quiet ((go_at_call 44;refine Calls.quiet_of_same (L _)))
   all_goals go_wp2
   all_goals go_ret
   all_goals refine ⟨ret_bool ?_,xdNt Y _⟩
   all_goals simp [hb]
  ·have hb':decide (¬ ((k=1∨k=2)∧(1≤m∧m≤100)∧(1≤a∧a≤lt)))=true:=decide_eq_true hb;simp only [hb']
   go_wp2
   go_ret;refine ⟨ret_bool ?_,Y⟩;symm;rw [decide_eq_false_iff_not];exact fun h=>hb ⟨h.1,h.2.1,h.2.2.1⟩
end Go.Proofs.YtnbagcclckekkaaGreatDoor

namespace Go.Proofs.YtnbagcclckekkaaGreatDoor
open Go.ChangeShapes Go.WideShapes Go.ChangeAt Go.RowKit
set_option maxRecDepth 100000 in
theorem open_turn {H:Type} {enc:TypeId × Value→H} {W:World} {base:Nat} {v:Value} {d:DataW H} {p:List MemPlace}
  (hv:Value.okWide Tryz.prog W .any base 23 v) (h:DataW.Trod enc Tryz.prog W 0 (fun _=>true) true 23 v d p) :
  ∃ (k a m:Int) (x:Bool),v=tuV k a m x∧(Lit.int .i64 k).wf=true∧(Lit.int .i64 a).wf=true∧(Lit.int .i64 m).wf=true:=by
 obtain ⟨cs,rfl,hsz⟩:=okWide_struct Tryz.underlying23 hv;obtain ⟨c0,c1,c2,c3,rfl⟩:=Joins.array4 (hsz.trans (show Tryz.prog.cellsOf 23=4 by kernel_rfl));obtain ⟨fuel,hf⟩:=h;obtain ⟨y0,y1,y2,y3,n,_,_,h0,h1,h2,h3⟩:=Joins.trod_struct4 Tryz.underlying23 hf;obtain ⟨a0,e0,_,w0⟩:=DataW.trod_int Tryz.underlying3 h0;obtain ⟨a1,e1,_,w1⟩:=DataW.trod_int Tryz.underlying3 h1;obtain ⟨a2,e2,_,w2⟩:=DataW.trod_int Tryz.underlying3 h2;obtain ⟨b3,e3,_⟩:=DataW.trod_bool Tryz.underlying4 h3;have k3:Tryz.prog.cellsOf 3=1:=by kernel_rfl
 have k4:Tryz.prog.cellsOf 4=1:=by kernel_rfl
 simp [k3,k4,Value.cells] at e0 e1 e2 e3;subst e0 e1 e2 e3;exact ⟨a0,a1,a2,b3,rfl,w0,w1,w2⟩
end Go.Proofs.YtnbagcclckekkaaGreatDoor

