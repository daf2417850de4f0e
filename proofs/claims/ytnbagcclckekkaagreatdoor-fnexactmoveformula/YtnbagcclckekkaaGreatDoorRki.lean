/-
  A region that draws its order, inside a fence: each operation met once, the frame over letters.
-/
import Derived.OrdersIn
import Derived.TacticsIn
import Derived.OwnWalkIn
import Derived.Deep.MidRow
import Derived.Test.YtnbagcclckekkaaGreatDoorMg13
namespace Go.Proofs.YtnbagcclckekkaaGreatDoor
open Go.RowKit
section
variable {F:Fence} {n:Nat} {P:Program} {ops:Array Oper} {Q:Exit→Act→World→Prop} {md:Region.Mode}
theorem wpAnyIn_inv (J:Array Bool→Act→World→Prop)
  (step:∀ listed a w i o,J listed a w→i ∈ Region.ready md ops listed→ops[i]?=some o→wpOpIn F n P ops Q i (fun a' w'=>J (listed.setIfInBounds i true) a' w') a w)
  (fin:∀ listed a w,Region.ready md ops listed=[]→J listed a w→Q .normal a w) :
  ∀ (fuel:Nat) (listed:Array Bool) (a:Act) (w:World),listed.toList.count false≤fuel→J listed a w→wpAnyIn F n P md ops Q fuel listed a w:=by
 intro fuel
 induction fuel with
 | zero =>
  intro listed a w hf hJ;have hr:Region.ready md ops listed=[]:=by
   cases hr:Region.ready md ops listed with
   | nil=>rfl
   | cons x xs =>
    have:=count_set (mem_ready.1 (hr ▸ List.mem_cons_self:x ∈ Region.ready md ops listed)).1;omega
  exact ⟨hr,fin listed a w hr hJ⟩
 | succ fuel ih =>
  intro listed a w hf hJ;refine ⟨fun hr=>fin listed a w hr hJ,fun i hi=>?_⟩;obtain ⟨hun,o,ho,_⟩:=mem_ready.1 hi;refine wpOpIn_mono (fun a' w' hh=>ih _ a' w' ?_ hh) (step listed a w i o hJ hi ho);have:=count_set hun;omega
theorem wpIn_region_inv {id:Nat} {a:Act} {w:World} (J:Array Bool→Act→World→Prop) (hm:P.follows .mixedOrders=true)
  (hJ:J (Array.replicate ops.size false) a { w with drawn:=w.drawn+1 })
  (step:∀ listed a w i o,J listed a w→i ∈ Region.ready .any ops listed→ops[i]?=some o→wpOpIn F n P ops Q i (fun a' w'=>J (listed.setIfInBounds i true) a' w') a w)
  (fin:∀ listed a w,Region.ready .any ops listed=[]→J listed a w→Q .normal a w):(Code.region id ops true).wpIn F n P Q a w:=
 wpIn_region_any hm (wpAnyIn_inv J step fin ops.size _ a _ (by simp) hJ)
theorem wpOpIn_of_ops {i:Nat} {o:Oper} {K:Act→World→Prop} {a:Act} {w:World} (ho:ops[i]?=some o) (hg:o.guard=none)
  (h:wpListIn F n P #[o] (Exit.then K Q) [o] a w):wpOpIn F n P ops Q i K a w:=by
 unfold wpOpIn;simp only [ho,Region.wanted,hg,if_true];simp only [wpListIn,Region.wanted,hg,if_true] at h;unfold Oper.wpIn at *;refine ⟨h.1,?_⟩;have h:=h.2;generalize (o.semAt F.round a.eval).run P w=r at *;cases r with
 | ok x w' =>
  cases x <;> simp only [Oper.uponIn] at h ⊢ <;>
   first
    | exact h
    | exact ⟨h.1,CallsIn.mono h.2 (fun e w'' he=>by cases e <;> exact he)⟩
    | exact ⟨h.1,RoundIn.mono h.2 (fun e w'' he=>by cases e <;> exact he)⟩
 | halt x w'=>cases x <;> simp only [Oper.uponIn] at h ⊢ <;> exact h
theorem wpIn_region_letters {X:Type} {id:Nat} {a:Act} {w:World} (Fr:X→Act) (I:(Nat→Bool)→X→World→Prop) (hm:P.follows .mixedOrders=true) (hc:rhOk .any ops=true) (hgd:(List.range ops.size).all (fun i=>(ops[i]?.map fun o=>o.guard.isNone).getD true)=true)
  (x0:X) (h0:a=Fr x0) (hI:I (fun _=>false) x0 { w with drawn:=w.drawn+1 })
  (step:∀ L x w i o (K:Act→World→Prop),(∀ x' w',I (fun j=>if j=i then true else L j) x' w'→K (Fr x') w')→ops[i]?=some o→L i=false→(∀ e ∈ o.after,Region.binds .any e=true→L e.on=true)→I L x w→ClosedL ops L →
   wpListIn F n P #[o] (Exit.then K Q) [o] (Fr x) w)
  (fin:∀ L x w,(∀ j,j<ops.size→L j=true)→I L x w→Q .normal (Fr x) w):(Code.region id ops true).wpIn F n P Q a w:=by
 have hgs:∀ (i:Nat) (o:Oper),ops[i]?=some o→o.guard=none:=fun i o hi=>by
  have hlt:i<ops.size:=by
   rcases Nat.lt_or_ge i ops.size with h' | h'
   ·exact h'
   ·rw [Array.getElem?_eq_none h'] at hi;cases hi
  have:=(List.all_eq_true.1 hgd) i (List.mem_range.2 hlt);rw [hi] at this;simpa using this
 refine wpIn_region_inv (fun listed a w=>listed.size=ops.size∧∃ x,a=Fr x∧I (fun j=>listed.getD j false) x w∧ClosedL ops (fun j=>listed.getD j false)) hm ?_ ?_ ?_
 ·have e:(fun j=>(Array.replicate ops.size false).getD j false)=fun _=>false:=by
   funext j
   rw [Array.getD_eq_getD_getElem?]
   rcases Nat.lt_or_ge j ops.size with h' | h'
   ·rw [Array.getElem?_eq_getElem (by simpa using h')];simp
   ·rw [Array.getElem?_eq_none (by simpa using h')];simp
  refine ⟨by simp,x0,h0,?_,?_⟩
  ·rw [e];exact hI
  ·rw [e];exact fun i o _ h=>by cases h
 ·rintro listed a w i o ⟨hs,x,rfl,hx,hcl⟩ hi ho;obtain ⟨hun,o',ho',hall⟩:=mem_ready.1 hi;have:o'=o:=by rw [ho] at ho';exact (Option.some.inj ho').symm
  subst this;have hlt:i<listed.size:=by
   rcases Nat.lt_or_ge i listed.size with h' | h'
   ·exact h'
   ·rw [Array.getD_eq_getD_getElem?,Array.getElem?_eq_none h'] at hun;cases hun
  have hun':listed.getD i false=false:=by
   rw [Array.getD_eq_getD_getElem?,Array.getElem?_eq_getElem hlt] at hun ⊢;exact hun
  refine wpOpIn_mono ?_ (wpOpIn_of_ops ho (hgs i o' ho) (step _ x w i o' (fun a' w'=>∃ x',a'=Fr x'∧I (fun j=>if j=i then true else listed.getD j false) x' w') (fun x' w' h=>⟨x',rfl,h⟩) ho hun' hall hx hcl));rintro a' w' ⟨x',rfl,hx'⟩;have e:(fun j=>(listed.setIfInBounds i true).getD j false)=fun j=>if j=i then true else listed.getD j false:=by
   funext j
   by_cases hj:j=i
   ·subst hj;rw [if_pos rfl,Array.getD_eq_getD_getElem?,Array.getElem?_setIfInBounds_self_of_lt hlt];rfl
   ·rw [if_neg hj,getD_set_ne false (fun e=>hj e.symm)]
  refine ⟨by simp [hs],x',rfl,?_,?_⟩
  ·rw [e];exact hx'
  ·rw [e];intro j oj hj hLj e2 he hb;show (if e2.on=i then true else listed.getD e2.on false)=true
   split
   ·rfl
   ·by_cases hji:j=i
    ·subst hji;rw [ho] at hj;cases hj;exact hall e2 he hb
    ·have:listed.getD j false=true:=(by simpa [hji] using hLj);exact hcl j oj hj this e2 he hb
 ·rintro listed a w hr ⟨hs,x,rfl,hx,_⟩;exact fin _ x w (all_listed_g hc hs hr) hx
theorem wpListIn_load_mid {rest:List Oper} {op:Oper} {a:Act} {w:World} (hgd:op.guard=none) (ty:TypeId) (x:Operand) (ho:op.op=.load ty x)
  (b o:Nat) (hx:a.eval x=.pointer (some ⟨b,o,none⟩)) (cs:List Value) (d:TypeDesc) (hc:w.rangeAt b o cs)
  (hu:P.underlying ty=some d) (hd:d.isRow=true) (hi:(P.info? ty).map (·.size)=some cs.length)
  (h:wpListIn F n P ops Q rest (a.put op.dst (.agg cs.toArray)) w):wpListIn F n P ops Q (op :: rest) a w:=by
 refine wpListIn_plain hgd fun K hK=>?_;unfold Oper.wpIn;refine ⟨by simp [Oper.about,ho],?_⟩;rw [Oper.semAt_plain F _ _ (by rw [ho];intro c hc';cases hc')];unfold execOp;simp only [ho,hx,Instr.loadAt,Instr.sureAddr,Sem.run_bind,Sem.run_pure,Result.andThen_ok,run_loadVar_mid w b o ty cs d hc hu hd hi];exact hK _ _ h
theorem wpListIn_store_mid {rest:List Oper} {op:Oper} {a:Act} {w:World} (hgd:op.guard=none) (ty:TypeId) (x y:Operand) (ho:op.op=.store ty x y)
  (b o:Nat) (cells:Array Value) (hx:a.eval x=.pointer (some ⟨b,o,none⟩)) (hy:a.eval y=.agg cells)
  (ht:w.there b o cells.size) (hi:(P.info? ty).map (·.size)=some cells.size) (h1:cells.all (·.oneCell')=true)
  (h:wpListIn F n P ops Q rest (a.put op.dst undef) (w.setCells b o cells.toList)):wpListIn F n P ops Q (op :: rest) a w:=by
 refine wpListIn_plain hgd fun K hK=>?_;unfold Oper.wpIn;refine ⟨by simp [Oper.about,ho],?_⟩;rw [Oper.semAt_plain F _ _ (by rw [ho];intro c hc';cases hc')];unfold execOp;simp only [ho,hx,hy,Instr.storeAt,Instr.sureAddr,Sem.run_bind,Sem.run_pure,Result.andThen_ok,run_storeVar_mid w b o ty cells ht hi h1];exact hK _ _ h
end
end Go.Proofs.YtnbagcclckekkaaGreatDoor

