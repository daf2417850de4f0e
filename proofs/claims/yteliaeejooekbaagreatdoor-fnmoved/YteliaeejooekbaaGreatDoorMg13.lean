import Derived.Test.YteliaeejooekbaaGreatDoorBase
import Derived.Orders
import Derived.Test.YteliaeejooekbaaGreatDoorMg12
import Derived.Deep.RegionHeld3
set_option maxRecDepth 8000
set_option maxHeartbeats 1000000
namespace Go.Proofs.YteliaeejooekbaaGreatDoor
open Go.RowKit
section
variable {P:Program} {ops:Array Oper} {Q:Exit->Act->World->Prop} {md:Region.Mode}
def rfOk (md:Region.Mode) (ops:Array Oper):Bool:=
 (List.range ops.size).all fun i =>
  match ops[i]? with
  | none=>true
  | some o=>o.guard.isNone && (o.after.all fun e=>!Region.binds md e || decide (e.on<i)) &&
    o.op.operands.all fun x=>match x with
     | .tmp d=>(List.range ops.size).all fun j=>!((ops[j]?).bind (·.dst) == some d) || o.after.any fun e=>Region.binds md e && e.on == j
     | _=>true
theorem zIB (h:rfOk md ops=true) {i:Nat} {o:Oper} (hi:ops[i]?=some o) :
  o.guard=none/\(∀ e ∈ o.after,Region.binds md e=true->e.on<i) /\
  ∀ d,.tmp d ∈ o.op.operands->∀ j oj,ops[j]?=some oj->oj.dst=some d->∃ e ∈ o.after,Region.binds md e=true/\e.on=j:=by
 have hlt:i<ops.size:=by
  rcases Nat.lt_or_ge i ops.size with h' | h'
  ·exact h'
  ·rw [Array.getElem?_eq_none h'] at hi;cases hi
 have h1:=(List.all_eq_true.1 h) i (List.mem_range.2 hlt);rw [hi] at h1;simp only [Bool.and_eq_true] at h1;obtain ⟨⟨hg,ha⟩,hx⟩:=h1;refine ⟨by cases hgo:o.guard <;> simp_all,fun e he hb=>?_,fun d hd j oj hj hdj=>?_⟩
 ·have:=(Array.all_eq_true_iff_forall_mem.1 ha) e he;simpa [hb] using this
 ·have h2:=(Array.all_eq_true_iff_forall_mem.1 hx) _ hd;have hjlt:j<ops.size:=by
   rcases Nat.lt_or_ge j ops.size with h' | h'
   ·exact h'
   ·rw [Array.getElem?_eq_none h'] at hj;cases hj
  have h3:=(List.all_eq_true.1 h2) j (List.mem_range.2 hjlt);rw [hj] at h3;simp only [Option.bind_some,hdj,beq_self_eq_true,Bool.not_true,Bool.false_or] at h3;obtain ⟨e,he,hee⟩:∃ e ∈ o.after,(Region.binds md e && e.on == j)=true:=by
   rw [Array.any_eq_true'] at h3;exact h3
  simp only [Bool.and_eq_true,beq_iff_eq] at hee;exact ⟨e,he,hee.1,hee.2⟩
structure RS (ops:Array Oper) (md:Region.Mode) (A:Act) (listed:Array Bool) (a:Act):Prop where
 size:listed.size=ops.size
 defers:a.defers=A.defers
 tsize:a.tmps.size=A.tmps.size
 vals:∀ d,(∀ i o,ops[i]?=some o->o.dst=some d->listed.getD i false=true)->a.tmps[d]?=A.tmps[d]?
 closed:∀ i o,ops[i]?=some o->listed.getD i false=true->∀ e ∈ o.after,Region.binds md e=true->listed.getD e.on false=true
theorem zM8 (hc:rfOk md ops=true) {listed:Array Bool} (hsz:listed.size=ops.size) (hr:Region.ready md ops listed=[]):∀ i,i<ops.size->listed.getD i false=true:=by
 intro i
 induction i using Nat.strongRecOn with
 | ind i ih =>
  intro hi;cases hl:listed.getD i false with
  | true=>rfl
  | false =>
   exfalso;have hlt:i<listed.size:=by omega
   have h1:listed.getD i true=false:=by
    rw [Array.getD_eq_getD_getElem?,Array.getElem?_eq_getElem hlt] at hl ⊢;exact hl
   have ho:ops[i]?=some ops[i]:=Array.getElem?_eq_getElem hi;obtain ⟨_,hlow,_⟩:=zIB hc ho;have:i ∈ Region.ready md ops listed:=mem_ready.2 ⟨h1,_,ho,fun e he hb=>ih e.on (hlow e he hb) (Nat.lt_trans (hlow e he hb) hi)⟩;rw [hr] at this;cases this
theorem count_set {listed:Array Bool} {i:Nat} (h:listed.getD i true=false):(listed.setIfInBounds i true).toList.count false+1=listed.toList.count false:=by
 have hlt:i<listed.size:=by
  rcases Nat.lt_or_ge i listed.size with h' | h'
  ·exact h'
  ·rw [Array.getD_eq_getD_getElem?,Array.getElem?_eq_none h'] at h;cases h
 have hv:listed[i]=false:=by
  rw [Array.getD_eq_getD_getElem?,Array.getElem?_eq_getElem hlt] at h;exact h
 rw [Array.toList_setIfInBounds,List.count_set (by simpa using hlt)];have hv':listed.toList[i]'(by simpa using hlt)=false:=by simpa using hv
 have hpos:0<listed.toList.count false:=List.count_pos_iff.2 (by rw [<- hv'];exact List.getElem_mem _);simp only [hv',beq_self_eq_true,if_true];rw [if_neg (by decide)];omega
section
variable {ρ:Operand->Value} {o:Oper} {w w':World} {v:Value}
end
end
section
variable {P:Program} {ops:Array Oper} {Q:Exit->Act->World->Prop} {md:Region.Mode}
theorem zMA (J:Array Bool->Act->World->Prop)
  (step:∀ listed a w i o,J listed a w->i ∈ Region.ready md ops listed->ops[i]?=some o->wpOp P ops Q i (fun a' w'=>J (listed.setIfInBounds i true) a' w') a w)
  (fin:∀ listed a w,Region.ready md ops listed=[]->J listed a w->Q .normal a w) :
  ∀ (fuel:Nat) (listed:Array Bool) (a:Act) (w:World),listed.toList.count false<=fuel->J listed a w->wpAny P md ops Q fuel listed a w:=by
 intro fuel
 induction fuel with
 | zero =>
  intro listed a w hf hJ;have hr:Region.ready md ops listed=[]:=by
   cases hr:Region.ready md ops listed with
   | nil=>rfl
   | cons x xs =>
    have:=count_set (mem_ready.1 (hr ▸ List.mem_cons_self:x ∈ Region.ready md ops listed)).1;omega
  exact ⟨hr,fin listed a w hr hJ⟩
 | succ fuel ih =>
  intro listed a w hf hJ;refine ⟨fun hr=>fin listed a w hr hJ,fun i hi=>?_⟩;obtain ⟨hun,o,ho,_⟩:=mem_ready.1 hi;refine wpOp_mono (fun a' w' hh=>ih _ a' w' ?_ hh) (step listed a w i o hJ hi ho);have:=count_set hun;omega
theorem zER {id:Nat} {a:Act} {w:World} (J:Array Bool->Act->World->Prop) (hm:P.follows .mixedOrders=true)
  (hJ:J (Array.replicate ops.size false) a { w with drawn:=w.drawn+1 })
  (step:∀ listed a w i o,J listed a w->i ∈ Region.ready .any ops listed->ops[i]?=some o->wpOp P ops Q i (fun a' w'=>J (listed.setIfInBounds i true) a' w') a w)
  (fin:∀ listed a w,Region.ready .any ops listed=[]->J listed a w->Q .normal a w):(Code.region id ops true).wp P Q a w:=
 wp_region_any hm (zMA J step fin ops.size _ a _ (by simp) hJ)
end
section
variable {P:Program} {ops:Array Oper} {Q:Exit->Act->World->Prop}
theorem zJB {i:Nat} {o:Oper} {K:Act->World->Prop} {a:Act} {w:World} (ho:ops[i]?=some o) (hg:o.guard=none)
  (h:wpList P #[o] (Exit.then K Q) [o] a w):wpOp P ops Q i K a w:=by
 unfold wpOp;simp only [ho,Region.wanted,hg,if_true];simp only [wpList,Region.wanted,hg,if_true] at h
 rcases h with h | ⟨h1,h2⟩
 ·left;unfold Oper.wp at *;generalize (execOp a.eval o).run P w=r at *;cases r with
  | ok n w' =>
   cases n
   case enter f args =>
    refine Calls.mono h fun e w'' he=>?_;cases e <;> exact he
   all_goals exact h
  | halt x w'=>cases x <;> exact h
 ·exact .inr ⟨h1,h2⟩
theorem zF8 {X:Type} {id:Nat} {a:Act} {w:World} (F:X->Act) (I:(Nat->Bool)->X->World->Prop) (hm:P.follows .mixedOrders=true) (hc:rfOk .any ops=true)
  (x0:X) (h0:a=F x0) (hI:I (fun _=>false) x0 { w with drawn:=w.drawn+1 })
  (step:∀ L x w i o (K:Act->World->Prop),(∀ x' w',I (fun j=>if j=i then true else L j) x' w'->K (F x') w')->ops[i]?=some o->L i=false->(∀ e ∈ o.after,Region.binds .any e=true->L e.on=true)->I L x w ->
   wpList P #[o] (Exit.then K Q) [o] (F x) w)
  (fin:∀ L x w,(∀ j,j<ops.size->L j=true)->I L x w->Q .normal (F x) w):(Code.region id ops true).wp P Q a w:=by
 refine zER (fun listed a w=>listed.size=ops.size/\∃ x,a=F x/\I (fun j=>listed.getD j false) x w) hm ?_ ?_ ?_
 ·refine ⟨by simp,x0,h0,?_⟩;have e:(fun j=>(Array.replicate ops.size false).getD j false)=fun _=>false:=by
   funext j
   rw [Array.getD_eq_getD_getElem?]
   rcases Nat.lt_or_ge j ops.size with h' | h'
   ·rw [Array.getElem?_eq_getElem (by simpa using h')];simp
   ·rw [Array.getElem?_eq_none (by simpa using h')];simp
  rw [e];exact hI
 ·rintro listed a w i o ⟨hs,x,rfl,hx⟩ hi ho;obtain ⟨hun,o',ho',hall⟩:=mem_ready.1 hi;have:o'=o:=by rw [ho] at ho';exact (Option.some.inj ho').symm
  subst this;obtain ⟨hg,_,_⟩:=zIB hc ho;have hlt:i<listed.size:=by
   rcases Nat.lt_or_ge i listed.size with h' | h'
   ·exact h'
   ·rw [Array.getD_eq_getD_getElem?,Array.getElem?_eq_none h'] at hun;cases hun
  have hun':listed.getD i false=false:=by
   rw [Array.getD_eq_getD_getElem?,Array.getElem?_eq_getElem hlt] at hun ⊢;exact hun
  refine wpOp_mono ?_ (zJB ho hg (step _ x w i o' (fun a' w'=>∃ x',a'=F x'/\I (fun j=>if j=i then true else listed.getD j false) x' w') (fun x' w' h=>⟨x',rfl,h⟩) ho hun' hall hx));rintro a' w' ⟨x',rfl,hx'⟩;refine ⟨by simp [hs],x',rfl,?_⟩;have e:(fun j=>(listed.setIfInBounds i true).getD j false)=fun j=>if j=i then true else listed.getD j false:=by
   funext j
   by_cases hj:j=i
   ·subst hj;rw [if_pos rfl,Array.getD_eq_getD_getElem?,Array.getElem?_setIfInBounds_self_of_lt hlt];rfl
   ·rw [if_neg hj,getD_set_ne false (fun e=>hj e.symm)]
  rw [e];exact hx'
 ·rintro listed a w hr ⟨hs,x,rfl,hx⟩;exact fin _ x w (zM8 hc hs hr) hx
end
theorem zKE (a b n p q:Int) (w:World) (h1:IntKind.i64.wrap (a+n)=p) (h2:IntKind.i64.wrap (b+n)=q) :
  Calls Tryz.prog 89 #[spV a b,iQ n] w fun e w'=>e=.returned (spV p q)/\Ext w w':=by
 go_enter Tryz.func89,Tryz.ntmps89
 go_wp2
 exact bodyPost_ret (v:=spV p q) (by simp [results,Tryz.results89,go_sem]) rfl ⟨rfl,xa (x1 _ _) _⟩
theorem zM6 (r c:Int) (rf cf:Bool) (r' c':Int) (rf' cf':Bool) (n1 n2:Int) (n3 n4:Bool) (n5 n6:Int) (n7 n8:Bool) (N:∀ w,Calls Tryz.prog 104 #[arV r c rf cf r' c' rf' cf'] w fun e w'=>e=.returned (arV n1 n2 n3 n4 n5 n6 n7 n8)/\Ext w w') (w:World) :
  Calls Tryz.prog 88 #[arV r c rf cf r' c' rf' cf'] w fun e w'=>e=.returned (blV n1 n5 n2 n6)/\Ext w w':=by
 have B2:=Vec.made4 (w.alloc (.cells #[iQ r,iQ c,.bool rf,.bool cf,iQ r',iQ c',.bool rf',.bool cf'] 43)) (iQ 0) (iQ 0) (iQ 0) (iQ 0) 111;have X:=xa (x1 w (.cells #[iQ r,iQ c,.bool rf,.bool cf,iQ r',iQ c',.bool rf',.bool cf'] 43)) (.cells #[iQ 0,iQ 0,iQ 0,iQ 0] 111);rw [World.size_alloc] at B2;go_enter Tryz.func88,Tryz.ntmps88;go_wp2_with fail;refine (N _).mono ?_;rintro e w1 ⟨rfl,e1⟩;have C2:=B2.l e1;have Y:=xt X e1;clear B2 X e1 N;obtain ⟨w2,h2⟩:=nm (w1.alloc (.cells #[iQ n1,iQ n2,.bool n3,.bool n4,iQ n5,iQ n6,.bool n7,.bool n8] 43));have P:=Vec.made8 w1 (iQ n1) (iQ n2) (.bool n3) (.bool n4) (iQ n5) (iQ n6) (.bool n7) (.bool n8) 43;have x2:=x1 w1 (.cells #[iQ n1,iQ n2,.bool n3,.bool n4,iQ n5,iQ n6,.bool n7,.bool n8] 43);rw [h2] at P x2;have D2:=C2.l x2;have Z:=Ext.set4 (b:=w.heap.size+1) (o:=0) (xt Y x2) (by omega) (iQ n1) (iQ n5) (iQ n2) (iQ n6);obtain ⟨⟨⟨a0,a1,a2,a3⟩,a4,a5,a6,a7⟩,_⟩:=P.box8;obtain ⟨⟨m0,m1,m2,m3⟩,f0,f1,f2,f3⟩:=D2.box4;clear P D2 C2 Y x2;go_wp2_with fail;exact bodyPost_ret (v:=blV n1 n5 n2 n6) (by simp [results,Tryz.results88,go_sem,m0,m1,m2,m3]) rfl ⟨rfl,Z⟩
theorem zGR (r c:Int) (rf cf:Bool) (r' c':Int) (rf' cf':Bool) (hg:zAV r c r' c'=false) (w:World) :
  Calls Tryz.prog 88 #[arV r c rf cf r' c' rf' cf'] w fun e w'=>e=.returned (blV 0 0 0 0)/\Ext w w':=
 zM6 r c rf cf r' c' rf' cf' 0 0 false false 0 0 false false (fun w=>zJI r c rf cf r' c' rf' cf' w hg) w
theorem zI6 (a b n:Int) (w:World) :
  Calls Tryz.prog 91 #[spV a b,iQ n] w fun e w'=>e=.returned (.bool (decide (a<=n/\n<=b)))/\Ext w w':=by
 go_enter Tryz.func91,Tryz.ntmps91
 go_wp2
 all_goals go_ret
 all_goals refine ⟨zA1 ?_,x1 _ _⟩
 all_goals rw [Bool.eq_iff_iff]
 all_goals first | (simp only [decide_eq_true_eq];omega) | (simp;omega)
theorem zM7 (a b c d r s:Int) (h k:Bool) (w:World) :
  Calls Tryz.prog 74 #[blV a b c d,refV r s h k] w fun e w'=>e=.returned (.bool (insB a b c d r s))/\Ext w w':=by
 have S1:=fun w=>zI6 a b r w;have S2:=fun w=>zI6 c d s w;have e:insB a b c d r s=(decide (a<=r/\r<=b) && decide (c<=s/\s<=d)):=by unfold insB;simp
 rw [e];clear e;obtain ⟨p,hp⟩:=nm (decide (a<=r/\r<=b));obtain ⟨q,hq⟩:=nm (decide (c<=s/\s<=d));rw [hp] at S1 ⊢;rw [hq] at S2 ⊢;clear hp hq;have B1:=Vec.made4 w (iQ a) (iQ b) (iQ c) (iQ d) 111;have X:=x1 w (.cells #[iQ a,iQ b,iQ c,iQ d] 111);obtain ⟨wa,ha⟩:=nm (w.alloc (.cells #[iQ a,iQ b,iQ c,iQ d] 111));rw [ha] at B1 X;have sa:wa.heap.size=w.heap.size+1:=by rw [<- ha,World.size_alloc]
 have B2:=Vec.made4 wa (iQ r) (iQ s) (.bool h) (.bool k) 26;have x2:=x1 wa (.cells #[iQ r,iQ s,.bool h,.bool k] 26);rw [sa] at B2;go_enter Tryz.func74,Tryz.ntmps74;go_upto_region 1 with fail
 (try rw [ha])
 obtain ⟨w0,hw0⟩:=nm (wa.alloc (.cells #[iQ r,iQ s,.bool h,.bool k] 26));rw [hw0] at B2 x2 ⊢;replace B1:=B1.l x2;replace X:=xt X x2;clear ha hw0 sa x2;obtain ⟨⟨a0,a1,a2,a3⟩,_⟩:=B1.box4;obtain ⟨⟨b0,b1,b2,b3⟩,_⟩:=B2.box4;go_wp2_with fail;refine (S1 _).mono ?_;rintro e w1 ⟨rfl,e1⟩;clear a0 a1 a2 a3 b0 b1 b2 b3;obtain ⟨⟨a0,a1,a2,a3⟩,_⟩:=(B1.l e1).box4;obtain ⟨⟨b0,b1,b2,b3⟩,_⟩:=(B2.l e1).box4;cases p
 ·go_wp2
  go_ret;exact ⟨rfl,xt X e1⟩
 ·go_wp2_with fail;refine (S2 _).mono ?_;rintro e w2 ⟨rfl,e2⟩
  go_wp2
  go_ret;exact ⟨rfl,xt (xt X e1) e2⟩
section
variable {P:Program} {ops:Array Oper} {Q:Exit->Act->World->Prop}
def rhOk (md:Region.Mode) (ops:Array Oper):Bool:=
 (List.range ops.size).all fun i =>
  match ops[i]? with
  | none=>true
  | some o=>o.after.all fun e=>!Region.binds md e || decide (e.on<i)
theorem zMV {md:Region.Mode} (h:rhOk md ops=true) {i:Nat} {o:Oper} (hi:ops[i]?=some o):∀ e ∈ o.after,Region.binds md e=true->e.on<i:=by
 have hlt:i<ops.size:=by
  rcases Nat.lt_or_ge i ops.size with h' | h'
  ·exact h'
  ·rw [Array.getElem?_eq_none h'] at hi;cases hi
 have:=(List.all_eq_true.1 h) i (List.mem_range.2 hlt);rw [hi] at this;intro e he hb;have h2:=(Array.all_eq_true_iff_forall_mem.1 this) e he;rw [hb] at h2;simpa using h2
theorem zHF {i:Nat} {o:Oper} {K:Act->World->Prop} {a:Act} {w:World} (ho:ops[i]?=some o)
  (h:if Region.wanted o (yielded ops a.tmps)=true then wpList P #[{ o with guard:=none }] (Exit.then K Q) [{ o with guard:=none }] a w else K (a.put o.dst undef) w):wpOp P ops Q i K a w:=by
 unfold wpOp;simp only [ho]
 split
 ·next hw =>
  rw [if_pos hw] at h;simp only [wpList,Region.wanted,if_true] at h
  rcases h with h | ⟨h1,h2⟩
  ·left;unfold Oper.wp at *;have e:execOp a.eval { o with guard:=none }=execOp a.eval o:=rfl;rw [e] at h;generalize (execOp a.eval o).run P w=r at *;cases r with
   | ok n w' =>
    cases n
    case enter f args =>
     refine Calls.mono h fun e w'' he=>?_;cases e <;> exact he
    all_goals exact h
   | halt x w'=>cases x <;> exact h
  ·exact .inr ⟨h1,h2⟩
 ·next hw =>
  rw [if_neg hw] at h;exact h
theorem zFN {md:Region.Mode} (hc:rhOk md ops=true) {listed:Array Bool} (hsz:listed.size=ops.size) (hr:Region.ready md ops listed=[]):∀ i,i<ops.size->listed.getD i false=true:=by
 intro i
 induction i using Nat.strongRecOn with
 | ind i ih =>
  intro hi;cases hl:listed.getD i false with
  | true=>rfl
  | false =>
   exfalso;have hlt:i<listed.size:=by omega
   have h1:listed.getD i true=false:=by
    rw [Array.getD_eq_getD_getElem?,Array.getElem?_eq_getElem hlt] at hl ⊢;exact hl
   have ho:ops[i]?=some ops[i]:=Array.getElem?_eq_getElem hi;have hlow:=zMV hc ho;have:i ∈ Region.ready md ops listed:=mem_ready.2 ⟨h1,_,ho,fun e he hb=>ih e.on (hlow e he hb) (Nat.lt_trans (hlow e he hb) hi)⟩;rw [hr] at this;cases this
theorem zEI {X:Type} {id:Nat} {a:Act} {w:World} (F:X->Act) (I:(Nat->Bool)->X->World->Prop) (hm:P.follows .mixedOrders=true) (hc:rhOk .any ops=true)
  (x0:X) (h0:a=F x0) (hI:I (fun _=>false) x0 { w with drawn:=w.drawn+1 })
  (step:∀ L x w i o (K:Act->World->Prop),(∀ x' w',I (fun j=>if j=i then true else L j) x' w'->K (F x') w')->ops[i]?=some o->L i=false->(∀ e ∈ o.after,Region.binds .any e=true->L e.on=true)->I L x w ->
   if Region.wanted o (yielded ops (F x).tmps)=true then wpList P #[{ o with guard:=none }] (Exit.then K Q) [{ o with guard:=none }] (F x) w else K ((F x).put o.dst undef) w)
  (fin:∀ L x w,(∀ j,j<ops.size->L j=true)->I L x w->Q .normal (F x) w):(Code.region id ops true).wp P Q a w:=by
 refine zER (fun listed a w=>listed.size=ops.size/\∃ x,a=F x/\I (fun j=>listed.getD j false) x w) hm ?_ ?_ ?_
 ·refine ⟨by simp,x0,h0,?_⟩;have e:(fun j=>(Array.replicate ops.size false).getD j false)=fun _=>false:=by
   funext j
   rw [Array.getD_eq_getD_getElem?]
   rcases Nat.lt_or_ge j ops.size with h' | h'
   ·rw [Array.getElem?_eq_getElem (by simpa using h')];simp
   ·rw [Array.getElem?_eq_none (by simpa using h')];simp
  rw [e];exact hI
 ·rintro listed a w i o ⟨hs,x,rfl,hx⟩ hi ho;obtain ⟨hun,o',ho',hall⟩:=mem_ready.1 hi;have:o'=o:=by rw [ho] at ho';exact (Option.some.inj ho').symm
  subst this;have hlt:i<listed.size:=by
   rcases Nat.lt_or_ge i listed.size with h' | h'
   ·exact h'
   ·rw [Array.getD_eq_getD_getElem?,Array.getElem?_eq_none h'] at hun;cases hun
  have hun':listed.getD i false=false:=by
   rw [Array.getD_eq_getD_getElem?,Array.getElem?_eq_getElem hlt] at hun ⊢;exact hun
  refine wpOp_mono ?_ (zHF ho (step _ x w i o' (fun a' w'=>∃ x',a'=F x'/\I (fun j=>if j=i then true else listed.getD j false) x' w') (fun x' w' h=>⟨x',rfl,h⟩) ho hun' hall hx));rintro a' w' ⟨x',rfl,hx'⟩;refine ⟨by simp [hs],x',rfl,?_⟩;have e:(fun j=>(listed.setIfInBounds i true).getD j false)=fun j=>if j=i then true else listed.getD j false:=by
   funext j
   by_cases hj:j=i
   ·subst hj;rw [if_pos rfl,Array.getD_eq_getD_getElem?,Array.getElem?_setIfInBounds_self_of_lt hlt];rfl
   ·rw [if_neg hj,getD_set_ne false (fun e=>hj e.symm)]
  rw [e];exact hx'
 ·rintro listed a w hr ⟨hs,x,rfl,hx⟩;exact fin _ x w (zFN hc hs hr) hx
end
section
variable {P:Program} {ops:Array Oper} {Q:Exit->Act->World->Prop}
def zDP (ops:Array Oper) (L:Nat->Bool):Prop:=∀ i o,ops[i]?=some o->L i=true->∀ e ∈ o.after,Region.binds .any e=true->L e.on=true
def zPR (ops:Array Oper):Nat->List Nat->Bool
 | _,[]=>true
 | i,j :: l=>(match ops[i]? with
  | none=>false
  | some o=>o.after.any fun e=>Region.binds .any e && e.on == j) && zPR ops j l
theorem zDP.path {L:Nat->Bool} (h:zDP ops L):∀ (l:List Nat) (i:Nat),L i=true->zPR ops i l=true->L ((i :: l).getLast (by simp))=true
 | [],_,hi,_=>hi
 | j :: l,i,hi,hp=>by
  simp only [zPR,Bool.and_eq_true] at hp;obtain ⟨h1,h2⟩:=hp;have hj:L j=true:=by
   cases ho:ops[i]? with
   | none=>rw [ho] at h1;cases h1
   | some o =>
    rw [ho] at h1;obtain ⟨e,he,hb⟩:=Array.any_eq_true'.1 h1;simp only [Bool.and_eq_true,beq_iff_eq] at hb;rw [<- hb.2];exact h i o ho hi e he hb.1
  have:=zDP.path h l j hj h2
  rwa [List.getLast_cons (by simp)]
theorem zDP.bars {L:Nat->Bool} (h:zDP ops L) {i j:Nat} (l:List Nat) (hj:L j=false) (hp:zPR ops i l=true) (e:(i :: l).getLast (by simp)=j):L i=false:=by
 cases hi:L i with
 | false=>rfl
 | true =>
  have:=h.path l i hi hp;rw [e,hj] at this;cases this
theorem zA3 {X:Type} {id:Nat} {a:Act} {w:World} (F:X->Act) (I:(Nat->Bool)->X->World->Prop) (hm:P.follows .mixedOrders=true) (hc:rhOk .any ops=true)
  (x0:X) (h0:a=F x0) (hI:I (fun _=>false) x0 { w with drawn:=w.drawn+1 })
  (step:∀ L x w i o (K:Act->World->Prop),(∀ x' w',I (fun j=>if j=i then true else L j) x' w'->K (F x') w')->ops[i]?=some o->L i=false->(∀ e ∈ o.after,Region.binds .any e=true->L e.on=true)->I L x w->zDP ops L ->
   if Region.wanted o (yielded ops (F x).tmps)=true then wpList P #[{ o with guard:=none }] (Exit.then K Q) [{ o with guard:=none }] (F x) w else K ((F x).put o.dst undef) w)
  (fin:∀ L x w,(∀ j,j<ops.size->L j=true)->I L x w->Q .normal (F x) w):(Code.region id ops true).wp P Q a w:=by
 refine zEI F (fun L x w=>I L x w/\zDP ops L) hm hc x0 h0 ⟨hI,fun i o _ h=>by cases h⟩ ?_ (fun L x w h hi=>fin L x w h hi.1);intro L x w i o K hK ho hL haf hi;refine step L x w i o K (fun x' w' h=>hK x' w' ⟨h,?_⟩) ho hL haf hi.1 hi.2;intro j oj hj hLj e he hb;show (if e.on=i then true else L e.on)=true
 split
 ·rfl
 ·by_cases hji:j=i
  ·subst hji;rw [ho] at hj;cases hj;exact haf e he hb
  ·have:L j=true:=by simpa [hji] using hLj
   exact hi.2 j oj hj this e he hb
end
end Go.Proofs.YteliaeejooekbaaGreatDoor
