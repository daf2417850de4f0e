/-
  Several texts in one: Rf, Ri, Rg, Ti, Mb0, Rh, Rk, Mf1, Dt8.
-/
import Derived.Test.YteliaeejooekbaaGreatDoorBase
import Derived.Orders
import Derived.Test.YteliaeejooekbaaGreatDoorMg12
import Derived.Deep.RegionHeld3
import Derived.Test.YteliaeejooekbaaGreatDoorMg11
import Derived.Deep.MidRow
import Derived.Test.YteliaeejooekbaaGreatDoorMg10
set_option maxRecDepth 8000
set_option maxHeartbeats 8000000
namespace Go.Proofs.YteliaeejooekbaaGreatDoor
open Go.RowKit
section
variable {P:Program} {ops:Array Oper} {Q:Exit->Act->World->Prop} {md:Region.Mode}
def rfOk (md:Region.Mode) (ops:Array Oper):Bool:=
 (List.range ops.size).all fun i =>
  match ops[i]? with
  | none=>true
  | some o=>o.guard.isNone && (o.after.all fun e=>!Region.binds md e || decide (e.on<i)) &&
    o.op.operands.all fun x=>match x with
     | .tmp d=>(List.range ops.size).all fun j=>!((ops[j]?).bind (·.dst) == some d) || o.after.any fun e=>Region.binds md e && e.on == j
     | _=>true
theorem zIS (h:rfOk md ops=true) {i:Nat} {o:Oper} (hi:ops[i]?=some o) :
  o.guard=none/\(∀ e ∈ o.after,Region.binds md e=true->e.on<i) /\
  ∀ d,.tmp d ∈ o.op.operands->∀ j oj,ops[j]?=some oj->oj.dst=some d->∃ e ∈ o.after,Region.binds md e=true/\e.on=j:=by
 have hlt:i<ops.size:=by
  rcases Nat.lt_or_ge i ops.size with h' | h'
  ·exact h'
  ·rw [Array.getElem?_eq_none h'] at hi;cases hi
 have h1:=(List.all_eq_true.1 h) i (List.mem_range.2 hlt);rw [hi] at h1;simp only [Bool.and_eq_true] at h1;obtain ⟨⟨hg,ha⟩,hx⟩:=h1;refine ⟨by cases hgo:o.guard <;> simp_all,fun e he hb=>?_,fun d hd j oj hj hdj=>?_⟩
 ·have:=(Array.all_eq_true_iff_forall_mem.1 ha) e he;simpa [hb] using this
 ·have h2:=(Array.all_eq_true_iff_forall_mem.1 hx) _ hd;have hjlt:j<ops.size:=by
   rcases Nat.lt_or_ge j ops.size with h' | h'
   ·exact h'
   ·rw [Array.getElem?_eq_none h'] at hj;cases hj
  have h3:=(List.all_eq_true.1 h2) j (List.mem_range.2 hjlt);rw [hj] at h3;simp only [Option.bind_some,hdj,beq_self_eq_true,Bool.not_true,Bool.false_or] at h3;obtain ⟨e,he,hee⟩:∃ e ∈ o.after,(Region.binds md e && e.on == j)=true:=by
   rw [Array.any_eq_true'] at h3;exact h3
  simp only [Bool.and_eq_true,beq_iff_eq] at hee;exact ⟨e,he,hee.1,hee.2⟩
structure RS (ops:Array Oper) (md:Region.Mode) (A:Act) (listed:Array Bool) (a:Act):Prop where
 size:listed.size=ops.size
 defers:a.defers=A.defers
 tsize:a.tmps.size=A.tmps.size
 vals:∀ d,(∀ i o,ops[i]?=some o->o.dst=some d->listed.getD i false=true)->a.tmps[d]?=A.tmps[d]?
 closed:∀ i o,ops[i]?=some o->listed.getD i false=true->∀ e ∈ o.after,Region.binds md e=true->listed.getD e.on false=true
theorem zMR (hc:rfOk md ops=true) {listed:Array Bool} (hsz:listed.size=ops.size) (hr:Region.ready md ops listed=[]):∀ i,i<ops.size->listed.getD i false=true:=by
 intro i
 induction i using Nat.strongRecOn with
 | ind i ih =>
  intro hi;cases hl:listed.getD i false with
  | true=>rfl
  | false =>
   exfalso;have hlt:i<listed.size:=by omega
   have h1:listed.getD i true=false:=by
    rw [Array.getD_eq_getD_getElem?,Array.getElem?_eq_getElem hlt] at hl ⊢;exact hl
   have ho:ops[i]?=some ops[i]:=Array.getElem?_eq_getElem hi;obtain ⟨_,hlow,_⟩:=zIS hc ho;have:i ∈ Region.ready md ops listed:=mem_ready.2 ⟨h1,_,ho,fun e he hb=>ih e.on (hlow e he hb) (Nat.lt_trans (hlow e he hb) hi)⟩;rw [hr] at this;cases this
theorem count_set {listed:Array Bool} {i:Nat} (h:listed.getD i true=false):(listed.setIfInBounds i true).toList.count false+1=listed.toList.count false:=by
 have hlt:i<listed.size:=by
  rcases Nat.lt_or_ge i listed.size with h' | h'
  ·exact h'
  ·rw [Array.getD_eq_getD_getElem?,Array.getElem?_eq_none h'] at h;cases h
 have hv:listed[i]=false:=by
  rw [Array.getD_eq_getD_getElem?,Array.getElem?_eq_getElem hlt] at h;exact h
 rw [Array.toList_setIfInBounds,List.count_set (by simpa using hlt)];have hv':listed.toList[i]'(by simpa using hlt)=false:=by simpa using hv
 have hpos:0<listed.toList.count false:=List.count_pos_iff.2 (by rw [<- hv'];exact List.getElem_mem _);simp only [hv',beq_self_eq_true,if_true];rw [if_neg (by decide)];omega
section
variable {ρ:Operand->Value} {o:Oper} {w w':World} {v:Value}
end
end
section
variable {P:Program} {ops:Array Oper} {Q:Exit->Act->World->Prop} {md:Region.Mode}
theorem zMU (J:Array Bool->Act->World->Prop)
  (step:∀ listed a w i o,J listed a w->i ∈ Region.ready md ops listed->ops[i]?=some o->wpOp P ops Q i (fun a' w'=>J (listed.setIfInBounds i true) a' w') a w)
  (fin:∀ listed a w,Region.ready md ops listed=[]->J listed a w->Q .normal a w) :
  ∀ (fuel:Nat) (listed:Array Bool) (a:Act) (w:World),listed.toList.count false<=fuel->J listed a w->wpAny P md ops Q fuel listed a w:=by
 intro fuel
 induction fuel with
 | zero =>
  intro listed a w hf hJ;have hr:Region.ready md ops listed=[]:=by
   cases hr:Region.ready md ops listed with
   | nil=>rfl
   | cons x xs =>
    have:=count_set (mem_ready.1 (hr ▸ List.mem_cons_self:x ∈ Region.ready md ops listed)).1;omega
  exact ⟨hr,fin listed a w hr hJ⟩
 | succ fuel ih =>
  intro listed a w hf hJ;refine ⟨fun hr=>fin listed a w hr hJ,fun i hi=>?_⟩;obtain ⟨hun,o,ho,_⟩:=mem_ready.1 hi;refine wpOp_mono (fun a' w' hh=>ih _ a' w' ?_ hh) (step listed a w i o hJ hi ho);have:=count_set hun;omega
theorem zF1 {id:Nat} {a:Act} {w:World} (J:Array Bool->Act->World->Prop) (hm:P.follows .mixedOrders=true)
  (hJ:J (Array.replicate ops.size false) a { w with drawn:=w.drawn+1 })
  (step:∀ listed a w i o,J listed a w->i ∈ Region.ready .any ops listed->ops[i]?=some o->wpOp P ops Q i (fun a' w'=>J (listed.setIfInBounds i true) a' w') a w)
  (fin:∀ listed a w,Region.ready .any ops listed=[]->J listed a w->Q .normal a w):(Code.region id ops true).wp P Q a w:=
 wp_region_any hm (zMU J step fin ops.size _ a _ (by simp) hJ)
end
section
variable {P:Program} {ops:Array Oper} {Q:Exit->Act->World->Prop}
theorem zJS {i:Nat} {o:Oper} {K:Act->World->Prop} {a:Act} {w:World} (ho:ops[i]?=some o) (hg:o.guard=none)
  (h:wpList P #[o] (Exit.then K Q) [o] a w):wpOp P ops Q i K a w:=by
 unfold wpOp;simp only [ho,Region.wanted,hg,if_true];simp only [wpList,Region.wanted,hg,if_true] at h
 rcases h with h | ⟨h1,h2⟩
 ·left;unfold Oper.wp at *;generalize (execOp a.eval o).run P w=r at *;cases r with
  | ok n w' =>
   cases n
   case enter f args =>
    refine Calls.mono h fun e w'' he=>?_;cases e <;> exact he
   all_goals exact h
  | halt x w'=>cases x <;> exact h
 ·exact .inr ⟨h1,h2⟩
theorem zFH {X:Type} {id:Nat} {a:Act} {w:World} (F:X->Act) (I:(Nat->Bool)->X->World->Prop) (hm:P.follows .mixedOrders=true) (hc:rfOk .any ops=true)
  (x0:X) (h0:a=F x0) (hI:I (fun _=>false) x0 { w with drawn:=w.drawn+1 })
  (step:∀ L x w i o (K:Act->World->Prop),(∀ x' w',I (fun j=>if j=i then true else L j) x' w'->K (F x') w')->ops[i]?=some o->L i=false->(∀ e ∈ o.after,Region.binds .any e=true->L e.on=true)->I L x w ->
   wpList P #[o] (Exit.then K Q) [o] (F x) w)
  (fin:∀ L x w,(∀ j,j<ops.size->L j=true)->I L x w->Q .normal (F x) w):(Code.region id ops true).wp P Q a w:=by
 refine zF1 (fun listed a w=>listed.size=ops.size/\∃ x,a=F x/\I (fun j=>listed.getD j false) x w) hm ?_ ?_ ?_
 ·refine ⟨by simp,x0,h0,?_⟩;have e:(fun j=>(Array.replicate ops.size false).getD j false)=fun _=>false:=by
   funext j
   rw [Array.getD_eq_getD_getElem?]
   rcases Nat.lt_or_ge j ops.size with h' | h'
   ·rw [Array.getElem?_eq_getElem (by simpa using h')];simp
   ·rw [Array.getElem?_eq_none (by simpa using h')];simp
  rw [e];exact hI
 ·rintro listed a w i o ⟨hs,x,rfl,hx⟩ hi ho;obtain ⟨hun,o',ho',hall⟩:=mem_ready.1 hi;have:o'=o:=by rw [ho] at ho';exact (Option.some.inj ho').symm
  subst this;obtain ⟨hg,_,_⟩:=zIS hc ho;have hlt:i<listed.size:=by
   rcases Nat.lt_or_ge i listed.size with h' | h'
   ·exact h'
   ·rw [Array.getD_eq_getD_getElem?,Array.getElem?_eq_none h'] at hun;cases hun
  have hun':listed.getD i false=false:=by
   rw [Array.getD_eq_getD_getElem?,Array.getElem?_eq_getElem hlt] at hun ⊢;exact hun
  refine wpOp_mono ?_ (zJS ho hg (step _ x w i o' (fun a' w'=>∃ x',a'=F x'/\I (fun j=>if j=i then true else listed.getD j false) x' w') (fun x' w' h=>⟨x',rfl,h⟩) ho hun' hall hx));rintro a' w' ⟨x',rfl,hx'⟩;refine ⟨by simp [hs],x',rfl,?_⟩;have e:(fun j=>(listed.setIfInBounds i true).getD j false)=fun j=>if j=i then true else listed.getD j false:=by
   funext j
   by_cases hj:j=i
   ·subst hj;rw [if_pos rfl,Array.getD_eq_getD_getElem?,Array.getElem?_setIfInBounds_self_of_lt hlt];rfl
   ·rw [if_neg hj,getD_set_ne false (fun e=>hj e.symm)]
  rw [e];exact hx'
 ·rintro listed a w hr ⟨hs,x,rfl,hx⟩;exact fin _ x w (zMR hc hs hr) hx
end
theorem Vec.made2T (w:World) (v0 v1:Value) (t:TypeId):Vec (w.alloc (.cells #[v0,v1] t)) w.heap.size [v0,v1]:=by
 obtain ⟨⟨a0,a1⟩,f0,f1⟩:=Box2.made w v0 v1 t;intro i v hi
 match i,hi with
 | 0,hi=>cases hi;exact ⟨a0,f0⟩
 | 1,hi=>cases hi;exact ⟨a1,f1⟩
theorem Vec.box2 {w:World} {b:Nat} {v0 v1:Value} (h:Vec w b [v0,v1]):Box2 w b v0 v1:=⟨⟨(h 0 _ rfl).1,(h 1 _ rfl).1⟩,(h 0 _ rfl).2,(h 1 _ rfl).2⟩
def set2 (w:World) (b:Nat) (u0 u1:Value):World:=(w.setCell ⟨b,0,none⟩ u0).setCell ⟨b,1,none⟩ u1
theorem Vec.put2 {w:World} {b:Nat} {v0 v1:Value} (h:Vec w b [v0,v1]) (u0 u1:Value):Vec (set2 w b u0 u1) b [u0,u1]:=(h.put 0 (by simp) u0).put 1 (by simp) u1
theorem Vec.far2 {w:World} {b k:Nat} {l:List Value} (h:Vec w b l) (hk:k ≠ b) (u0 u1:Value):Vec (set2 w k u0 u1) b l:=(h.far (p:=⟨k,0,none⟩) hk u0).far (p:=⟨k,1,none⟩) hk u1
theorem Ext.set2 {a w:World} {b:Nat} (h:Ext a w) (hb:a.heap.size<=b) (u0 u1:Value):Ext a (set2 w b u0 u1):=xset (p:=⟨b,1,none⟩) (xset (p:=⟨b,0,none⟩) h hb u0) hb u1
theorem zQA (a b n p q:Int) (w:World) (h1:IntKind.i64.wrap (a+n)=p) (h2:IntKind.i64.wrap (b+n)=q) :
  Calls Tryz.prog 89 #[spV a b,iQ n] w fun e w'=>e=.returned (spV p q)/\Ext w w':=by
 go_enter Tryz.func89,Tryz.ntmps89
 go_wp2
 exact bodyPost_ret (v:=spV p q) (by simp [results,Tryz.results89,go_sem]) rfl ⟨rfl,xa (x1 _ _) _⟩
def Bv (made stored:Bool) (v:Value) (u0 u1:Int) (w3 w:World):Prop:=
 made=true->∃ b,v=.pointer (some ⟨b,0,none⟩)/\w3.heap.size<=b/\(stored=true->Vec w b [iQ u0,iQ u1])/\(stored=false->Vec w b [iQ 0,iQ 0])
theorem Bv.l {made stored:Bool} {v:Value} {u0 u1:Int} {w3 w w':World} (h:Bv made stored v u0 u1 w3 w) (hx:Ext w w'):Bv made stored v u0 u1 w3 w':=fun hm=>by
 obtain ⟨b,h1,h2,h3,h4⟩:=h hm;exact ⟨b,h1,h2,fun h=>(h3 h).l hx,fun h=>(h4 h).l hx⟩
theorem Bv.far {made stored:Bool} {v:Value} {u0 u1:Int} {w3 w:World} {k:Nat} (h:Bv made stored v u0 u1 w3 w) (hne:made=true->v ≠ .pointer (some ⟨k,0,none⟩)) (c0 c1:Value):Bv made stored v u0 u1 w3 (set2 w k c0 c1):=fun hm=>by
 obtain ⟨b,h1,h2,h3,h4⟩:=h hm;have hb:k ≠ b:=fun e=>hne hm (by rw [h1,e]);exact ⟨b,h1,h2,fun h=>(h3 h).far2 hb _ _,fun h=>(h4 h).far2 hb _ _⟩
theorem Bv.lt {made stored:Bool} {v:Value} {u0 u1:Int} {w3 w:World} (h:Bv made stored v u0 u1 w3 w) (hm:made=true) {b:Nat} (hv:v=.pointer (some ⟨b,0,none⟩)):b<w.heap.size:=by
 obtain ⟨b',h1,h2,h3,h4⟩:=h hm;rw [hv] at h1;cases h1;cases stored
 ·exact World.block_lt_of_cell? _ _ (h4 rfl).box2.1.1
 ·exact World.block_lt_of_cell? _ _ (h3 rfl).box2.1.1
def L6I (V1 V2 V3 V4:Value) (F:Int) (s0 s1 g0 g1:Int) (w3:World) (L:Nat->Bool) (x:Nat->Value) (w:World):Prop:=
 Ext w3 w/\(L 0=true->x 39=V1)/\(L 1=true->x 40=V2)/\(L 2=true->x 41=spV s0 s1)/\(L 3=true->x 42=V1)/\(L 4=true->x 43=V3)/\(L 5=true->x 44=V4)/\(L 6=true->x 45=iQ F)/\(L 7=true->x 46=spV g0 g1) /\
 Bv (L 8) (L 10) (x 9) s0 s1 w3 w/\Bv (L 9) (L 11) (x 10) g0 g1 w3 w/\(L 8=true->L 9=true->x 9 ≠ x 10)/\(L 10=true->L 8=true/\L 9=true)/\(L 11=true->L 8=true/\L 9=true)
theorem L6I.l {V1 V2 V3 V4:Value} {F:Int} {s0 s1 g0 g1:Int} {w3:World} {L:Nat->Bool} {x:Nat->Value} {w w':World} (h:L6I V1 V2 V3 V4 F s0 s1 g0 g1 w3 L x w) (hx:Ext w w'):L6I V1 V2 V3 V4 F s0 s1 g0 g1 w3 L x w':=by
 obtain ⟨X,f0,f1,f2,f3,f4,f5,f6,f7,f8,f9,f10,f11,f12⟩:=h;exact ⟨xt X hx,f0,f1,f2,f3,f4,f5,f6,f7,f8.l hx,f9.l hx,f10,f11,f12⟩
theorem L6I.start {V1 V2 V3 V4:Value} {F:Int} {s0 s1 g0 g1:Int} {w3:World} {x:Nat->Value}:L6I V1 V2 V3 V4 F s0 s1 g0 g1 w3 (fun _=>false) x { w3 with drawn:=w3.drawn+1 }:=by
 refine ⟨xd (xr _),?_,?_,?_,?_,?_,?_,?_,?_,?_,?_,?_,?_,?_⟩
 all_goals (intro h;cases h)
theorem leftI (k a m:Int) (d:Bool) (A B l:Int) (w:World) (hl:limT k=l) (hk:k=1\/k=2) (hm:1<=m/\m<=100) (ha:1<=a/\a<=l) (hd:d=true->a+m - 1<=l) (hA:1<=A) (hAB:A<=B) (hB:B<=l) :
  Calls Tryz.prog 77 #[tuV k a m d,spV A B] w fun e w'=>e=.returned (spV (lfF l a m d A B) (lfT l a m d A B))/\Ext w w':=by
 have hl0:l<=1000:=by obtain ⟨x,e,h⟩:=zI3 k;rw [hl] at e;omega
 have LA:∀ w,Calls Tryz.prog 55 #[iQ k] w fun e w'=>e=.returned (iQ l)/\w'=w:=fun w=>by
  have e:l=(if k=1 then 1000 else if k=2 then 200 else 0):=by
   rw [<- hl];unfold limT
   rcases hk with rfl | rfl <;> simp
  rw [e];exact zW3 k w
 have wa:IntKind.i64.wrap (a - 1)=a - 1:=by rw [IntKind.wrap_i64];omega
 have wl:IntKind.i64.wrap (l - m)=l - m:=by rw [IntKind.wrap_i64];omega
 have wm:IntKind.i64.wrap (a+m)=a+m:=by rw [IntKind.wrap_i64];omega
 have wn:IntKind.i64.wrap (-m) = -m:=by rw [IntKind.wrap_i64];omega
 obtain ⟨bf,hbf⟩:=nm (bF a m d);obtain ⟨bt,hbt⟩:=nm (bT l m d);obtain ⟨fr,hfr⟩:=nm (fa m d);have X:=x1 w (.cells #[iQ k,iQ a,iQ m,.bool d] 24);have B2:=Vec.made4 w (iQ k) (iQ a) (iQ m) (.bool d) 24;obtain ⟨wa',ha'⟩:=nm (w.alloc (.cells #[iQ k,iQ a,iQ m,.bool d] 24));rw [ha'] at B2 X;have sa:wa'.heap.size=w.heap.size+1:=by rw [<- ha',World.size_alloc]
 have B3:=Vec.made2T wa' (iQ A) (iQ B) 109;have x3:=x1 wa' (.cells #[iQ A,iQ B] 109);obtain ⟨wb,hb⟩:=nm (wa'.alloc (.cells #[iQ A,iQ B] 109));rw [hb] at B3 x3;have sb:wb.heap.size=w.heap.size+1+1:=by rw [<- hb,World.size_alloc,sa]
 have B4:=Vec.made2T wb (iQ 0) (iQ 0) 109;have x4:=x1 wb (.cells #[iQ 0,iQ 0] 109);rw [sa] at B3;go_enter Tryz.func77,Tryz.ntmps77;go_upto_region 1 with fail
 (try rw [ha'])
 (try rw [hb])
 obtain ⟨w0,hw0⟩:=nm (wb.alloc (.cells #[iQ 0,iQ 0] 109));have s0:w0.heap.size=w.heap.size+1+1+1:=by rw [<- hw0,World.size_alloc,sb]
 rw [hw0] at B4 x4 ⊢;rw [sb] at B4;replace B2:=(B2.l x3).l x4;replace B3:=B3.l x4;replace X:=xt (xt X x3) x4;clear ha' hb hw0 sa sb x3 x4;obtain ⟨⟨a0,a1,a2,a3⟩,_⟩:=B2.box4;go_wp2_with fail;refine (LA _).mono ?_;rintro e w1 ⟨rfl,h1⟩;rw [h1];clear h1 LA;go_upto_region 3 with fail;clear a0 a1 a2 a3;have B6:=Vec.made2T w0 (iQ 1) (iQ (a - 1)) 109;have x6:=x1 w0 (.cells #[iQ 1,iQ (a - 1)] 109);obtain ⟨w2,hw2⟩:=nm (w0.alloc (.cells #[iQ 1,iQ (a - 1)] 109));have s2:w2.heap.size=w.heap.size+1+1+1+1:=by rw [<- hw2,World.size_alloc,s0]
 rw [hw2] at B6 x6 ⊢;rw [s0] at B6
 (try rw [s0])
 replace B2:=B2.l x6;replace B3:=B3.l x6;replace B4:=B4.l x6;replace X:=xt X x6;clear hw2 s0 x6;go_cut [7,8] (fun u v wc=>∃ b7,u=.pointer (some ⟨b7,0,none⟩)/\v=iQ m/\w.heap.size+1+1+1+1<=b7/\Vec wc b7 [iQ a,iQ (l - m)]/\Ext w2 wc)
 case first =>
  obtain ⟨⟨a0,a1,a2,a3⟩,_⟩:=B2.box4;go_region_held3 (fun w'=>w'.cell? ⟨w.heap.size,0,none⟩=some (iQ k)/\w'.cell? ⟨w.heap.size,1,none⟩=some (iQ a)/\w'.cell? ⟨w.heap.size,2,none⟩=some (iQ m)/\w'.cell? ⟨w.heap.size,3,none⟩=some (.bool d)) (go_keep) (fail)
  all_goals go_wp2_with fail
  all_goals go_meet
  all_goals exact ⟨_,rfl,rfl,Nat.le_refl _,(s2 ▸ Vec.made2T w2 _ _ _).l (xd (xr _)),xd (x1 _ _)⟩
 case rest =>
  obtain ⟨b7,rfl,rfl,g7,B7,e3⟩:=hcut
  rename World=>w3
  replace B2:=B2.l e3;replace B3:=B3.l e3;replace B4:=B4.l e3;replace B6:=B6.l e3;replace X:=xt X e3;have s3:=e3.size;clear e3;obtain ⟨⟨a0,a1,a2,a3⟩,_⟩:=B2.box4;go_upto_if 28 with fail;clear a0 a1 a2 a3;go_cut [8] (fun v wc=>v=iQ fr/\Vec wc b7 [iQ bf,iQ bt]/\Vec wc (w.heap.size+1) [iQ A,iQ B]/\Vec wc (w.heap.size+1+1) [iQ 0,iQ 0]/\Vec wc (w.heap.size+1+1+1) [iQ 1,iQ (a - 1)]/\Ext w wc/\w2.heap.size<=wc.heap.size)
  case first =>
   cases d
   ·go_wp2_with fail;go_meet
    case rel=>exact ⟨by rw [<- hfr];rfl,by rw [<- hbf,<- hbt];exact B7,B3,B4,B6,X,s3⟩
   ·obtain ⟨⟨a0,a1,a2,a3⟩,_⟩:=B2.box4;obtain ⟨⟨c0,c1⟩,c2,c3⟩:=B7.box2;have n7:b7 ≠ w.heap.size:=(by omega);have n7':w.heap.size ≠ b7:=(by omega);go_upto_region 5 with fail;go_region_held3 (fun w'=>w'.cell? ⟨w.heap.size,0,none⟩=some (iQ k)/\w'.cell? ⟨w.heap.size,1,none⟩=some (iQ a)/\w'.cell? ⟨w.heap.size,2,none⟩=some (iQ m)/\w'.cell? ⟨w.heap.size,3,none⟩=some (.bool true)) (go_keep) (fail)
    all_goals go_wp2_with fail
    all_goals go_meet
    all_goals exact ⟨by rw [<- hfr];rfl,by rw [<- hbf,<- hbt];exact (B7.put2 _ _).l (xd (xr _)),(B3.far2 (by omega) _ _).l (xd (xr _)),(B4.far2 (by omega) _ _).l (xd (xr _)),(B6.far2 (by omega) _ _).l (xd (xr _)),xd (Ext.set2 X (by omega) _ _),by simpa using s3⟩
  case rest =>
   obtain ⟨rfl,C7,C3,C4,C6,CX,s4⟩:=hcut
   rename World=>w4
   clear B2 B3 B4 B6 B7 X wa wl wm wn s3;have GB:=zRB a m d A;have GT:=zP2 l m d B;obtain ⟨s0,hs0⟩:=nm (hi A 1);obtain ⟨s1,hs1⟩:=nm (lo B (a - 1));obtain ⟨g0,hg0⟩:=nm (gF a m d A);obtain ⟨g1,hg1⟩:=nm (gT l m d B);have hF:Hid (lfF l a m d A B=(if s1<s0 then g0 else if g1<g0 then s0 else lo s0 g0)):=by unfold Hid lfF;rw [hs0,hs1,hg0,hg1]
   have hT:Hid (lfT l a m d A B=(if s1<s0 then g1 else if g1<g0 then s1 else hi s1 g1)):=by unfold Hid lfT;rw [hs0,hs1,hg0,hg1]
   have hg0':hi A bf+fr=g0:=by rw [<- hg0,<- hbf,<- hfr];rfl
   have hg1':lo B bt+fr=g1:=by rw [<- hg1,<- hbt,<- hfr];rfl
   have wg0:IntKind.i64.wrap (hi A bf+fr)=g0:=by rw [hg0',IntKind.wrap_i64];rw [hg0] at GB;cases d <;> simp at GB hd <;> omega
   have wg1:IntKind.i64.wrap (lo B bt+fr)=g1:=by rw [hg1',IntKind.wrap_i64];rw [hg1] at GT;cases d <;> simp at GT hd <;> omega
   have CM1:Hid (∀ w,Calls Tryz.prog 93 #[spV A B,spV 1 (a - 1)] w fun e w'=>e=.returned (spV s0 s1)/\Ext w w'):=fun w=>by rw [<- hs0,<- hs1];exact zHF A B 1 (a - 1) w
   have CM2:Hid (∀ w,Calls Tryz.prog 93 #[spV A B,spV bf bt] w fun e w'=>e=.returned (spV (hi A bf) (lo B bt))/\Ext w w'):=fun w=>zHF A B bf bt w;have SH:Hid (∀ w,Calls Tryz.prog 89 #[spV (hi A bf) (lo B bt),iQ fr] w fun e w'=>e=.returned (spV g0 g1)/\Ext w w'):=fun w=>zQA _ _ _ _ _ w wg0 wg1;clear GB GT hg0 hg1 hs0 hs1 hg0' hg1' wg0 wg1 hbf hbt hfr;obtain ⟨h2,hh2⟩:=nm (hi A bf);obtain ⟨l2,hl2⟩:=nm (lo B bt);rw [hh2,hl2] at CM2 SH;clear hh2 hl2;go_upto_region 6 with fail;go_cut [9,10] (fun v x wc=>∃ b9 b10,v=.pointer (some ⟨b9,0,none⟩)/\x=.pointer (some ⟨b10,0,none⟩)/\Vec wc b9 [iQ s0,iQ s1]/\Vec wc b10 [iQ g0,iQ g1]/\Ext w4 wc)
   case first =>
    refine zFH (fun x:Nat->Value=>{ tmps:=#[tuV k a m d,spV A B,Value.pointer (some ⟨w.heap.size,0,none⟩),Value.pointer (some ⟨w.heap.size+1,0,none⟩),Value.pointer (some ⟨w.heap.size+1+1,0,none⟩),Value.int .i64 l,Value.pointer (some ⟨w.heap.size+1+1+1,0,none⟩),Value.pointer (some ⟨b7,0,none⟩),Value.int .i64 fr,x 9,x 10,u11,u12,u13,u14,u15,u16,u17,u18,u19,u20,u21,u22,u23,u24,u25,u26,u27,u28,u29,u30,u31,u32,u33,u34,u35,u36,u37,u38,x 39,x 40,x 41,x 42,x 43,x 44,x 45,x 46,undef,u48,u49,u50,undef,u52,u53,u54,u55,u56,u57],defers:=[] }) (L6I (spV A B) (spV 1 (a - 1)) (spV bf bt) (spV h2 l2) fr s0 s1 g0 g1 w4) rfl (by kernel_rfl) (fun n=>if n=9 then undef else if n=10 then undef else if n=39 then u39 else if n=40 then u40 else if n=41 then u41 else if n=42 then u42 else if n=43 then u43 else if n=44 then u44 else if n=45 then u45 else if n=46 then u46 else undef) rfl L6I.start ?_ ?_
    ·intro L x wl i o K hK ho hL haf hI;obtain ⟨X,f0,f1,f2,f3,f4,f5,f6,f7,f8,f9,f10,f11,f12⟩:=id hI;have C3':=C3.l X;have C6':=C6.l X;have C7':=C7.l X
     match i,ho,hL,haf,hK with
     | 0,ho,hL,haf,hK =>
      cases ho;dsimp only;obtain ⟨⟨p0,p1⟩,_⟩:=C3'.box2;have hN:=hI;obtain ⟨Y0,g0',g1',g2',g3',g4',g5',g6',g7',g8',g9',g10',g11',g12'⟩:=hN;go_wp2_with fail;exact hK (fun n=>if n=39 then (spV A B) else x n) _ ⟨Y0,(fun _=>rfl),g1',g2',g3',g4',g5',g6',g7',g8',g9',g10',g11',g12'⟩
     | 1,ho,hL,haf,hK =>
      cases ho;dsimp only;obtain ⟨⟨p0,p1⟩,_⟩:=C6'.box2;have hN:=hI;obtain ⟨Y0,g0',g1',g2',g3',g4',g5',g6',g7',g8',g9',g10',g11',g12'⟩:=hN;go_wp2_with fail;exact hK (fun n=>if n=40 then (spV 1 (a - 1)) else x n) _ ⟨Y0,g0',(fun _=>rfl),g2',g3',g4',g5',g6',g7',g8',g9',g10',g11',g12'⟩
     | 2,ho,hL,haf,hK =>
      cases ho;dsimp only;rw [f0 (haf ⟨0,.data⟩ (by simp) rfl),f1 (haf ⟨1,.data⟩ (by simp) rfl)];go_wp2_with fail;refine (CM1.out _).mono ?_;rintro rr w' ⟨rfl,E⟩;have hN:=hI.l E;clear hI;obtain ⟨Y0,g0',g1',g2',g3',g4',g5',g6',g7',g8',g9',g10',g11',g12'⟩:=hN;go_wp2_with fail;exact hK (fun n=>if n=41 then (spV s0 s1) else if n=39 then (spV A B) else if n=40 then (spV 1 (a - 1)) else x n) _ ⟨Y0,(fun _=>rfl),(fun _=>rfl),(fun _=>rfl),g3',g4',g5',g6',g7',g8',g9',g10',g11',g12'⟩
     | 3,ho,hL,haf,hK =>
      cases ho;dsimp only;obtain ⟨⟨p0,p1⟩,_⟩:=C3'.box2;have hN:=hI;obtain ⟨Y0,g0',g1',g2',g3',g4',g5',g6',g7',g8',g9',g10',g11',g12'⟩:=hN;go_wp2_with fail;exact hK (fun n=>if n=42 then (spV A B) else x n) _ ⟨Y0,g0',g1',g2',(fun _=>rfl),g4',g5',g6',g7',g8',g9',g10',g11',g12'⟩
     | 4,ho,hL,haf,hK =>
      cases ho;dsimp only;obtain ⟨⟨p0,p1⟩,_⟩:=C7'.box2;have hN:=hI;obtain ⟨Y0,g0',g1',g2',g3',g4',g5',g6',g7',g8',g9',g10',g11',g12'⟩:=hN;go_wp2_with fail;exact hK (fun n=>if n=43 then (spV bf bt) else x n) _ ⟨Y0,g0',g1',g2',g3',(fun _=>rfl),g5',g6',g7',g8',g9',g10',g11',g12'⟩
     | 5,ho,hL,haf,hK =>
      cases ho;dsimp only;rw [f3 (haf ⟨3,.data⟩ (by simp) rfl),f4 (haf ⟨4,.data⟩ (by simp) rfl)];go_wp2_with fail;refine (CM2.out _).mono ?_;rintro rr w' ⟨rfl,E⟩;have hN:=hI.l E;clear hI;obtain ⟨Y0,g0',g1',g2',g3',g4',g5',g6',g7',g8',g9',g10',g11',g12'⟩:=hN;go_wp2_with fail;exact hK (fun n=>if n=44 then (spV h2 l2) else if n=42 then (spV A B) else if n=43 then (spV bf bt) else x n) _ ⟨Y0,g0',g1',g2',(fun _=>rfl),(fun _=>rfl),(fun _=>rfl),g6',g7',g8',g9',g10',g11',g12'⟩
     | 6,ho,hL,haf,hK =>
      cases ho;dsimp only;have hN:=hI;obtain ⟨Y0,g0',g1',g2',g3',g4',g5',g6',g7',g8',g9',g10',g11',g12'⟩:=hN;go_wp2_with fail;exact hK (fun n=>if n=45 then (iQ fr) else x n) _ ⟨Y0,g0',g1',g2',g3',g4',g5',(fun _=>rfl),g7',g8',g9',g10',g11',g12'⟩
     | 7,ho,hL,haf,hK =>
      cases ho;dsimp only;rw [f5 (haf ⟨5,.data⟩ (by simp) rfl),f6 (haf ⟨6,.data⟩ (by simp) rfl)];go_wp2_with fail;refine (SH.out _).mono ?_;rintro rr w' ⟨rfl,E⟩;have hN:=hI.l E;clear hI;obtain ⟨Y0,g0',g1',g2',g3',g4',g5',g6',g7',g8',g9',g10',g11',g12'⟩:=hN;go_wp2_with fail;exact hK (fun n=>if n=46 then (spV g0 g1) else if n=44 then (spV h2 l2) else if n=45 then (iQ fr) else x n) _ ⟨Y0,g0',g1',g2',g3',g4',(fun _=>rfl),(fun _=>rfl),(fun _=>rfl),g8',g9',g10',g11',g12'⟩
     | 8,ho,hL,haf,hK =>
      cases ho;dsimp only;have hst:L 10=true->False:=fun h=>(by have:=(f11 h).1;rw [hL] at this;cases this);have hne:L 9=true->Value.pointer (some ⟨wl.heap.size,0,none⟩) ≠ x 10:=fun h e=>absurd (Bv.lt f9 h e.symm) (Nat.lt_irrefl _);have hN:=hI.l (x1 wl (.cells #[iQ 0,iQ 0] 109));obtain ⟨Y0,g0',g1',g2',g3',g4',g5',g6',g7',g8',g9',g10',g11',g12'⟩:=hN;go_wp2_with fail;exact hK (fun n=>if n=9 then Value.pointer (some ⟨wl.heap.size,0,none⟩) else x n) _ ⟨Y0,g0',g1',g2',g3',g4',g5',g6',g7',(fun _=>⟨wl.heap.size,rfl,X.size,fun h=>(hst h).elim,fun _=>Vec.made2T wl _ _ _⟩),g9',(fun h h' e=>hne h' e),(fun h=>⟨rfl,(g11' h).2⟩),(fun h=>⟨rfl,(g12' h).2⟩)⟩
     | 9,ho,hL,haf,hK =>
      cases ho;dsimp only;have hst:L 11=true->False:=fun h=>(by have:=(f12 h).2;rw [hL] at this;cases this);have hne:L 8=true->Value.pointer (some ⟨wl.heap.size,0,none⟩) ≠ x 9:=fun h e=>absurd (Bv.lt f8 h e.symm) (Nat.lt_irrefl _);have hN:=hI.l (x1 wl (.cells #[iQ 0,iQ 0] 109));obtain ⟨Y0,g0',g1',g2',g3',g4',g5',g6',g7',g8',g9',g10',g11',g12'⟩:=hN;go_wp2_with fail;exact hK (fun n=>if n=10 then Value.pointer (some ⟨wl.heap.size,0,none⟩) else x n) _ ⟨Y0,g0',g1',g2',g3',g4',g5',g6',g7',g8',(fun _=>⟨wl.heap.size,rfl,X.size,fun h=>(hst h).elim,fun _=>Vec.made2T wl _ _ _⟩),(fun h h' e=>hne h e.symm),(fun h=>⟨(g11' h).1,rfl⟩),(fun h=>⟨(g12' h).1,rfl⟩)⟩
     | 10,ho,hL,haf,hK =>
      cases ho;dsimp only;have h8:L 8=true:=haf ⟨8,.data⟩ (by simp) rfl;have h9:L 9=true:=haf ⟨9,.phase⟩ (by simp) rfl;obtain ⟨b,eb',hb,_,hz⟩:=f8 h8;have hbx:=hz hL;have hne:=f10 h8 h9;rw [eb'] at hne;rw [eb',f2 (haf ⟨2,.data⟩ (by simp) rfl)];obtain ⟨⟨c0,c1⟩,c2,c3⟩:=hbx.box2;have hX:=Ext.set2 X hb (iQ s0) (iQ s1);have hB:=hbx.put2 (iQ s0) (iQ s1);have hF':=f9.far (k:=b) (fun _ e=>hne e.symm) (iQ s0) (iQ s1);go_wp2_with fail;exact hK (fun n=>if n=9 then .pointer (some ⟨b,0,none⟩) else if n=41 then (spV s0 s1) else x n) _ ⟨hX,f0,f1,fun _=>rfl,f3,f4,f5,f6,f7,fun _=>⟨b,rfl,hb,fun _=>hB,fun h=>by cases h⟩,hF',fun _ _=>hne,fun _=>⟨h8,h9⟩,f12⟩
     | 11,ho,hL,haf,hK =>
      cases ho;dsimp only;have h8:L 8=true:=haf ⟨8,.phase⟩ (by simp) rfl;have h9:L 9=true:=haf ⟨9,.data⟩ (by simp) rfl;obtain ⟨b,eb',hb,_,hz⟩:=f9 h9;have hbx:=hz hL;have hne:=f10 h8 h9;rw [eb'] at hne;rw [eb',f7 (haf ⟨7,.data⟩ (by simp) rfl)];obtain ⟨⟨c0,c1⟩,c2,c3⟩:=hbx.box2;have hX:=Ext.set2 X hb (iQ g0) (iQ g1);have hB:=hbx.put2 (iQ g0) (iQ g1);have hF':=f8.far (k:=b) (fun _ e=>hne e) (iQ g0) (iQ g1);go_wp2_with fail;exact hK (fun n=>if n=10 then .pointer (some ⟨b,0,none⟩) else if n=46 then (spV g0 g1) else x n) _ ⟨hX,f0,f1,f2,f3,f4,f5,f6,fun _=>rfl,hF',fun _=>⟨b,rfl,hb,fun _=>hB,fun h=>by cases h⟩,fun _ _=>hne,f11,fun _=>⟨h8,h9⟩⟩
     | k+12,ho,_,_,_=>simp at ho
    ·intro L x wl hall hI;obtain ⟨X,f0,f1,f2,f3,f4,f5,f6,f7,f8,f9,f10,f11,f12⟩:=hI;obtain ⟨b,eb',hb,hz,_⟩:=f8 (hall 8 (by simp));obtain ⟨c,ec',hc,hy,_⟩:=f9 (hall 9 (by simp));have h10:=hz (hall 10 (by simp));have h11:=hy (hall 11 (by simp));dsimp only;clear f0 f1 f2 f3 f4 f5 f6 f7 f8 f9 f10 f11 f12 hz hy;go_wp2_with fail;go_meet
     case rel=>exact ⟨b,c,eb',ec',h10,h11,X⟩
   case rest =>
    obtain ⟨b9,b10,rfl,rfl,D9,D10,e5⟩:=hcut
    rename World=>w5
    replace C4:=C4.l e5;replace CX:=xt CX e5;clear C3 C6 C7 CM1 CM2 SH e5;obtain ⟨R,hR⟩:=nm (spV (lfF l a m d A B) (lfT l a m d A B));have R1:Hid (s1<s0->spV g0 g1=R):=fun h=>(by rw [<- hR,hF.out,hT.out,if_pos h,if_pos h]);have R2:Hid (¬ s1<s0->g1<g0->spV s0 s1=R):=fun h h'=>(by rw [<- hR,hF.out,hT.out,if_neg h,if_neg h,if_pos h',if_pos h']);have R3:Hid (¬ s1<s0->¬ g1<g0->spV (lo s0 g0) (hi s1 g1)=R):=fun h h'=>(by rw [<- hR,hF.out,hT.out,if_neg h,if_neg h,if_neg h',if_neg h']);have HR:Hid _:=hR;clear hR hF hT;obtain ⟨⟨p0,p1⟩,_⟩:=D9.box2;go_wp2_with fail;refine (zGH s0 s1 _).mono ?_;rintro rr w6 ⟨rfl,e6⟩;clear p0 p1;replace D9:=D9.l e6;replace D10:=D10.l e6;replace C4:=C4.l e6;replace CX:=xt CX e6;clear e6;obtain ⟨⟨p0,p1⟩,_⟩:=D9.box2;obtain ⟨⟨q0,q1⟩,_⟩:=D10.box2;obtain ⟨⟨m0,m1⟩,m2,m3⟩:=C4.box2;by_cases h1:s1<s0
    ·have f1:decide (s0 > s1)=true:=decide_eq_true h1;have RR:Hid (spV g0 g1=R):=R1.out h1;rw [f1];clear R1 R2 R3 h1 f1
     go_wp2
     exact bodyPost_ret (v:=spV g0 g1) (by simp [results,Tryz.results77,go_sem,m0,m1]) rfl ⟨congrArg Ending.returned (RR.out.trans HR.out.symm),Ext.set2 CX (by omega) _ _⟩
    ·have f1:decide (s0 > s1)=false:=decide_eq_false h1;rw [f1];go_wp2_with fail;refine (zGH g0 g1 _).mono ?_;rintro rr w7 ⟨rfl,e7⟩;clear p0 p1 q0 q1 m0 m1 m2 m3;replace D9:=D9.l e7;replace D10:=D10.l e7;replace C4:=C4.l e7;replace CX:=xt CX e7;clear e7;obtain ⟨⟨p0,p1⟩,_⟩:=D9.box2;obtain ⟨⟨q0,q1⟩,_⟩:=D10.box2;obtain ⟨⟨m0,m1⟩,m2,m3⟩:=C4.box2;by_cases h2:g1<g0
     ·have f2:decide (g0 > g1)=true:=decide_eq_true h2;have RR:Hid (spV s0 s1=R):=R2.out (by first | exact h1 | omega) (by first | exact h2 | omega);rw [f2];clear R1 R2 R3 h1 h2 f1 f2
      go_wp2
      exact bodyPost_ret (v:=spV s0 s1) (by simp [results,Tryz.results77,go_sem,m0,m1]) rfl ⟨congrArg Ending.returned (RR.out.trans HR.out.symm),Ext.set2 CX (by omega) _ _⟩
     ·have f2:decide (g0 > g1)=false:=decide_eq_false h2;have RR:Hid (spV (lo s0 g0) (hi s1 g1)=R):=R3.out (by first | exact h1 | omega) (by first | exact h2 | omega);rw [f2];clear R1 R2 R3 h1 h2 f1 f2;go_wp2_with fail;refine (zM2 s0 s1 g0 g1 _).mono ?_;rintro rr w8 ⟨rfl,e8⟩;clear m0 m1 m2 m3;obtain ⟨⟨m0,m1⟩,m2,m3⟩:=(C4.l e8).box2;obtain ⟨y0,hy0⟩:=nm (lo s0 g0);obtain ⟨y1,hy1⟩:=nm (hi s1 g1);rw [hy0,hy1] at RR;rw [hy0,hy1];clear hy0 hy1
      go_wp2
      exact bodyPost_ret (v:=spV y0 y1) (by simp [results,Tryz.results77,go_sem,m0,m1]) rfl ⟨congrArg Ending.returned (RR.out.trans HR.out.symm),Ext.set2 (xt CX e8) (by omega) _ _⟩
section
variable {P:Program} {ops:Array Oper} {Q:Exit->Act->World->Prop}
def rhOk (md:Region.Mode) (ops:Array Oper):Bool:=
 (List.range ops.size).all fun i =>
  match ops[i]? with
  | none=>true
  | some o=>o.after.all fun e=>!Region.binds md e || decide (e.on<i)
theorem zNJ {md:Region.Mode} (h:rhOk md ops=true) {i:Nat} {o:Oper} (hi:ops[i]?=some o):∀ e ∈ o.after,Region.binds md e=true->e.on<i:=by
 have hlt:i<ops.size:=by
  rcases Nat.lt_or_ge i ops.size with h' | h'
  ·exact h'
  ·rw [Array.getElem?_eq_none h'] at hi;cases hi
 have:=(List.all_eq_true.1 h) i (List.mem_range.2 hlt);rw [hi] at this;intro e he hb;have h2:=(Array.all_eq_true_iff_forall_mem.1 this) e he;rw [hb] at h2;simpa using h2
theorem zHV {i:Nat} {o:Oper} {K:Act->World->Prop} {a:Act} {w:World} (ho:ops[i]?=some o)
  (h:if Region.wanted o (yielded ops a.tmps)=true then wpList P #[{ o with guard:=none }] (Exit.then K Q) [{ o with guard:=none }] a w else K (a.put o.dst undef) w):wpOp P ops Q i K a w:=by
 unfold wpOp;simp only [ho]
 split
 ·next hw =>
  rw [if_pos hw] at h;simp only [wpList,Region.wanted,if_true] at h
  rcases h with h | ⟨h1,h2⟩
  ·left;unfold Oper.wp at *;have e:execOp a.eval { o with guard:=none }=execOp a.eval o:=rfl;rw [e] at h;generalize (execOp a.eval o).run P w=r at *;cases r with
   | ok n w' =>
    cases n
    case enter f args =>
     refine Calls.mono h fun e w'' he=>?_;cases e <;> exact he
    all_goals exact h
   | halt x w'=>cases x <;> exact h
  ·exact .inr ⟨h1,h2⟩
 ·next hw =>
  rw [if_neg hw] at h;exact h
theorem zFW {md:Region.Mode} (hc:rhOk md ops=true) {listed:Array Bool} (hsz:listed.size=ops.size) (hr:Region.ready md ops listed=[]):∀ i,i<ops.size->listed.getD i false=true:=by
 intro i
 induction i using Nat.strongRecOn with
 | ind i ih =>
  intro hi;cases hl:listed.getD i false with
  | true=>rfl
  | false =>
   exfalso;have hlt:i<listed.size:=by omega
   have h1:listed.getD i true=false:=by
    rw [Array.getD_eq_getD_getElem?,Array.getElem?_eq_getElem hlt] at hl ⊢;exact hl
   have ho:ops[i]?=some ops[i]:=Array.getElem?_eq_getElem hi;have hlow:=zNJ hc ho;have:i ∈ Region.ready md ops listed:=mem_ready.2 ⟨h1,_,ho,fun e he hb=>ih e.on (hlow e he hb) (Nat.lt_trans (hlow e he hb) hi)⟩;rw [hr] at this;cases this
theorem zES {X:Type} {id:Nat} {a:Act} {w:World} (F:X->Act) (I:(Nat->Bool)->X->World->Prop) (hm:P.follows .mixedOrders=true) (hc:rhOk .any ops=true)
  (x0:X) (h0:a=F x0) (hI:I (fun _=>false) x0 { w with drawn:=w.drawn+1 })
  (step:∀ L x w i o (K:Act->World->Prop),(∀ x' w',I (fun j=>if j=i then true else L j) x' w'->K (F x') w')->ops[i]?=some o->L i=false->(∀ e ∈ o.after,Region.binds .any e=true->L e.on=true)->I L x w ->
   if Region.wanted o (yielded ops (F x).tmps)=true then wpList P #[{ o with guard:=none }] (Exit.then K Q) [{ o with guard:=none }] (F x) w else K ((F x).put o.dst undef) w)
  (fin:∀ L x w,(∀ j,j<ops.size->L j=true)->I L x w->Q .normal (F x) w):(Code.region id ops true).wp P Q a w:=by
 refine zF1 (fun listed a w=>listed.size=ops.size/\∃ x,a=F x/\I (fun j=>listed.getD j false) x w) hm ?_ ?_ ?_
 ·refine ⟨by simp,x0,h0,?_⟩;have e:(fun j=>(Array.replicate ops.size false).getD j false)=fun _=>false:=by
   funext j
   rw [Array.getD_eq_getD_getElem?]
   rcases Nat.lt_or_ge j ops.size with h' | h'
   ·rw [Array.getElem?_eq_getElem (by simpa using h')];simp
   ·rw [Array.getElem?_eq_none (by simpa using h')];simp
  rw [e];exact hI
 ·rintro listed a w i o ⟨hs,x,rfl,hx⟩ hi ho;obtain ⟨hun,o',ho',hall⟩:=mem_ready.1 hi;have:o'=o:=by rw [ho] at ho';exact (Option.some.inj ho').symm
  subst this;have hlt:i<listed.size:=by
   rcases Nat.lt_or_ge i listed.size with h' | h'
   ·exact h'
   ·rw [Array.getD_eq_getD_getElem?,Array.getElem?_eq_none h'] at hun;cases hun
  have hun':listed.getD i false=false:=by
   rw [Array.getD_eq_getD_getElem?,Array.getElem?_eq_getElem hlt] at hun ⊢;exact hun
  refine wpOp_mono ?_ (zHV ho (step _ x w i o' (fun a' w'=>∃ x',a'=F x'/\I (fun j=>if j=i then true else listed.getD j false) x' w') (fun x' w' h=>⟨x',rfl,h⟩) ho hun' hall hx));rintro a' w' ⟨x',rfl,hx'⟩;refine ⟨by simp [hs],x',rfl,?_⟩;have e:(fun j=>(listed.setIfInBounds i true).getD j false)=fun j=>if j=i then true else listed.getD j false:=by
   funext j
   by_cases hj:j=i
   ·subst hj;rw [if_pos rfl,Array.getD_eq_getD_getElem?,Array.getElem?_setIfInBounds_self_of_lt hlt];rfl
   ·rw [if_neg hj,getD_set_ne false (fun e=>hj e.symm)]
  rw [e];exact hx'
 ·rintro listed a w hr ⟨hs,x,rfl,hx⟩;exact fin _ x w (zFW hc hs hr) hx
end
section
variable {P:Program} {ops:Array Oper} {Q:Exit->Act->World->Prop}
def zDX (ops:Array Oper) (L:Nat->Bool):Prop:=∀ i o,ops[i]?=some o->L i=true->∀ e ∈ o.after,Region.binds .any e=true->L e.on=true
def zQP (ops:Array Oper):Nat->List Nat->Bool
 | _,[]=>true
 | i,j :: l=>(match ops[i]? with
  | none=>false
  | some o=>o.after.any fun e=>Region.binds .any e && e.on == j) && zQP ops j l
theorem zDX.path {L:Nat->Bool} (h:zDX ops L):∀ (l:List Nat) (i:Nat),L i=true->zQP ops i l=true->L ((i :: l).getLast (by simp))=true
 | [],_,hi,_=>hi
 | j :: l,i,hi,hp=>by
  simp only [zQP,Bool.and_eq_true] at hp;obtain ⟨h1,h2⟩:=hp;have hj:L j=true:=by
   cases ho:ops[i]? with
   | none=>rw [ho] at h1;cases h1
   | some o =>
    rw [ho] at h1;obtain ⟨e,he,hb⟩:=Array.any_eq_true'.1 h1;simp only [Bool.and_eq_true,beq_iff_eq] at hb;rw [<- hb.2];exact h i o ho hi e he hb.1
  have:=zDX.path h l j hj h2
  rwa [List.getLast_cons (by simp)]
theorem zDX.bars {L:Nat->Bool} (h:zDX ops L) {i j:Nat} (l:List Nat) (hj:L j=false) (hp:zQP ops i l=true) (e:(i :: l).getLast (by simp)=j):L i=false:=by
 cases hi:L i with
 | false=>rfl
 | true =>
  have:=h.path l i hi hp;rw [e,hj] at this;cases this
theorem zA5 {X:Type} {id:Nat} {a:Act} {w:World} (F:X->Act) (I:(Nat->Bool)->X->World->Prop) (hm:P.follows .mixedOrders=true) (hc:rhOk .any ops=true)
  (x0:X) (h0:a=F x0) (hI:I (fun _=>false) x0 { w with drawn:=w.drawn+1 })
  (step:∀ L x w i o (K:Act->World->Prop),(∀ x' w',I (fun j=>if j=i then true else L j) x' w'->K (F x') w')->ops[i]?=some o->L i=false->(∀ e ∈ o.after,Region.binds .any e=true->L e.on=true)->I L x w->zDX ops L ->
   if Region.wanted o (yielded ops (F x).tmps)=true then wpList P #[{ o with guard:=none }] (Exit.then K Q) [{ o with guard:=none }] (F x) w else K ((F x).put o.dst undef) w)
  (fin:∀ L x w,(∀ j,j<ops.size->L j=true)->I L x w->Q .normal (F x) w):(Code.region id ops true).wp P Q a w:=by
 refine zES F (fun L x w=>I L x w/\zDX ops L) hm hc x0 h0 ⟨hI,fun i o _ h=>by cases h⟩ ?_ (fun L x w h hi=>fin L x w h hi.1);intro L x w i o K hK ho hL haf hi;refine step L x w i o K (fun x' w' h=>hK x' w' ⟨h,?_⟩) ho hL haf hi.1 hi.2;intro j oj hj hLj e he hb;show (if e.on=i then true else L e.on)=true
 split
 ·rfl
 ·by_cases hji:j=i
  ·subst hji;rw [ho] at hj;cases hj;exact haf e he hb
  ·have:L j=true:=by simpa [hji] using hLj
   exact hi.2 j oj hj this e he hb
end
theorem zEH {w w':World} {g r:Nat} {L:List Value} (V:Vec w g L) (G:w.grownBy w' (some r)) (h:g ≠ r):Vec w' g L:=fun i u hu=>by
 have c:=V i u hu;have hb:w'.heap[g]?=w.heap[g]?:=G.block g (World.block_lt_of_cell? _ _ c.1) (fun e=>h (by cases e;rfl));unfold World.cell? World.frozen? at *;simp only [hb];exact c
abbrev Z10:List Value:=[iQ 0,iQ 0,.bool false,.bool false,iQ 0,iQ 0,.bool false,.bool false,iQ 0,iQ 0]
theorem Only.setCellsM {b g:Nat} {a:World} (hg:a.heap.size<=g):∀ (us:List Value) (o:Nat) (w:World),Only b a w->Only b a (w.setCells g o us)
 | [],_,_,h=>h
 | u :: us,o,_,h=>Only.setCellsM hg us (o+1) _ (h.setNew (g:=g) (i:=o) hg u)
theorem Cur.setCellsM {b base K g:Nat} (hb:b ≠ g) (hg:base<=g):∀ (us:List Value) (o:Nat) (w:World),Cur w b base K->Cur (w.setCells g o us) b base K
 | [],_,_,h=>h
 | u :: us,o,_,h=>Cur.setCellsM hb hg us (o+1) _ (h.far (g:=g) (i:=o) hb hg u)
end Go.Proofs.YteliaeejooekbaaGreatDoor

