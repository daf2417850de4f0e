/-
  Several texts in one: WideE, Rf, Ri, Rg, MuS.
-/
import Derived.Test.YtkadkfmidlhedaaGreatDoorMg0
import Derived.Deep.RegionHeld3
import Derived.Orders
import Derived.Test.YtkadkfmidlhedaaGreatDoorMg17
namespace Go.Proofs.YtkadkfmidlhedaaGreatDoor
open Go.RowKit
set_option maxHeartbeats 2000000 in
theorem raised_any {v:Value} {a:Nat} (n:Nat) (hn:n≤38) (w:World) (hv:WV v a) (hT:Tens w) (hlt:a * 10 ^ n<340282366920938463463374607431768211456) :
  Calls Tryz.prog 133 #[v,.int .i64 n] w fun e w'=>∃ v',e=.returned v'∧WV v' (a * 10 ^ n)∧Ext w w':=by
 have hv':=hv;obtain ⟨h,l,rfl,h1,h2,e1⟩:=hv;clear e1;have nt1:¬ w.heap.size+1=2:=by
  obtain ⟨_,_,_,c⟩:=hT.at (i:=0) (by omega);have:=World.block_lt_of_cell? _ _ c;dsimp only at this;omega
 (try simp at nt1)
 have hT2:=hT.later (xa (x1 w (.cells #[.int .u64 h,.int .u64 l] 118)) (.cells #[.int .u64 0,.int .u64 0] 118));by_cases h19:n≤19
 ·obtain ⟨t,et,t1,ct⟩:=hT2.at (i:=n) (by omega);obtain ⟨u,eu,u1,cu⟩:=hT2.at (i:=0) (by omega);have HU:Hid (u=1):=by rw [← eu];rfl
  have HP:Hid (a * t * u=a * 10 ^ n):=by rw [HU.out,← et,Nat.mul_one];rfl
  have H1:Hid (a * t<340282366920938463463374607431768211456):=by rw [← et];exact hlt
  have H2:Hid (a * t * u<340282366920938463463374607431768211456):=by rw [HP.out];exact hlt
  have B:=((Box2.made w (.int .u64 h) (.int .u64 l) 118).later (x1 _ (.cells #[.int .u64 0,.int .u64 0] 118)));have Br:=(Box2.made (w.alloc (.cells #[.int .u64 h,.int .u64 l] 118)) (.int .u64 0) (.int .u64 0) 118);simp only [World.size_alloc] at Br;have hm1:(if (19:Int)<(n:Int) then (19:Int) else (n:Int))=(n:Int):=if_neg (by omega);have hm2:(if (n:Int) - 19<0 then (0:Int) else (n:Int) - 19)=0:=by split <;> omega
  have i0:(0:Int)≤(n:Int):=by omega
  have i1:(n:Int)<20:=by omega
  have hm3:(if (n:Int)<19 then (0:Int) else (n:Int) - 19)=0:=by split <;> omega
  have hw:IntKind.i64.wrap ((n:Int) - 19)=(n:Int) - 19:=by rw [IntKind.wrap_i64];omega
  obtain ⟨⟨q0,q1⟩,_⟩:=B;clear et eu hT hlt hT2;go_enter Tryz.func133,Tryz.ntmps133;go_wp2_with fail;go_region_held3 (fun w'=>(w'.cell? ⟨w.heap.size,0,none⟩=some (.int .u64 h)∧w'.cell? ⟨w.heap.size,1,none⟩=some (.int .u64 l))∧w'.cell? ⟨2,n,none⟩=some (.int .u64 t)∧w'.cell? ⟨2,0,none⟩=some (.int .u64 u)) (go_keep)
   (first
    | (go_at_call_of 141 (Value.int .u64 t);refine (times_any t _ hv' t1 H1.out).mono ?_;rintro e w1 ⟨v1,rfl,hv1,e1⟩;have c1:=cell_later (xt (xd (xr _)) e1) ct;have c2:=cell_later (xt (xd (xr _)) e1) cu;have c3:=cell_later (xt (xd (xr _)) e1) q0;have c4:=cell_later (xt (xd (xr _)) e1) q1)
    | (go_at_call 141;refine (times_any u _ (by assumption) u1 H2.out).mono ?_;rintro e w2 ⟨v2,rfl,hv2,e2⟩;have d1:=cell_later e2 c1;have d2:=cell_later e2 c2;have d3:=cell_later e2 c3;have d4:=cell_later e2 c4;obtain ⟨h',l',rfl,h1',h2',h3'⟩:=hv2;have H3:Hid (h' * 18446744073709551616+l'=a * t * u):=h3';clear h3';have X2:=xt (xt (xd (xr _)) e1) e2;obtain ⟨⟨r0,r1⟩,s0,s1⟩:=Br.later X2))
  all_goals
   go_wp2
   exact bodyPost_ret (v:=.agg #[.int .u64 h',.int .u64 l']) (by simp [results,Tryz.results133,go_sem,r0,r1]) rfl
    ⟨_,rfl,⟨h',l',rfl,h1',h2',H3.out.trans HP.out⟩,xset (xset (xt (xa (x1 _ _) _) X2) (Nat.le_succ _) _) (Nat.le_succ _) _⟩
 ·obtain ⟨j,rfl⟩:∃ j,n=j+19:=⟨n - 19,by omega⟩;obtain ⟨t,et,t1,ct⟩:=hT2.at (i:=19) (by omega);obtain ⟨u,eu,u1,cu⟩:=hT2.at (i:=j) (by omega);have HP:Hid (a * t * u=a * 10 ^ (j+19)):=by rw [← et,← eu,Nat.mul_assoc,← Nat.pow_add,Nat.add_comm 19 j];rfl
  have H2:Hid (a * t * u<340282366920938463463374607431768211456):=by rw [HP.out];exact hlt
  have H1:Hid (a * t<340282366920938463463374607431768211456):=Nat.lt_of_le_of_lt (Nat.le_mul_of_pos_right _ (by rw [← eu];exact Nat.pow_pos (by decide))) H2.out;have B:=((Box2.made w (.int .u64 h) (.int .u64 l) 118).later (x1 _ (.cells #[.int .u64 0,.int .u64 0] 118)));have Br:=(Box2.made (w.alloc (.cells #[.int .u64 h,.int .u64 l] 118)) (.int .u64 0) (.int .u64 0) 118);simp only [World.size_alloc] at Br;have ej:((j+19:Nat):Int)=(j:Int)+19:=by omega
  rw [ej];have hj:0<j:=by omega
  have hm1:(if (19:Int)<(j:Int)+19 then (19:Int) else (j:Int)+19)=19:=if_pos (by omega);have hm2:(if (j:Int)<0 then (0:Int) else (j:Int))=(j:Int):=if_neg (by omega);have hm3:(if (0:Int)<(j:Int) then (19:Int) else (j:Int)+19)=19:=if_pos (by omega);have hm4:(if 0<j then (19:Int) else (j:Int)+19)=19:=if_pos hj;have i0:(0:Int)≤(j:Int):=by omega
  have i1:(j:Int)<20:=by omega
  have hw:IntKind.i64.wrap (j:Int)=(j:Int):=by rw [IntKind.wrap_i64];omega
  obtain ⟨⟨q0,q1⟩,_⟩:=B;clear et eu hT hlt hT2 ej;go_enter Tryz.func133,Tryz.ntmps133;go_wp2_with fail;go_region_held3 (fun w'=>(w'.cell? ⟨w.heap.size,0,none⟩=some (.int .u64 h)∧w'.cell? ⟨w.heap.size,1,none⟩=some (.int .u64 l))∧w'.cell? ⟨2,19,none⟩=some (.int .u64 t)∧w'.cell? ⟨2,j,none⟩=some (.int .u64 u)) (go_keep)
   (first
    | (go_at_call_of 141 (Value.int .u64 t);refine (times_any t _ hv' t1 H1.out).mono ?_;rintro e w1 ⟨v1,rfl,hv1,e1⟩;have c1:=cell_later (xt (xd (xr _)) e1) ct;have c2:=cell_later (xt (xd (xr _)) e1) cu;have c3:=cell_later (xt (xd (xr _)) e1) q0;have c4:=cell_later (xt (xd (xr _)) e1) q1)
    | (go_at_call 141;refine (times_any u _ (by assumption) u1 H2.out).mono ?_;rintro e w2 ⟨v2,rfl,hv2,e2⟩;have d1:=cell_later e2 c1;have d2:=cell_later e2 c2;have d3:=cell_later e2 c3;have d4:=cell_later e2 c4;obtain ⟨h',l',rfl,h1',h2',h3'⟩:=hv2;have H3:Hid (h' * 18446744073709551616+l'=a * t * u):=h3';clear h3';have X2:=xt (xt (xd (xr _)) e1) e2;obtain ⟨⟨r0,r1⟩,s0,s1⟩:=Br.later X2))
  all_goals
   go_wp2
   exact bodyPost_ret (v:=.agg #[.int .u64 h',.int .u64 l']) (by simp [results,Tryz.results133,go_sem,r0,r1]) rfl
    ⟨_,rfl,⟨h',l',rfl,h1',h2',H3.out.trans HP.out⟩,xset (xset (xt (xa (x1 _ _) _) X2) (Nat.le_succ _) _) (Nat.le_succ _) _⟩
section
variable {P:Program} {ops:Array Oper} {Q:Exit→Act→World→Prop} {md:Region.Mode}
def rfOk (md:Region.Mode) (ops:Array Oper):Bool:=
 (List.range ops.size).all fun i =>
  match ops[i]? with
  | none=>true
  | some o=>o.guard.isNone && (o.after.all fun e=>!Region.binds md e || decide (e.on<i)) &&
    o.op.operands.all fun x=>match x with
     | .tmp d=>(List.range ops.size).all fun j=>!((ops[j]?).bind (·.dst) == some d) || o.after.any fun e=>Region.binds md e && e.on == j
     | _=>true
theorem rfOk_spec (h:rfOk md ops=true) {i:Nat} {o:Oper} (hi:ops[i]?=some o) :
  o.guard=none∧(∀ e ∈ o.after,Region.binds md e=true→e.on<i) ∧
  ∀ d,.tmp d ∈ o.op.operands→∀ j oj,ops[j]?=some oj→oj.dst=some d→∃ e ∈ o.after,Region.binds md e=true∧e.on=j:=by
 have hlt:i<ops.size:=by
  rcases Nat.lt_or_ge i ops.size with h' | h'
  ·exact h'
  ·rw [Array.getElem?_eq_none h'] at hi;cases hi
 have h1:=(List.all_eq_true.1 h) i (List.mem_range.2 hlt);rw [hi] at h1;simp only [Bool.and_eq_true] at h1;obtain ⟨⟨hg,ha⟩,hx⟩:=h1;refine ⟨by cases hgo:o.guard <;> simp_all,fun e he hb=>?_,fun d hd j oj hj hdj=>?_⟩
 ·have:=(Array.all_eq_true_iff_forall_mem.1 ha) e he;simpa [hb] using this
 ·have h2:=(Array.all_eq_true_iff_forall_mem.1 hx) _ hd;have hjlt:j<ops.size:=by
   rcases Nat.lt_or_ge j ops.size with h' | h'
   ·exact h'
   ·rw [Array.getElem?_eq_none h'] at hj;cases hj
  have h3:=(List.all_eq_true.1 h2) j (List.mem_range.2 hjlt);rw [hj] at h3;simp only [Option.bind_some,hdj,beq_self_eq_true,Bool.not_true,Bool.false_or] at h3;obtain ⟨e,he,hee⟩:∃ e ∈ o.after,(Region.binds md e && e.on == j)=true:=by
   rw [Array.any_eq_true'] at h3;exact h3
  simp only [Bool.and_eq_true,beq_iff_eq] at hee;exact ⟨e,he,hee.1,hee.2⟩
structure RS (ops:Array Oper) (md:Region.Mode) (A:Act) (listed:Array Bool) (a:Act):Prop where
 size:listed.size=ops.size
 defers:a.defers=A.defers
 tsize:a.tmps.size=A.tmps.size
 vals:∀ d,(∀ i o,ops[i]?=some o→o.dst=some d→listed.getD i false=true)→a.tmps[d]?=A.tmps[d]?
 closed:∀ i o,ops[i]?=some o→listed.getD i false=true→∀ e ∈ o.after,Region.binds md e=true→listed.getD e.on false=true
theorem all_listed (hc:rfOk md ops=true) {listed:Array Bool} (hsz:listed.size=ops.size) (hr:Region.ready md ops listed=[]):∀ i,i<ops.size→listed.getD i false=true:=by
 intro i
 induction i using Nat.strongRecOn with
 | ind i ih =>
  intro hi;cases hl:listed.getD i false with
  | true=>rfl
  | false =>
   exfalso;have hlt:i<listed.size:=by omega
   have h1:listed.getD i true=false:=by
    rw [Array.getD_eq_getD_getElem?,Array.getElem?_eq_getElem hlt] at hl ⊢;exact hl
   have ho:ops[i]?=some ops[i]:=Array.getElem?_eq_getElem hi;obtain ⟨_,hlow,_⟩:=rfOk_spec hc ho;have:i ∈ Region.ready md ops listed:=mem_ready.2 ⟨h1,_,ho,fun e he hb=>ih e.on (hlow e he hb) (Nat.lt_trans (hlow e he hb) hi)⟩;rw [hr] at this;cases this
theorem count_set {listed:Array Bool} {i:Nat} (h:listed.getD i true=false):(listed.setIfInBounds i true).toList.count false+1=listed.toList.count false:=by
 have hlt:i<listed.size:=by
  rcases Nat.lt_or_ge i listed.size with h' | h'
  ·exact h'
  ·rw [Array.getD_eq_getD_getElem?,Array.getElem?_eq_none h'] at h;cases h
 have hv:listed[i]=false:=by
  rw [Array.getD_eq_getD_getElem?,Array.getElem?_eq_getElem hlt] at h;exact h
 rw [Array.toList_setIfInBounds,List.count_set (by simpa using hlt)];have hv':listed.toList[i]'(by simpa using hlt)=false:=by simpa using hv
 have hpos:0<listed.toList.count false:=List.count_pos_iff.2 (by rw [← hv'];exact List.getElem_mem _);simp only [hv',beq_self_eq_true,if_true];rw [if_neg (by decide)];omega
section
variable {ρ:Operand→Value} {o:Oper} {w w':World} {v:Value}
end
end
section
variable {P:Program} {ops:Array Oper} {Q:Exit→Act→World→Prop} {md:Region.Mode}
theorem wpAny_inv (J:Array Bool→Act→World→Prop)
  (step:∀ listed a w i o,J listed a w→i ∈ Region.ready md ops listed→ops[i]?=some o→wpOp P ops Q i (fun a' w'=>J (listed.setIfInBounds i true) a' w') a w)
  (fin:∀ listed a w,Region.ready md ops listed=[]→J listed a w→Q .normal a w) :
  ∀ (fuel:Nat) (listed:Array Bool) (a:Act) (w:World),listed.toList.count false≤fuel→J listed a w→wpAny P md ops Q fuel listed a w:=by
 intro fuel
 induction fuel with
 | zero =>
  intro listed a w hf hJ;have hr:Region.ready md ops listed=[]:=by
   cases hr:Region.ready md ops listed with
   | nil=>rfl
   | cons x xs =>
    have:=count_set (mem_ready.1 (hr ▸ List.mem_cons_self:x ∈ Region.ready md ops listed)).1;omega
  exact ⟨hr,fin listed a w hr hJ⟩
 | succ fuel ih =>
  intro listed a w hf hJ;refine ⟨fun hr=>fin listed a w hr hJ,fun i hi=>?_⟩;obtain ⟨hun,o,ho,_⟩:=mem_ready.1 hi;refine wpOp_mono (fun a' w' hh=>ih _ a' w' ?_ hh) (step listed a w i o hJ hi ho);have:=count_set hun;omega
theorem wp_region_inv {id:Nat} {a:Act} {w:World} (J:Array Bool→Act→World→Prop) (hm:P.follows .mixedOrders=true)
  (hJ:J (Array.replicate ops.size false) a { w with drawn:=w.drawn+1 })
  (step:∀ listed a w i o,J listed a w→i ∈ Region.ready .any ops listed→ops[i]?=some o→wpOp P ops Q i (fun a' w'=>J (listed.setIfInBounds i true) a' w') a w)
  (fin:∀ listed a w,Region.ready .any ops listed=[]→J listed a w→Q .normal a w):(Code.region id ops true).wp P Q a w:=
 wp_region_any hm (wpAny_inv J step fin ops.size _ a _ (by simp) hJ)
end
section
variable {P:Program} {ops:Array Oper} {Q:Exit→Act→World→Prop}
theorem wpOp_of_ops {i:Nat} {o:Oper} {K:Act→World→Prop} {a:Act} {w:World} (ho:ops[i]?=some o) (hg:o.guard=none)
  (h:wpList P #[o] (Exit.then K Q) [o] a w):wpOp P ops Q i K a w:=by
 unfold wpOp;simp only [ho,Region.wanted,hg,if_true];simp only [wpList,Region.wanted,hg,if_true] at h
 rcases h with h | ⟨h1,h2⟩
 ·left;unfold Oper.wp at *;generalize (execOp a.eval o).run P w=r at *;cases r with
  | ok n w' =>
   cases n
   case enter f args =>
    refine Calls.mono h fun e w'' he=>?_;cases e <;> exact he
   all_goals exact h
  | halt x w'=>cases x <;> exact h
 ·exact .inr ⟨h1,h2⟩
theorem wp_region_letters {X:Type} {id:Nat} {a:Act} {w:World} (F:X→Act) (I:(Nat→Bool)→X→World→Prop) (hm:P.follows .mixedOrders=true) (hc:rfOk .any ops=true)
  (x0:X) (h0:a=F x0) (hI:I (fun _=>false) x0 { w with drawn:=w.drawn+1 })
  (step:∀ L x w i o (K:Act→World→Prop),(∀ x' w',I (fun j=>if j=i then true else L j) x' w'→K (F x') w')→ops[i]?=some o→L i=false→(∀ e ∈ o.after,Region.binds .any e=true→L e.on=true)→I L x w →
   wpList P #[o] (Exit.then K Q) [o] (F x) w)
  (fin:∀ L x w,(∀ j,j<ops.size→L j=true)→I L x w→Q .normal (F x) w):(Code.region id ops true).wp P Q a w:=by
 refine wp_region_inv (fun listed a w=>listed.size=ops.size∧∃ x,a=F x∧I (fun j=>listed.getD j false) x w) hm ?_ ?_ ?_
 ·refine ⟨by simp,x0,h0,?_⟩;have e:(fun j=>(Array.replicate ops.size false).getD j false)=fun _=>false:=by
   funext j
   rw [Array.getD_eq_getD_getElem?]
   rcases Nat.lt_or_ge j ops.size with h' | h'
   ·rw [Array.getElem?_eq_getElem (by simpa using h')];simp
   ·rw [Array.getElem?_eq_none (by simpa using h')];simp
  rw [e];exact hI
 ·rintro listed a w i o ⟨hs,x,rfl,hx⟩ hi ho;obtain ⟨hun,o',ho',hall⟩:=mem_ready.1 hi;have:o'=o:=by rw [ho] at ho';exact (Option.some.inj ho').symm
  subst this;obtain ⟨hg,_,_⟩:=rfOk_spec hc ho;have hlt:i<listed.size:=by
   rcases Nat.lt_or_ge i listed.size with h' | h'
   ·exact h'
   ·rw [Array.getD_eq_getD_getElem?,Array.getElem?_eq_none h'] at hun;cases hun
  have hun':listed.getD i false=false:=by
   rw [Array.getD_eq_getD_getElem?,Array.getElem?_eq_getElem hlt] at hun ⊢;exact hun
  refine wpOp_mono ?_ (wpOp_of_ops ho hg (step _ x w i o' (fun a' w'=>∃ x',a'=F x'∧I (fun j=>if j=i then true else listed.getD j false) x' w') (fun x' w' h=>⟨x',rfl,h⟩) ho hun' hall hx));rintro a' w' ⟨x',rfl,hx'⟩;refine ⟨by simp [hs],x',rfl,?_⟩;have e:(fun j=>(listed.setIfInBounds i true).getD j false)=fun j=>if j=i then true else listed.getD j false:=by
   funext j
   by_cases hj:j=i
   ·subst hj;rw [if_pos rfl,Array.getD_eq_getD_getElem?,Array.getElem?_setIfInBounds_self_of_lt hlt];rfl
   ·rw [if_neg hj,getD_set_ne false (fun e=>hj e.symm)]
  rw [e];exact hx'
 ·rintro listed a w hr ⟨hs,x,rfl,hx⟩;exact fin _ x w (all_listed hc hs hr) hx
end
theorem sgn_abs (n:Bool) (d:Int):(sgn n d).natAbs=d.natAbs:=by cases n <;> simp [sgn]
theorem sgn_mul_sign {na nb:Bool} {a b:Int} (ha:0≤a) (hb:0≤b) (h:sgn na a * sgn nb b ≠ 0):decide (sgn na a * sgn nb b<0)=(na != nb):=by
 have hab:0<a * b:=by
  have h1:a ≠ 0:=fun e=>h (by subst e;cases na <;> simp [sgn]);have h2:b ≠ 0:=fun e=>h (by subst e;cases nb <;> simp [sgn]);exact Int.mul_pos (by omega) (by omega)
 cases na <;> cases nb <;> simp [sgn,Int.neg_mul,Int.mul_neg] <;> omega
set_option maxRecDepth 4000 in
set_option maxHeartbeats 2000000 in
theorem mulS (na nb:Bool) (da ea db eb:Int) (w:World) :
  Calls Tryz.prog 166 #[.agg #[.bool na,.int .i64 da,.int .i64 ea],.agg #[.bool nb,.int .i64 db,.int .i64 eb]] w fun r w'=>r=.returned (resV (mulR na da ea nb db eb))∧Ext w w':=by
 obtain ⟨R,hR⟩:∃ R,mulR na da ea nb db eb=R:=⟨_,rfl⟩;rw [hR];have X0:=xa (xa (x1 w (.cells #[.bool na,.int .i64 da,.int .i64 ea] 24)) (.cells #[.bool nb,.int .i64 db,.int .i64 eb] 24)) (.cells #[.bool false,.bool false,.int .i64 0,.int .i64 0] 79);have Ba:=(Box3.made w (.bool na) (.int .i64 da) (.int .i64 ea) 24).later (xa (x1 _ (.cells #[.bool nb,.int .i64 db,.int .i64 eb] 24)) (.cells #[.bool false,.bool false,.int .i64 0,.int .i64 0] 79));have Bb:=(Box3.made (w.alloc (.cells #[.bool na,.int .i64 da,.int .i64 ea] 24)) (.bool nb) (.int .i64 db) (.int .i64 eb) 24).later (x1 _ (.cells #[.bool false,.bool false,.int .i64 0,.int .i64 0] 79));have Br:=Box4.made ((w.alloc (.cells #[.bool na,.int .i64 da,.int .i64 ea] 24)).alloc (.cells #[.bool nb,.int .i64 db,.int .i64 eb] 24)) (.bool false) (.bool false) (.int .i64 0) (.int .i64 0) 79;simp only [World.size_alloc] at Bb Br;go_enter Tryz.func166,Tryz.ntmps166;go_wp2_with fail;cases ga:goodB na da ea
 ·have HR:Hid (R=⟨false,false,0,0⟩):=by rw [← hR];unfold mulR;rw [ga];rfl
  refine (good_is false na da ea _ ga).mono ?_;rintro r w1 ⟨rfl,x1'⟩;obtain ⟨⟨m0,m1,m2,m3⟩,n0,n1,n2,n3⟩:=Br.later x1';clear ga hR;go_wp2_with fail;exact bodyPost_ret (v:=.agg #[.bool false,.bool false,.int .i64 0,.int .i64 0]) (by simp [results,Tryz.results166,go_sem,m0,m1,m2,m3]) rfl ⟨by rw [HR.out],xset (xset (xset (xset (xt X0 x1') (by simp only;omega) _) (by simp only;omega) _) (by simp only;omega) _) (by simp only;omega) _⟩
 ·refine (good_is true na da ea _ ga).mono ?_;rintro r w1 ⟨rfl,x1'⟩;have Bb1:=Bb.later x1';have Bb1':=Bb1;obtain ⟨⟨q0,q1,q2⟩,_⟩:=Bb1';go_wp2_with fail;cases gb:goodB nb db eb
  ·have HR:Hid (R=⟨false,false,0,0⟩):=by rw [← hR];unfold mulR;rw [ga,gb];rfl
   refine (good_is false nb db eb _ gb).mono ?_;rintro r w2 ⟨rfl,x2'⟩;obtain ⟨⟨m0,m1,m2,m3⟩,n0,n1,n2,n3⟩:=(Br.later x1').later x2';clear ga gb hR q0 q1 q2;go_wp2_with fail;exact bodyPost_ret (v:=.agg #[.bool false,.bool false,.int .i64 0,.int .i64 0]) (by simp [results,Tryz.results166,go_sem,m0,m1,m2,m3]) rfl ⟨by rw [HR.out],xset (xset (xset (xset (xt (xt X0 x1') x2') (by simp only;omega) _) (by simp only;omega) _) (by simp only;omega) _) (by simp only;omega) _⟩
  ·refine (good_is true nb db eb _ gb).mono ?_;rintro r w2 ⟨rfl,x2'⟩;obtain ⟨ga0,ga1,ga2,ga3⟩:=good_bd ga;obtain ⟨gb0,gb1,gb2,gb3⟩:=good_bd gb;have HR:Hid (putR (na != nb) (da.toNat * db.toNat) (ea+eb) false=R):=by rw [← hR];unfold mulR;rw [ga,gb];rfl
   have OA:Hid (∀ w2,Calls Tryz.prog 137 #[.agg #[.bool na,.int .i64 da,.int .i64 ea]] w2 fun e w'=>∃ v',e=.returned v'∧ZV w' v' (sgn na da)∧Ext w2 w'):=fun w2=>of_any na da ea w2 (by omega) (by omega);have OB:Hid (∀ w2,Calls Tryz.prog 137 #[.agg #[.bool nb,.int .i64 db,.int .i64 eb]] w2 fun e w'=>∃ v',e=.returned v'∧ZV w' v' (sgn nb db)∧Ext w2 w'):=fun w2=>of_any nb db eb w2 (by omega) (by omega);have MU:Hid (∀ (w2:World) (va vb:Value),ZV w2 va (sgn na da)→ZV w2 vb (sgn nb db)→Calls Tryz.prog 136 #[va,vb] w2 fun e w'=>∃ v',e=.returned v'∧ZV w' v' (sgn na da * sgn nb db)∧Ext w2 w'):=fun w2 va vb h1 h2=>mul_any w2 h1 h2 2 (by decide) (by rw [sgn_abs];omega) (by rw [sgn_abs];omega);have PB:Hid (((sgn na da * sgn nb db).natAbs:Int)<1000000000 ^ 4∧(sgn na da * sgn nb db).natAbs=da.toNat * db.toNat):=by
    have e1:(sgn na da * sgn nb db).natAbs=da.toNat * db.toNat:=(by rw [Int.natAbs_mul,sgn_abs,sgn_abs];congr 1 <;> omega);refine ⟨?_,e1⟩;rw [e1];have h3:da.toNat * db.toNat≤1000000000000000 * 1000000000000000:=Nat.mul_le_mul (by omega) (by omega);have e4:(1000000000:Int) ^ 4=1000000000000000000000000000000000000:=(by decide);rw [e4];omega
   have SG:Hid (sgn na da * sgn nb db ≠ 0→decide (sgn na da * sgn nb db<0)=(na != nb)):=fun h=>sgn_mul_sign ga0 gb0 h;have PU:Hid (∀ (w2:World) (v:Value),ZV w2 v (sgn na da * sgn nb db)→Calls Tryz.prog 125 #[v,.int .i64 (ea+eb),.bool false] w2 fun r w'=>r=.returned (resV R)∧Ext w2 w'):=fun w2 v hv=>by
    rw [← HR.out];exact put_spec _ _ w2 hv 4 (by decide) PB.out.1 (by omega) (by omega) _ _ PB.out.2 SG.out
   have wE:IntKind.i64.wrap (ea+eb)=ea+eb:=by rw [IntKind.wrap_i64];omega
   have Ba2:=(Ba.later x1').later x2';have Bb2:=Bb1.later x2';have Br2:=(Br.later x1').later x2';have X2:=xt (xt X0 x1') x2';have Ba2':=Ba2;have Bb2':=Bb2;obtain ⟨⟨p0,p1,p2⟩,_⟩:=Ba2';obtain ⟨⟨p3,p4,p5⟩,_⟩:=Bb2';have nz0:w.heap.size+1+1 ≠ w.heap.size:=by omega
   have nz1:w.heap.size+1+1 ≠ w.heap.size+1:=by omega
   clear ga gb hR q0 q1 q2 Ba Bb Bb1 Br X0 x1' x2' ga0 ga1 gb0 gb1 HR PB SG;go_upto_region 3 with fail;go_region_held3 (fun w'=>(w'.cell? ⟨w.heap.size,0,none⟩=some (.bool na)∧w'.cell? ⟨w.heap.size,1,none⟩=some (.int .i64 da)∧w'.cell? ⟨w.heap.size,2,none⟩=some (.int .i64 ea))∧w'.cell? ⟨w.heap.size+1,0,none⟩=some (.bool nb)∧w'.cell? ⟨w.heap.size+1,1,none⟩=some (.int .i64 db)∧w'.cell? ⟨w.heap.size+1,2,none⟩=some (.int .i64 eb)) (go_keep) (first
    | (go_at_call_of 137 (Value.agg #[.bool na,.int .i64 da,.int .i64 ea]);refine (OA.out _).mono ?_;rintro r w3 ⟨v3,rfl,z3,e3⟩;have X3:Ext w2 w3:=xt (xd (xr _)) e3;obtain ⟨⟨a30,a31,a32⟩,_⟩:=Ba2.later X3;obtain ⟨⟨b30,b31,b32⟩,_⟩:=Bb2.later X3)
    | (go_at_call_of 137 (Value.agg #[.bool nb,.int .i64 db,.int .i64 eb]);refine (OB.out _).mono ?_;rintro r w4 ⟨v4,rfl,z4,e4⟩;have X4:Ext w2 w4:=xt X3 e4;obtain ⟨⟨a40,a41,a42⟩,_⟩:=Ba2.later X4;obtain ⟨⟨b40,b41,b42⟩,_⟩:=Bb2.later X4)
    | (go_at_call 136;refine (MU.out _ _ _ (z3.later e4) z4).mono ?_;rintro r w5 ⟨v5,rfl,z5,e5⟩;have X5:Ext w2 w5:=xt X4 e5;obtain ⟨⟨a50,a51,a52⟩,_⟩:=Ba2.later X5;obtain ⟨⟨b50,b51,b52⟩,_⟩:=Bb2.later X5)
    | (go_at_call 125;refine (PU.out _ _ z5).mono ?_;rintro r w6 ⟨rfl,e6⟩;have X6:Ext w2 w6:=xt X5 e6;obtain ⟨⟨a60,a61,a62⟩,_⟩:=Ba2.later X6;obtain ⟨⟨b60,b61,b62⟩,_⟩:=Bb2.later X6;obtain ⟨⟨m0,m1,m2,m3⟩,n0,n1,n2,n3⟩:=Br2.later X6))
   all_goals
    go_wp2_with fail;exact bodyPost_ret (v:=resV R) (by simp [results,Tryz.results166,go_sem,m0,m1,m2,m3]) rfl ⟨rfl,xset (xset (xset (xset (xt X2 X6) (by simp only;omega) _) (by simp only;omega) _) (by simp only;omega) _) (by simp only;omega) _⟩
end Go.Proofs.YtkadkfmidlhedaaGreatDoor

