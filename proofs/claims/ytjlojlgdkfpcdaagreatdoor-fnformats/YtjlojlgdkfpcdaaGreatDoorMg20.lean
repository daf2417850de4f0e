/-
  Several texts in one: Rf, Ri, Rg, DvA, PwN, Sb3.
-/
import Derived.Test.YtjlojlgdkfpcdaaGreatDoorMg0
import Derived.Orders
import Derived.Test.YtjlojlgdkfpcdaaGreatDoorMg16
import Derived.Test.YtjlojlgdkfpcdaaGreatDoorWideE
import Derived.Test.YtjlojlgdkfpcdaaGreatDoorMg9
import Derived.Test.YtjlojlgdkfpcdaaGreatDoorMg12
import Derived.Test.YtjlojlgdkfpcdaaGreatDoorMg18
import Derived.Test.YtjlojlgdkfpcdaaGreatDoorDrM
set_option maxRecDepth 8000
set_option maxHeartbeats 20000000
namespace Go.Proofs.YtjlojlgdkfpcdaaGreatDoor
open Go.RowKit
section
variable {P:Program} {ops:Array Oper} {Q:Exit->Act->World->Prop} {md:Region.Mode}
def rfOk (md:Region.Mode) (ops:Array Oper):Bool:=
 (List.range ops.size).all fun i =>
  match ops[i]? with
  | none=>true
  | some o=>o.guard.isNone && (o.after.all fun e=>!Region.binds md e || decide (e.on<i)) &&
    o.op.operands.all fun x=>match x with
     | .tmp d=>(List.range ops.size).all fun j=>!((ops[j]?).bind (·.dst) == some d) || o.after.any fun e=>Region.binds md e && e.on == j
     | _=>true
theorem zKS (h:rfOk md ops=true) {i:Nat} {o:Oper} (hi:ops[i]?=some o) :
  o.guard=none/\(∀ e ∈ o.after,Region.binds md e=true->e.on<i) /\
  ∀ d,.tmp d ∈ o.op.operands->∀ j oj,ops[j]?=some oj->oj.dst=some d->∃ e ∈ o.after,Region.binds md e=true/\e.on=j:=by
 have hlt:i<ops.size:=by
  rcases Nat.lt_or_ge i ops.size with h' | h'
  ·exact h'
  ·rw [Array.getElem?_eq_none h'] at hi;cases hi
 have h1:=(List.all_eq_true.1 h) i (List.mem_range.2 hlt);rw [hi] at h1;simp only [Bool.and_eq_true] at h1;obtain ⟨⟨hg,ha⟩,hx⟩:=h1;refine ⟨by cases hgo:o.guard <;> simp_all,fun e he hb=>?_,fun d hd j oj hj hdj=>?_⟩
 ·have:=(Array.all_eq_true_iff_forall_mem.1 ha) e he;simpa [hb] using this
 ·have h2:=(Array.all_eq_true_iff_forall_mem.1 hx) _ hd;have hjlt:j<ops.size:=by
   rcases Nat.lt_or_ge j ops.size with h' | h'
   ·exact h'
   ·rw [Array.getElem?_eq_none h'] at hj;cases hj
  have h3:=(List.all_eq_true.1 h2) j (List.mem_range.2 hjlt);rw [hj] at h3;simp only [Option.bind_some,hdj,beq_self_eq_true,Bool.not_true,Bool.false_or] at h3;obtain ⟨e,he,hee⟩:∃ e ∈ o.after,(Region.binds md e && e.on == j)=true:=by
   rw [Array.any_eq_true'] at h3;exact h3
  simp only [Bool.and_eq_true,beq_iff_eq] at hee;exact ⟨e,he,hee.1,hee.2⟩
structure RS (ops:Array Oper) (md:Region.Mode) (A:Act) (listed:Array Bool) (a:Act):Prop where
 size:listed.size=ops.size
 defers:a.defers=A.defers
 tsize:a.tmps.size=A.tmps.size
 vals:∀ d,(∀ i o,ops[i]?=some o->o.dst=some d->listed.getD i false=true)->a.tmps[d]?=A.tmps[d]?
 closed:∀ i o,ops[i]?=some o->listed.getD i false=true->∀ e ∈ o.after,Region.binds md e=true->listed.getD e.on false=true
theorem zQB (hc:rfOk md ops=true) {listed:Array Bool} (hsz:listed.size=ops.size) (hr:Region.ready md ops listed=[]):∀ i,i<ops.size->listed.getD i false=true:=by
 intro i
 induction i using Nat.strongRecOn with
 | ind i ih =>
  intro hi;cases hl:listed.getD i false with
  | true=>rfl
  | false =>
   exfalso;have hlt:i<listed.size:=by omega
   have h1:listed.getD i true=false:=by
    rw [Array.getD_eq_getD_getElem?,Array.getElem?_eq_getElem hlt] at hl ⊢;exact hl
   have ho:ops[i]?=some ops[i]:=Array.getElem?_eq_getElem hi;obtain ⟨_,hlow,_⟩:=zKS hc ho;have:i ∈ Region.ready md ops listed:=mem_ready.2 ⟨h1,_,ho,fun e he hb=>ih e.on (hlow e he hb) (Nat.lt_trans (hlow e he hb) hi)⟩;rw [hr] at this;cases this
theorem count_set {listed:Array Bool} {i:Nat} (h:listed.getD i true=false):(listed.setIfInBounds i true).toList.count false+1=listed.toList.count false:=by
 have hlt:i<listed.size:=by
  rcases Nat.lt_or_ge i listed.size with h' | h'
  ·exact h'
  ·rw [Array.getD_eq_getD_getElem?,Array.getElem?_eq_none h'] at h;cases h
 have hv:listed[i]=false:=by
  rw [Array.getD_eq_getD_getElem?,Array.getElem?_eq_getElem hlt] at h;exact h
 rw [Array.toList_setIfInBounds,List.count_set (by simpa using hlt)];have hv':listed.toList[i]'(by simpa using hlt)=false:=by simpa using hv
 have hpos:0<listed.toList.count false:=List.count_pos_iff.2 (by rw [<- hv'];exact List.getElem_mem _);simp only [hv',beq_self_eq_true,if_true];rw [if_neg (by decide)];omega
section
variable {ρ:Operand->Value} {o:Oper} {w w':World} {v:Value}
end
end
section
variable {P:Program} {ops:Array Oper} {Q:Exit->Act->World->Prop} {md:Region.Mode}
theorem zQG (J:Array Bool->Act->World->Prop)
  (step:∀ listed a w i o,J listed a w->i ∈ Region.ready md ops listed->ops[i]?=some o->wpOp P ops Q i (fun a' w'=>J (listed.setIfInBounds i true) a' w') a w)
  (fin:∀ listed a w,Region.ready md ops listed=[]->J listed a w->Q .normal a w) :
  ∀ (fuel:Nat) (listed:Array Bool) (a:Act) (w:World),listed.toList.count false<=fuel->J listed a w->wpAny P md ops Q fuel listed a w:=by
 intro fuel
 induction fuel with
 | zero =>
  intro listed a w hf hJ;have hr:Region.ready md ops listed=[]:=by
   cases hr:Region.ready md ops listed with
   | nil=>rfl
   | cons x xs =>
    have:=count_set (mem_ready.1 (hr ▸ List.mem_cons_self:x ∈ Region.ready md ops listed)).1;omega
  exact ⟨hr,fin listed a w hr hJ⟩
 | succ fuel ih =>
  intro listed a w hf hJ;refine ⟨fun hr=>fin listed a w hr hJ,fun i hi=>?_⟩;obtain ⟨hun,o,ho,_⟩:=mem_ready.1 hi;refine wpOp_mono (fun a' w' hh=>ih _ a' w' ?_ hh) (step listed a w i o hJ hi ho);have:=count_set hun;omega
theorem zFE {id:Nat} {a:Act} {w:World} (J:Array Bool->Act->World->Prop) (hm:P.follows .mixedOrders=true)
  (hJ:J (Array.replicate ops.size false) a { w with drawn:=w.drawn+1 })
  (step:∀ listed a w i o,J listed a w->i ∈ Region.ready .any ops listed->ops[i]?=some o->wpOp P ops Q i (fun a' w'=>J (listed.setIfInBounds i true) a' w') a w)
  (fin:∀ listed a w,Region.ready .any ops listed=[]->J listed a w->Q .normal a w):(Code.region id ops true).wp P Q a w:=
 wp_region_any hm (zQG J step fin ops.size _ a _ (by simp) hJ)
end
section
variable {P:Program} {ops:Array Oper} {Q:Exit->Act->World->Prop}
theorem zLS {i:Nat} {o:Oper} {K:Act->World->Prop} {a:Act} {w:World} (ho:ops[i]?=some o) (hg:o.guard=none)
  (h:wpList P #[o] (Exit.then K Q) [o] a w):wpOp P ops Q i K a w:=by
 unfold wpOp;simp only [ho,Region.wanted,hg,if_true];simp only [wpList,Region.wanted,hg,if_true] at h
 rcases h with h | ⟨h1,h2⟩
 ·left;unfold Oper.wp at *;generalize (execOp a.eval o).run P w=r at *;cases r with
  | ok n w' =>
   cases n
   case enter f args =>
    refine Calls.mono h fun e w'' he=>?_;cases e <;> exact he
   all_goals exact h
  | halt x w'=>cases x <;> exact h
 ·exact .inr ⟨h1,h2⟩
theorem zAQ {X:Type} {id:Nat} {a:Act} {w:World} (F:X->Act) (I:(Nat->Bool)->X->World->Prop) (hm:P.follows .mixedOrders=true) (hc:rfOk .any ops=true)
  (x0:X) (h0:a=F x0) (hI:I (fun _=>false) x0 { w with drawn:=w.drawn+1 })
  (step:∀ L x w i o (K:Act->World->Prop),(∀ x' w',I (fun j=>if j=i then true else L j) x' w'->K (F x') w')->ops[i]?=some o->L i=false->(∀ e ∈ o.after,Region.binds .any e=true->L e.on=true)->I L x w ->
   wpList P #[o] (Exit.then K Q) [o] (F x) w)
  (fin:∀ L x w,(∀ j,j<ops.size->L j=true)->I L x w->Q .normal (F x) w):(Code.region id ops true).wp P Q a w:=by
 refine zFE (fun listed a w=>listed.size=ops.size/\∃ x,a=F x/\I (fun j=>listed.getD j false) x w) hm ?_ ?_ ?_
 ·refine ⟨by simp,x0,h0,?_⟩;have e:(fun j=>(Array.replicate ops.size false).getD j false)=fun _=>false:=by
   funext j
   rw [Array.getD_eq_getD_getElem?]
   rcases Nat.lt_or_ge j ops.size with h' | h'
   ·rw [Array.getElem?_eq_getElem (by simpa using h')];simp
   ·rw [Array.getElem?_eq_none (by simpa using h')];simp
  rw [e];exact hI
 ·rintro listed a w i o ⟨hs,x,rfl,hx⟩ hi ho;obtain ⟨hun,o',ho',hall⟩:=mem_ready.1 hi;have:o'=o:=by rw [ho] at ho';exact (Option.some.inj ho').symm
  subst this;obtain ⟨hg,_,_⟩:=zKS hc ho;have hlt:i<listed.size:=by
   rcases Nat.lt_or_ge i listed.size with h' | h'
   ·exact h'
   ·rw [Array.getD_eq_getD_getElem?,Array.getElem?_eq_none h'] at hun;cases hun
  have hun':listed.getD i false=false:=by
   rw [Array.getD_eq_getD_getElem?,Array.getElem?_eq_getElem hlt] at hun ⊢;exact hun
  refine wpOp_mono ?_ (zLS ho hg (step _ x w i o' (fun a' w'=>∃ x',a'=F x'/\I (fun j=>if j=i then true else listed.getD j false) x' w') (fun x' w' h=>⟨x',rfl,h⟩) ho hun' hall hx));rintro a' w' ⟨x',rfl,hx'⟩;refine ⟨by simp [hs],x',rfl,?_⟩;have e:(fun j=>(listed.setIfInBounds i true).getD j false)=fun j=>if j=i then true else listed.getD j false:=by
   funext j
   by_cases hj:j=i
   ·subst hj;rw [if_pos rfl,Array.getD_eq_getD_getElem?,Array.getElem?_setIfInBounds_self_of_lt hlt];rfl
   ·rw [if_neg hj,getD_set_ne false (fun e=>hj e.symm)]
  rw [e];exact hx'
 ·rintro listed a w hr ⟨hs,x,rfl,hx⟩;exact fin _ x w (zQB hc hs hr) hx
end
def quoR (na:Bool) (A:Nat) (ea:Int) (nb:Bool) (B:Nat) (eb:Int):DR:=putR (na != nb) (A * 10 ^ 32 / B) (ea - eb - 32) (decide (A * 10 ^ 32 % B ≠ 0))
def divR (na:Bool) (da ea:Int) (nb:Bool) (db eb:Int):DR:=if (zA1 na da ea && zA1 nb db eb && !(db == 0))=true then quoR na da.toNat ea nb db.toNat eb else badR
def Bx (made stored:Bool) (v:Value) (z:Int) (w3 w:World):Prop:=
 made=true->∃ b,v=.pointer (some ⟨b,0,none⟩)/\w3.heap.size<=b/\(stored=true->ZIn w b z)/\(stored=false->Box3 w b (iQ 0) (.bool false) (.slice none 0 0))
theorem Bx.l {made stored:Bool} {v:Value} {z:Int} {w3 w w':World} (h:Bx made stored v z w3 w) (hx:Ext w w'):Bx made stored v z w3 w':=fun hm=>by
 obtain ⟨b,h1,h2,h3,h4⟩:=h hm;exact ⟨b,h1,h2,fun h=>(h3 h).l hx,fun h=>(h4 h).l hx⟩
theorem Bx.zin {made stored:Bool} {v:Value} {z:Int} {w3 w:World} (h:Bx made stored v z w3 w) (hm:made=true) {b:Nat} (hv:v=.pointer (some ⟨b,0,none⟩)):∃ y,ZIn w b y:=by
 obtain ⟨b',h1,h2,h3,h4⟩:=h hm;rw [hv] at h1;cases h1;cases stored
 ·exact ⟨0,(h4 rfl).zin⟩
 ·exact ⟨z,h3 rfl⟩
theorem Bx.far {made stored:Bool} {v:Value} {z y:Int} {w3 w:World} {k:Nat} (h:Bx made stored v z w3 w) (hk:ZIn w k y) (hne:made=true->v ≠ .pointer (some ⟨k,0,none⟩)) (c0 c1 c2:Value):Bx made stored v z w3 (set3 w k c0 c1 c2):=fun hm=>by
 obtain ⟨b,h1,h2,h3,h4⟩:=h hm;have hb:k ≠ b:=fun e=>hne hm (by rw [h1,e]);exact ⟨b,h1,h2,fun h=>(h3 h).far hk hb _ _ _,fun h=>(h4 h).far3 hb _ _ _⟩
def QR (w:World) (v:Value) (q r:Int):Prop:=∃ u v',v=.tuple #[u,v']/\ZV w u q/\ZV w v' r
theorem QR.to {w w':World} {v:Value} {q r:Int} (h:QR w v q r) (hz:∀ v z,ZV w v z->ZV w' v z):QR w' v q r:=by
 obtain ⟨a,b,h1,h2,h3⟩:=h;exact ⟨a,b,h1,hz _ _ h2,hz _ _ h3⟩
def R3I (VA VB:Value) (zA zB A B T Y Q Rm:Int) (w3:World) (L:Nat->Bool) (x:Nat->Value) (w:World):Prop:=
 Ext w3 w/\(L 0=true->x 22=VA)/\(L 1=true->ZV w (x 23) zA)/\(L 2=true->ZV w (x 24) A)/\(L 3=true->ZV w (x 25) T)/\(L 4=true->ZV w (x 26) Y)/\(L 5=true->x 27=VB)/\(L 6=true->ZV w (x 28) zB)/\(L 7=true->ZV w (x 29) B) /\
 (L 8=true->QR w (x 30) Q Rm)/\(L 9=true->QR w (x 21) Q Rm)/\(L 10=true->ZV w (x 31) Q)/\(L 11=true->ZV w (x 32) Rm)/\Bx (L 12) (L 14) (x 5) Q w3 w/\Bx (L 13) (L 15) (x 6) Rm w3 w/\(L 12=true->L 13=true->x 5 ≠ x 6)/\(L 14=true->L 12=true/\L 13=true)/\(L 15=true->L 12=true/\L 13=true)
theorem R3I.to {VA VB:Value} {zA zB A B T Y Q Rm:Int} {w3:World} {L:Nat->Bool} {x:Nat->Value} {w w':World} (h:R3I VA VB zA zB A B T Y Q Rm w3 L x w) (hx:Ext w3 w') (hz:∀ v z,ZV w v z->ZV w' v z)
  (h1:Bx (L 12) (L 14) (x 5) Q w3 w') (h2:Bx (L 13) (L 15) (x 6) Rm w3 w'):R3I VA VB zA zB A B T Y Q Rm w3 L x w':=by
 obtain ⟨_,f0,f1,f2,f3,f4,f5,f6,f7,f8,f9,f10,f11,_,_,f14,f15,f16⟩:=h;exact ⟨hx,f0,fun h=>hz _ _ (f1 h),fun h=>hz _ _ (f2 h),fun h=>hz _ _ (f3 h),fun h=>hz _ _ (f4 h),f5,fun h=>hz _ _ (f6 h),fun h=>hz _ _ (f7 h),fun h=>(f8 h).to hz,fun h=>(f9 h).to hz,fun h=>hz _ _ (f10 h),fun h=>hz _ _ (f11 h),h1,h2,f14,f15,f16⟩
theorem R3I.l {VA VB:Value} {zA zB A B T Y Q Rm:Int} {w3:World} {L:Nat->Bool} {x:Nat->Value} {w w':World} (h:R3I VA VB zA zB A B T Y Q Rm w3 L x w) (hx:Ext w w'):R3I VA VB zA zB A B T Y Q Rm w3 L x w':=
 h.to (xt h.1 hx) (fun _ _ hz=>hz.l hx) (h.2.2.2.2.2.2.2.2.2.2.2.2.2.1.l hx) (h.2.2.2.2.2.2.2.2.2.2.2.2.2.2.1.l hx)
theorem R3I.start {VA VB:Value} {zA zB A B T Y Q Rm:Int} {w3:World} {x:Nat->Value}:R3I VA VB zA zB A B T Y Q Rm w3 (fun _=>false) x { w3 with drawn:=w3.drawn+1 }:=by
 refine ⟨xd (xr _),?_,?_,?_,?_,?_,?_,?_,?_,?_,?_,?_,?_,?_,?_,?_,?_,?_⟩
 all_goals (intro h;cases h)
theorem zTK (na nb:Bool) (A B:Nat) (ea eb:Int) (w:World) (ga:zA1 na A ea=true) (gb:zA1 nb B eb=true) (hB:B ≠ 0) :
  Calls Tryz.prog 118 #[.agg #[.bool na,iQ A,iQ ea],.agg #[.bool nb,iQ B,iQ eb]] w fun r w'=>r=.returned (resV (quoR na A ea nb B eb))/\Ext w w':=by
 obtain ⟨R,hR⟩:=nm (quoR na A ea nb B eb);rw [hR];obtain ⟨ga0,ga1,ga2,ga3⟩:=zCM ga;obtain ⟨gb0,gb1,gb2,gb3⟩:=zCM gb;obtain ⟨Y,hY⟩:∃ Y:Nat,A * 10 ^ 32=Y:=⟨_,rfl⟩;have YB:Y<100000000000000000000000000000000000000000000000:=by
  rw [<- hY];have e32:(10:Nat) ^ 32=100000000000000000000000000000000:=by decide
  rw [e32];omega
 obtain ⟨Q,hQ⟩:∃ Q:Nat,Y / B=Q:=⟨_,rfl⟩;obtain ⟨Rm,hRm⟩:∃ Q:Nat,Y % B=Q:=⟨_,rfl⟩;have QY:Q<=Y:=by rw [<- hQ];exact Nat.div_le_self _ _
 have RmB:Rm<B:=by rw [<- hRm];exact Nat.mod_lt _ (by omega)
 have HR:Hid (putR (na != nb) Q (ea - eb - 32) (decide (Rm ≠ 0))=R):=by rw [<- hR];unfold quoR;rw [hY,hQ,hRm];rfl
 have e6:(1000000000:Int) ^ 6=1000000000000000000000000000000000000000000000000000000:=by decide
 have OA:Hid (∀ w2,Calls Tryz.prog 143 #[.agg #[.bool na,iQ A,iQ ea]] w2 fun e w'=>∃ v',e=.returned v'/\ZV w' v' (sgn na A)/\Ext w2 w'):=fun w2=>zHO na A ea w2 (by omega) (by omega);have OB:Hid (∀ w2,Calls Tryz.prog 143 #[.agg #[.bool nb,iQ B,iQ eb]] w2 fun e w'=>∃ v',e=.returned v'/\ZV w' v' (sgn nb B)/\Ext w2 w'):=fun w2=>zHO nb B eb w2 (by omega) (by omega);have AA:Hid (∀ (w2:World) (v:Value),ZV w2 v (sgn na A)->Calls Tryz.prog 111 #[v] w2 fun e w'=>∃ v',e=.returned v'/\ZV w' v' (A:Int)/\Ext w2 w'):=fun w2 v hv=>by
  have:=zI6 w2 hv;rw [zCV,Int.natAbs_natCast] at this;exact this
 have AB:Hid (∀ (w2:World) (v:Value),ZV w2 v (sgn nb B)->Calls Tryz.prog 111 #[v] w2 fun e w'=>∃ v',e=.returned v'/\ZV w' v' (B:Int)/\Ext w2 w'):=fun w2 v hv=>by
  have:=zI6 w2 hv;rw [zCV,Int.natAbs_natCast] at this;exact this
 have TT:Hid (∀ w2,Calls Tryz.prog 93 #[iQ 32] w2 fun e w'=>∃ v',e=.returned v'/\ZV w' v' (10 ^ 32)/\Ext w2 w'):=fun w2=>zHF 32 w2 (by decide);have MU:Hid (∀ (w2:World) (va vb:Value),ZV w2 va (A:Int)->ZV w2 vb (10 ^ 32)->Calls Tryz.prog 92 #[va,vb] w2 fun e w'=>∃ v',e=.returned v'/\ZV w' v' (Y:Int)/\Ext w2 w'):=fun w2 va vb h1 h2=>by
  have e32:(((10:Int) ^ 32).natAbs:Int)=100000000000000000000000000000000:=by decide
  have:=zED w2 h1 h2 6 (by decide) (by rw [e6];omega) (by rw [e6,e32];decide);have e:(A:Int) * 10 ^ 32=(Y:Int):=by rw [<- hY,Int.natCast_mul,Int.natCast_pow];rfl
  rw [e] at this;exact this
 have DV:Hid (∀ (w2:World) (va vb:Value),ZV w2 va (Y:Int)->ZV w2 vb (B:Int)->Calls Tryz.prog 114 #[va,vb] w2 fun e w'=>∃ q0 q1 q2 q3 q4 r0 r1 r2 r3 r4,e=.returned (.tuple #[.agg #[iQ q0,.bool q1,.slice q2 q3 q4],.agg #[iQ r0,.bool r1,.slice r2 r3 r4]])/\ZV w' (.agg #[iQ q0,.bool q1,.slice q2 q3 q4]) (Q:Int)/\ZV w' (.agg #[iQ r0,.bool r1,.slice r2 r3 r4]) (Rm:Int)/\Ext w2 w'):=fun w2 va vb h1 h2=>by
  refine (zK9 w2 h1 h2 (by omega) (by omega) 6 (by decide) (by rw [e6];omega) (by rw [e6];omega)).mono ?_;rintro e w' ⟨vq,vr,rfl,hq,hr,hx⟩;rw [<- Int.natCast_ediv,hQ] at hq;rw [<- Int.natCast_emod,hRm] at hr;obtain ⟨q0,q1,q2,q3,q4,rfl⟩:=hq.shape;obtain ⟨r0,r1,r2,r3,r4,rfl⟩:=hr.shape;exact ⟨q0,q1,q2,q3,q4,r0,r1,r2,r3,r4,rfl,hq,hr,hx⟩
 have PU:Hid (∀ (w2:World) (v:Value) (z:Int) (c:Bool),ZV w2 v z->z=sgn (na != nb) Q->c=decide (Rm ≠ 0)->Calls Tryz.prog 57 #[v,iQ (ea - eb - 32),.bool c] w2 fun r w'=>r=.returned (resV R)/\Ext w2 w'):=fun w2 v z c hv hz hc=>by
  rw [<- HR.out,hc];subst hz;refine zFL _ _ w2 hv 6 (by decide) (by rw [zCV,e6];omega) (by omega) (by omega) _ _ (by rw [zCV,Int.natAbs_natCast]) (fun h=>?_);cases hn:(na != nb) <;> rw [hn] at h <;> simp [sgn] at h ⊢ <;> omega
 have GA:Hid (∀ w2,Calls Tryz.prog 76 #[.agg #[.bool na,iQ A,iQ ea]] w2 fun e w'=>e=.returned (.bool true)/\Ext w2 w'):=fun w2=>zB5 true na A ea w2 ga;have GB:Hid (∀ w2,Calls Tryz.prog 76 #[.agg #[.bool nb,iQ B,iQ eb]] w2 fun e w'=>e=.returned (.bool true)/\Ext w2 w'):=fun w2=>zB5 true nb B eb w2 gb;have hB':((B:Int) == 0)=false:=by rw [beq_eq_false_iff_ne];omega
 have wE:IntKind.i64.wrap (ea - eb)=ea - eb:=by rw [IntKind.wrap_i64];omega
 have wF:IntKind.i64.wrap (ea - eb - 32)=ea - eb - 32:=by rw [IntKind.wrap_i64];omega
 have X0:=xa (xa (x1 w (.cells #[.bool na,iQ A,iQ ea] 31)) (.cells #[.bool nb,iQ B,iQ eb] 31)) (.cells #[.bool false,.bool false,iQ 0,iQ 0] 99);have Ba:=(Box3.made w (.bool na) (iQ A) (iQ ea) 31).l (xa (x1 _ (.cells #[.bool nb,iQ B,iQ eb] 31)) (.cells #[.bool false,.bool false,iQ 0,iQ 0] 99));have Bb:=(Box3.made (w.alloc (.cells #[.bool na,iQ A,iQ ea] 31)) (.bool nb) (iQ B) (iQ eb) 31).l (x1 _ (.cells #[.bool false,.bool false,iQ 0,iQ 0] 99));have Br:=Box4.made ((w.alloc (.cells #[.bool na,iQ A,iQ ea] 31)).alloc (.cells #[.bool nb,iQ B,iQ eb] 31)) (.bool false) (.bool false) (iQ 0) (iQ 0) 99;simp only [World.size_alloc] at Bb Br;clear ga gb ga0 ga1 gb0 gb1 hR hY YB hQ hRm QY RmB HR e6 hB;go_enter Tryz.func118,Tryz.ntmps118;go_upto_region 1 with fail;obtain ⟨w0,hw0⟩:=nm (((w.alloc (.cells #[.bool na,iQ A,iQ ea] 31)).alloc (.cells #[.bool nb,iQ B,iQ eb] 31)).alloc (.cells #[.bool false,.bool false,iQ 0,iQ 0] 99));rw [hw0] at X0 Ba Bb Br ⊢;clear hw0;go_cut [19] (fun v wc=>v=.bool false/\Ext w0 wc)
 case first =>
  obtain ⟨⟨p0,p1,p2⟩,_⟩:=Ba;go_wp2_with fail;refine (GA.out _).mono ?_;rintro rr w1 ⟨rfl,x1'⟩;obtain ⟨⟨q0,q1,q2⟩,_⟩:=Bb.l x1';go_wp2_with fail;refine (GB.out _).mono ?_;rintro rr w2 ⟨rfl,x2'⟩;obtain ⟨⟨g0,g1,g2⟩,_⟩:=(Bb.l x1').l x2';clear q0 q1 q2 p0 p1 p2;go_wp2_with fail;go_meet
  case rel=>exact ⟨rfl,xt x1' x2'⟩
 case rest =>
  obtain ⟨rfl,x1'⟩:=hcut
  rename World=>w3
  replace Ba:=Ba.l x1';replace Bb:=Bb.l x1';replace Br:=Br.l x1';replace X0:=xt X0 x1';clear x1' GA GB;go_upto_region 3 with fail;go_cut [5,6] (fun v x wc=>∃ bq br,v=.pointer (some ⟨bq,0,none⟩)/\x=.pointer (some ⟨br,0,none⟩)/\Two w3 wc bq br (Q:Int) (Rm:Int))
  case first =>
   refine zAQ (fun x:Nat->Value=>{ tmps:=#[(Value.agg #[.bool na,.int .i64 A,.int .i64 ea]),(Value.agg #[.bool nb,.int .i64 B,.int .i64 eb]),Value.pointer (some ⟨w.heap.size,0,none⟩),Value.pointer (some ⟨w.heap.size+1,0,none⟩),Value.pointer (some ⟨w.heap.size+1+1,0,none⟩),x 5,x 6,u7,u8,u9,u10,u11,u12,u13,u14,u15,u16,u17,u18,Value.bool false,u20,x 21,x 22,x 23,x 24,x 25,x 26,x 27,x 28,x 29,x 30,x 31,x 32,u33,u34,u35,u36,u37,u38,u39,u40,u41,u42,u43,u44,u45,u46,u47,u48,u49,u50],defers:=[] }) (R3I (Value.agg #[.bool na,iQ A,iQ ea]) (Value.agg #[.bool nb,iQ B,iQ eb]) (sgn na A) (sgn nb B) A B (10 ^ 32) Y Q Rm w3) rfl (by kernel_rfl) (fun n=>if n=5 then undef else if n=6 then undef else if n=21 then u21 else if n=22 then u22 else if n=23 then u23 else if n=24 then u24 else if n=25 then u25 else if n=26 then u26 else if n=27 then u27 else if n=28 then u28 else if n=29 then u29 else if n=30 then u30 else if n=31 then u31 else if n=32 then u32 else undef) rfl R3I.start ?_ ?_
   ·intro L x wl i o K hK ho hL haf hI;obtain ⟨X,f0,f1,f2,f3,f4,f5,f6,f7,f8,f9,f10,f11,f12,f13,f14,f15,f16⟩:=id hI;have Ba':=Ba.l X;have Bb':=Bb.l X;clear Ba Bb
    match i,ho,hL,haf,hK with
    | 0,ho,hL,haf,hK =>
     cases ho;dsimp only;obtain ⟨⟨p0,p1,p2⟩,_⟩:=Ba';have hN:=hI;obtain ⟨Y0,g0,g1,g2,g3,g4,g5,g6,g7,g8,g9,g10,g11,g12,g13,g14,g15,g16⟩:=hN;go_wp2_with fail;exact hK (fun n=>if n=22 then (Value.agg #[.bool na,iQ A,iQ ea]) else x n) _ ⟨Y0,(fun _=>rfl),g1,g2,g3,g4,g5,g6,g7,g8,g9,g10,g11,g12,g13,g14,g15,g16⟩
    | 1,ho,hL,haf,hK =>
     cases ho;dsimp only;rw [f0 (haf ⟨0,.data⟩ (by simp) rfl)];go_wp2_with fail;refine (OA.out _).mono ?_;rintro rr w' ⟨v',rfl,z',E⟩;have hN:=hI.l E;clear hI;obtain ⟨Y0,g0,g1,g2,g3,g4,g5,g6,g7,g8,g9,g10,g11,g12,g13,g14,g15,g16⟩:=hN;go_wp2_with fail;exact hK (fun n=>if n=23 then v' else if n=22 then (Value.agg #[.bool na,iQ A,iQ ea]) else x n) _ ⟨Y0,(fun _=>rfl),(fun _=>z'),g2,g3,g4,g5,g6,g7,g8,g9,g10,g11,g12,g13,g14,g15,g16⟩
    | 2,ho,hL,haf,hK =>
     cases ho;dsimp only;go_wp2_with fail;refine (AA.out _ _ (f1 (haf ⟨1,.data⟩ (by simp) rfl))).mono ?_;rintro rr w' ⟨v',rfl,z',E⟩;have hN:=hI.l E;clear hI;obtain ⟨Y0,g0,g1,g2,g3,g4,g5,g6,g7,g8,g9,g10,g11,g12,g13,g14,g15,g16⟩:=hN;go_wp2_with fail;exact hK (fun n=>if n=24 then v' else x n) _ ⟨Y0,g0,g1,(fun _=>z'),g3,g4,g5,g6,g7,g8,g9,g10,g11,g12,g13,g14,g15,g16⟩
    | 3,ho,hL,haf,hK =>
     cases ho;dsimp only;go_wp2_with fail;refine (TT.out _).mono ?_;rintro rr w' ⟨v',rfl,z',E⟩;have hN:=hI.l E;clear hI;obtain ⟨Y0,g0,g1,g2,g3,g4,g5,g6,g7,g8,g9,g10,g11,g12,g13,g14,g15,g16⟩:=hN;go_wp2_with fail;exact hK (fun n=>if n=25 then v' else x n) _ ⟨Y0,g0,g1,g2,(fun _=>z'),g4,g5,g6,g7,g8,g9,g10,g11,g12,g13,g14,g15,g16⟩
    | 4,ho,hL,haf,hK =>
     cases ho;dsimp only;go_wp2_with fail;refine (MU.out _ _ _ (f2 (haf ⟨2,.data⟩ (by simp) rfl)) (f3 (haf ⟨3,.data⟩ (by simp) rfl))).mono ?_;rintro rr w' ⟨v',rfl,z',E⟩;have hN:=hI.l E;clear hI;obtain ⟨Y0,g0,g1,g2,g3,g4,g5,g6,g7,g8,g9,g10,g11,g12,g13,g14,g15,g16⟩:=hN;go_wp2_with fail;exact hK (fun n=>if n=26 then v' else x n) _ ⟨Y0,g0,g1,g2,g3,(fun _=>z'),g5,g6,g7,g8,g9,g10,g11,g12,g13,g14,g15,g16⟩
    | 5,ho,hL,haf,hK =>
     cases ho;dsimp only;obtain ⟨⟨p0,p1,p2⟩,_⟩:=Bb';have hN:=hI;obtain ⟨Y0,g0,g1,g2,g3,g4,g5,g6,g7,g8,g9,g10,g11,g12,g13,g14,g15,g16⟩:=hN;go_wp2_with fail;exact hK (fun n=>if n=27 then (Value.agg #[.bool nb,iQ B,iQ eb]) else x n) _ ⟨Y0,g0,g1,g2,g3,g4,(fun _=>rfl),g6,g7,g8,g9,g10,g11,g12,g13,g14,g15,g16⟩
    | 6,ho,hL,haf,hK =>
     cases ho;dsimp only;rw [f5 (haf ⟨5,.data⟩ (by simp) rfl)];go_wp2_with fail;refine (OB.out _).mono ?_;rintro rr w' ⟨v',rfl,z',E⟩;have hN:=hI.l E;clear hI;obtain ⟨Y0,g0,g1,g2,g3,g4,g5,g6,g7,g8,g9,g10,g11,g12,g13,g14,g15,g16⟩:=hN;go_wp2_with fail;exact hK (fun n=>if n=28 then v' else if n=27 then (Value.agg #[.bool nb,iQ B,iQ eb]) else x n) _ ⟨Y0,g0,g1,g2,g3,g4,(fun _=>rfl),(fun _=>z'),g7,g8,g9,g10,g11,g12,g13,g14,g15,g16⟩
    | 7,ho,hL,haf,hK =>
     cases ho;dsimp only;go_wp2_with fail;refine (AB.out _ _ (f6 (haf ⟨6,.data⟩ (by simp) rfl))).mono ?_;rintro rr w' ⟨v',rfl,z',E⟩;have hN:=hI.l E;clear hI;obtain ⟨Y0,g0,g1,g2,g3,g4,g5,g6,g7,g8,g9,g10,g11,g12,g13,g14,g15,g16⟩:=hN;go_wp2_with fail;exact hK (fun n=>if n=29 then v' else x n) _ ⟨Y0,g0,g1,g2,g3,g4,g5,g6,(fun _=>z'),g8,g9,g10,g11,g12,g13,g14,g15,g16⟩
    | 8,ho,hL,haf,hK =>
     cases ho;dsimp only;go_wp2_with fail;refine (DV.out _ _ _ (f4 (haf ⟨4,.data⟩ (by simp) rfl)) (f7 (haf ⟨7,.data⟩ (by simp) rfl))).mono ?_;rintro rr w' ⟨q0,q1,q2,q3,q4,r0,r1,r2,r3,r4,rfl,hq,hr,E⟩;have hN:=hI.l E;clear hI;obtain ⟨Y0,g0,g1,g2,g3,g4,g5,g6,g7,g8,g9,g10,g11,g12,g13,g14,g15,g16⟩:=hN;go_wp2_with fail;exact hK (fun n=>if n=30 then (.tuple #[.agg #[iQ q0,.bool q1,.slice q2 q3 q4],.agg #[iQ r0,.bool r1,.slice r2 r3 r4]]) else x n) _ ⟨Y0,g0,g1,g2,g3,g4,g5,g6,g7,(fun _=>⟨_,_,rfl,hq,hr⟩),g9,g10,g11,g12,g13,g14,g15,g16⟩
    | 9,ho,hL,haf,hK =>
     cases ho;dsimp only;have f8':=f8 (haf ⟨8,.data⟩ (by simp) rfl);have hN:=hI;obtain ⟨Y0,g0,g1,g2,g3,g4,g5,g6,g7,g8,g9,g10,g11,g12,g13,g14,g15,g16⟩:=hN;go_wp2_with fail;exact hK (fun n=>if n=21 then x 30 else x n) _ ⟨Y0,g0,g1,g2,g3,g4,g5,g6,g7,g8,(fun _=>f8'),g10,g11,g12,g13,g14,g15,g16⟩
    | 10,ho,hL,haf,hK =>
     cases ho;dsimp only;obtain ⟨uq,ur,e21,hq,hr⟩:=f9 (haf ⟨9,.data⟩ (by simp) rfl);rw [e21];have hN:=hI;obtain ⟨Y0,g0,g1,g2,g3,g4,g5,g6,g7,g8,g9,g10,g11,g12,g13,g14,g15,g16⟩:=hN;go_wp2_with fail;exact hK (fun n=>if n=31 then uq else if n=21 then .tuple #[uq,ur] else x n) _ ⟨Y0,g0,g1,g2,g3,g4,g5,g6,g7,g8,(fun _=>⟨_,_,rfl,hq,hr⟩),(fun _=>hq),g11,g12,g13,g14,g15,g16⟩
    | 11,ho,hL,haf,hK =>
     cases ho;dsimp only;obtain ⟨uq,ur,e21,hq,hr⟩:=f9 (haf ⟨9,.data⟩ (by simp) rfl);rw [e21];have hN:=hI;obtain ⟨Y0,g0,g1,g2,g3,g4,g5,g6,g7,g8,g9,g10,g11,g12,g13,g14,g15,g16⟩:=hN;go_wp2_with fail;exact hK (fun n=>if n=32 then ur else if n=21 then .tuple #[uq,ur] else x n) _ ⟨Y0,g0,g1,g2,g3,g4,g5,g6,g7,g8,(fun _=>⟨_,_,rfl,hq,hr⟩),g10,(fun _=>hr),g12,g13,g14,g15,g16⟩
    | 12,ho,hL,haf,hK =>
     cases ho;dsimp only;have hst:L 14=true->False:=fun h=>(by have:=(f15 h).1;rw [hL] at this;cases this);have hne:L 13=true->Value.pointer (some ⟨wl.heap.size,0,none⟩) ≠ x 6:=fun h e=>(by obtain ⟨y,_,_,_,_,_,k,_⟩:=Bx.zin f13 h e.symm;exact absurd k.lt (Nat.lt_irrefl _));have hN:=hI.l (x1 wl (.cells #[iQ 0,.bool false,.slice none 0 0] 103));obtain ⟨Y0,g0,g1,g2,g3,g4,g5,g6,g7,g8,g9,g10,g11,g12,g13,g14,g15,g16⟩:=hN;go_wp2_with fail;exact hK (fun n=>if n=5 then Value.pointer (some ⟨wl.heap.size,0,none⟩) else x n) _ ⟨Y0,g0,g1,g2,g3,g4,g5,g6,g7,g8,g9,g10,g11,(fun _=>⟨wl.heap.size,rfl,X.size,fun h=>(hst h).elim,fun _=>Box3.made wl _ _ _ _⟩),g13,(fun h h' e=>hne h' e),(fun h=>⟨rfl,(g15 h).2⟩),(fun h=>⟨rfl,(g16 h).2⟩)⟩
    | 13,ho,hL,haf,hK =>
     cases ho;dsimp only;have hst:L 15=true->False:=fun h=>(by have:=(f16 h).2;rw [hL] at this;cases this);have hne:L 12=true->Value.pointer (some ⟨wl.heap.size,0,none⟩) ≠ x 5:=fun h e=>(by obtain ⟨y,_,_,_,_,_,k,_⟩:=Bx.zin f12 h e.symm;exact absurd k.lt (Nat.lt_irrefl _));have hN:=hI.l (x1 wl (.cells #[iQ 0,.bool false,.slice none 0 0] 103));obtain ⟨Y0,g0,g1,g2,g3,g4,g5,g6,g7,g8,g9,g10,g11,g12,g13,g14,g15,g16⟩:=hN;go_wp2_with fail;exact hK (fun n=>if n=6 then Value.pointer (some ⟨wl.heap.size,0,none⟩) else x n) _ ⟨Y0,g0,g1,g2,g3,g4,g5,g6,g7,g8,g9,g10,g11,g12,(fun _=>⟨wl.heap.size,rfl,X.size,fun h=>(hst h).elim,fun _=>Box3.made wl _ _ _ _⟩),(fun h h' e=>hne h e.symm),(fun h=>⟨(g15 h).1,rfl⟩),(fun h=>⟨(g16 h).1,rfl⟩)⟩
    | 14,ho,hL,haf,hK =>
     cases ho;dsimp only;have h12:L 12=true:=haf ⟨12,.data⟩ (by simp) rfl;have h13:L 13=true:=haf ⟨13,.phase⟩ (by simp) rfl;obtain ⟨b,eb',hb,_,hz⟩:=f12 h12;have hbx:=hz hL;have hv:=f10 (haf ⟨10,.data⟩ (by simp) rfl);obtain ⟨a0,a1,a2,a3,a4,ev⟩:=hv.shape;have hne:=f14 h12 h13;rw [eb'] at hne;rw [eb',ev];rw [ev] at hv;obtain ⟨⟨c0,c1,c2⟩,c3,c4,c5⟩:=id hbx;have hk:∀ v z,ZV wl v z->ZV (set3 wl b (iQ a0) (.bool a1) (.slice a2 a3 a4)) v z:=fun v z h=>h.set3 hbx _ _ _;have hX:=Ext.set3 X hb (iQ a0) (.bool a1) (.slice a2 a3 a4);have hB:=hbx.zin.put hv;have hF:=f13.far hbx.zin (fun _ e=>hne (e.symm)) (iQ a0) (.bool a1) (.slice a2 a3 a4);go_wp2_with fail;exact hK (fun n=>if n=5 then .pointer (some ⟨b,0,none⟩) else if n=31 then .agg #[iQ a0,.bool a1,.slice a2 a3 a4] else x n) _ ⟨hX,f0,fun h=>hk _ _ (f1 h),fun h=>hk _ _ (f2 h),fun h=>hk _ _ (f3 h),fun h=>hk _ _ (f4 h),f5,fun h=>hk _ _ (f6 h),fun h=>hk _ _ (f7 h),fun h=>(f8 h).to hk,fun h=>(f9 h).to hk,fun _=>hk _ _ hv,fun h=>hk _ _ (f11 h),fun _=>⟨b,rfl,hb,fun _=>hB,fun h=>by cases h⟩,hF,fun _ _=>hne,fun _=>⟨h12,h13⟩,f16⟩
    | 15,ho,hL,haf,hK =>
     cases ho;dsimp only;have h12:L 12=true:=haf ⟨12,.phase⟩ (by simp) rfl;have h13:L 13=true:=haf ⟨13,.data⟩ (by simp) rfl;obtain ⟨b,eb',hb,_,hz⟩:=f13 h13;have hbx:=hz hL;have hv:=f11 (haf ⟨11,.data⟩ (by simp) rfl);obtain ⟨a0,a1,a2,a3,a4,ev⟩:=hv.shape;have hne:=f14 h12 h13;rw [eb'] at hne;rw [eb',ev];rw [ev] at hv;obtain ⟨⟨c0,c1,c2⟩,c3,c4,c5⟩:=id hbx;have hk:∀ v z,ZV wl v z->ZV (set3 wl b (iQ a0) (.bool a1) (.slice a2 a3 a4)) v z:=fun v z h=>h.set3 hbx _ _ _;have hX:=Ext.set3 X hb (iQ a0) (.bool a1) (.slice a2 a3 a4);have hB:=hbx.zin.put hv;have hF:=f12.far hbx.zin (fun _ e=>hne e) (iQ a0) (.bool a1) (.slice a2 a3 a4);go_wp2_with fail;exact hK (fun n=>if n=6 then .pointer (some ⟨b,0,none⟩) else if n=32 then .agg #[iQ a0,.bool a1,.slice a2 a3 a4] else x n) _ ⟨hX,f0,fun h=>hk _ _ (f1 h),fun h=>hk _ _ (f2 h),fun h=>hk _ _ (f3 h),fun h=>hk _ _ (f4 h),f5,fun h=>hk _ _ (f6 h),fun h=>hk _ _ (f7 h),fun h=>(f8 h).to hk,fun h=>(f9 h).to hk,fun h=>hk _ _ (f10 h),fun _=>hk _ _ hv,hF,fun _=>⟨b,rfl,hb,fun _=>hB,fun h=>by cases h⟩,fun _ _=>hne,f15,fun _=>⟨h12,h13⟩⟩
    | k+16,ho,_,_,_=>simp at ho
   ·intro L x wl hall hI;obtain ⟨X,f0,f1,f2,f3,f4,f5,f6,f7,f8,f9,f10,f11,f12,f13,f14,f15,f16⟩:=hI;have h12:=hall 12 (by simp);have h13:=hall 13 (by simp);obtain ⟨b,eb',hb,hz,_⟩:=f12 h12;obtain ⟨c,ec',hc,hy,_⟩:=f13 h13;have hne:=f14 h12 h13;have h14:=hz (hall 14 (by simp));have h15:=hy (hall 15 (by simp));dsimp only;clear f0 f1 f2 f3 f4 f5 f6 f7 f8 f9 f10 f11 f12 f13 f14 f15 f16 hz hy;go_wp2_with fail;go_meet
    case rel=>exact ⟨b,c,eb',ec',hb,hc,fun e=>hne (by rw [eb',ec',e]),h14,h15,X⟩
  case rest =>
   obtain ⟨b5,b6,rfl,rfl,l5,l6,ne56,Z5,Z6,x4⟩:=hcut
   rename World=>w4
   have lt3:w.heap.size+1+1<w3.heap.size:=World.block_lt_of_cell? _ _ Br.1.1;replace Ba:=Ba.l x4;replace Bb:=Bb.l x4;replace Br:=Br.l x4;replace X0:=xt X0 x4;clear OA OB AA AB TT MU DV x4;have Ba':=Ba;have Bb':=Bb;obtain ⟨⟨p0,p1,p2⟩,_⟩:=Ba';obtain ⟨⟨p3,p4,p5⟩,_⟩:=Bb';go_upto_region 4 with fail;go_cut [37] (fun v wc=>v=.bool (na != nb)/\wc=w4)
   case first =>
    go_wp2_with fail;go_meet
    case rel=>exact ⟨rfl,rfl⟩
   case rest =>
    obtain ⟨rfl,hwc⟩:=hcut;rw [hwc];clear hwc;go_upto_if 37 with fail;go_cut [] (fun wc=>ZIn wc b5 (sgn (na != nb) Q)/\ZIn wc b6 Rm/\Box3 wc w.heap.size (.bool na) (iQ A) (iQ ea)/\Box3 wc (w.heap.size+1) (.bool nb) (iQ B) (iQ eb)/\Box4 wc (w.heap.size+1+1) (.bool false) (.bool false) (iQ 0) (iQ 0)/\Ext w wc)
    case first =>
     clear p0 p1 p2 p3 p4 p5;obtain ⟨nn,hnn⟩:=nm ((na != nb));rw [hnn];clear PU;cases nn
     ·go_wp2_with fail;go_meet
      case rel=>exact ⟨by rw [hnn];exact Z5,Z6,Ba,Bb,Br,X0⟩
     ·have Z5':=Z5;obtain ⟨z0,z1,z2,z3,z4,⟨⟨j0,j1,j2⟩,_⟩,hy5⟩:=Z5';go_wp2_with fail;refine (zEE _ hy5).mono ?_;rintro rr w8 ⟨v8,rfl,hz8,x8⟩;obtain ⟨f0,f1,f2,f3,f4,rfl⟩:=hz8.shape;replace Z5:=Z5.l x8;replace Z6:=Z6.l x8;replace Ba:=Ba.l x8;replace Bb:=Bb.l x8;replace Br:=Br.l x8;have ZN:=Z5.put hz8;have Z6N:=Z6.far Z5 (show b5 ≠ b6 by omega) (iQ f0) (.bool f1) (.slice f2 f3 f4);have BaN:=Ba.far3 (k:=b5) (by omega) (iQ f0) (.bool f1) (.slice f2 f3 f4);have BbN:=Bb.far3 (k:=b5) (by omega) (iQ f0) (.bool f1) (.slice f2 f3 f4);have BrN:Box4 (set3 w8 b5 (iQ f0) (.bool f1) (.slice f2 f3 f4)) (w.heap.size+1+1) (.bool false) (.bool false) (iQ 0) (iQ 0):=
       ((Br.far (p:=⟨b5,0,none⟩) (by simp only;omega) _).far (p:=⟨b5,1,none⟩) (by simp only;omega) _).far (p:=⟨b5,2,none⟩) (by simp only;omega) _
      have XN:=Ext.set3 (xt X0 x8) (b:=b5) (by omega) (iQ f0) (.bool f1) (.slice f2 f3 f4);obtain ⟨_,_,_,_,_,⟨⟨g0,g1,g2⟩,k0,k1,k2⟩,_⟩:=Z5;clear j0 j1 j2 hy5 hz8;go_wp2_with fail;go_meet
      case rel=>exact ⟨by rw [hnn];exact ZN,Z6N,BaN,BbN,BrN,XN⟩
    case rest =>
     clear p0 p1 p2 p3 p4 p5 Z5 Z6 Ba Bb Br X0;obtain ⟨Z5,Z6,Ba,Bb,Br,X0⟩:=hcut
     rename World=>w6
     have Ba':=Ba;have Bb':=Bb;obtain ⟨⟨p0,p1,p2⟩,_⟩:=Ba';obtain ⟨⟨p3,p4,p5⟩,_⟩:=Bb';obtain ⟨y0,y1,y2,y3,y4,D5,hy5⟩:=Z5;obtain ⟨z0,z1,z2,z3,z4,D6,hz6⟩:=Z6;have D5':=D5;have D6':=D6;obtain ⟨⟨i0,i1,i2⟩,_⟩:=D5';obtain ⟨⟨j0,j1,j2⟩,_⟩:=D6';have CR:Hid ((!((Rm:Int) == 0))=decide (Rm ≠ 0)):=by
      show _=_;rw [Bool.eq_iff_iff,Bool.not_eq_true',beq_eq_false_iff_ne,decide_eq_true_eq];omega
     have nz0:w.heap.size+1+1 ≠ w.heap.size:=(by omega);have nz1:w.heap.size+1+1 ≠ w.heap.size+1:=(by omega);have nz2:w.heap.size+1+1 ≠ b5:=(by omega);have nz3:w.heap.size+1+1 ≠ b6:=(by omega);go_upto_region 6 with fail;go_region_held3 (fun w'=>((w'.cell? ⟨w.heap.size,0,none⟩=some (.bool na)/\w'.cell? ⟨w.heap.size,1,none⟩=some (iQ A)/\w'.cell? ⟨w.heap.size,2,none⟩=some (iQ ea))/\w'.cell? ⟨w.heap.size+1,0,none⟩=some (.bool nb)/\w'.cell? ⟨w.heap.size+1,1,none⟩=some (iQ B)/\w'.cell? ⟨w.heap.size+1,2,none⟩=some (iQ eb))/\(w'.cell? ⟨b5,0,none⟩=some (iQ y0)/\w'.cell? ⟨b5,1,none⟩=some (.bool y1)/\w'.cell? ⟨b5,2,none⟩=some (.slice y2 y3 y4))/\w'.cell? ⟨b6,0,none⟩=some (iQ z0)/\w'.cell? ⟨b6,1,none⟩=some (.bool z1)/\w'.cell? ⟨b6,2,none⟩=some (.slice z2 z3 z4)) (go_keep) (first
      | (go_at_call 113;refine (zH0 _ (hz6.l (xd (xr _)))).mono ?_;rintro rr w6a ⟨rfl,e8⟩;have X8:Ext w6 w6a:=xt (xd (xr _)) e8;obtain ⟨⟨ga0,ga1,ga2⟩,_⟩:=Ba.l X8;obtain ⟨⟨ha0,ha1,ha2⟩,_⟩:=Bb.l X8;obtain ⟨⟨ia0,ia1,ia2⟩,_⟩:=D5.l X8;obtain ⟨⟨ja0,ja1,ja2⟩,_⟩:=D6.l X8)
      | (go_at_call 57;refine (PU.out _ _ _ _ (hy5.l X8) rfl CR.out).mono ?_;rintro rr w6b ⟨rfl,e9⟩;have X9:Ext w6 w6b:=xt X8 e9;obtain ⟨⟨gb0,gb1,gb2⟩,_⟩:=Ba.l X9;obtain ⟨⟨hb0,hb1,hb2⟩,_⟩:=Bb.l X9;obtain ⟨⟨ib0,ib1,ib2⟩,_⟩:=D5.l X9;obtain ⟨⟨jb0,jb1,jb2⟩,_⟩:=D6.l X9;obtain ⟨⟨m0,m1,m2,m3⟩,k0,k1,k2,k3⟩:=Br.l X9))
     all_goals
      go_wp2_with fail;exact bodyPost_ret (v:=resV R) (by simp [results,Tryz.results118,go_sem,m0,m1,m2,m3]) rfl ⟨rfl,xset (xset (xset (xset (xt X0 X9) (by simp only;omega) _) (by simp only;omega) _) (by simp only;omega) _) (by simp only;omega) _⟩
theorem zJF {P:Nat} (e:Int):(P ≠ 0->(zAK P e).1 % 10 ≠ 0)/\(zAK P e).1<=P:=by
 induction P using Nat.strongRecOn generalizing e with
 | ind P ih =>
  by_cases h:P ≠ 0/\P % 10=0
  ·rw [zB1 h.1 h.2];obtain ⟨h1,h2⟩:=ih (P / 10) (by omega) (e+1);exact ⟨fun _=>h1 (by omega),by omega⟩
  ·rw [zAK];simp only [h,dite_false];exact ⟨fun h0=>by omega,Nat.le_refl _⟩
theorem zLI {neg:Bool} {P:Nat} {e:Int} (hP:P<=1000000000000000) (h:(fitR neg P e).ok=true):zA1 (fitR neg P e).neg (fitR neg P e).d (fitR neg P e).e=true:=by
 unfold fitR at h ⊢
 split
 ·rfl
 ·rename_i h0;simp only [h0,if_false] at h
  split
  ·rename_i h1;simp [h1] at h
  ·split
   ·rfl
   ·rename_i h1 h2;obtain ⟨hm,hl⟩:=zJF (P:=P) e;have hm':=hm h0;unfold zA1;simp only;have hne:((zAK P e).1:Int) ≠ 0:=(by omega);rw [if_neg hne];have:(zAK P e).1 ≠ 1000000000000000:=(by omega);simp;omega
theorem zKV {neg:Bool} {P:Nat} {e:Int} {more:Bool} (h:(putR neg P e more).ok=true):zA1 (putR neg P e more).neg (putR neg P e more).d (putR neg P e more).e=true:=by
 unfold putR at h ⊢
 split
 ·rename_i h15;rw [if_pos h15] at h;exact zLI (zNC h15) h
 ·rename_i h15;rw [if_neg h15] at h;refine zLI ?_ h;have h1:=(zE5 P).1;have h2:=zB3 (show nd P<=15 by omega);have e15:(10:Nat) ^ 15=1000000000000000:=by decide
  omega
def zAM:Nat->DR->DR
 | 0,r=>r
 | k+1,r=>zAM k (if r.ok then mulR r.neg r.d r.e false 1 2 else r)
theorem zHV:∀ (k:Nat) (r:DR),r.ok=false->zAM k r=r
 | 0,r,_=>rfl
 | k+1,r,h=>by rw [zAM,if_neg (by rw [h];decide)];exact zHV k r h
def zBN (wh pl mb:Nat) (gr:Bool) (tm:Nat) (d e:Int):BLs:=numZ wh pl mb gr tm (padZ (pl+mb+1) (digZ d.toNat (e+((pl+mb:Nat):Int)).toNat))
def numT (wh pl mb:Nat) (gr:Bool) (tm:Nat) (minus n:Bool) (d e:Int):BLs:=
 let r:=zAM tm ⟨true,false,d,e⟩
 if r.ok then
  let s:=zAB r.neg r.d r.e ((pl+mb:Nat):Int) 1
  if s.ok then (if n && minus && decide (s.d ≠ 0) then 45 :: zBN wh pl mb gr tm s.d s.e else zBN wh pl mb gr tm s.d s.e) else [35]
 else [35]
theorem zJI {n:Bool} {d e p m:Int} (h:(zAB n d e p m).ok=true):zA1 (zAB n d e p m).neg (zAB n d e p m).d (zAB n d e p m).e=true:=by
 unfold zAB at h ⊢
 split at h
 ·next hc =>
  rw [if_pos hc];unfold rndR at h ⊢
  split at h
  ·next hd =>
   rw [if_pos hd];simp only [Bool.and_eq_true] at hc;exact hc.1.1
  ·next hd =>
   rw [if_neg hd];exact zKV h
 ·cases h
def rstL (pl:Nat) (R:BLs):BLs:=R.take pl++zF2 (R.drop pl)
theorem zN9 {pl:Nat} {K:BLs} (h:pl<=K.length):rstL pl (K++[48])=rstL pl K:=by
 unfold rstL;rw [List.drop_append_of_le_length h,List.take_append_of_le_length h,zIL,if_pos rfl]
theorem zNA {pl:Nat} {K:BLs} {c:UInt8} (h:pl<=K.length) (hc:c ≠ 48):rstL pl (K++[c])=K++[c]:=by
 unfold rstL;rw [List.drop_append_of_le_length h,List.take_append_of_le_length h,zIL,if_neg hc,<- List.append_assoc,List.take_append_drop]
theorem zKR {pl:Nat} {R:BLs} (h:R.length<=pl):rstL pl R=R:=by
 unfold rstL;rw [List.take_of_length_le h,List.drop_eq_nil_of_le h];simp [zF2]
theorem zR5 {R:BLs} {pl:Nat} (h:pl<R.length):∃ K c,R=K++[c]/\pl<=K.length:=by
 refine ⟨R.dropLast,R.getLast (by intro e;rw [e] at h;simp at h),(List.dropLast_concat_getLast _).symm,?_⟩;rw [List.length_dropLast];omega
theorem zKA:∀ (k u:Nat),u<10 ^ (k+1)->(Lib.decDigits u).length<=k+1
 | 0,u,h=>by
  rw [Lib.decDigits_length,Lib.nDigits_small (by simpa using h)];exact Nat.le_refl _
 | k+1,u,h=>by
  rw [Lib.decDigits_length];by_cases q:u<10
  ·rw [Lib.nDigits_small q];omega
  ·have:=zKA k (u / 10) (by rw [Nat.pow_succ] at h;omega);rw [Lib.decDigits_length] at this;rw [Lib.nDigits_big q];omega
theorem zMP {d:Int} (h0:0<=d) (h1:d<1000000000000000) (k:Nat):(digZ d.toNat k).length<=15+k:=by
 unfold digZ
 split
 ·show 1<=_;omega
 ·rw [List.length_append,List.length_replicate];have e15:(10:Nat) ^ (14+1)=1000000000000000:=by decide
  have:=zKA 14 d.toNat (by omega);omega
theorem zKJ (l:BLs):(zF2 l).length<=l.length:=by
 unfold zF2;rw [List.length_reverse];have:=(List.dropWhile_sublist (p:=(· == (48:UInt8))) (l:=l.reverse)).length_le;rw [List.length_reverse] at this;exact this
theorem zM3 (pl:Nat) (R:BLs):(rstL pl R).length<=R.length:=by
 unfold rstL;have:=zKJ (R.drop pl);rw [List.length_drop] at this;rw [List.length_append,List.length_take];omega
theorem zJY:∀ (f:Nat) (l:BLs),(grpZ f l).length<=2 * l.length
 | 0,l=>by rw [grpZ];omega
 | f+1,l=>by
  rw [grpZ]
  split
  ·have:=zJY f (l.take (l.length - 3));rw [List.length_take] at this;rw [List.length_append,List.length_cons,List.length_drop];omega
  ·omega
end Go.Proofs.YtjlojlgdkfpcdaaGreatDoor

