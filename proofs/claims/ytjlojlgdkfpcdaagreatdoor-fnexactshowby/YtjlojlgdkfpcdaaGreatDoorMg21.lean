/-
  Several texts in one: Rf, Ri, Rg, DvA, PwN, Sb3.
-/
import Derived.Test.YtjlojlgdkfpcdaaGreatDoorMg0
import Derived.Orders
import Derived.Test.YtjlojlgdkfpcdaaGreatDoorMg10
import Derived.Test.YtjlojlgdkfpcdaaGreatDoorWideE
import Derived.Test.YtjlojlgdkfpcdaaGreatDoorMg14
import Derived.Test.YtjlojlgdkfpcdaaGreatDoorMg16
import Derived.Test.YtjlojlgdkfpcdaaGreatDoorMg19
import Derived.Test.YtjlojlgdkfpcdaaGreatDoorDrM
namespace Go.Proofs.YtjlojlgdkfpcdaaGreatDoor
open Go.RowKit
section
variable {P:Program} {ops:Array Oper} {Q:Exit→Act→World→Prop} {md:Region.Mode}
def rfOk (md:Region.Mode) (ops:Array Oper):Bool:=
 (List.range ops.size).all fun i =>
  match ops[i]? with
  | none=>true
  | some o=>o.guard.isNone && (o.after.all fun e=>!Region.binds md e || decide (e.on<i)) &&
    o.op.operands.all fun x=>match x with
     | .tmp d=>(List.range ops.size).all fun j=>!((ops[j]?).bind (·.dst) == some d) || o.after.any fun e=>Region.binds md e && e.on == j
     | _=>true
theorem rfOk_spec (h:rfOk md ops=true) {i:Nat} {o:Oper} (hi:ops[i]?=some o) :
  o.guard=none∧(∀ e ∈ o.after,Region.binds md e=true→e.on<i) ∧
  ∀ d,.tmp d ∈ o.op.operands→∀ j oj,ops[j]?=some oj→oj.dst=some d→∃ e ∈ o.after,Region.binds md e=true∧e.on=j:=by
 have hlt:i<ops.size:=by
  rcases Nat.lt_or_ge i ops.size with h' | h'
  ·exact h'
  ·rw [Array.getElem?_eq_none h'] at hi;cases hi
 have h1:=(List.all_eq_true.1 h) i (List.mem_range.2 hlt);rw [hi] at h1;simp only [Bool.and_eq_true] at h1;obtain ⟨⟨hg,ha⟩,hx⟩:=h1;refine ⟨by cases hgo:o.guard <;> simp_all,fun e he hb=>?_,fun d hd j oj hj hdj=>?_⟩
 ·have:=(Array.all_eq_true_iff_forall_mem.1 ha) e he;simpa [hb] using this
 ·have h2:=(Array.all_eq_true_iff_forall_mem.1 hx) _ hd;have hjlt:j<ops.size:=by
   rcases Nat.lt_or_ge j ops.size with h' | h'
   ·exact h'
   ·rw [Array.getElem?_eq_none h'] at hj;cases hj
  have h3:=(List.all_eq_true.1 h2) j (List.mem_range.2 hjlt);rw [hj] at h3;simp only [Option.bind_some,hdj,beq_self_eq_true,Bool.not_true,Bool.false_or] at h3;obtain ⟨e,he,hee⟩:∃ e ∈ o.after,(Region.binds md e && e.on == j)=true:=by
   rw [Array.any_eq_true'] at h3;exact h3
  simp only [Bool.and_eq_true,beq_iff_eq] at hee;exact ⟨e,he,hee.1,hee.2⟩
structure RS (ops:Array Oper) (md:Region.Mode) (A:Act) (listed:Array Bool) (a:Act):Prop where
 size:listed.size=ops.size
 defers:a.defers=A.defers
 tsize:a.tmps.size=A.tmps.size
 vals:∀ d,(∀ i o,ops[i]?=some o→o.dst=some d→listed.getD i false=true)→a.tmps[d]?=A.tmps[d]?
 closed:∀ i o,ops[i]?=some o→listed.getD i false=true→∀ e ∈ o.after,Region.binds md e=true→listed.getD e.on false=true
theorem all_listed (hc:rfOk md ops=true) {listed:Array Bool} (hsz:listed.size=ops.size) (hr:Region.ready md ops listed=[]):∀ i,i<ops.size→listed.getD i false=true:=by
 intro i
 induction i using Nat.strongRecOn with
 | ind i ih =>
  intro hi;cases hl:listed.getD i false with
  | true=>rfl
  | false =>
   exfalso;have hlt:i<listed.size:=by omega
   have h1:listed.getD i true=false:=by
    rw [Array.getD_eq_getD_getElem?,Array.getElem?_eq_getElem hlt] at hl ⊢;exact hl
   have ho:ops[i]?=some ops[i]:=Array.getElem?_eq_getElem hi;obtain ⟨_,hlow,_⟩:=rfOk_spec hc ho;have:i ∈ Region.ready md ops listed:=mem_ready.2 ⟨h1,_,ho,fun e he hb=>ih e.on (hlow e he hb) (Nat.lt_trans (hlow e he hb) hi)⟩;rw [hr] at this;cases this
theorem count_set {listed:Array Bool} {i:Nat} (h:listed.getD i true=false):(listed.setIfInBounds i true).toList.count false+1=listed.toList.count false:=by
 have hlt:i<listed.size:=by
  rcases Nat.lt_or_ge i listed.size with h' | h'
  ·exact h'
  ·rw [Array.getD_eq_getD_getElem?,Array.getElem?_eq_none h'] at h;cases h
 have hv:listed[i]=false:=by
  rw [Array.getD_eq_getD_getElem?,Array.getElem?_eq_getElem hlt] at h;exact h
 rw [Array.toList_setIfInBounds,List.count_set (by simpa using hlt)];have hv':listed.toList[i]'(by simpa using hlt)=false:=by simpa using hv
 have hpos:0<listed.toList.count false:=List.count_pos_iff.2 (by rw [← hv'];exact List.getElem_mem _);simp only [hv',beq_self_eq_true,if_true];rw [if_neg (by decide)];omega
section
variable {ρ:Operand→Value} {o:Oper} {w w':World} {v:Value}
end
end
section
variable {P:Program} {ops:Array Oper} {Q:Exit→Act→World→Prop} {md:Region.Mode}
theorem wpAny_inv (J:Array Bool→Act→World→Prop)
  (step:∀ listed a w i o,J listed a w→i ∈ Region.ready md ops listed→ops[i]?=some o→wpOp P ops Q i (fun a' w'=>J (listed.setIfInBounds i true) a' w') a w)
  (fin:∀ listed a w,Region.ready md ops listed=[]→J listed a w→Q .normal a w) :
  ∀ (fuel:Nat) (listed:Array Bool) (a:Act) (w:World),listed.toList.count false≤fuel→J listed a w→wpAny P md ops Q fuel listed a w:=by
 intro fuel
 induction fuel with
 | zero =>
  intro listed a w hf hJ;have hr:Region.ready md ops listed=[]:=by
   cases hr:Region.ready md ops listed with
   | nil=>rfl
   | cons x xs =>
    have:=count_set (mem_ready.1 (hr ▸ List.mem_cons_self:x ∈ Region.ready md ops listed)).1;omega
  exact ⟨hr,fin listed a w hr hJ⟩
 | succ fuel ih =>
  intro listed a w hf hJ;refine ⟨fun hr=>fin listed a w hr hJ,fun i hi=>?_⟩;obtain ⟨hun,o,ho,_⟩:=mem_ready.1 hi;refine wpOp_mono (fun a' w' hh=>ih _ a' w' ?_ hh) (step listed a w i o hJ hi ho);have:=count_set hun;omega
theorem wp_region_inv {id:Nat} {a:Act} {w:World} (J:Array Bool→Act→World→Prop) (hm:P.follows .mixedOrders=true)
  (hJ:J (Array.replicate ops.size false) a { w with drawn:=w.drawn+1 })
  (step:∀ listed a w i o,J listed a w→i ∈ Region.ready .any ops listed→ops[i]?=some o→wpOp P ops Q i (fun a' w'=>J (listed.setIfInBounds i true) a' w') a w)
  (fin:∀ listed a w,Region.ready .any ops listed=[]→J listed a w→Q .normal a w):(Code.region id ops true).wp P Q a w:=
 wp_region_any hm (wpAny_inv J step fin ops.size _ a _ (by simp) hJ)
end
section
variable {P:Program} {ops:Array Oper} {Q:Exit→Act→World→Prop}
theorem wpOp_of_ops {i:Nat} {o:Oper} {K:Act→World→Prop} {a:Act} {w:World} (ho:ops[i]?=some o) (hg:o.guard=none)
  (h:wpList P #[o] (Exit.then K Q) [o] a w):wpOp P ops Q i K a w:=by
 unfold wpOp;simp only [ho,Region.wanted,hg,if_true];simp only [wpList,Region.wanted,hg,if_true] at h
 rcases h with h | ⟨h1,h2⟩
 ·left;unfold Oper.wp at *;generalize (execOp a.eval o).run P w=r at *;cases r with
  | ok n w' =>
   cases n
   case enter f args =>
    refine Calls.mono h fun e w'' he=>?_;cases e <;> exact he
   all_goals exact h
  | halt x w'=>cases x <;> exact h
 ·exact .inr ⟨h1,h2⟩
theorem wp_region_letters {X:Type} {id:Nat} {a:Act} {w:World} (F:X→Act) (I:(Nat→Bool)→X→World→Prop) (hm:P.follows .mixedOrders=true) (hc:rfOk .any ops=true)
  (x0:X) (h0:a=F x0) (hI:I (fun _=>false) x0 { w with drawn:=w.drawn+1 })
  (step:∀ L x w i o (K:Act→World→Prop),(∀ x' w',I (fun j=>if j=i then true else L j) x' w'→K (F x') w')→ops[i]?=some o→L i=false→(∀ e ∈ o.after,Region.binds .any e=true→L e.on=true)→I L x w →
   wpList P #[o] (Exit.then K Q) [o] (F x) w)
  (fin:∀ L x w,(∀ j,j<ops.size→L j=true)→I L x w→Q .normal (F x) w):(Code.region id ops true).wp P Q a w:=by
 refine wp_region_inv (fun listed a w=>listed.size=ops.size∧∃ x,a=F x∧I (fun j=>listed.getD j false) x w) hm ?_ ?_ ?_
 ·refine ⟨by simp,x0,h0,?_⟩;have e:(fun j=>(Array.replicate ops.size false).getD j false)=fun _=>false:=by
   funext j
   rw [Array.getD_eq_getD_getElem?]
   rcases Nat.lt_or_ge j ops.size with h' | h'
   ·rw [Array.getElem?_eq_getElem (by simpa using h')];simp
   ·rw [Array.getElem?_eq_none (by simpa using h')];simp
  rw [e];exact hI
 ·rintro listed a w i o ⟨hs,x,rfl,hx⟩ hi ho;obtain ⟨hun,o',ho',hall⟩:=mem_ready.1 hi;have:o'=o:=by rw [ho] at ho';exact (Option.some.inj ho').symm
  subst this;obtain ⟨hg,_,_⟩:=rfOk_spec hc ho;have hlt:i<listed.size:=by
   rcases Nat.lt_or_ge i listed.size with h' | h'
   ·exact h'
   ·rw [Array.getD_eq_getD_getElem?,Array.getElem?_eq_none h'] at hun;cases hun
  have hun':listed.getD i false=false:=by
   rw [Array.getD_eq_getD_getElem?,Array.getElem?_eq_getElem hlt] at hun ⊢;exact hun
  refine wpOp_mono ?_ (wpOp_of_ops ho hg (step _ x w i o' (fun a' w'=>∃ x',a'=F x'∧I (fun j=>if j=i then true else listed.getD j false) x' w') (fun x' w' h=>⟨x',rfl,h⟩) ho hun' hall hx));rintro a' w' ⟨x',rfl,hx'⟩;refine ⟨by simp [hs],x',rfl,?_⟩;have e:(fun j=>(listed.setIfInBounds i true).getD j false)=fun j=>if j=i then true else listed.getD j false:=by
   funext j
   by_cases hj:j=i
   ·subst hj;rw [if_pos rfl,Array.getD_eq_getD_getElem?,Array.getElem?_setIfInBounds_self_of_lt hlt];rfl
   ·rw [if_neg hj,getD_set_ne false (fun e=>hj e.symm)]
  rw [e];exact hx'
 ·rintro listed a w hr ⟨hs,x,rfl,hx⟩;exact fin _ x w (all_listed hc hs hr) hx
end
def QR (w:World) (v:Value) (q r:Int):Prop:=∃ u v',v=.tuple #[u,v']∧ZV w u q∧ZV w v' r
theorem strip_bd {P:Nat} (e:Int):(P ≠ 0→(strip P e).1 % 10 ≠ 0)∧(strip P e).1≤P:=by
 induction P using Nat.strongRecOn generalizing e with
 | ind P ih =>
  by_cases h:P ≠ 0∧P % 10=0
  ·rw [strip_ten h.1 h.2];obtain ⟨h1,h2⟩:=ih (P / 10) (by omega) (e+1);exact ⟨fun _=>h1 (by omega),by omega⟩
  ·rw [strip];simp only [h,dite_false];exact ⟨fun h0=>by omega,Nat.le_refl _⟩
theorem fit_ok {neg:Bool} {P:Nat} {e:Int} (hP:P≤1000000000000000) (h:(fitR neg P e).ok=true):goodB (fitR neg P e).neg (fitR neg P e).d (fitR neg P e).e=true:=by
 unfold fitR at h ⊢
 split
 ·rfl
 ·rename_i h0;simp only [h0,if_false] at h
  split
  ·rename_i h1;simp [h1] at h
  ·split
   ·rfl
   ·rename_i h1 h2;obtain ⟨hm,hl⟩:=strip_bd (P:=P) e;have hm':=hm h0;unfold goodB;simp only;have hne:((strip P e).1:Int) ≠ 0:=(by omega);rw [if_neg hne];have:(strip P e).1 ≠ 1000000000000000:=(by omega);simp;omega
theorem put_ok {neg:Bool} {P:Nat} {e:Int} {more:Bool} (h:(putR neg P e more).ok=true):goodB (putR neg P e more).neg (putR neg P e more).d (putR neg P e more).e=true:=by
 unfold putR at h ⊢
 split
 ·rename_i h15;rw [if_pos h15] at h;exact fit_ok (rnd_lt h15) h
 ·rename_i h15;rw [if_neg h15] at h;refine fit_ok ?_ h;have h1:=(nd_dig P).1;have h2:=pow10_le (show nd P≤15 by omega);have e15:(10:Nat) ^ 15=1000000000000000:=by decide
  omega
def hunsR:Nat→DR→DR
 | 0,r=>r
 | k+1,r=>hunsR k (if r.ok then mulR r.neg r.d r.e false 1 2 else r)
theorem hunsR_bad:∀ (k:Nat) (r:DR),r.ok=false→hunsR k r=r
 | 0,r,_=>rfl
 | k+1,r,h=>by rw [hunsR,if_neg (by rw [h];decide)];exact hunsR_bad k r h
def shownZ (wh pl mb:Nat) (gr:Bool) (tm:Nat) (d e:Int):BLs:=numZ wh pl mb gr tm (padZ (pl+mb+1) (digZ d.toNat (e+((pl+mb:Nat):Int)).toNat))
def numT (wh pl mb:Nat) (gr:Bool) (tm:Nat) (minus n:Bool) (d e:Int):BLs:=
 let r:=hunsR tm ⟨true,false,d,e⟩
 if r.ok then
  let s:=roundR r.neg r.d r.e ((pl+mb:Nat):Int) 1
  if s.ok then (if n && minus && decide (s.d ≠ 0) then 45 :: shownZ wh pl mb gr tm s.d s.e else shownZ wh pl mb gr tm s.d s.e) else [35]
 else [35]
theorem round_ok {n:Bool} {d e p m:Int} (h:(roundR n d e p m).ok=true):goodB (roundR n d e p m).neg (roundR n d e p m).d (roundR n d e p m).e=true:=by
 unfold roundR at h ⊢
 split at h
 ·next hc =>
  rw [if_pos hc];unfold rndR at h ⊢
  split at h
  ·next hd =>
   rw [if_pos hd];simp only [Bool.and_eq_true] at hc;exact hc.1.1
  ·next hd =>
   rw [if_neg hd];exact put_ok h
 ·cases h
def rstL (pl:Nat) (R:BLs):BLs:=R.take pl++trim0 (R.drop pl)
theorem rst_step {pl:Nat} {K:BLs} (h:pl≤K.length):rstL pl (K++[48])=rstL pl K:=by
 unfold rstL;rw [List.drop_append_of_le_length h,List.take_append_of_le_length h,trim0_snoc,if_pos rfl]
theorem rst_last {pl:Nat} {K:BLs} {c:UInt8} (h:pl≤K.length) (hc:c ≠ 48):rstL pl (K++[c])=K++[c]:=by
 unfold rstL;rw [List.drop_append_of_le_length h,List.take_append_of_le_length h,trim0_snoc,if_neg hc,← List.append_assoc,List.take_append_drop]
theorem rst_short {pl:Nat} {R:BLs} (h:R.length≤pl):rstL pl R=R:=by
 unfold rstL;rw [List.take_of_length_le h,List.drop_eq_nil_of_le h];simp [trim0]
theorem snoc_of {R:BLs} {pl:Nat} (h:pl<R.length):∃ K c,R=K++[c]∧pl≤K.length:=by
 refine ⟨R.dropLast,R.getLast (by intro e;rw [e] at h;simp at h),(List.dropLast_concat_getLast _).symm,?_⟩;rw [List.length_dropLast];omega
theorem dec_lenZ:∀ (k u:Nat),u<10 ^ (k+1)→(Lib.decDigits u).length≤k+1
 | 0,u,h=>by
  rw [Lib.decDigits_length,Lib.nDigits_small (by simpa using h)];exact Nat.le_refl _
 | k+1,u,h=>by
  rw [Lib.decDigits_length];by_cases q:u<10
  ·rw [Lib.nDigits_small q];omega
  ·have:=dec_lenZ k (u / 10) (by rw [Nat.pow_succ] at h;omega);rw [Lib.decDigits_length] at this;rw [Lib.nDigits_big q];omega
theorem dig_len {d:Int} (h0:0≤d) (h1:d<1000000000000000) (k:Nat):(digZ d.toNat k).length≤15+k:=by
 unfold digZ
 split
 ·show 1≤_;omega
 ·rw [List.length_append,List.length_replicate];have e15:(10:Nat) ^ (14+1)=1000000000000000:=by decide
  have:=dec_lenZ 14 d.toNat (by omega);omega
theorem trim0_len (l:BLs):(trim0 l).length≤l.length:=by
 unfold trim0;rw [List.length_reverse];have:=(List.dropWhile_sublist (p:=(· == (48:UInt8))) (l:=l.reverse)).length_le;rw [List.length_reverse] at this;exact this
theorem rst_len (pl:Nat) (R:BLs):(rstL pl R).length≤R.length:=by
 unfold rstL;have:=trim0_len (R.drop pl);rw [List.length_drop] at this;rw [List.length_append,List.length_take];omega
theorem grp_len:∀ (f:Nat) (l:BLs),(grpZ f l).length≤2 * l.length
 | 0,l=>by rw [grpZ];omega
 | f+1,l=>by
  rw [grpZ]
  split
  ·have:=grp_len f (l.take (l.length - 3));rw [List.length_take] at this;rw [List.length_append,List.length_cons,List.length_drop];omega
  ·omega
end Go.Proofs.YtjlojlgdkfpcdaaGreatDoor

