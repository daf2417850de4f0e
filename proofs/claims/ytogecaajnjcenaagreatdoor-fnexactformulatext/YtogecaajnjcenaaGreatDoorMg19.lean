/-
  Several texts in one: Rf, Ri, Rg, Rh, Rk, Gf2, Gf3.
-/
import Derived.Test.YtogecaajnjcenaaGreatDoorBase
import Derived.Orders
import Derived.Test.YtogecaajnjcenaaGreatDoorGf1
import Derived.Test.YtogecaajnjcenaaGreatDoorShelb
import Derived.Deep.RegionWith
import Derived.Deep.QuietTactic
import Derived.BigQuiet
import Derived.BigRegion
namespace Go.Proofs.YtogecaajnjcenaaGreatDoor
open Go.RowKit
section
variable {P:Program} {ops:Array Oper} {Q:Exit→Act→World→Prop} {md:Region.Mode}
structure RS (ops:Array Oper) (md:Region.Mode) (A:Act) (listed:Array Bool) (a:Act):Prop where
 size:listed.size=ops.size
 defers:a.defers=A.defers
 tsize:a.tmps.size=A.tmps.size
 vals:∀ d,(∀ i o,ops[i]?=some o→o.dst=some d→listed.getD i false=true)→a.tmps[d]?=A.tmps[d]?
 closed:∀ i o,ops[i]?=some o→listed.getD i false=true→∀ e ∈ o.after,Region.binds md e=true→listed.getD e.on false=true
theorem count_set {listed:Array Bool} {i:Nat} (h:listed.getD i true=false):(listed.setIfInBounds i true).toList.count false+1=listed.toList.count false:=by
 have hlt:i<listed.size:=by
  rcases Nat.lt_or_ge i listed.size with h' | h'
  ·exact h'
  ·rw [Array.getD_eq_getD_getElem?,Array.getElem?_eq_none h'] at h;cases h
 have hv:listed[i]=false:=by
  rw [Array.getD_eq_getD_getElem?,Array.getElem?_eq_getElem hlt] at h;exact h
 rw [Array.toList_setIfInBounds,List.count_set (by simpa using hlt)];have hv':listed.toList[i]'(by simpa using hlt)=false:=by simpa using hv
 have hpos:0<listed.toList.count false:=List.count_pos_iff.2 (by rw [← hv'];exact List.getElem_mem _);simp only [hv',beq_self_eq_true,if_true];rw [if_neg (by decide)];omega
section
variable {ρ:Operand→Value} {o:Oper} {w w':World} {v:Value}
end
end
section
variable {P:Program} {ops:Array Oper} {Q:Exit→Act→World→Prop} {md:Region.Mode}
theorem wpAny_inv (J:Array Bool→Act→World→Prop)
  (step:∀ listed a w i o,J listed a w→i ∈ Region.ready md ops listed→ops[i]?=some o→wpOp P ops Q i (fun a' w'=>J (listed.setIfInBounds i true) a' w') a w)
  (fin:∀ listed a w,Region.ready md ops listed=[]→J listed a w→Q .normal a w) :
  ∀ (fuel:Nat) (listed:Array Bool) (a:Act) (w:World),listed.toList.count false≤fuel→J listed a w→wpAny P md ops Q fuel listed a w:=by
 intro fuel
 induction fuel with
 | zero =>
  intro listed a w hf hJ;have hr:Region.ready md ops listed=[]:=by
   cases hr:Region.ready md ops listed with
   | nil=>rfl
   | cons x xs =>
    have:=count_set (mem_ready.1 (hr ▸ List.mem_cons_self:x ∈ Region.ready md ops listed)).1;omega
  exact ⟨hr,fin listed a w hr hJ⟩
 | succ fuel ih =>
  intro listed a w hf hJ;refine ⟨fun hr=>fin listed a w hr hJ,fun i hi=>?_⟩;obtain ⟨hun,o,ho,_⟩:=mem_ready.1 hi;refine wpOp_mono (fun a' w' hh=>ih _ a' w' ?_ hh) (step listed a w i o hJ hi ho);have:=count_set hun;omega
theorem wp_region_inv {id:Nat} {a:Act} {w:World} (J:Array Bool→Act→World→Prop) (hm:P.follows .mixedOrders=true)
  (hJ:J (Array.replicate ops.size false) a { w with drawn:=w.drawn+1 })
  (step:∀ listed a w i o,J listed a w→i ∈ Region.ready .any ops listed→ops[i]?=some o→wpOp P ops Q i (fun a' w'=>J (listed.setIfInBounds i true) a' w') a w)
  (fin:∀ listed a w,Region.ready .any ops listed=[]→J listed a w→Q .normal a w):(Code.region id ops true).wp P Q a w:=
 wp_region_any hm (wpAny_inv J step fin ops.size _ a _ (by simp) hJ)
end
section
variable {P:Program} {ops:Array Oper} {Q:Exit→Act→World→Prop}
end
section
variable {P:Program} {ops:Array Oper} {Q:Exit→Act→World→Prop}
def rhOk (md:Region.Mode) (ops:Array Oper):Bool:=
 (List.range ops.size).all fun i =>
  match ops[i]? with
  | none=>true
  | some o=>o.after.all fun e=>!Region.binds md e || decide (e.on<i)
theorem rhOk_spec {md:Region.Mode} (h:rhOk md ops=true) {i:Nat} {o:Oper} (hi:ops[i]?=some o):∀ e ∈ o.after,Region.binds md e=true→e.on<i:=by
 have hlt:i<ops.size:=by
  rcases Nat.lt_or_ge i ops.size with h' | h'
  ·exact h'
  ·rw [Array.getElem?_eq_none h'] at hi;cases hi
 have:=(List.all_eq_true.1 h) i (List.mem_range.2 hlt);rw [hi] at this;intro e he hb;have h2:=(Array.all_eq_true_iff_forall_mem.1 this) e he;rw [hb] at h2;simpa using h2
theorem wpOp_of_ops_g {i:Nat} {o:Oper} {K:Act→World→Prop} {a:Act} {w:World} (ho:ops[i]?=some o)
  (h:if Region.wanted o (yielded ops a.tmps)=true then wpList P #[{ o with guard:=none }] (Exit.then K Q) [{ o with guard:=none }] a w else K (a.put o.dst undef) w):wpOp P ops Q i K a w:=by
 unfold wpOp;simp only [ho]
 split
 ·next hw =>
  rw [if_pos hw] at h;simp only [wpList,Region.wanted,if_true] at h
  rcases h with h | ⟨h1,h2⟩
  ·left;unfold Oper.wp at *;have e:execOp a.eval { o with guard:=none }=execOp a.eval o:=rfl;rw [e] at h;generalize (execOp a.eval o).run P w=r at *;cases r with
   | ok n w' =>
    cases n
    case enter f args =>
     refine Calls.mono h fun e w'' he=>?_;cases e <;> exact he
    all_goals exact h
   | halt x w'=>cases x <;> exact h
  ·exact .inr ⟨h1,h2⟩
 ·next hw =>
  rw [if_neg hw] at h;exact h
theorem all_listed_g {md:Region.Mode} (hc:rhOk md ops=true) {listed:Array Bool} (hsz:listed.size=ops.size) (hr:Region.ready md ops listed=[]):∀ i,i<ops.size→listed.getD i false=true:=by
 intro i
 induction i using Nat.strongRecOn with
 | ind i ih =>
  intro hi;cases hl:listed.getD i false with
  | true=>rfl
  | false =>
   exfalso;have hlt:i<listed.size:=by omega
   have h1:listed.getD i true=false:=by
    rw [Array.getD_eq_getD_getElem?,Array.getElem?_eq_getElem hlt] at hl ⊢;exact hl
   have ho:ops[i]?=some ops[i]:=Array.getElem?_eq_getElem hi;have hlow:=rhOk_spec hc ho;have:i ∈ Region.ready md ops listed:=mem_ready.2 ⟨h1,_,ho,fun e he hb=>ih e.on (hlow e he hb) (Nat.lt_trans (hlow e he hb) hi)⟩;rw [hr] at this;cases this
theorem wp_region_letters_g {X:Type} {id:Nat} {a:Act} {w:World} (F:X→Act) (I:(Nat→Bool)→X→World→Prop) (hm:P.follows .mixedOrders=true) (hc:rhOk .any ops=true)
  (x0:X) (h0:a=F x0) (hI:I (fun _=>false) x0 { w with drawn:=w.drawn+1 })
  (step:∀ L x w i o (K:Act→World→Prop),(∀ x' w',I (fun j=>if j=i then true else L j) x' w'→K (F x') w')→ops[i]?=some o→L i=false→(∀ e ∈ o.after,Region.binds .any e=true→L e.on=true)→I L x w →
   if Region.wanted o (yielded ops (F x).tmps)=true then wpList P #[{ o with guard:=none }] (Exit.then K Q) [{ o with guard:=none }] (F x) w else K ((F x).put o.dst undef) w)
  (fin:∀ L x w,(∀ j,j<ops.size→L j=true)→I L x w→Q .normal (F x) w):(Code.region id ops true).wp P Q a w:=by
 refine wp_region_inv (fun listed a w=>listed.size=ops.size∧∃ x,a=F x∧I (fun j=>listed.getD j false) x w) hm ?_ ?_ ?_
 ·refine ⟨by simp,x0,h0,?_⟩;have e:(fun j=>(Array.replicate ops.size false).getD j false)=fun _=>false:=by
   funext j
   rw [Array.getD_eq_getD_getElem?]
   rcases Nat.lt_or_ge j ops.size with h' | h'
   ·rw [Array.getElem?_eq_getElem (by simpa using h')];simp
   ·rw [Array.getElem?_eq_none (by simpa using h')];simp
  rw [e];exact hI
 ·rintro listed a w i o ⟨hs,x,rfl,hx⟩ hi ho;obtain ⟨hun,o',ho',hall⟩:=mem_ready.1 hi;have:o'=o:=by rw [ho] at ho';exact (Option.some.inj ho').symm
  subst this;have hlt:i<listed.size:=by
   rcases Nat.lt_or_ge i listed.size with h' | h'
   ·exact h'
   ·rw [Array.getD_eq_getD_getElem?,Array.getElem?_eq_none h'] at hun;cases hun
  have hun':listed.getD i false=false:=by
   rw [Array.getD_eq_getD_getElem?,Array.getElem?_eq_getElem hlt] at hun ⊢;exact hun
  refine wpOp_mono ?_ (wpOp_of_ops_g ho (step _ x w i o' (fun a' w'=>∃ x',a'=F x'∧I (fun j=>if j=i then true else listed.getD j false) x' w') (fun x' w' h=>⟨x',rfl,h⟩) ho hun' hall hx));rintro a' w' ⟨x',rfl,hx'⟩;refine ⟨by simp [hs],x',rfl,?_⟩;have e:(fun j=>(listed.setIfInBounds i true).getD j false)=fun j=>if j=i then true else listed.getD j false:=by
   funext j
   by_cases hj:j=i
   ·subst hj;rw [if_pos rfl,Array.getD_eq_getD_getElem?,Array.getElem?_setIfInBounds_self_of_lt hlt];rfl
   ·rw [if_neg hj,getD_set_ne false (fun e=>hj e.symm)]
  rw [e];exact hx'
 ·rintro listed a w hr ⟨hs,x,rfl,hx⟩;exact fin _ x w (all_listed_g hc hs hr) hx
end
section
variable {P:Program} {ops:Array Oper} {Q:Exit→Act→World→Prop}
def ClosedL (ops:Array Oper) (L:Nat→Bool):Prop:=∀ i o,ops[i]?=some o→L i=true→∀ e ∈ o.after,Region.binds .any e=true→L e.on=true
def pathB (ops:Array Oper):Nat→List Nat→Bool
 | _,[]=>true
 | i,j :: l=>(match ops[i]? with
  | none=>false
  | some o=>o.after.any fun e=>Region.binds .any e && e.on == j) && pathB ops j l
theorem ClosedL.path {L:Nat→Bool} (h:ClosedL ops L):∀ (l:List Nat) (i:Nat),L i=true→pathB ops i l=true→L ((i :: l).getLast (by simp))=true
 | [],_,hi,_=>hi
 | j :: l,i,hi,hp=>by
  simp only [pathB,Bool.and_eq_true] at hp;obtain ⟨h1,h2⟩:=hp;have hj:L j=true:=by
   cases ho:ops[i]? with
   | none=>rw [ho] at h1;cases h1
   | some o =>
    rw [ho] at h1;obtain ⟨e,he,hb⟩:=Array.any_eq_true'.1 h1;simp only [Bool.and_eq_true,beq_iff_eq] at hb;rw [← hb.2];exact h i o ho hi e he hb.1
  have:=ClosedL.path h l j hj h2
  rwa [List.getLast_cons (by simp)]
theorem ClosedL.bars {L:Nat→Bool} (h:ClosedL ops L) {i j:Nat} (l:List Nat) (hj:L j=false) (hp:pathB ops i l=true) (e:(i :: l).getLast (by simp)=j):L i=false:=by
 cases hi:L i with
 | false=>rfl
 | true =>
  have:=h.path l i hi hp;rw [e,hj] at this;cases this
theorem wp_region_letters_c {X:Type} {id:Nat} {a:Act} {w:World} (F:X→Act) (I:(Nat→Bool)→X→World→Prop) (hm:P.follows .mixedOrders=true) (hc:rhOk .any ops=true)
  (x0:X) (h0:a=F x0) (hI:I (fun _=>false) x0 { w with drawn:=w.drawn+1 })
  (step:∀ L x w i o (K:Act→World→Prop),(∀ x' w',I (fun j=>if j=i then true else L j) x' w'→K (F x') w')→ops[i]?=some o→L i=false→(∀ e ∈ o.after,Region.binds .any e=true→L e.on=true)→I L x w→ClosedL ops L →
   if Region.wanted o (yielded ops (F x).tmps)=true then wpList P #[{ o with guard:=none }] (Exit.then K Q) [{ o with guard:=none }] (F x) w else K ((F x).put o.dst undef) w)
  (fin:∀ L x w,(∀ j,j<ops.size→L j=true)→I L x w→Q .normal (F x) w):(Code.region id ops true).wp P Q a w:=by
 refine wp_region_letters_g F (fun L x w=>I L x w∧ClosedL ops L) hm hc x0 h0 ⟨hI,fun i o _ h=>by cases h⟩ ?_ (fun L x w h hi=>fin L x w h hi.1);intro L x w i o K hK ho hL haf hi;refine step L x w i o K (fun x' w' h=>hK x' w' ⟨h,?_⟩) ho hL haf hi.1 hi.2;intro j oj hj hLj e he hb;show (if e.on=i then true else L e.on)=true
 split
 ·rfl
 ·by_cases hji:j=i
  ·subst hji;rw [ho] at hj;cases hj;exact haf e he hb
  ·have:L j=true:=by simpa [hji] using hLj
   exact hi.2 j oj hj this e he hb
end
theorem mNodeL (v:Value) (w:World):(Go.method 354 98 v "loop.example/g00025/impl.node").run Tryz.prog w=.ok (215,v) w:=by kernel_rfl
theorem mNodeS (v:Value) (w:World):(Go.method 354 101 v "loop.example/g00025/impl.node").run Tryz.prog w=.ok (218,v) w:=by kernel_rfl
theorem mNodeP (v:Value) (w:World):(Go.method 354 106 v "loop.example/g00025/impl.node").run Tryz.prog w=.ok (221,v) w:=by kernel_rfl
theorem mNodeC (v:Value) (w:World):(Go.method 354 110 v "loop.example/g00025/impl.node").run Tryz.prog w=.ok (224,v) w:=by kernel_rfl
theorem mNodeA (v:Value) (w:World):(Go.method 354 113 v "loop.example/g00025/impl.node").run Tryz.prog w=.ok (227,v) w:=by kernel_rfl
theorem mKidsS (v:Value) (w:World):(Go.method 354 101 v "loop.example/g00025/impl.kids").run Tryz.prog w=.ok (216,v) w:=by kernel_rfl
inductive KindV:Value→Int→Prop
 | leaf (x:NT):KindV (.iface 98 x.val) x.k
 | signed (k:Int) (kid:Value):KindV (.iface 101 (.agg #[.int .i64 k,kid])) k
 | pair (t:List UInt8) (lev:Int) (l r:Value):KindV (.iface 106 (.agg #[sV t,.int .i64 lev,l,r])) 10
 | call (t:List UInt8) (p:Option Addr) (n c:Nat):KindV (.iface 110 (.agg #[sV t,.slice p n c])) 11
 | array (r:Int) (p:Option Addr) (n c:Nat) (h0:0≤r) (h1:r≤20):KindV (.iface 113 (.agg #[.int .i64 r,.slice p n c])) 12
theorem field_kind (k:Int) (l:Value) (n:Bool) (d x r c:Int) (f g:Bool) (r2 c2:Int) (f2 g2:Bool) (q:Int) (W:World):(Instr.field 43 (.agg #[.int .i64 k,l,.bool n,.int .i64 d,.int .i64 x,.int .i64 r,.int .i64 c,.bool f,.bool g,.int .i64 r2,.int .i64 c2,.bool f2,.bool g2,.int .i64 q]) 0).run Tryz.prog W=.ok (.int .i64 k) W:=by kernel_rfl
theorem fItoaSm:layItoaS_ren.f 171=87:=by kernel_rfl
theorem itoaSm (i:Nat) (hi:i<100) (w:World) :
  Calls Tryz.prog 87 #[.int .i64 (i:Int)] w fun e w'=>e=.returned (sV (Lib.decDigits i))∧w'=w:=by
 have h:=Any.strconv_Itoa_small layItoaS i hi w;rw [fItoaSm] at h;exact h
set_option maxRecDepth 8000 in
set_option maxHeartbeats 1000000 in
theorem node_array (r:Int) (p:Option Addr) (n c:Nat) (w:World) (h0:0≤r) (h1:r≤20):Calls Tryz.prog 227 #[.agg #[.int .i64 r,.slice p n c]] w fun e w'=>(∃ t,e=.returned (.agg #[.int .i64 12,sV t,.bool false,.int .i64 0,.int .i64 0,.int .i64 0,.int .i64 0,.bool false,.bool false,.int .i64 0,.int .i64 0,.bool false,.bool false,.int .i64 (n:Int)]))∧Ext w w':=by
 obtain ⟨i,rfl⟩:∃ i:Nat,r=(i:Int):=⟨r.toNat,by omega⟩;obtain ⟨D,hD⟩:∃ D,Lib.decDigits i=D:=⟨_,rfl⟩;have IT:∀ W,Calls Tryz.prog 87 #[.int .i64 (i:Int)] W fun e w'=>e=.returned (sV D)∧w'=W:=fun W=>by rw [← hD];exact itoaSm i (by omega) W
 obtain ⟨wa,ha,X1,VN,-⟩:=boxed w [.int .i64 (i:Int),.slice p n c] 113;obtain ⟨wb,hb,X2,VZ,-⟩:=boxed wa [.int .i64 0,.string ⟨#[]⟩,.bool false,.int .i64 0,.int .i64 0,.int .i64 0,.int .i64 0,.bool false,.bool false,.int .i64 0,.int .i64 0,.bool false,.bool false,.int .i64 0] 43;have sa:wa.heap.size=w.heap.size+1:=by rw [← ha,World.size_alloc]
 rw [sa] at VZ;have VN:=VN.later X2;have X:=xt X1 X2;clear X1 X2 hD h0 h1;obtain ⟨a0,a1⟩:=vC2 VN;go_enter Tryz.func227,Tryz.ntmps227;go_wp2_with fail;refine wp_region_letters_c (fun lx:Nat→Value=>{ tmps:=#[.agg #[.int .i64 (i:Int),.slice p n c],.pointer (some ⟨w.heap.size,0,none⟩),.pointer (some ⟨w.heap.size+1,0,none⟩),lx 3,lx 4,lx 5,lx 6,lx 7,lx 8,lx 9],defers:=[] }) (fun L lx lw=>Hid ((L 7=false→Ext wb lw)∧(L 7=true→lw.rangeAt (w.heap.size+1) 0 [.int .i64 12,sV D,.bool false,.int .i64 0,.int .i64 0,.int .i64 0,.int .i64 0,.bool false,.bool false,.int .i64 0,.int .i64 0,.bool false,.bool false,.int .i64 (n:Int)]∧Ext w lw)∧(L 0=true→lx 3=.pointer (some ⟨w.heap.size,0,none⟩))∧(L 1=true→lx 4=.int .i64 (i:Int))∧(L 2=true→lx 5=sV D)∧(L 3=true→lx 6=.pointer (some ⟨w.heap.size,1,none⟩))∧(L 4=true→lx 7=.slice p n c)∧(L 5=true→lx 8=.int .i64 (n:Int))∧(L 6=true→lx 9=.agg #[.int .i64 12,sV D,.bool false,.int .i64 0,.int .i64 0,.int .i64 0,.int .i64 0,.bool false,.bool false,.int .i64 0,.int .i64 0,.bool false,.bool false,.int .i64 (n:Int)]))) rfl (by kernel_rfl) (fun _=>undef) rfl ?_ ?_ ?_
 ·exact ⟨(fun _=>xd (xr _)),(fun h=>by cases h),(fun h=>by cases h),(fun h=>by cases h),(fun h=>by cases h),(fun h=>by cases h),(fun h=>by cases h),(fun h=>by cases h),(fun h=>by cases h)⟩
 ·intro L lx wl ix o K hK ho hL haf hI hcl;obtain ⟨E,S,f0,f1,f2,f3,f4,f5,f6⟩:=hI.out
  match ix,ho,hL,haf,hK with
  | 0,ho,hL,haf,hK =>
   cases ho
   (try dsimp only)
   have h7:L 7=false:=hcl.bars (i:=7) (j:=0) [6,2,1,0] hL (by kernel_rfl) rfl;refine Eq.mpr (if_pos (by rfl)) ?_;go_wp2_with fail;exact hK (fun jj=>if jj=3 then .pointer (some ⟨w.heap.size,0,none⟩) else lx jj) _ ⟨E,S,(fun _=>rfl),f1,f2,f3,f4,f5,f6⟩
  | 1,ho,hL,haf,hK =>
   cases ho
   (try dsimp only)
   have h7:L 7=false:=hcl.bars (i:=7) (j:=1) [6,2,1] hL (by kernel_rfl) rfl;rw [f0 (haf ⟨0,.data⟩ (by simp) rfl)];refine Eq.mpr (if_pos (by rfl)) ?_;have c0:=cell_later (E h7) a0;go_wp2_with fail;exact hK (fun jj=>if jj=4 then .int .i64 (i:Int) else if jj=3 then .pointer (some ⟨w.heap.size,0,none⟩) else lx jj) _ ⟨E,S,(fun _=>rfl),(fun _=>rfl),f2,f3,f4,f5,f6⟩
  | 2,ho,hL,haf,hK =>
   cases ho
   (try dsimp only)
   have h7:L 7=false:=hcl.bars (i:=7) (j:=2) [6,2] hL (by kernel_rfl) rfl;rw [f1 (haf ⟨1,.data⟩ (by simp) rfl)];refine Eq.mpr (if_pos (by rfl)) ?_;go_wp2_with fail;refine (IT wl).mono ?_;rintro rr w' ⟨rfl,rfl⟩;go_wp2_with fail;exact hK (fun jj=>if jj=5 then sV D else if jj=4 then .int .i64 (i:Int) else lx jj) _ ⟨E,S,f0,(fun _=>rfl),(fun _=>rfl),f3,f4,f5,f6⟩
  | 3,ho,hL,haf,hK =>
   cases ho
   (try dsimp only)
   have h7:L 7=false:=hcl.bars (i:=7) (j:=3) [6,5,4,3] hL (by kernel_rfl) rfl;refine Eq.mpr (if_pos (by rfl)) ?_;go_wp2_with fail;exact hK (fun jj=>if jj=6 then .pointer (some ⟨w.heap.size,1,none⟩) else lx jj) _ ⟨E,S,f0,f1,f2,(fun _=>rfl),f4,f5,f6⟩
  | 4,ho,hL,haf,hK =>
   cases ho
   (try dsimp only)
   have h7:L 7=false:=hcl.bars (i:=7) (j:=4) [6,5,4] hL (by kernel_rfl) rfl;rw [f3 (haf ⟨3,.data⟩ (by simp) rfl)];refine Eq.mpr (if_pos (by rfl)) ?_;have c1:=cell_later (E h7) a1;go_wp2_with fail;exact hK (fun jj=>if jj=7 then .slice p n c else if jj=6 then .pointer (some ⟨w.heap.size,1,none⟩) else lx jj) _ ⟨E,S,f0,f1,f2,(fun _=>rfl),(fun _=>rfl),f5,f6⟩
  | 5,ho,hL,haf,hK =>
   cases ho
   (try dsimp only)
   have h7:L 7=false:=hcl.bars (i:=7) (j:=5) [6,5] hL (by kernel_rfl) rfl;rw [f4 (haf ⟨4,.data⟩ (by simp) rfl)];refine Eq.mpr (if_pos (by rfl)) ?_;go_wp2_with fail;exact hK (fun jj=>if jj=8 then .int .i64 (n:Int) else if jj=7 then .slice p n c else lx jj) _ ⟨E,S,f0,f1,f2,f3,(fun _=>rfl),(fun _=>rfl),f6⟩
  | 6,ho,hL,haf,hK =>
   cases ho
   (try dsimp only)
   have h7:L 7=false:=hcl.bars (i:=7) (j:=6) [6] hL (by kernel_rfl) rfl;rw [f2 (haf ⟨2,.data⟩ (by simp) rfl),f5 (haf ⟨5,.data⟩ (by simp) rfl)];refine Eq.mpr (if_pos (by rfl)) ?_;go_wp2_with fail;exact hK (fun jj=>if jj=9 then .agg #[.int .i64 12,sV D,.bool false,.int .i64 0,.int .i64 0,.int .i64 0,.int .i64 0,.bool false,.bool false,.int .i64 0,.int .i64 0,.bool false,.bool false,.int .i64 (n:Int)] else if jj=5 then sV D else if jj=8 then .int .i64 (n:Int) else lx jj) _ ⟨E,S,f0,f1,(fun _=>rfl),f3,f4,(fun _=>rfl),(fun _=>rfl)⟩
  | 7,ho,hL,haf,hK =>
   cases ho
   (try dsimp only)
   rw [f6 (haf ⟨6,.data⟩ (by simp) rfl)];refine Eq.mpr (if_pos (by rfl)) ?_;have E7:=E hL;have VT:=(VZ.later E7).there;have VR:=World.rangeAt_setCells_same wl (w.heap.size+1) 0 [.int .i64 12,sV D,.bool false,.int .i64 0,.int .i64 0,.int .i64 0,.int .i64 0,.bool false,.bool false,.int .i64 0,.int .i64 0,.bool false,.bool false,.int .i64 (n:Int)] VT;have XR:=Ext.setCells (b:=w.heap.size+1) (by omega) [.int .i64 12,sV D,.bool false,.int .i64 0,.int .i64 0,.int .i64 0,.int .i64 0,.bool false,.bool false,.int .i64 0,.int .i64 0,.bool false,.bool false,.int .i64 (n:Int)] 0 wl (xt X E7);have one:(#[.int .i64 12,sV D,.bool false,.int .i64 0,.int .i64 0,.int .i64 0,.int .i64 0,.bool false,.bool false,.int .i64 0,.int .i64 0,.bool false,.bool false,.int .i64 (n:Int)]:Array Value).all (·.oneCell')=true:=by simp [Value.oneCell']
   refine wpList_store_mid rfl _ _ _ rfl (w.heap.size+1) 0 #[.int .i64 12,sV D,.bool false,.int .i64 0,.int .i64 0,.int .i64 0,.int .i64 0,.bool false,.bool false,.int .i64 0,.int .i64 0,.bool false,.bool false,.int .i64 (n:Int)] rfl rfl VT hi14N one ?_;go_wp2_with fail;exact hK (fun jj=>if jj=9 then .agg #[.int .i64 12,sV D,.bool false,.int .i64 0,.int .i64 0,.int .i64 0,.int .i64 0,.bool false,.bool false,.int .i64 0,.int .i64 0,.bool false,.bool false,.int .i64 (n:Int)] else lx jj) _ ⟨(fun h=>by cases h),(fun _=>⟨VR,XR⟩),f0,f1,f2,f3,f4,f5,(fun _=>rfl)⟩
  | k+8,ho,_,_,_=>simp at ho
 ·intro L lx wq hall hI;obtain ⟨E,S,f0,f1,f2,f3,f4,f5,f6⟩:=hI.out;obtain ⟨VR,XR⟩:=S (hall 7 (by simp));have e0:=rangeAt_cell VR (i:=0) rfl;have e1:=rangeAt_cell VR (i:=1) rfl;have e2:=rangeAt_cell VR (i:=2) rfl;have e3:=rangeAt_cell VR (i:=3) rfl;have e4:=rangeAt_cell VR (i:=4) rfl;have e5:=rangeAt_cell VR (i:=5) rfl;have e6:=rangeAt_cell VR (i:=6) rfl;have e7:=rangeAt_cell VR (i:=7) rfl;have e8:=rangeAt_cell VR (i:=8) rfl;have e9:=rangeAt_cell VR (i:=9) rfl;have e10:=rangeAt_cell VR (i:=10) rfl;have e11:=rangeAt_cell VR (i:=11) rfl;have e12:=rangeAt_cell VR (i:=12) rfl;have e13:=rangeAt_cell VR (i:=13) rfl
  (try dsimp only)
  go_wp2_with fail;exact bodyPost_ret (v:=.agg #[.int .i64 12,sV D,.bool false,.int .i64 0,.int .i64 0,.int .i64 0,.int .i64 0,.bool false,.bool false,.int .i64 0,.int .i64 0,.bool false,.bool false,.int .i64 (n:Int)]) (by simp [results,Tryz.results227,go_sem,e0,e1,e2,e3,e4,e5,e6,e7,e8,e9,e10,e11,e12,e13]) rfl ⟨⟨D,rfl⟩,XR⟩
set_option maxRecDepth 8000 in
set_option maxHeartbeats 1000000 in
theorem isNothingI (v:Value) (k:Int) (w:World) (h:KindV v k):Calls Tryz.prog 41 #[v] w fun e w'=>e=.returned (.bool (decide (k=13)))∧Ext w w':=by
 have M1:=mNodeL;have M2:=mNodeS;have M3:=mNodeP;have M4:=mNodeC;have M5:=mNodeA;have F:=field_kind;cases h with
 | leaf x =>
  go_enter Tryz.func41,Tryz.ntmps41;go_wp2_with fail;refine (node_leaf x w).mono ?_;rintro e w1 ⟨rfl,e1⟩;go_wp2_with fail;go_ret;exact ⟨ret_bool (by first | rfl | simp | (cases hq:_ == _ <;> simp_all)),e1⟩
 | signed k kid =>
  go_enter Tryz.func41,Tryz.ntmps41;go_wp2_with fail;refine (node_signed k kid w).mono ?_;rintro e w1 ⟨rfl,e1⟩;go_wp2_with fail;go_ret;exact ⟨ret_bool (by first | rfl | simp | (cases hq:_ == _ <;> simp_all)),e1⟩
 | pair t lev l r =>
  go_enter Tryz.func41,Tryz.ntmps41;go_wp2_with fail;refine (node_pair t lev l r w).mono ?_;rintro e w1 ⟨rfl,e1⟩;go_wp2_with fail;go_ret;exact ⟨ret_bool (by first | rfl | simp | (cases hq:_ == _ <;> simp_all)),e1⟩
 | call t p n c =>
  go_enter Tryz.func41,Tryz.ntmps41;go_wp2_with fail;refine (node_call t p n c w).mono ?_;rintro e w1 ⟨rfl,e1⟩;go_wp2_with fail;go_ret;exact ⟨ret_bool (by first | rfl | simp | (cases hq:_ == _ <;> simp_all)),e1⟩
 | array r p n c h0 h1 =>
  go_enter Tryz.func41,Tryz.ntmps41;go_wp2_with fail;refine (node_array r p n c w h0 h1).mono ?_;rintro e w1 ⟨⟨t,rfl⟩,e1⟩;go_wp2_with fail;go_ret;exact ⟨ret_bool (by first | rfl | simp | (cases hq:_ == _ <;> simp_all)),e1⟩
def ShapeV (v:Value) (e:ET):Prop:=KindV v e.n.k∧(e.n.k=8→∃ kid x,v=.iface 101 (.agg #[.int .i64 8,kid])∧e.kids=[x]∧KindV kid x.n.k)
theorem KindV.iface {v:Value} {k:Int} (h:KindV v k):∃ T a,v=.iface T a:=by
 cases h <;> exact ⟨_,_,rfl⟩
set_option maxRecDepth 8000 in
set_option maxHeartbeats 1000000 in
theorem kids_signed (k:Int) (T:TypeId) (a:Value) (w:World):Calls Tryz.prog 216 #[.agg #[.int .i64 k,(.iface T a)]] w fun e w'=>∃ b,e=.returned (.slice (some ⟨b,0,none⟩) 1 1)∧Vec w' b [(.iface T a)]∧Ext w w':=by
 obtain ⟨wa,ha,X1,VN,-⟩:=boxed w [.int .i64 k,(.iface T a)] 101;have a1:=(VN 1 _ rfl).1;have V2:=vec_made wa [(.iface T a)] 64;have X2:=x1 wa (.cells [(.iface T a)].toArray 64);go_enter Tryz.func216,Tryz.ntmps216;go_wp2_with fail;go_ret;exact ⟨_,rfl,V2,xt X1 X2⟩
set_option maxRecDepth 8000 in
set_option maxHeartbeats 2000000 in
theorem noVal_minus (kid:Value) (j:Int) (w:World) (h:KindV kid j):Calls Tryz.prog 84 #[.iface 101 (.agg #[.int .i64 8,kid])] w fun e w'=>e=.returned (.bool (!decide (j=1)))∧Ext w w':=by
 have M1:=mNodeL;have M2:=mNodeS;have M3:=mNodeP;have M4:=mNodeC;have M5:=mNodeA;have M6:=mKidsS;have F:=field_kind;go_enter Tryz.func84,Tryz.ntmps84;go_wp2_with fail;refine (node_signed 8 kid w).mono ?_;rintro e w1 ⟨rfl,e1⟩;go_wp2_with fail;obtain ⟨T,a,rfl⟩:=h.iface;refine (kids_signed 8 T a w1).mono ?_;rintro e w2 ⟨b,rfl,V,e2⟩;have c0:=(V 0 _ rfl).1;have X2:=xt e1 e2;clear V e1 e2;cases h with
 | leaf x =>
  go_wp2_with fail;refine (node_leaf x w2).mono ?_;rintro e w3 ⟨rfl,e3⟩;go_wp2_with fail;go_ret;exact ⟨ret_bool (by first | rfl | simp | (cases hq:_ == _ <;> simp_all)),xt X2 e3⟩
 | signed k kid2 =>
  go_wp2_with fail;refine (node_signed j kid2 w2).mono ?_;rintro e w3 ⟨rfl,e3⟩;go_wp2_with fail;go_ret;exact ⟨ret_bool (by first | rfl | simp | (cases hq:_ == _ <;> simp_all)),xt X2 e3⟩
 | pair t lev l r =>
  go_wp2_with fail;refine (node_pair t lev l r w2).mono ?_;rintro e w3 ⟨rfl,e3⟩;go_wp2_with fail;go_ret;exact ⟨ret_bool (by first | rfl | simp | (cases hq:_ == _ <;> simp_all)),xt X2 e3⟩
 | call t p n c =>
  go_wp2_with fail;refine (node_call t p n c w2).mono ?_;rintro e w3 ⟨rfl,e3⟩;go_wp2_with fail;go_ret;exact ⟨ret_bool (by first | rfl | simp | (cases hq:_ == _ <;> simp_all)),xt X2 e3⟩
 | array r p n c h0 h1 =>
  go_wp2_with fail;refine (node_array r p n c w2 h0 h1).mono ?_;rintro e w3 ⟨⟨t,rfl⟩,e3⟩;go_wp2_with fail;go_ret;exact ⟨ret_bool (by first | rfl | simp | (cases hq:_ == _ <;> simp_all)),xt X2 e3⟩
set_option maxRecDepth 8000 in
set_option maxHeartbeats 2000000 in
theorem noVal_other (v:Value) (k:Int) (w:World) (h:KindV v k) (h8:k ≠ 8):Calls Tryz.prog 84 #[v] w fun e w'=>e=.returned (.bool (if k=1∨k=2∨k=3∨k=4 then false else true))∧Ext w w':=by
 have M1:=mNodeL;have M2:=mNodeS;have M3:=mNodeP;have M4:=mNodeC;have M5:=mNodeA;have F:=field_kind;cases h with
 | leaf x =>
  obtain ⟨k,hk⟩:∃ k,x.k=k:=⟨_,rfl⟩;have ND:=node_leaf x w;rw [hk] at ND h8 ⊢;show Calls Tryz.prog 84 #[.iface 98 (.agg #[.int .i64 x.k,sV x.t,.bool x.n,.int .i64 x.d,.int .i64 x.x,.int .i64 x.r,.int .i64 x.c,.bool x.f,.bool x.g,.int .i64 x.r2,.int .i64 x.c2,.bool x.f2,.bool x.g2,.int .i64 x.q])] w _;rw [hk];clear hk;by_cases h14:k=1∨k=2∨k=3∨k=4
  ·rw [if_pos h14]
   rcases h14 with rfl | rfl | rfl | rfl
   all_goals
    go_enter Tryz.func84,Tryz.ntmps84;go_wp2_with fail;refine ND.mono ?_;rintro e w3 ⟨rfl,e3⟩;go_wp2_with fail;go_ret;exact ⟨rfl,e3⟩
  ·rw [if_neg h14];have q1:¬ k=1:=fun q=>h14 (.inl q);have q2:¬ k=2:=fun q=>h14 (.inr (.inl q));have q3:¬ k=3:=fun q=>h14 (.inr (.inr (.inl q)));have q4:¬ k=4:=fun q=>h14 (.inr (.inr (.inr q)));clear h14;go_enter Tryz.func84,Tryz.ntmps84;go_wp2_with fail;refine ND.mono ?_;rintro e w3 ⟨rfl,e3⟩;go_wp2_with fail;go_ret;exact ⟨rfl,e3⟩
 | signed k kid =>
  have ND:=node_signed k kid w;by_cases h14:k=1∨k=2∨k=3∨k=4
  ·rw [if_pos h14]
   rcases h14 with rfl | rfl | rfl | rfl
   all_goals
    go_enter Tryz.func84,Tryz.ntmps84;go_wp2_with fail;refine ND.mono ?_;rintro e w3 ⟨rfl,e3⟩;go_wp2_with fail;go_ret;exact ⟨rfl,e3⟩
  ·rw [if_neg h14];have q1:¬ k=1:=fun q=>h14 (.inl q);have q2:¬ k=2:=fun q=>h14 (.inr (.inl q));have q3:¬ k=3:=fun q=>h14 (.inr (.inr (.inl q)));have q4:¬ k=4:=fun q=>h14 (.inr (.inr (.inr q)));clear h14;go_enter Tryz.func84,Tryz.ntmps84;go_wp2_with fail;refine ND.mono ?_;rintro e w3 ⟨rfl,e3⟩;go_wp2_with fail;go_ret;exact ⟨rfl,e3⟩
 | pair t lev l r =>
  go_enter Tryz.func84,Tryz.ntmps84;go_wp2_with fail;refine (node_pair t lev l r w).mono ?_;rintro e w3 ⟨rfl,e3⟩;go_wp2_with fail;go_ret;exact ⟨by simp,e3⟩
 | call t p n c =>
  go_enter Tryz.func84,Tryz.ntmps84;go_wp2_with fail;refine (node_call t p n c w).mono ?_;rintro e w3 ⟨rfl,e3⟩;go_wp2_with fail;go_ret;exact ⟨by simp,e3⟩
 | array r p n c h0 h1 =>
  go_enter Tryz.func84,Tryz.ntmps84;go_wp2_with fail;refine (node_array r p n c w h0 h1).mono ?_;rintro e w3 ⟨⟨t,rfl⟩,e3⟩;go_wp2_with fail;go_ret;exact ⟨by simp,e3⟩
theorem noValI (v:Value) (e:ET) (w:World) (h:ShapeV v e):Calls Tryz.prog 84 #[v] w fun r w'=>r=.returned (.bool (noValE e))∧Ext w w':=by
 by_cases h8:e.n.k=8
 ·obtain ⟨kid,x,rfl,hk,hx⟩:=h.2 h8;have:=noVal_minus kid _ w hx;have he:noValE e=!decide (x.n.k=1):=by
   unfold noValE;rw [if_neg (by omega),if_pos h8,hk];simp
  rw [he];exact this
 ·have:=noVal_other v _ w h.1 h8;have he:noValE e=if e.n.k=1∨e.n.k=2∨e.n.k=3∨e.n.k=4 then false else true:=by
   unfold noValE;by_cases h14:e.n.k=1∨e.n.k=2∨e.n.k=3∨e.n.k=4
   ·rw [if_pos h14,if_pos h14]
   ·rw [if_neg h14,if_neg h14,if_neg h8]
  rw [he];exact this
theorem isNoI (v:Value) (e:ET) (w:World) (h:ShapeV v e):Calls Tryz.prog 41 #[v] w fun r w'=>r=.returned (.bool (isNoE e))∧Ext w w':=isNothingI v _ w h.1
end Go.Proofs.YtogecaajnjcenaaGreatDoor

