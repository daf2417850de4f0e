import Derived.Test.YteliaeejooekbaaGreatDoorMg33
import Derived.Test.YteliaeejooekbaaGreatDoorMg16
import Derived.Test.YteliaeejooekbaaGreatDoorMg12
import Derived.Deep.RegionHeld3
import Derived.Test.YteliaeejooekbaaGreatDoorMg31
import Derived.Test.YteliaeejooekbaaGreatDoorMg26
import Derived.Test.YteliaeejooekbaaGreatDoorFo
import Derived.Lib.AppendZeros
import Derived.RangeFuncNested
import Derived.RangeFuncBox
import Derived.OrdersIn
import Derived.TacticsIn
import Derived.OwnWalkIn
import Derived.Deep.MidRow
import Derived.Test.YteliaeejooekbaaGreatDoorMg13
set_option maxRecDepth 8000
set_option maxHeartbeats 2000000
namespace Go.Proofs.YteliaeejooekbaaGreatDoor
open Go.RowKit
theorem zF4:∀ {L:List NT} {i:Nat} {q:NT},L[i]?=some q->∀ (c:Nat),c<14->(L.flatMap NT.cells)[i * 14+c]?=q.cells[c]?
 | x :: L,0,q,h,c,hc=>by
  cases h;rw [List.flatMap_cons,Nat.zero_mul,Nat.zero_add];exact List.getElem?_append_left hc
 | x :: L,i+1,q,h,c,hc=>by
  have:(i+1) * 14+c=x.cells.length+(i * 14+c):=by show _=14+_;omega
  rw [List.flatMap_cons,this,List.getElem?_append_right (by omega),Nat.add_sub_cancel_left];exact zF4 (by simpa using h) c hc
theorem zAU:∀ (L:List NT),(L.flatMap NT.cells).length=L.length * 14
 | []=>rfl
 | x :: L=>by
  have h:x.cells.length=14:=rfl;rw [List.flatMap_cons,List.length_append,zAU L,h];show 14+L.length * 14=(L.length+1) * 14;omega
def zJA (w:World) (v:Value) (n:Nat) (M:List Value) (g:Nat):Prop:=
 M.length=n * 14/\∃ p cap,v=.slice p n cap/\n<=cap/\(0<n->p=some ⟨g,0,none⟩/\Vec w g M)
theorem zJA.nodes {w:World} {v:Value} {l:List NT} {g:Nat} (h:zJA w v l.length (l.flatMap NT.cells) g):zAT w v l:=by
 obtain ⟨h1,p,cap,h3,hc,h4⟩:=h;refine ⟨p,cap,h3,hc,fun h0=>?_⟩;obtain ⟨h5,V⟩:=h4 h0;refine ⟨g,0,h5,fun i e hi c u hcu=>?_⟩;have:=(V (i * 14+c) u (by rw [zF4 hi c (zEU hcu)];exact hcu)).1;rw [Nat.zero_add];exact this
def zNR:NT:=⟨4,[35,82,69,70,33],false,0,0,0,0,false,false,0,0,false,false,0⟩
structure AT where
 r:Int
 c:Int
 f:Bool
 g:Bool
 r2:Int
 c2:Int
 f2:Bool
 g2:Bool
abbrev AT.val (a:AT):Value:=.agg #[iQ a.r,iQ a.c,.bool a.f,.bool a.g,iQ a.r2,iQ a.c2,.bool a.f2,.bool a.g2]
def NT.at (x:NT):AT:=⟨x.r,x.c,x.f,x.g,x.er,x.ec,x.ef,x.eg⟩
def zEQ (k:Int) (a:AT):NT:=if k=5 then ⟨5,[],false,0,0,a.r,a.c,a.f,a.g,0,0,false,false,0⟩ else ⟨6,[],false,0,0,a.r,a.c,a.f,a.g,a.r2,a.c2,a.f2,a.g2,0⟩
def zLF (k:Int):Option AT->NT
 | none=>zNR
 | some a=>zEQ k a
def rwN (T:AT->Option AT) (x:NT):NT:=if x.k=5\/x.k=6 then zLF x.k (T x.at) else x
def rwP (T:AT->Option AT) {f:List NT} (ys:List (YA f)):List NT:=ys.foldl (fun l y=>l.set y.i (rwN T y.x)) f
theorem zKH (T:AT->Option AT) {f:List NT} (ys:List (YA f)) (y:YA f):rwP T (ys++[y])=(rwP T ys).set y.i (rwN T y.x):=by
 unfold rwP;rw [List.foldl_append];rfl
theorem zRW (T:AT->Option AT) {f:List NT} (ys:List (YA f)):(rwP T ys).length=f.length:=by
 unfold rwP;have:∀ (ys:List (YA f)) (l:List NT),(ys.foldl (fun l y=>l.set y.i (rwN T y.x)) l).length=l.length:=by
  intro ys
  induction ys with
  | nil=>intro l;rfl
  | cons y ys ih=>intro l;rw [List.foldl_cons,ih,List.length_set]
 exact this ys f
theorem zKG (T:AT->Option AT) (f:List NT):∀ k,k<=f.length->rwP T (adrT f k)=(f.take k).map (rwN T)++f.drop k
 | 0,_=>by rw [List.take_zero,List.drop_zero];rfl
 | k+1,h=>by
  obtain ⟨x,hx⟩:∃ x,f[k]?=some x:=⟨_,List.getElem?_eq_getElem (by omega)⟩;have ih:=zKG T f k (by omega);have hd:f.drop k=x :: f.drop (k+1):=by
   rw [List.drop_eq_getElem_cons (by omega)]
   congr 1
   rw [List.getElem?_eq_getElem (by omega)] at hx;exact Option.some.inj hx
  have ht:(f.take (k+1)).map (rwN T)=(f.take k).map (rwN T)++[rwN T x]:=by
   rw [List.take_add_one,hx,List.map_append];rfl
  by_cases hk:x.k=5\/x.k=6
  ·rw [zL7 hx hk,zKH,ih,ht];show ((f.take k).map (rwN T)++f.drop k).set k (rwN T x)=_;have hl:((f.take k).map (rwN T)).length=k:=by rw [List.length_map,List.length_take];omega
   rw [List.set_append_right _ _ (by omega),hl,Nat.sub_self,hd,List.set_cons_zero,List.append_assoc];rfl
  ·rw [zOZ hx hk,ih,ht,hd,List.append_assoc];have:rwN T x=x:=by unfold rwN;rw [if_neg hk]
   rw [this];rfl
theorem zRX (T:AT->Option AT) (f:List NT):rwP T (adrT f f.length)=f.map (rwN T):=by
 rw [zKG T f f.length (Nat.le_refl _),List.take_length,List.drop_length,List.append_nil]
noncomputable def rwR (T:AT->Option AT) (f:List NT):List NT:=if zAZ NT.good f=true then f.map (rwN T) else []
abbrev zBI (w:World) (base:Nat) (v:Value) (l:List NT):Prop:=w.ownsRow base 73 14 v l.length (l.flatMap NT.cells)
theorem zIF (w:World) (base:Nat):zBI w base (.slice none 0 0) []:=World.ownsRow_nil _ _ _ _
theorem zBL {w:World} {base:Nat} {v:Value} {l:List NT} (h:zBI w base v l):∀ r,v.ownBlock=some r->base<=r/\r<w.heap.size:=by
 intro r hr
 rcases h.2 with ⟨rfl,_⟩ | ⟨g,cap,cur,rfl,h2,h3,_⟩
 ·cases hr
 ·have:g=r:=by simpa [Value.ownBlock] using hr
  subst this;refine ⟨h2,?_⟩
  rcases Nat.lt_or_ge g w.heap.size with h' | h'
  ·exact h'
  ·rw [Array.getElem?_eq_none h'] at h3;cases h3
theorem zG7 {w w':World} {base:Nat} {v:Value} {l:List NT} (h:zBI w base v l) (hx:∀ r,v.ownBlock=some r->w'.heap[r]?=w.heap[r]?):zBI w' base v l:=by
 refine ⟨h.1,h.2.imp id ?_⟩;rintro ⟨g,cap,cur,rfl,h2,h3,h4⟩;exact ⟨g,cap,cur,rfl,h2,by rw [hx g rfl];exact h3,h4⟩
theorem zBE {w w':World} {base:Nat} {v:Value} {l:List NT} (h:zBI w base v l) (hx:Ext w w'):zBI w' base v l:=zG7 h fun r hr=>hx.block r (zBL h r hr).2
theorem zB6 {w:World} {base:Nat} {v:Value} {l:List NT} (h:zBI w base v l):∃ p c,v=.slice p l.length c/\l.length<=c:=by
 rcases h.2 with ⟨rfl,h0⟩ | ⟨g,cap,cur,rfl,_,_,h3,_⟩
 ·exact ⟨none,0,by rw [h0],by omega⟩
 ·exact ⟨_,_,rfl,h3⟩
theorem zRC:∃ inf z,Tryz.prog.info? 73=some inf/\inf.zero=some z/\z.cells.size=14/\inf.size=14/\inf.bytes<=1000:=by
 have h:(Tryz.prog.info? 73).map (fun i=>(i.zero.map (·.cells.size),i.size,decide (i.bytes<=1000)))=some (some 14,14,true):=by kernel_rfl
 cases h':Tryz.prog.info? 73 with
 | none=>rw [h'] at h;cases h
 | some inf =>
  rw [h'] at h;simp at h;obtain ⟨h1,h2,h3⟩:=h;obtain ⟨z,hz,hz2⟩:=h1;exact ⟨inf,z,rfl,hz,hz2,h2,h3⟩
theorem zH6 (x:NT):∀ u ∈ x.cells,u.oneCell'=true:=by
 intro u hu;simp only [NT.cells,List.mem_cons,List.not_mem_nil,or_false] at hu
 rcases hu with rfl | rfl | rfl | rfl | rfl | rfl | rfl | rfl | rfl | rfl | rfl | rfl | rfl | rfl <;> rfl
theorem zGS (w:World) (base:Nat) (v:Value) (l:List NT) (O:zBI w base v l) (x:NT) (b:Nat) (V:w.rangeAt b 0 x.cells) (hl:l.length<=900000) (hb:base<=w.heap.size) :
  ∃ v' w',(Builtin.append_ #[32,32] 32 #[v,.slice (some ⟨b,0,none⟩) 1 1]).run Tryz.prog w=.ok v' w'/\zBI w' base v' (l++[x])/\w.grownBy w' v.ownBlock/\(v'.ownBlock=v.ownBlock\/v'.ownBlock=some w.heap.size):=by
 obtain ⟨inf,z,hi,hz,hzs,hsz,hby⟩:=zRC;obtain ⟨v',w',hrun,O',GW,hbl⟩:=zHV (P:=Tryz.prog) w base 32 32 32 73 inf z Tryz.underlying32 hi hz 14 hsz hby hzs v l.length _ O (.slice (some ⟨b,0,none⟩) 1 1) 1 x.cells
  (Src.ofSlice (size:=14) w Tryz.underlying32 ⟨b,0,none⟩ 1 1 x.cells rfl (fun j u hj=>by rw [Addr.add_lit];exact V j u hj) (zH6 x)) (by omega) hb
 refine ⟨v',w',hrun,?_,GW,hbl⟩;show World.ownsRow _ _ _ _ _ _ _;rw [List.length_append,List.flatMap_append,List.flatMap_cons,List.flatMap_nil,List.append_nil];exact O'
theorem zG9 {w:World} {base:Nat} {v:Value} {l:List NT} (h:zBI w base v l):∃ g,zJA w v l.length (l.flatMap NT.cells) g/\(0<l.length->base<=g/\g<w.heap.size):=by
 rcases h.2 with ⟨rfl,h0⟩ | ⟨g,cap,cur,rfl,h2,h3,h4,h5,h6,h7⟩
 ·have hl:l=[]:=List.eq_nil_of_length_eq_zero h0;subst hl;exact ⟨0,⟨rfl,none,0,rfl,Nat.le_refl _,fun h=>(by cases h)⟩,fun h=>(by cases h)⟩
 ·refine ⟨g,⟨zAU l,_,cap,rfl,h4,fun _=>⟨rfl,fun i u hi=>⟨?_,?_⟩⟩⟩,fun _=>⟨h2,(zBL h g rfl).2⟩⟩
  ·have:=h.cells (g:=g) rfl i u hi;rw [Addr.add_lit,Nat.zero_add] at this;exact this
  ·simp [World.frozen?,h3]
theorem RowN.cellsAt {w:World} {b o:Nat} {l:List NT} (h:RowN w b o l):∀ (j:Nat) (u:Value),(l.flatMap NT.cells)[j]?=some u->w.cell? ⟨b,o+j,none⟩=some u:=fun j u hu=>by
 have hj:j<l.length * 14:=by rw [<- zAU];exact (List.getElem?_eq_some_iff.1 hu).1
 obtain ⟨e,he⟩:∃ e,l[j / 14]?=some e:=⟨_,List.getElem?_eq_getElem (by omega)⟩;have e1:j=j / 14 * 14+j % 14:=by omega
 have h2:=zF4 he (j % 14) (by omega);rw [<- e1,hu] at h2;have:=h (j / 14) e he (j % 14) u h2.symm;rw [show o+j=o+j / 14 * 14+j % 14 by omega];exact this
theorem zN4 {w:World} {b o:Nat} {l:List NT} (h:RowN w b o l) (n cap:Nat) (hn:l.length=n):Src Tryz.prog 14 32 (.slice (some ⟨b,o,none⟩) n cap) n (l.flatMap NT.cells) w:=
 Src.ofSlice (size:=14) w Tryz.underlying32 ⟨b,o,none⟩ n cap _ (by rw [zAU,hn]) (fun j u hj=>by rw [Addr.add_lit];exact h.cellsAt j u hj) (fun u hu=>by
  obtain ⟨x,_,hx⟩:=List.mem_flatMap.1 hu;exact zH6 x u hx)
theorem zC4 {w w1 w2:World} {row:Option Nat} (x:Ext w w1) (g:w1.grownBy w2 row) (hr:∀ r,row=some r->w.heap.size<=r):Ext w w2:=
 ⟨g.os.trans x.os,g.tape.trans x.tape,g.output.trans x.output,Nat.le_trans x.size g.size,fun k hk=>(g.block k (Nat.lt_of_lt_of_le hk x.size) (fun e=>by have:=hr k e.symm;omega)).trans (x.block k hk)⟩
theorem zTP (b o n cap:Nat) (l:List NT) (w:World) (h:RowN w b o l) (hn:l.length=n) (_:n<=cap) (hl:n<=2000) :
  Calls Tryz.prog 59 #[.slice (some ⟨b,o,none⟩) n cap] w fun e w'=>∃ g c,e=.returned (.slice (some ⟨g,0,none⟩) n c)/\zBI w' w.heap.size (.slice (some ⟨g,0,none⟩) n c) l/\Ext w w':=by
 have hq:∀ W,Sem.run Tryz.prog (binOp BinOp.eql 32 (.slice (some ⟨b,o,none⟩) n cap) (.slice none 0 0)) W=.ok (.bool false) W:=fun W=>by kernel_rfl
 obtain ⟨inf,z,hi,hz,hzs,hsz,hby⟩:=zRC;have X0:=x1 w (.cells #[] 73);obtain ⟨v',w',hrun,O',GW,hb⟩:=zHV (P:=Tryz.prog) (w.alloc (.cells #[] 73)) w.heap.size 32 32 32 73 inf z Tryz.underlying32 hi hz 14 hsz hby hzs _ 0 [] (World.ownsRow_made w #[] 0 (Nat.le_refl _) (by simp) (by simp)) (.slice (some ⟨b,o,none⟩) n cap) n _ (zN4 (h.l X0) n cap hn) (by omega) X0.size;have HB:∃ g,v'.ownBlock=some g:=by
  rcases hb with hb | hb
  ·exact ⟨_,hb⟩
  ·exact ⟨_,hb⟩
 obtain ⟨g,hg⟩:=HB;rw [Nat.zero_add,List.nil_append] at O';have O2:zBI w' w.heap.size v' l:=by
  show World.ownsRow _ _ _ _ _ _ _;rw [hn];exact O'
 obtain ⟨p2,c2,ev,_⟩:=zB6 O2;subst ev;have hp:p2=some ⟨g,0,none⟩:=by
  rcases O2.2 with ⟨e,_⟩ | ⟨g',cap',cur,e,_⟩
  ·rw [e] at hg;cases hg
  ·cases e;cases hg;rfl
 subst hp;rw [hn] at hrun O2;have XE:=zC4 X0 GW (fun k hk=>by cases hk;exact Nat.le_refl _);have HO:Hid _:=O2;clear O' hg hb O2 GW hi hz hsz hby h;go_enter Tryz.func59,Tryz.ntmps59;go_wp2_with (at_builtin;refine Lib.wpList_append_run _ rfl _ _ _ _ rfl _ _ rfl rfl _ _ hrun ?_);go_ret;exact ⟨g,c2,rfl,HO.out,XE⟩
theorem zIY {α:Type} (f:α->List Value) (k:Nat) (hf:∀ x,(f x).length=k):∀ (l:List α) (i:Nat) (x:α),i<l.length->(l.set i x).flatMap f=(l.flatMap f).take (i * k)++f x++(l.flatMap f).drop (i * k+k)
 | y :: l,0,x,_=>by
  rw [List.set_cons_zero,List.flatMap_cons,List.flatMap_cons,Nat.zero_mul,List.take_zero,Nat.zero_add,List.nil_append,<- hf y,List.drop_left]
 | y :: l,i+1,x,h=>by
  have ih:=zIY f k hf l i x (by simpa using h);rw [List.set_cons_succ,List.flatMap_cons,List.flatMap_cons,ih];have e1:(i+1) * k=(f y).length+i * k:=by rw [hf,Nat.add_mul];omega
  have e2:(i+1) * k+k=(f y).length+(i * k+k):=by rw [hf,Nat.add_mul];omega
  rw [e2,e1,List.take_length_add_append,List.drop_length_add_append];simp only [List.append_assoc]
theorem zKF:∀ (us M:List Value) (o:Nat),o+us.length<=M.length->zLK M o us=M.take o++us++M.drop (o+us.length)
 | [],M,o,_=>by
  rw [zLK,List.append_nil,List.length_nil,Nat.add_zero,List.take_append_drop]
 | u :: us,M,o,h=>by
  rw [List.length_cons] at h;have ih:=zKF us (M.set o u) (o+1) (by rw [List.length_set];omega);rw [zLK,ih];have e1:(M.set o u).take (o+1)=M.take o++[u]:=by
   rw [List.take_add_one,List.getElem?_set_self (by omega),List.take_set_of_le (Nat.le_refl _)];rfl
  have e2:(M.set o u).drop (o+1+us.length)=M.drop (o+(u :: us).length):=by
   rw [List.drop_set_of_lt (by omega),List.length_cons]
   congr 1
   omega
  rw [e1,e2,List.append_assoc,List.append_assoc,List.append_assoc];rfl
theorem zH3 (l:List NT) (i:Nat) (x:NT) (hi:i<l.length):zLK (l.flatMap NT.cells) (i * 14) x.cells=(l.set i x).flatMap NT.cells:=by
 have hx:x.cells.length=14:=rfl;rw [zKF _ _ _ (by rw [zAU,hx];omega),hx,zIY NT.cells 14 (fun _=>rfl) l i x hi]
theorem zMC {β:Type} (g:Nat) (F:β->List Value):Own (fun s W=>Vec W g (F s)):=fun s X Y row V hg hrow i u hu=>by
 have c:=V i u hu;have hlt:g<X.heap.size:=World.block_lt_of_cell? _ _ c.1;have hb:Y.heap[g]?=X.heap[g]?:=hg.block g hlt (fun e=>by
  obtain ⟨o,ho,hc⟩:=hrow g e.symm;have h1:=c.1;unfold World.cell? at h1;simp only [ho] at h1;cases o <;> simp_all [Obj.isCells])
 unfold World.cell? World.frozen? at *;simp only [hb];exact c
def zBW (l:List NT) (w:World) (e:Ending) (w':World):Prop:=∃ v g,e=.returned v/\zJA w' v l.length (l.flatMap NT.cells) g/\(0<l.length->w.heap.size<=g/\g<w'.heap.size)/\Ext w w'
theorem zEG {w:World} {g o:Nat} {us L:List Value} (V:Vec w g L) (hL:0<L.length):KeepsOthers w (w.setCells g o us):=
 KeepsOthers.of_grownBy (zA8 g us o w) fun j ob ej hj=>by
  cases ej;obtain ⟨u,hu⟩:∃ u,L[0]?=some u:=⟨_,List.getElem?_eq_getElem hL⟩;have h1:=(V 0 u hu).1;unfold World.cell? at h1;simp only [hj] at h1;cases ob <;> simp_all [Obj.isCells]
theorem zBU {n₀ g o:Nat} {w w':World} {us:List Value} (h:Below n₀ w w') (hg:n₀<=g) (hs:n₀<=w'.heap.size):Below n₀ w (w'.setCells g o us):=
 have G:=zA8 g us o w'
 ⟨G.os.trans h.os,G.tape.trans h.tape,G.output.trans h.output,Nat.le_trans h.size G.size,fun k hk=>(G.block k (by omega) (fun e=>by cases e;omega)).trans (h.block k hk)⟩
section
variable {F:Fence} {n:Nat} {P:Program} {ops:Array Oper} {Q:Exit->Act->World->Prop} {md:Region.Mode}
theorem zJC (J:Array Bool->Act->World->Prop)
  (step:∀ listed a w i o,J listed a w->i ∈ Region.ready md ops listed->ops[i]?=some o->wpOpIn F n P ops Q i (fun a' w'=>J (listed.setIfInBounds i true) a' w') a w)
  (fin:∀ listed a w,Region.ready md ops listed=[]->J listed a w->Q .normal a w) :
  ∀ (fuel:Nat) (listed:Array Bool) (a:Act) (w:World),listed.toList.count false<=fuel->J listed a w->wpAnyIn F n P md ops Q fuel listed a w:=by
 intro fuel
 induction fuel with
 | zero =>
  intro listed a w hf hJ;have hr:Region.ready md ops listed=[]:=by
   cases hr:Region.ready md ops listed with
   | nil=>rfl
   | cons x xs =>
    have:=count_set (mem_ready.1 (hr ▸ List.mem_cons_self:x ∈ Region.ready md ops listed)).1;omega
  exact ⟨hr,fin listed a w hr hJ⟩
 | succ fuel ih =>
  intro listed a w hf hJ;refine ⟨fun hr=>fin listed a w hr hJ,fun i hi=>?_⟩;obtain ⟨hun,o,ho,_⟩:=mem_ready.1 hi;refine wpOpIn_mono (fun a' w' hh=>ih _ a' w' ?_ hh) (step listed a w i o hJ hi ho);have:=count_set hun;omega
theorem zG1 {id:Nat} {a:Act} {w:World} (J:Array Bool->Act->World->Prop) (hm:P.follows .mixedOrders=true)
  (hJ:J (Array.replicate ops.size false) a { w with drawn:=w.drawn+1 })
  (step:∀ listed a w i o,J listed a w->i ∈ Region.ready .any ops listed->ops[i]?=some o->wpOpIn F n P ops Q i (fun a' w'=>J (listed.setIfInBounds i true) a' w') a w)
  (fin:∀ listed a w,Region.ready .any ops listed=[]->J listed a w->Q .normal a w):(Code.region id ops true).wpIn F n P Q a w:=
 wpIn_region_any hm (zJC J step fin ops.size _ a _ (by simp) hJ)
theorem zHG {i:Nat} {o:Oper} {K:Act->World->Prop} {a:Act} {w:World} (ho:ops[i]?=some o) (hg:o.guard=none)
  (h:wpListIn F n P #[o] (Exit.then K Q) [o] a w):wpOpIn F n P ops Q i K a w:=by
 unfold wpOpIn;simp only [ho,Region.wanted,hg,if_true];simp only [wpListIn,Region.wanted,hg,if_true] at h;unfold Oper.wpIn at *;refine ⟨h.1,?_⟩;have h:=h.2;generalize (o.semAt F.round a.eval).run P w=r at *;cases r with
 | ok x w' =>
  cases x <;> simp only [Oper.uponIn] at h ⊢ <;>
   first
    | exact h
    | exact ⟨h.1,CallsIn.mono h.2 (fun e w'' he=>by cases e <;> exact he)⟩
    | exact ⟨h.1,RoundIn.mono h.2 (fun e w'' he=>by cases e <;> exact he)⟩
 | halt x w'=>cases x <;> simp only [Oper.uponIn] at h ⊢ <;> exact h
theorem zEJ {X:Type} {id:Nat} {a:Act} {w:World} (Fr:X->Act) (I:(Nat->Bool)->X->World->Prop) (hm:P.follows .mixedOrders=true) (hc:rhOk .any ops=true) (hgd:(List.range ops.size).all (fun i=>(ops[i]?.map fun o=>o.guard.isNone).getD true)=true)
  (x0:X) (h0:a=Fr x0) (hI:I (fun _=>false) x0 { w with drawn:=w.drawn+1 })
  (step:∀ L x w i o (K:Act->World->Prop),(∀ x' w',I (fun j=>if j=i then true else L j) x' w'->K (Fr x') w')->ops[i]?=some o->L i=false->(∀ e ∈ o.after,Region.binds .any e=true->L e.on=true)->I L x w->zDP ops L ->
   wpListIn F n P #[o] (Exit.then K Q) [o] (Fr x) w)
  (fin:∀ L x w,(∀ j,j<ops.size->L j=true)->I L x w->Q .normal (Fr x) w):(Code.region id ops true).wpIn F n P Q a w:=by
 have hgs:∀ (i:Nat) (o:Oper),ops[i]?=some o->o.guard=none:=fun i o hi=>by
  have hlt:i<ops.size:=by
   rcases Nat.lt_or_ge i ops.size with h' | h'
   ·exact h'
   ·rw [Array.getElem?_eq_none h'] at hi;cases hi
  have:=(List.all_eq_true.1 hgd) i (List.mem_range.2 hlt);rw [hi] at this;simpa using this
 refine zG1 (fun listed a w=>listed.size=ops.size/\∃ x,a=Fr x/\I (fun j=>listed.getD j false) x w/\zDP ops (fun j=>listed.getD j false)) hm ?_ ?_ ?_
 ·have e:(fun j=>(Array.replicate ops.size false).getD j false)=fun _=>false:=by
   funext j
   rw [Array.getD_eq_getD_getElem?]
   rcases Nat.lt_or_ge j ops.size with h' | h'
   ·rw [Array.getElem?_eq_getElem (by simpa using h')];simp
   ·rw [Array.getElem?_eq_none (by simpa using h')];simp
  refine ⟨by simp,x0,h0,?_,?_⟩
  ·rw [e];exact hI
  ·rw [e];exact fun i o _ h=>by cases h
 ·rintro listed a w i o ⟨hs,x,rfl,hx,hcl⟩ hi ho;obtain ⟨hun,o',ho',hall⟩:=mem_ready.1 hi;have:o'=o:=by rw [ho] at ho';exact (Option.some.inj ho').symm
  subst this;have hlt:i<listed.size:=by
   rcases Nat.lt_or_ge i listed.size with h' | h'
   ·exact h'
   ·rw [Array.getD_eq_getD_getElem?,Array.getElem?_eq_none h'] at hun;cases hun
  have hun':listed.getD i false=false:=by
   rw [Array.getD_eq_getD_getElem?,Array.getElem?_eq_getElem hlt] at hun ⊢;exact hun
  refine wpOpIn_mono ?_ (zHG ho (hgs i o' ho) (step _ x w i o' (fun a' w'=>∃ x',a'=Fr x'/\I (fun j=>if j=i then true else listed.getD j false) x' w') (fun x' w' h=>⟨x',rfl,h⟩) ho hun' hall hx hcl));rintro a' w' ⟨x',rfl,hx'⟩;have e:(fun j=>(listed.setIfInBounds i true).getD j false)=fun j=>if j=i then true else listed.getD j false:=by
   funext j
   by_cases hj:j=i
   ·subst hj;rw [if_pos rfl,Array.getD_eq_getD_getElem?,Array.getElem?_setIfInBounds_self_of_lt hlt];rfl
   ·rw [if_neg hj,getD_set_ne false (fun e=>hj e.symm)]
  refine ⟨by simp [hs],x',rfl,?_,?_⟩
  ·rw [e];exact hx'
  ·rw [e];intro j oj hj hLj e2 he hb;show (if e2.on=i then true else listed.getD e2.on false)=true
   split
   ·rfl
   ·by_cases hji:j=i
    ·subst hji;rw [ho] at hj;cases hj;exact hall e2 he hb
    ·have:listed.getD j false=true:=(by simpa [hji] using hLj);exact hcl j oj hj this e2 he hb
 ·rintro listed a w hr ⟨hs,x,rfl,hx,_⟩;exact fin _ x w (zFN hc hs hr) hx
theorem zD4 {rest:List Oper} {op:Oper} {a:Act} {w:World} (hgd:op.guard=none) (ty:TypeId) (x:Operand) (ho:op.op=.load ty x)
  (b o:Nat) (hx:a.eval x=.pointer (some ⟨b,o,none⟩)) (cs:List Value) (d:TypeDesc) (hc:w.rangeAt b o cs)
  (hu:P.underlying ty=some d) (hd:d.isRow=true) (hi:(P.info? ty).map (·.size)=some cs.length)
  (h:wpListIn F n P ops Q rest (a.put op.dst (.agg cs.toArray)) w):wpListIn F n P ops Q (op :: rest) a w:=by
 refine wpListIn_plain hgd fun K hK=>?_;unfold Oper.wpIn;refine ⟨by simp [Oper.about,ho],?_⟩;rw [Oper.semAt_plain F _ _ (by rw [ho];intro c hc';cases hc')];unfold execOp;simp only [ho,hx,Instr.loadAt,Instr.sureAddr,Sem.run_bind,Sem.run_pure,Result.andThen_ok,run_loadVar_mid w b o ty cs d hc hu hd hi];exact hK _ _ h
theorem zCW {rest:List Oper} {op:Oper} {a:Act} {w:World} (hgd:op.guard=none) (ty:TypeId) (x y:Operand) (ho:op.op=.store ty x y)
  (b o:Nat) (cells:Array Value) (hx:a.eval x=.pointer (some ⟨b,o,none⟩)) (hy:a.eval y=.agg cells)
  (ht:w.there b o cells.size) (hi:(P.info? ty).map (·.size)=some cells.size) (h1:cells.all (·.oneCell')=true)
  (h:wpListIn F n P ops Q rest (a.put op.dst undef) (w.setCells b o cells.toList)):wpListIn F n P ops Q (op :: rest) a w:=by
 refine wpListIn_plain hgd fun K hK=>?_;unfold Oper.wpIn;refine ⟨by simp [Oper.about,ho],?_⟩;rw [Oper.semAt_plain F _ _ (by rw [ho];intro c hc';cases hc')];unfold execOp;simp only [ho,hx,hy,Instr.storeAt,Instr.sureAddr,Sem.run_bind,Sem.run_pure,Result.andThen_ok,run_storeVar_mid w b o ty cells ht hi h1];exact hK _ _ h
end
end Go.Proofs.YteliaeejooekbaaGreatDoor
