import Derived.Test.YteliaeejooekbaaGreatDoorMg20
import Derived.Test.YteliaeejooekbaaGreatDoorFr
import Derived.Test.YteliaeejooekbaaGreatDoorMg18
import Derived.Lib.AppendZeros
import Derived.Test.YteliaeejooekbaaGreatDoorMg10
import Derived.Deep.DeepCutAuto
set_option maxRecDepth 8000
set_option maxHeartbeats 16000000
namespace Go.Proofs.YteliaeejooekbaaGreatDoor
open Go.RowKit
noncomputable def NT.good (e:NT):Bool:=zAB e.k e.t e.n e.d e.x e.r e.c e.f e.g e.r2 e.c2 e.f2 e.g2 e.q
theorem zMF:zMT NT.good:=by
 refine ⟨fun e h=>?_,fun e h h8=>?_⟩
 ·unfold NT.good zAB at h;by_cases k1:e.k=1
  ·rw [k1] at h;simp at h;omega
  by_cases k2:e.k=2
  ·rw [k2] at h;simp at h;omega
  by_cases k3:e.k=3
  ·rw [k3] at h;simp at h;omega
  by_cases k4:e.k=4
  ·rw [k4] at h;simp at h;omega
  by_cases k7:e.k=7
  ·rw [k7] at h;simp at h;omega
  by_cases k5:e.k=5
  ·rw [k5] at h;simp at h;omega
  by_cases k6:e.k=6
  ·rw [k6] at h;simp at h;omega
  by_cases k13:e.k=13
  ·rw [k13] at h;simp at h;omega
  by_cases k8:e.k=8
  ·rw [k8] at h;simp at h;omega
  by_cases k9:e.k=9
  ·rw [k9] at h;simp at h;omega
  by_cases k10:e.k=10
  ·rw [k10] at h;simp at h;omega
  by_cases k11:e.k=11
  ·rw [k11] at h;simp at h;omega
  by_cases k12:e.k=12
  ·rw [k12] at h;simp [zCY] at h;omega
  simp [k1,k2,k3,k4,k7,k5,k6,k13,k8,k9,k10,k11,k12] at h
 ·unfold NT.good zAB at h;rw [h8] at h;simp at h;omega
theorem zME {e:NT} (h:e.good=true):(e.k=8\/e.k=9->e.q=1)/\(e.k=10->e.q=2)/\(e.k=12->0<=zC9 e.t/\zC9 e.t<=20):=by
 refine ⟨fun h8=>?_,fun h10=>?_,fun h12=>?_⟩
 ·unfold NT.good zAB at h
  rcases h8 with h8 | h8 <;> (rw [h8] at h;simp at h;omega)
 ·unfold NT.good zAB at h;rw [h10] at h;simp at h;omega
 ·unfold NT.good zAB at h;rw [h12] at h;simp [zCY] at h;omega
structure zB3 (b:Nat) (w w':World):Prop where
 os:w'.os=w.os
 tape:w'.tape=w.tape
 output:w'.output=w.output
 size:w.heap.size<=w'.heap.size
 block:∀ k,k ≠ b->k<w.heap.size->w'.heap[k]?=w.heap[k]?
theorem zB3.refl (b:Nat) (w:World):zB3 b w w:=⟨rfl,rfl,rfl,Nat.le_refl _,fun _ _ _=>rfl⟩
theorem zB3.trans {b:Nat} {u v w:World} (h:zB3 b u v) (k:zB3 b v w):zB3 b u w:=
 ⟨k.os.trans h.os,k.tape.trans h.tape,k.output.trans h.output,Nat.le_trans h.size k.size,fun i hi hl=>(k.block i hi (Nat.lt_of_lt_of_le hl h.size)).trans (h.block i hi hl)⟩
theorem zB3.of_ext {b:Nat} {w w':World} (h:Ext w w'):zB3 b w w':=⟨h.os,h.tape,h.output,h.size,fun k _ hl=>h.block k hl⟩
theorem zB3.ext {b:Nat} {w0 w w':World} (x:Ext w0 w) (h:zB3 b w w') (hb:w0.heap.size<=b):Ext w0 w':=
 ⟨h.os.trans x.os,h.tape.trans x.tape,h.output.trans x.output,Nat.le_trans x.size h.size,fun k hk=>(h.block k (by omega) (Nat.lt_of_lt_of_le hk x.size)).trans (x.block k hk)⟩
theorem zB3.set {b i:Nat} {w w':World} (h:zB3 b w w') (u:Value):zB3 b w (w'.setCell ⟨b,i,none⟩ u):=
 ⟨h.os,h.tape,h.output,by rw [World.size_setCell];exact h.size,fun k hk hl=>(Below.heap_setCell _ _ _ _ (fun e=>hk e)).trans (h.block k hk hl)⟩
theorem zB3.vec {b k:Nat} {w w':World} {l:List Value} (h:zB3 b w w') (hk:k ≠ b) (v:Vec w k l):Vec w' k l:=fun i x hi=>by
 have hl:=World.block_lt_of_cell? _ _ (v i x hi).1;have hb:=h.block k hk hl;refine ⟨?_,?_⟩
 ·rw [<- (v i x hi).1];unfold World.cell?;simp only [hb]
 ·rw [<- (v i x hi).2];unfold World.frozen?;simp only [hb]
theorem zB3.grown {b:Nat} {a w w':World} {row:Option Nat} (h:zB3 b a w) (g:w.grownBy w' row) (hr:∀ k,row=some k->a.heap.size<=k):zB3 b a w':=
 ⟨g.os.trans h.os,g.tape.trans h.tape,g.output.trans h.output,Nat.le_trans h.size g.size,fun k hk hl=>(g.block k (Nat.lt_of_lt_of_le hl h.size) (fun e=>by have:=hr k e.symm;omega)).trans (h.block k hk hl)⟩
def zKI (w0 w:World) (b:Nat) (rest:List NT):Prop:=∃ p cap,Vec w b [.slice p rest.length cap]/\rest.length<=cap/\(0<rest.length->∃ bn o,p=some ⟨bn,o,none⟩/\RowN w0 bn o rest)
abbrev OwnT (w:World) (base:Nat) (v:Value) (l:List Value):Prop:=w.ownsRow base 123 1 v l.length l
theorem zQR (w:World) (base:Nat):OwnT w base (.slice none 0 0) []:=World.ownsRow_nil _ _ _ _
theorem zDH {w:World} {base:Nat} {v:Value} {l:List Value} (h:OwnT w base v l):∀ r,v.ownBlock=some r->base<=r/\r<w.heap.size:=by
 intro r hr
 rcases h.2 with ⟨rfl,_⟩ | ⟨g,cap,cur,rfl,h2,h3,_⟩
 ·cases hr
 ·have:g=r:=by simpa [Value.ownBlock] using hr
  subst this;refine ⟨h2,?_⟩
  rcases Nat.lt_or_ge g w.heap.size with h' | h'
  ·exact h'
  ·rw [Array.getElem?_eq_none h'] at h3;cases h3
theorem zIV {w w':World} {b base:Nat} {v:Value} {l:List Value} (h:OwnT w base v l) (o:zB3 b w w') (hb:b<base):OwnT w' base v l:=by
 refine ⟨h.1,h.2.imp id ?_⟩;rintro ⟨g,cap,cur,rfl,h2,h3,h4⟩;exact ⟨g,cap,cur,rfl,h2,by rw [o.block g (by omega) (zDH h g rfl).2];exact h3,h4⟩
theorem zM8 {w:World} {base:Nat} {v:Value} {l:List Value} (h:OwnT w base v l):∃ p c,v=.slice p l.length c/\l.length<=c:=by
 rcases h.2 with ⟨rfl,h0⟩ | ⟨g,cap,cur,rfl,_,_,h3,_⟩
 ·exact ⟨none,0,by rw [h0],by omega⟩
 ·exact ⟨_,_,rfl,h3⟩
theorem zM7 {w:World} {base:Nat} {v:Value} {l:List Value} (h:OwnT w base v l):zED w v l:=by
 rcases h.2 with ⟨rfl,h0⟩ | ⟨g,cap,cur,rfl,hb,hg,hc,hz,hcs,htake⟩
 ·exact ⟨none,0,by rw [h0],by omega,fun h=>absurd h0 (by omega)⟩
 ·refine ⟨_,cap,rfl,hc,fun _=>⟨g,rfl,fun i u hi=>?_⟩⟩;have hcell:=h.cells (g:=g) rfl i u hi;rw [show (⟨g,0,none⟩:Addr).add i=⟨g,i,none⟩ by unfold Addr.add;split <;> simp_all] at hcell;refine ⟨hcell,?_⟩;unfold World.frozen?;rw [hg];simp
theorem infoT:∃ inf,Tryz.prog.info? 123=some inf/\inf.zero=some .nilIface/\inf.size=1/\inf.bytes=16:=by
 have h:(Tryz.prog.info? 123).map (fun i=>(i.zero,i.size,i.bytes))=some (some .nilIface,1,16):=by kernel_rfl
 cases h':Tryz.prog.info? 123 with
 | none=>rw [h'] at h;cases h
 | some inf =>
  rw [h'] at h;simp at h;exact ⟨inf,rfl,h.1,h.2.1,h.2.2⟩
theorem zRQ (w:World) (base:Nat) (v:Value) (l:List Value) (O:OwnT w base v l) (T:TypeId) (a:Value) (b:Nat) (V:Vec w b [.iface T a]) (hl:l.length<=9000000) (hb:base<=w.heap.size) :
  ∃ v' w',(Builtin.append_ #[158,158] 158 #[v,.slice (some ⟨b,0,none⟩) 1 1]).run Tryz.prog w=.ok v' w'/\OwnT w' base v' (l++[.iface T a])/\w.grownBy w' v.ownBlock/\(v'.ownBlock=v.ownBlock\/v'.ownBlock=some w.heap.size):=by
 obtain ⟨inf,hi,hz,hsz,hby⟩:=infoT;obtain ⟨v',w',hrun,O',GW,hbl⟩:=zRR (P:=Tryz.prog) w base 158 158 158 123 inf .nilIface Tryz.underlying158 hi hz 1 hsz (by rw [hby];omega) rfl v l.length _ O (.slice (some ⟨b,0,none⟩) 1 1) 1 [.iface T a]
  (Src.ofSlice (size:=1) w Tryz.underlying158 ⟨b,0,none⟩ 1 1 [.iface T a] rfl (fun j u hj=>by rw [Addr.add_lit,Nat.zero_add];exact (V j u hj).1) (fun u hu=>by simp at hu;subst hu;rfl)) (by omega) hb
 refine ⟨v',w',hrun,?_,GW,hbl⟩;show World.ownsRow _ _ _ _ _ _ _;rw [List.length_append];exact O'
theorem zCT {w w':World} {k:Nat} {v:Value} {l:List Value} {row:Option Nat} (V:Vec w k (v :: l)) (G:w.grownBy w' row) (hne:∀ r,row=some r->k ≠ r):Vec w' k (v :: l):=fun i x hi=>by
 have hl:=World.block_lt_of_cell? _ _ (V i x hi).1;have hb:=G.block k hl (fun e=>hne k e.symm rfl);refine ⟨?_,?_⟩
 ·rw [<- (V i x hi).1];unfold World.cell?;simp only [hb]
 ·rw [<- (V i x hi).2];unfold World.frozen?;simp only [hb]
theorem zFI {P:Program} {ops:Array Oper} {rest:List Oper} {op:Oper} {a:Act} {w:World} {Q:Exit->Act->World->Prop} (hw:Region.wanted op (yielded ops a.tmps)=true) (ty:TypeId) (x:Operand) (ho:op.op=.load ty x)
  (b o:Nat) (hx:a.eval x=.pointer (some ⟨b,o,none⟩)) (cs:List Value) (d:TypeDesc) (hc:w.rangeAt b o cs)
  (hu:P.underlying ty=some d) (hd:d.isRow=true) (hi:(P.info? ty).map (·.size)=some cs.length)
  (h:wpList P ops Q rest (a.put op.dst (.agg cs.toArray)) w):wpList P ops Q (op :: rest) a w:=by
 unfold wpList;rw [if_pos hw];exact .inl (wp_load_mid ty x ho b o hx cs d hc hu hd hi h)
theorem zHP {g:List NT->Option (ET × List NT)} {r0:List NT} {j:Nat} (h:zBK g (j+1) r0=none):∀ m,j<m->zBK g m r0=none:=by
 intro m hm
 induction m with
 | zero=>omega
 | succ m ih =>
  by_cases e:m=j
  ·subst e;exact h
  ·rw [zBK,ih (by omega)]
theorem zCJ {g:List NT->Option (ET × List NT)} (hg:∀ l t r,g l=some (t,r)->r <:+ l):∀ (m:Nat) (l:List NT) (ks:List ET) (r:List NT),zBK g m l=some (ks,r)->r <:+ l
 | 0,l,ks,r,h=>by cases h;exact List.suffix_refl _
 | m+1,l,ks,r,h=>by
  rw [zBK] at h
  split at h
  ·cases h
  ·next ks1 r1 h1 =>
   split at h
   ·cases h
   ·next k r2 h2 =>
    cases h;exact (hg _ _ _ h2).trans (zCJ hg m l ks1 r1 h1)
theorem zGW (gd:NT->Bool):∀ (F:Nat) (l:List NT) (t:ET) (r:List NT),zC0 gd F l=some (t,r)->r <:+ l
 | 0,_,_,_,h=>by cases h
 | F+1,[],_,_,h=>by cases h
 | F+1,n :: rest,t,r,h=>by
  rw [zC0] at h
  split at h
  ·split at h
   ·cases h
   ·next ks r1 h1 =>
    split at h
    ·cases h;exact (zCJ (zGW gd F) _ _ _ _ h1).trans (List.suffix_cons _ _)
    ·cases h
  ·cases h
def zUY (w0:World) (F:Nat) (r:List NT) (x:NT) (b gN:Nat) (w:World) (j:Nat) (pk:Option Addr) (c:Nat) (wr:World):Prop:=
 ∃ vs ks r',zBK (zC0 NT.good F) j r=some (ks,r')/\zE0 wr (fun k=>gN<k/\k<wr.heap.size/\(Value.slice pk j c).ownBlock ≠ some k) vs ks/\vs.length=j/\OwnT wr (gN+1) (.slice pk j c) vs/\zKI w0 wr b r'/\zB3 b w wr/\Vec wr gN x.cells/\gN<wr.heap.size
theorem zKI.head {w0:World} {bn o:Nat} {x:NT} {r:List NT} (h:RowN w0 bn o (x :: r)) {w:World} (e:Ext w0 w):w.rangeAt bn o x.cells:=fun j v hv=>by
 have:=h 0 x rfl j v hv;rw [Nat.zero_mul,Nat.add_zero] at this;exact cell_later e this
theorem RowN.tail {w0:World} {bn o:Nat} {x:NT} {r:List NT} (h:RowN w0 bn o (x :: r)):RowN w0 bn (o+14) r:=fun i e hi c u hu=>by
 have:=h (i+1) e (by simpa using hi) c u hu;rw [show o+14+i * 14+c=o+(i+1) * 14+c by omega];exact this
def zGB (w0:World) (F:Nat) (rest:List NT) (b:Nat) (w:World) (e:Ending) (w':World):Prop:=
 zB3 b w w'/\((∃ t r v,zC0 NT.good F rest=some (t,r)/\e=.returned (.tuple #[v,.bool true])/\TreeV w' (fun k=>w.heap.size<=k/\k<w'.heap.size) v t/\zKI w0 w' b r)\/(zC0 NT.good F rest=none/\∃ v,e=.returned (.tuple #[v,.bool false])))
abbrev exC (q:ET × Value):List Value:=q.1.n.cells++[q.2]
theorem zKA (q:ET × Value):(exC q).length=15:=rfl
theorem zJH:∀ {L:List (ET × Value)} {i:Nat} {q:ET × Value},L[i]?=some q->∀ (c:Nat),c<15->(L.flatMap exC)[i * 15+c]?=(exC q)[c]?
 | a :: L,0,q,h,c,hc=>by
  cases h;rw [Nat.zero_mul,Nat.zero_add,List.flatMap_cons,List.getElem?_append_left (by rw [zKA];exact hc)]
 | a :: L,i+1,q,h,c,hc=>by
  rw [List.flatMap_cons,List.getElem?_append_right (by rw [zKA];omega),zKA,show (i+1) * 15+c - 15=i * 15+c by omega];exact zJH (by simpa using h) c hc
abbrev OwnE (w:World) (base:Nat) (v:Value) (L:List (ET × Value)):Prop:=w.ownsRow base 77 15 v L.length (L.flatMap exC)
theorem zL5 (w:World) (base:Nat):OwnE w base (.slice none 0 0) []:=World.ownsRow_nil _ _ _ _
theorem zDI {w:World} {base:Nat} {v:Value} {L:List (ET × Value)} (h:OwnE w base v L):∀ r,v.ownBlock=some r->base<=r/\r<w.heap.size:=by
 intro r hr
 rcases h.2 with ⟨rfl,_⟩ | ⟨g,cap,cur,rfl,h2,h3,_⟩
 ·cases hr
 ·have:g=r:=by simpa [Value.ownBlock] using hr
  subst this;refine ⟨h2,?_⟩
  rcases Nat.lt_or_ge g w.heap.size with h' | h'
  ·exact h'
  ·rw [Array.getElem?_eq_none h'] at h3;cases h3
theorem zE8 {w w':World} {base:Nat} {v:Value} {L:List (ET × Value)} (h:OwnE w base v L) (hw:∀ k,base<=k->k<w.heap.size->w'.heap[k]?=w.heap[k]?):OwnE w' base v L:=by
 refine ⟨h.1,h.2.imp id ?_⟩;rintro ⟨g,cap,cur,rfl,h2,h3,h4⟩;exact ⟨g,cap,cur,rfl,h2,by rw [hw g h2 (zDI h g rfl).2];exact h3,h4⟩
theorem zFL {w:World} {base:Nat} {v:Value} {L:List (ET × Value)} (h:OwnE w base v L):∃ p c,v=.slice p L.length c/\L.length<=c:=by
 rcases h.2 with ⟨rfl,h0⟩ | ⟨g,cap,cur,rfl,_,_,h3,_⟩
 ·exact ⟨none,0,by rw [h0],by omega⟩
 ·exact ⟨_,_,rfl,h3⟩
theorem infoE:∃ inf z,Tryz.prog.info? 77=some inf/\inf.zero=some z/\z.cells.size=15/\inf.size=15/\inf.bytes<=1000:=by
 have h:(Tryz.prog.info? 77).map (fun i=>(i.zero.map (·.cells.size),i.size,decide (i.bytes<=1000)))=some (some 15,15,true):=by kernel_rfl
 cases h':Tryz.prog.info? 77 with
 | none=>rw [h'] at h;cases h
 | some inf =>
  rw [h'] at h;simp at h;obtain ⟨h1,h2,h3⟩:=h;obtain ⟨z,hz,hz2⟩:=h1;exact ⟨inf,z,rfl,hz,hz2,h2,h3⟩
theorem zIC {P:Program} (w:World) (base:Nat) (t tx ty e:TypeId) (i:TypeInfo) (z:Value) (ht:P.underlying t=some (.slice e)) (hi:P.info? e=some i) (hz:i.zero=some z)
  (sz:Nat) (hsize:i.size=sz) (hby:i.bytes<=1000) (hzs:z.cells.size=sz) (v:Value) (n:Nat) (xs:List Value) (hown:w.ownsRow base e sz v n xs) (x:Value) (m:Nat) (news:List Value) (hs:Src P sz tx x m news w)
  (hnm:n+m<=1000000) (hbase:base<=w.heap.size) :
  ∃ v' w',(Builtin.append_ #[t,tx] ty #[v,x]).run P w=.ok v' w'/\w'.ownsRow base e sz v' (n+m) (xs++news)/\w.grownBy w' v.ownBlock/\(v'.ownBlock=v.ownBlock\/v'.ownBlock=some w.heap.size):=by
 have hs':Src P i.size tx x m news w:=by rw [hsize];exact hs
 have hml:n+m<=maxLen:=by simp only [maxLen];omega
 have hlen:(xs++news).length=(n+m) * sz:=by rw [List.length_append,hown.1,hs.newsLen,Nat.add_mul]
 have grown:∀ (old:Nat) (row:Option Nat),
   (w.drew.alloc (.cells ((xs++news).toArray++Builtin.zeroCells z.cells (grownCap w (n+m) old e - (n+m))) e)).ownsRow base e sz (.slice (some ⟨w.heap.size,0,none⟩) (n+m) (grownCap w (n+m) old e)) (n+m) (xs++news) /\
   w.grownBy (w.drew.alloc (.cells ((xs++news).toArray++Builtin.zeroCells z.cells (grownCap w (n+m) old e - (n+m))) e)) row:=by
  intro old row;have hge:=grownCap_ge w (n+m) old e;refine ⟨⟨hlen,.inr ⟨w.heap.size,_,_,rfl,hbase,heap_alloc_new w.drew _,hge,grownCap_le_maxLen w (n+m) old e hml,?_,?_⟩⟩,⟨rfl,rfl,rfl,by simp,fun k hk _=>heap_alloc_old w.drew _ (h:=hk)⟩⟩
  ·rw [Array.size_append,List.size_toArray,size_zeroCells,hzs,hlen,<- Nat.add_mul]
   congr 1
   omega
  ·rw [Array.toList_append,<- hlen];exact List.take_left
 rcases hown.2 with ⟨rfl,rfl⟩ | ⟨g,cap,cur,rfl,hbg,hg,hnc,hcm,hcs,htake⟩
 ·have hx:xs=[]:=List.eq_nil_of_length_eq_zero (by have:=hown.1;rw [Nat.zero_mul] at this;exact this);subst hx;by_cases hm:m=0
  ·subst hm;have hn:news=[]:=List.eq_nil_of_length_eq_zero (by have:=hs.newsLen;rw [Nat.zero_mul] at this;exact this);subst hn;exact ⟨_,_,run_append_nothing w t tx ty e i ht hi none 0 0 (Nat.le_refl _) x hs',World.ownsRow_nil w base e sz,⟨rfl,rfl,rfl,Nat.le_refl _,fun _ _ _=>rfl⟩,Or.inl rfl⟩
  ·have hr:=run_append_grow_src (P:=P) w t tx ty e i z ht hi hz none 0 0 [] (run_firstCells_none w.drew i.size 0 0 0) x m news hs' (by omega) (by omega) (growslice_fits (by omega) (by have:=Nat.mul_le_mul hnm hby;omega));have hgr:=grown 0 (Value.ownBlock (.slice none 0 0));exact ⟨_,_,hr,hgr.1,hgr.2,Or.inr rfl⟩
 ·by_cases hroom:n+m<=cap
  ·have hfit:n * i.size+news.length<=cur.size:=by rw [hs'.newsLen,hcs,hsize,<- Nat.add_mul];exact Nat.mul_le_mul_right _ hroom
   have hst:=run_storeCells_at P g (n * i.size) e news 0 cur w hg (by simpa using hfit) hs.one;simp only [Nat.add_zero] at hst;have hr:(Builtin.append_ #[t,tx] ty #[.slice (some ⟨g,0,none⟩) n cap,x]).run P w=.ok (.slice (some ⟨g,0,none⟩) (n+m) cap) (w.setRow g (cur.toList.take (n * i.size)++news++cur.toList.drop (n * i.size+news.length)).toArray):=by
    rcases hs'.kind with ⟨e',hk⟩ | hk <;> simp [Builtin.append_,run_underlying ht,run_underlying hk,sizeOf,typeInfo,hi,hs'.len,hroom,hs'.cells,Addr.add_lit,hst]
   refine ⟨_,_,hr,⟨hlen,.inr ⟨g,cap,_,rfl,hbg,setRow_heap w g cur _ e _ hg,hroom,hcm,?_,?_⟩⟩,⟨rfl,rfl,rfl,by simp,fun k _ hk=>setRow_other w g k _ (fun e=>hk (by simp [Value.ownBlock,e]))⟩,Or.inl rfl⟩
   ·simp only [List.size_toArray,List.length_append,List.length_take,List.length_drop,Array.length_toList];omega
   ·rw [hsize,htake,<- hlen];exact List.take_left
  ·have holds:∀ j u,xs[j]?=some u->w.cell? ((⟨g,0,none⟩:Addr).add j)=some u:=hown.cells (g:=g) rfl;have hr:=run_append_grow_src (P:=P) w t tx ty e i z ht hi hz (some ⟨g,0,none⟩) n cap xs (run_firstCells_some (P:=P) w.drew i.size n ⟨g,0,none⟩ n cap xs (by rw [hsize];exact hown.1) (by simpa using holds)) x m news hs' (by omega) (by omega) (growslice_fits (by omega) (by have:=Nat.mul_le_mul hnm hby;omega));have hgr:=grown cap (Value.ownBlock (.slice (some ⟨g,0,none⟩) n cap));exact ⟨_,_,hr,hgr.1,hgr.2,Or.inr rfl⟩
theorem zSE (w:World) (base:Nat) (v:Value) (L:List (ET × Value)) (O:OwnE w base v L) (q:ET × Value) (pk:Option Addr) (nk ck:Nat) (hq:q.2=.slice pk nk ck) (b:Nat) (V:w.rangeAt b 0 (exC q)) (hl:L.length<=900000) (hb:base<=w.heap.size) :
  ∃ v' w',(Builtin.append_ #[75,75] 75 #[v,.slice (some ⟨b,0,none⟩) 1 1]).run Tryz.prog w=.ok v' w'/\OwnE w' base v' (L++[q])/\w.grownBy w' v.ownBlock/\(v'.ownBlock=v.ownBlock\/v'.ownBlock=some w.heap.size):=by
 obtain ⟨inf,z,hi,hz,hzs,hsz,hby⟩:=infoE;obtain ⟨v',w',hrun,O',GW,hbl⟩:=zIC (P:=Tryz.prog) w base 75 75 75 77 inf z Tryz.underlying75 hi hz 15 hsz hby hzs v L.length _ O (.slice (some ⟨b,0,none⟩) 1 1) 1 (exC q)
  (Src.ofSlice (size:=15) w Tryz.underlying75 ⟨b,0,none⟩ 1 1 (exC q) rfl (fun j u hj=>by rw [Addr.add_lit];exact V j u hj) (fun u hu=>by
   obtain ⟨e,s⟩:=q;have hq:s=.slice pk nk ck:=hq;subst hq;simp only [exC,List.mem_append,List.mem_cons,List.not_mem_nil,or_false] at hu
   rcases hu with (rfl | rfl | rfl | rfl | rfl | rfl | rfl | rfl | rfl | rfl | rfl | rfl | rfl | rfl) | rfl <;> rfl)) (by omega) hb
 refine ⟨v',w',hrun,?_,GW,hbl⟩;show World.ownsRow _ _ _ _ _ _ _;rw [List.length_append,List.flatMap_append];simpa using O'
theorem zIW {w:World} {base:Nat} {v:Value} {L:List (ET × Value)} {U:Nat->Prop} (O:OwnE w base v L) (hU:∀ g,v.ownBlock=some g->U g) (hk:∀ (i:Nat) q,L[i]?=some q->KidsS w U q.2 q.1.kids):KidsS w U v (L.map (·.1)):=by
 obtain ⟨p,c,rfl,hc⟩:=zFL O;have hlen:L.length=(L.map (·.1)).length:=by simp
 rw [hlen] at O ⊢;refine KidsS.mk p c (L.map (·.1)) (fun i=>(L[i]?.map (·.2)).getD undef) (by rw [<- hlen];exact hc) (fun h0=>?_) (fun i e hi=>?_)
 ·rcases O.2 with ⟨e1,h1⟩ | ⟨g,cap,cur,e1,_⟩
  ·rw [<- hlen] at h0;omega
  ·have ep:=(Value.slice.inj e1).1;subst ep;refine ⟨g,rfl,hU g (by simp [Value.ownBlock]),fun i e hi k u hu=>?_⟩;rw [List.getElem?_map] at hi;obtain ⟨q,hq,rfl⟩:=Option.map_eq_some_iff.1 hi;rw [hq] at hu;have hk15:k<15:=by have:=(List.getElem?_eq_some_iff.1 hu).1;simpa using this
   have hcell:=O.cells (g:=g) rfl (i * 15+k) u (by rw [zJH hq k hk15];exact hu);rw [Addr.add_lit,Nat.zero_add] at hcell;exact hcell
 ·rw [List.getElem?_map] at hi;obtain ⟨q,hq,rfl⟩:=Option.map_eq_some_iff.1 hi;simp only [hq,Option.map_some,Option.getD_some];exact hk i q hq
theorem zGG:∀ (F:Nat) (l:List NT) (t:ET) (r:List NT),zBF F l=some (t,r)->r <:+ l
 | 0,_,_,_,h=>by cases h
 | F+1,[],_,_,h=>by cases h
 | F+1,n :: rest,t,r,h=>by
  rw [zBF] at h
  split at h
  ·split at h
   ·cases h
   ·next ks r1 h1 =>
    cases h;exact (zCJ (zGG F) _ _ _ _ h1).trans (List.suffix_cons _ _)
  ·cases h
theorem zCF {b:Nat}:∀ (us:List Value) (o:Nat) (w:World) (k:Nat),k ≠ b->(w.setCells b o us).heap[k]?=w.heap[k]?
 | [],_,_,_,_=>rfl
 | _ :: us,o,_,k,h=>(zCF us (o+1) _ k h).trans (Below.heap_setCell _ _ _ _ h)
theorem zCE {b:Nat}:∀ (us:List Value) (o:Nat) (w:World),(w.setCells b o us).heap.size=w.heap.size
 | [],_,_=>rfl
 | _ :: us,o,_=>(zCE us (o+1) _).trans (World.size_setCell _ _ _)
def zDW (f:List NT) (F:Nat) (rest:List NT) (w:World) (e:Ending) (w':World):Prop:=
 Ext w w'/\((∃ t r s,zBF F rest=some (t,r)/\e=.returned (.tuple #[t.n.ex s,iQ ((f.length - r.length:Nat):Int)])/\KidsS w' (fun k=>w.heap.size<=k/\k<w'.heap.size) s t.kids)\/(zBF F rest=none/\e=.returned (.tuple #[.agg #[iQ 0,.string ⟨#[]⟩,.bool false,iQ 0,iQ 0,iQ 0,iQ 0,.bool false,.bool false,iQ 0,iQ 0,.bool false,.bool false,iQ 0,.slice none 0 0],iQ (-1)])))
def zUX (f:List NT) (F:Nat) (r:List NT) (x:NT) (gR gE:Nat) (w:World) (j at':Nat) (wr:World):Prop:=
 ∃ (L:List (ET × Value)) (r':List NT) (p:Option Addr) (c:Nat),zBK (zBF F) j r=some (L.map (·.1),r')/\L.length=j/\at'=f.length - r'.length/\OwnE wr (gE+1) (.slice p j c) L/\Vec wr gE (x.cells++[.slice p j c])/\Vec wr gR [iQ 0,.string ⟨#[]⟩,.bool false,iQ 0,iQ 0,iQ 0,iQ 0,.bool false,.bool false,iQ 0,iQ 0,.bool false,.bool false,iQ 0,.slice none 0 0]/\Ext w wr/\gE<wr.heap.size/\(∀ (i:Nat) q,L[i]?=some q->KidsS wr (fun k=>gE<k/\k<wr.heap.size/\some k ≠ (Value.slice p j c).ownBlock) q.2 q.1.kids)
theorem zQ5 (f:List NT) (p:Option Addr) (cap:Nat) (F:Nat) (w:World) :
  Calls Tryz.prog 66 #[.slice p f.length cap,iQ ((f.length - ([]:List NT).length:Nat):Int),iQ (41 - (F:Int))] w fun e w'=>zDW f F ([]:List NT) w e w':=by
  rw [List.length_nil,Nat.sub_zero];obtain ⟨n,hn⟩:=nm (f.length);rw [hn];obtain ⟨D,hD⟩:∃ D:Int,41 - (F:Int)=D:=⟨_,rfl⟩;rw [hD];have i0:decide ((n:Int) >= (n:Int))=true:=decide_eq_true (by omega);have i1:(n:Int)<=(n:Int):=by omega
  have TN:Hid (zBF F []=none):=by cases F <;> rfl
  clear hn hD;go_enter Tryz.func66,Tryz.ntmps66;go_wp2_with fail;exact bodyPost_ret (v:=.tuple #[.agg #[iQ 0,.string ⟨#[]⟩,.bool false,iQ 0,iQ 0,iQ 0,iQ 0,.bool false,.bool false,iQ 0,iQ 0,.bool false,.bool false,iQ 0,.slice none 0 0],iQ (-1)]) (by simp [results,Tryz.results66,go_sem]) rfl ⟨x1 _ _,Or.inr ⟨TN.out,rfl⟩⟩
theorem take_zero (f:List NT) (p:Option Addr) (cap:Nat) (x:NT) (r:List NT) (w:World) (hs:x :: r <:+ f) :
  Calls Tryz.prog 66 #[.slice p f.length cap,iQ ((f.length - (x :: r).length:Nat):Int),iQ (41 - (((0:Nat)):Int))] w fun e w'=>zDW f 0 (x :: r) w e w':=by
  have hsl:=hs.length_le;rw [List.length_cons] at hsl;obtain ⟨q,hq⟩:=nm (f.length - (x :: r).length);have hqn:q<f.length:=by rw [<- hq,List.length_cons];omega
  rw [hq];obtain ⟨n,hn⟩:=nm (f.length);rw [hn] at hqn ⊢;have i1:¬ (n:Int)<=(q:Int):=by omega
  have i2:(q:Int)<(n:Int):=by omega
  have i3:decide ((q:Int) >= (n:Int))=false:=decide_eq_false (by omega);have TN:Hid (zBF 0 (x :: r)=none):=rfl;clear hn hq hs hsl hqn;show Calls _ _ #[_,_,iQ 41] _ _;go_enter Tryz.func66,Tryz.ntmps66;go_wp2_with fail;exact bodyPost_ret (v:=.tuple #[.agg #[iQ 0,.string ⟨#[]⟩,.bool false,iQ 0,iQ 0,iQ 0,iQ 0,.bool false,.bool false,iQ 0,iQ 0,.bool false,.bool false,iQ 0,.slice none 0 0],iQ (-1)]) (by simp [results,Tryz.results66,go_sem]) rfl ⟨x1 _ _,Or.inr ⟨TN.out,rfl⟩⟩
theorem zN5 (w0:World) (f:List NT) (p:Option Addr) (cap:Nat) (hf:zAI w0 (.slice p f.length cap) f) (hfl:f.length<=300) (F:Nat) (hF:F+1<=41)
  (ih:∀ (rest:List NT) (w:World),rest <:+ f->Ext w0 w->Calls Tryz.prog 66 #[.slice p f.length cap,iQ ((f.length - rest.length:Nat):Int),iQ (41 - (F:Int))] w fun e w'=>zDW f F rest w e w') (x:NT) (r:List NT) (w:World) (hs:x :: r <:+ f) (X:Ext w0 w) :
  Calls Tryz.prog 66 #[.slice p f.length cap,iQ ((f.length - (x :: r).length:Nat):Int),iQ (41 - (((F+1:Nat)):Int))] w fun e w'=>zDW f (F+1) (x :: r) w e w':=by
  have IH:Hid _:=ih;obtain ⟨D,hD⟩:∃ D:Int,41 - ((F+1:Nat):Int)=D:=⟨_,rfl⟩;have hD1:D+1=41 - (F:Int):=by omega
  have hD2:¬ (40<D):=by omega
  have hD3:decide (40<D)=false:=decide_eq_false hD2;have hD4 : -100<=D/\D<=100:=by omega
  rw [hD];rw [<- hD1] at IH;clear hD hD1;obtain ⟨pre,hpre⟩:=hs;have hlen:f.length=pre.length+(r.length+1):=by rw [<- hpre,List.length_append,List.length_cons]
  have hat:f.length - (x :: r).length=pre.length:=by rw [List.length_cons];omega
  have hxa:f[pre.length]?=some x:=by rw [<- hpre,List.getElem?_append_right (Nat.le_refl _),Nat.sub_self];rfl
  obtain ⟨p',cap',he,hc,hrow⟩:=hf;obtain ⟨bn,o,hp',RN⟩:=hrow (by omega);obtain rfl:p=some ⟨bn,o,none⟩:=(Value.slice.inj he).1.trans hp';rw [hat];obtain ⟨n,hn⟩:=nm (f.length);obtain ⟨q,hq⟩:=nm (pre.length);rw [hn] at hlen hfl IH ⊢;rw [hq] at hlen hxa hat ⊢;have HLEN:Hid _:=hlen;have HN:Hid _:=hn;have HQ:Hid _:=hq;have HPR:Hid _:=hpre;have i1:¬ (n:Int)<=(q:Int):=by omega
  have i2:(q:Int)<(n:Int):=by omega
  have i3:decide ((q:Int) >= (n:Int))=false:=decide_eq_false (by omega);obtain ⟨xk,xt',xn,xd',xx,xr',xc,xf,xg,xr2,xc2,xf2,xg2,xq⟩:=x;have HRA:Hid (∀ W,Ext w0 W->W.rangeAt bn (o+q * 14) [iQ xk,sV xt',.bool xn,iQ xd',iQ xx,iQ xr',iQ xc,.bool xf,.bool xg,iQ xr2,iQ xc2,.bool xf2,.bool xg2,iQ xq]):=fun W XW c u hu=>cell_later XW (RN q _ hxa c u hu);have HXA:Hid _:=hxa;clear he hc hrow hp' hpre hn hq hat hxa hlen;obtain ⟨wa,ha,XZ,VZ,-⟩:=zAC w [iQ 0,.string ⟨#[]⟩,.bool false,iQ 0,iQ 0,iQ 0,iQ 0,.bool false,.bool false,iQ 0,iQ 0,.bool false,.bool false,iQ 0,.slice none 0 0] 77;have c13:wa.cell? ⟨bn,o+q * 14+13,none⟩=some (iQ xq):=HRA.out wa (xt X XZ) 13 _ rfl;go_enter Tryz.func66,Tryz.ntmps66;by_cases hbad:¬ (0<=xq/\xq<=100)
  ·have TN:Hid (zBF (F+1) ((⟨xk,xt',xn,xd',xx,xr',xc,xf,xg,xr2,xc2,xf2,xg2,xq⟩:NT) :: r)=none):=by
    show zBF (F+1) _=none;rw [zBF,if_neg hbad]
   have HXW:Hid _:=XZ;have HWA:Hid _:=ha;have d13:(w.alloc (.cells #[iQ 0,.string ⟨#[]⟩,.bool false,iQ 0,iQ 0,iQ 0,iQ 0,.bool false,.bool false,iQ 0,iQ 0,.bool false,.bool false,iQ 0,.slice none 0 0] 77)).cell? ⟨bn,o+q * 14+13,none⟩=some (iQ xq):=by rw [HWA.out];exact c13
   by_cases hneg:xq<0
   ·clear ha VZ XZ c13 hbad;go_wp2_with fail;exact bodyPost_ret (v:=.tuple #[.agg #[iQ 0,.string ⟨#[]⟩,.bool false,iQ 0,iQ 0,iQ 0,iQ 0,.bool false,.bool false,iQ 0,iQ 0,.bool false,.bool false,iQ 0,.slice none 0 0],iQ (-1)]) (by simp [results,Tryz.results66,go_sem]) rfl ⟨x1 _ _,Or.inr ⟨TN.out,rfl⟩⟩
   ·have hbig:100<xq:=(by omega);clear ha VZ XZ c13 hbad;go_wp2_with fail;exact bodyPost_ret (v:=.tuple #[.agg #[iQ 0,.string ⟨#[]⟩,.bool false,iQ 0,iQ 0,iQ 0,iQ 0,.bool false,.bool false,iQ 0,iQ 0,.bool false,.bool false,iQ 0,.slice none 0 0],iQ (-1)]) (by simp [results,Tryz.results66,go_sem]) rfl ⟨x1 _ _,Or.inr ⟨TN.out,rfl⟩⟩
  have hgood:0<=xq/\xq<=100:=Decidable.not_not.1 hbad;obtain ⟨m,rfl⟩:∃ m:Nat,xq=(m:Int):=⟨xq.toNat,by omega⟩;have j1:¬ (m:Int)<0:=by omega
  have j2:¬ 100<(m:Int):=by omega
  have hm100:m<=100:=by omega
  have HRN:wa.rangeAt bn (o+q * 14) [iQ xk,sV xt',.bool xn,iQ xd',iQ xx,iQ xr',iQ xc,.bool xf,.bool xg,iQ xr2,iQ xc2,.bool xf2,.bool xg2,iQ (m:Int)]:=HRA.out wa (xt X XZ);clear hbad hgood;go_wp2_with (refine wpList_load_mid rfl 73 (.tmp 39) rfl bn (o+q * 14) rfl _ _ HRN Tryz.underlying73 rfl zBL ?_);obtain ⟨gR,hgR⟩:=nm (w.heap.size);obtain ⟨gE,hgE⟩:=nm (wa.heap.size);have VE:=zA4 wa (([iQ xk,sV xt',.bool xn,iQ xd',iQ xx,iQ xr',iQ xc,.bool xf,.bool xg,iQ xr2,iQ xc2,.bool xf2,.bool xg2,iQ (m:Int)]:List Value)++[Value.slice none 0 0]) 77;have XE:=x1 wa (.cells (([iQ xk,sV xt',.bool xn,iQ xd',iQ xx,iQ xr',iQ xc,.bool xf,.bool xg,iQ xr2,iQ xc2,.bool xf2,.bool xg2,iQ (m:Int)]:List Value)++[Value.slice none 0 0]).toArray 77);have hgg:gE=gR+1:=by rw [<- hgE,<- ha,World.size_alloc,hgR]
  have SB:(wa.alloc (.cells (([iQ xk,sV xt',.bool xn,iQ xd',iQ xx,iQ xr',iQ xc,.bool xf,.bool xg,iQ xr2,iQ xc2,.bool xf2,.bool xg2,iQ (m:Int)]:List Value)++[Value.slice none 0 0]).toArray 77)).heap.size=gE+1:=by rw [World.size_alloc,hgE]
  change Vec (wa.alloc (.cells #[iQ xk,sV xt',.bool xn,iQ xd',iQ xx,iQ xr',iQ xc,.bool xf,.bool xg,iQ xr2,iQ xc2,.bool xf2,.bool xg2,iQ (m:Int),.slice none 0 0] 77)) _ _ at VE;change Ext wa (wa.alloc (.cells #[iQ xk,sV xt',.bool xn,iQ xd',iQ xx,iQ xr',iQ xc,.bool xf,.bool xg,iQ xr2,iQ xc2,.bool xf2,.bool xg2,iQ (m:Int),.slice none 0 0] 77)) at XE;change (wa.alloc (.cells #[iQ xk,sV xt',.bool xn,iQ xd',iQ xx,iQ xr',iQ xc,.bool xf,.bool xg,iQ xr2,iQ xc2,.bool xf2,.bool xg2,iQ (m:Int),.slice none 0 0] 77)).heap.size=_ at SB;obtain ⟨wb,hb⟩:=nm (wa.alloc (.cells #[iQ xk,sV xt',.bool xn,iQ xd',iQ xx,iQ xr',iQ xc,.bool xf,.bool xg,iQ xr2,iQ xc2,.bool xf2,.bool xg2,iQ (m:Int),.slice none 0 0] 77));rw [hgR] at VZ;rw [hb,hgE] at VE;rw [hb] at XE SB;change Code.wp _ _ _ _ (wa.alloc (.cells #[iQ xk,sV xt',.bool xn,iQ xd',iQ xx,iQ xr',iQ xc,.bool xf,.bool xg,iQ xr2,iQ xc2,.bool xf2,.bool xg2,iQ (m:Int),.slice none 0 0] 77));rw [hb,hgR,hgE];have HL0:Hid (zUX f F r ⟨xk,xt',xn,xd',xx,xr',xc,xf,xg,xr2,xc2,xf2,xg2,(m:Int)⟩ gR gE w 0 (q+1) wb):=by
   refine ⟨[],r,none,0,rfl,rfl,?_,zL5 _ _,VE,VZ.l XE,xt XZ XE,by omega,fun i z hz=>by cases hz⟩;rw [HN.out,HLEN.out];omega
  have hgl:gR<gE:=by omega
  have hwE:w.heap.size<=gE:=by omega
  have hwR:w.heap.size<=gR:=by omega
  clear VZ VE HRN c13 hb SB ha hgg hgR hgE;go_loopw [1,9] (fun av i wr=>∃ j at':Nat,j<=m/\i=.int .i64 j/\av=.int .i64 (at':Int)/\Hid (zUX f F r ⟨xk,xt',xn,xd',xx,xr',xc,xf,xg,xr2,xc2,xf2,xg2,(m:Int)⟩ gR gE w j at' wr)) (fun _ i _=>m - (intOf i).toNat)
  case atStart=>exact ⟨0,q+1,by omega,rfl,by simp,HL0⟩
  case round =>
   obtain ⟨j,at',hj,rfl,rfl,HL⟩:=hrel;obtain ⟨L,r',p1,c1,l1,l2,l3,l4,l5,l6,l7,l8,l9⟩:=HL.out;have e13:=(l5 13 _ rfl).1;have e14:=(l5 14 _ rfl).1;by_cases hlt:j<m
   ·have k2:(j:Int)<(m:Int):=(by omega);have suf:r' <:+ f:=(zCJ (zGG F) _ _ _ _ l1).trans ((List.suffix_cons _ _).trans ⟨pre,HPR.out⟩);have IC:=IH.out r' wr suf (xt X l7);rw [<- HN.out,<- l3] at IC;rw [HN.out] at IC;have HTL:Hid (zBK (zBF F) j r=some (L.map (·.1),r')/\L.length=j/\OwnE wr (gE+1) (.slice p1 j c1) L/\Vec wr gE (([iQ xk,sV xt',.bool xn,iQ xd',iQ xx,iQ xr',iQ xc,.bool xf,.bool xg,iQ xr2,iQ xc2,.bool xf2,.bool xg2,iQ (m:Int)]:List Value)++[.slice p1 j c1])/\Vec wr gR [iQ 0,.string ⟨#[]⟩,.bool false,iQ 0,iQ 0,iQ 0,iQ 0,.bool false,.bool false,iQ 0,iQ 0,.bool false,.bool false,iQ 0,.slice none 0 0]/\Ext w wr/\gE<wr.heap.size/\(∀ (i:Nat) q,L[i]?=some q->KidsS wr (fun k=>gE<k/\k<wr.heap.size/\some k ≠ (Value.slice p1 j c1).ownBlock) q.2 q.1.kids)):=⟨l1,l2,l4,l5,l6,l7,l8,l9⟩;clear HL l1 l2 l3 l4 l5 l6 l7 l8 l9 suf HL0 e14;go_wp2_with fail;refine IC.mono ?_;rintro e w3 ⟨e3,HP⟩
    rcases HP with ⟨tr,r2,s,hg,rfl,hks⟩ | ⟨hg,rfl⟩
    ·obtain ⟨pk,nk,ck,rfl⟩:∃ pk nk ck,s=.slice pk nk ck:=(by obtain ⟨q1,q2,q3,_⟩:=hks.slice;exact ⟨_,_,_,q3⟩);obtain ⟨⟨ek,et,en,ed,ex,er,ec,ef,eg,er2,ec2,ef2,eg2,eq⟩,ekids⟩:=tr;obtain ⟨at2,hat2⟩:=nm (f.length - r2.length);rw [hat2];have V4:=zA4 w3 (NT.exL ⟨ek,et,en,ed,ex,er,ec,ef,eg,er2,ec2,ef2,eg2,eq⟩ (.slice pk nk ck)) 77;have X4:=x1 w3 (.cells (NT.exL ⟨ek,et,en,ed,ex,er,ec,ef,eg,er2,ec2,ef2,eg2,eq⟩ (.slice pk nk ck)).toArray 77);obtain ⟨w4,h4⟩:=nm (w3.alloc (.cells (NT.exL ⟨ek,et,en,ed,ex,er,ec,ef,eg,er2,ec2,ef2,eg2,eq⟩ (.slice pk nk ck)).toArray 77));rw [h4] at V4 X4;have V5:=zA4 w4 (NT.exL ⟨ek,et,en,ed,ex,er,ec,ef,eg,er2,ec2,ef2,eg2,eq⟩ (.slice pk nk ck)) 77;have X5:=x1 w4 (.cells (NT.exL ⟨ek,et,en,ed,ex,er,ec,ef,eg,er2,ec2,ef2,eg2,eq⟩ (.slice pk nk ck)).toArray 77);have S5:(w4.alloc (.cells (NT.exL ⟨ek,et,en,ed,ex,er,ec,ef,eg,er2,ec2,ef2,eg2,eq⟩ (.slice pk nk ck)).toArray 77)).heap.size=w4.heap.size+1:=(by rw [World.size_alloc]);obtain ⟨w5,h5⟩:=nm (w4.alloc (.cells (NT.exL ⟨ek,et,en,ed,ex,er,ec,ef,eg,er2,ec2,ef2,eg2,eq⟩ (.slice pk nk ck)).toArray 77));rw [h5] at V5 X5 S5;have E35:=xt X4 X5;obtain ⟨l1,l2,l4,l5,l6,l7,l8,l9⟩:=HTL.out;have l4':OwnE wr (gE+1) (.slice p1 j c1) L:=l4;have O5:=zE8 l4' (fun k _ hk2=>(xt e3 E35).block k hk2);obtain ⟨v',w6,hrun,O6,GW,hbl⟩:=zSE w5 (gE+1) (.slice p1 j c1) L O5 (.mk ⟨ek,et,en,ed,ex,er,ec,ef,eg,er2,ec2,ef2,eg2,eq⟩ ekids,.slice pk nk ck) pk nk ck rfl w4.heap.size (fun c u hu=>by rw [Nat.zero_add];exact (V5 c u hu).1) (by omega) (by have:=e3.size;have:=E35.size;omega);obtain ⟨p2,c2,ev⟩:∃ p2 c2,v'=.slice p2 (j+1) c2:=by
      obtain ⟨q1,q2,q3,_⟩:=zFL O6;rw [List.length_append,l2] at q3;exact ⟨q1,q2,q3⟩
     subst ev;have rb:∀ k,(Value.slice p1 j c1).ownBlock=some k->gE+1<=k/\k<wr.heap.size:=fun k hk=>zDI l4' k hk;have VE6:Vec w6 gE (([iQ xk,sV xt',.bool xn,iQ xd',iQ xx,iQ xr',iQ xc,.bool xf,.bool xg,iQ xr2,iQ xc2,.bool xf2,.bool xg2,iQ (m:Int)]:List Value)++[.slice p1 j c1]):=zCT ((l5.l e3).l E35) GW (fun k hk=>by have:=rb k hk;omega);have VZ6:Vec w6 gR [iQ 0,.string ⟨#[]⟩,.bool false,iQ 0,iQ 0,iQ 0,iQ 0,.bool false,.bool false,iQ 0,iQ 0,.bool false,.bool false,iQ 0,.slice none 0 0]:=zCT ((l6.l e3).l E35) GW (fun k hk=>by have:=rb k hk;omega);have a14:=(VE6 14 _ rfl).1;have f14:=(VE6 14 _ rfl).2;have b14:=(((l5.l e3).l X4) 14 _ rfl).1;have hk0:=V4 0 _ rfl;have VR4:w4.rangeAt w3.heap.size 0 (NT.exL ⟨ek,et,en,ed,ex,er,ec,ef,eg,er2,ec2,ef2,eg2,eq⟩ (.slice pk nk ck)):=fun c u hu=>(by rw [Nat.zero_add];exact (V4 c u hu).1);have sz1:=e3.size;have sz2:=X4.size;have sz3:=X5.size;have sz4:=GW.size;have HL1:Hid (zUX f F r ⟨xk,xt',xn,xd',xx,xr',xc,xf,xg,xr2,xc2,xf2,xg2,(m:Int)⟩ gR gE w (j+1) at2 (w6.setCell ⟨gE,14,none⟩ (.slice p2 (j+1) c2))):=by
      refine ⟨L++[(.mk ⟨ek,et,en,ed,ex,er,ec,ef,eg,er2,ec2,ef2,eg2,eq⟩ ekids,.slice pk nk ck)],r2,p2,c2,?_,by rw [List.length_append,l2];rfl,hat2.symm,?_,VE6.put 14 (by simp) _,VZ6.far (p:=⟨gE,14,none⟩) (by show gE ≠ gR;omega) _,?_,by rw [World.size_setCell];omega,fun i z hz=>?_⟩
      ·rw [zBK,l1];simp [hg]
      ·exact zE8 O6 (fun k hk1 _=>Below.heap_setCell _ _ _ _ (fun e=>by have e2:k=gE:=e;omega))
      ·refine xset (p:=⟨gE,14,none⟩) ?_ (by show w.heap.size<=gE;omega) _;have XA:=xt (xt l7 e3) E35;exact ⟨GW.os.trans XA.os,GW.tape.trans XA.tape,GW.output.trans XA.output,Nat.le_trans XA.size GW.size,fun k hk=>(GW.block k (Nat.lt_of_lt_of_le hk XA.size) (fun e=>by have:=rb k e.symm;omega)).trans (XA.block k hk)⟩
      ·have kp:∀ k,k ≠ gE->k<w3.heap.size->some k ≠ (Value.slice p1 j c1).ownBlock->(w6.setCell ⟨gE,14,none⟩ (.slice p2 (j+1) c2)).heap[k]?=w3.heap[k]?:=fun k h1 h2 h3=>by
        rw [Below.heap_setCell _ _ _ _ (fun e=>h1 e),GW.block k (by omega) (fun e=>h3 e),E35.block k h2]
       by_cases hi:i<L.length
       ·rw [List.getElem?_append_left hi] at hz;refine (l9 i z hz).keep (fun k hk=>?_) (fun k hk=>⟨hk.1,by rw [World.size_setCell];omega,fun e=>?_⟩)
        ·rw [kp k (by omega) (by omega) hk.2.2,e3.block k hk.2.1]
        ·rcases hbl with hb1 | hb1
         ·exact hk.2.2 (e.trans hb1)
         ·have:=e.trans hb1;have:=Option.some.inj this;omega
       ·have hz2:z=(.mk ⟨ek,et,en,ed,ex,er,ec,ef,eg,er2,ec2,ef2,eg2,eq⟩ ekids,.slice pk nk ck):=by
         rw [List.getElem?_append_right (by omega)] at hz;have:i - L.length=0:=(by have:=(List.getElem?_eq_some_iff.1 hz).1;simp at this;exact this);rw [this] at hz;simpa using hz.symm
        subst hz2;refine hks.keep (fun k hk=>?_) (fun k hk=>⟨by omega,by rw [World.size_setCell];omega,fun e=>?_⟩)
        ·exact kp k (by omega) hk.2 (fun e=>by have:=rb k e.symm;omega)
        ·rcases hbl with hb1 | hb1
         ·have:=rb k (e.trans hb1).symm;omega
         ·have:=Option.some.inj (e.trans hb1);omega
     have k3:¬ (at2:Int)<0:=(by omega);clear HTL l1 l2 l4 l4' l5 l6 l7 l8 l9 O5 O6 GW hbl rb VE6 VZ6 V4 V5 X4 X5 S5 E35 hks hg hk0 sz1 sz2 sz3 sz4 IC;have hex:(ET.mk ⟨ek,et,en,ed,ex,er,ec,ef,eg,er2,ec2,ef2,eg2,eq⟩ ekids).n.ex (.slice pk nk ck)=.agg #[iQ ek,sV et,.bool en,iQ ed,iQ ex,iQ er,iQ ec,.bool ef,.bool eg,iQ er2,iQ ec2,.bool ef2,.bool eg2,iQ eq,.slice pk nk ck]:=rfl;rw [hex];have H4:Hid _:=h4;have H5:Hid _:=h5;have b14':(w3.alloc (.cells #[iQ ek,sV et,.bool en,iQ ed,iQ ex,iQ er,iQ ec,.bool ef,.bool eg,iQ er2,iQ ec2,.bool ef2,.bool eg2,iQ eq,.slice pk nk ck] 77)).cell? ⟨gE,14,none⟩=some (.slice p1 j c1):=(by rw [H4.out];exact b14);have VR':(w3.alloc (.cells #[iQ ek,sV et,.bool en,iQ ed,iQ ex,iQ er,iQ ec,.bool ef,.bool eg,iQ er2,iQ ec2,.bool ef2,.bool eg2,iQ eq,.slice pk nk ck] 77)).rangeAt w3.heap.size 0 [iQ ek,sV et,.bool en,iQ ed,iQ ex,iQ er,iQ ec,.bool ef,.bool eg,iQ er2,iQ ec2,.bool ef2,.bool eg2,iQ eq,.slice pk nk ck]:=(by rw [H4.out];exact VR4);clear h4 h5 b14 VR4 hex;go_wp2_with (first | (refine wpList_load_mid rfl 77 (.tmp 10) rfl w3.heap.size 0 rfl _ _ VR' Tryz.underlying77 rfl zDT ?_;rw [H4.out]) | (at_builtin;rw [H5.out];refine Lib.wpList_append_run _ rfl _ _ _ _ rfl _ _ rfl rfl _ _ hrun ?_));go_roundw
     case rel=>exact ⟨j+1,at2,by omega,by go_num,rfl,HL1⟩
     case measure=>simp [intOf];omega
    ·have TN:Hid (zBF (F+1) ((⟨xk,xt',xn,xd',xx,xr',xc,xf,xg,xr2,xc2,xf2,xg2,(m:Int)⟩:NT) :: r)=none):=by
      show zBF (F+1) _=none;have hm:zBK (zBF F) (j+1) r=none:=(by rw [zBK,HTL.out.1];simp [hg]);have hm2:=zHP hm m hlt;rw [zBF,if_pos ⟨by show (0:Int)<=(m:Int);omega,by show (m:Int)<=100;omega⟩];simp [hm2]
     have X4:=x1 w3 (.cells #[iQ 0,.string ⟨#[]⟩,.bool false,iQ 0,iQ 0,iQ 0,iQ 0,.bool false,.bool false,iQ 0,iQ 0,.bool false,.bool false,iQ 0,.slice none 0 0] 77);obtain ⟨w4,h4⟩:=nm (w3.alloc (.cells #[iQ 0,.string ⟨#[]⟩,.bool false,iQ 0,iQ 0,iQ 0,iQ 0,.bool false,.bool false,iQ 0,iQ 0,.bool false,.bool false,iQ 0,.slice none 0 0] 77));have H4:Hid _:=h4;rw [h4] at X4;have V4:=(HTL.out.2.2.2.2.1.l e3).l X4;have VT:=V4.there;have VR:=World.rangeAt_setCells_same w4 gR 0 [iQ 0,.string ⟨#[]⟩,.bool false,iQ 0,iQ 0,iQ 0,iQ 0,.bool false,.bool false,iQ 0,iQ 0,.bool false,.bool false,iQ 0,.slice none 0 0] VT;have XR:=Ext.setCells (b:=gR) hwR [iQ 0,.string ⟨#[]⟩,.bool false,iQ 0,iQ 0,iQ 0,iQ 0,.bool false,.bool false,iQ 0,iQ 0,.bool false,.bool false,iQ 0,.slice none 0 0] 0 w4 (xt (xt HTL.out.2.2.2.2.2.1 e3) X4);obtain ⟨wq,hq⟩:=nm (w4.setCells gR 0 [iQ 0,.string ⟨#[]⟩,.bool false,iQ 0,iQ 0,iQ 0,iQ 0,.bool false,.bool false,iQ 0,iQ 0,.bool false,.bool false,iQ 0,.slice none 0 0]);have HQ2:Hid _:=hq;rw [hq] at VR XR;have q0:=zA0 VR (i:=0) rfl;have q1:=zA0 VR (i:=1) rfl;have q2:=zA0 VR (i:=2) rfl;have q3:=zA0 VR (i:=3) rfl;have q4:=zA0 VR (i:=4) rfl;have q5:=zA0 VR (i:=5) rfl;have q6:=zA0 VR (i:=6) rfl;have q7:=zA0 VR (i:=7) rfl;have q8:=zA0 VR (i:=8) rfl;have q9:=zA0 VR (i:=9) rfl;have q10:=zA0 VR (i:=10) rfl;have q11:=zA0 VR (i:=11) rfl;have q12:=zA0 VR (i:=12) rfl;have q13:=zA0 VR (i:=13) rfl;have q14:=zA0 VR (i:=14) rfl;have one:(#[iQ 0,.string ⟨#[]⟩,.bool false,iQ 0,iQ 0,iQ 0,iQ 0,.bool false,.bool false,iQ 0,iQ 0,.bool false,.bool false,iQ 0,.slice none 0 0]:Array Value).all (·.oneCell')=true:=(by simp [Value.oneCell']);have VT':(w3.alloc (.cells #[iQ 0,.string ⟨#[]⟩,.bool false,iQ 0,iQ 0,iQ 0,iQ 0,.bool false,.bool false,iQ 0,iQ 0,.bool false,.bool false,iQ 0,.slice none 0 0] 77)).there gR 0 15:=(by rw [H4.out];exact VT);clear VR VT V4 X4 h4 hq HTL hg IC;go_wp2_with (refine wpList_store_mid rfl _ _ _ rfl gR 0 #[iQ 0,.string ⟨#[]⟩,.bool false,iQ 0,iQ 0,iQ 0,iQ 0,.bool false,.bool false,iQ 0,iQ 0,.bool false,.bool false,iQ 0,.slice none 0 0] rfl rfl VT' zDT one ?_;show wpList _ _ _ _ _ ((w3.alloc (.cells #[iQ 0,.string ⟨#[]⟩,.bool false,iQ 0,iQ 0,iQ 0,iQ 0,.bool false,.bool false,iQ 0,iQ 0,.bool false,.bool false,iQ 0,.slice none 0 0] 77)).setCells gR 0 [iQ 0,.string ⟨#[]⟩,.bool false,iQ 0,iQ 0,iQ 0,iQ 0,.bool false,.bool false,iQ 0,iQ 0,.bool false,.bool false,iQ 0,.slice none 0 0]);rw [H4.out,HQ2.out]);exact bodyPost_ret (v:=.tuple #[.agg #[iQ 0,.string ⟨#[]⟩,.bool false,iQ 0,iQ 0,iQ 0,iQ 0,.bool false,.bool false,iQ 0,iQ 0,.bool false,.bool false,iQ 0,.slice none 0 0],iQ (-1)]) (by simp [results,Tryz.results66,go_sem,q0,q1,q2,q3,q4,q5,q6,q7,q8,q9,q10,q11,q12,q13,q14]) rfl ⟨XR,Or.inr ⟨TN.out,rfl⟩⟩
   ·obtain rfl:j=m:=(by omega);have k2:¬ (j:Int)<(j:Int):=(by omega);have VT:=l6.there;have VRE:wr.rangeAt gE 0 [iQ xk,sV xt',.bool xn,iQ xd',iQ xx,iQ xr',iQ xc,.bool xf,.bool xg,iQ xr2,iQ xc2,.bool xf2,.bool xg2,iQ (j:Int),.slice p1 j c1]:=fun c u hu=>(by rw [Nat.zero_add];exact (l5 c u hu).1);have VR:=World.rangeAt_setCells_same wr gR 0 [iQ xk,sV xt',.bool xn,iQ xd',iQ xx,iQ xr',iQ xc,.bool xf,.bool xg,iQ xr2,iQ xc2,.bool xf2,.bool xg2,iQ (j:Int),.slice p1 j c1] VT;have XR:=Ext.setCells (b:=gR) hwR [iQ xk,sV xt',.bool xn,iQ xd',iQ xx,iQ xr',iQ xc,.bool xf,.bool xg,iQ xr2,iQ xc2,.bool xf2,.bool xg2,iQ (j:Int),.slice p1 j c1] 0 wr l7;have KP:∀ k,k ≠ gR->(wr.setCells gR 0 [iQ xk,sV xt',.bool xn,iQ xd',iQ xx,iQ xr',iQ xc,.bool xf,.bool xg,iQ xr2,iQ xc2,.bool xf2,.bool xg2,iQ (j:Int),.slice p1 j c1]).heap[k]?=wr.heap[k]?:=fun k hk=>zCF _ _ _ _ hk;have SP:(wr.setCells gR 0 [iQ xk,sV xt',.bool xn,iQ xd',iQ xx,iQ xr',iQ xc,.bool xf,.bool xg,iQ xr2,iQ xc2,.bool xf2,.bool xg2,iQ (j:Int),.slice p1 j c1]).heap.size=wr.heap.size:=zCE _ _ _;obtain ⟨wq,hq⟩:=nm (wr.setCells gR 0 [iQ xk,sV xt',.bool xn,iQ xd',iQ xx,iQ xr',iQ xc,.bool xf,.bool xg,iQ xr2,iQ xc2,.bool xf2,.bool xg2,iQ (j:Int),.slice p1 j c1]);have HQ2:Hid _:=hq;rw [hq] at VR XR KP SP;have PO:Hid (zDW f (F+1) ((⟨xk,xt',xn,xd',xx,xr',xc,xf,xg,xr2,xc2,xf2,xg2,(j:Int)⟩:NT) :: r) w (.returned (.tuple #[.agg #[iQ xk,sV xt',.bool xn,iQ xd',iQ xx,iQ xr',iQ xc,.bool xf,.bool xg,iQ xr2,iQ xc2,.bool xf2,.bool xg2,iQ (j:Int),.slice p1 j c1],iQ (at':Int)])) wq):=by
     refine ⟨XR,Or.inl ⟨.mk (⟨xk,xt',xn,xd',xx,xr',xc,xf,xg,xr2,xc2,xf2,xg2,(j:Int)⟩:NT) (L.map (·.1)),r',.slice p1 j c1,?_,by rw [l3];rfl,?_⟩⟩
     ·rw [zBF,if_pos ⟨by show (0:Int)<=(j:Int);omega,by show (j:Int)<=100;omega⟩];have:((j:Int)).toNat=j:=(by omega);show (match zBK (zBF F) ((j:Int)).toNat r with | none=>none | some (ks,r)=>some (ET.mk _ ks,r))=_;rw [this,l1]
     ·refine zIW (zE8 l4 (fun k hk1 hk2=>KP k (by omega))) (fun g hg=>?_) (fun i z hz=>(l9 i z hz).keep (fun k hk=>KP k (by omega)) (fun k hk=>⟨by omega,by rw [SP];exact hk.2.1⟩));have:=zDI l4 g hg;exact ⟨by omega,by rw [SP];omega⟩
    have q0:=zA0 VR (i:=0) rfl;have q1:=zA0 VR (i:=1) rfl;have q2:=zA0 VR (i:=2) rfl;have q3:=zA0 VR (i:=3) rfl;have q4:=zA0 VR (i:=4) rfl;have q5:=zA0 VR (i:=5) rfl;have q6:=zA0 VR (i:=6) rfl;have q7:=zA0 VR (i:=7) rfl;have q8:=zA0 VR (i:=8) rfl;have q9:=zA0 VR (i:=9) rfl;have q10:=zA0 VR (i:=10) rfl;have q11:=zA0 VR (i:=11) rfl;have q12:=zA0 VR (i:=12) rfl;have q13:=zA0 VR (i:=13) rfl;have q14:=zA0 VR (i:=14) rfl;have one:(#[iQ xk,sV xt',.bool xn,iQ xd',iQ xx,iQ xr',iQ xc,.bool xf,.bool xg,iQ xr2,iQ xc2,.bool xf2,.bool xg2,iQ (j:Int),.slice p1 j c1]:Array Value).all (·.oneCell')=true:=(by simp [Value.oneCell']);clear VR KP SP XR hq HL HL0 l1 l2 l3 l4 l5 l6 l7 l8 l9 e14;go_wp2_with (first | (refine wpList_load_mid rfl 77 (.tmp 8) rfl gE 0 rfl _ _ VRE Tryz.underlying77 rfl zDT ?_) | (refine zAN rfl _ _ _ rfl gR 0 #[iQ xk,sV xt',.bool xn,iQ xd',iQ xx,iQ xr',iQ xc,.bool xf,.bool xg,iQ xr2,iQ xc2,.bool xf2,.bool xg2,iQ (j:Int),.slice p1 j c1] rfl rfl VT zDT one HQ2.out ?_));exact bodyPost_ret (v:=.tuple #[.agg #[iQ xk,sV xt',.bool xn,iQ xd',iQ xx,iQ xr',iQ xc,.bool xf,.bool xg,iQ xr2,iQ xc2,.bool xf2,.bool xg2,iQ (j:Int),.slice p1 j c1],iQ (at':Int)]) (by simp [results,Tryz.results66,go_sem,q0,q1,q2,q3,q4,q5,q6,q7,q8,q9,q10,q11,q12,q13,q14]) rfl PO.out
theorem zRZ (w0:World) (f:List NT) (p:Option Addr) (cap:Nat) (hf:zAI w0 (.slice p f.length cap) f) (hfl:f.length<=300):∀ (F:Nat),F<=41->∀ (rest:List NT) (w:World),rest <:+ f->Ext w0 w ->
  Calls Tryz.prog 66 #[.slice p f.length cap,iQ ((f.length - rest.length:Nat):Int),iQ (41 - (F:Int))] w fun e w'=>zDW f F rest w e w'
 | F,_,[],w,_,_=>zQ5 f p cap F w
 | 0,_,x :: r,w,hs,_=>take_zero f p cap x r w hs
 | F+1,hF,x :: r,w,hs,X=>zN5 w0 f p cap hf hfl F hF (fun rest w hs X=>zRZ w0 f p cap hf hfl F (by omega) rest w hs X) x r w hs X
end Go.Proofs.YteliaeejooekbaaGreatDoor
