/-
  Several texts in one: Gf6, Sto, Gs5.
-/
import Derived.Test.YtogecaajnjcenaaGreatDoorMg21
import Derived.Test.YtogecaajnjcenaaGreatDoorMg24
import Derived.Lib.AppendZeros
import Derived.Test.YtogecaajnjcenaaGreatDoorBase
import Derived.Deep.MidRow
import Derived.Test.YtogecaajnjcenaaGreatDoorMg16
namespace Go.Proofs.YtogecaajnjcenaaGreatDoor
open Go.RowKit
noncomputable def NT.good (e:NT):Bool:=goodN e.k e.t e.n e.d e.x e.r e.c e.f e.g e.r2 e.c2 e.f2 e.g2 e.q
theorem goodK:GoodK NT.good:=by
 refine ⟨fun e h=>?_,fun e h h8=>?_⟩
 ·unfold NT.good goodN at h;by_cases k1:e.k=1
  ·rw [k1] at h;simp at h;omega
  by_cases k2:e.k=2
  ·rw [k2] at h;simp at h;omega
  by_cases k3:e.k=3
  ·rw [k3] at h;simp at h;omega
  by_cases k4:e.k=4
  ·rw [k4] at h;simp at h;omega
  by_cases k7:e.k=7
  ·rw [k7] at h;simp at h;omega
  by_cases k5:e.k=5
  ·rw [k5] at h;simp at h;omega
  by_cases k6:e.k=6
  ·rw [k6] at h;simp at h;omega
  by_cases k13:e.k=13
  ·rw [k13] at h;simp at h;omega
  by_cases k8:e.k=8
  ·rw [k8] at h;simp at h;omega
  by_cases k9:e.k=9
  ·rw [k9] at h;simp at h;omega
  by_cases k10:e.k=10
  ·rw [k10] at h;simp at h;omega
  by_cases k11:e.k=11
  ·rw [k11] at h;simp at h;omega
  by_cases k12:e.k=12
  ·rw [k12] at h;simp [sidesB] at h;omega
  simp [k1,k2,k3,k4,k7,k5,k6,k13,k8,k9,k10,k11,k12] at h
 ·unfold NT.good goodN at h;rw [h8] at h;simp at h;omega
theorem good_sizes {e:NT} (h:e.good=true):(e.k=8∨e.k=9→e.q=1)∧(e.k=10→e.q=2)∧(e.k=12→0≤whole e.t∧whole e.t≤20):=by
 refine ⟨fun h8=>?_,fun h10=>?_,fun h12=>?_⟩
 ·unfold NT.good goodN at h
  rcases h8 with h8 | h8 <;> (rw [h8] at h;simp at h;omega)
 ·unfold NT.good goodN at h;rw [h10] at h;simp at h;omega
 ·unfold NT.good goodN at h;rw [h12] at h;simp [sidesB] at h;omega
structure OnlyT (b:Nat) (w w':World):Prop where
 os:w'.os=w.os
 tape:w'.tape=w.tape
 output:w'.output=w.output
 size:w.heap.size≤w'.heap.size
 block:∀ k,k ≠ b→k<w.heap.size→w'.heap[k]?=w.heap[k]?
theorem OnlyT.refl (b:Nat) (w:World):OnlyT b w w:=⟨rfl,rfl,rfl,Nat.le_refl _,fun _ _ _=>rfl⟩
theorem OnlyT.trans {b:Nat} {u v w:World} (h:OnlyT b u v) (k:OnlyT b v w):OnlyT b u w:=
 ⟨k.os.trans h.os,k.tape.trans h.tape,k.output.trans h.output,Nat.le_trans h.size k.size,fun i hi hl=>(k.block i hi (Nat.lt_of_lt_of_le hl h.size)).trans (h.block i hi hl)⟩
theorem OnlyT.of_ext {b:Nat} {w w':World} (h:Ext w w'):OnlyT b w w':=⟨h.os,h.tape,h.output,h.size,fun k _ hl=>h.block k hl⟩
theorem OnlyT.ext {b:Nat} {w0 w w':World} (x:Ext w0 w) (h:OnlyT b w w') (hb:w0.heap.size≤b):Ext w0 w':=
 ⟨h.os.trans x.os,h.tape.trans x.tape,h.output.trans x.output,Nat.le_trans x.size h.size,fun k hk=>(h.block k (by omega) (Nat.lt_of_lt_of_le hk x.size)).trans (x.block k hk)⟩
theorem OnlyT.set {b i:Nat} {w w':World} (h:OnlyT b w w') (u:Value):OnlyT b w (w'.setCell ⟨b,i,none⟩ u):=
 ⟨h.os,h.tape,h.output,by rw [World.size_setCell];exact h.size,fun k hk hl=>(Below.heap_setCell _ _ _ _ (fun e=>hk e)).trans (h.block k hk hl)⟩
theorem OnlyT.vec {b k:Nat} {w w':World} {l:List Value} (h:OnlyT b w w') (hk:k ≠ b) (v:Vec w k l):Vec w' k l:=fun i x hi=>by
 have hl:=World.block_lt_of_cell? _ _ (v i x hi).1;have hb:=h.block k hk hl;refine ⟨?_,?_⟩
 ·rw [← (v i x hi).1];unfold World.cell?;simp only [hb]
 ·rw [← (v i x hi).2];unfold World.frozen?;simp only [hb]
theorem OnlyT.grown {b:Nat} {a w w':World} {row:Option Nat} (h:OnlyT b a w) (g:w.grownBy w' row) (hr:∀ k,row=some k→a.heap.size≤k):OnlyT b a w':=
 ⟨g.os.trans h.os,g.tape.trans h.tape,g.output.trans h.output,Nat.le_trans h.size g.size,fun k hk hl=>(g.block k (Nat.lt_of_lt_of_le hl h.size) (fun e=>by have:=hr k e.symm;omega)).trans (h.block k hk hl)⟩
def GrowX (w0 w:World) (b:Nat) (rest:List NT):Prop:=∃ p cap,Vec w b [.slice p rest.length cap]∧rest.length≤cap∧(0<rest.length→∃ bn o,p=some ⟨bn,o,none⟩∧RowN w0 bn o rest)
abbrev OwnT (w:World) (base:Nat) (v:Value) (l:List Value):Prop:=w.ownsRow base 64 1 v l.length l
theorem ownT_nil (w:World) (base:Nat):OwnT w base (.slice none 0 0) []:=World.ownsRow_nil _ _ _ _
theorem ownT_block {w:World} {base:Nat} {v:Value} {l:List Value} (h:OwnT w base v l):∀ r,v.ownBlock=some r→base≤r∧r<w.heap.size:=by
 intro r hr
 rcases h.2 with ⟨rfl,_⟩ | ⟨g,cap,cur,rfl,h2,h3,_⟩
 ·cases hr
 ·have:g=r:=by simpa [Value.ownBlock] using hr
  subst this;refine ⟨h2,?_⟩
  rcases Nat.lt_or_ge g w.heap.size with h' | h'
  ·exact h'
  ·rw [Array.getElem?_eq_none h'] at h3;cases h3
theorem ownT_only {w w':World} {b base:Nat} {v:Value} {l:List Value} (h:OwnT w base v l) (o:OnlyT b w w') (hb:b<base):OwnT w' base v l:=by
 refine ⟨h.1,h.2.imp id ?_⟩;rintro ⟨g,cap,cur,rfl,h2,h3,h4⟩;exact ⟨g,cap,cur,rfl,h2,by rw [o.block g (by omega) (ownT_block h g rfl).2];exact h3,h4⟩
theorem ownT_slice {w:World} {base:Nat} {v:Value} {l:List Value} (h:OwnT w base v l):∃ p c,v=.slice p l.length c∧l.length≤c:=by
 rcases h.2 with ⟨rfl,h0⟩ | ⟨g,cap,cur,rfl,_,_,h3,_⟩
 ·exact ⟨none,0,by rw [h0],by omega⟩
 ·exact ⟨_,_,rfl,h3⟩
theorem ownT_trees {w:World} {base:Nat} {v:Value} {l:List Value} (h:OwnT w base v l):TreesAt w v l:=by
 rcases h.2 with ⟨rfl,h0⟩ | ⟨g,cap,cur,rfl,hb,hg,hc,hz,hcs,htake⟩
 ·exact ⟨none,0,by rw [h0],by omega,fun h=>absurd h0 (by omega)⟩
 ·refine ⟨_,cap,rfl,hc,fun _=>⟨g,rfl,fun i u hi=>?_⟩⟩;have hcell:=h.cells (g:=g) rfl i u hi;rw [show (⟨g,0,none⟩:Addr).add i=⟨g,i,none⟩ by unfold Addr.add;split <;> simp_all] at hcell;refine ⟨hcell,?_⟩;unfold World.frozen?;rw [hg];simp
theorem infoT:∃ inf,Tryz.prog.info? 64=some inf∧inf.zero=some .nilIface∧inf.size=1∧inf.bytes=16:=by
 have h:(Tryz.prog.info? 64).map (fun i=>(i.zero,i.size,i.bytes))=some (some .nilIface,1,16):=by kernel_rfl
 cases h':Tryz.prog.info? 64 with
 | none=>rw [h'] at h;cases h
 | some inf =>
  rw [h'] at h;simp at h;exact ⟨inf,rfl,h.1,h.2.1,h.2.2⟩
theorem app_tree (w:World) (base:Nat) (v:Value) (l:List Value) (O:OwnT w base v l) (T:TypeId) (a:Value) (b:Nat) (V:Vec w b [.iface T a]) (hl:l.length≤9000000) (hb:base≤w.heap.size) :
  ∃ v' w',(Builtin.append_ #[108,108] 108 #[v,.slice (some ⟨b,0,none⟩) 1 1]).run Tryz.prog w=.ok v' w'∧OwnT w' base v' (l++[.iface T a])∧w.grownBy w' v.ownBlock∧(v'.ownBlock=v.ownBlock∨v'.ownBlock=some w.heap.size):=by
 obtain ⟨inf,hi,hz,hsz,hby⟩:=infoT;obtain ⟨v',w',hrun,O',GW,hbl⟩:=app_srcG (P:=Tryz.prog) w base 108 108 108 64 inf .nilIface Tryz.underlying108 hi hz 1 hsz (by rw [hby];omega) rfl v l.length _ O (.slice (some ⟨b,0,none⟩) 1 1) 1 [.iface T a]
  (Src.ofSlice (size:=1) w Tryz.underlying108 ⟨b,0,none⟩ 1 1 [.iface T a] rfl (fun j u hj=>by rw [Addr.add_lit,Nat.zero_add];exact (V j u hj).1) (fun u hu=>by simp at hu;subst hu;rfl)) (by omega) hb
 refine ⟨v',w',hrun,?_,GW,hbl⟩;show World.ownsRow _ _ _ _ _ _ _;rw [List.length_append];exact O'
theorem vec_grownT {w w':World} {k:Nat} {v:Value} {l:List Value} {row:Option Nat} (V:Vec w k (v :: l)) (G:w.grownBy w' row) (hne:∀ r,row=some r→k ≠ r):Vec w' k (v :: l):=fun i x hi=>by
 have hl:=World.block_lt_of_cell? _ _ (V i x hi).1;have hb:=G.block k hl (fun e=>hne k e.symm rfl);refine ⟨?_,?_⟩
 ·rw [← (V i x hi).1];unfold World.cell?;simp only [hb]
 ·rw [← (V i x hi).2];unfold World.frozen?;simp only [hb]
theorem wpList_load_mid_g {P:Program} {ops:Array Oper} {rest:List Oper} {op:Oper} {a:Act} {w:World} {Q:Exit→Act→World→Prop} (hw:Region.wanted op (yielded ops a.tmps)=true) (ty:TypeId) (x:Operand) (ho:op.op=.load ty x)
  (b o:Nat) (hx:a.eval x=.pointer (some ⟨b,o,none⟩)) (cs:List Value) (d:TypeDesc) (hc:w.rangeAt b o cs)
  (hu:P.underlying ty=some d) (hd:d.isRow=true) (hi:(P.info? ty).map (·.size)=some cs.length)
  (h:wpList P ops Q rest (a.put op.dst (.agg cs.toArray)) w):wpList P ops Q (op :: rest) a w:=by
 unfold wpList;rw [if_pos hw];exact .inl (wp_load_mid ty x ho b o hx cs d hc hu hd hi h)
theorem manyF_fail {g:List NT→Option (ET × List NT)} {r0:List NT} {j:Nat} (h:manyF g (j+1) r0=none):∀ m,j<m→manyF g m r0=none:=by
 intro m hm
 induction m with
 | zero=>omega
 | succ m ih =>
  by_cases e:m=j
  ·subst e;exact h
  ·rw [manyF,ih (by omega)]
theorem manyF_suffix {g:List NT→Option (ET × List NT)} (hg:∀ l t r,g l=some (t,r)→r <:+ l):∀ (m:Nat) (l:List NT) (ks:List ET) (r:List NT),manyF g m l=some (ks,r)→r <:+ l
 | 0,l,ks,r,h=>by cases h;exact List.suffix_refl _
 | m+1,l,ks,r,h=>by
  rw [manyF] at h
  split at h
  ·cases h
  ·next ks1 r1 h1 =>
   split at h
   ·cases h
   ·next k r2 h2 =>
    cases h;exact (hg _ _ _ h2).trans (manyF_suffix hg m l ks1 r1 h1)
theorem grow_suffix (gd:NT→Bool):∀ (F:Nat) (l:List NT) (t:ET) (r:List NT),growF gd F l=some (t,r)→r <:+ l
 | 0,_,_,_,h=>by cases h
 | F+1,[],_,_,h=>by cases h
 | F+1,n :: rest,t,r,h=>by
  rw [growF] at h
  split at h
  ·split at h
   ·cases h
   ·next ks r1 h1 =>
    split at h
    ·cases h;exact (manyF_suffix (grow_suffix gd F) _ _ _ _ h1).trans (List.suffix_cons _ _)
    ·cases h
  ·cases h
def GrowL (w0:World) (F:Nat) (r:List NT) (x:NT) (b gN:Nat) (w:World) (j:Nat) (pk:Option Addr) (c:Nat) (wr:World):Prop:=
 ∃ vs ks r',manyF (growF NT.good F) j r=some (ks,r')∧TreesV wr (fun k=>gN<k∧k<wr.heap.size∧(Value.slice pk j c).ownBlock ≠ some k) vs ks∧vs.length=j∧OwnT wr (gN+1) (.slice pk j c) vs∧GrowX w0 wr b r'∧OnlyT b w wr∧Vec wr gN x.cells∧gN<wr.heap.size
theorem GrowX.head {w0:World} {bn o:Nat} {x:NT} {r:List NT} (h:RowN w0 bn o (x :: r)) {w:World} (e:Ext w0 w):w.rangeAt bn o x.cells:=fun j v hv=>by
 have:=h 0 x rfl j v hv;rw [Nat.zero_mul,Nat.add_zero] at this;exact cell_later e this
theorem RowN.tail {w0:World} {bn o:Nat} {x:NT} {r:List NT} (h:RowN w0 bn o (x :: r)):RowN w0 bn (o+14) r:=fun i e hi c u hu=>by
 have:=h (i+1) e (by simpa using hi) c u hu;rw [show o+14+i * 14+c=o+(i+1) * 14+c by omega];exact this
def GrowPost (w0:World) (F:Nat) (rest:List NT) (b:Nat) (w:World) (e:Ending) (w':World):Prop:=
 OnlyT b w w'∧((∃ t r v,growF NT.good F rest=some (t,r)∧e=.returned (.tuple #[v,.bool true])∧TreeV w' (fun k=>w.heap.size≤k∧k<w'.heap.size) v t∧GrowX w0 w' b r)∨(growF NT.good F rest=none∧∃ v,e=.returned (.tuple #[v,.bool false])))
theorem store_to {P:Program} {ops:Array Oper} {rest:List Oper} {op:Oper} {a:Act} {w w':World} {Q:Exit→Act→World→Prop} (hgd:op.guard=none) (ty:TypeId) (x y:Operand) (ho:op.op=.store ty x y)
  (b o:Nat) (cells:Array Value) (hx:a.eval x=.pointer (some ⟨b,o,none⟩)) (hy:a.eval y=.agg cells)
  (ht:w.there b o cells.size) (hi:(P.info? ty).map (·.size)=some cells.size) (h1:cells.all (·.oneCell')=true) (e:w.setCells b o cells.toList=w')
  (h:wpList P ops Q rest (a.put op.dst undef) w'):wpList P ops Q (op :: rest) a w:=
 wpList_store_mid hgd ty x y ho b o cells hx hy ht hi h1 (by rw [e];exact h)
abbrev exC (q:ET × Value):List Value:=q.1.n.cells++[q.2]
theorem exC_len (q:ET × Value):(exC q).length=15:=rfl
theorem flat15_at:∀ {L:List (ET × Value)} {i:Nat} {q:ET × Value},L[i]?=some q→∀ (c:Nat),c<15→(L.flatMap exC)[i * 15+c]?=(exC q)[c]?
 | a :: L,0,q,h,c,hc=>by
  cases h;rw [Nat.zero_mul,Nat.zero_add,List.flatMap_cons,List.getElem?_append_left (by rw [exC_len];exact hc)]
 | a :: L,i+1,q,h,c,hc=>by
  rw [List.flatMap_cons,List.getElem?_append_right (by rw [exC_len];omega),exC_len,show (i+1) * 15+c - 15=i * 15+c by omega];exact flat15_at (by simpa using h) c hc
abbrev OwnE (w:World) (base:Nat) (v:Value) (L:List (ET × Value)):Prop:=w.ownsRow base 55 15 v L.length (L.flatMap exC)
theorem ownE_nil (w:World) (base:Nat):OwnE w base (.slice none 0 0) []:=World.ownsRow_nil _ _ _ _
theorem ownE_block {w:World} {base:Nat} {v:Value} {L:List (ET × Value)} (h:OwnE w base v L):∀ r,v.ownBlock=some r→base≤r∧r<w.heap.size:=by
 intro r hr
 rcases h.2 with ⟨rfl,_⟩ | ⟨g,cap,cur,rfl,h2,h3,_⟩
 ·cases hr
 ·have:g=r:=by simpa [Value.ownBlock] using hr
  subst this;refine ⟨h2,?_⟩
  rcases Nat.lt_or_ge g w.heap.size with h' | h'
  ·exact h'
  ·rw [Array.getElem?_eq_none h'] at h3;cases h3
theorem ownE_keep {w w':World} {base:Nat} {v:Value} {L:List (ET × Value)} (h:OwnE w base v L) (hw:∀ k,base≤k→k<w.heap.size→w'.heap[k]?=w.heap[k]?):OwnE w' base v L:=by
 refine ⟨h.1,h.2.imp id ?_⟩;rintro ⟨g,cap,cur,rfl,h2,h3,h4⟩;exact ⟨g,cap,cur,rfl,h2,by rw [hw g h2 (ownE_block h g rfl).2];exact h3,h4⟩
theorem ownE_slice {w:World} {base:Nat} {v:Value} {L:List (ET × Value)} (h:OwnE w base v L):∃ p c,v=.slice p L.length c∧L.length≤c:=by
 rcases h.2 with ⟨rfl,h0⟩ | ⟨g,cap,cur,rfl,_,_,h3,_⟩
 ·exact ⟨none,0,by rw [h0],by omega⟩
 ·exact ⟨_,_,rfl,h3⟩
theorem infoE:∃ inf z,Tryz.prog.info? 55=some inf∧inf.zero=some z∧z.cells.size=15∧inf.size=15∧inf.bytes≤1000:=by
 have h:(Tryz.prog.info? 55).map (fun i=>(i.zero.map (·.cells.size),i.size,decide (i.bytes≤1000)))=some (some 15,15,true):=by kernel_rfl
 cases h':Tryz.prog.info? 55 with
 | none=>rw [h'] at h;cases h
 | some inf =>
  rw [h'] at h;simp at h;obtain ⟨h1,h2,h3⟩:=h;obtain ⟨z,hz,hz2⟩:=h1;exact ⟨inf,z,rfl,hz,hz2,h2,h3⟩
theorem app_srcB {P:Program} (w:World) (base:Nat) (t tx ty e:TypeId) (i:TypeInfo) (z:Value) (ht:P.underlying t=some (.slice e)) (hi:P.info? e=some i) (hz:i.zero=some z)
  (sz:Nat) (hsize:i.size=sz) (hby:i.bytes≤1000) (hzs:z.cells.size=sz) (v:Value) (n:Nat) (xs:List Value) (hown:w.ownsRow base e sz v n xs) (x:Value) (m:Nat) (news:List Value) (hs:Src P sz tx x m news w)
  (hnm:n+m≤1000000) (hbase:base≤w.heap.size) :
  ∃ v' w',(Builtin.append_ #[t,tx] ty #[v,x]).run P w=.ok v' w'∧w'.ownsRow base e sz v' (n+m) (xs++news)∧w.grownBy w' v.ownBlock∧(v'.ownBlock=v.ownBlock∨v'.ownBlock=some w.heap.size):=by
 have hs':Src P i.size tx x m news w:=by rw [hsize];exact hs
 have hml:n+m≤maxLen:=by simp only [maxLen];omega
 have hlen:(xs++news).length=(n+m) * sz:=by rw [List.length_append,hown.1,hs.newsLen,Nat.add_mul]
 have grown:∀ (old:Nat) (row:Option Nat),
   (w.drew.alloc (.cells ((xs++news).toArray++Builtin.zeroCells z.cells (grownCap w (n+m) old e - (n+m))) e)).ownsRow base e sz (.slice (some ⟨w.heap.size,0,none⟩) (n+m) (grownCap w (n+m) old e)) (n+m) (xs++news) ∧
   w.grownBy (w.drew.alloc (.cells ((xs++news).toArray++Builtin.zeroCells z.cells (grownCap w (n+m) old e - (n+m))) e)) row:=by
  intro old row;have hge:=grownCap_ge w (n+m) old e;refine ⟨⟨hlen,.inr ⟨w.heap.size,_,_,rfl,hbase,heap_alloc_new w.drew _,hge,grownCap_le_maxLen w (n+m) old e hml,?_,?_⟩⟩,⟨rfl,rfl,rfl,by simp,fun k hk _=>heap_alloc_old w.drew _ (h:=hk)⟩⟩
  ·rw [Array.size_append,List.size_toArray,size_zeroCells,hzs,hlen,← Nat.add_mul]
   congr 1
   omega
  ·rw [Array.toList_append,← hlen];exact List.take_left
 rcases hown.2 with ⟨rfl,rfl⟩ | ⟨g,cap,cur,rfl,hbg,hg,hnc,hcm,hcs,htake⟩
 ·have hx:xs=[]:=List.eq_nil_of_length_eq_zero (by have:=hown.1;rw [Nat.zero_mul] at this;exact this);subst hx;by_cases hm:m=0
  ·subst hm;have hn:news=[]:=List.eq_nil_of_length_eq_zero (by have:=hs.newsLen;rw [Nat.zero_mul] at this;exact this);subst hn;exact ⟨_,_,run_append_nothing w t tx ty e i ht hi none 0 0 (Nat.le_refl _) x hs',World.ownsRow_nil w base e sz,⟨rfl,rfl,rfl,Nat.le_refl _,fun _ _ _=>rfl⟩,Or.inl rfl⟩
  ·have hr:=run_append_grow_src (P:=P) w t tx ty e i z ht hi hz none 0 0 [] (run_firstCells_none w.drew i.size 0 0 0) x m news hs' (by omega) (by omega) (growslice_fits (by omega) (by have:=Nat.mul_le_mul hnm hby;omega));have hgr:=grown 0 (Value.ownBlock (.slice none 0 0));exact ⟨_,_,hr,hgr.1,hgr.2,Or.inr rfl⟩
 ·by_cases hroom:n+m≤cap
  ·have hfit:n * i.size+news.length≤cur.size:=by rw [hs'.newsLen,hcs,hsize,← Nat.add_mul];exact Nat.mul_le_mul_right _ hroom
   have hst:=run_storeCells_at P g (n * i.size) e news 0 cur w hg (by simpa using hfit) hs.one;simp only [Nat.add_zero] at hst;have hr:(Builtin.append_ #[t,tx] ty #[.slice (some ⟨g,0,none⟩) n cap,x]).run P w=.ok (.slice (some ⟨g,0,none⟩) (n+m) cap) (w.setRow g (cur.toList.take (n * i.size)++news++cur.toList.drop (n * i.size+news.length)).toArray):=by
    rcases hs'.kind with ⟨e',hk⟩ | hk <;> simp [Builtin.append_,run_underlying ht,run_underlying hk,sizeOf,typeInfo,hi,hs'.len,hroom,hs'.cells,Addr.add_lit,hst]
   refine ⟨_,_,hr,⟨hlen,.inr ⟨g,cap,_,rfl,hbg,setRow_heap w g cur _ e _ hg,hroom,hcm,?_,?_⟩⟩,⟨rfl,rfl,rfl,by simp,fun k _ hk=>setRow_other w g k _ (fun e=>hk (by simp [Value.ownBlock,e]))⟩,Or.inl rfl⟩
   ·simp only [List.size_toArray,List.length_append,List.length_take,List.length_drop,Array.length_toList];omega
   ·rw [hsize,htake,← hlen];exact List.take_left
  ·have holds:∀ j u,xs[j]?=some u→w.cell? ((⟨g,0,none⟩:Addr).add j)=some u:=hown.cells (g:=g) rfl;have hr:=run_append_grow_src (P:=P) w t tx ty e i z ht hi hz (some ⟨g,0,none⟩) n cap xs (run_firstCells_some (P:=P) w.drew i.size n ⟨g,0,none⟩ n cap xs (by rw [hsize];exact hown.1) (by simpa using holds)) x m news hs' (by omega) (by omega) (growslice_fits (by omega) (by have:=Nat.mul_le_mul hnm hby;omega));have hgr:=grown cap (Value.ownBlock (.slice (some ⟨g,0,none⟩) n cap));exact ⟨_,_,hr,hgr.1,hgr.2,Or.inr rfl⟩
theorem app_ex (w:World) (base:Nat) (v:Value) (L:List (ET × Value)) (O:OwnE w base v L) (q:ET × Value) (pk:Option Addr) (nk ck:Nat) (hq:q.2=.slice pk nk ck) (b:Nat) (V:w.rangeAt b 0 (exC q)) (hl:L.length≤900000) (hb:base≤w.heap.size) :
  ∃ v' w',(Builtin.append_ #[53,53] 53 #[v,.slice (some ⟨b,0,none⟩) 1 1]).run Tryz.prog w=.ok v' w'∧OwnE w' base v' (L++[q])∧w.grownBy w' v.ownBlock∧(v'.ownBlock=v.ownBlock∨v'.ownBlock=some w.heap.size):=by
 obtain ⟨inf,z,hi,hz,hzs,hsz,hby⟩:=infoE;obtain ⟨v',w',hrun,O',GW,hbl⟩:=app_srcB (P:=Tryz.prog) w base 53 53 53 55 inf z Tryz.underlying53 hi hz 15 hsz hby hzs v L.length _ O (.slice (some ⟨b,0,none⟩) 1 1) 1 (exC q)
  (Src.ofSlice (size:=15) w Tryz.underlying53 ⟨b,0,none⟩ 1 1 (exC q) rfl (fun j u hj=>by rw [Addr.add_lit];exact V j u hj) (fun u hu=>by
   obtain ⟨e,s⟩:=q;have hq:s=.slice pk nk ck:=hq;subst hq;simp only [exC,List.mem_append,List.mem_cons,List.not_mem_nil,or_false] at hu
   rcases hu with (rfl | rfl | rfl | rfl | rfl | rfl | rfl | rfl | rfl | rfl | rfl | rfl | rfl | rfl) | rfl <;> rfl)) (by omega) hb
 refine ⟨v',w',hrun,?_,GW,hbl⟩;show World.ownsRow _ _ _ _ _ _ _;rw [List.length_append,List.flatMap_append];simpa using O'
theorem ownE_kids {w:World} {base:Nat} {v:Value} {L:List (ET × Value)} {U:Nat→Prop} (O:OwnE w base v L) (hU:∀ g,v.ownBlock=some g→U g) (hk:∀ (i:Nat) q,L[i]?=some q→KidsS w U q.2 q.1.kids):KidsS w U v (L.map (·.1)):=by
 obtain ⟨p,c,rfl,hc⟩:=ownE_slice O;have hlen:L.length=(L.map (·.1)).length:=by simp
 rw [hlen] at O ⊢;refine KidsS.mk p c (L.map (·.1)) (fun i=>(L[i]?.map (·.2)).getD undef) (by rw [← hlen];exact hc) (fun h0=>?_) (fun i e hi=>?_)
 ·rcases O.2 with ⟨e1,h1⟩ | ⟨g,cap,cur,e1,_⟩
  ·rw [← hlen] at h0;omega
  ·have ep:=(Value.slice.inj e1).1;subst ep;refine ⟨g,rfl,hU g (by simp [Value.ownBlock]),fun i e hi k u hu=>?_⟩;rw [List.getElem?_map] at hi;obtain ⟨q,hq,rfl⟩:=Option.map_eq_some_iff.1 hi;rw [hq] at hu;have hk15:k<15:=by have:=(List.getElem?_eq_some_iff.1 hu).1;simpa using this
   have hcell:=O.cells (g:=g) rfl (i * 15+k) u (by rw [flat15_at hq k hk15];exact hu);rw [Addr.add_lit,Nat.zero_add] at hcell;exact hcell
 ·rw [List.getElem?_map] at hi;obtain ⟨q,hq,rfl⟩:=Option.map_eq_some_iff.1 hi;simp only [hq,Option.map_some,Option.getD_some];exact hk i q hq
end Go.Proofs.YtogecaajnjcenaaGreatDoor

