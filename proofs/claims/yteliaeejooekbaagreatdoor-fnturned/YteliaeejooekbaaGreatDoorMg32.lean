import Derived.Test.YteliaeejooekbaaGreatDoorMg31
import Derived.Test.YteliaeejooekbaaGreatDoorMg15
import Derived.Test.YteliaeejooekbaaGreatDoorMg11
import Derived.Deep.RegionHeld3
import Derived.Test.YteliaeejooekbaaGreatDoorMg30
import Derived.Test.YteliaeejooekbaaGreatDoorMg25
set_option maxRecDepth 8000
namespace Go.Proofs.YteliaeejooekbaaGreatDoor
open Go.RowKit
theorem zFD:∀ {L:List NT} {i:Nat} {q:NT},L[i]?=some q->∀ (c:Nat),c<14->(L.flatMap NT.cells)[i * 14+c]?=q.cells[c]?
 | x :: L,0,q,h,c,hc=>by
  cases h;rw [List.flatMap_cons,Nat.zero_mul,Nat.zero_add];exact List.getElem?_append_left hc
 | x :: L,i+1,q,h,c,hc=>by
  have:(i+1) * 14+c=x.cells.length+(i * 14+c):=by show _=14+_;omega
  rw [List.flatMap_cons,this,List.getElem?_append_right (by omega),Nat.add_sub_cancel_left];exact zFD (by simpa using h) c hc
theorem zB0:∀ (L:List NT),(L.flatMap NT.cells).length=L.length * 14
 | []=>rfl
 | x :: L=>by
  have h:x.cells.length=14:=rfl;rw [List.flatMap_cons,List.length_append,zB0 L,h];show 14+L.length * 14=(L.length+1) * 14;omega
def zJR (w:World) (v:Value) (n:Nat) (M:List Value) (g:Nat):Prop:=
 M.length=n * 14/\∃ p cap,v=.slice p n cap/\n<=cap/\(0<n->p=some ⟨g,0,none⟩/\Vec w g M)
theorem zJR.nodes {w:World} {v:Value} {l:List NT} {g:Nat} (h:zJR w v l.length (l.flatMap NT.cells) g):zAI w v l:=by
 obtain ⟨h1,p,cap,h3,hc,h4⟩:=h;refine ⟨p,cap,h3,hc,fun h0=>?_⟩;obtain ⟨h5,V⟩:=h4 h0;refine ⟨g,0,h5,fun i e hi c u hcu=>?_⟩;have:=(V (i * 14+c) u (by rw [zFD hi c (zF6 hcu)];exact hcu)).1;rw [Nat.zero_add];exact this
def zB9:NT:=⟨4,[35,82,69,70,33],false,0,0,0,0,false,false,0,0,false,false,0⟩
structure AT where
 r:Int
 c:Int
 f:Bool
 g:Bool
 r2:Int
 c2:Int
 f2:Bool
 g2:Bool
abbrev AT.val (a:AT):Value:=.agg #[iQ a.r,iQ a.c,.bool a.f,.bool a.g,iQ a.r2,iQ a.c2,.bool a.f2,.bool a.g2]
def NT.at (x:NT):AT:=⟨x.r,x.c,x.f,x.g,x.er,x.ec,x.ef,x.eg⟩
def zDN (k:Int) (a:AT):NT:=if k=5 then ⟨5,[],false,0,0,a.r,a.c,a.f,a.g,0,0,false,false,0⟩ else ⟨6,[],false,0,0,a.r,a.c,a.f,a.g,a.r2,a.c2,a.f2,a.g2,0⟩
def zE4 (k:Int):Option AT->NT
 | none=>zB9
 | some a=>zDN k a
def rwN (T:AT->Option AT) (x:NT):NT:=if x.k=5\/x.k=6 then zE4 x.k (T x.at) else x
def rwP (T:AT->Option AT) {f:List NT} (ys:List (YA f)):List NT:=ys.foldl (fun l y=>l.set y.i (rwN T y.x)) f
theorem zKZ (T:AT->Option AT) {f:List NT} (ys:List (YA f)) (y:YA f):rwP T (ys++[y])=(rwP T ys).set y.i (rwN T y.x):=by
 unfold rwP;rw [List.foldl_append];rfl
theorem zSW (T:AT->Option AT) {f:List NT} (ys:List (YA f)):(rwP T ys).length=f.length:=by
 unfold rwP;have:∀ (ys:List (YA f)) (l:List NT),(ys.foldl (fun l y=>l.set y.i (rwN T y.x)) l).length=l.length:=by
  intro ys
  induction ys with
  | nil=>intro l;rfl
  | cons y ys ih=>intro l;rw [List.foldl_cons,ih,List.length_set]
 exact this ys f
theorem zKY (T:AT->Option AT) (f:List NT):∀ k,k<=f.length->rwP T (adrT f k)=(f.take k).map (rwN T)++f.drop k
 | 0,_=>by rw [List.take_zero,List.drop_zero];rfl
 | k+1,h=>by
  obtain ⟨x,hx⟩:∃ x,f[k]?=some x:=⟨_,List.getElem?_eq_getElem (by omega)⟩;have ih:=zKY T f k (by omega);have hd:f.drop k=x :: f.drop (k+1):=by
   rw [List.drop_eq_getElem_cons (by omega)]
   congr 1
   rw [List.getElem?_eq_getElem (by omega)] at hx;exact Option.some.inj hx
  have ht:(f.take (k+1)).map (rwN T)=(f.take k).map (rwN T)++[rwN T x]:=by
   rw [List.take_add_one,hx,List.map_append];rfl
  by_cases hk:x.k=5\/x.k=6
  ·rw [zLQ hx hk,zKZ,ih,ht];show ((f.take k).map (rwN T)++f.drop k).set k (rwN T x)=_;have hl:((f.take k).map (rwN T)).length=k:=by rw [List.length_map,List.length_take];omega
   rw [List.set_append_right _ _ (by omega),hl,Nat.sub_self,hd,List.set_cons_zero,List.append_assoc];rfl
  ·rw [zPS hx hk,ih,ht,hd,List.append_assoc];have:rwN T x=x:=by unfold rwN;rw [if_neg hk]
   rw [this];rfl
theorem zSX (T:AT->Option AT) (f:List NT):rwP T (adrT f f.length)=f.map (rwN T):=by
 rw [zKY T f f.length (Nat.le_refl _),List.take_length,List.drop_length,List.append_nil]
noncomputable def rwR (T:AT->Option AT) (f:List NT):List NT:=if zAS NT.good f=true then f.map (rwN T) else []
abbrev zBA (w:World) (base:Nat) (v:Value) (l:List NT):Prop:=w.ownsRow base 73 14 v l.length (l.flatMap NT.cells)
theorem zGK (w:World) (base:Nat):zBA w base (.slice none 0 0) []:=World.ownsRow_nil _ _ _ _
theorem zB4 {w:World} {base:Nat} {v:Value} {l:List NT} (h:zBA w base v l):∀ r,v.ownBlock=some r->base<=r/\r<w.heap.size:=by
 intro r hr
 rcases h.2 with ⟨rfl,_⟩ | ⟨g,cap,cur,rfl,h2,h3,_⟩
 ·cases hr
 ·have:g=r:=by simpa [Value.ownBlock] using hr
  subst this;refine ⟨h2,?_⟩
  rcases Nat.lt_or_ge g w.heap.size with h' | h'
  ·exact h'
  ·rw [Array.getElem?_eq_none h'] at h3;cases h3
theorem zGL {w w':World} {base:Nat} {v:Value} {l:List NT} (h:zBA w base v l) (hx:∀ r,v.ownBlock=some r->w'.heap[r]?=w.heap[r]?):zBA w' base v l:=by
 refine ⟨h.1,h.2.imp id ?_⟩;rintro ⟨g,cap,cur,rfl,h2,h3,h4⟩;exact ⟨g,cap,cur,rfl,h2,by rw [hx g rfl];exact h3,h4⟩
theorem zAW {w w':World} {base:Nat} {v:Value} {l:List NT} (h:zBA w base v l) (hx:Ext w w'):zBA w' base v l:=zGL h fun r hr=>hx.block r (zB4 h r hr).2
theorem zAR {w:World} {base:Nat} {v:Value} {l:List NT} (h:zBA w base v l):∃ p c,v=.slice p l.length c/\l.length<=c:=by
 rcases h.2 with ⟨rfl,h0⟩ | ⟨g,cap,cur,rfl,_,_,h3,_⟩
 ·exact ⟨none,0,by rw [h0],by omega⟩
 ·exact ⟨_,_,rfl,h3⟩
theorem zS8:∃ inf z,Tryz.prog.info? 73=some inf/\inf.zero=some z/\z.cells.size=14/\inf.size=14/\inf.bytes<=1000:=by
 have h:(Tryz.prog.info? 73).map (fun i=>(i.zero.map (·.cells.size),i.size,decide (i.bytes<=1000)))=some (some 14,14,true):=by kernel_rfl
 cases h':Tryz.prog.info? 73 with
 | none=>rw [h'] at h;cases h
 | some inf =>
  rw [h'] at h;simp at h;obtain ⟨h1,h2,h3⟩:=h;obtain ⟨z,hz,hz2⟩:=h1;exact ⟨inf,z,rfl,hz,hz2,h2,h3⟩
theorem zHN (x:NT):∀ u ∈ x.cells,u.oneCell'=true:=by
 intro u hu;simp only [NT.cells,List.mem_cons,List.not_mem_nil,or_false] at hu
 rcases hu with rfl | rfl | rfl | rfl | rfl | rfl | rfl | rfl | rfl | rfl | rfl | rfl | rfl | rfl <;> rfl
theorem zDZ (w:World) (base:Nat) (v:Value) (l:List NT) (O:zBA w base v l) (x:NT) (b:Nat) (V:w.rangeAt b 0 x.cells) (hl:l.length<=900000) (hb:base<=w.heap.size) :
  ∃ v' w',(Builtin.append_ #[32,32] 32 #[v,.slice (some ⟨b,0,none⟩) 1 1]).run Tryz.prog w=.ok v' w'/\zBA w' base v' (l++[x])/\w.grownBy w' v.ownBlock/\(v'.ownBlock=v.ownBlock\/v'.ownBlock=some w.heap.size):=by
 obtain ⟨inf,z,hi,hz,hzs,hsz,hby⟩:=zS8;obtain ⟨v',w',hrun,O',GW,hbl⟩:=zIC (P:=Tryz.prog) w base 32 32 32 73 inf z Tryz.underlying32 hi hz 14 hsz hby hzs v l.length _ O (.slice (some ⟨b,0,none⟩) 1 1) 1 x.cells
  (Src.ofSlice (size:=14) w Tryz.underlying32 ⟨b,0,none⟩ 1 1 x.cells rfl (fun j u hj=>by rw [Addr.add_lit];exact V j u hj) (zHN x)) (by omega) hb
 refine ⟨v',w',hrun,?_,GW,hbl⟩;show World.ownsRow _ _ _ _ _ _ _;rw [List.length_append,List.flatMap_append,List.flatMap_cons,List.flatMap_nil,List.append_nil];exact O'
theorem zF5 {w:World} {base:Nat} {v:Value} {l:List NT} (h:zBA w base v l):∃ g,zJR w v l.length (l.flatMap NT.cells) g/\(0<l.length->base<=g/\g<w.heap.size):=by
 rcases h.2 with ⟨rfl,h0⟩ | ⟨g,cap,cur,rfl,h2,h3,h4,h5,h6,h7⟩
 ·have hl:l=[]:=List.eq_nil_of_length_eq_zero h0;subst hl;exact ⟨0,⟨rfl,none,0,rfl,Nat.le_refl _,fun h=>(by cases h)⟩,fun h=>(by cases h)⟩
 ·refine ⟨g,⟨zB0 l,_,cap,rfl,h4,fun _=>⟨rfl,fun i u hi=>⟨?_,?_⟩⟩⟩,fun _=>⟨h2,(zB4 h g rfl).2⟩⟩
  ·have:=h.cells (g:=g) rfl i u hi;rw [Addr.add_lit,Nat.zero_add] at this;exact this
  ·simp [World.frozen?,h3]
mutual
def mapE (T:NT->NT):ET->ET
 | .mk n ks=>.mk (T n) (mapL T ks)
def mapL (T:NT->NT):List ET->List ET
 | []=>[]
 | k :: ks=>mapE T k :: mapL T ks
end
theorem zK1 (T:NT->NT):∀ ks,mapL T ks=ks.map (mapE T)
 | []=>by rw [mapL];rfl
 | k :: ks=>by rw [mapL,zK1 T ks];rfl
theorem zO4 (T:NT->NT) (e:ET):(mapE T e).n=T e.n:=by cases e;rw [mapE];rfl
theorem zO5 (T:NT->NT) (e:ET):(mapE T e).kids=e.kids.map (mapE T):=by cases e;rw [mapE];exact zK1 T _
structure zIE (gd:NT->Bool) (T:NT->NT):Prop where
 kind:∀ n,T n=n\/((n.k=5\/n.k=6)/\((T n).k=4\/(T n).k=5\/(T n).k=6))
 good:∀ n,gd n=true->gd (T n)=true/\(T n).q=n.q
theorem zIE.no {gd:NT->Bool} {T:NT->NT} (K:zIE gd T) (e:ET):zCB (mapE T e)=zCB e:=by
 unfold zCB;rw [zO4]
 rcases K.kind e.n with h | ⟨h1,h2⟩
 ·rw [h]
 ·rw [decide_eq_false (by omega),decide_eq_false (by omega)]
theorem zIE.val {gd:NT->Bool} {T:NT->NT} (K:zIE gd T) (e:ET) (h:zBJ e=false):zBJ (mapE T e)=false:=by
 unfold zBJ at h ⊢;rw [zO4];have e1:¬ (e.n.k=5\/e.n.k=6):=by
  intro h5;rw [if_neg (by omega),if_neg (by omega)] at h;cases h
 have e2:T e.n=e.n:=(K.kind e.n).resolve_right fun hh=>e1 hh.1;rw [e2]
 split
 ·rfl
 ·next h4 =>
  rw [if_neg h4] at h
  split
  ·next h8 =>
   rw [if_pos h8,Bool.not_eq_false'] at h;rw [zO5]
   match hk:e.kids,h with
   | x :: l,h =>
    have hx:x.n.k=1:=(by simpa [hk] using h);have e3:T x.n=x.n:=(K.kind x.n).resolve_right fun hh=>(by omega);simp [zO4,e3,hx]
  ·next h8=>rw [if_neg h8] at h;exact h
theorem zIE.kb {gd:NT->Bool} {T:NT->NT} (K:zIE gd T) (n:NT) (ks:List ET) (h:zC4 n.k ks=true):zC4 (T n).k (ks.map (mapE T))=true:=by
 have hno:(ks.map (mapE T)).any zCB=ks.any zCB:=by
  rw [List.any_map]
  congr 1
  funext x
  exact K.no x
 have hhd:((ks.map (mapE T)).head?.any zCB)=ks.head?.any zCB:=by
  cases ks with
  | nil=>rfl
  | cons x l=>exact K.no x
 rcases K.kind n with hn | ⟨h1,h2⟩
 ·rw [hn];unfold zC4 at h ⊢;rw [List.length_map,hno,hhd]
  split
  ·next h11=>rw [if_pos h11] at h;exact h
  ·next h11 =>
   rw [if_neg h11] at h
   split
   ·next h12 =>
    rw [if_pos h12] at h;rw [Bool.not_eq_true'] at h ⊢;cases ha:(ks.map (mapE T)).any zBJ with
    | false=>rfl
    | true =>
     obtain ⟨y,hy,hv⟩:=List.any_eq_true.1 ha;obtain ⟨x,hx,rfl⟩:=List.mem_map.1 hy;have hxv:zBJ x=false:=by
      cases hq:zBJ x with
      | false=>rfl
      | true=>rw [List.any_eq_true.2 ⟨x,hx,hq⟩] at h;cases h
     rw [K.val x hxv] at hv;cases hv
   ·next h12=>rw [if_neg h12] at h;exact h
 ·unfold zC4 at h ⊢;rw [if_neg (by omega),if_neg (by omega)] at h;rw [if_neg (by omega),if_neg (by omega),hno];exact h
theorem zLE {gd:NT->Bool} {T:NT->NT} (K:zIE gd T):∀ (F:Nat) (f r:List NT) (e:ET),zC0 gd F f=some (e,r)->zC0 gd F (f.map T)=some (mapE T e,r.map T)
 | 0,f,r,e,h=>by cases h
 | F+1,[],r,e,h=>by cases h
 | F+1,n :: rest,r,e,h=>by
  rw [zC0] at h
  split at h
  ·next hg =>
   split at h
   ·cases h
   ·next ks r1 h1 =>
    split at h
    ·next hk =>
     cases h;have key:∀ (m:Nat) (ls:List ET) (r2:List NT),zBK (zC0 gd F) m rest=some (ls,r2)->zBK (zC0 gd F) m (rest.map T)=some (ls.map (mapE T),r2.map T):=by
      intro m
      induction m with
      | zero=>intro ls r2 hm;cases hm;rfl
      | succ m ih =>
       intro ls r2 hm;rw [zBK] at hm
       split at hm
       ·cases hm
       ·next ks1 r3 hm1 =>
        split at hm
        ·cases hm
        ·next k r4 hm2 =>
         cases hm;rw [zBK,ih ks1 r3 hm1];simp only [zLE K F r3 r2 k hm2,List.map_append,List.map_cons,List.map_nil]
     have hk2:=key _ ks r h1;obtain ⟨g1,g2⟩:=K.good n hg;rw [List.map_cons,zC0,if_pos g1,g2,hk2];simp only;rw [if_pos (K.kb n ks hk),mapE,zK1]
    ·cases h
  ·cases h
theorem zLF {gd:NT->Bool} {T:NT->NT} (G:zMT gd) (K:zIE gd T) (f:List NT) (h:zAS gd f=true):zAS gd (f.map T)=true:=by
 rw [<- zGX G] at h ⊢;unfold zCC at h ⊢;rw [Bool.and_eq_true] at h ⊢;obtain ⟨h1,h2⟩:=h;refine ⟨by rw [List.length_map];exact h1,?_⟩
 split at h2
 ·next e hg =>
  have hm:=zLE K 40 f [] e hg;rw [hm];show (!zCB (mapE T e))=true;rw [K.no e];exact h2
 ·cases h2
end Go.Proofs.YteliaeejooekbaaGreatDoor
