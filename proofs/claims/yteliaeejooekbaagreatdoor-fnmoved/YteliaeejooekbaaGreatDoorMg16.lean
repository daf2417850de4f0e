import Derived.RangeFuncNested
import Derived.RangeFuncBound
import Derived.RangeFuncCalls
import Derived.RangeFuncLeaves
import Derived.Shelf.Abstract
import Derived.WalkKit
import Derived.OwnWalkIn
import Derived.Test.YteliaeejooekbaaGreatDoorMg1
import Derived.Test.YteliaeejooekbaaGreatDoorMg2
import Derived.Laws.MakeOwn
set_option maxRecDepth 8000
namespace Go.Proofs.YteliaeejooekbaaGreatDoor
open Go.RowKit Go.Shelf
def BoxN (W:World) (B:Nat) (t:TypeId) (l:List Value):Prop:=W.heap[B]?=some (.cells l.toArray t (0,0))
theorem BoxN.lt {W:World} {B:Nat} {t:TypeId} {l:List Value} (h:BoxN W B t l):B<W.heap.size:=(Array.getElem?_eq_some_iff.1 h).1
theorem BoxN.vec {W:World} {B:Nat} {t:TypeId} {l:List Value} (h:BoxN W B t l):Vec W B l:=by
 intro i v hi;have hb:W.heap[B]?=_:=h;refine ⟨?_,?_⟩
 ·unfold World.cell?;simp only [hb];simpa using hi
 ·unfold World.frozen?;simp only [hb];simp
theorem BoxN.kept {W W':World} {B:Nat} {t:TypeId} {l:List Value} {row:Option Nat} (h:BoxN W B t l) (hg:W.grownBy W' row) (hr:some B ≠ row):BoxN W' B t l:=(hg.block B h.lt hr).trans h
theorem BoxN.alloc {W:World} {B:Nat} {t:TypeId} {l:List Value} (h:BoxN W B t l) (o:Obj):BoxN (W.alloc o) B t l:=h.kept (World.grownBy_alloc W o none) (by simp)
theorem BoxN.new (W:World) (t:TypeId) (l:List Value):BoxN (W.alloc (.cells l.toArray t)) W.heap.size t l:=World.alloc_heap_new W _
theorem BoxN.ext {W W':World} {B:Nat} {t:TypeId} {l:List Value} (h:BoxN W B t l) (x:Ext W W'):BoxN W' B t l:=(x.block B h.lt).trans h
theorem zL4 {β:Type} (B:Nat) (t:TypeId) (f:β->List Value):Own (fun s W=>BoxN W B t (f s)):=fun s X Y row hs hg hrow =>
 hs.kept hg (fun e'=>by obtain ⟨o,ho,hc⟩:=hrow B e'.symm;rw [show X.heap[B]?=_ from hs] at ho;cases ho;cases hc)
end Go.Proofs.YteliaeejooekbaaGreatDoor
namespace Go.Proofs.YteliaeejooekbaaGreatDoor
open Go.RowKit
structure NT where
 k:Int
 t:List UInt8
 n:Bool
 d:Int
 x:Int
 r:Int
 c:Int
 f:Bool
 g:Bool
 r2:Int
 c2:Int
 f2:Bool
 g2:Bool
 q:Int
abbrev NT.cells (e:NT):List Value:=[iQ e.k,sV e.t,.bool e.n,iQ e.d,iQ e.x,iQ e.r,iQ e.c,.bool e.f,.bool e.g,iQ e.r2,iQ e.c2,.bool e.f2,.bool e.g2,iQ e.q]
abbrev nodV (k:Int) (t:List UInt8) (n:Bool) (d:Int) (x:Int) (r:Int) (c:Int) (f:Bool) (g:Bool) (r2:Int) (c2:Int) (f2:Bool) (g2:Bool) (q:Int):Value:=.agg #[iQ k,sV t,.bool n,iQ d,iQ x,iQ r,iQ c,.bool f,.bool g,iQ r2,iQ c2,.bool f2,.bool g2,iQ q]
def RowN (w:World) (b o:Nat) (l:List NT):Prop:=∀ (i:Nat) (e:NT),l[i]?=some e->∀ (c:Nat) (u:Value),e.cells[c]?=some u->w.cell? ⟨b,o+i * 14+c,none⟩=some u
theorem RowN.l {w w':World} {b o:Nat} {l:List NT} (h:RowN w b o l) (x:Ext w w'):RowN w' b o l:=fun i e hi c u hc=>cell_later x (h i e hi c u hc)
def zAT (w:World) (v:Value) (l:List NT):Prop:=
 ∃ p cap,v=.slice p l.length cap/\l.length<=cap/\(0<l.length->∃ b o,p=some ⟨b,o,none⟩/\RowN w b o l)
theorem zAT.l {w w':World} {v:Value} {l:List NT} (h:zAT w v l) (x:Ext w w'):zAT w' v l:=by
 obtain ⟨p,cap,h1,h2,h3⟩:=h;refine ⟨p,cap,h1,h2,fun h0=>?_⟩;obtain ⟨b,o,h4,h5⟩:=h3 h0;exact ⟨b,o,h4,h5.l x⟩
def OwnN (w:World) (g:Nat) (l:List NT):Prop:=∀ (i:Nat) (e:NT),l[i]?=some e->∀ (c:Nat) (u:Value),e.cells[c]?=some u->w.cell? ⟨g,i * 14+c,none⟩=some u/\w.frozen? ⟨g,i * 14+c,none⟩=false
theorem OwnN.l {w w':World} {g:Nat} {l:List NT} (h:OwnN w g l) (x:Ext w w'):OwnN w' g l:=fun i e hi c u hc=>⟨cell_later x (h i e hi c u hc).1,zB0 x (h i e hi c u hc).1 (h i e hi c u hc).2⟩
theorem OwnN.row {w:World} {g:Nat} {l:List NT} (h:OwnN w g l):RowN w g 0 l:=fun i e hi c u hc=>by rw [Nat.zero_add];exact (h i e hi c u hc).1
theorem zEU {e:NT} {c:Nat} {u:Value} (h:e.cells[c]?=some u):c<14:=(List.getElem?_eq_some_iff.1 h).1
inductive ET where
 | mk (n:NT) (kids:List ET)
def ET.n:ET->NT
 | .mk n _=>n
def ET.kids:ET->List ET
 | .mk _ ks=>ks
def zBH (g:List NT->Option (ET × List NT)):Nat->List NT->Option (List ET × List NT)
 | 0,r=>some ([],r)
 | m+1,r=>match zBH g m r with
  | none=>none
  | some (ks,r1)=>match g r1 with
   | none=>none
   | some (k,r2)=>some (ks++[k],r2)
def zBS (e:ET):Bool:=if e.n.k=1\/e.n.k=2\/e.n.k=3\/e.n.k=4 then false else if e.n.k=8 then !(e.kids.head?.any fun x=>decide (x.n.k=1)) else true
def zDB (e:ET):Bool:=decide (e.n.k=13)
def zCD (k:Int) (ks:List ET):Bool:=if k=11 then !(decide (ks.length=1) && ks.head?.any zDB) else if k=12 then !ks.any zBS else !ks.any zDB
def zCL (gd:NT->Bool):Nat->List NT->Option (ET × List NT)
 | 0,_=>none
 | _+1,[]=>none
 | f+1,n :: rest=>if gd n then (match zBH (zCL gd f) n.q.toNat rest with
  | none=>none
  | some (ks,r)=>if zCD n.k ks then some (.mk n ks,r) else none) else none
def zCA (gd:NT->Bool) (f:List NT):Bool:=decide (f.length<=300) && (match zCL gd 40 f with
 | some (e,[])=>!zDB e
 | _=>false)
def zB5:Nat->List NT->Option (ET × List NT)
 | 0,_=>none
 | _+1,[]=>none
 | f+1,n :: rest=>if 0<=n.q/\n.q<=100 then (match zBH (zB5 f) n.q.toNat rest with
  | none=>none
  | some (ks,r)=>some (.mk n ks,r)) else none
def zAR (e:ET):Bool:=decide (e.n.k=1\/e.n.k=2\/e.n.k=3\/e.n.k=4) || (decide (e.n.k=8) && decide (e.kids.length=1) && e.kids.head?.any fun x=>decide (x.n.k=1))
def zCI (gd:NT->Bool) (e:ET) (many:Bool):Bool:=decide (e.n.q=e.kids.length) && gd e.n && (!zDB e || many) && (!decide (e.n.k=12) || e.kids.all zAR)
mutual
def zC1 (gd:NT->Bool):ET->Bool->Option (Nat × Nat)
 | .mk n ks,many=>if zCI gd (.mk n ks) many then (match zB2 gd ks (decide (n.k=11) && decide (1<ks.length)) with
  | none=>none
  | some (a,d)=>some (a+1,d+1)) else none
def zB2 (gd:NT->Bool):List ET->Bool->Option (Nat × Nat)
 | [],_=>some (0,0)
 | k :: ks,many=>match zC1 gd k many with
  | none=>none
  | some (a,b)=>match zB2 gd ks many with
   | none=>none
   | some (c,d)=>some (a+c,max b d)
end
def zAZ (gd:NT->Bool) (f:List NT):Bool:=decide (1<=f.length) && decide (f.length<=300) && (match zB5 41 f with
 | some (e,[])=>(match zC1 gd e false with
  | some (n,d)=>decide (n<=300) && decide (d<=40)
  | none=>false)
 | _=>false)
theorem zIK {g:List NT->Option (ET × List NT)}:∀ {m:Nat} {r r':List NT} {ks:List ET},zBH g m r=some (ks,r')->ks.length=m
 | 0,r,r',ks,h=>by cases h;rfl
 | m+1,r,r',ks,h=>by
  unfold zBH at h
  split at h
  ·cases h
  ·next ks1 r1 h1 =>
   split at h
   ·cases h
   ·next k r2 h2 =>
    cases h;rw [List.length_append,zIK h1];rfl
theorem zC8 (gd:NT->Bool) (many:Bool):∀ (ks ls:List ET),zB2 gd (ks++ls) many=(match zB2 gd ks many with
  | none=>none
  | some (a,b)=>match zB2 gd ls many with
   | none=>none
   | some (c,d)=>some (a+c,max b d))
 | [],ls=>by
  rw [List.nil_append,zB2];cases zB2 gd ls many with
  | none=>rfl
  | some q=>obtain ⟨c,d⟩:=q;simp
 | k :: ks,ls=>by
  rw [List.cons_append,zB2,zB2,zC8 gd many ks ls];cases zC1 gd k many with
  | none=>rfl
  | some q =>
   obtain ⟨a,b⟩:=q;cases zB2 gd ks many with
   | none=>rfl
   | some q2 =>
    obtain ⟨c,d⟩:=q2;cases zB2 gd ls many with
    | none=>rfl
    | some q3 =>
     obtain ⟨e,f⟩:=q3;simp only [Option.some.injEq,Prod.mk.injEq];omega
theorem zIA {gd:NT->Bool} {many:Bool}:∀ {ks:List ET} {s:Nat × Nat},zB2 gd ks many=some s->∀ k ∈ ks,zCI gd k many=true
 | k :: ks,s,h,x,hx=>by
  rw [zB2] at h
  split at h
  ·cases h
  ·next a b h1 =>
   split at h
   ·cases h
   ·next c d h2 =>
    rcases List.mem_cons.1 hx with rfl | hx
    ·obtain ⟨n,kk⟩:=x;rw [zC1] at h1
     split at h1
     ·assumption
     ·cases h1
    ·exact zIA h2 x hx
structure zP4 (gd:NT->Bool):Prop where
 kids:∀ n,gd n=true->0<=n.q/\n.q<=100
 minus:∀ n,gd n=true->n.k=8->n.q=1
theorem zIT {gd:NT->Bool} (G:zP4 gd) {F:Nat} {f r:List NT} {e:ET} (h:zCL gd F f=some (e,r)):gd e.n=true/\e.n.q=e.kids.length/\zCD e.n.k e.kids=true:=by
 match F,f,h with
 | 0,_,h=>cases h
 | F+1,[],h=>cases h
 | F+1,n :: rest,h =>
  rw [zCL] at h
  split at h
  ·next hg =>
   split at h
   ·cases h
   ·next ks r1 h1 =>
    split at h
    ·next hk =>
     cases h;have:=zIK h1;have:=G.kids n hg;exact ⟨hg,by show n.q=(ks.length:Int);omega,hk⟩
    ·cases h
  ·cases h
theorem zNV {k:Int} {ks:List ET} (h:zCD k ks=true):∀ x ∈ ks,zDB x=true->(decide (k=11) && decide (1<ks.length))=true:=by
 intro x hx hn;unfold zCD at h
 split at h
 ·next h11 =>
  match ks,hx,h with
  | [y],hx,h =>
   rw [List.mem_singleton] at hx;subst hx;simp [hn] at h
  | y :: z :: l,hx,h=>simp [h11]
 ·split at h
  ·have:zBS x=true:=by
    have hk:x.n.k=13:=(by simpa [zDB] using hn);simp [zBS,hk]
   have h2:ks.any zBS=true:=List.any_eq_true.2 ⟨x,hx,this⟩;rw [h2] at h;cases h
  ·have h2:ks.any zDB=true:=List.any_eq_true.2 ⟨x,hx,hn⟩;rw [h2] at h;cases h
theorem zJ5 {gd:NT->Bool} (G:zP4 gd) {x:ET} (hg:gd x.n=true) (hq:x.n.q=x.kids.length) (h:zBS x=false):zAR x=true:=by
 unfold zBS at h
 split at h
 ·next hk=>simp [zAR,hk]
 ·split at h
  ·next h8 =>
   have:=G.minus _ hg h8;have hl:x.kids.length=1:=by omega
   simp at h;simp [zAR,h8,hl];obtain ⟨y,hy⟩:∃ y,x.kids=[y]:=List.length_eq_one_iff.1 hl;rw [hy] at h ⊢;simpa using h
  ·cases h
theorem zHX {x:ET} (h:zAR x=true):zBS x=false:=by
 unfold zAR at h;unfold zBS
 split
 ·rfl
 ·next hk =>
  rw [decide_eq_false hk,Bool.false_or,Bool.and_eq_true,Bool.and_eq_true] at h;obtain ⟨⟨h8,_⟩,h1⟩:=h;rw [if_pos (of_decide_eq_true h8),h1];rfl
theorem zJO {gd:NT->Bool} {e:ET} {many:Bool} (h:zCI gd e many=true) (hm:∀ x ∈ e.kids,zCI gd x (decide (e.n.k=11) && decide (1<e.kids.length))=true):zCD e.n.k e.kids=true:=by
 have nn:(decide (e.n.k=11) && decide (1<e.kids.length))=false->∀ x ∈ e.kids,zDB x=false:=fun hf x hx=>by
  have:=hm x hx;rw [hf] at this;unfold zCI at this;simp only [Bool.and_eq_true,Bool.or_false] at this;simpa using this.1.2
 unfold zCD
 split
 ·next h11 =>
  by_cases hl:e.kids.length=1
  ·obtain ⟨y,hy⟩:=List.length_eq_one_iff.1 hl;have:=nn (by simp [hl]) y (by rw [hy];simp);rw [hy];simp [this]
  ·simp [hl]
 ·next h11 =>
  split
  ·next h12 =>
   unfold zCI at h;rw [Bool.and_eq_true] at h;have h2:=h.2;rw [decide_eq_true h12] at h2;have h2:e.kids.all zAR=true:=h2;rw [List.all_eq_true] at h2;cases ha:e.kids.any zBS with
   | false=>rfl
   | true =>
    obtain ⟨x,hx,hv⟩:=List.any_eq_true.1 ha;rw [zHX (h2 x hx)] at hv;cases hv
  ·cases ha:e.kids.any zDB with
   | false=>rfl
   | true =>
    obtain ⟨x,hx,hv⟩:=List.any_eq_true.1 ha;rw [nn (by simp [h11]) x hx] at hv;cases hv
theorem zGG {gd:NT->Bool} (G:zP4 gd):∀ (F:Nat) (f r:List NT) (e:ET) (many:Bool),zCL gd F f=some (e,r)->(zDB e=true->many=true) ->
  (∀ F',F<=F'->zB5 F' f=some (e,r))/\∃ s d,zC1 gd e many=some (s,d)/\d<=F/\f.length=s+r.length
 | 0,f,r,e,many,h,_=>by cases h
 | F+1,[],r,e,many,h,_=>by cases h
 | F+1,n :: rest,r,e,many,h,hn=>by
  have hh:=zIT G h;rw [zCL] at h
  split at h
  ·next hg =>
   split at h
   ·cases h
   ·next ks r1 h1 =>
    split at h
    ·next hk =>
     cases h;have key:∀ (m:Nat) (ls:List ET) (r2:List NT),zBH (zCL gd F) m rest=some (ls,r2)->(∀ x ∈ ls,zDB x=true->(decide (n.k=11) && decide (1<ks.length))=true) ->
       (∀ F',F<=F'->zBH (zB5 F') m rest=some (ls,r2))/\(∀ x ∈ ls,gd x.n=true/\x.n.q=x.kids.length)/\∃ s d,zB2 gd ls (decide (n.k=11) && decide (1<ks.length))=some (s,d)/\d<=F/\rest.length=s+r2.length:=by
      intro m
      induction m with
      | zero =>
       intro ls r2 hm _;cases hm;exact ⟨fun _ _=>rfl,fun x hx=>by (cases hx),0,0,by rw [zB2],by omega,by omega⟩
      | succ m ih =>
       intro ls r2 hm hnn;rw [zBH] at hm
       split at hm
       ·cases hm
       ·next ks1 r3 hm1 =>
        split at hm
        ·cases hm
        ·next k r4 hm2 =>
         cases hm;obtain ⟨i1,i0,s1,d1,i2,i3,i4⟩:=ih ks1 r3 hm1 (fun x hx=>hnn x (List.mem_append_left _ hx));obtain ⟨j1,s2,d2,j2,j3,j4⟩:=zGG G F r3 r2 k _ hm2 (fun hx=>hnn k (by simp) hx);refine ⟨fun F' hF=>?_,fun x hx=>?_,s1+s2,max d1 d2,?_,by omega,by omega⟩
         ·rw [zBH,i1 F' hF];simp only [j1 F' hF]
         ·rcases List.mem_append.1 hx with hx | hx
          ·exact i0 x hx
          ·rw [List.mem_singleton] at hx;subst hx;have:=zIT G hm2;exact ⟨this.1,this.2.1⟩
         ·rw [zC8,i2,zB2,j2,zB2];simp
     obtain ⟨k1,k0,s,d,k2,k3,k4⟩:=key _ ks r h1 (zNV hk);refine ⟨fun F' hF=>?_,s+1,d+1,?_,by omega,by rw [List.length_cons];omega⟩
     ·obtain ⟨F'',rfl⟩:∃ q,F'=q+1:=⟨F' - 1,by omega⟩;rw [zB5,if_pos (G.kids n hg),k1 F'' (by omega)]
     ·rw [zC1,if_pos,k2];unfold zCI;rw [decide_eq_true hh.2.1,hh.1,Bool.true_and,Bool.true_and,Bool.and_eq_true];refine ⟨?_,?_⟩
      ·cases hx:zDB (.mk n ks) with
       | false=>rfl
       | true=>rw [hn hx];rfl
      ·by_cases h12:n.k=12
       ·have:ks.all zAR=true:=by
         rw [List.all_eq_true];intro x hx;have hv:zBS x=false:=by
          have hk2:=hk;unfold zCD at hk2;rw [if_neg (by omega),if_pos h12] at hk2;cases hv:zBS x with
          | false=>rfl
          | true =>
           rw [List.any_eq_true.2 ⟨x,hx,hv⟩] at hk2;cases hk2
         exact zJ5 G (k0 x hx).1 (k0 x hx).2 hv
        show (!decide (n.k=12) || ks.all zAR)=true;rw [this,Bool.or_true]
       ·show (!decide (n.k=12) || ks.all zAR)=true;rw [decide_eq_false h12];rfl
    ·cases h
  ·cases h
theorem zI2 {gd:NT->Bool}:∀ (F':Nat) (f r:List NT) (e:ET),zB5 F' f=some (e,r)->∀ (many:Bool) (s d F:Nat),zC1 gd e many=some (s,d)->d<=F->zCL gd F f=some (e,r)
 | 0,f,r,e,h=>by cases h
 | F'+1,[],r,e,h=>by cases h
 | F'+1,n :: rest,r,e,h=>by
  intro many s d F hs hd;rw [zB5] at h
  split at h
  ·split at h
   ·cases h
   ·next ks r1 h1 =>
    cases h;rw [zC1] at hs
    split at hs
    ·next hr =>
     split at hs
     ·cases hs
     ·next a b hl =>
      cases hs;obtain ⟨F0,rfl⟩:∃ q,F=q+1:=⟨F - 1,by omega⟩;have key:∀ (m:Nat) (ls:List ET) (r2:List NT),zBH (zB5 F') m rest=some (ls,r2)->∀ a b,zB2 gd ls (decide (n.k=11) && decide (1<ks.length))=some (a,b)->b<=F0->zBH (zCL gd F0) m rest=some (ls,r2):=by
       intro m
       induction m with
       | zero=>intro ls r2 hm a b _ _;cases hm;rfl
       | succ m ih =>
        intro ls r2 hm a b hsl hb;rw [zBH] at hm
        split at hm
        ·cases hm
        ·next ks1 r3 hm1 =>
         split at hm
         ·cases hm
         ·next k r4 hm2 =>
          cases hm;rw [zC8] at hsl
          split at hsl
          ·cases hsl
          ·next a1 b1 q1 =>
           split at hsl
           ·cases hsl
           ·next a2 b2 q2 =>
            cases hsl;rw [zB2] at q2
            split at q2
            ·cases q2
            ·next a3 b3 q3 =>
             rw [zB2] at q2;cases q2;rw [zBH,ih ks1 r3 hm1 a1 b1 q1 (by omega)];simp only [zI2 F' r3 r2 k hm2 _ a3 b3 F0 q3 (by omega)]
      have hkey:=key _ ks r h1 a b hl (by omega);have hg:gd n=true:=by
       unfold zCI at hr;simp only [Bool.and_eq_true] at hr;exact hr.1.1.2
      rw [zCL,if_pos hg,hkey];simp only;rw [if_pos (show zCD n.k ks=true from zJO hr (fun x hx=>zIA hl x hx))]
    ·cases hs
  ·cases h
theorem zIU {gd:NT->Bool} (G:zP4 gd) (f:List NT):zCA gd f=zAZ gd f:=by
 have to1:zCA gd f=true->zAZ gd f=true:=by
  intro h;unfold zCA at h;rw [Bool.and_eq_true] at h;obtain ⟨h1,h2⟩:=h
  split at h2
  ·next e hg =>
   obtain ⟨t1,s,d,t2,t3,t4⟩:=zGG G 40 f [] e false hg (fun hx=>by rw [hx] at h2;cases h2);have hs:f.length=s:=by simpa using t4
   have h1':=of_decide_eq_true h1;have hn:1<=f.length:=by
    match f,hg with
    | [],hg=>cases hg
    | _ :: _,_=>simp
   unfold zAZ;rw [t1 41 (by omega)];simp only [t2];simp;omega
  ·cases h2
 have to2:zAZ gd f=true->zCA gd f=true:=by
  intro h;unfold zAZ at h;rw [Bool.and_eq_true,Bool.and_eq_true] at h;obtain ⟨⟨h0,h1⟩,h2⟩:=h
  split at h2
  ·next e ht =>
   split at h2
   ·next s d hs =>
    rw [Bool.and_eq_true] at h2;have hg:=zI2 41 f [] e ht false s d 40 hs (of_decide_eq_true h2.2);unfold zCA;rw [h1,hg];simp only;obtain ⟨n,ks⟩:=e;rw [zC1] at hs
    split at hs
    ·next hr =>
     unfold zCI at hr;simp only [Bool.and_eq_true,Bool.or_false] at hr;rw [hr.1.2];rfl
    ·cases hs
   ·cases h2
  ·cases h2
 cases h1:zCA gd f with
 | true=>rw [to1 h1]
 | false =>
  cases h2:zAZ gd f with
  | false=>rfl
  | true=>rw [to2 h2] at h1;cases h1
end Go.Proofs.YteliaeejooekbaaGreatDoor
