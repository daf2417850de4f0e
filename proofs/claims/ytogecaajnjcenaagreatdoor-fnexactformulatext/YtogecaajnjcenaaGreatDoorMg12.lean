/-
  Several texts in one: FrameT, FrameU, Gf0, Quo, Fx0, Stc.
-/
import Derived.Test.YtogecaajnjcenaaGreatDoorMg1
import Derived.Test.YtogecaajnjcenaaGreatDoorMg5
import Derived.Stop.LaidErr
import Derived.Test.YtogecaajnjcenaaGreatDoorMg11
import Derived.Test.YtogecaajnjcenaaGreatDoorMg2
import Derived.Test.YtogecaajnjcenaaGreatDoorBase
import Derived.Deep.MidRow
namespace Go.Proofs.YtogecaajnjcenaaGreatDoor
open Go.ChangeShapes Go.WideShapes Go.ChangeAt Go.RowKit
theorem gPow10Type:(Tryz.prog.globals[8]?).map (·.type)=some 159:=by kernel_rfl
theorem pow10_of {rest:List (String × DataW Unit)} {W:World} (h:laidMet Tryz.prog (("internal/strconv.uint64pow10", Rows.laid_internal_strconv_uint64pow10) :: rest) W):Lib.TabIs Tryz.prog W "internal/strconv.uint64pow10" .u64 Lib.pow10Tab:=
 Lib.tabIs_of_head (rest:=rest) gPow10 gPow10Type Tryz.underlying159 Tryz.underlying158 (by kernel_rfl) (by kernel_rfl) h
end Go.Proofs.YtogecaajnjcenaaGreatDoor

namespace Go.Proofs.YtogecaajnjcenaaGreatDoor
open Go.ChangeShapes Go.WideShapes Go.ChangeAt Go.RowKit
theorem int_of_shape {P:Program} {w:World} {g:Nat} {t:TypeId} {zero:Array Value} (h:w.ShapedOpen P) (hg:g<P.globals.size)
  (h0:((begin P (fun _ _=>0) default).world.heap[g]?).bind Obj.row?=some (zero,t)) (hz:zero.size=1)
  (hb:P.buildable t=true) (hc:P.cellTypes P.depth t=some [t]) (hu:P.underlying t=some (.int .i64)):∃ m,w.cell? ⟨g,0,none⟩=some (.int .i64 m):=by
 obtain ⟨cs,hh,hs,hr⟩:=h.1 g zero t hg h0;obtain ⟨ts,hts,_,hall⟩:=hr hb;rw [hc] at hts;cases hts;have h1:0<cs.size:=by omega
 obtain ⟨u,hu',hok⟩:=hall 0 cs[0] (by simp [h1]);have:u=t:=by simpa using hu'.symm
 subst this;have hcell:w.cell? ⟨g,0,none⟩=some cs[0]:=by simp [World.cell?,hh,h1]
 rw [hcell];unfold Cell.ok at hok;rw [hu] at hok;cases hv:cs[0] <;> rw [hv] at hok <;> first | exact ⟨_,by rw [hok.1]⟩ | simp at hok
theorem maxLen_of {W:World} (h:W.ShapedOpen Tryz.prog):∃ m,W.cell? ⟨3,0,none⟩=some (.int .i64 m):=
 int_of_shape (t:=3) (zero:=#[.int .i64 0]) h (of_decide_eq_true (by kernel_rfl)) (by kernel_rfl) rfl (by kernel_rfl) (by kernel_rfl) Tryz.underlying3
theorem starErr : "*" ++ "errors.errorString" = "*errors.errorString" := by decide
theorem rowErr (u:TypeId) (h:Tryz.prog.typeName? 3 u=some "*errors.errorString"):u=223:=
 typeName_ptr_named (nm := "errors.errorString") (by rw [starErr];kernel_rfl) (by kernel_rfl) (by decide) u (by rw [starErr];exact h)
theorem gSyntaxType:(Tryz.prog.globals[6]?).map (·.type)=some 94:=by kernel_rfl
theorem gRangeType:(Tryz.prog.globals[7]?).map (·.type)=some 94:=by kernel_rfl
theorem syntax_of {rest:List (String × DataW Unit)} {W:World} (h:laidMet Tryz.prog (("strconv.ErrSyntax", Rows.laid_strconv_ErrSyntax) :: rest) W):∃ tp p,W.var? Tryz.prog "strconv.ErrSyntax" = some #[.iface tp p]:=by
 obtain ⟨a0,s0,hv0,-,-,-⟩:=laid_sentinel h gSyntax gSyntaxType Tryz.underlying94 rowErr Tryz.underlying223 Tryz.underlying225 rfl rfl Tryz.underlying9 (by kernel_rfl) (by kernel_rfl);exact ⟨_,_,hv0⟩
theorem range_of {rest:List (String × DataW Unit)} {W:World} (h:laidMet Tryz.prog (("strconv.ErrRange", Rows.laid_strconv_ErrRange) :: rest) W):∃ tp p,W.var? Tryz.prog "strconv.ErrRange" = some #[.iface tp p]:=by
 obtain ⟨a0,s0,hv0,-,-,-⟩:=laid_sentinel h gRange gRangeType Tryz.underlying94 rowErr Tryz.underlying223 Tryz.underlying225 rfl rfl Tryz.underlying9 (by kernel_rfl) (by kernel_rfl);exact ⟨_,_,hv0⟩
end Go.Proofs.YtogecaajnjcenaaGreatDoor

namespace Go.Proofs.YtogecaajnjcenaaGreatDoor
open Go.RowKit
inductive ET where
 | mk (n:NT) (kids:List ET)
def ET.n:ET→NT
 | .mk n _=>n
def ET.kids:ET→List ET
 | .mk _ ks=>ks
def manyF (g:List NT→Option (ET × List NT)):Nat→List NT→Option (List ET × List NT)
 | 0,r=>some ([],r)
 | m+1,r=>match manyF g m r with
  | none=>none
  | some (ks,r1)=>match g r1 with
   | none=>none
   | some (k,r2)=>some (ks++[k],r2)
def noValE (e:ET):Bool:=if e.n.k=1∨e.n.k=2∨e.n.k=3∨e.n.k=4 then false else if e.n.k=8 then !(e.kids.head?.any fun x=>decide (x.n.k=1)) else true
def isNoE (e:ET):Bool:=decide (e.n.k=13)
def kidsB (k:Int) (ks:List ET):Bool:=if k=11 then !(decide (ks.length=1) && ks.head?.any isNoE) else if k=12 then !ks.any noValE else !ks.any isNoE
def growF (gd:NT→Bool):Nat→List NT→Option (ET × List NT)
 | 0,_=>none
 | _+1,[]=>none
 | f+1,n :: rest=>if gd n then (match manyF (growF gd f) n.q.toNat rest with
  | none=>none
  | some (ks,r)=>if kidsB n.k ks then some (.mk n ks,r) else none) else none
def goodIF (gd:NT→Bool) (f:List NT):Bool:=decide (f.length≤300) && (match growF gd 40 f with
 | some (e,[])=>!isNoE e
 | _=>false)
def takeF:Nat→List NT→Option (ET × List NT)
 | 0,_=>none
 | _+1,[]=>none
 | f+1,n :: rest=>if 0≤n.q∧n.q≤100 then (match manyF (takeF f) n.q.toNat rest with
  | none=>none
  | some (ks,r)=>some (.mk n ks,r)) else none
def constE (e:ET):Bool:=decide (e.n.k=1∨e.n.k=2∨e.n.k=3∨e.n.k=4) || (decide (e.n.k=8) && decide (e.kids.length=1) && e.kids.head?.any fun x=>decide (x.n.k=1))
def rightE (gd:NT→Bool) (e:ET) (many:Bool):Bool:=decide (e.n.q=e.kids.length) && gd e.n && (!isNoE e || many) && (!decide (e.n.k=12) || e.kids.all constE)
mutual
def sizeE (gd:NT→Bool):ET→Bool→Option (Nat × Nat)
 | .mk n ks,many=>if rightE gd (.mk n ks) many then (match sizeL gd ks (decide (n.k=11) && decide (1<ks.length)) with
  | none=>none
  | some (a,d)=>some (a+1,d+1)) else none
def sizeL (gd:NT→Bool):List ET→Bool→Option (Nat × Nat)
 | [],_=>some (0,0)
 | k :: ks,many=>match sizeE gd k many with
  | none=>none
  | some (a,b)=>match sizeL gd ks many with
   | none=>none
   | some (c,d)=>some (a+c,max b d)
end
def goodSF (gd:NT→Bool) (f:List NT):Bool:=decide (1≤f.length) && decide (f.length≤300) && (match takeF 41 f with
 | some (e,[])=>(match sizeE gd e false with
  | some (n,d)=>decide (n≤300) && decide (d≤40)
  | none=>false)
 | _=>false)
theorem manyF_len {g:List NT→Option (ET × List NT)}:∀ {m:Nat} {r r':List NT} {ks:List ET},manyF g m r=some (ks,r')→ks.length=m
 | 0,r,r',ks,h=>by cases h;rfl
 | m+1,r,r',ks,h=>by
  unfold manyF at h
  split at h
  ·cases h
  ·next ks1 r1 h1 =>
   split at h
   ·cases h
   ·next k r2 h2 =>
    cases h;rw [List.length_append,manyF_len h1];rfl
theorem sizeL_append (gd:NT→Bool) (many:Bool):∀ (ks ls:List ET),sizeL gd (ks++ls) many=(match sizeL gd ks many with
  | none=>none
  | some (a,b)=>match sizeL gd ls many with
   | none=>none
   | some (c,d)=>some (a+c,max b d))
 | [],ls=>by
  rw [List.nil_append,sizeL];cases sizeL gd ls many with
  | none=>rfl
  | some q=>obtain ⟨c,d⟩:=q;simp
 | k :: ks,ls=>by
  rw [List.cons_append,sizeL,sizeL,sizeL_append gd many ks ls];cases sizeE gd k many with
  | none=>rfl
  | some q =>
   obtain ⟨a,b⟩:=q;cases sizeL gd ks many with
   | none=>rfl
   | some q2 =>
    obtain ⟨c,d⟩:=q2;cases sizeL gd ls many with
    | none=>rfl
    | some q3 =>
     obtain ⟨e,f⟩:=q3;simp only [Option.some.injEq,Prod.mk.injEq];omega
theorem sizeL_mem {gd:NT→Bool} {many:Bool}:∀ {ks:List ET} {s:Nat × Nat},sizeL gd ks many=some s→∀ k ∈ ks,rightE gd k many=true
 | k :: ks,s,h,x,hx=>by
  rw [sizeL] at h
  split at h
  ·cases h
  ·next a b h1 =>
   split at h
   ·cases h
   ·next c d h2 =>
    rcases List.mem_cons.1 hx with rfl | hx
    ·obtain ⟨n,kk⟩:=x;rw [sizeE] at h1
     split at h1
     ·assumption
     ·cases h1
    ·exact sizeL_mem h2 x hx
structure GoodK (gd:NT→Bool):Prop where
 kids:∀ n,gd n=true→0≤n.q∧n.q≤100
 minus:∀ n,gd n=true→n.k=8→n.q=1
theorem grow_head {gd:NT→Bool} (G:GoodK gd) {F:Nat} {f r:List NT} {e:ET} (h:growF gd F f=some (e,r)):gd e.n=true∧e.n.q=e.kids.length∧kidsB e.n.k e.kids=true:=by
 match F,f,h with
 | 0,_,h=>cases h
 | F+1,[],h=>cases h
 | F+1,n :: rest,h =>
  rw [growF] at h
  split at h
  ·next hg =>
   split at h
   ·cases h
   ·next ks r1 h1 =>
    split at h
    ·next hk =>
     cases h;have:=manyF_len h1;have:=G.kids n hg;exact ⟨hg,by show n.q=(ks.length:Int);omega,hk⟩
    ·cases h
  ·cases h
theorem kids_many {k:Int} {ks:List ET} (h:kidsB k ks=true):∀ x ∈ ks,isNoE x=true→(decide (k=11) && decide (1<ks.length))=true:=by
 intro x hx hn;unfold kidsB at h
 split at h
 ·next h11 =>
  match ks,hx,h with
  | [y],hx,h =>
   rw [List.mem_singleton] at hx;subst hx;simp [hn] at h
  | y :: z :: l,hx,h=>simp [h11]
 ·split at h
  ·have:noValE x=true:=by
    have hk:x.n.k=13:=(by simpa [isNoE] using hn);simp [noValE,hk]
   have h2:ks.any noValE=true:=List.any_eq_true.2 ⟨x,hx,this⟩;rw [h2] at h;cases h
  ·have h2:ks.any isNoE=true:=List.any_eq_true.2 ⟨x,hx,hn⟩;rw [h2] at h;cases h
theorem const_of_val {gd:NT→Bool} (G:GoodK gd) {x:ET} (hg:gd x.n=true) (hq:x.n.q=x.kids.length) (h:noValE x=false):constE x=true:=by
 unfold noValE at h
 split at h
 ·next hk=>simp [constE,hk]
 ·split at h
  ·next h8 =>
   have:=G.minus _ hg h8;have hl:x.kids.length=1:=by omega
   simp at h;simp [constE,h8,hl];obtain ⟨y,hy⟩:∃ y,x.kids=[y]:=List.length_eq_one_iff.1 hl;rw [hy] at h ⊢;simpa using h
  ·cases h
theorem val_of_const {x:ET} (h:constE x=true):noValE x=false:=by
 unfold constE at h;unfold noValE
 split
 ·rfl
 ·next hk =>
  rw [decide_eq_false hk,Bool.false_or,Bool.and_eq_true,Bool.and_eq_true] at h;obtain ⟨⟨h8,_⟩,h1⟩:=h;rw [if_pos (of_decide_eq_true h8),h1];rfl
theorem kidsB_const {gd:NT→Bool} {e:ET} {many:Bool} (h:rightE gd e many=true) (hm:∀ x ∈ e.kids,rightE gd x (decide (e.n.k=11) && decide (1<e.kids.length))=true):kidsB e.n.k e.kids=true:=by
 have nn:(decide (e.n.k=11) && decide (1<e.kids.length))=false→∀ x ∈ e.kids,isNoE x=false:=fun hf x hx=>by
  have:=hm x hx;rw [hf] at this;unfold rightE at this;simp only [Bool.and_eq_true,Bool.or_false] at this;simpa using this.1.2
 unfold kidsB
 split
 ·next h11 =>
  by_cases hl:e.kids.length=1
  ·obtain ⟨y,hy⟩:=List.length_eq_one_iff.1 hl;have:=nn (by simp [hl]) y (by rw [hy];simp);rw [hy];simp [this]
  ·simp [hl]
 ·next h11 =>
  split
  ·next h12 =>
   unfold rightE at h;rw [Bool.and_eq_true] at h;have h2:=h.2;rw [decide_eq_true h12] at h2;have h2:e.kids.all constE=true:=h2;rw [List.all_eq_true] at h2;cases ha:e.kids.any noValE with
   | false=>rfl
   | true =>
    obtain ⟨x,hx,hv⟩:=List.any_eq_true.1 ha;rw [val_of_const (h2 x hx)] at hv;cases hv
  ·cases ha:e.kids.any isNoE with
   | false=>rfl
   | true =>
    obtain ⟨x,hx,hv⟩:=List.any_eq_true.1 ha;rw [nn (by simp [h11]) x hx] at hv;cases hv
theorem grow_take {gd:NT→Bool} (G:GoodK gd):∀ (F:Nat) (f r:List NT) (e:ET) (many:Bool),growF gd F f=some (e,r)→(isNoE e=true→many=true) →
  (∀ F',F≤F'→takeF F' f=some (e,r))∧∃ s d,sizeE gd e many=some (s,d)∧d≤F∧f.length=s+r.length
 | 0,f,r,e,many,h,_=>by cases h
 | F+1,[],r,e,many,h,_=>by cases h
 | F+1,n :: rest,r,e,many,h,hn=>by
  have hh:=grow_head G h;rw [growF] at h
  split at h
  ·next hg =>
   split at h
   ·cases h
   ·next ks r1 h1 =>
    split at h
    ·next hk =>
     cases h;have key:∀ (m:Nat) (ls:List ET) (r2:List NT),manyF (growF gd F) m rest=some (ls,r2)→(∀ x ∈ ls,isNoE x=true→(decide (n.k=11) && decide (1<ks.length))=true) →
       (∀ F',F≤F'→manyF (takeF F') m rest=some (ls,r2))∧(∀ x ∈ ls,gd x.n=true∧x.n.q=x.kids.length)∧∃ s d,sizeL gd ls (decide (n.k=11) && decide (1<ks.length))=some (s,d)∧d≤F∧rest.length=s+r2.length:=by
      intro m
      induction m with
      | zero =>
       intro ls r2 hm _;cases hm;exact ⟨fun _ _=>rfl,fun x hx=>by (cases hx),0,0,by rw [sizeL],by omega,by omega⟩
      | succ m ih =>
       intro ls r2 hm hnn;rw [manyF] at hm
       split at hm
       ·cases hm
       ·next ks1 r3 hm1 =>
        split at hm
        ·cases hm
        ·next k r4 hm2 =>
         cases hm;obtain ⟨i1,i0,s1,d1,i2,i3,i4⟩:=ih ks1 r3 hm1 (fun x hx=>hnn x (List.mem_append_left _ hx));obtain ⟨j1,s2,d2,j2,j3,j4⟩:=grow_take G F r3 r2 k _ hm2 (fun hx=>hnn k (by simp) hx);refine ⟨fun F' hF=>?_,fun x hx=>?_,s1+s2,max d1 d2,?_,by omega,by omega⟩
         ·rw [manyF,i1 F' hF];simp only [j1 F' hF]
         ·rcases List.mem_append.1 hx with hx | hx
          ·exact i0 x hx
          ·rw [List.mem_singleton] at hx;subst hx;have:=grow_head G hm2;exact ⟨this.1,this.2.1⟩
         ·rw [sizeL_append,i2,sizeL,j2,sizeL];simp
     obtain ⟨k1,k0,s,d,k2,k3,k4⟩:=key _ ks r h1 (kids_many hk);refine ⟨fun F' hF=>?_,s+1,d+1,?_,by omega,by rw [List.length_cons];omega⟩
     ·obtain ⟨F'',rfl⟩:∃ q,F'=q+1:=⟨F' - 1,by omega⟩;rw [takeF,if_pos (G.kids n hg),k1 F'' (by omega)]
     ·rw [sizeE,if_pos,k2];unfold rightE;rw [decide_eq_true hh.2.1,hh.1,Bool.true_and,Bool.true_and,Bool.and_eq_true];refine ⟨?_,?_⟩
      ·cases hx:isNoE (.mk n ks) with
       | false=>rfl
       | true=>rw [hn hx];rfl
      ·by_cases h12:n.k=12
       ·have:ks.all constE=true:=by
         rw [List.all_eq_true];intro x hx;have hv:noValE x=false:=by
          have hk2:=hk;unfold kidsB at hk2;rw [if_neg (by omega),if_pos h12] at hk2;cases hv:noValE x with
          | false=>rfl
          | true =>
           rw [List.any_eq_true.2 ⟨x,hx,hv⟩] at hk2;cases hk2
         exact const_of_val G (k0 x hx).1 (k0 x hx).2 hv
        show (!decide (n.k=12) || ks.all constE)=true;rw [this,Bool.or_true]
       ·show (!decide (n.k=12) || ks.all constE)=true;rw [decide_eq_false h12];rfl
    ·cases h
  ·cases h
theorem take_grow {gd:NT→Bool}:∀ (F':Nat) (f r:List NT) (e:ET),takeF F' f=some (e,r)→∀ (many:Bool) (s d F:Nat),sizeE gd e many=some (s,d)→d≤F→growF gd F f=some (e,r)
 | 0,f,r,e,h=>by cases h
 | F'+1,[],r,e,h=>by cases h
 | F'+1,n :: rest,r,e,h=>by
  intro many s d F hs hd;rw [takeF] at h
  split at h
  ·split at h
   ·cases h
   ·next ks r1 h1 =>
    cases h;rw [sizeE] at hs
    split at hs
    ·next hr =>
     split at hs
     ·cases hs
     ·next a b hl =>
      cases hs;obtain ⟨F0,rfl⟩:∃ q,F=q+1:=⟨F - 1,by omega⟩;have key:∀ (m:Nat) (ls:List ET) (r2:List NT),manyF (takeF F') m rest=some (ls,r2)→∀ a b,sizeL gd ls (decide (n.k=11) && decide (1<ks.length))=some (a,b)→b≤F0→manyF (growF gd F0) m rest=some (ls,r2):=by
       intro m
       induction m with
       | zero=>intro ls r2 hm a b _ _;cases hm;rfl
       | succ m ih =>
        intro ls r2 hm a b hsl hb;rw [manyF] at hm
        split at hm
        ·cases hm
        ·next ks1 r3 hm1 =>
         split at hm
         ·cases hm
         ·next k r4 hm2 =>
          cases hm;rw [sizeL_append] at hsl
          split at hsl
          ·cases hsl
          ·next a1 b1 q1 =>
           split at hsl
           ·cases hsl
           ·next a2 b2 q2 =>
            cases hsl;rw [sizeL] at q2
            split at q2
            ·cases q2
            ·next a3 b3 q3 =>
             rw [sizeL] at q2;cases q2;rw [manyF,ih ks1 r3 hm1 a1 b1 q1 (by omega)];simp only [take_grow F' r3 r2 k hm2 _ a3 b3 F0 q3 (by omega)]
      have hkey:=key _ ks r h1 a b hl (by omega);have hg:gd n=true:=by
       unfold rightE at hr;simp only [Bool.and_eq_true] at hr;exact hr.1.1.2
      rw [growF,if_pos hg,hkey];simp only;rw [if_pos (show kidsB n.k ks=true from kidsB_const hr (fun x hx=>sizeL_mem hl x hx))]
    ·cases hs
  ·cases h
theorem good_same {gd:NT→Bool} (G:GoodK gd) (f:List NT):goodIF gd f=goodSF gd f:=by
 have to1:goodIF gd f=true→goodSF gd f=true:=by
  intro h;unfold goodIF at h;rw [Bool.and_eq_true] at h;obtain ⟨h1,h2⟩:=h
  split at h2
  ·next e hg =>
   obtain ⟨t1,s,d,t2,t3,t4⟩:=grow_take G 40 f [] e false hg (fun hx=>by rw [hx] at h2;cases h2);have hs:f.length=s:=by simpa using t4
   have h1':=of_decide_eq_true h1;have hn:1≤f.length:=by
    match f,hg with
    | [],hg=>cases hg
    | _ :: _,_=>simp
   unfold goodSF;rw [t1 41 (by omega)];simp only [t2];simp;omega
  ·cases h2
 have to2:goodSF gd f=true→goodIF gd f=true:=by
  intro h;unfold goodSF at h;rw [Bool.and_eq_true,Bool.and_eq_true] at h;obtain ⟨⟨h0,h1⟩,h2⟩:=h
  split at h2
  ·next e ht =>
   split at h2
   ·next s d hs =>
    rw [Bool.and_eq_true] at h2;have hg:=take_grow 41 f [] e ht false s d 40 hs (of_decide_eq_true h2.2);unfold goodIF;rw [h1,hg];simp only;obtain ⟨n,ks⟩:=e;rw [sizeE] at hs
    split at hs
    ·next hr =>
     unfold rightE at hr;simp only [Bool.and_eq_true,Bool.or_false] at hr;rw [hr.1.2];rfl
    ·cases hs
   ·cases h2
  ·cases h2
 cases h1:goodIF gd f with
 | true=>rw [to1 h1]
 | false =>
  cases h2:goodSF gd f with
  | false=>rfl
  | true=>rw [to2 h2] at h1;cases h1
def quoF (f:List UInt8):List UInt8:=f.flatMap fun b=>if b=34 then [34,34] else [b]
def quoT (f:List UInt8):List UInt8:=34 :: (quoF f++[34])
theorem quoF_length (f:List UInt8):(quoF f).length≤2 * f.length:=by
 induction f with
 | nil=>simp [quoF]
 | cons b f ih =>
  unfold quoF at ih ⊢;rw [List.flatMap_cons,List.length_append,List.length_cons]
  split
  ·rw [List.length_cons,List.length_singleton];omega
  ·rw [List.length_singleton];omega
theorem quoF_take {f:List UInt8} {k:Nat} {b:UInt8} (h:f[k]?=some b):quoF (f.take (k+1))=quoF (f.take k)++(if b=34 then [34,34] else [b]):=by
 rw [List.take_add_one,h];unfold quoF;rw [List.flatMap_append];simp
def lvOp (t:List UInt8):Int:=(aheadO t).2
def lvE (e:ET):Int:=if e.n.k=8 then 6 else if e.n.k=9 then 7 else if e.n.k=10 then lvOp e.n.t else 8
def kidT (lv least:Int) (s:List UInt8):List UInt8:=if lv<least then 40 :: (s++[41]) else s
def sepT (cols i:Nat):List UInt8:=if i=0 then [] else if i % cols=0 then [59] else [44]
def joinF (cols:Nat) (l:List (List UInt8)):Nat→List UInt8
 | 0=>[]
 | i+1=>joinF cols l i++(sepT cols i++l.getD i [])
def asmT (D:NT→List UInt8) (T:Int→Int→Bool→Bool→List UInt8) (x:NT) (lv:List Int) (l:List (List UInt8)):List UInt8:=
 if x.k=1 then D x else if x.k=2 then quoT x.t else if x.k=5 then T x.r x.c x.f x.g else if x.k=6 then T x.r x.c x.f x.g++(58 :: T x.r2 x.c2 x.f2 x.g2)
 else if x.k=8 then 45 :: kidT (lv.getD 0 0) 6 (l.getD 0 [])
 else if x.k=9 then kidT (lv.getD 0 0) 7 (l.getD 0 [])++[37]
 else if x.k=10 then kidT (lv.getD 0 0) (lvOp x.t) (l.getD 0 [])++(x.t++kidT (lv.getD 1 0) (lvOp x.t+1) (l.getD 1 []))
 else if x.k=11 then x.t++(40 :: (joinF l.length l l.length++[41]))
 else if x.k=12 then 123 :: (joinF (l.length / (whole x.t).toNat) l l.length++[125])
 else x.t
mutual
def textE (D:NT→List UInt8) (T:Int→Int→Bool→Bool→List UInt8):ET→List UInt8
 | .mk x ks=>asmT D T x (ks.map lvE) (textL D T ks)
def textL (D:NT→List UInt8) (T:Int→Int→Bool→Bool→List UInt8):List ET→List (List UInt8)
 | []=>[]
 | k :: ks=>textE D T k :: textL D T ks
end
theorem textL_eq (D:NT→List UInt8) (T:Int→Int→Bool→Bool→List UInt8):∀ ks,textL D T ks=ks.map (textE D T)
 | []=>by rw [textL];rfl
 | k :: ks=>by rw [textL,textL_eq D T ks];rfl
theorem textE_mk (D:NT→List UInt8) (T:Int→Int→Bool→Bool→List UInt8) (x:NT) (ks:List ET):textE D T (.mk x ks)=asmT D T x (ks.map lvE) (ks.map (textE D T)):=by rw [textE,textL_eq]
theorem ahead_ops:∀ t ∈ opsL,(aheadO t).1=t∧1≤(aheadO t).2∧(aheadO t).2≤5:=by decide +kernel
theorem mem_ops {t:List UInt8} (h:memB opsL t=true):t ∈ opsL:=by
 unfold memB at h;simpa using h
theorem Ext.setCells {a:World} {b:Nat} (hb:a.heap.size≤b):∀ (vs:List Value) (o:Nat) (w:World),Ext a w→Ext a (w.setCells b o vs)
 | [],_,_,h=>h
 | v :: vs,o,_,h=>Ext.setCells hb vs (o+1) _ (xset (p:=⟨b,o,none⟩) h hb v)
end Go.Proofs.YtogecaajnjcenaaGreatDoor

