/-
  Several texts in one: Tg, Tn, Mv, Tp, Ts, Tu, Mw, Mx.
-/
import Derived.Test.YteliaeejooekbaaGreatDoorMg1
import Derived.Deep.DeepCutAuto
import Derived.Deep.RegionHeld3
import Derived.BigQuiet
import Derived.Test.YteliaeejooekbaaGreatDoorMg11
set_option maxRecDepth 8000
set_option maxHeartbeats 8000000
namespace Go.Proofs.YteliaeejooekbaaGreatDoor
open Go.RowKit
abbrev tuV (k a m:Int) (d:Bool):Value:=.agg #[iQ k,iQ a,iQ m,.bool d]
def limT (k:Int):Int:=if k=1 then 1000 else 200
def zBB (k a m:Int) (d:Bool):Bool:=decide ((k=1\/k=2)/\(1<=m/\m<=100)/\(1<=a/\a<=limT k)/\(d=true->a+m - 1<=limT k))
theorem zW3 (k:Int) (w:World) :
  Calls Tryz.prog 55 #[iQ k] w fun e w'=>e=.returned (iQ (if k=1 then 1000 else if k=2 then 200 else 0))/\w'=w:=by
 go_enter Tryz.func55,Tryz.ntmps55
 go_wp2
 all_goals go_ret
 all_goals refine ⟨zAG ?_,rfl⟩
 all_goals simp_all
theorem zOE (k:Int) (w:World) :
  Calls Tryz.prog 53 #[iQ k] w fun e w'=>e=.returned (iQ (limT k))/\w'=w:=by
 go_enter Tryz.func53,Tryz.ntmps53
 go_wp2
 all_goals go_ret
 all_goals refine ⟨zAG ?_,rfl⟩
 all_goals simp_all [limT]
theorem xdNt {a b:World} (h:Ext a b) (n:Nat):Ext a (b.drewN n):=⟨h.os,h.tape,h.output,h.size,h.block⟩
theorem zI3 (k:Int):∃ x,limT k=x/\((k=1/\x=1000)\/(k ≠ 1/\x=200)):=by
 unfold limT;by_cases h:k=1
 ·exact ⟨1000,by simp [h],.inl ⟨h,rfl⟩⟩
 ·exact ⟨200,by simp [h],.inr ⟨h,rfl⟩⟩
theorem zLG (k a m:Int) (d:Bool) (w:World) :
  Calls Tryz.prog 32 #[tuV k a m d] w fun e w'=>e=.returned (.bool (zBB k a m d))/\Ext w w':=by
 have L:=fun w=>zW3 k w;obtain ⟨l,hl⟩:=nm ((if k=1 then (1000:Int) else if k=2 then 200 else 0));have hl0:(k=1/\l=1000)\/(k=2/\l=200)\/(k ≠ 1/\k ≠ 2/\l=0):=by rw [<- hl];split;omega;split <;> omega
 rw [hl] at L;clear hl;obtain ⟨lt,hlt,hlt0⟩:=zI3 k;unfold zBB;rw [hlt];clear hlt;cases d
 all_goals go_enter Tryz.func32,Tryz.ntmps32
 all_goals go_wp2_with fail
 all_goals refine (L _).mono ?_
 all_goals rintro e w1 ⟨rfl,rfl⟩
 all_goals go_wp2_with fail
 all_goals go_ret
 all_goals refine ⟨zA1 ?_,x1 _ _⟩
 all_goals clear L
 all_goals rw [Bool.eq_iff_iff]
 all_goals first | (simp only [decide_eq_true_eq,Bool.false_eq_true,true_imp_iff,false_iff];omega) | (simp;omega)
theorem zP1 (k a m:Int) (d:Bool) (w:World) :
  Calls Tryz.prog 29 #[tuV k a m d] w fun e w'=>e=.returned (.bool (zBB k a m d))/\Ext w w':=by
 obtain ⟨lt,hlt,hlt0⟩:=zI3 k;unfold zBB;rw [hlt];have L:∀ w,Calls Tryz.prog 53 #[iQ k] w fun e w'=>e=.returned (iQ lt)/\w'=w:=fun w=>by rw [<- hlt];exact zOE k w
 clear hlt;have B:=Box4.made w (iQ k) (iQ a) (iQ m) (.bool d) 24;obtain ⟨⟨q0,q1,q2,q3⟩,_⟩:=B;have X:=x1 w (.cells #[iQ k,iQ a,iQ m,.bool d] 24);go_enter Tryz.func29,Tryz.ntmps29;go_upto_region 1 with fail;obtain ⟨w0,hw0⟩:=nm (w.alloc (.cells #[iQ k,iQ a,iQ m,.bool d] 24));rw [hw0] at X q0 q1 q2 q3 ⊢;clear hw0;go_cut [33] (fun v wc=>v=.bool (decide (¬ ((k=1\/k=2)/\(1<=m/\m<=100)/\(1<=a/\a<=lt))))/\Ext w0 wc)
 case first =>
  by_cases h1:k=1
  ·subst h1;by_cases h3:m<1
   ·(go_quiet ((go_at_call 53;refine Calls.quiet_of_same (L _)));go_wp2;go_meet;case rel=>(refine ⟨congrArg Value.bool ?_,xdNt (xr _) _⟩;rw [Bool.eq_iff_iff];first | (simp only [decide_eq_true_eq];omega) | (simp;omega) | (simp only [decide_eq_true_eq,true_iff];omega)))
   have f3:decide (m<1)=false:=decide_eq_false h3;by_cases h4:100<m
   ·(go_quiet ((go_at_call 53;refine Calls.quiet_of_same (L _)));go_wp2;go_meet;case rel=>(refine ⟨congrArg Value.bool ?_,xdNt (xr _) _⟩;rw [Bool.eq_iff_iff];first | (simp only [decide_eq_true_eq];omega) | (simp;omega) | (simp only [decide_eq_true_eq,true_iff];omega)))
   have f4:decide (100<m)=false:=decide_eq_false h4;by_cases h5:a<1
   ·(go_quiet ((go_at_call 53;refine Calls.quiet_of_same (L _)));go_wp2;go_meet;case rel=>(refine ⟨congrArg Value.bool ?_,xdNt (xr _) _⟩;rw [Bool.eq_iff_iff];first | (simp only [decide_eq_true_eq];omega) | (simp;omega) | (simp only [decide_eq_true_eq,true_iff];omega)))
   have f5:decide (a<1)=false:=decide_eq_false h5
   (go_quiet ((go_at_call 53;refine Calls.quiet_of_same (L _)));go_wp2;go_meet;case rel=>(refine ⟨congrArg Value.bool ?_,xdNt (xr _) _⟩;rw [Bool.eq_iff_iff];first | (simp only [decide_eq_true_eq];omega) | (simp;omega) | (simp only [decide_eq_true_eq,true_iff];omega)))
  by_cases h2:k=2
  ·subst h2;by_cases h3:m<1
   ·(go_quiet ((go_at_call 53;refine Calls.quiet_of_same (L _)));go_wp2;go_meet;case rel=>(refine ⟨congrArg Value.bool ?_,xdNt (xr _) _⟩;rw [Bool.eq_iff_iff];first | (simp only [decide_eq_true_eq];omega) | (simp;omega) | (simp only [decide_eq_true_eq,true_iff];omega)))
   have f3:decide (m<1)=false:=decide_eq_false h3;by_cases h4:100<m
   ·(go_quiet ((go_at_call 53;refine Calls.quiet_of_same (L _)));go_wp2;go_meet;case rel=>(refine ⟨congrArg Value.bool ?_,xdNt (xr _) _⟩;rw [Bool.eq_iff_iff];first | (simp only [decide_eq_true_eq];omega) | (simp;omega) | (simp only [decide_eq_true_eq,true_iff];omega)))
   have f4:decide (100<m)=false:=decide_eq_false h4;by_cases h5:a<1
   ·(go_quiet ((go_at_call 53;refine Calls.quiet_of_same (L _)));go_wp2;go_meet;case rel=>(refine ⟨congrArg Value.bool ?_,xdNt (xr _) _⟩;rw [Bool.eq_iff_iff];first | (simp only [decide_eq_true_eq];omega) | (simp;omega) | (simp only [decide_eq_true_eq,true_iff];omega)))
   have f5:decide (a<1)=false:=decide_eq_false h5
   (go_quiet ((go_at_call 53;refine Calls.quiet_of_same (L _)));go_wp2;go_meet;case rel=>(refine ⟨congrArg Value.bool ?_,xdNt (xr _) _⟩;rw [Bool.eq_iff_iff];first | (simp only [decide_eq_true_eq];omega) | (simp;omega) | (simp only [decide_eq_true_eq,true_iff];omega)))
  have f1:decide (k=1)=false:=decide_eq_false h1;have f2:decide (k=2)=false:=decide_eq_false h2;have f1':(k == 1)=false:=beq_eq_false_iff_ne.2 h1;have f2':(k == 2)=false:=beq_eq_false_iff_ne.2 h2
  (go_quiet ((go_at_call 53;refine Calls.quiet_of_same (L _)));go_wp2;go_meet;case rel=>(refine ⟨congrArg Value.bool ?_,xdNt (xr _) _⟩;rw [Bool.eq_iff_iff];first | (simp only [decide_eq_true_eq];omega) | (simp;omega) | (simp only [decide_eq_true_eq,true_iff];omega)))
 case rest =>
  obtain ⟨rfl,E1⟩:=hcut
  rename World=>w2
  have Y:=xt X E1;replace q0:=cell_later E1 q0;replace q1:=cell_later E1 q1;replace q2:=cell_later E1 q2;replace q3:=cell_later E1 q3;by_cases hb:(k=1\/k=2)/\(1<=m/\m<=100)/\(1<=a/\a<=lt)
  ·have hb':decide (¬ ((k=1\/k=2)/\(1<=m/\m<=100)/\(1<=a/\a<=lt)))=false:=decide_eq_false (fun h=>h hb);simp only [hb'];have e1:IntKind.i64.wrap (a+m)=a+m:=by rw [IntKind.wrap_i64];omega
   have e2:IntKind.i64.wrap (a+m - 1)=a+m - 1:=by rw [IntKind.wrap_i64];omega
   go_upto_region 3 with fail;cases d
   all_goals go_quiet ((go_at_call 53;refine Calls.quiet_of_same (L _)))
   all_goals go_wp2
   all_goals go_ret
   all_goals refine ⟨zA1 ?_,xdNt Y _⟩
   all_goals simp [hb]
  ·have hb':decide (¬ ((k=1\/k=2)/\(1<=m/\m<=100)/\(1<=a/\a<=lt)))=true:=decide_eq_true hb;simp only [hb']
   go_wp2
   go_ret;refine ⟨zA1 ?_,Y⟩;symm;rw [decide_eq_false_iff_not];exact fun h=>hb ⟨h.1,h.2.1,h.2.2.1⟩
end Go.Proofs.YteliaeejooekbaaGreatDoor

namespace Go.Proofs.YteliaeejooekbaaGreatDoor
open Go.RowKit
abbrev moV (r c:Int) (f g:Bool) (r' c':Int) (f' g':Bool) (x y:Int):Value:=.agg #[iQ r,iQ c,.bool f,.bool g,iQ r',iQ c',.bool f',.bool g',iQ x,iQ y]
def tN (l a m:Int) (d:Bool) (n:Int):Int:=
 if n<a then n else if d then (if n<a+m then 0 else n - m) else (if l<n+m then 0 else n+m)
def bF (a m:Int) (d:Bool):Int:=if d then a+m else a
def bT (l m:Int) (d:Bool):Int:=if d then l else l - m
def fa (m:Int) (d:Bool):Int:=if d then -m else m
def gF (a m:Int) (d:Bool) (A:Int):Int:=hi A (bF a m d)+fa m d
def gT (l m:Int) (d:Bool) (B:Int):Int:=lo B (bT l m d)+fa m d
def lfF (l a m:Int) (d:Bool) (A B:Int):Int:=
 if lo B (a - 1)<hi A 1 then gF a m d A else if gT l m d B<gF a m d A then hi A 1 else lo (hi A 1) (gF a m d A)
def lfT (l a m:Int) (d:Bool) (A B:Int):Int:=
 if lo B (a - 1)<hi A 1 then gT l m d B else if gT l m d B<gF a m d A then lo B (a - 1) else hi (lo B (a - 1)) (gT l m d B)
theorem zGT (a b:Int):(b<a/\lo a b=b)\/(a<=b/\lo a b=a):=by
 unfold lo
 split
 ·exact .inl ⟨by assumption,rfl⟩
 ·exact .inr ⟨by omega,rfl⟩
theorem zFZ (a b:Int):(b<a/\hi a b=a)\/(a<=b/\hi a b=b):=by
 unfold hi
 split
 ·exact .inl ⟨by assumption,rfl⟩
 ·exact .inr ⟨by omega,rfl⟩
theorem zRB (a m:Int) (d:Bool) (A:Int):(d=true/\((a+m<A/\gF a m d A=A - m)\/(A<=a+m/\gF a m d A=a)))\/(d=false/\((a<A/\gF a m d A=A+m)\/(A<=a/\gF a m d A=a+m))):=by
 unfold gF bF fa;cases d
 ·have:=zFZ A a;refine .inr ⟨rfl,?_⟩;simp only [Bool.false_eq_true,if_false];omega
 ·have:=zFZ A (a+m);refine .inl ⟨rfl,?_⟩;simp only [if_true];omega
theorem zP2 (l m:Int) (d:Bool) (B:Int):(d=true/\((l<B/\gT l m d B=l - m)\/(B<=l/\gT l m d B=B - m)))\/(d=false/\((l - m<B/\gT l m d B=l)\/(B<=l - m/\gT l m d B=B+m))):=by
 unfold gT bT fa;cases d
 ·have:=zGT B (l - m);refine .inr ⟨rfl,?_⟩;simp only [Bool.false_eq_true,if_false];omega
 ·have:=zGT B l;refine .inl ⟨rfl,?_⟩;simp only [if_true];omega
theorem zR1 (l a m:Int) (d:Bool) (A B:Int) (hA:1<=A):∃ sT,((a - 1<B/\sT=a - 1)\/(B<=a - 1/\sT=B)) /\
  ((sT<A/\lfF l a m d A B=gF a m d A/\lfT l a m d A B=gT l m d B)\/(A<=sT/\gT l m d B<gF a m d A/\lfF l a m d A B=A/\lfT l a m d A B=sT) \/
   (A<=sT/\gF a m d A<=gT l m d B/\lfF l a m d A B=lo A (gF a m d A)/\lfT l a m d A B=hi sT (gT l m d B))):=by
 have h1:hi A 1=A:=by have:=zFZ A 1;omega
 refine ⟨lo B (a - 1),by have:=zGT B (a - 1);omega,?_⟩;unfold lfF lfT;rw [h1];by_cases c1:lo B (a - 1)<A
 ·rw [if_pos c1,if_pos c1];exact .inl ⟨c1,rfl,rfl⟩
 ·rw [if_neg c1,if_neg c1];by_cases c2:gT l m d B<gF a m d A
  ·rw [if_pos c2,if_pos c2];exact .inr (.inl ⟨by omega,c2,rfl,rfl⟩)
  ·rw [if_neg c2,if_neg c2];exact .inr (.inr ⟨by omega,by omega,rfl,rfl⟩)
theorem zN7 (l a m:Int) (d:Bool) (n:Int):(n<a/\tN l a m d n=n)\/(a<=n/\d=true/\n<a+m/\tN l a m d n=0)\/(a<=n/\d=true/\a+m<=n/\tN l a m d n=n - m) \/
  (a<=n/\d=false/\l<n+m/\tN l a m d n=0)\/(a<=n/\d=false/\n+m<=l/\tN l a m d n=n+m):=by
 unfold tN;by_cases h:n<a
 ·rw [if_pos h];exact .inl ⟨h,rfl⟩
 ·rw [if_neg h];cases d
  ·by_cases h2:l<n+m
   ·exact .inr (.inr (.inr (.inl ⟨by omega,rfl,h2,by simp [h2]⟩)))
   ·exact .inr (.inr (.inr (.inr ⟨by omega,rfl,by omega,by simp [h2]⟩)))
  ·by_cases h2:n<a+m
   ·exact .inr (.inl ⟨by omega,rfl,h2,by simp [h2]⟩)
   ·exact .inr (.inr (.inl ⟨by omega,rfl,by omega,by simp [h2]⟩))
def stF (l a m:Int) (d:Bool) (A B:Int):Int:=if lfT l a m d A B<lfF l a m d A B then 0 else lfF l a m d A B
def stT (l a m:Int) (d:Bool) (A B:Int):Int:=if lfT l a m d A B<lfF l a m d A B then 0 else lfT l a m d A B
theorem zQ7 (l a m:Int) (d:Bool) (A B:Int):(lfT l a m d A B<lfF l a m d A B/\stF l a m d A B=0/\stT l a m d A B=0)\/(lfF l a m d A B<=lfT l a m d A B/\stF l a m d A B=lfF l a m d A B/\stT l a m d A B=lfT l a m d A B):=by
 unfold stF stT
 split
 ·exact .inl ⟨by assumption,rfl,rfl⟩
 ·exact .inr ⟨by omega,rfl,rfl⟩
section
variable {l a m:Int} {d:Bool} (hm:1<=m) (ha:1<=a) (hl:a<=l) (hd:d=true->a+m - 1<=l)
include hm ha hl hd
theorem zKT {A:Int} (hA:1<=A) (hAl:A<=l):stF l a m d A (A - 1)=0/\stT l a m d A (A - 1)=0:=by
 have h1:=zQ7 l a m d A (A - 1);obtain ⟨sT,h2,h3⟩:=zR1 l a m d A (A - 1) hA;have h4:=zRB a m d A;have h5:=zP2 l m d (A - 1);have h6:=zGT A (gF a m d A);have h7:=zFZ sT (gT l m d (A - 1));cases d <;> simp at h4 h5 hd <;> omega
theorem zND {A n:Int} (hA:1<=A) (hn:A<=n) (hnl:n<=l) :
  (0<tN l a m d n->stF l a m d A n=(if stF l a m d A (n - 1)=0 then tN l a m d n else stF l a m d A (n - 1))/\stT l a m d A n=tN l a m d n) /\
  (tN l a m d n<=0->stF l a m d A n=stF l a m d A (n - 1)/\stT l a m d A n=stT l a m d A (n - 1)):=by
 have h1:=zQ7 l a m d A (n - 1);have h1':=zQ7 l a m d A n;obtain ⟨sT,h2,h3⟩:=zR1 l a m d A (n - 1) hA;obtain ⟨sT',h2',h3'⟩:=zR1 l a m d A n hA;have h4:=zRB a m d A;have h5:=zP2 l m d (n - 1);have h5':=zP2 l m d n;have h6:=zGT A (gF a m d A);have h7:=zFZ sT (gT l m d (n - 1));have h7':=zFZ sT' (gT l m d n);have h8:=zN7 l a m d n;obtain ⟨f0,e0⟩:=nm (stF l a m d A (n - 1));rw [e0] at h1 ⊢;have key:0<tN l a m d n->(f0=0->stF l a m d A n=tN l a m d n)/\(f0 ≠ 0->stF l a m d A n=f0)/\stT l a m d A n=tN l a m d n:=by
  intro hp;cases d <;> simp at h4 h5 h5' h8 hd <;> rcases h3 with h3 | h3 | h3 <;> rcases h3' with h3' | h3' | h3' <;> rcases h1 with h1 | h1 <;> omega
 refine ⟨fun hp=>?_,fun hp=>?_⟩
 ·obtain ⟨k1,k2,k3⟩:=key hp;refine ⟨?_,k3⟩
  split
  ·exact k1 (by assumption)
  ·exact k2 (by assumption)
 ·cases d <;> simp at h4 h5 h5' h8 hd <;> rcases h3 with h3 | h3 | h3 <;> rcases h3' with h3' | h3' | h3' <;> rcases h1 with h1 | h1 <;> omega
theorem zFJ {A B:Int} (hA:1<=A) (hB:A<=B) (hBl:B<=l):(lfT l a m d A B<lfF l a m d A B/\stF l a m d A B=0)\/(1<=lfF l a m d A B/\lfF l a m d A B<=lfT l a m d A B/\lfT l a m d A B<=l/\stF l a m d A B=lfF l a m d A B/\stT l a m d A B=lfT l a m d A B):=by
 have h1:=zQ7 l a m d A B;obtain ⟨sT,h2,h3⟩:=zR1 l a m d A B hA;have h4:=zRB a m d A;have h5:=zP2 l m d B;have h6:=zGT A (gF a m d A);have h7:=zFZ sT (gT l m d B);cases d <;> simp at h4 h5 hd <;> omega
end
theorem zSL (k a m:Int) (d:Bool) (n l:Int) (w:World) (hl:limT k=l) (hm:1<=m/\m<=100) (ha:1<=a/\a<=1000) (hn:1<=n/\n<=1000) :
  Calls Tryz.prog 31 #[tuV k a m d,iQ n] w fun e w'=>e=.returned (iQ (tN l a m d n))/\Ext w w':=by
 have L:∀ w,Calls Tryz.prog 53 #[iQ k] w fun e w'=>e=.returned (iQ l)/\w'=w:=fun w=>by rw [<- hl];exact zOE k w
 obtain ⟨V,hV⟩:=nm (tN l a m d n);rw [hV];have hVd:Hid ((n<a/\V=n)\/(a<=n/\d=true/\n<a+m/\V=0)\/(a<=n/\d=true/\a+m<=n/\V=n - m)\/(a<=n/\d=false/\l<n+m/\V=0)\/(a<=n/\d=false/\n+m<=l/\V=n+m)):=by
  have:=zN7 l a m d n;rw [hV] at this;exact this
 clear hV hl;have e1:IntKind.i64.wrap (a+m)=a+m:=by rw [IntKind.wrap_i64];omega
 have e2:IntKind.i64.wrap (n - m)=n - m:=by rw [IntKind.wrap_i64];omega
 have e3:IntKind.i64.wrap (n+m)=n+m:=by rw [IntKind.wrap_i64];omega
 have X:=x1 w (.cells #[iQ k,iQ a,iQ m,.bool d] 24);obtain ⟨⟨q0,q1,q2,q3⟩,_⟩:=Box4.made w (iQ k) (iQ a) (iQ m) (.bool d) 24;go_enter Tryz.func31,Tryz.ntmps31;go_upto_region 1 with fail;obtain ⟨w0,hw0⟩:=nm (w.alloc (.cells #[iQ k,iQ a,iQ m,.bool d] 24));rw [hw0] at X q0 q1 q2 q3 ⊢;clear hw0;by_cases h1:n<a
 ·go_wp2
  all_goals go_ret
  all_goals exact ⟨zAG (by have:=hVd.out;omega),X⟩
 ·have f1:decide (n<a)=false:=decide_eq_false h1;cases d
  ·have hVd':Hid ((l<n+m/\V=0)\/(n+m<=l/\V=n+m)):=by
    have:=hVd.out;simp at this;show _\/_;omega
   clear hVd;go_upto_region 7 with fail;go_quiet ((go_at_call 53;refine Calls.quiet_of_same (L _)))
   go_wp2
   all_goals go_ret
   all_goals exact ⟨zAG (by have:=hVd'.out;omega),xdNt X _⟩
  ·have hVd':Hid ((n<a+m/\V=0)\/(a+m<=n/\V=n - m)):=by
    have:=hVd.out;simp at this;show _\/_;omega
   clear hVd
   go_wp2
   all_goals go_ret
   all_goals exact ⟨zAG (by have:=hVd'.out;omega),X⟩
theorem endsS (k a m:Int) (d:Bool) (A B l:Int) (w:World) (hl:limT k=l) (hm:1<=m/\m<=100) (ha:1<=a/\a<=l) (hd:d=true->a+m - 1<=l) (hA:1<=A) (hAB:A<=B) (hB:B<=l) :
  Calls Tryz.prog 63 #[tuV k a m d,iQ A,iQ B] w fun e w'=>e=.returned (.tuple #[iQ (stF l a m d A B),iQ (stT l a m d A B),.bool (decide (0<stF l a m d A B))])/\Ext w w':=by
 have hl0:l<=1000:=by obtain ⟨x,e,h⟩:=zI3 k;rw [hl] at e;omega
 have T:Hid (∀ n w,1<=n->n<=l->Calls Tryz.prog 31 #[tuV k a m d,iQ n] w fun e w'=>e=.returned (iQ (tN l a m d n))/\Ext w w'):=fun n w h1 h2=>zSL k a m d n l w hl hm (by omega) (by omega);have S0:=zKT hm.1 ha.1 ha.2 hd hA (show A<=l by omega);have S1:Hid (∀ n,A<=n->n<=l->(0<tN l a m d n->stF l a m d A n=(if stF l a m d A (n - 1)=0 then tN l a m d n else stF l a m d A (n - 1))/\stT l a m d A n=tN l a m d n)/\(tN l a m d n<=0->stF l a m d A n=stF l a m d A (n - 1)/\stT l a m d A n=stT l a m d A (n - 1))):=fun n h1 h2=>zND hm.1 ha.1 ha.2 hd hA h1 h2;clear hl hm ha hd;have X:=x1 w (.cells #[iQ k,iQ a,iQ m,.bool d] 24);have BX:=Box4.made w (iQ k) (iQ a) (iQ m) (.bool d) 24;go_enter Tryz.func63,Tryz.ntmps63;go_wp2_with fail;obtain ⟨w0,hw0⟩:=nm (w.alloc (.cells #[iQ k,iQ a,iQ m,.bool d] 24));rw [hw0] at X BX ⊢;clear hw0;go_loopw [9,10,11] (fun f t i wr=>∃ n:Int,i=.int .i64 n/\A<=n/\n<=B+1/\f=.int .i64 (stF l a m d A (n - 1))/\t=.int .i64 (stT l a m d A (n - 1))/\Ext w0 wr) (fun _ _ i _=>(B+1 - intOf i).toNat)
 case atStart=>exact ⟨A,rfl,by omega,by omega,by rw [S0.1],by rw [S0.2],xr _⟩
 case round =>
  obtain ⟨n,rfl,n0,n1,rfl,rfl,xr'⟩:=hrel
  rename World=>wr
  obtain ⟨⟨q0,q1,q2,q3⟩,_⟩:=BX.l xr';by_cases hn:n<=B
  ·obtain ⟨s1,s2⟩:=S1.out n n0 (by omega);obtain ⟨v,hv⟩:=nm (tN l a m d n);obtain ⟨f,hf⟩:=nm (stF l a m d A (n - 1));obtain ⟨t,ht⟩:=nm (stT l a m d A (n - 1));obtain ⟨f',hf'⟩:=nm (stF l a m d A n);obtain ⟨t',ht'⟩:=nm (stT l a m d A n);have T1:=fun w=>T.out n w (by omega) (by omega);rw [hv] at T1 s1 s2;rw [hf,hf'] at s1 s2;rw [ht',ht] at s2;rw [ht'] at s1;rw [hf,ht];have S2:Hid ((0<v->f'=(if f=0 then v else f)/\t'=v)/\(v<=0->f'=f/\t'=t)):=⟨s1,s2⟩;have HF:Hid _:=hf';have HT:Hid _:=ht';have wn:IntKind.i64.wrap (n+1)=n+1:=by rw [IntKind.wrap_i64];omega
   clear s1 s2 hf ht hf' ht' hv S0;go_wp2_with fail;refine (T1 _).mono ?_;rintro e w2 ⟨rfl,x2⟩;clear q0 q1 q2 q3;by_cases hv:0<v
   ·have S3:=S2.out.1 hv;by_cases h0:f=0
    ·rw [if_pos h0] at S3;subst h0;obtain ⟨rfl,rfl⟩:=S3;go_wp2_with fail
     go_round
     case rel=>exact ⟨n+1,rfl,by omega,by omega,by rw [Int.add_sub_cancel,HF.out],by rw [Int.add_sub_cancel,HT.out],xt xr' x2⟩
     case measure=>simp [intOf];omega
    ·rw [if_neg h0] at S3;obtain ⟨rfl,rfl⟩:=S3;have g0:decide (f'=0)=false:=decide_eq_false h0;have g1:(f' == 0)=false:=beq_eq_false_iff_ne.2 h0;go_wp2_with fail
     go_round
     case rel=>exact ⟨n+1,rfl,by omega,by omega,by rw [Int.add_sub_cancel,HF.out],by rw [Int.add_sub_cancel,HT.out],xt xr' x2⟩
     case measure=>simp [intOf];omega
   ·obtain ⟨rfl,rfl⟩:=S2.out.2 (by omega);have g0:decide (0<v)=false:=decide_eq_false hv;go_wp2_with fail
    go_round
    case rel=>exact ⟨n+1,rfl,by omega,by omega,by rw [Int.add_sub_cancel,HF.out],by rw [Int.add_sub_cancel,HT.out],xt xr' x2⟩
    case measure=>simp [intOf];omega
  ·obtain rfl:n=B+1:=by omega
   rw [Int.add_sub_cancel];clear T S0 S1;obtain ⟨f,hf⟩:=nm (stF l a m d A B);obtain ⟨t,ht⟩:=nm (stT l a m d A B);have HF:Hid _:=hf;have HT:Hid _:=ht;rw [hf,ht];clear hf ht;go_wp2_with fail;exact bodyPost_ret (v:=.tuple #[iQ f,iQ t,.bool (decide (0<f))]) (by simp [results,Tryz.results63,go_sem]) rfl ⟨by rw [HF.out,HT.out],xt X xr'⟩
def taB (k a m:Int) (d:Bool) (r c:Int) (f g:Bool) (r' c':Int) (f' g':Bool):Value:=
 if zBB k a m d=true/\zAZ r c r' c'=true then
  (if k=1 then (if stF 1000 a m d (lo r r') (hi r r')=0 then .tuple #[arV 0 0 false false 0 0 false false,.bool false]
   else if r'<r then .tuple #[arV (stT 1000 a m d (lo r r') (hi r r')) c f g (stF 1000 a m d (lo r r') (hi r r')) c' f' g',.bool true] else .tuple #[arV (stF 1000 a m d (lo r r') (hi r r')) c f g (stT 1000 a m d (lo r r') (hi r r')) c' f' g',.bool true])
  else (if stF 200 a m d (lo c c') (hi c c')=0 then .tuple #[arV 0 0 false false 0 0 false false,.bool false]
   else if c'<c then .tuple #[arV r (stT 200 a m d (lo c c') (hi c c')) f g r' (stF 200 a m d (lo c c') (hi c c')) f' g',.bool true] else .tuple #[arV r (stF 200 a m d (lo c c') (hi c c')) f g r' (stT 200 a m d (lo c c') (hi c c')) f' g',.bool true]))
 else .tuple #[arV 0 0 false false 0 0 false false,.bool false]
theorem zFC {k a m:Int} {d:Bool} (h:zBB k a m d=true):(k=1\/k=2)/\(1<=m/\m<=100)/\(1<=a/\a<=limT k)/\(d=true->a+m - 1<=limT k):=of_decide_eq_true h
theorem zJB {r c r' c':Int} (h:zAZ r c r' c'=true):((1<=r/\r<=1000)/\1<=c/\c<=200)/\(1<=r'/\r'<=1000)/\1<=c'/\c'<=200:=by
 unfold zAZ zAA at h;simp at h;exact h
theorem zR0 {x y z:Int} (h1:1<=x/\x<=z) (h2:1<=y/\y<=z):1<=lo x y/\lo x y<=hi x y/\hi x y<=z:=by
 have:=zGT x y;have:=zFZ x y;omega
theorem areaTS (k a m:Int) (d:Bool) (r c:Int) (f g:Bool) (r' c':Int) (f' g':Bool) (w:World) :
  Calls Tryz.prog 37 #[tuV k a m d,arV r c f g r' c' f' g'] w fun e w'=>e=.returned (taB k a m d r c f g r' c' f' g')/\Ext w w':=by
 obtain ⟨V,hV⟩:=nm (taB k a m d r c f g r' c' f' g');rw [hV];unfold taB at hV;have GT:=fun w=>zP1 k a m d w;have GA:=fun w=>goodAS r c f g r' c' f' g' w;obtain ⟨p,hp⟩:=nm (zBB k a m d);obtain ⟨q,hq⟩:=nm (zAZ r c r' c');rw [hp] at GT hV;rw [hq] at GA hV;have B2:=Vec.made4 w (iQ k) (iQ a) (iQ m) (.bool d) 24;have X:=x1 w (.cells #[iQ k,iQ a,iQ m,.bool d] 24);obtain ⟨wa,ha⟩:=nm (w.alloc (.cells #[iQ k,iQ a,iQ m,.bool d] 24));rw [ha] at B2 X;have sa:wa.heap.size=w.heap.size+1:=by rw [<- ha,World.size_alloc]
 have B3:=Vec.made8 wa (iQ r) (iQ c) (.bool f) (.bool g) (iQ r') (iQ c') (.bool f') (.bool g') 43;have x3:=x1 wa (.cells #[iQ r,iQ c,.bool f,.bool g,iQ r',iQ c',.bool f',.bool g'] 43);obtain ⟨wb,hb⟩:=nm (wa.alloc (.cells #[iQ r,iQ c,.bool f,.bool g,iQ r',iQ c',.bool f',.bool g'] 43));rw [hb] at B3 x3;have sb:wb.heap.size=w.heap.size+1+1:=by rw [<- hb,World.size_alloc,sa]
 have B4:=Vec.made8 wb (iQ 0) (iQ 0) (.bool false) (.bool false) (iQ 0) (iQ 0) (.bool false) (.bool false) 43;have x4:=x1 wb (.cells #[iQ 0,iQ 0,.bool false,.bool false,iQ 0,iQ 0,.bool false,.bool false] 43);rw [sa] at B3;go_enter Tryz.func37,Tryz.ntmps37;go_upto_region 1 with fail
 (try rw [ha])
 (try rw [hb])
 obtain ⟨w0,hw0⟩:=nm (wb.alloc (.cells #[iQ 0,iQ 0,.bool false,.bool false,iQ 0,iQ 0,.bool false,.bool false] 43));have s0:w0.heap.size=w.heap.size+1+1+1:=by rw [<- hw0,World.size_alloc,sb]
 rw [hw0] at B4 x4 ⊢;rw [sb] at B4;replace B2:=(B2.l x3).l x4;replace B3:=B3.l x4;replace X:=xt (xt X x3) x4;clear ha hb hw0 sa sb x3 x4;obtain ⟨⟨a0,a1,a2,a3⟩,_⟩:=B2.box4;go_wp2_with fail;refine (GT _).mono ?_;rintro e w1 ⟨rfl,e1⟩;clear a0 a1 a2 a3 GT;have s1:=e1.size;replace B2:=B2.l e1;replace B3:=B3.l e1;replace B4:=B4.l e1;replace X:=xt X e1;clear e1;obtain ⟨⟨⟨m0,m1,m2,m3⟩,m4,m5,m6,m7⟩,⟨m8,m9,mA,mB⟩,mC,mD,mE,mF⟩:=B4.box8;cases p
 ·have Z:Hid (Value.tuple #[arV 0 0 false false 0 0 false false,.bool false]=V):=by unfold Hid;rw [<- hV];simp
  clear hV
  go_wp2
  exact bodyPost_ret (v:=.tuple #[arV 0 0 false false 0 0 false false,.bool false]) (by simp [results,Tryz.results37,go_sem,m0,m1,m2,m3,m4,m5,m6,m7]) rfl ⟨congrArg Ending.returned Z.out,Ext.set8 X (by omega) _ _ _ _ _ _ _ _⟩
 clear m0 m1 m2 m3 m4 m5 m6 m7 m8 m9 mA mB mC mD mE mF;obtain ⟨⟨⟨a0,a1,a2,a3⟩,a4,a5,a6,a7⟩,_⟩:=B3.box8;go_wp2_with fail;refine (GA _).mono ?_;rintro e w2 ⟨rfl,e2⟩;clear a0 a1 a2 a3 a4 a5 a6 a7 GA;have s2:=e2.size;replace B2:=B2.l e2;replace B3:=B3.l e2;replace B4:=B4.l e2;replace X:=xt X e2;clear e2;obtain ⟨⟨⟨m0,m1,m2,m3⟩,m4,m5,m6,m7⟩,⟨m8,m9,mA,mB⟩,mC,mD,mE,mF⟩:=B4.box8;cases q
 ·have Z:Hid (Value.tuple #[arV 0 0 false false 0 0 false false,.bool false]=V):=by unfold Hid;rw [<- hV];simp
  clear hV
  go_wp2
  exact bodyPost_ret (v:=.tuple #[arV 0 0 false false 0 0 false false,.bool false]) (by simp [results,Tryz.results37,go_sem,m0,m1,m2,m3,m4,m5,m6,m7]) rfl ⟨congrArg Ending.returned Z.out,Ext.set8 X (by omega) _ _ _ _ _ _ _ _⟩
 clear m0 m1 m2 m3 m4 m5 m6 m7 m8 m9 mA mB mC mD mE mF;obtain ⟨hk,hm,ha,hd⟩:=zFC hp;obtain ⟨⟨hr,hc⟩,hr',hc'⟩:=zJB hq;clear hp hq;obtain ⟨⟨⟨a0,a1,a2,a3⟩,a4,a5,a6,a7⟩,_⟩:=B3.box8;go_upto_region 4 with fail;have B6:=Vec.made8 w2 (iQ r) (iQ c) (.bool f) (.bool g) (iQ r') (iQ c') (.bool f') (.bool g') 43;have x6:=x1 w2 (.cells #[iQ r,iQ c,.bool f,.bool g,iQ r',iQ c',.bool f',.bool g'] 43);obtain ⟨w3,hw3⟩:=nm (w2.alloc (.cells #[iQ r,iQ c,.bool f,.bool g,iQ r',iQ c',.bool f',.bool g'] 43));rw [hw3] at B6 x6 ⊢;obtain ⟨b6,hb6⟩:=nm (w2.heap.size);rw [hb6] at B6 ⊢;clear hw3 a0 a1 a2 a3 a4 a5 a6 a7;replace B2:=B2.l x6;replace B3:=B3.l x6;replace B4:=B4.l x6;replace X:=xt X x6;have g6:w.heap.size+1+1+1<=b6:=by omega
 clear x6 s1 s2 s0 hb6;obtain rfl | rfl:=hk
 ·have lim:limT 1=1000:=by simp [limT]
  rw [lim] at ha hd;simp only [true_and,if_true,if_true] at hV;obtain ⟨A1,A2,A3⟩:=zR0 hr hr';have EN:=fun w=>endsS 1 a m d (lo r r') (hi r r') 1000 w lim hm ha hd A1 A2 A3;have ST:=zFJ hm.1 ha.1 ha.2 hd A1 A2 A3;obtain ⟨F,hF⟩:=nm (stF 1000 a m d (lo r r') (hi r r'));obtain ⟨T,hT⟩:=nm (stT 1000 a m d (lo r r') (hi r r'));rw [hF,hT] at EN hV;have F0:0<=F:=by rw [hF] at ST;omega
  have Z:Hid (F=0->Value.tuple #[arV 0 0 false false 0 0 false false,.bool false]=V):=fun h=>by rw [<- hV,if_pos h]
  have Y1:Hid (F ≠ 0->r'<r->Value.tuple #[arV T c f g F c' f' g',.bool true]=V):=fun h h'=>by rw [<- hV,if_neg h,if_pos h']
  have Y2:Hid (F ≠ 0->¬ r'<r->Value.tuple #[arV F c f g T c' f' g',.bool true]=V):=fun h h'=>by rw [<- hV,if_neg h,if_neg h']
  have MI:=fun w=>minS r r' w;have MA:=fun w=>maxS r r' w;obtain ⟨A,hA⟩:=nm (lo r r');obtain ⟨B,hB⟩:=nm (hi r r');rw [hA] at MI EN;rw [hB] at MA EN;clear hV hF hT hA hB ST A1 A2 A3 hm ha hd lim hr hr' hc hc';obtain ⟨⟨b0,b1,b2,b3⟩,_⟩:=B2.box4;go_upto_region 5 with fail;clear b0 b1 b2 b3;go_cut [7,8,9] (fun u v z wc=>u=iQ F/\v=iQ T/\z=.bool (decide (0<F))/\Ext w3 wc)
  case first =>
   obtain ⟨⟨b0,b1,b2,b3⟩,_⟩:=B2.box4;obtain ⟨⟨⟨a0,a1,a2,a3⟩,a4,a5,a6,a7⟩,_⟩:=B3.box8;go_region_held3 (fun w'=>(w'.cell? ⟨w.heap.size,0,none⟩=some (iQ 1)/\w'.cell? ⟨w.heap.size,1,none⟩=some (iQ a)/\w'.cell? ⟨w.heap.size,2,none⟩=some (iQ m)/\w'.cell? ⟨w.heap.size,3,none⟩=some (.bool d))/\w'.cell? ⟨w.heap.size+1,0,none⟩=some (iQ r)/\w'.cell? ⟨w.heap.size+1,1,none⟩=some (iQ c)/\w'.cell? ⟨w.heap.size+1,2,none⟩=some (.bool f)/\w'.cell? ⟨w.heap.size+1,3,none⟩=some (.bool g)/\w'.cell? ⟨w.heap.size+1,4,none⟩=some (iQ r')/\w'.cell? ⟨w.heap.size+1,5,none⟩=some (iQ c')/\w'.cell? ⟨w.heap.size+1,6,none⟩=some (.bool f')/\w'.cell? ⟨w.heap.size+1,7,none⟩=some (.bool g')) (go_keep) (first
    | (go_at_call 64;refine (MI _).mono ?_;rintro e w' ⟨rfl,rfl⟩)
    | (go_at_call 65;refine (MA _).mono ?_;rintro e w' ⟨rfl,rfl⟩)
    | (go_at_call 63;refine (EN _).mono ?_;rintro e w4 ⟨rfl,e4⟩;have e4':Ext w3 w4:=xt (xd (xr _)) e4;clear b0 b1 b2 b3 a0 a1 a2 a3 a4 a5 a6 a7;obtain ⟨⟨b0,b1,b2,b3⟩,_⟩:=(B2.l e4').box4;obtain ⟨⟨⟨a0,a1,a2,a3⟩,a4,a5,a6,a7⟩,_⟩:=(B3.l e4').box8))
   all_goals go_wp2_with fail
   all_goals go_meet
   all_goals exact ⟨rfl,rfl,rfl,e4'⟩
  case rest =>
   obtain ⟨rfl,rfl,rfl,e4⟩:=hcut
   rename World=>w4
   replace B3:=B3.l e4;replace B4:=B4.l e4;replace B6:=B6.l e4;replace X:=xt X e4;clear e4 B2 EN MI MA;obtain ⟨⟨⟨a0,a1,a2,a3⟩,a4,a5,a6,a7⟩,⟨a8,a9,aA,aB⟩,aC,aD,aE,aF⟩:=B6.box8;have N6:=(B6.put 0 (by simp) (iQ F)).put 4 (by simp) (iQ T);have N3:=(B3.far (p:=⟨b6,0,none⟩) (by simp only;omega) (iQ F)).far (p:=⟨b6,4,none⟩) (by simp only;omega) (iQ T);have N4:=(B4.far (p:=⟨b6,0,none⟩) (by simp only;omega) (iQ F)).far (p:=⟨b6,4,none⟩) (by simp only;omega) (iQ T);have NX:=xset (p:=⟨b6,4,none⟩) (xset (p:=⟨b6,0,none⟩) X (by simp only;omega) (iQ F)) (by simp only;omega) (iQ T);go_upto_region 8 with fail;obtain ⟨w5,hw5⟩:=nm ((w4.setCell ⟨b6,0,none⟩ (iQ F)).setCell ⟨b6,4,none⟩ (iQ T));rw [hw5] at N6 N3 N4 NX ⊢;clear hw5 a0 a1 a2 a3 a4 a5 a6 a7 a8 a9 aA aB aC aD aE aF B3 B4 B6 X;obtain ⟨⟨⟨b0,b1,b2,b3⟩,b4,b5,b6',b7⟩,_⟩:=N3.box8;by_cases hx:r'<r
   ·have fx:decide (r'<r)=true:=decide_eq_true hx;have M6:=N6;have M3:=N3;have M4:=N4;have NX0:=NX;clear N6 N3 N4 NX;obtain ⟨⟨⟨a0,a1,a2,a3⟩,a4,a5,a6,a7⟩,⟨a8,a9,aA,aB⟩,aC,aD,aE,aF⟩:=M6.box8;have N6:=(M6.put 0 (by simp) (iQ T)).put 4 (by simp) (iQ F);have N3:=(M3.far (p:=⟨b6,0,none⟩) (by simp only;omega) (iQ T)).far (p:=⟨b6,4,none⟩) (by simp only;omega) (iQ F);have N4:=(M4.far (p:=⟨b6,0,none⟩) (by simp only;omega) (iQ T)).far (p:=⟨b6,4,none⟩) (by simp only;omega) (iQ F);have NX:=xset (p:=⟨b6,4,none⟩) (xset (p:=⟨b6,0,none⟩) NX0 (by simp only;omega) (iQ T)) (by simp only;omega) (iQ F);go_upto_region 11 with fail;obtain ⟨w6,hw6⟩:=nm ((w5.setCell ⟨b6,0,none⟩ (iQ T)).setCell ⟨b6,4,none⟩ (iQ F));rw [hw6] at N6 N3 N4 NX ⊢;clear hw6 a0 a1 a2 a3 a4 a5 a6 a7 a8 a9 aA aB aC aD aE aF M6 M3 M4 NX0 b0 b1 b2 b3 b4 b5 b6' b7;by_cases h0:F=0
    ·have zz:=Z.out h0;have f0:decide (0<F)=false:=decide_eq_false (by omega);clear Z Y1 Y2;obtain ⟨⟨⟨m0,m1,m2,m3⟩,m4,m5,m6,m7⟩,⟨m8,m9,mA,mB⟩,mC,mD,mE,mF⟩:=N4.box8;have ZZ:Hid _:=zz;clear zz
     go_wp2
     exact bodyPost_ret (v:=.tuple #[arV 0 0 false false 0 0 false false,.bool false]) (by simp [results,Tryz.results37,go_sem,m0,m1,m2,m3,m4,m5,m6,m7]) rfl ⟨congrArg Ending.returned ZZ.out,Ext.set8 NX (by omega) _ _ _ _ _ _ _ _⟩
    ·have f0:decide (0<F)=true:=decide_eq_true (by omega);have ZZ:Hid (Value.tuple #[arV T c f g F c' f' g',.bool true]=V):=Y1.out h0 hx;clear Z Y1 Y2;obtain ⟨⟨⟨m0,m1,m2,m3⟩,m4,m5,m6,m7⟩,⟨m8,m9,mA,mB⟩,mC,mD,mE,mF⟩:=N4.box8;obtain ⟨⟨⟨a0,a1,a2,a3⟩,a4,a5,a6,a7⟩,_⟩:=N6.box8
     go_wp2
     exact bodyPost_ret (v:=.tuple #[arV T c f g F c' f' g',.bool true]) (by simp [results,Tryz.results37,go_sem,m0,m1,m2,m3,m4,m5,m6,m7]) rfl ⟨congrArg Ending.returned ZZ.out,Ext.set8 NX (by omega) _ _ _ _ _ _ _ _⟩
   ·have fx:decide (r'<r)=false:=decide_eq_false hx;go_upto_region 11 with fail;clear b0 b1 b2 b3 b4 b5 b6' b7;by_cases h0:F=0
    ·have zz:=Z.out h0;have f0:decide (0<F)=false:=decide_eq_false (by omega);clear Z Y1 Y2;obtain ⟨⟨⟨m0,m1,m2,m3⟩,m4,m5,m6,m7⟩,⟨m8,m9,mA,mB⟩,mC,mD,mE,mF⟩:=N4.box8;have ZZ:Hid _:=zz;clear zz
     go_wp2
     exact bodyPost_ret (v:=.tuple #[arV 0 0 false false 0 0 false false,.bool false]) (by simp [results,Tryz.results37,go_sem,m0,m1,m2,m3,m4,m5,m6,m7]) rfl ⟨congrArg Ending.returned ZZ.out,Ext.set8 NX (by omega) _ _ _ _ _ _ _ _⟩
    ·have f0:decide (0<F)=true:=decide_eq_true (by omega);have ZZ:Hid (Value.tuple #[arV F c f g T c' f' g',.bool true]=V):=Y2.out h0 hx;clear Z Y1 Y2;obtain ⟨⟨⟨m0,m1,m2,m3⟩,m4,m5,m6,m7⟩,⟨m8,m9,mA,mB⟩,mC,mD,mE,mF⟩:=N4.box8;obtain ⟨⟨⟨a0,a1,a2,a3⟩,a4,a5,a6,a7⟩,_⟩:=N6.box8
     go_wp2
     exact bodyPost_ret (v:=.tuple #[arV F c f g T c' f' g',.bool true]) (by simp [results,Tryz.results37,go_sem,m0,m1,m2,m3,m4,m5,m6,m7]) rfl ⟨congrArg Ending.returned ZZ.out,Ext.set8 NX (by omega) _ _ _ _ _ _ _ _⟩
 ·have lim:limT 2=200:=by simp [limT]
  rw [lim] at ha hd;simp only [true_and,if_true,show ((2:Int)=1)=False by decide,if_false] at hV;obtain ⟨A1,A2,A3⟩:=zR0 hc hc';have EN:=fun w=>endsS 2 a m d (lo c c') (hi c c') 200 w lim hm ha hd A1 A2 A3;have ST:=zFJ hm.1 ha.1 ha.2 hd A1 A2 A3;obtain ⟨F,hF⟩:=nm (stF 200 a m d (lo c c') (hi c c'));obtain ⟨T,hT⟩:=nm (stT 200 a m d (lo c c') (hi c c'));rw [hF,hT] at EN hV;have F0:0<=F:=by rw [hF] at ST;omega
  have Z:Hid (F=0->Value.tuple #[arV 0 0 false false 0 0 false false,.bool false]=V):=fun h=>by rw [<- hV,if_pos h]
  have Y1:Hid (F ≠ 0->c'<c->Value.tuple #[arV r T f g r' F f' g',.bool true]=V):=fun h h'=>by rw [<- hV,if_neg h,if_pos h']
  have Y2:Hid (F ≠ 0->¬ c'<c->Value.tuple #[arV r F f g r' T f' g',.bool true]=V):=fun h h'=>by rw [<- hV,if_neg h,if_neg h']
  have MI:=fun w=>minS c c' w;have MA:=fun w=>maxS c c' w;obtain ⟨A,hA⟩:=nm (lo c c');obtain ⟨B,hB⟩:=nm (hi c c');rw [hA] at MI EN;rw [hB] at MA EN;clear hV hF hT hA hB ST A1 A2 A3 hm ha hd lim hr hr' hc hc';obtain ⟨⟨b0,b1,b2,b3⟩,_⟩:=B2.box4;go_upto_region 14 with fail;clear b0 b1 b2 b3;go_cut [10,11,12] (fun u v z wc=>u=iQ F/\v=iQ T/\z=.bool (decide (0<F))/\Ext w3 wc)
  case first =>
   obtain ⟨⟨b0,b1,b2,b3⟩,_⟩:=B2.box4;obtain ⟨⟨⟨a0,a1,a2,a3⟩,a4,a5,a6,a7⟩,_⟩:=B3.box8;go_region_held3 (fun w'=>(w'.cell? ⟨w.heap.size,0,none⟩=some (iQ 2)/\w'.cell? ⟨w.heap.size,1,none⟩=some (iQ a)/\w'.cell? ⟨w.heap.size,2,none⟩=some (iQ m)/\w'.cell? ⟨w.heap.size,3,none⟩=some (.bool d))/\w'.cell? ⟨w.heap.size+1,0,none⟩=some (iQ r)/\w'.cell? ⟨w.heap.size+1,1,none⟩=some (iQ c)/\w'.cell? ⟨w.heap.size+1,2,none⟩=some (.bool f)/\w'.cell? ⟨w.heap.size+1,3,none⟩=some (.bool g)/\w'.cell? ⟨w.heap.size+1,4,none⟩=some (iQ r')/\w'.cell? ⟨w.heap.size+1,5,none⟩=some (iQ c')/\w'.cell? ⟨w.heap.size+1,6,none⟩=some (.bool f')/\w'.cell? ⟨w.heap.size+1,7,none⟩=some (.bool g')) (go_keep) (first
    | (go_at_call 64;refine (MI _).mono ?_;rintro e w' ⟨rfl,rfl⟩)
    | (go_at_call 65;refine (MA _).mono ?_;rintro e w' ⟨rfl,rfl⟩)
    | (go_at_call 63;refine (EN _).mono ?_;rintro e w4 ⟨rfl,e4⟩;have e4':Ext w3 w4:=xt (xd (xr _)) e4;clear b0 b1 b2 b3 a0 a1 a2 a3 a4 a5 a6 a7;obtain ⟨⟨b0,b1,b2,b3⟩,_⟩:=(B2.l e4').box4;obtain ⟨⟨⟨a0,a1,a2,a3⟩,a4,a5,a6,a7⟩,_⟩:=(B3.l e4').box8))
   all_goals go_wp2_with fail
   all_goals go_meet
   all_goals exact ⟨rfl,rfl,rfl,e4'⟩
  case rest =>
   obtain ⟨rfl,rfl,rfl,e4⟩:=hcut
   rename World=>w4
   replace B3:=B3.l e4;replace B4:=B4.l e4;replace B6:=B6.l e4;replace X:=xt X e4;clear e4 B2 EN MI MA;obtain ⟨⟨⟨a0,a1,a2,a3⟩,a4,a5,a6,a7⟩,⟨a8,a9,aA,aB⟩,aC,aD,aE,aF⟩:=B6.box8;have N6:=(B6.put 1 (by simp) (iQ F)).put 5 (by simp) (iQ T);have N3:=(B3.far (p:=⟨b6,1,none⟩) (by simp only;omega) (iQ F)).far (p:=⟨b6,5,none⟩) (by simp only;omega) (iQ T);have N4:=(B4.far (p:=⟨b6,1,none⟩) (by simp only;omega) (iQ F)).far (p:=⟨b6,5,none⟩) (by simp only;omega) (iQ T);have NX:=xset (p:=⟨b6,5,none⟩) (xset (p:=⟨b6,1,none⟩) X (by simp only;omega) (iQ F)) (by simp only;omega) (iQ T);go_upto_region 17 with fail;obtain ⟨w5,hw5⟩:=nm ((w4.setCell ⟨b6,1,none⟩ (iQ F)).setCell ⟨b6,5,none⟩ (iQ T));rw [hw5] at N6 N3 N4 NX ⊢;clear hw5 a0 a1 a2 a3 a4 a5 a6 a7 a8 a9 aA aB aC aD aE aF B3 B4 B6 X;obtain ⟨⟨⟨b0,b1,b2,b3⟩,b4,b5,b6',b7⟩,_⟩:=N3.box8;by_cases hx:c'<c
   ·have fx:decide (c'<c)=true:=decide_eq_true hx;have M6:=N6;have M3:=N3;have M4:=N4;have NX0:=NX;clear N6 N3 N4 NX;obtain ⟨⟨⟨a0,a1,a2,a3⟩,a4,a5,a6,a7⟩,⟨a8,a9,aA,aB⟩,aC,aD,aE,aF⟩:=M6.box8;have N6:=(M6.put 1 (by simp) (iQ T)).put 5 (by simp) (iQ F);have N3:=(M3.far (p:=⟨b6,1,none⟩) (by simp only;omega) (iQ T)).far (p:=⟨b6,5,none⟩) (by simp only;omega) (iQ F);have N4:=(M4.far (p:=⟨b6,1,none⟩) (by simp only;omega) (iQ T)).far (p:=⟨b6,5,none⟩) (by simp only;omega) (iQ F);have NX:=xset (p:=⟨b6,5,none⟩) (xset (p:=⟨b6,1,none⟩) NX0 (by simp only;omega) (iQ T)) (by simp only;omega) (iQ F);go_upto_region 20 with fail;obtain ⟨w6,hw6⟩:=nm ((w5.setCell ⟨b6,1,none⟩ (iQ T)).setCell ⟨b6,5,none⟩ (iQ F));rw [hw6] at N6 N3 N4 NX ⊢;clear hw6 a0 a1 a2 a3 a4 a5 a6 a7 a8 a9 aA aB aC aD aE aF M6 M3 M4 NX0 b0 b1 b2 b3 b4 b5 b6' b7;by_cases h0:F=0
    ·have zz:=Z.out h0;have f0:decide (0<F)=false:=decide_eq_false (by omega);clear Z Y1 Y2;obtain ⟨⟨⟨m0,m1,m2,m3⟩,m4,m5,m6,m7⟩,⟨m8,m9,mA,mB⟩,mC,mD,mE,mF⟩:=N4.box8;have ZZ:Hid _:=zz;clear zz
     go_wp2
     exact bodyPost_ret (v:=.tuple #[arV 0 0 false false 0 0 false false,.bool false]) (by simp [results,Tryz.results37,go_sem,m0,m1,m2,m3,m4,m5,m6,m7]) rfl ⟨congrArg Ending.returned ZZ.out,Ext.set8 NX (by omega) _ _ _ _ _ _ _ _⟩
    ·have f0:decide (0<F)=true:=decide_eq_true (by omega);have ZZ:Hid (Value.tuple #[arV r T f g r' F f' g',.bool true]=V):=Y1.out h0 hx;clear Z Y1 Y2;obtain ⟨⟨⟨m0,m1,m2,m3⟩,m4,m5,m6,m7⟩,⟨m8,m9,mA,mB⟩,mC,mD,mE,mF⟩:=N4.box8;obtain ⟨⟨⟨a0,a1,a2,a3⟩,a4,a5,a6,a7⟩,_⟩:=N6.box8
     go_wp2
     exact bodyPost_ret (v:=.tuple #[arV r T f g r' F f' g',.bool true]) (by simp [results,Tryz.results37,go_sem,m0,m1,m2,m3,m4,m5,m6,m7]) rfl ⟨congrArg Ending.returned ZZ.out,Ext.set8 NX (by omega) _ _ _ _ _ _ _ _⟩
   ·have fx:decide (c'<c)=false:=decide_eq_false hx;go_upto_region 20 with fail;clear b0 b1 b2 b3 b4 b5 b6' b7;by_cases h0:F=0
    ·have zz:=Z.out h0;have f0:decide (0<F)=false:=decide_eq_false (by omega);clear Z Y1 Y2;obtain ⟨⟨⟨m0,m1,m2,m3⟩,m4,m5,m6,m7⟩,⟨m8,m9,mA,mB⟩,mC,mD,mE,mF⟩:=N4.box8;have ZZ:Hid _:=zz;clear zz
     go_wp2
     exact bodyPost_ret (v:=.tuple #[arV 0 0 false false 0 0 false false,.bool false]) (by simp [results,Tryz.results37,go_sem,m0,m1,m2,m3,m4,m5,m6,m7]) rfl ⟨congrArg Ending.returned ZZ.out,Ext.set8 NX (by omega) _ _ _ _ _ _ _ _⟩
    ·have f0:decide (0<F)=true:=decide_eq_true (by omega);have ZZ:Hid (Value.tuple #[arV r F f g r' T f' g',.bool true]=V):=Y2.out h0 hx;clear Z Y1 Y2;obtain ⟨⟨⟨m0,m1,m2,m3⟩,m4,m5,m6,m7⟩,⟨m8,m9,mA,mB⟩,mC,mD,mE,mF⟩:=N4.box8;obtain ⟨⟨⟨a0,a1,a2,a3⟩,a4,a5,a6,a7⟩,_⟩:=N6.box8
     go_wp2
     exact bodyPost_ret (v:=.tuple #[arV r F f g r' T f' g',.bool true]) (by simp [results,Tryz.results37,go_sem,m0,m1,m2,m3,m4,m5,m6,m7]) rfl ⟨congrArg Ending.returned ZZ.out,Ext.set8 NX (by omega) _ _ _ _ _ _ _ _⟩
end Go.Proofs.YteliaeejooekbaaGreatDoor

