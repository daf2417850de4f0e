import Derived.RangeFuncNested
import Derived.RangeFuncBound
import Derived.RangeFuncCalls
import Derived.RangeFuncLeaves
import Derived.Shelf.Abstract
import Derived.WalkKit
import Derived.OwnWalkIn
import Derived.TacticsInMore
import Derived.LoopNIn
import Derived.LoopIn
import Derived.Test.YteliaeejooekbaaGreatDoorMg31
set_option maxRecDepth 100000
set_option maxHeartbeats 8000000
namespace Go.Proofs.YteliaeejooekbaaGreatDoor
open Go.RowKit Go.Shelf
attribute [local go_sem] Oper.semAt_some
def zCQ (n₀:Nat) (w:World) (v:Value) (l:List NT):Prop:=
 ∃ p cap,v=.slice p l.length cap/\l.length<=cap/\(0<l.length->∃ b o,p=some ⟨b,o,none⟩/\b<n₀/\RowN w b o l)
theorem RowN.below {n₀ b o:Nat} {w w':World} {l:List NT} (h:RowN w b o l) (hb:b<n₀) (x:Below n₀ w w'):RowN w' b o l:=fun i e hi c u hc=>(x.cell (p:=⟨b,o+i * 14+c,none⟩) hb).trans (h i e hi c u hc)
theorem zCQ.below {n₀:Nat} {w w':World} {v:Value} {l:List NT} (h:zCQ n₀ w v l) (x:Below n₀ w w'):zCQ n₀ w' v l:=by
 obtain ⟨p,cap,h1,h2,h3⟩:=h;refine ⟨p,cap,h1,h2,fun h0=>?_⟩;obtain ⟨b,o,h4,hb,h5⟩:=h3 h0;exact ⟨b,o,h4,hb,h5.below hb x⟩
theorem zAT.below {w:World} {v:Value} {l:List NT} (h:zAT w v l):zCQ w.heap.size w v l:=by
 obtain ⟨p,cap,h1,h2,h3⟩:=h;refine ⟨p,cap,h1,h2,fun h0=>?_⟩;obtain ⟨b,o,h4,h5⟩:=h3 h0;obtain ⟨x,hx⟩:∃ x,l[0]?=some x:=⟨_,List.getElem?_eq_getElem h0⟩;exact ⟨b,o,h4,World.block_lt_of_cell? _ _ (h5 0 x hx 0 _ rfl),h5⟩
def encY {f:List NT} (y:YA f):Array Value:=#[iQ (y.i:Int),arV y.x.r y.x.c y.x.f y.x.g y.x.er y.x.ec y.x.ef y.x.eg]
theorem zBO {w w':World} (h:w.grownBy w' none) (o:Obj):w.grownBy (w'.alloc o) none:=
 ⟨h.os,h.tape,h.output,by rw [World.size_alloc];have:=h.size;omega,fun k hk hr=>(Below.heap_alloc _ _ _ (by have:=h.size;omega)).trans (h.block k hk hr)⟩
theorem zE3 {n₀:Nat} {w w':World} (h:w.grownBy w' none) (hn:n₀<=w.heap.size):Below n₀ w w':=
 ⟨h.os,h.tape,h.output,by have:=h.size;omega,fun k hk=>h.block k (by omega) (by simp)⟩
theorem zEM (w:World):w.grownBy w none:=⟨rfl,rfl,rfl,Nat.le_refl _,fun _ _ _=>rfl⟩
theorem zTS (F:Fence) (n:Nat) (hf:F.fn 84) (hro:F.round=none) (hn:1<=n) (l Bs n₀ b off cap:Nat) (f:List NT) (hb:b<n₀) (J Jx:List (YA f)->World->Prop)
  (hY:∀ pre x W,J pre W->pre.length<f.length->YieldAt F (n - 1) Tryz.prog l (encY x) W fun e W' =>
   (e=.returned (.bool true)/\J (pre++[x]) W'/\Below n₀ W W')\/(e=.returned (.bool false)/\Jx (pre++[x]) W'))
  (hJa:∀ pre W W',J pre W->W.grownBy W' none->J pre W')
  (hreach:f.length<=1000)
  (W:World) (hn0:n₀<=W.heap.size) (hBs:W.cell? ⟨Bs,0,none⟩=some (.slice (some ⟨b,off,none⟩) f.length cap)) (hc:RowN W b off f) (h0:J [] W) :
  CallsIn F n Tryz.prog 84 #[.func (.yield l) #[] #[],.pointer (some ⟨Bs,0,none⟩)] W fun e W'=>(∃ v,e=.returned v) /\
   (J (adrT f f.length) W'\/∃ pre,Jx pre W'):=by
 obtain ⟨len,hlen⟩:=nm (f.length);rw [hlen] at hreach hBs;have HL:Hid _:=hlen;have HC:Hid _:=hc;have HA:Hid _:=hJa;have HY:Hid (∀ pre x W,J pre W->pre.length<len->YieldAt F (n - 1) Tryz.prog l (encY x) W fun e W' =>
   (e=.returned (.bool true)/\J (pre++[x]) W'/\Below n₀ W W')\/(e=.returned (.bool false)/\Jx (pre++[x]) W')):=by rw [<- hlen];exact hY
 rw [hlen];clear hlen hc hJa hY;refine callsIn_of_wp Tryz.func84 rfl hf ?_ hro;simp only [Tryz.ntmps84,List.size_toArray,List.length_cons,List.length_nil,Nat.reduceAdd,Nat.reduceSub,Array.replicate_succ,Array.replicate_zero,List.push_toArray,List.append_toArray,List.nil_append,List.cons_append]
 gi_wp2
 gi_loopw [8] (fun i wr=>∃ k:Nat,k<=len/\i=iQ k/\J (adrT f k) wr/\Below n₀ W wr) (fun i _=>len - (intOf i).toNat)
 case atStart=>exact ⟨0,Nat.zero_le _,rfl,h0,Below.refl _ _⟩
 case round =>
  obtain ⟨k,hk,rfl,hJs,hnx⟩:=hrel;by_cases hlt:k<len
  ·obtain ⟨x,hx⟩:∃ x,f[k]?=some x:=⟨_,List.getElem?_eq_getElem (by rw [HL.out];exact hlt)⟩;have RW:=RowN.below HC.out hb hnx;have HS:Hid (n₀<=wr.heap.size):=by have:=hnx.size;show _<=_;omega
   have HAL:Hid ((adrT f k).length<len):=by have:=zL8 f k;show _<_;omega
   have i2:(k:Int)<(len:Int):=by omega
   have a0:wr.cell? ⟨b,off+k * 14,none⟩=some (iQ x.k):=RW k x hx 0 _ rfl;have a1:=RW k x hx 1 _ rfl;have a2:=RW k x hx 2 _ rfl;have a3:=RW k x hx 3 _ rfl;have a4:=RW k x hx 4 _ rfl;have a5:=RW k x hx 5 _ rfl;have a6:=RW k x hx 6 _ rfl;have a7:=RW k x hx 7 _ rfl;have a8:=RW k x hx 8 _ rfl;have a9:=RW k x hx 9 _ rfl;have a10:=RW k x hx 10 _ rfl;have a11:=RW k x hx 11 _ rfl;have a12:=RW k x hx 12 _ rfl;have a13:=RW k x hx 13 _ rfl;clear RW;by_cases hk56:x.k=5\/x.k=6
   ·have HT:Hid (adrT f (k+1)=adrT f k++[⟨k,x,hx,hk56⟩]):=zL7 hx hk56;obtain ⟨y,hy⟩:∃ y:YA f,y=⟨k,x,hx,hk56⟩:=⟨_,rfl⟩;have HE:Hid (encY y=#[iQ (k:Int),arV x.r x.c x.f x.g x.er x.ec x.ef x.eg]):=(by rw [hy];rfl);rw [<- hy] at HT;clear hy;by_cases h5:x.k=5
    ·have HE2:Hid (encY y=#[iQ (k:Int),arV x.r x.c x.f x.g x.r x.c x.f x.g]):=by
      show _=_;rw [HE.out];unfold NT.er NT.ec NT.ef NT.eg;rw [if_pos h5,if_pos h5,if_pos h5,if_pos h5]
     have hk6:x.k=5:=(by omega);obtain ⟨xk,xt0,xn,xd0,xx,xr0,xc,xf,xg,xr2,xc2,xf2,xg2,xq⟩:=x;dsimp only at a0 a1 a2 a3 a4 a5 a6 a7 a8 a9 a10 a11 a12 a13 HE2 hk6;subst hk6;have G0:wr.grownBy ((wr.alloc (.cells #[iQ 5,sV xt0,.bool xn,iQ xd0,iQ xx,iQ xr0,iQ xc,.bool xf,.bool xg,iQ xr2,iQ xc2,.bool xf2,.bool xg2,iQ xq] 73)).alloc (.cells #[iQ xr0,iQ xc,.bool xf,.bool xg,iQ xr0,iQ xc,.bool xf,.bool xg] 43)) none:=zBO (zBO (zEM _) _) _;have hKa:=zE3 G0 HS.out;obtain ⟨fn,tmps,assign,body,hy,hR⟩:=HY.out _ y ((wr.alloc (.cells #[iQ 5,sV xt0,.bool xn,iQ xd0,iQ xx,iQ xr0,iQ xc,.bool xf,.bool xg,iQ xr2,iQ xc2,.bool xf2,.bool xg2,iQ xq] 73)).alloc (.cells #[iQ xr0,iQ xc,.bool xf,.bool xg,iQ xr0,iQ xc,.bool xf,.bool xg] 43)) (HA.out _ _ _ hJs G0) HAL.out;rw [HE2.out] at hy;have KB:=zA5 wr [iQ 5,sV xt0,.bool xn,iQ xd0,iQ xx,iQ xr0,iQ xc,.bool xf,.bool xg,iQ xr2,iQ xc2,.bool xf2,.bool xg2,iQ xq] 73;change Vec (wr.alloc (.cells #[iQ 5,sV xt0,.bool xn,iQ xd0,iQ xx,iQ xr0,iQ xc,.bool xf,.bool xg,iQ xr2,iQ xc2,.bool xf2,.bool xg2,iQ xq] 73)) _ _ at KB;have KA:=zA5 (wr.alloc (.cells #[iQ 5,sV xt0,.bool xn,iQ xd0,iQ xx,iQ xr0,iQ xc,.bool xf,.bool xg,iQ xr2,iQ xc2,.bool xf2,.bool xg2,iQ xq] 73)) [iQ xr0,iQ xc,.bool xf,.bool xg,iQ xr2,iQ xc2,.bool xf2,.bool xg2] 43;change Vec ((wr.alloc (.cells #[iQ 5,sV xt0,.bool xn,iQ xd0,iQ xx,iQ xr0,iQ xc,.bool xf,.bool xg,iQ xr2,iQ xc2,.bool xf2,.bool xg2,iQ xq] 73)).alloc (.cells #[iQ xr0,iQ xc,.bool xf,.bool xg,iQ xr2,iQ xc2,.bool xf2,.bool xg2] 43)) _ _ at KA;rw [World.size_alloc] at KA;have KC:Vec ((wr.alloc (.cells #[iQ 5,sV xt0,.bool xn,iQ xd0,iQ xx,iQ xr0,iQ xc,.bool xf,.bool xg,iQ xr2,iQ xc2,.bool xf2,.bool xg2,iQ xq] 73)).alloc (.cells #[iQ xr0,iQ xc,.bool xf,.bool xg,iQ xr2,iQ xc2,.bool xf2,.bool xg2] 43)) wr.heap.size [iQ 5,sV xt0,.bool xn,iQ xd0,iQ xx,iQ xr0,iQ xc,.bool xf,.bool xg,iQ xr2,iQ xc2,.bool xf2,.bool xg2,iQ xq]:=KB.l (x1 _ _);have k0:=(KB 0 _ rfl).1;have k5:=(KB 5 _ rfl).1;have k6:=(KB 6 _ rfl).1;have k7:=(KB 7 _ rfl).1;have k8:=(KB 8 _ rfl).1;have k9:=(KB 9 _ rfl).1;have k10:=(KB 10 _ rfl).1;have k11:=(KB 11 _ rfl).1;have k12:=(KB 12 _ rfl).1;have c0:=(KC 0 _ rfl).1;have c5:=(KC 5 _ rfl).1;have c6:=(KC 6 _ rfl).1;have c7:=(KC 7 _ rfl).1;have c8:=(KC 8 _ rfl).1;have b0:=vC8 KA;have e0:=vF8 KA;clear KB KA KC hx G0 HE HE2
     gi_wp2
     clear a0 a1 a2 a3 a4 a5 a6 a7 a8 a9 a10 a11 a12 a13 k0 k5 k6 k7 k8 k9 k10 k11 k12 c0 c5 c6 c7 c8 b0 e0;refine hR.mono ?_;rintro e W3 (⟨rfl,hJ3,hk3⟩ | ⟨rfl,hJx3⟩)
     ·gi_wp2
      go_roundw
      case rel=>exact ⟨k+1,by omega,by simp,by rw [HT.out];exact hJ3,(hnx.trans hKa).trans hk3⟩
      case measure=>simp [intOf];omega
     ·gi_wp2
      refine bodyPost_ret (results_none rfl _ _ _) rfl ?_;exact ⟨⟨_,rfl⟩,.inr ⟨_,hJx3⟩⟩
    ·have HE2:Hid (encY y=#[iQ (k:Int),arV x.r x.c x.f x.g x.r2 x.c2 x.f2 x.g2]):=by
      show _=_;rw [HE.out];unfold NT.er NT.ec NT.ef NT.eg;rw [if_neg h5,if_neg h5,if_neg h5,if_neg h5]
     have hk6:x.k=6:=(by omega);obtain ⟨xk,xt0,xn,xd0,xx,xr0,xc,xf,xg,xr2,xc2,xf2,xg2,xq⟩:=x;dsimp only at a0 a1 a2 a3 a4 a5 a6 a7 a8 a9 a10 a11 a12 a13 HE2 hk6;subst hk6;have G0:wr.grownBy ((wr.alloc (.cells #[iQ 6,sV xt0,.bool xn,iQ xd0,iQ xx,iQ xr0,iQ xc,.bool xf,.bool xg,iQ xr2,iQ xc2,.bool xf2,.bool xg2,iQ xq] 73)).alloc (.cells #[iQ xr0,iQ xc,.bool xf,.bool xg,iQ xr2,iQ xc2,.bool xf2,.bool xg2] 43)) none:=zBO (zBO (zEM _) _) _;have hKa:=zE3 G0 HS.out;obtain ⟨fn,tmps,assign,body,hy,hR⟩:=HY.out _ y ((wr.alloc (.cells #[iQ 6,sV xt0,.bool xn,iQ xd0,iQ xx,iQ xr0,iQ xc,.bool xf,.bool xg,iQ xr2,iQ xc2,.bool xf2,.bool xg2,iQ xq] 73)).alloc (.cells #[iQ xr0,iQ xc,.bool xf,.bool xg,iQ xr2,iQ xc2,.bool xf2,.bool xg2] 43)) (HA.out _ _ _ hJs G0) HAL.out;rw [HE2.out] at hy;have KB:=zA5 wr [iQ 6,sV xt0,.bool xn,iQ xd0,iQ xx,iQ xr0,iQ xc,.bool xf,.bool xg,iQ xr2,iQ xc2,.bool xf2,.bool xg2,iQ xq] 73;change Vec (wr.alloc (.cells #[iQ 6,sV xt0,.bool xn,iQ xd0,iQ xx,iQ xr0,iQ xc,.bool xf,.bool xg,iQ xr2,iQ xc2,.bool xf2,.bool xg2,iQ xq] 73)) _ _ at KB;have KA:=zA5 (wr.alloc (.cells #[iQ 6,sV xt0,.bool xn,iQ xd0,iQ xx,iQ xr0,iQ xc,.bool xf,.bool xg,iQ xr2,iQ xc2,.bool xf2,.bool xg2,iQ xq] 73)) [iQ xr0,iQ xc,.bool xf,.bool xg,iQ xr2,iQ xc2,.bool xf2,.bool xg2] 43;change Vec ((wr.alloc (.cells #[iQ 6,sV xt0,.bool xn,iQ xd0,iQ xx,iQ xr0,iQ xc,.bool xf,.bool xg,iQ xr2,iQ xc2,.bool xf2,.bool xg2,iQ xq] 73)).alloc (.cells #[iQ xr0,iQ xc,.bool xf,.bool xg,iQ xr2,iQ xc2,.bool xf2,.bool xg2] 43)) _ _ at KA;rw [World.size_alloc] at KA;have KC:Vec ((wr.alloc (.cells #[iQ 6,sV xt0,.bool xn,iQ xd0,iQ xx,iQ xr0,iQ xc,.bool xf,.bool xg,iQ xr2,iQ xc2,.bool xf2,.bool xg2,iQ xq] 73)).alloc (.cells #[iQ xr0,iQ xc,.bool xf,.bool xg,iQ xr2,iQ xc2,.bool xf2,.bool xg2] 43)) wr.heap.size [iQ 6,sV xt0,.bool xn,iQ xd0,iQ xx,iQ xr0,iQ xc,.bool xf,.bool xg,iQ xr2,iQ xc2,.bool xf2,.bool xg2,iQ xq]:=KB.l (x1 _ _);have k0:=(KB 0 _ rfl).1;have k5:=(KB 5 _ rfl).1;have k6:=(KB 6 _ rfl).1;have k7:=(KB 7 _ rfl).1;have k8:=(KB 8 _ rfl).1;have k9:=(KB 9 _ rfl).1;have k10:=(KB 10 _ rfl).1;have k11:=(KB 11 _ rfl).1;have k12:=(KB 12 _ rfl).1;have c0:=(KC 0 _ rfl).1;have c5:=(KC 5 _ rfl).1;have c6:=(KC 6 _ rfl).1;have c7:=(KC 7 _ rfl).1;have c8:=(KC 8 _ rfl).1;have b0:=vC8 KA;have e0:=vF8 KA;clear KB KA KC hx G0 HE HE2
     gi_wp2
     clear a0 a1 a2 a3 a4 a5 a6 a7 a8 a9 a10 a11 a12 a13 k0 k5 k6 k7 k8 k9 k10 k11 k12 c0 c5 c6 c7 c8 b0 e0;refine hR.mono ?_;rintro e W3 (⟨rfl,hJ3,hk3⟩ | ⟨rfl,hJx3⟩)
     ·gi_wp2
      go_roundw
      case rel=>exact ⟨k+1,by omega,by simp,by rw [HT.out];exact hJ3,(hnx.trans hKa).trans hk3⟩
      case measure=>simp [intOf];omega
     ·gi_wp2
      refine bodyPost_ret (results_none rfl _ _ _) rfl ?_;exact ⟨⟨_,rfl⟩,.inr ⟨_,hJx3⟩⟩
   ·have HT:Hid (adrT f (k+1)=adrT f k):=zOZ hx hk56;have h5:¬ x.k=5:=fun h=>hk56 (Or.inl h);have h6:¬ x.k=6:=fun h=>hk56 (Or.inr h);have h5b:(x.k == 5)=false:=(by simp;exact h5);have h6b:(x.k == 6)=false:=(by simp;exact h6);obtain ⟨xk,xt0,xn,xd0,xx,xr0,xc,xf,xg,xr2,xc2,xf2,xg2,xq⟩:=x;dsimp only at a0 a1 a2 a3 a4 a5 a6 a7 a8 a9 a10 a11 a12 a13 h5 h6 h5b h6b;have G0:wr.grownBy ((wr.alloc (.cells #[iQ xk,sV xt0,.bool xn,iQ xd0,iQ xx,iQ xr0,iQ xc,.bool xf,.bool xg,iQ xr2,iQ xc2,.bool xf2,.bool xg2,iQ xq] 73)).alloc (.cells #[iQ xr0,iQ xc,.bool xf,.bool xg,iQ xr2,iQ xc2,.bool xf2,.bool xg2] 43)) none:=zBO (zBO (zEM _) _) _;have hKa:=zE3 G0 HS.out;have hJ2:=HA.out _ _ _ hJs G0;have KB:=zA5 wr [iQ xk,sV xt0,.bool xn,iQ xd0,iQ xx,iQ xr0,iQ xc,.bool xf,.bool xg,iQ xr2,iQ xc2,.bool xf2,.bool xg2,iQ xq] 73;change Vec (wr.alloc (.cells #[iQ xk,sV xt0,.bool xn,iQ xd0,iQ xx,iQ xr0,iQ xc,.bool xf,.bool xg,iQ xr2,iQ xc2,.bool xf2,.bool xg2,iQ xq] 73)) _ _ at KB;have KC:Vec ((wr.alloc (.cells #[iQ xk,sV xt0,.bool xn,iQ xd0,iQ xx,iQ xr0,iQ xc,.bool xf,.bool xg,iQ xr2,iQ xc2,.bool xf2,.bool xg2,iQ xq] 73)).alloc (.cells #[iQ xr0,iQ xc,.bool xf,.bool xg,iQ xr2,iQ xc2,.bool xf2,.bool xg2] 43)) wr.heap.size [iQ xk,sV xt0,.bool xn,iQ xd0,iQ xx,iQ xr0,iQ xc,.bool xf,.bool xg,iQ xr2,iQ xc2,.bool xf2,.bool xg2,iQ xq]:=KB.l (x1 _ _);have k0:=(KB 0 _ rfl).1;have k5:=(KB 5 _ rfl).1;have k6:=(KB 6 _ rfl).1;have k7:=(KB 7 _ rfl).1;have k8:=(KB 8 _ rfl).1;have k9:=(KB 9 _ rfl).1;have k10:=(KB 10 _ rfl).1;have k11:=(KB 11 _ rfl).1;have k12:=(KB 12 _ rfl).1;have c0:=(KC 0 _ rfl).1;clear KB KC hx G0 hk56
    gi_wp2
    go_roundw
    case rel=>exact ⟨k+1,by omega,by simp,by rw [HT.out];exact hJ2,hnx.trans hKa⟩
    case measure=>simp [intOf];omega
  ·have e:k=len:=by omega
   subst e
   gi_wp2
   go_end0
   exact ⟨⟨_,rfl⟩,.inl hJs⟩
theorem zK0 (F:Fence) (n:Nat) (hf:F.fn 84) (hro:F.round=none) (l Bs cap:Nat) (p:Option Addr) {f:List NT} (J:List (YA f)->World->Prop) (W:World) (hBs:W.cell? ⟨Bs,0,none⟩=some (.slice p 0 cap)) (h0:J [] W) :
  CallsIn F n Tryz.prog 84 #[.func (.yield l) #[] #[],.pointer (some ⟨Bs,0,none⟩)] W fun e W'=>(∃ v,e=.returned v)/\J [] W':=by
 refine callsIn_of_wp Tryz.func84 rfl hf ?_ hro;simp only [Tryz.ntmps84,List.size_toArray,List.length_cons,List.length_nil,Nat.reduceAdd,Nat.reduceSub,Array.replicate_succ,Array.replicate_zero,List.push_toArray,List.append_toArray,List.nil_append,List.cons_append]
 gi_wp2
 gi_loopw [8] (fun i wr=>i=iQ 0/\J [] wr) (fun _ _=>0)
 case atStart=>exact ⟨rfl,h0⟩
 case round =>
  obtain ⟨rfl,hJs⟩:=hrel
  gi_wp2
  go_end0
  exact ⟨⟨_,rfl⟩,hJs⟩
theorem zM9 (F:Fence) (n:Nat) (hf:F.fn 84) (hro:F.round=none) (hn:1<=n) (Bs n₀:Nat) (sv:Value) (f:List NT) (hreach:f.length<=1000) (w:World) (hBs:Bs<w.heap.size) (hn₀:n₀<=w.heap.size)
  (hc:w.cell? ⟨Bs,0,none⟩=some sv) (hI:zCQ n₀ w sv f) :
  SeqStopsK F n Tryz.prog 84 #[.pointer (some ⟨Bs,0,none⟩)] (encY (f:=f)) (Below n₀) (fun ys=>ys=adrT f f.length) (fun _=>True) f.length w:=fun l J Jx W hW hJ _ hY h0=>by
 have hc':=(hW.cell (p:=⟨Bs,0,none⟩) hBs).trans hc;obtain ⟨p,cap,rfl,hcap,h3⟩:=hI.below (hW.mono hn₀);by_cases h:0<f.length
 ·obtain ⟨b,o,rfl,hb,hcs⟩:=h3 h;refine (zTS F n hf hro hn l Bs n₀ b o cap f hb J Jx hY (fun pre W W' hj hg=>hJ pre W _ none hj hg (fun r e=>by cases e)) hreach W (by have:=hW.size;omega) hc' hcs h0).mono ?_;rintro e W' ⟨he,hj | ⟨pre,hj⟩⟩
  ·exact ⟨he,.inl ⟨_,rfl,hj⟩⟩
  ·exact ⟨he,.inr ⟨_,trivial,hj⟩⟩
 ·obtain rfl:f=[]:=List.eq_nil_of_length_eq_zero (by omega);exact (zK0 F n hf hro l Bs cap p J W hc' h0).mono fun e W' ⟨he,hj⟩=>⟨he,.inl ⟨_,rfl,hj⟩⟩
end Go.Proofs.YteliaeejooekbaaGreatDoor
