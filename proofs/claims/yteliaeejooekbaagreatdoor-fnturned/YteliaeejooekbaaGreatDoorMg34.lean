import Derived.RangeFuncNested
import Derived.RangeFuncBound
import Derived.RangeFuncCalls
import Derived.RangeFuncLeaves
import Derived.Shelf.Abstract
import Derived.WalkKit
import Derived.OwnWalkIn
import Derived.TacticsInMore
import Derived.LoopNIn
import Derived.LoopIn
import Derived.Test.YteliaeejooekbaaGreatDoorMg30
import Derived.Test.YteliaeejooekbaaGreatDoorMg32
import Derived.Test.YteliaeejooekbaaGreatDoorFo
import Derived.Lib.AppendZeros
import Derived.RangeFuncBox
import Derived.OrdersIn
import Derived.TacticsIn
import Derived.Deep.MidRow
import Derived.Test.YteliaeejooekbaaGreatDoorMg13
set_option maxRecDepth 100000
set_option maxHeartbeats 8000000
namespace Go.Proofs.YteliaeejooekbaaGreatDoor
open Go.RowKit Go.Shelf
attribute [local go_sem] Oper.semAt_some
def zCW (n₀:Nat) (w:World) (v:Value) (l:List NT):Prop:=
 ∃ p cap,v=.slice p l.length cap/\l.length<=cap/\(0<l.length->∃ b o,p=some ⟨b,o,none⟩/\b<n₀/\RowN w b o l)
theorem RowN.below {n₀ b o:Nat} {w w':World} {l:List NT} (h:RowN w b o l) (hb:b<n₀) (x:Below n₀ w w'):RowN w' b o l:=fun i e hi c u hc=>(x.cell (p:=⟨b,o+i * 14+c,none⟩) hb).trans (h i e hi c u hc)
theorem zCW.below {n₀:Nat} {w w':World} {v:Value} {l:List NT} (h:zCW n₀ w v l) (x:Below n₀ w w'):zCW n₀ w' v l:=by
 obtain ⟨p,cap,h1,h2,h3⟩:=h;refine ⟨p,cap,h1,h2,fun h0=>?_⟩;obtain ⟨b,o,h4,hb,h5⟩:=h3 h0;exact ⟨b,o,h4,hb,h5.below hb x⟩
theorem zAI.below {w:World} {v:Value} {l:List NT} (h:zAI w v l):zCW w.heap.size w v l:=by
 obtain ⟨p,cap,h1,h2,h3⟩:=h;refine ⟨p,cap,h1,h2,fun h0=>?_⟩;obtain ⟨b,o,h4,h5⟩:=h3 h0;obtain ⟨x,hx⟩:∃ x,l[0]?=some x:=⟨_,List.getElem?_eq_getElem h0⟩;exact ⟨b,o,h4,World.block_lt_of_cell? _ _ (h5 0 x hx 0 _ rfl),h5⟩
def encY {f:List NT} (y:YA f):Array Value:=#[iQ (y.i:Int),arV y.x.r y.x.c y.x.f y.x.g y.x.er y.x.ec y.x.ef y.x.eg]
theorem zBX {w w':World} (h:w.grownBy w' none) (o:Obj):w.grownBy (w'.alloc o) none:=
 ⟨h.os,h.tape,h.output,by rw [World.size_alloc];have:=h.size;omega,fun k hk hr=>(Below.heap_alloc _ _ _ (by have:=h.size;omega)).trans (h.block k hk hr)⟩
theorem zEC {n₀:Nat} {w w':World} (h:w.grownBy w' none) (hn:n₀<=w.heap.size):Below n₀ w w':=
 ⟨h.os,h.tape,h.output,by have:=h.size;omega,fun k hk=>h.block k (by omega) (by simp)⟩
theorem zEW (w:World):w.grownBy w none:=⟨rfl,rfl,rfl,Nat.le_refl _,fun _ _ _=>rfl⟩
theorem zUU (F:Fence) (n:Nat) (hf:F.fn 84) (hro:F.round=none) (hn:1<=n) (l Bs n₀ b off cap:Nat) (f:List NT) (hb:b<n₀) (J Jx:List (YA f)->World->Prop)
  (hY:∀ pre x W,J pre W->pre.length<f.length->YieldAt F (n - 1) Tryz.prog l (encY x) W fun e W' =>
   (e=.returned (.bool true)/\J (pre++[x]) W'/\Below n₀ W W')\/(e=.returned (.bool false)/\Jx (pre++[x]) W'))
  (hJa:∀ pre W W',J pre W->W.grownBy W' none->J pre W')
  (hreach:f.length<=1000)
  (W:World) (hn0:n₀<=W.heap.size) (hBs:W.cell? ⟨Bs,0,none⟩=some (.slice (some ⟨b,off,none⟩) f.length cap)) (hc:RowN W b off f) (h0:J [] W) :
  CallsIn F n Tryz.prog 84 #[.func (.yield l) #[] #[],.pointer (some ⟨Bs,0,none⟩)] W fun e W'=>(∃ v,e=.returned v) /\
   (J (adrT f f.length) W'\/∃ pre,Jx pre W'):=by
 obtain ⟨len,hlen⟩:=nm (f.length);rw [hlen] at hreach hBs;have HL:Hid _:=hlen;have HC:Hid _:=hc;have HA:Hid _:=hJa;have HY:Hid (∀ pre x W,J pre W->pre.length<len->YieldAt F (n - 1) Tryz.prog l (encY x) W fun e W' =>
   (e=.returned (.bool true)/\J (pre++[x]) W'/\Below n₀ W W')\/(e=.returned (.bool false)/\Jx (pre++[x]) W')):=by rw [<- hlen];exact hY
 rw [hlen];clear hlen hc hJa hY;refine callsIn_of_wp Tryz.func84 rfl hf ?_ hro;simp only [Tryz.ntmps84,List.size_toArray,List.length_cons,List.length_nil,Nat.reduceAdd,Nat.reduceSub,Array.replicate_succ,Array.replicate_zero,List.push_toArray,List.append_toArray,List.nil_append,List.cons_append]
 gi_wp2
 gi_loopw [8] (fun i wr=>∃ k:Nat,k<=len/\i=iQ k/\J (adrT f k) wr/\Below n₀ W wr) (fun i _=>len - (intOf i).toNat)
 case atStart=>exact ⟨0,Nat.zero_le _,rfl,h0,Below.refl _ _⟩
 case round =>
  obtain ⟨k,hk,rfl,hJs,hnx⟩:=hrel;by_cases hlt:k<len
  ·obtain ⟨x,hx⟩:∃ x,f[k]?=some x:=⟨_,List.getElem?_eq_getElem (by rw [HL.out];exact hlt)⟩;have RW:=RowN.below HC.out hb hnx;have HS:Hid (n₀<=wr.heap.size):=by have:=hnx.size;show _<=_;omega
   have HAL:Hid ((adrT f k).length<len):=by have:=zLR f k;show _<_;omega
   have i2:(k:Int)<(len:Int):=by omega
   have a0:wr.cell? ⟨b,off+k * 14,none⟩=some (iQ x.k):=RW k x hx 0 _ rfl;have a1:=RW k x hx 1 _ rfl;have a2:=RW k x hx 2 _ rfl;have a3:=RW k x hx 3 _ rfl;have a4:=RW k x hx 4 _ rfl;have a5:=RW k x hx 5 _ rfl;have a6:=RW k x hx 6 _ rfl;have a7:=RW k x hx 7 _ rfl;have a8:=RW k x hx 8 _ rfl;have a9:=RW k x hx 9 _ rfl;have a10:=RW k x hx 10 _ rfl;have a11:=RW k x hx 11 _ rfl;have a12:=RW k x hx 12 _ rfl;have a13:=RW k x hx 13 _ rfl;clear RW;by_cases hk56:x.k=5\/x.k=6
   ·have HT:Hid (adrT f (k+1)=adrT f k++[⟨k,x,hx,hk56⟩]):=zLQ hx hk56;obtain ⟨y,hy⟩:∃ y:YA f,y=⟨k,x,hx,hk56⟩:=⟨_,rfl⟩;have HE:Hid (encY y=#[iQ (k:Int),arV x.r x.c x.f x.g x.er x.ec x.ef x.eg]):=(by rw [hy];rfl);rw [<- hy] at HT;clear hy;by_cases h5:x.k=5
    ·have HE2:Hid (encY y=#[iQ (k:Int),arV x.r x.c x.f x.g x.r x.c x.f x.g]):=by
      show _=_;rw [HE.out];unfold NT.er NT.ec NT.ef NT.eg;rw [if_pos h5,if_pos h5,if_pos h5,if_pos h5]
     have hk6:x.k=5:=(by omega);obtain ⟨xk,xt0,xn,xd0,xx,xr0,xc,xf,xg,xr2,xc2,xf2,xg2,xq⟩:=x;dsimp only at a0 a1 a2 a3 a4 a5 a6 a7 a8 a9 a10 a11 a12 a13 HE2 hk6;subst hk6;have G0:wr.grownBy ((wr.alloc (.cells #[iQ 5,sV xt0,.bool xn,iQ xd0,iQ xx,iQ xr0,iQ xc,.bool xf,.bool xg,iQ xr2,iQ xc2,.bool xf2,.bool xg2,iQ xq] 73)).alloc (.cells #[iQ xr0,iQ xc,.bool xf,.bool xg,iQ xr0,iQ xc,.bool xf,.bool xg] 43)) none:=zBX (zBX (zEW _) _) _;have hKa:=zEC G0 HS.out;obtain ⟨fn,tmps,assign,body,hy,hR⟩:=HY.out _ y ((wr.alloc (.cells #[iQ 5,sV xt0,.bool xn,iQ xd0,iQ xx,iQ xr0,iQ xc,.bool xf,.bool xg,iQ xr2,iQ xc2,.bool xf2,.bool xg2,iQ xq] 73)).alloc (.cells #[iQ xr0,iQ xc,.bool xf,.bool xg,iQ xr0,iQ xc,.bool xf,.bool xg] 43)) (HA.out _ _ _ hJs G0) HAL.out;rw [HE2.out] at hy;have KB:=zA4 wr [iQ 5,sV xt0,.bool xn,iQ xd0,iQ xx,iQ xr0,iQ xc,.bool xf,.bool xg,iQ xr2,iQ xc2,.bool xf2,.bool xg2,iQ xq] 73;change Vec (wr.alloc (.cells #[iQ 5,sV xt0,.bool xn,iQ xd0,iQ xx,iQ xr0,iQ xc,.bool xf,.bool xg,iQ xr2,iQ xc2,.bool xf2,.bool xg2,iQ xq] 73)) _ _ at KB;have KA:=zA4 (wr.alloc (.cells #[iQ 5,sV xt0,.bool xn,iQ xd0,iQ xx,iQ xr0,iQ xc,.bool xf,.bool xg,iQ xr2,iQ xc2,.bool xf2,.bool xg2,iQ xq] 73)) [iQ xr0,iQ xc,.bool xf,.bool xg,iQ xr2,iQ xc2,.bool xf2,.bool xg2] 43;change Vec ((wr.alloc (.cells #[iQ 5,sV xt0,.bool xn,iQ xd0,iQ xx,iQ xr0,iQ xc,.bool xf,.bool xg,iQ xr2,iQ xc2,.bool xf2,.bool xg2,iQ xq] 73)).alloc (.cells #[iQ xr0,iQ xc,.bool xf,.bool xg,iQ xr2,iQ xc2,.bool xf2,.bool xg2] 43)) _ _ at KA;rw [World.size_alloc] at KA;have KC:Vec ((wr.alloc (.cells #[iQ 5,sV xt0,.bool xn,iQ xd0,iQ xx,iQ xr0,iQ xc,.bool xf,.bool xg,iQ xr2,iQ xc2,.bool xf2,.bool xg2,iQ xq] 73)).alloc (.cells #[iQ xr0,iQ xc,.bool xf,.bool xg,iQ xr2,iQ xc2,.bool xf2,.bool xg2] 43)) wr.heap.size [iQ 5,sV xt0,.bool xn,iQ xd0,iQ xx,iQ xr0,iQ xc,.bool xf,.bool xg,iQ xr2,iQ xc2,.bool xf2,.bool xg2,iQ xq]:=KB.l (x1 _ _);have k0:=(KB 0 _ rfl).1;have k5:=(KB 5 _ rfl).1;have k6:=(KB 6 _ rfl).1;have k7:=(KB 7 _ rfl).1;have k8:=(KB 8 _ rfl).1;have k9:=(KB 9 _ rfl).1;have k10:=(KB 10 _ rfl).1;have k11:=(KB 11 _ rfl).1;have k12:=(KB 12 _ rfl).1;have c0:=(KC 0 _ rfl).1;have c5:=(KC 5 _ rfl).1;have c6:=(KC 6 _ rfl).1;have c7:=(KC 7 _ rfl).1;have c8:=(KC 8 _ rfl).1;have b0:=vC8 KA;have e0:=vF8 KA;clear KB KA KC hx G0 HE HE2
     gi_wp2
     clear a0 a1 a2 a3 a4 a5 a6 a7 a8 a9 a10 a11 a12 a13 k0 k5 k6 k7 k8 k9 k10 k11 k12 c0 c5 c6 c7 c8 b0 e0;refine hR.mono ?_;rintro e W3 (⟨rfl,hJ3,hk3⟩ | ⟨rfl,hJx3⟩)
     ·gi_wp2
      go_roundw
      case rel=>exact ⟨k+1,by omega,by simp,by rw [HT.out];exact hJ3,(hnx.trans hKa).trans hk3⟩
      case measure=>simp [intOf];omega
     ·gi_wp2
      refine bodyPost_ret (results_none rfl _ _ _) rfl ?_;exact ⟨⟨_,rfl⟩,.inr ⟨_,hJx3⟩⟩
    ·have HE2:Hid (encY y=#[iQ (k:Int),arV x.r x.c x.f x.g x.r2 x.c2 x.f2 x.g2]):=by
      show _=_;rw [HE.out];unfold NT.er NT.ec NT.ef NT.eg;rw [if_neg h5,if_neg h5,if_neg h5,if_neg h5]
     have hk6:x.k=6:=(by omega);obtain ⟨xk,xt0,xn,xd0,xx,xr0,xc,xf,xg,xr2,xc2,xf2,xg2,xq⟩:=x;dsimp only at a0 a1 a2 a3 a4 a5 a6 a7 a8 a9 a10 a11 a12 a13 HE2 hk6;subst hk6;have G0:wr.grownBy ((wr.alloc (.cells #[iQ 6,sV xt0,.bool xn,iQ xd0,iQ xx,iQ xr0,iQ xc,.bool xf,.bool xg,iQ xr2,iQ xc2,.bool xf2,.bool xg2,iQ xq] 73)).alloc (.cells #[iQ xr0,iQ xc,.bool xf,.bool xg,iQ xr2,iQ xc2,.bool xf2,.bool xg2] 43)) none:=zBX (zBX (zEW _) _) _;have hKa:=zEC G0 HS.out;obtain ⟨fn,tmps,assign,body,hy,hR⟩:=HY.out _ y ((wr.alloc (.cells #[iQ 6,sV xt0,.bool xn,iQ xd0,iQ xx,iQ xr0,iQ xc,.bool xf,.bool xg,iQ xr2,iQ xc2,.bool xf2,.bool xg2,iQ xq] 73)).alloc (.cells #[iQ xr0,iQ xc,.bool xf,.bool xg,iQ xr2,iQ xc2,.bool xf2,.bool xg2] 43)) (HA.out _ _ _ hJs G0) HAL.out;rw [HE2.out] at hy;have KB:=zA4 wr [iQ 6,sV xt0,.bool xn,iQ xd0,iQ xx,iQ xr0,iQ xc,.bool xf,.bool xg,iQ xr2,iQ xc2,.bool xf2,.bool xg2,iQ xq] 73;change Vec (wr.alloc (.cells #[iQ 6,sV xt0,.bool xn,iQ xd0,iQ xx,iQ xr0,iQ xc,.bool xf,.bool xg,iQ xr2,iQ xc2,.bool xf2,.bool xg2,iQ xq] 73)) _ _ at KB;have KA:=zA4 (wr.alloc (.cells #[iQ 6,sV xt0,.bool xn,iQ xd0,iQ xx,iQ xr0,iQ xc,.bool xf,.bool xg,iQ xr2,iQ xc2,.bool xf2,.bool xg2,iQ xq] 73)) [iQ xr0,iQ xc,.bool xf,.bool xg,iQ xr2,iQ xc2,.bool xf2,.bool xg2] 43;change Vec ((wr.alloc (.cells #[iQ 6,sV xt0,.bool xn,iQ xd0,iQ xx,iQ xr0,iQ xc,.bool xf,.bool xg,iQ xr2,iQ xc2,.bool xf2,.bool xg2,iQ xq] 73)).alloc (.cells #[iQ xr0,iQ xc,.bool xf,.bool xg,iQ xr2,iQ xc2,.bool xf2,.bool xg2] 43)) _ _ at KA;rw [World.size_alloc] at KA;have KC:Vec ((wr.alloc (.cells #[iQ 6,sV xt0,.bool xn,iQ xd0,iQ xx,iQ xr0,iQ xc,.bool xf,.bool xg,iQ xr2,iQ xc2,.bool xf2,.bool xg2,iQ xq] 73)).alloc (.cells #[iQ xr0,iQ xc,.bool xf,.bool xg,iQ xr2,iQ xc2,.bool xf2,.bool xg2] 43)) wr.heap.size [iQ 6,sV xt0,.bool xn,iQ xd0,iQ xx,iQ xr0,iQ xc,.bool xf,.bool xg,iQ xr2,iQ xc2,.bool xf2,.bool xg2,iQ xq]:=KB.l (x1 _ _);have k0:=(KB 0 _ rfl).1;have k5:=(KB 5 _ rfl).1;have k6:=(KB 6 _ rfl).1;have k7:=(KB 7 _ rfl).1;have k8:=(KB 8 _ rfl).1;have k9:=(KB 9 _ rfl).1;have k10:=(KB 10 _ rfl).1;have k11:=(KB 11 _ rfl).1;have k12:=(KB 12 _ rfl).1;have c0:=(KC 0 _ rfl).1;have c5:=(KC 5 _ rfl).1;have c6:=(KC 6 _ rfl).1;have c7:=(KC 7 _ rfl).1;have c8:=(KC 8 _ rfl).1;have b0:=vC8 KA;have e0:=vF8 KA;clear KB KA KC hx G0 HE HE2
     gi_wp2
     clear a0 a1 a2 a3 a4 a5 a6 a7 a8 a9 a10 a11 a12 a13 k0 k5 k6 k7 k8 k9 k10 k11 k12 c0 c5 c6 c7 c8 b0 e0;refine hR.mono ?_;rintro e W3 (⟨rfl,hJ3,hk3⟩ | ⟨rfl,hJx3⟩)
     ·gi_wp2
      go_roundw
      case rel=>exact ⟨k+1,by omega,by simp,by rw [HT.out];exact hJ3,(hnx.trans hKa).trans hk3⟩
      case measure=>simp [intOf];omega
     ·gi_wp2
      refine bodyPost_ret (results_none rfl _ _ _) rfl ?_;exact ⟨⟨_,rfl⟩,.inr ⟨_,hJx3⟩⟩
   ·have HT:Hid (adrT f (k+1)=adrT f k):=zPS hx hk56;have h5:¬ x.k=5:=fun h=>hk56 (Or.inl h);have h6:¬ x.k=6:=fun h=>hk56 (Or.inr h);have h5b:(x.k == 5)=false:=(by simp;exact h5);have h6b:(x.k == 6)=false:=(by simp;exact h6);obtain ⟨xk,xt0,xn,xd0,xx,xr0,xc,xf,xg,xr2,xc2,xf2,xg2,xq⟩:=x;dsimp only at a0 a1 a2 a3 a4 a5 a6 a7 a8 a9 a10 a11 a12 a13 h5 h6 h5b h6b;have G0:wr.grownBy ((wr.alloc (.cells #[iQ xk,sV xt0,.bool xn,iQ xd0,iQ xx,iQ xr0,iQ xc,.bool xf,.bool xg,iQ xr2,iQ xc2,.bool xf2,.bool xg2,iQ xq] 73)).alloc (.cells #[iQ xr0,iQ xc,.bool xf,.bool xg,iQ xr2,iQ xc2,.bool xf2,.bool xg2] 43)) none:=zBX (zBX (zEW _) _) _;have hKa:=zEC G0 HS.out;have hJ2:=HA.out _ _ _ hJs G0;have KB:=zA4 wr [iQ xk,sV xt0,.bool xn,iQ xd0,iQ xx,iQ xr0,iQ xc,.bool xf,.bool xg,iQ xr2,iQ xc2,.bool xf2,.bool xg2,iQ xq] 73;change Vec (wr.alloc (.cells #[iQ xk,sV xt0,.bool xn,iQ xd0,iQ xx,iQ xr0,iQ xc,.bool xf,.bool xg,iQ xr2,iQ xc2,.bool xf2,.bool xg2,iQ xq] 73)) _ _ at KB;have KC:Vec ((wr.alloc (.cells #[iQ xk,sV xt0,.bool xn,iQ xd0,iQ xx,iQ xr0,iQ xc,.bool xf,.bool xg,iQ xr2,iQ xc2,.bool xf2,.bool xg2,iQ xq] 73)).alloc (.cells #[iQ xr0,iQ xc,.bool xf,.bool xg,iQ xr2,iQ xc2,.bool xf2,.bool xg2] 43)) wr.heap.size [iQ xk,sV xt0,.bool xn,iQ xd0,iQ xx,iQ xr0,iQ xc,.bool xf,.bool xg,iQ xr2,iQ xc2,.bool xf2,.bool xg2,iQ xq]:=KB.l (x1 _ _);have k0:=(KB 0 _ rfl).1;have k5:=(KB 5 _ rfl).1;have k6:=(KB 6 _ rfl).1;have k7:=(KB 7 _ rfl).1;have k8:=(KB 8 _ rfl).1;have k9:=(KB 9 _ rfl).1;have k10:=(KB 10 _ rfl).1;have k11:=(KB 11 _ rfl).1;have k12:=(KB 12 _ rfl).1;have c0:=(KC 0 _ rfl).1;clear KB KC hx G0 hk56
    gi_wp2
    go_roundw
    case rel=>exact ⟨k+1,by omega,by simp,by rw [HT.out];exact hJ2,hnx.trans hKa⟩
    case measure=>simp [intOf];omega
  ·have e:k=len:=by omega
   subst e
   gi_wp2
   go_end0
   exact ⟨⟨_,rfl⟩,.inl hJs⟩
theorem zKH (F:Fence) (n:Nat) (hf:F.fn 84) (hro:F.round=none) (l Bs cap:Nat) (p:Option Addr) {f:List NT} (J:List (YA f)->World->Prop) (W:World) (hBs:W.cell? ⟨Bs,0,none⟩=some (.slice p 0 cap)) (h0:J [] W) :
  CallsIn F n Tryz.prog 84 #[.func (.yield l) #[] #[],.pointer (some ⟨Bs,0,none⟩)] W fun e W'=>(∃ v,e=.returned v)/\J [] W':=by
 refine callsIn_of_wp Tryz.func84 rfl hf ?_ hro;simp only [Tryz.ntmps84,List.size_toArray,List.length_cons,List.length_nil,Nat.reduceAdd,Nat.reduceSub,Array.replicate_succ,Array.replicate_zero,List.push_toArray,List.append_toArray,List.nil_append,List.cons_append]
 gi_wp2
 gi_loopw [8] (fun i wr=>i=iQ 0/\J [] wr) (fun _ _=>0)
 case atStart=>exact ⟨rfl,h0⟩
 case round =>
  obtain ⟨rfl,hJs⟩:=hrel
  gi_wp2
  go_end0
  exact ⟨⟨_,rfl⟩,hJs⟩
theorem zMS (F:Fence) (n:Nat) (hf:F.fn 84) (hro:F.round=none) (hn:1<=n) (Bs n₀:Nat) (sv:Value) (f:List NT) (hreach:f.length<=1000) (w:World) (hBs:Bs<w.heap.size) (hn₀:n₀<=w.heap.size)
  (hc:w.cell? ⟨Bs,0,none⟩=some sv) (hI:zCW n₀ w sv f) :
  SeqStopsK F n Tryz.prog 84 #[.pointer (some ⟨Bs,0,none⟩)] (encY (f:=f)) (Below n₀) (fun ys=>ys=adrT f f.length) (fun _=>True) f.length w:=fun l J Jx W hW hJ _ hY h0=>by
 have hc':=(hW.cell (p:=⟨Bs,0,none⟩) hBs).trans hc;obtain ⟨p,cap,rfl,hcap,h3⟩:=hI.below (hW.mono hn₀);by_cases h:0<f.length
 ·obtain ⟨b,o,rfl,hb,hcs⟩:=h3 h;refine (zUU F n hf hro hn l Bs n₀ b o cap f hb J Jx hY (fun pre W W' hj hg=>hJ pre W _ none hj hg (fun r e=>by cases e)) hreach W (by have:=hW.size;omega) hc' hcs h0).mono ?_;rintro e W' ⟨he,hj | ⟨pre,hj⟩⟩
  ·exact ⟨he,.inl ⟨_,rfl,hj⟩⟩
  ·exact ⟨he,.inr ⟨_,trivial,hj⟩⟩
 ·obtain rfl:f=[]:=List.eq_nil_of_length_eq_zero (by omega);exact (zKH F n hf hro l Bs cap p J W hc' h0).mono fun e W' ⟨he,hj⟩=>⟨he,.inl ⟨_,rfl,hj⟩⟩
end Go.Proofs.YteliaeejooekbaaGreatDoor
namespace Go.Proofs.YteliaeejooekbaaGreatDoor
open Go.RowKit
theorem RowN.cellsAt {w:World} {b o:Nat} {l:List NT} (h:RowN w b o l):∀ (j:Nat) (u:Value),(l.flatMap NT.cells)[j]?=some u->w.cell? ⟨b,o+j,none⟩=some u:=fun j u hu=>by
 have hj:j<l.length * 14:=by rw [<- zB0];exact (List.getElem?_eq_some_iff.1 hu).1
 obtain ⟨e,he⟩:∃ e,l[j / 14]?=some e:=⟨_,List.getElem?_eq_getElem (by omega)⟩;have e1:j=j / 14 * 14+j % 14:=by omega
 have h2:=zFD he (j % 14) (by omega);rw [<- e1,hu] at h2;have:=h (j / 14) e he (j % 14) u h2.symm;rw [show o+j=o+j / 14 * 14+j % 14 by omega];exact this
theorem zNR {w:World} {b o:Nat} {l:List NT} (h:RowN w b o l) (n cap:Nat) (hn:l.length=n):Src Tryz.prog 14 32 (.slice (some ⟨b,o,none⟩) n cap) n (l.flatMap NT.cells) w:=
 Src.ofSlice (size:=14) w Tryz.underlying32 ⟨b,o,none⟩ n cap _ (by rw [zB0,hn]) (fun j u hj=>by rw [Addr.add_lit];exact h.cellsAt j u hj) (fun u hu=>by
  obtain ⟨x,_,hx⟩:=List.mem_flatMap.1 hu;exact zHN x u hx)
theorem zB6 {w w1 w2:World} {row:Option Nat} (x:Ext w w1) (g:w1.grownBy w2 row) (hr:∀ r,row=some r->w.heap.size<=r):Ext w w2:=
 ⟨g.os.trans x.os,g.tape.trans x.tape,g.output.trans x.output,Nat.le_trans x.size g.size,fun k hk=>(g.block k (Nat.lt_of_lt_of_le hk x.size) (fun e=>by have:=hr k e.symm;omega)).trans (x.block k hk)⟩
theorem zUR (b o n cap:Nat) (l:List NT) (w:World) (h:RowN w b o l) (hn:l.length=n) (_:n<=cap) (hl:n<=2000) :
  Calls Tryz.prog 59 #[.slice (some ⟨b,o,none⟩) n cap] w fun e w'=>∃ g c,e=.returned (.slice (some ⟨g,0,none⟩) n c)/\zBA w' w.heap.size (.slice (some ⟨g,0,none⟩) n c) l/\Ext w w':=by
 have hq:∀ W,Sem.run Tryz.prog (binOp BinOp.eql 32 (.slice (some ⟨b,o,none⟩) n cap) (.slice none 0 0)) W=.ok (.bool false) W:=fun W=>by kernel_rfl
 obtain ⟨inf,z,hi,hz,hzs,hsz,hby⟩:=zS8;have X0:=x1 w (.cells #[] 73);obtain ⟨v',w',hrun,O',GW,hb⟩:=zIC (P:=Tryz.prog) (w.alloc (.cells #[] 73)) w.heap.size 32 32 32 73 inf z Tryz.underlying32 hi hz 14 hsz hby hzs _ 0 [] (World.ownsRow_made w #[] 0 (Nat.le_refl _) (by simp) (by simp)) (.slice (some ⟨b,o,none⟩) n cap) n _ (zNR (h.l X0) n cap hn) (by omega) X0.size;have HB:∃ g,v'.ownBlock=some g:=by
  rcases hb with hb | hb
  ·exact ⟨_,hb⟩
  ·exact ⟨_,hb⟩
 obtain ⟨g,hg⟩:=HB;rw [Nat.zero_add,List.nil_append] at O';have O2:zBA w' w.heap.size v' l:=by
  show World.ownsRow _ _ _ _ _ _ _;rw [hn];exact O'
 obtain ⟨p2,c2,ev,_⟩:=zAR O2;subst ev;have hp:p2=some ⟨g,0,none⟩:=by
  rcases O2.2 with ⟨e,_⟩ | ⟨g',cap',cur,e,_⟩
  ·rw [e] at hg;cases hg
  ·cases e;cases hg;rfl
 subst hp;rw [hn] at hrun O2;have XE:=zB6 X0 GW (fun k hk=>by cases hk;exact Nat.le_refl _);have HO:Hid _:=O2;clear O' hg hb O2 GW hi hz hsz hby h;go_enter Tryz.func59,Tryz.ntmps59;go_wp2_with (at_builtin;refine Lib.wpList_append_run _ rfl _ _ _ _ rfl _ _ rfl rfl _ _ hrun ?_);go_ret;exact ⟨g,c2,rfl,HO.out,XE⟩
theorem zJF {α:Type} (f:α->List Value) (k:Nat) (hf:∀ x,(f x).length=k):∀ (l:List α) (i:Nat) (x:α),i<l.length->(l.set i x).flatMap f=(l.flatMap f).take (i * k)++f x++(l.flatMap f).drop (i * k+k)
 | y :: l,0,x,_=>by
  rw [List.set_cons_zero,List.flatMap_cons,List.flatMap_cons,Nat.zero_mul,List.take_zero,Nat.zero_add,List.nil_append,<- hf y,List.drop_left]
 | y :: l,i+1,x,h=>by
  have ih:=zJF f k hf l i x (by simpa using h);rw [List.set_cons_succ,List.flatMap_cons,List.flatMap_cons,ih];have e1:(i+1) * k=(f y).length+i * k:=by rw [hf,Nat.add_mul];omega
  have e2:(i+1) * k+k=(f y).length+(i * k+k):=by rw [hf,Nat.add_mul];omega
  rw [e2,e1,List.take_length_add_append,List.drop_length_add_append];simp only [List.append_assoc]
theorem zKV:∀ (us M:List Value) (o:Nat),o+us.length<=M.length->zM5 M o us=M.take o++us++M.drop (o+us.length)
 | [],M,o,_=>by
  rw [zM5,List.append_nil,List.length_nil,Nat.add_zero,List.take_append_drop]
 | u :: us,M,o,h=>by
  rw [List.length_cons] at h;have ih:=zKV us (M.set o u) (o+1) (by rw [List.length_set];omega);rw [zM5,ih];have e1:(M.set o u).take (o+1)=M.take o++[u]:=by
   rw [List.take_add_one,List.getElem?_set_self (by omega),List.take_set_of_le (Nat.le_refl _)];rfl
  have e2:(M.set o u).drop (o+1+us.length)=M.drop (o+(u :: us).length):=by
   rw [List.drop_set_of_lt (by omega),List.length_cons]
   congr 1
   omega
  rw [e1,e2,List.append_assoc,List.append_assoc,List.append_assoc];rfl
theorem zHI (l:List NT) (i:Nat) (x:NT) (hi:i<l.length):zM5 (l.flatMap NT.cells) (i * 14) x.cells=(l.set i x).flatMap NT.cells:=by
 have hx:x.cells.length=14:=rfl;rw [zKV _ _ _ (by rw [zB0,hx];omega),hx,zJF NT.cells 14 (fun _=>rfl) l i x hi]
theorem zMW {β:Type} (g:Nat) (F:β->List Value):Own (fun s W=>Vec W g (F s)):=fun s X Y row V hg hrow i u hu=>by
 have c:=V i u hu;have hlt:g<X.heap.size:=World.block_lt_of_cell? _ _ c.1;have hb:Y.heap[g]?=X.heap[g]?:=hg.block g hlt (fun e=>by
  obtain ⟨o,ho,hc⟩:=hrow g e.symm;have h1:=c.1;unfold World.cell? at h1;simp only [ho] at h1;cases o <;> simp_all [Obj.isCells])
 unfold World.cell? World.frozen? at *;simp only [hb];exact c
def zB2 (l:List NT) (w:World) (e:Ending) (w':World):Prop:=∃ v g,e=.returned v/\zJR w' v l.length (l.flatMap NT.cells) g/\(0<l.length->w.heap.size<=g/\g<w'.heap.size)/\Ext w w'
theorem zEQ {w:World} {g o:Nat} {us L:List Value} (V:Vec w g L) (hL:0<L.length):KeepsOthers w (w.setCells g o us):=
 KeepsOthers.of_grownBy (zAL g us o w) fun j ob ej hj=>by
  cases ej;obtain ⟨u,hu⟩:∃ u,L[0]?=some u:=⟨_,List.getElem?_eq_getElem hL⟩;have h1:=(V 0 u hu).1;unfold World.cell? at h1;simp only [hj] at h1;cases ob <;> simp_all [Obj.isCells]
theorem zC6 {n₀ g o:Nat} {w w':World} {us:List Value} (h:Below n₀ w w') (hg:n₀<=g) (hs:n₀<=w'.heap.size):Below n₀ w (w'.setCells g o us):=
 have G:=zAL g us o w'
 ⟨G.os.trans h.os,G.tape.trans h.tape,G.output.trans h.output,Nat.le_trans h.size G.size,fun k hk=>(G.block k (by omega) (fun e=>by cases e;omega)).trans (h.block k hk)⟩
section
variable {F:Fence} {n:Nat} {P:Program} {ops:Array Oper} {Q:Exit->Act->World->Prop} {md:Region.Mode}
theorem zJT (J:Array Bool->Act->World->Prop)
  (step:∀ listed a w i o,J listed a w->i ∈ Region.ready md ops listed->ops[i]?=some o->wpOpIn F n P ops Q i (fun a' w'=>J (listed.setIfInBounds i true) a' w') a w)
  (fin:∀ listed a w,Region.ready md ops listed=[]->J listed a w->Q .normal a w) :
  ∀ (fuel:Nat) (listed:Array Bool) (a:Act) (w:World),listed.toList.count false<=fuel->J listed a w->wpAnyIn F n P md ops Q fuel listed a w:=by
 intro fuel
 induction fuel with
 | zero =>
  intro listed a w hf hJ;have hr:Region.ready md ops listed=[]:=by
   cases hr:Region.ready md ops listed with
   | nil=>rfl
   | cons x xs =>
    have:=count_set (mem_ready.1 (hr ▸ List.mem_cons_self:x ∈ Region.ready md ops listed)).1;omega
  exact ⟨hr,fin listed a w hr hJ⟩
 | succ fuel ih =>
  intro listed a w hf hJ;refine ⟨fun hr=>fin listed a w hr hJ,fun i hi=>?_⟩;obtain ⟨hun,o,ho,_⟩:=mem_ready.1 hi;refine wpOpIn_mono (fun a' w' hh=>ih _ a' w' ?_ hh) (step listed a w i o hJ hi ho);have:=count_set hun;omega
theorem zGD {id:Nat} {a:Act} {w:World} (J:Array Bool->Act->World->Prop) (hm:P.follows .mixedOrders=true)
  (hJ:J (Array.replicate ops.size false) a { w with drawn:=w.drawn+1 })
  (step:∀ listed a w i o,J listed a w->i ∈ Region.ready .any ops listed->ops[i]?=some o->wpOpIn F n P ops Q i (fun a' w'=>J (listed.setIfInBounds i true) a' w') a w)
  (fin:∀ listed a w,Region.ready .any ops listed=[]->J listed a w->Q .normal a w):(Code.region id ops true).wpIn F n P Q a w:=
 wpIn_region_any hm (zJT J step fin ops.size _ a _ (by simp) hJ)
theorem zHW {i:Nat} {o:Oper} {K:Act->World->Prop} {a:Act} {w:World} (ho:ops[i]?=some o) (hg:o.guard=none)
  (h:wpListIn F n P #[o] (Exit.then K Q) [o] a w):wpOpIn F n P ops Q i K a w:=by
 unfold wpOpIn;simp only [ho,Region.wanted,hg,if_true];simp only [wpListIn,Region.wanted,hg,if_true] at h;unfold Oper.wpIn at *;refine ⟨h.1,?_⟩;have h:=h.2;generalize (o.semAt F.round a.eval).run P w=r at *;cases r with
 | ok x w' =>
  cases x <;> simp only [Oper.uponIn] at h ⊢ <;>
   first
    | exact h
    | exact ⟨h.1,CallsIn.mono h.2 (fun e w'' he=>by cases e <;> exact he)⟩
    | exact ⟨h.1,RoundIn.mono h.2 (fun e w'' he=>by cases e <;> exact he)⟩
 | halt x w'=>cases x <;> simp only [Oper.uponIn] at h ⊢ <;> exact h
theorem zET {X:Type} {id:Nat} {a:Act} {w:World} (Fr:X->Act) (I:(Nat->Bool)->X->World->Prop) (hm:P.follows .mixedOrders=true) (hc:rhOk .any ops=true) (hgd:(List.range ops.size).all (fun i=>(ops[i]?.map fun o=>o.guard.isNone).getD true)=true)
  (x0:X) (h0:a=Fr x0) (hI:I (fun _=>false) x0 { w with drawn:=w.drawn+1 })
  (step:∀ L x w i o (K:Act->World->Prop),(∀ x' w',I (fun j=>if j=i then true else L j) x' w'->K (Fr x') w')->ops[i]?=some o->L i=false->(∀ e ∈ o.after,Region.binds .any e=true->L e.on=true)->I L x w->zDX ops L ->
   wpListIn F n P #[o] (Exit.then K Q) [o] (Fr x) w)
  (fin:∀ L x w,(∀ j,j<ops.size->L j=true)->I L x w->Q .normal (Fr x) w):(Code.region id ops true).wpIn F n P Q a w:=by
 have hgs:∀ (i:Nat) (o:Oper),ops[i]?=some o->o.guard=none:=fun i o hi=>by
  have hlt:i<ops.size:=by
   rcases Nat.lt_or_ge i ops.size with h' | h'
   ·exact h'
   ·rw [Array.getElem?_eq_none h'] at hi;cases hi
  have:=(List.all_eq_true.1 hgd) i (List.mem_range.2 hlt);rw [hi] at this;simpa using this
 refine zGD (fun listed a w=>listed.size=ops.size/\∃ x,a=Fr x/\I (fun j=>listed.getD j false) x w/\zDX ops (fun j=>listed.getD j false)) hm ?_ ?_ ?_
 ·have e:(fun j=>(Array.replicate ops.size false).getD j false)=fun _=>false:=by
   funext j
   rw [Array.getD_eq_getD_getElem?]
   rcases Nat.lt_or_ge j ops.size with h' | h'
   ·rw [Array.getElem?_eq_getElem (by simpa using h')];simp
   ·rw [Array.getElem?_eq_none (by simpa using h')];simp
  refine ⟨by simp,x0,h0,?_,?_⟩
  ·rw [e];exact hI
  ·rw [e];exact fun i o _ h=>by cases h
 ·rintro listed a w i o ⟨hs,x,rfl,hx,hcl⟩ hi ho;obtain ⟨hun,o',ho',hall⟩:=mem_ready.1 hi;have:o'=o:=by rw [ho] at ho';exact (Option.some.inj ho').symm
  subst this;have hlt:i<listed.size:=by
   rcases Nat.lt_or_ge i listed.size with h' | h'
   ·exact h'
   ·rw [Array.getD_eq_getD_getElem?,Array.getElem?_eq_none h'] at hun;cases hun
  have hun':listed.getD i false=false:=by
   rw [Array.getD_eq_getD_getElem?,Array.getElem?_eq_getElem hlt] at hun ⊢;exact hun
  refine wpOpIn_mono ?_ (zHW ho (hgs i o' ho) (step _ x w i o' (fun a' w'=>∃ x',a'=Fr x'/\I (fun j=>if j=i then true else listed.getD j false) x' w') (fun x' w' h=>⟨x',rfl,h⟩) ho hun' hall hx hcl));rintro a' w' ⟨x',rfl,hx'⟩;have e:(fun j=>(listed.setIfInBounds i true).getD j false)=fun j=>if j=i then true else listed.getD j false:=by
   funext j
   by_cases hj:j=i
   ·subst hj;rw [if_pos rfl,Array.getD_eq_getD_getElem?,Array.getElem?_setIfInBounds_self_of_lt hlt];rfl
   ·rw [if_neg hj,getD_set_ne false (fun e=>hj e.symm)]
  refine ⟨by simp [hs],x',rfl,?_,?_⟩
  ·rw [e];exact hx'
  ·rw [e];intro j oj hj hLj e2 he hb;show (if e2.on=i then true else listed.getD e2.on false)=true
   split
   ·rfl
   ·by_cases hji:j=i
    ·subst hji;rw [ho] at hj;cases hj;exact hall e2 he hb
    ·have:listed.getD j false=true:=(by simpa [hji] using hLj);exact hcl j oj hj this e2 he hb
 ·rintro listed a w hr ⟨hs,x,rfl,hx,_⟩;exact fin _ x w (zFW hc hs hr) hx
theorem zDB {rest:List Oper} {op:Oper} {a:Act} {w:World} (hgd:op.guard=none) (ty:TypeId) (x:Operand) (ho:op.op=.load ty x)
  (b o:Nat) (hx:a.eval x=.pointer (some ⟨b,o,none⟩)) (cs:List Value) (d:TypeDesc) (hc:w.rangeAt b o cs)
  (hu:P.underlying ty=some d) (hd:d.isRow=true) (hi:(P.info? ty).map (·.size)=some cs.length)
  (h:wpListIn F n P ops Q rest (a.put op.dst (.agg cs.toArray)) w):wpListIn F n P ops Q (op :: rest) a w:=by
 refine wpListIn_plain hgd fun K hK=>?_;unfold Oper.wpIn;refine ⟨by simp [Oper.about,ho],?_⟩;rw [Oper.semAt_plain F _ _ (by rw [ho];intro c hc';cases hc')];unfold execOp;simp only [ho,hx,Instr.loadAt,Instr.sureAddr,Sem.run_bind,Sem.run_pure,Result.andThen_ok,run_loadVar_mid w b o ty cs d hc hu hd hi];exact hK _ _ h
theorem zD4 {rest:List Oper} {op:Oper} {a:Act} {w:World} (hgd:op.guard=none) (ty:TypeId) (x y:Operand) (ho:op.op=.store ty x y)
  (b o:Nat) (cells:Array Value) (hx:a.eval x=.pointer (some ⟨b,o,none⟩)) (hy:a.eval y=.agg cells)
  (ht:w.there b o cells.size) (hi:(P.info? ty).map (·.size)=some cells.size) (h1:cells.all (·.oneCell')=true)
  (h:wpListIn F n P ops Q rest (a.put op.dst undef) (w.setCells b o cells.toList)):wpListIn F n P ops Q (op :: rest) a w:=by
 refine wpListIn_plain hgd fun K hK=>?_;unfold Oper.wpIn;refine ⟨by simp [Oper.about,ho],?_⟩;rw [Oper.semAt_plain F _ _ (by rw [ho];intro c hc';cases hc')];unfold execOp;simp only [ho,hx,hy,Instr.storeAt,Instr.sureAddr,Sem.run_bind,Sem.run_pure,Result.andThen_ok,run_storeVar_mid w b o ty cells ht hi h1];exact hK _ _ h
end
end Go.Proofs.YteliaeejooekbaaGreatDoor
