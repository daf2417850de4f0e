import Derived.Test.YteliaeejooekbaaGreatDoorMg47
import Derived.Test.YteliaeejooekbaaGreatDoorMg45
import Derived.Test.YteliaeejooekbaaGreatDoorMg12
import Derived.Test.YteliaeejooekbaaGreatDoorMg15
import Derived.Test.YteliaeejooekbaaGreatDoorMg13
import Derived.Test.YteliaeejooekbaaGreatDoorMg11
import Derived.Test.YteliaeejooekbaaGreatDoorMg34
import Derived.Test.YteliaeejooekbaaGreatDoorMg37
import Derived.Test.YteliaeejooekbaaGreatDoorMg38
import Derived.Test.YteliaeejooekbaaGreatDoorMg39
import Derived.Test.YteliaeejooekbaaGreatDoorGs8
import Derived.Test.YteliaeejooekbaaGreatDoorMg1
import Derived.Test.YteliaeejooekbaaGreatDoorMg16
set_option maxRecDepth 8000
set_option maxHeartbeats 16000000
namespace Go.Proofs.YteliaeejooekbaaGreatDoor
open Go.RowKit
theorem zVT (D:Int) (hD:0<=D/\D<=3) (b base K:Nat) (w:World) (h:Cur w b base K) (hK:K<=500000) :
  Calls Tryz.prog 57 #[.pointer (some ⟨b,0,none⟩),iQ D] w fun e w'=>zAF 800 b base (K+20000) w e w':=by
 have T0:=fun b base K w h hK=>zFS 0 (-1) 0 20 0 800000 900000 (by omega) (by decide) (by omega) (by omega) (fun h=>absurd rfl h) b base K w h hK;have T1:=fun b base K w h hK=>zFS 1 0 20 80 500 700000 800000 (by omega) (by decide) (by omega) (by omega) (fun _=>T0) b base K w h hK;have T2:=fun b base K w h hK=>zFS 2 1 80 260 2000 600000 700000 (by omega) (by decide) (by omega) (by omega) (fun _=>T1) b base K w h hK;have T3:=fun b base K w h hK=>zFS 3 2 260 800 6500 500000 600000 (by omega) (by decide) (by omega) (by omega) (fun _=>T2) b base K w h hK;obtain rfl | rfl | rfl | rfl:D=0\/D=1\/D=2\/D=3:=by omega
 ·exact (T0 b base K w h (by omega)).mono fun e w' h=>h.more (by omega) (by omega)
 ·exact (T1 b base K w h (by omega)).mono fun e w' h=>h.more (by omega) (by omega)
 ·exact (T2 b base K w h (by omega)).mono fun e w' h=>h.more (by omega) (by omega)
 ·exact (T3 b base K w h (by omega)).mono fun e w' h=>h.more (by omega) (by omega)
def zLA (b base K:Nat) (w:World) (e:Ending) (w':World):Prop:=
 (∃ (q:Option Addr) (c:Nat) (f:List NT),e=.returned (.slice q f.length c)/\FitL 800 f/\zBI w' w.heap.size (.slice q f.length c) f)/\Cur w' b base K/\Only b w w'
theorem formC (b base K:Nat) (w:World) (h:Cur w b base K) (hK:K<=400000) :
  Calls Tryz.prog 34 #[.pointer (some ⟨b,0,none⟩)] w fun e w'=>zLA b base (K+20010) w e w':=by
 go_enter Tryz.func34,Tryz.ntmps34;go_wp2_with fail;refine (zB1 b base K 3 _ h (by omega) (by omega) (by omega)).mono ?_;rintro e w1 ⟨y,rfl,⟨y0,y9⟩,C1,o1⟩;have hs1:=o1.size;go_wp2_with fail;refine (zVT (1+y) ⟨by omega,by omega⟩ b base _ w1 C1 (by omega)).mono ?_;rintro e w2 ⟨⟨x,ks,s,rfl,hf,hk⟩,C2,o2⟩;obtain ⟨p,cap,rfl,_⟩:=hk.slice;have P:=zU8 (zBC (.mk x ks)).length x ks p cap (fun k=>w1.heap.size<=k/\k<w2.heap.size) none 0 [] w.heap.size w2 (Nat.le_refl _) (zIF _ _) (Nat.le_trans hs1 o2.size) hk (fun k hk=>⟨hk.2,fun e=>by cases e⟩) (by have:=hf.2;rw [List.length_nil];omega);go_wp2_with fail;refine P.mono ?_;rintro e w3 ⟨q,c,rfl,O3,G3,_⟩;have X3:Ext w2 w3:=⟨G3.os,G3.tape,G3.output,G3.size,fun k hk=>G3.block k hk (fun e=>by cases e)⟩;rw [List.nil_append] at O3 ⊢;have HF:Hid (zLA b base (K+20010) w (.returned (.slice q (zBC (.mk x ks)).length c)) w3):=
  ⟨⟨q,c,_,rfl,hf,O3⟩,(C2.ext X3).more (by omega),(o1.trans o2).trans (Only.of_ext X3)⟩
 clear hf hk O3 G3 X3 P C1 C2 o1 o2 h;go_wp2_with fail;go_ret;exact HF.out
def oddL:List (List UInt8):=[[],[82,49,67,49],[65,49],[116,114,117,101],[115,117,109],[50]]
theorem zSI:∀ t ∈ oddL,t.length<=100:=by decide +kernel
theorem zGK {m i:Nat} {f:List NT} {x':NT} (h:FitL m f) (hx:x'.fits):FitL m (f.set i x'):=
 ⟨fun y hy=>(List.mem_or_eq_of_mem_set hy).elim (h.1 y) (fun e=>by rw [e];exact hx),by rw [List.length_set];exact h.2⟩
theorem Only.setG {b g j:Nat} {a w:World} (h:Only b a w) (hg:a.heap.size<=g) (u:Value):Only b a (w.setCell ⟨g,j,none⟩ u):=h.setNew hg u
def zD3 (a w:World) (b base K:Nat) (r:Option Nat) (e:Ending) (w':World):Prop:=
 (∃ (q:Option Addr) (c:Nat) (f:List NT),e=.returned (.slice q f.length c)/\zAT w' (.slice q f.length c) f/\FitL 900 f/\(0<f.length->∃ g,q=some ⟨g,0,none⟩/\r=some g))/\Cur w' b base K/\Only b a w'/\∀ k,k ≠ b->some k ≠ r->k<w.heap.size->w'.heap[k]?=w.heap[k]?
theorem zW1 (b base K:Nat) (a w:World) (q:Option Addr) (c:Nat) (f:List NT) (h:Cur w b base K) (hK:K<=900000) (O:Only b a w) (hbk:∀ r,(Value.slice q f.length c).ownBlock=some r->r ≠ b/\base<=r) (R:zBI w a.heap.size (.slice q f.length c) f) (hf:FitL 900 f) :
  Calls Tryz.prog 33 #[.pointer (some ⟨b,0,none⟩),.slice q f.length c] w fun e w'=>(zD3 a w b base (K+400) (Value.slice q f.length c).ownBlock e w'):=by
 by_cases hz:f=[]
 ·subst hz;go_enter Tryz.func33,Tryz.ntmps33;go_wp2_with fail;refine (oneC b base K 12 _ h (by omega) (by omega) (by omega)).mono ?_;rintro e w1 ⟨t,rfl,C1,o1⟩;have PO:Hid (zD3 a w b base (K+400) (Value.slice q ([]:List NT).length c).ownBlock (.returned (.slice q ([]:List NT).length c)) w1):=⟨⟨q,c,[],rfl,⟨q,c,rfl,Nat.zero_le _,fun h=>absurd h (by simp)⟩,hf,fun h=>absurd h (by simp)⟩,C1.more (by omega),O.trans o1,fun k h1 _ h3=>o1.block k h1 h3⟩;clear C1 o1 O R hf h;cases t
  ·go_wp2_with fail;go_ret;exact PO.out
  ·go_wp2_with fail;go_ret;exact PO.out
 ·obtain ⟨g,c',hv,hcc,N,hg,hgl⟩:=zSB R hz;obtain ⟨rfl,-,rfl⟩:=Value.slice.inj hv;have hp:0<f.length:=List.length_pos_iff.2 hz;have hfn:=hf.2;obtain ⟨n,hn⟩:=nm (f.length);have HN:Hid _:=hn;rw [hn] at hp hfn hcc ⊢;obtain ⟨hgb,hbg⟩:=hbk g (by simp [Value.ownBlock]);show Calls _ _ _ _ fun e w'=>zD3 a w b base (K+400) (some g) e w';clear hv R hz hn hbk;go_enter Tryz.func33,Tryz.ntmps33;go_wp2_with fail;refine (oneC b base K 12 _ h (by omega) (by omega) (by omega)).mono ?_;rintro e w1 ⟨t,rfl,C1,o1⟩;have N:=N.only o1 hgb;have O:=O.trans o1;have U:=o1;have g1:g<w1.heap.size:=Nat.lt_of_lt_of_le hgl o1.size;have n0:((n:Int) == 0)=false:=by simp;omega
  clear o1 h hgl;cases t
  ·have PO:Hid (zD3 a w b base (K+400) (some g) (Ending.returned (.slice (some ⟨g,0,none⟩) n c)) w1):=⟨⟨_,c,f,by rw [HN.out],by rw [HN.out];exact N.nodesC HN.out hcc,hf,fun _=>⟨g,rfl,rfl⟩⟩,C1.more (by omega),O,fun k h1 _ h3=>U.block k h1 h3⟩;clear C1 O N;go_wp2_with fail;go_ret;exact PO.out
  ·go_wp2_with fail;refine (zVY b base _ n _ C1 (by omega) hp (by omega)).mono ?_;rintro e w2 ⟨i,rfl,hi,C1,o1⟩;have N:=N.only o1 hgb;have O:=O.trans o1;have U:=U.trans o1;have g1:g<w2.heap.size:=Nat.lt_of_lt_of_le g1 o1.size;have i0:(i:Int)<(n:Int):=by omega
   clear o1;go_wp2_with fail;refine (zB1 b base _ 6 _ C1 (by omega) (by omega) (by omega)).mono ?_;rintro e w3 ⟨y,rfl,⟨y0,y9⟩,C1,o1⟩;have N:=N.only o1 hgb;have O:=O.trans o1;have U:=U.trans o1;have g1:g<w3.heap.size:=Nat.lt_of_lt_of_le g1 o1.size;clear o1;obtain ⟨x,hx⟩:∃ x,f[i]?=some x:=⟨_,List.getElem?_eq_getElem (by rw [HN.out];exact hi)⟩;have hxf:x.fits:=hf.1 x (List.mem_of_getElem? hx);by_cases y0a:y=0
   ·subst y0a;clear y0 y9;obtain ⟨c13,f13⟩:=N i x hx 13 _ rfl;go_upto_region 7 with fail;go_region_with (refine (zB1 b base _ 3 _ (by first | exact C1 | exact C1.drewN _) (by omega) (by omega) (by omega)).mono ?_;rintro e w5 ⟨z,rfl,⟨z0,z9⟩,C5,o5⟩;have o5:Only b w3 w5:=⟨o5.os,o5.tape,o5.output,o5.size,o5.block⟩;have N:=N.only o5 hgb;have O:=O.trans o5;have U:=U.trans o5;obtain ⟨c13,f13⟩:=N i x hx 13 _ rfl)
    all_goals
     have C1:=C5;obtain ⟨c0,f0⟩:=N i x hx 13 _ rfl;have N2:=N.setN (x':=(⟨x.k,x.t,x.n,x.d,x.x,x.r,x.c,x.f,x.g,x.r2,x.c2,x.f2,x.g2,(IntKind.i64.wrap (x.q+IntKind.i64.wrap (z - 1)))⟩:NT)) (u:=iQ (IntKind.i64.wrap (x.q+IntKind.i64.wrap (z - 1)))) hx rfl (by decide:13<14);have C2:=C1.far (g:=g) (i:=i * 14+13) (fun e=>hgb e.symm) hbg (iQ (IntKind.i64.wrap (x.q+IntKind.i64.wrap (z - 1))));have O2:=O.setG (g:=g) (j:=i * 14+13) hg (iQ (IntKind.i64.wrap (x.q+IntKind.i64.wrap (z - 1))));have KZ:∀ k,k ≠ g->(w5.setCell ⟨g,i * 14+13,none⟩ (iQ (IntKind.i64.wrap (x.q+IntKind.i64.wrap (z - 1))))).heap[k]?=w5.heap[k]?:=fun k hk=>Below.heap_setCell _ _ _ _ hk;obtain ⟨wz,hwz⟩:=nm (w5.setCell ⟨g,i * 14+13,none⟩ (iQ (IntKind.i64.wrap (x.q+IntKind.i64.wrap (z - 1)))));have HZ:Hid _:=hwz;rw [hwz] at N2 C2 O2 KZ;have PO:Hid (zD3 a w b base (K+400) (some g) (Ending.returned (.slice (some ⟨g,0,none⟩) n c)) wz):=⟨⟨_,c,f.set i (⟨x.k,x.t,x.n,x.d,x.x,x.r,x.c,x.f,x.g,x.r2,x.c2,x.f2,x.g2,(IntKind.i64.wrap (x.q+IntKind.i64.wrap (z - 1)))⟩:NT),by rw [List.length_set,HN.out],by rw [List.length_set,HN.out];exact N2.nodesC (by rw [List.length_set,HN.out]) hcc,zGK hf (hxf),fun _=>⟨g,rfl,rfl⟩⟩,C2.more (by omega),O2,fun k h1 h2 h3=>(KZ k (fun e=>h2 (by rw [e]))).trans (U.block k h1 h3)⟩;clear N N2 C1 C2 O O2 U KZ hwz hf hxf hx;rw [HZ.out];go_wp2_with fail;go_ret;exact PO.out
   have e0:(y == 0)=false:=by simpa using y0a
   by_cases y1a:y=1
   ·subst y1a;clear y0 y9;go_wp2_with fail;refine (zB1 b base _ 15 _ C1 (by omega) (by omega) (by omega)).mono ?_;rintro e w5 ⟨z,rfl,⟨z0,z9⟩,C1,o5⟩;have N:=N.only o5 hgb;have O:=O.trans o5;have U:=U.trans o5;clear o5;obtain ⟨c0,f0⟩:=N i x hx 0 _ rfl;have N2:=N.setN (x':=(⟨z,x.t,x.n,x.d,x.x,x.r,x.c,x.f,x.g,x.r2,x.c2,x.f2,x.g2,x.q⟩:NT)) (u:=iQ z) hx rfl (by decide:0<14);have C2:=C1.far (g:=g) (i:=i * 14+0) (fun e=>hgb e.symm) hbg (iQ z);have O2:=O.setG (g:=g) (j:=i * 14+0) hg (iQ z);rw [Nat.add_zero] at c0 f0 N2 C2 O2;have KZ:∀ k,k ≠ g->(w5.setCell ⟨g,i * 14,none⟩ (iQ z)).heap[k]?=w5.heap[k]?:=fun k hk=>Below.heap_setCell _ _ _ _ hk;obtain ⟨wz,hwz⟩:=nm (w5.setCell ⟨g,i * 14,none⟩ (iQ z));have HZ:Hid _:=hwz;rw [hwz] at N2 C2 O2 KZ;have PO:Hid (zD3 a w b base (K+400) (some g) (Ending.returned (.slice (some ⟨g,0,none⟩) n c)) wz):=⟨⟨_,c,f.set i (⟨z,x.t,x.n,x.d,x.x,x.r,x.c,x.f,x.g,x.r2,x.c2,x.f2,x.g2,x.q⟩:NT),by rw [List.length_set,HN.out],by rw [List.length_set,HN.out];exact N2.nodesC (by rw [List.length_set,HN.out]) hcc,zGK hf (hxf),fun _=>⟨g,rfl,rfl⟩⟩,C2.more (by omega),O2,fun k h1 h2 h3=>(KZ k (fun e=>h2 (by rw [e]))).trans (U.block k h1 h3)⟩;clear N N2 C1 C2 O O2 U KZ hwz hf hxf hx;go_wp2_with fail;rw [HZ.out];go_wp2_with fail;go_ret;exact PO.out
   have e1:(y == 1)=false:=by simpa using y1a
   by_cases y2a:y=2
   ·subst y2a;clear y0 y9;have E:=x1 w3 (.cells (oddL.map sV).toArray 9);have VS:=zA5 w3 (oddL.map sV) 9;have b3:=C1.lt;have C1:=C1.ext E;have N:=N.l E;have O:=O.trans (Only.of_ext E);have U:=U.trans (Only.of_ext E);obtain ⟨ws,hs⟩:=nm (w3.alloc (.cells (oddL.map sV).toArray 9));rw [hs] at C1 O VS N U;simp only [oddL,List.map,sV] at hs;have HS:Hid _:=hs;clear E hs;go_wp2_with (rw [HS.out]);refine (zB1 b base _ 6 _ C1 (by omega) (by omega) (by omega)).mono ?_;rintro e w5 ⟨u,rfl,⟨u0,u9⟩,C1,o5⟩;have VS:=o5.vecC (by omega) VS;have N:=N.only o5 hgb;have O:=O.trans o5;have U:=U.trans o5;clear HS o5;obtain ⟨u,rfl⟩:∃ z:Nat,u=(z:Int):=⟨u.toNat,by omega⟩;obtain ⟨t,ht,tl⟩:=zG5 (l:=oddL) (u:=u) (by show u<6;omega) zSI;have cu:=(VS u _ ht).1;clear VS ht;have j0:(u:Int)<6:=(by omega);obtain ⟨c0,f0⟩:=N i x hx 1 _ rfl;have N2:=N.setN (x':=(⟨x.k,t,x.n,x.d,x.x,x.r,x.c,x.f,x.g,x.r2,x.c2,x.f2,x.g2,x.q⟩:NT)) (u:=sV t) hx rfl (by decide:1<14);have C2:=C1.far (g:=g) (i:=i * 14+1) (fun e=>hgb e.symm) hbg (sV t);have O2:=O.setG (g:=g) (j:=i * 14+1) hg (sV t);have KZ:∀ k,k ≠ g->(w5.setCell ⟨g,i * 14+1,none⟩ (sV t)).heap[k]?=w5.heap[k]?:=fun k hk=>Below.heap_setCell _ _ _ _ hk;obtain ⟨wz,hwz⟩:=nm (w5.setCell ⟨g,i * 14+1,none⟩ (sV t));have HZ:Hid _:=hwz;rw [hwz] at N2 C2 O2 KZ;have PO:Hid (zD3 a w b base (K+400) (some g) (Ending.returned (.slice (some ⟨g,0,none⟩) n c)) wz):=⟨⟨_,c,f.set i (⟨x.k,t,x.n,x.d,x.x,x.r,x.c,x.f,x.g,x.r2,x.c2,x.f2,x.g2,x.q⟩:NT),by rw [List.length_set,HN.out],by rw [List.length_set,HN.out];exact N2.nodesC (by rw [List.length_set,HN.out]) hcc,zGK hf (⟨by show t.length<=_;omega,hxf.2⟩),fun _=>⟨g,rfl,rfl⟩⟩,C2.more (by omega),O2,fun k h1 h2 h3=>(KZ k (fun e=>h2 (by rw [e]))).trans (U.block k h1 h3)⟩;clear N N2 C1 C2 O O2 U KZ hwz hf hxf hx;go_wp2_with fail;rw [HZ.out];go_wp2_with fail;go_ret;exact PO.out
   have e2:(y == 2)=false:=by simpa using y2a
   by_cases y3a:y=3
   ·subst y3a;clear y0 y9;go_wp2_with fail;refine (refC b base _ _ C1 (by omega)).mono ?_;rintro e w5 ⟨r1,s1,p1,p2,K1,rfl,_,_,hK1,C1,o5⟩;have N:=N.only o5 hgb;have O:=O.trans o5;have U:=U.trans o5;clear o5;go_wp2_with fail;refine (oddC b base _ _ _ _ _ _ C1 (by omega)).mono ?_;rintro e w6 ⟨r2,s2,p3,p4,K2,rfl,hK2,C1,o5⟩;have N:=N.only o5 hgb;have O:=O.trans o5;have U:=U.trans o5;clear o5;go_wp2_with fail;refine (oddC b base _ _ _ _ _ _ C1 (by omega)).mono ?_;rintro e w7 ⟨r3,s3,p5,p6,K3,rfl,hK3,C1,o5⟩;have N:=N.only o5 hgb;have O:=O.trans o5;have U:=U.trans o5;clear o5;obtain ⟨c5,f5⟩:=N i x hx 5 _ rfl;obtain ⟨c6,f6⟩:=N i x hx 6 _ rfl;obtain ⟨c7,f7⟩:=N i x hx 7 _ rfl;obtain ⟨c8,f8⟩:=N i x hx 8 _ rfl;have hil:i<f.length:=(List.getElem?_eq_some_iff.1 hx).1;have N2:=(((N.setN (x':=(⟨x.k,x.t,x.n,x.d,x.x,r3,x.c,x.f,x.g,x.r2,x.c2,x.f2,x.g2,x.q⟩:NT)) (u:=iQ r3) hx rfl (by decide:5<14)).setN (x':=(⟨x.k,x.t,x.n,x.d,x.x,r3,s3,x.f,x.g,x.r2,x.c2,x.f2,x.g2,x.q⟩:NT)) (u:=iQ s3) (List.getElem?_set_self hil) rfl (by decide:6<14)).setN (x':=(⟨x.k,x.t,x.n,x.d,x.x,r3,s3,p5,x.g,x.r2,x.c2,x.f2,x.g2,x.q⟩:NT)) (u:=.bool p5) (List.getElem?_set_self (by simpa using hil)) rfl (by decide:7<14)).setN (x':=(⟨x.k,x.t,x.n,x.d,x.x,r3,s3,p5,p6,x.r2,x.c2,x.f2,x.g2,x.q⟩:NT)) (u:=.bool p6) (List.getElem?_set_self (by simpa using hil)) rfl (by decide:8<14);rw [List.set_set,List.set_set,List.set_set] at N2;have C2:=(((C1.far (g:=g) (i:=i * 14+5) (fun e=>hgb e.symm) hbg (iQ r3)).far (g:=g) (i:=i * 14+6) (fun e=>hgb e.symm) hbg (iQ s3)).far (g:=g) (i:=i * 14+7) (fun e=>hgb e.symm) hbg (.bool p5)).far (g:=g) (i:=i * 14+8) (fun e=>hgb e.symm) hbg (.bool p6);have O2:=(((O.setG (g:=g) (j:=i * 14+5) hg (iQ r3)).setG (g:=g) (j:=i * 14+6) hg (iQ s3)).setG (g:=g) (j:=i * 14+7) hg (.bool p5)).setG (g:=g) (j:=i * 14+8) hg (.bool p6);have KZ:∀ k,k ≠ g->((((w7.setCell ⟨g,i * 14+5,none⟩ (iQ r3)).setCell ⟨g,i * 14+6,none⟩ (iQ s3)).setCell ⟨g,i * 14+7,none⟩ (.bool p5)).setCell ⟨g,i * 14+8,none⟩ (.bool p6)).heap[k]?=w7.heap[k]?:=fun k hk=>(Below.heap_setCell _ _ _ _ hk).trans ((Below.heap_setCell _ _ _ _ hk).trans ((Below.heap_setCell _ _ _ _ hk).trans (Below.heap_setCell _ _ _ _ hk)));obtain ⟨wz,hwz⟩:=nm ((((w7.setCell ⟨g,i * 14+5,none⟩ (iQ r3)).setCell ⟨g,i * 14+6,none⟩ (iQ s3)).setCell ⟨g,i * 14+7,none⟩ (.bool p5)).setCell ⟨g,i * 14+8,none⟩ (.bool p6));have HZ:Hid _:=hwz;rw [hwz] at N2 C2 O2 KZ;have PO:Hid (zD3 a w b base (K+400) (some g) (Ending.returned (.slice (some ⟨g,0,none⟩) n c)) wz):=⟨⟨_,c,f.set i (⟨x.k,x.t,x.n,x.d,x.x,r3,s3,p5,p6,x.r2,x.c2,x.f2,x.g2,x.q⟩:NT),by rw [List.length_set,HN.out],by rw [List.length_set,HN.out];exact N2.nodesC (by rw [List.length_set,HN.out]) hcc,zGK hf hxf,fun _=>⟨g,rfl,rfl⟩⟩,C2.more (by omega),O2,fun k h1 h2 h3=>(KZ k (fun e=>h2 (by rw [e]))).trans (U.block k h1 h3)⟩;clear N N2 C1 C2 O O2 U KZ hwz hf hxf hx;go_wp2_with fail;rw [HZ.out];go_wp2_with fail;go_ret;exact PO.out
   have e3:(y == 3)=false:=by simpa using y3a
   by_cases y4a:y=4
   ·subst y4a;clear y0 y9;have PO:Hid (zD3 a w b base (K+400) (some g) (Ending.returned (.slice (some ⟨g,0,none⟩) (n - 1) c)) w3):=by
     have hl:(f.take (n - 1)).length=n - 1:=(by rw [List.length_take,HN.out];omega);refine ⟨⟨some ⟨g,0,none⟩,c,f.take (n - 1),by rw [hl],?_,⟨fun z hz=>hf.1 z (List.mem_of_mem_take hz),by rw [hl];omega⟩,fun _=>⟨g,rfl,rfl⟩⟩,C1.more (by omega),O,fun k h1 _ h3=>U.block k h1 h3⟩;rw [hl];have N2:OwnN w3 g (f.take (n - 1)):=fun j e hj=>N j e (by rw [List.getElem?_take] at hj;split at hj;exact hj;cases hj);exact N2.nodesC hl (by omega)
    have j1:(n:Int) - 1=((n - 1:Nat):Int):=(by omega);have j2:IntKind.i64.wrap ((n:Int) - 1)=((n - 1:Nat):Int):=(by rw [IntKind.wrap_i64];omega);have j3:n - 1<=c:=(by omega);obtain ⟨m,hm⟩:=nm (n - 1);rw [hm] at j1 j2 j3 PO;clear N C1 O U hf hxf hx j1;go_wp2_with fail;go_ret;exact PO.out
   have e4:(y == 4)=false:=by simpa using y4a
   obtain ⟨c0,f0⟩:=N i x hx 2 _ rfl;have N2:=N.setN (x':=(⟨x.k,x.t,true,x.d,x.x,x.r,x.c,x.f,x.g,x.r2,x.c2,x.f2,x.g2,x.q⟩:NT)) (u:=.bool true) hx rfl (by decide:2<14);have C2:=C1.far (g:=g) (i:=i * 14+2) (fun e=>hgb e.symm) hbg (.bool true);have O2:=O.setG (g:=g) (j:=i * 14+2) hg (.bool true);have KZ:∀ k,k ≠ g->(w3.setCell ⟨g,i * 14+2,none⟩ (.bool true)).heap[k]?=w3.heap[k]?:=fun k hk=>Below.heap_setCell _ _ _ _ hk;obtain ⟨wz,hwz⟩:=nm (w3.setCell ⟨g,i * 14+2,none⟩ (.bool true));have HZ:Hid _:=hwz;rw [hwz] at N2 C2 O2 KZ;have PO:Hid (zD3 a w b base (K+400) (some g) (Ending.returned (.slice (some ⟨g,0,none⟩) n c)) wz):=⟨⟨_,c,f.set i (⟨x.k,x.t,true,x.d,x.x,x.r,x.c,x.f,x.g,x.r2,x.c2,x.f2,x.g2,x.q⟩:NT),by rw [List.length_set,HN.out],by rw [List.length_set,HN.out];exact N2.nodesC (by rw [List.length_set,HN.out]) hcc,zGK hf (hxf),fun _=>⟨g,rfl,rfl⟩⟩,C2.more (by omega),O2,fun k h1 h2 h3=>(KZ k (fun e=>h2 (by rw [e]))).trans (U.block k h1 h3)⟩;clear N N2 C1 C2 O O2 U KZ hwz hf hxf hx;go_wp2_with fail;rw [HZ.out];go_wp2_with fail;go_ret;exact PO.out
theorem zFB {w w':World} {b c:Nat} {q:Option Addr} {fl:List NT} (h:zAT w (.slice q fl.length c) fl) (hq:0<fl.length->∃ g0,q=some ⟨g0,0,none⟩/\g0 ≠ b) (o:Only b w w'):zAT w' (.slice q fl.length c) fl:=by
 obtain ⟨p,cap,h1,h2,h3⟩:=h;refine ⟨p,cap,h1,h2,fun h0=>?_⟩;obtain ⟨bb,oo,rfl,hr⟩:=h3 h0;obtain ⟨g0,e0,hne⟩:=hq h0;have e1:=(Value.slice.inj h1).1.symm.trans e0;obtain ⟨rfl,rfl⟩:bb=g0/\oo=0:=by injection e1 with e1;injection e1 with e1 e2;exact ⟨e1,e2⟩
 exact ⟨bb,0,rfl,fun i e hi k u hk=>o.cell hne (hr i e hi k u hk)⟩
theorem zG8 {w w':World} {b c:Nat} {q:Option Addr} {fl:List NT} (h:zAT w (.slice q fl.length c) fl) (hq:0<fl.length->∃ g0,q=some ⟨g0,0,none⟩/\g0 ≠ b) (o:w.grownBy w' (some b)):zAT w' (.slice q fl.length c) fl:=
 zFB h hq ⟨o.os,o.tape,o.output,o.size,fun k hk hl=>o.block k hl (fun e=>hk (Option.some.inj e))⟩
theorem zLP {w:World} {base base':Nat} {v:Value} {l:List NT} (h:zBI w base v l) (hb:base'<=base):zBI w base' v l:=by
 refine ⟨h.1,h.2.imp id ?_⟩;rintro ⟨g,cap,cur,rfl,h2,h3⟩;exact ⟨g,cap,cur,rfl,Nat.le_trans hb h2,h3⟩
theorem zK5 {w w':World} {g:Nat} {l:List Value} (V:Vec w g l) (h:w'.heap[g]?=w.heap[g]?):Vec w' g l:=fun i u hi=>by
 obtain ⟨hc,hf⟩:=V i u hi;unfold World.cell? World.frozen? at *;rw [h];exact ⟨hc,hf⟩
def zP5 (w:World) (e:Ending) (w':World):Prop:=(∃ (r c:Int) (f g:Bool) (r' c':Int) (f' g':Bool) (x y:Int) (q:Option Addr) (cp:Nat) (fl:List NT),e=.returned (.tuple #[.agg #[iQ r,iQ c,.bool f,.bool g,iQ r',iQ c',.bool f',.bool g',iQ x,iQ y],.slice q fl.length cp])/\(0<=x/\x<=2000)/\(0<=y/\y<=2000)/\zAT w' (.slice q fl.length cp) fl/\FitL 900 fl)/\Ext w w'
theorem zM4 (v:Value) (n:Nat) (w:World) (h:zD1 w w.heap.size v n) (hn:n<=1048576) :
  Calls Tryz.prog 22 #[v] w fun e w'=>zP5 w e w':=by
 obtain ⟨p,nn,cap,rfl⟩:∃ p nn cap,v=.slice p nn cap:=by
  rcases h with ⟨⟨p,cap,rfl⟩,_⟩ | ⟨pb,po,cap,_,rfl,_⟩
  ·exact ⟨_,_,_,rfl⟩
  ·exact ⟨_,_,_,rfl⟩
 have X1:=x1 w (.cells Z10.toArray 45);have VA:=zA5 w Z10 45;have s1:(w.alloc (.cells Z10.toArray 45)).heap.size=w.heap.size+1:=World.size_alloc _ _;obtain ⟨w2,h2⟩:=nm (w.alloc (.cells Z10.toArray 45));have H2:Hid _:=h2;rw [h2] at X1 VA s1;have X2:=X1;have CM:=Cur.made w2 (.slice p nn cap) n w.heap.size 57 (h.only (Only.of_ext X2 (b:=w.heap.size)) (Nat.le_refl _)) hn (by omega);have EM:=x1 w2 (.cells #[.slice p nn cap,iQ 0,.int .u64 0] 57);obtain ⟨w3,h3⟩:=nm (w2.alloc (.cells #[.slice p nn cap,iQ 0,.int .u64 0] 57));have H3:Hid _:=h3;rw [h3] at CM EM;have VA:=VA.l EM;obtain ⟨gA,hgA⟩:=nm (w.heap.size);obtain ⟨b,hgb⟩:=nm (w2.heap.size);have HW:Hid _:=hgA;rw [hgA] at VA CM;rw [hgb] at CM;have hab:gA<b:=by omega
 have O3:Only b w w3:=Only.of_ext (xt X2 EM);have HGb:Hid (w.heap.size+1=b):=by show _=_;omega
 clear h2 h3 hgb hgA h hn EM X1 X2 s1;go_enter Tryz.func22,Tryz.ntmps22;go_upto_region 2 with fail;rw [H2.out,H3.out]
 (try rw [HGb.out])
 (try rw [HW.out])
 go_wp2_with fail;refine (zUR b gA 0 w3 CM (by omega)).mono ?_;rintro e w4 ⟨⟨r,c,f,g,r',c',f',g',x,y,rfl,hx,hy⟩,C4,o4⟩;have VA:=o4.vec (by omega) VA;have O4:=O3.trans o4;have b4:=C4.lt;have E:=x1 w4 (.cells ([iQ r,iQ c,.bool f,.bool g,iQ r',iQ c',.bool f',.bool g',iQ x,iQ y]:List Value).toArray 45);have VM:=zA5 w4 [iQ r,iQ c,.bool f,.bool g,iQ r',iQ c',.bool f',.bool g',iQ x,iQ y] 45;have C4:=C4.ext E;have VA:=VA.l E;have O4:=O4.trans (Only.of_ext E);obtain ⟨w5,h5⟩:=nm (w4.alloc (.cells ([iQ r,iQ c,.bool f,.bool g,iQ r',iQ c',.bool f',.bool g',iQ x,iQ y]:List Value).toArray 45));have H5:Hid _:=h5;rw [h5] at C4 VA O4 VM;clear h5 E;obtain ⟨gM,hgM⟩:=nm (w4.heap.size);rw [hgM] at VM b4;have HGM:Hid _:=hgM;clear hgM;go_upto_region 3 with fail;rw [H5.out]
 (try rw [HGM.out])
 clear o4 O3 CM H5;have HR:Hid (DrJ w b gA (410+0) gM gA [iQ r,iQ c,.bool f,.bool g,iQ r',iQ c',.bool f',.bool g',iQ x,iQ y] false w5):=⟨C4,O4,VM,VA⟩;refine zA3 (fun lx:Nat->Value=>{ tmps:=#[Value.slice p nn cap,undef,Value.pointer (some ⟨gA,0,none⟩),lx 3,Value.pointer (some ⟨b,0,none⟩),Value.pointer (some ⟨gM,0,none⟩),Value.slice p nn cap,Value.agg #[Value.slice p nn cap,Value.int .i64 0,Value.int IntKind.u64 0],Value.pointer (some ⟨b,0,none⟩),Value.pointer (some ⟨b,0,none⟩),Value.agg #[Value.int .i64 r,Value.int .i64 c,Value.bool f,Value.bool g,Value.int .i64 r',Value.int .i64 c',Value.bool f',Value.bool g',Value.int .i64 x,Value.int .i64 y],lx 11,lx 12,lx 13,lx 14,lx 15],defers:=[] }) (fun L lx lw=>Hid ((DrJ w b gA (410+kcD 20010 400 L) gM gA [iQ r,iQ c,.bool f,.bool g,iQ r',iQ c',.bool f',.bool g',iQ x,iQ y] (L 5) lw)/\(L 0=true->lx 11=.agg #[iQ r,iQ c,.bool f,.bool g,iQ r',iQ c',.bool f',.bool g',iQ x,iQ y])/\(L 1=true->lx 12=.pointer (some ⟨b,0,none⟩))/\(L 2=true->lx 13=.pointer (some ⟨b,0,none⟩))/\(L 3=true->∃ (q:Option Addr) (cp:Nat) (fl:List NT),lx 14=.slice q fl.length cp/\FitL 800 fl/\(∀ r0,(Value.slice q fl.length cp).ownBlock=some r0->gM<r0)/\(L 4=false->zBI lw w.heap.size (.slice q fl.length cp) fl))/\(L 4=true->∃ (q:Option Addr) (cp:Nat) (fl:List NT),lx 15=.slice q fl.length cp/\zAT lw (.slice q fl.length cp) fl/\FitL 900 fl/\(0<fl.length->∃ g0,q=some ⟨g0,0,none⟩/\gM<g0))/\(L 6=true->∃ (q:Option Addr) (cp:Nat) (fl:List NT),lx 3=.slice q fl.length cp/\zAT lw (.slice q fl.length cp) fl/\FitL 900 fl/\(0<fl.length->∃ g0,q=some ⟨g0,0,none⟩/\gM<g0)))) rfl (by kernel_rfl) (fun jj=>if jj=3 then Value.slice none 0 0 else undef) rfl ?_ ?_ ?_
 ·have R0:=HR.out;exact ⟨(R0.turn (Only.of_ext (xd (xr _))) (R0.cur.ext (xd (xr _))) (by omega) (by omega)),(fun h=>by cases h),(fun h=>by cases h),(fun h=>by cases h),(fun h=>by cases h),(fun h=>by cases h),(fun h=>by cases h)⟩
 ·intro L lx wl i o K0 hK ho hL haf hI hcl;obtain ⟨R,f0,f1,f2,f3,f4,f6⟩:=hI.out
  match i,ho,hL,haf,hK with
  | 0,ho,hL,haf,hK =>
   cases ho
   (try dsimp only)
   have VR:wl.rangeAt gM 0 [iQ r,iQ c,.bool f,.bool g,iQ r',iQ c',.bool f',.bool g',iQ x,iQ y]:=fun k u hu=>by rw [Nat.zero_add];exact (R.vm k u hu).1
   refine Eq.mpr (if_pos (by rfl)) ?_;go_wp2_with (refine wpList_load_mid rfl 45 (.tmp 5) rfl gM 0 rfl _ _ VR Tryz.underlying45 rfl zDS ?_);exact hK (fun jj=>if jj=11 then .agg #[iQ r,iQ c,.bool f,.bool g,iQ r',iQ c',.bool f',.bool g',iQ x,iQ y] else lx jj) _ ⟨R,(fun _=>rfl),f1,f2,f3,f4,f6⟩
  | 1,ho,hL,haf,hK =>
   cases ho
   (try dsimp only)
   refine Eq.mpr (if_pos (by rfl)) ?_;go_wp2_with fail;exact hK (fun jj=>if jj=12 then .pointer (some ⟨b,0,none⟩) else lx jj) _ ⟨R,f0,(fun _=>rfl),f2,f3,f4,f6⟩
  | 2,ho,hL,haf,hK =>
   cases ho
   (try dsimp only)
   refine Eq.mpr (if_pos (by rfl)) ?_;go_wp2_with fail;exact hK (fun jj=>if jj=13 then .pointer (some ⟨b,0,none⟩) else lx jj) _ ⟨R,f0,f1,(fun _=>rfl),f3,f4,f6⟩
  | 3,ho,hL,haf,hK =>
   cases ho
   (try dsimp only)
   rw [f2 (haf ⟨2,.data⟩ (by simp) rfl)];refine Eq.mpr (if_pos (by rfl)) ?_;go_wp2_with fail;have kle:=zKV 20010 400 L;have gl:gM<wl.heap.size:=World.block_lt_of_cell? _ _ (R.vm 0 _ rfl).1;refine (formC b gA _ wl R.cur (by omega)).mono ?_;rintro e w' ⟨⟨q,cp,fl,rfl,hfl,OO⟩,CC,o1⟩;go_wp2_with fail;exact hK (fun jj=>if jj=14 then .slice q fl.length cp else if jj=13 then .pointer (some ⟨b,0,none⟩) else lx jj) _ ⟨(by rw [kcD3 hL,<- Nat.add_assoc];exact R.turn o1 CC (by omega) (by omega)),f0,f1,(fun _=>rfl),(fun _=>⟨q,cp,fl,rfl,hfl,fun r0 hr=>by have:=zBL OO r0 hr;omega,fun _=>zLP OO (by have:=R.only.size;omega)⟩),(fun h=>by obtain ⟨q,cp,fl,h1,h2,h3,h4⟩:=f4 h;exact ⟨q,cp,fl,h1,zFB h2 (fun h0=>(h4 h0).imp fun g0 hh=>⟨hh.1,by have:=hh.2;omega⟩) o1,h3,h4⟩),(fun h=>by obtain ⟨q,cp,fl,h1,h2,h3,h4⟩:=f6 h;exact ⟨q,cp,fl,h1,zFB h2 (fun h0=>(h4 h0).imp fun g0 hh=>⟨hh.1,by have:=hh.2;omega⟩) o1,h3,h4⟩)⟩
  | 4,ho,hL,haf,hK =>
   cases ho
   (try dsimp only)
   obtain ⟨q,cp,fl,e3,hfl,hbk,hO⟩:=f3 (haf ⟨3,.data⟩ (by simp) rfl);rw [f1 (haf ⟨1,.data⟩ (by simp) rfl),e3];refine Eq.mpr (if_pos (by rfl)) ?_;go_wp2_with fail;have kle:=zKV 20010 400 L;have gl:gM<wl.heap.size:=World.block_lt_of_cell? _ _ (R.vm 0 _ rfl).1;refine (zW1 b gA _ w wl q cp fl R.cur (by omega) R.only (fun r0 hr=>⟨by have:=hbk r0 hr;omega,by have:=hbk r0 hr;omega⟩) (hO hL) (hfl.more (by omega))).mono ?_;rintro e w' ⟨⟨q',cp',fl',rfl,hN,hF,hB⟩,CC,O6,KK⟩;go_wp2_with fail;have KM:∀ k,k ≠ b->k<=gM->w'.heap[k]?=wl.heap[k]?:=fun k h1 h2=>KK k h1 (fun e=>by have:=hbk k e.symm;omega) (by omega);have RR:DrJ w b gA (410+kcD 20010 400 L+400) gM gA [iQ r,iQ c,.bool f,.bool g,iQ r',iQ c',.bool f',.bool g',iQ x,iQ y] (L 5) w':=⟨CC,O6,zK5 R.vm (KM gM (by omega) (Nat.le_refl _)),zK5 R.va (KM gA (by omega) (by omega))⟩;have h6:L 6=false:=hcl.bars (i:=6) (j:=4) [4] hL (by kernel_rfl) rfl;exact hK (fun jj=>if jj=15 then .slice q' fl'.length cp' else if jj=12 then .pointer (some ⟨b,0,none⟩) else if jj=14 then .slice q fl.length cp else lx jj) _ ⟨(by rw [kcD4 hL,<- Nat.add_assoc];exact RR),f0,(fun _=>rfl),f2,(fun _=>⟨q,cp,fl,rfl,hfl,hbk,fun h=>absurd (show true=false from h) (by decide)⟩),(fun _=>⟨q',cp',fl',rfl,hN,hF,fun h0=>(hB h0).imp fun g0 hh=>⟨hh.1,hbk g0 hh.2⟩⟩),(fun h=>absurd (show L 6=true from h) (by rw [h6];exact Bool.false_ne_true))⟩
  | 5,ho,hL,haf,hK =>
   cases ho
   (try dsimp only)
   have VZ:Vec wl gA Z10:=by have:=R.va;rw [hL] at this;exact this
   rw [f0 (haf ⟨0,.data⟩ (by simp) rfl)];have VT:wl.there gA 0 10:=zAE VZ (by simp);have V9:Vec (wl.setCells gA 0 [iQ r,iQ c,.bool f,.bool g,iQ r',iQ c',.bool f',.bool g',iQ x,iQ y]) gA [iQ r,iQ c,.bool f,.bool g,iQ r',iQ c',.bool f',.bool g',iQ x,iQ y]:=zA9 [iQ r,iQ c,.bool f,.bool g,iQ r',iQ c',.bool f',.bool g',iQ x,iQ y] 0 wl _ VZ (by simp);have C9:=Cur.setCellsM (g:=gA) (by omega) (by omega) [iQ r,iQ c,.bool f,.bool g,iQ r',iQ c',.bool f',.bool g',iQ x,iQ y] 0 wl R.cur;have O9:=Only.setCellsM (g:=gA) (by have:=HW.out;omega) [iQ r,iQ c,.bool f,.bool g,iQ r',iQ c',.bool f',.bool g',iQ x,iQ y] 0 wl R.only;have G9:=zA8 gA [iQ r,iQ c,.bool f,.bool g,iQ r',iQ c',.bool f',.bool g',iQ x,iQ y] 0 wl;obtain ⟨w',hw'⟩:=nm (wl.setCells gA 0 [iQ r,iQ c,.bool f,.bool g,iQ r',iQ c',.bool f',.bool g',iQ x,iQ y]);have HW':Hid _:=hw';rw [hw'] at V9 C9 O9 G9;have VM9:Vec w' gM [iQ r,iQ c,.bool f,.bool g,iQ r',iQ c',.bool f',.bool g',iQ x,iQ y]:=zAA R.vm G9 (by omega);refine Eq.mpr (if_pos (by rfl)) ?_;go_wp2_with (refine zAQ rfl _ _ _ rfl gA 0 _ rfl rfl VT zDS (by simp [Value.oneCell']) HW'.out ?_);exact hK (fun jj=>if jj=11 then .agg #[iQ r,iQ c,.bool f,.bool g,iQ r',iQ c',.bool f',.bool g',iQ x,iQ y] else lx jj) _ ⟨(by rw [kcD0 (by decide) (by decide)];exact ⟨C9,O9,VM9,V9⟩),(fun _=>rfl),f1,f2,(fun h=>by obtain ⟨q,cp,fl,h1,h2,h3,h4⟩:=f3 h;exact ⟨q,cp,fl,h1,h2,h3,fun hA=>zG7 (h4 hA) (fun r0 hr=>G9.block r0 (zBL (h4 hA) r0 hr).2 (fun e=>by have:=h3 r0 hr;have:=Option.some.inj e;omega))⟩),(fun h=>by obtain ⟨q,cp,fl,h1,h2,h3,h4⟩:=f4 h;exact ⟨q,cp,fl,h1,zG8 h2 (fun h0=>(h4 h0).imp fun g0 hh=>⟨hh.1,by have:=hh.2;omega⟩) G9,h3,h4⟩),(fun h=>by obtain ⟨q,cp,fl,h1,h2,h3,h4⟩:=f6 h;exact ⟨q,cp,fl,h1,zG8 h2 (fun h0=>(h4 h0).imp fun g0 hh=>⟨hh.1,by have:=hh.2;omega⟩) G9,h3,h4⟩)⟩
  | 6,ho,hL,haf,hK =>
   cases ho
   (try dsimp only)
   obtain ⟨q,cp,fl,e4,h2,h3,h4⟩:=f4 (haf ⟨4,.data⟩ (by simp) rfl);rw [e4];refine Eq.mpr (if_pos (by rfl)) ?_;go_wp2_with fail;exact hK (fun jj=>if jj=3 then .slice q fl.length cp else if jj=15 then .slice q fl.length cp else lx jj) _ ⟨(by rw [kcD0 (by decide) (by decide)];exact R),f0,f1,f2,f3,(fun _=>⟨q,cp,fl,rfl,h2,h3,h4⟩),(fun _=>⟨q,cp,fl,rfl,h2,h3,h4⟩)⟩
  | k+7,ho,_,_,_=>simp at ho
 ·intro L lx w8 hall hI;obtain ⟨R,f0,f1,f2,f3,f4,f6⟩:=hI.out;have VA8:Vec w8 gA [iQ r,iQ c,.bool f,.bool g,iQ r',iQ c',.bool f',.bool g',iQ x,iQ y]:=by have:=R.va;rw [hall 5 (by simp)] at this;exact this
  have X8:Ext w w8:=Only.ext (xr w) R.only (by have:=HW.out;omega);have q0:=vC10 VA8;obtain ⟨q,cp,fl,e6,h2,h3,_⟩:=f6 (hall 6 (by simp));rw [e6];have PO:Hid (zP5 w (.returned (.tuple #[.agg #[iQ r,iQ c,.bool f,.bool g,iQ r',iQ c',.bool f',.bool g',iQ x,iQ y],.slice q fl.length cp])) w8):=⟨⟨r,c,f,g,r',c',f',g',x,y,q,cp,fl,rfl,hx,hy,h2,h3⟩,X8⟩;clear R VA8 X8 h2 h3 hI hall HR f0 f1 f2 f3 f4 f6
  (try dsimp only)
  go_wp2_with fail;exact bodyPost_ret (v:=.tuple #[.agg #[iQ r,iQ c,.bool f,.bool g,iQ r',iQ c',.bool f',.bool g',iQ x,iQ y],.slice q fl.length cp]) (by simp [results,Tryz.results22,go_sem,q0]) rfl PO.out
theorem zMX (r c:Int) (f g:Bool) (r' c':Int) (f' g':Bool) (W:World) :
  (binOp BinOp.neq 26 (refV r c f g) (refV r' c' f' g')).run Tryz.prog W=.ok (.bool (!(decide (r=r'/\c=c'/\f=f'/\g=g')))) W:=by
 by_cases h:r=r'/\c=c'/\f=f'/\g=g'
 ·obtain ⟨rfl,rfl,rfl,rfl⟩:=h
  go_simp
 ·rw [decide_eq_false h];have H:Hid _:=h;clear h
  go_simp
  intros
  have:=H.out
  simp_all
theorem zKJ (r c:Int) (f g:Bool) (W:World):(binOp BinOp.neq 26 (refV r c f g) (refV r c f g)).run Tryz.prog W=.ok (.bool false) W:=by
 rw [zMX];simp
structure KeepT (gd:NT->Bool) (T:NT->NT):Prop where
 kind:∀ n,T n=n\/((n.k=5\/n.k=6)/\((T n).k=4\/(T n).k=5\/(T n).k=6))
 good:∀ n,gd n=true->gd (T n)=true/\(T n).q=n.q
theorem zPE (T:AT->Option AT) (f:List NT):(rwR T f).length<=f.length:=by
 unfold rwR
 split
 ·rw [List.length_map];exact Nat.le_refl _
 ·exact Nat.zero_le _
structure WdT (w:World):Prop where
 t:Tens w
 e:zB4 w
 o:zBX w
 l:LibW w
 i:zBY w
theorem WdT.k {w w':World} (h:WdT w) (x:Ext w w'):WdT w':=⟨h.t.l x,h.e.l x,h.o.l x,h.l.l x,h.i.laterG x⟩
theorem zFJ {l:List NT} {w w':World} {e:Ending} (h:zBW l w e w'):∃ p cap,e=.returned (.slice p l.length cap)/\zAT w' (.slice p l.length cap) l/\Ext w w':=by
 obtain ⟨v,g,rfl,hN,_,X⟩:=h;obtain ⟨p,cap,rfl,h2,h3⟩:=hN.nodes;exact ⟨p,cap,rfl,⟨p,cap,rfl,h2,h3⟩,X⟩
theorem zD1.laterT {w w':World} {v:Value} {n:Nat} (h:zD1 w w.heap.size v n) (x:Ext w w'):zD1 w' w'.heap.size v n:=by
 rcases h with h | ⟨pb,po,cap,h1,h2,h3,h4⟩
 ·exact .inl h
 ·refine .inr ⟨pb,po,cap,Nat.lt_of_lt_of_le h1 x.size,h2,h3,fun i hi=>?_⟩;obtain ⟨z,z0,z1,hz⟩:=h4 i hi;exact ⟨z,z0,z1,cell_later x hz⟩
theorem zV1:(Tryz.prog.info? 73).map (·.size)=some 14:=by kernel_rfl
theorem zVO (v v':Value) (l:List NT) (w:World) (h:zAT w v l) (h':zAT w v' l) (hl:l.length<=2000000) :
  Calls Tryz.prog 11 #[v,v'] w fun e w'=>e=.returned (.bool true)/\Ext w w':=by
 obtain ⟨p,cap,rfl,hcap,hrow⟩:=h;obtain ⟨p',cap',rfl,hcap',hrow'⟩:=h';obtain ⟨n,hn⟩:=nm (l.length);have HN:Hid _:=hn;rw [hn] at hcap hcap' hl hrow hrow' ⊢;have HRow:Hid _:=hrow;have HRow':Hid _:=hrow';clear hn hrow hrow';go_enter Tryz.func11,Tryz.ntmps11;go_wp2_with fail;go_loopw [13] (fun i wr=>∃ k:Nat,k<=n/\i=.int .i64 k/\Ext w wr) (fun i _=>n - (intOf i).toNat)
 case atStart=>exact ⟨0,by omega,rfl,xr _⟩
 case round =>
  obtain ⟨k,hk,rfl,X⟩:=hrel;by_cases hlt:k<n
  ·obtain ⟨e,he⟩:∃ e,l[k]?=some e:=⟨_,List.getElem?_eq_getElem (by rw [HN.out];exact hlt)⟩;obtain ⟨b,o,rfl,hR⟩:=HRow.out (by omega);obtain ⟨b',o',rfl,hR'⟩:=HRow'.out (by omega);have HX:Hid _:=X;obtain ⟨ek,et,en,ed,ex,er,ec,ef,eg,er2,ec2,ef2,eg2,eq⟩:=e;have HRA:Hid (∀ wl,Ext wr wl->wl.rangeAt b (o+k * 14) [iQ ek,sV et,.bool en,iQ ed,iQ ex,iQ er,iQ ec,.bool ef,.bool eg,iQ er2,iQ ec2,.bool ef2,.bool eg2,iQ eq]):=fun wl E j u hu=>(hR.l (xt X E)) k _ he j u hu;have HRB:Hid (∀ wl,Ext wr wl->wl.rangeAt b' (o'+k * 14) [iQ ek,sV et,.bool en,iQ ed,iQ ex,iQ er,iQ ec,.bool ef,.bool eg,iQ er2,iQ ec2,.bool ef2,.bool eg2,iQ eq]):=fun wl E j u hu=>(hR'.l (xt X E)) k _ he j u hu;have i2:(k:Int)<(n:Int):=by omega
   clear hR hR' he X;go_wp2_with fail;refine zA3 (fun lx:Nat->Value=>{ tmps:=#[.slice (some ⟨b,o,none⟩) n cap,.slice (some ⟨b',o',none⟩) n cap',undef,undef,u4,.int .i64 k,.slice (some ⟨b,o,none⟩) n cap,.int .i64 n,.slice (some ⟨b',o',none⟩) n cap',.int .i64 n,.bool false,.slice (some ⟨b,o,none⟩) n cap,.int .i64 n,.int .i64 k,.bool true,.int .i64 k,lx 16,lx 17,lx 18,lx 19,lx 20,lx 21,lx 22,lx 23,lx 24,u25],defers:=[] }) (fun L lx lw=>Hid (Ext wr lw/\(L 0=true->lx 16=.slice (some ⟨b,o,none⟩) n cap)/\(L 1=true->lx 17=iQ k)/\(L 2=true->lx 18=.pointer (some ⟨b,o+k * 14,none⟩))/\(L 3=true->lx 19=.agg #[iQ ek,sV et,.bool en,iQ ed,iQ ex,iQ er,iQ ec,.bool ef,.bool eg,iQ er2,iQ ec2,.bool ef2,.bool eg2,iQ eq])/\(L 4=true->lx 20=.slice (some ⟨b',o',none⟩) n cap')/\(L 5=true->lx 21=iQ k)/\(L 6=true->lx 22=.pointer (some ⟨b',o'+k * 14,none⟩))/\(L 7=true->lx 23=.agg #[iQ ek,sV et,.bool en,iQ ed,iQ ex,iQ er,iQ ec,.bool ef,.bool eg,iQ er2,iQ ec2,.bool ef2,.bool eg2,iQ eq])/\(L 8=true->lx 24=.bool false))) rfl (by kernel_rfl) (fun jj=>if jj=16 then u16 else if jj=17 then u17 else if jj=18 then u18 else if jj=19 then u19 else if jj=20 then u20 else if jj=21 then u21 else if jj=22 then u22 else if jj=23 then u23 else if jj=24 then u24 else undef) rfl ?_ ?_ ?_
   ·exact ⟨xd (xr _),(fun h=>by cases h),(fun h=>by cases h),(fun h=>by cases h),(fun h=>by cases h),(fun h=>by cases h),(fun h=>by cases h),(fun h=>by cases h),(fun h=>by cases h),(fun h=>by cases h)⟩
   ·intro L lx wl ix o9 K hK ho hL haf hI hcl;obtain ⟨X,f0,f1,f2,f3,f4,f5,f6,f7,f8⟩:=hI.out
    match ix,ho,hL,haf,hK with
    | 0,ho,hL,haf,hK =>
     cases ho
     (try dsimp only)
     refine Eq.mpr (if_pos (by rfl)) ?_;go_wp2_with fail;exact hK (fun jj=>if jj=16 then .slice (some ⟨b,o,none⟩) n cap else lx jj) _ ⟨X,(fun _=>rfl),f1,f2,f3,f4,f5,f6,f7,f8⟩
    | 1,ho,hL,haf,hK =>
     cases ho
     (try dsimp only)
     refine Eq.mpr (if_pos (by rfl)) ?_;go_wp2_with fail;exact hK (fun jj=>if jj=17 then iQ k else lx jj) _ ⟨X,f0,(fun _=>rfl),f2,f3,f4,f5,f6,f7,f8⟩
    | 2,ho,hL,haf,hK =>
     cases ho
     (try dsimp only)
     rw [f0 (haf ⟨0,.data⟩ (by simp) rfl),f1 (haf ⟨1,.data⟩ (by simp) rfl)];refine Eq.mpr (if_pos (by rfl)) ?_;go_wp2_with fail;exact hK (fun jj=>if jj=18 then .pointer (some ⟨b,o+k * 14,none⟩) else if jj=16 then .slice (some ⟨b,o,none⟩) n cap else if jj=17 then iQ k else lx jj) _ ⟨X,(fun _=>rfl),(fun _=>rfl),(fun _=>rfl),f3,f4,f5,f6,f7,f8⟩
    | 3,ho,hL,haf,hK =>
     cases ho
     (try dsimp only)
     rw [f2 (haf ⟨2,.data⟩ (by simp) rfl)];refine Eq.mpr (if_pos (by rfl)) ?_;go_wp2_with (refine wpList_load_mid rfl 73 (.tmp 18) rfl b (o+k * 14) rfl _ _ (HRA.out _ X) Tryz.underlying73 rfl zV1 ?_);exact hK (fun jj=>if jj=19 then .agg #[iQ ek,sV et,.bool en,iQ ed,iQ ex,iQ er,iQ ec,.bool ef,.bool eg,iQ er2,iQ ec2,.bool ef2,.bool eg2,iQ eq] else if jj=18 then .pointer (some ⟨b,o+k * 14,none⟩) else lx jj) _ ⟨X,f0,f1,(fun _=>rfl),(fun _=>rfl),f4,f5,f6,f7,f8⟩
    | 4,ho,hL,haf,hK =>
     cases ho
     (try dsimp only)
     refine Eq.mpr (if_pos (by rfl)) ?_;go_wp2_with fail;exact hK (fun jj=>if jj=20 then .slice (some ⟨b',o',none⟩) n cap' else lx jj) _ ⟨X,f0,f1,f2,f3,(fun _=>rfl),f5,f6,f7,f8⟩
    | 5,ho,hL,haf,hK =>
     cases ho
     (try dsimp only)
     refine Eq.mpr (if_pos (by rfl)) ?_;go_wp2_with fail;exact hK (fun jj=>if jj=21 then iQ k else lx jj) _ ⟨X,f0,f1,f2,f3,f4,(fun _=>rfl),f6,f7,f8⟩
    | 6,ho,hL,haf,hK =>
     cases ho
     (try dsimp only)
     rw [f4 (haf ⟨4,.data⟩ (by simp) rfl),f5 (haf ⟨5,.data⟩ (by simp) rfl)];refine Eq.mpr (if_pos (by rfl)) ?_;go_wp2_with fail;exact hK (fun jj=>if jj=22 then .pointer (some ⟨b',o'+k * 14,none⟩) else if jj=20 then .slice (some ⟨b',o',none⟩) n cap' else if jj=21 then iQ k else lx jj) _ ⟨X,f0,f1,f2,f3,(fun _=>rfl),(fun _=>rfl),(fun _=>rfl),f7,f8⟩
    | 7,ho,hL,haf,hK =>
     cases ho
     (try dsimp only)
     rw [f6 (haf ⟨6,.data⟩ (by simp) rfl)];refine Eq.mpr (if_pos (by rfl)) ?_;go_wp2_with (refine wpList_load_mid rfl 73 (.tmp 22) rfl b' (o'+k * 14) rfl _ _ (HRB.out _ X) Tryz.underlying73 rfl zV1 ?_);exact hK (fun jj=>if jj=23 then .agg #[iQ ek,sV et,.bool en,iQ ed,iQ ex,iQ er,iQ ec,.bool ef,.bool eg,iQ er2,iQ ec2,.bool ef2,.bool eg2,iQ eq] else if jj=22 then .pointer (some ⟨b',o'+k * 14,none⟩) else lx jj) _ ⟨X,f0,f1,f2,f3,f4,f5,(fun _=>rfl),(fun _=>rfl),f8⟩
    | 8,ho,hL,haf,hK =>
     cases ho
     (try dsimp only)
     rw [f3 (haf ⟨3,.data⟩ (by simp) rfl),f7 (haf ⟨7,.data⟩ (by simp) rfl)];refine Eq.mpr (if_pos (by rfl)) ?_;go_wp2_with fail;exact hK (fun jj=>if jj=24 then .bool false else if jj=19 then .agg #[iQ ek,sV et,.bool en,iQ ed,iQ ex,iQ er,iQ ec,.bool ef,.bool eg,iQ er2,iQ ec2,.bool ef2,.bool eg2,iQ eq] else if jj=23 then .agg #[iQ ek,sV et,.bool en,iQ ed,iQ ex,iQ er,iQ ec,.bool ef,.bool eg,iQ er2,iQ ec2,.bool ef2,.bool eg2,iQ eq] else lx jj) _ ⟨X,f0,f1,f2,(fun _=>rfl),f4,f5,f6,(fun _=>rfl),(fun _=>rfl)⟩
    | k9+9,ho,_,_,_=>simp at ho
   ·intro L lx w8 hall hI;obtain ⟨X,f0,f1,f2,f3,f4,f5,f6,f7,f8⟩:=hI.out;have e8:=f8 (hall 8 (by simp));have XE:Ext w w8:=xt HX.out X;rw [e8];clear e8 hI hall X f0 f1 f2 f3 f4 f5 f6 f7 f8
    (try dsimp only)
    go_wp2_with fail;go_roundw
    case rel=>exact ⟨k+1,by omega,by go_num,XE⟩
    case measure=>simp [intOf];omega
  ·obtain rfl:k=n:=by omega
   go_wp2_with fail;go_ret;exact ⟨rfl,X⟩
end Go.Proofs.YteliaeejooekbaaGreatDoor
