/-
  Several texts in one: J16, Qa, Qb, Qc, Qd, Fb, V6p, V6n.
-/
import Derived.Test.YtnphbpmdohidcaaDoorMg16
import Derived.Test.YtnphbpmdohidcaaDoorMg15
import Derived.BigQuiet
import Derived.Deep.RegionHeld3
import Derived.Deep.QuietTactic
import Derived.Lib.SlKept
import Derived.Shelf.SlicesE.Compact
import Derived.Lib.SliceRun
import Derived.Laws.IdiomCopy
import Derived.Test.YtnphbpmdohidcaaDoorMg1
import Derived.Test.YtnphbpmdohidcaaDoorMg14
import Derived.Test.YtnphbpmdohidcaaDoorMg2
import Derived.Test.YtnphbpmdohidcaaDoorMg0
import Derived.Lib.Bytealg
namespace Go.Proofs.YtnphbpmdohidcaaDoor
open Go.RowKit
set_option maxRecDepth 8000 in
set_option maxHeartbeats 4000000 in
theorem drawJoin (v:Value) (n:Nat) (w:World) (h:CodeIn w w.heap.size v n) (hn:n≤1048576) :
  Calls Tryd.prog 4 #[v] w fun e w'=>(∃ (R C:Int) (sv:Value) (l:List VT) (R' C':Int) (sv':Value) (l':List VT) (lt rt:Int),e=.returned (.tuple #[grV R C sv,grV R' C' sv',.int .i64 lt,.int .i64 rt])∧(1≤lt∧lt≤3)∧(1≤rt∧rt≤3)∧(ValsIn w' sv l∧l.length≤32∧∀ q ∈ l,okE q)∧ValsIn w' sv' l'∧l'.length≤32∧∀ q ∈ l',okE q)∧Ext w w':=by
 obtain ⟨p,nn,cap,rfl⟩:∃ p nn cap,v=.slice p nn cap:=by
  rcases h with ⟨⟨p,cap,rfl⟩,_⟩ | ⟨pb,po,cap,_,rfl,_⟩
  ·exact ⟨_,_,_,rfl⟩
  ·exact ⟨_,_,_,rfl⟩
 obtain ⟨u0,u1,h0,h1,s0,s1,B0,B1,X⟩:=mkB2 w [.int .i64 0,.int .i64 0,.slice none 0 0] [.int .i64 0,.int .i64 0,.slice none 0 0] 25 25;have CM:=Cur.made u1 (.slice p nn cap) n w.heap.size 34 (h.only (Only.of_ext X (b:=w.heap.size)) (Nat.le_refl _)) hn (by omega);have EM:=x1 u1 (.cells #[.slice p nn cap,.int .i64 0,.int .u64 0] 34);obtain ⟨u2,h2⟩:∃ q,u1.alloc (.cells #[.slice p nn cap,.int .i64 0,.int .u64 0] 34)=q:=⟨_,rfl⟩;rw [h2] at CM EM;rw [s1] at CM;have V0:=B0.later EM;have V1:=B1.later EM;have X2:=xt X EM;have s2:u2.heap.size=w.heap.size+1+1+1:=by rw [← h2,World.size_alloc,s1]
 go_enter Tryd.func4,Tryd.ntmps4;go_wp2_with fail;clear h0 h1 h2 h hn;refine (tableC (w.heap.size+1+1) w.heap.size 0 u2 CM (by omega)).mono ?_;rintro e w1 ⟨⟨R1,C1,sv1,l1,rfl,RA,hl1,hE1,lb1⟩,CC,o1⟩;have V0:=o1.vecC (by omega) V0;have V1:=o1.vecC (by omega) V1;have XE:=Only.ext X2 o1 (by omega);have z1:u2.heap.size≤w1.heap.size:=o1.size;clear o1 X2 EM B0 B1 X CM;obtain ⟨p1,c1,hs1⟩:∃ p1 c1,sv1=.slice p1 l1.length c1:=by obtain ⟨_,p1,c1,q,_⟩:=RA;exact ⟨p1,c1,q⟩
 obtain ⟨n1,hn1⟩:∃ n,l1.length=n:=⟨_,rfl⟩;have HN1:Hid (l1.length=n1):=hn1;rw [hn1] at hs1 RA hl1;subst hs1;obtain ⟨wz,w2,hz,hy,BA,XO,⟨zz0,zz1,zz2⟩,fz0,fz1,fz2⟩:=newG w1 R1 C1 p1 n1 c1;have CC:=CC.ext XO;have V0:=V0.later XO;have V1:=V1.later XO;have RA:=RA.later XO;have XE:=xt XE XO;have yy:w1.heap.size<w2.heap.size:=World.block_lt_of_cell? _ _ (BA 0 _ rfl).1;go_wp2_with fail;clear hz hy zz0 zz1 zz2 fz0 fz1 fz2 XO hn1;refine (tableC (w.heap.size+1+1) w.heap.size _ w2 CC (by omega)).mono ?_;rintro e w3 ⟨⟨R2,C2,sv2,l2,rfl,RB,hl2,hE2,lb2⟩,CC,o1⟩;have V0:=o1.vecC (by omega) V0;have V1:=o1.vecC (by omega) V1;have BA:=o1.vecC (by omega) BA;have RA:=RA.only o1 (fun g hg=>by have:=lb1 g hg;omega);have XE:=Only.ext XE o1 (by omega);have z3:w2.heap.size≤w3.heap.size:=o1.size;clear o1;obtain ⟨p2,c2,hs2⟩:∃ p2 c2,sv2=.slice p2 l2.length c2:=by obtain ⟨_,p2,c2,q,_⟩:=RB;exact ⟨p2,c2,q⟩
 obtain ⟨n2,hn2⟩:∃ n,l2.length=n:=⟨_,rfl⟩;have HN2:Hid (l2.length=n2):=hn2;rw [hn2] at hs2 RB hl2;subst hs2;obtain ⟨wz,w4,hz,hy,BB,XO,⟨zz0,zz1,zz2⟩,fz0,fz1,fz2⟩:=newG w3 R2 C2 p2 n2 c2;have CC:=CC.ext XO;have V0:=V0.later XO;have V1:=V1.later XO;have BA:=BA.later XO;have RA:=RA.later XO;have RB:=RB.later XO;have XE:=xt XE XO;go_upto_region 4 with fail;clear hz hy zz0 zz1 zz2 fz0 fz1 fz2 XO hn2;obtain ⟨ga,hga⟩:∃ g,w1.heap.size=g:=⟨_,rfl⟩;obtain ⟨gb,hgb⟩:∃ g,w3.heap.size=g:=⟨_,rfl⟩;rw [hga] at BA z1 yy ⊢;rw [hgb] at BB z3 ⊢;refine wp_region_letters (fun lx:Nat→Value=>{ tmps:=#[Value.slice p nn cap,undef,Value.pointer (some ⟨w.heap.size,0,none⟩),Value.pointer (some ⟨w.heap.size+1,0,none⟩),lx 4,lx 5,Value.pointer (some ⟨w.heap.size+1+1,0,none⟩),Value.pointer (some ⟨ga,0,none⟩),Value.pointer (some ⟨gb,0,none⟩),Value.slice p nn cap,Value.agg #[Value.slice p nn cap,Value.int .i64 0,Value.int .u64 0],Value.pointer (some ⟨w.heap.size+1+1,0,none⟩),Value.pointer (some ⟨w.heap.size+1+1,0,none⟩),grV R1 C1 (Value.slice p1 n1 c1),Value.pointer (some ⟨w.heap.size+1+1,0,none⟩),grV R2 C2 (Value.slice p2 n2 c2),lx 16,lx 17,lx 18,lx 19,lx 20,lx 21,lx 22,lx 23],defers:=[] }) (fun L lx lw=>Hid (Ext w lw∧Cur lw (w.heap.size+1+1) w.heap.size (0+2000+2000+(if L 3=true then 2 else 0)+(if L 6=true then 2 else 0))∧Vec lw ga [.int .i64 R1,.int .i64 C1,.slice p1 n1 c1]∧Vec lw gb [.int .i64 R2,.int .i64 C2,.slice p2 n2 c2]∧(L 8=false→Vec lw w.heap.size [.int .i64 0,.int .i64 0,.slice none 0 0])∧(L 8=true→Vec lw w.heap.size [.int .i64 R1,.int .i64 C1,.slice p1 n1 c1])∧(L 9=false→Vec lw (w.heap.size+1) [.int .i64 0,.int .i64 0,.slice none 0 0])∧(L 9=true→Vec lw (w.heap.size+1) [.int .i64 R2,.int .i64 C2,.slice p2 n2 c2])∧RowAt lw (.slice p1 n1 c1) n1 (flatV l1)∧RowAt lw (.slice p2 n2 c2) n2 (flatV l2)∧(L 0=true→lx 16=Value.agg #[.int .i64 R1,.int .i64 C1,.slice p1 n1 c1])∧(L 1=true→lx 17=Value.agg #[.int .i64 R2,.int .i64 C2,.slice p2 n2 c2])∧(L 2=true→lx 18=Value.pointer (some ⟨w.heap.size+1+1,0,none⟩))∧(L 3=true→∃ z:Int,lx 19=.int .i64 z∧0≤z∧z<3)∧(L 4=true→∃ z:Int,lx 20=.int .i64 z∧1≤z∧z≤3)∧(L 5=true→lx 21=Value.pointer (some ⟨w.heap.size+1+1,0,none⟩))∧(L 6=true→∃ z:Int,lx 22=.int .i64 z∧0≤z∧z<3)∧(L 7=true→∃ z:Int,lx 23=.int .i64 z∧1≤z∧z≤3)∧(L 10=true→∃ z:Int,lx 4=.int .i64 z∧1≤z∧z≤3)∧(L 11=true→∃ z:Int,lx 5=.int .i64 z∧1≤z∧z≤3)∧ga<lw.heap.size∧gb<lw.heap.size)) rfl (by kernel_rfl) (fun jj=>if jj=4 then Value.int .i64 0 else if jj=5 then Value.int .i64 0 else undef) rfl ?_ ?_ ?_
 ·have DD:=xd (xr w4);exact ⟨xt XE DD,CC.ext DD,BA.later DD,BB.later DD,(fun _=>V0.later DD),(fun z=>by cases z),(fun _=>V1.later DD),(fun z=>by cases z),RA.later DD,RB.later DD,(fun z=>by cases z),(fun z=>by cases z),(fun z=>by cases z),(fun z=>by cases z),(fun z=>by cases z),(fun z=>by cases z),(fun z=>by cases z),(fun z=>by cases z),(fun z=>by cases z),(fun z=>by cases z),World.block_lt_of_cell? _ _ ((BA.later DD) 0 _ rfl).1,World.block_lt_of_cell? _ _ ((BB.later DD) 0 _ rfl).1⟩
 ·intro L lx wl i o K1 hK ho hL haf hI;obtain ⟨f0,f1,f2,f3,f4,f5,f6,f7,f8,f9,f10,f11,f12,f13,f14,f15,f16,f17,f18,f19,f20,f21⟩:=hI.out
  match i,ho,hL,haf,hK with
  | 0,ho,hL,haf,hK =>
   cases ho
   (try dsimp only)
   obtain ⟨a0,a1,a2⟩:=Vec.three f2;go_wp2_with fail;exact hK (fun jj=>if jj=16 then Value.agg #[.int .i64 R1,.int .i64 C1,.slice p1 n1 c1] else lx jj) _ ⟨f0,f1,f2,f3,f4,f5,f6,f7,f8,f9,(fun _=>rfl),f11,f12,f13,f14,f15,f16,f17,f18,f19,f20,f21⟩
  | 1,ho,hL,haf,hK =>
   cases ho
   (try dsimp only)
   obtain ⟨a0,a1,a2⟩:=Vec.three f3;go_wp2_with fail;exact hK (fun jj=>if jj=17 then Value.agg #[.int .i64 R2,.int .i64 C2,.slice p2 n2 c2] else lx jj) _ ⟨f0,f1,f2,f3,f4,f5,f6,f7,f8,f9,f10,(fun _=>rfl),f12,f13,f14,f15,f16,f17,f18,f19,f20,f21⟩
  | 2,ho,hL,haf,hK =>
   cases ho
   (try dsimp only)
   go_wp2_with fail;exact hK (fun jj=>if jj=18 then Value.pointer (some ⟨w.heap.size+1+1,0,none⟩) else lx jj) _ ⟨f0,f1,f2,f3,f4,f5,f6,f7,f8,f9,f10,f11,(fun _=>rfl),f13,f14,f15,f16,f17,f18,f19,f20,f21⟩
  | 3,ho,hL,haf,hK =>
   cases ho
   (try dsimp only)
   rw [f12 (haf ⟨2,.data⟩ (by simp) rfl)];go_wp2_with fail;have CW:=f1;rw [hL] at CW;refine (pickC (w.heap.size+1+1) w.heap.size _ 3 wl CW (by split <;> split <;> omega) (by omega) (by omega)).mono ?_;rintro rr w' ⟨z,rfl,zb,CC,o⟩;go_wp2_with fail;exact hK (fun jj=>if jj=19 then .int .i64 z else if jj=18 then Value.pointer (some ⟨w.heap.size+1+1,0,none⟩) else lx jj) _ ⟨Only.ext f0 o (by omega),CC.more (by show _≤0+2000+2000+2+(if L 6=true then 2 else 0);cases L 6 <;> decide),o.vecC (by omega) f2,o.vecC (by omega) f3,(fun z=>o.vecC (by omega) (f4 z)),(fun z=>o.vecC (by omega) (f5 z)),(fun z=>o.vecC (by omega) (f6 z)),(fun z=>o.vecC (by omega) (f7 z)),f8.only o (fun q hq=>by have:=lb1 q hq;omega),f9.only o (fun q hq=>by have:=lb2 q hq;omega),f10,f11,(fun _=>rfl),(fun _=>⟨z,rfl,zb⟩),f14,f15,f16,f17,f18,f19,Nat.lt_of_lt_of_le f20 o.size,Nat.lt_of_lt_of_le f21 o.size⟩
  | 4,ho,hL,haf,hK =>
   cases ho
   (try dsimp only)
   obtain ⟨z,ez,z0,z9⟩:=f13 (haf ⟨3,.data⟩ (by simp) rfl);rw [ez];go_wp2_with fail;exact hK (fun jj=>if jj=20 then .int .i64 (1+z) else if jj=19 then .int .i64 z else lx jj) _ ⟨f0,f1,f2,f3,f4,f5,f6,f7,f8,f9,f10,f11,f12,(fun _=>⟨z,rfl,z0,z9⟩),(fun _=>⟨1+z,rfl,by omega,by omega⟩),f15,f16,f17,f18,f19,f20,f21⟩
  | 5,ho,hL,haf,hK =>
   cases ho
   (try dsimp only)
   go_wp2_with fail;exact hK (fun jj=>if jj=21 then Value.pointer (some ⟨w.heap.size+1+1,0,none⟩) else lx jj) _ ⟨f0,f1,f2,f3,f4,f5,f6,f7,f8,f9,f10,f11,f12,f13,f14,(fun _=>rfl),f16,f17,f18,f19,f20,f21⟩
  | 6,ho,hL,haf,hK =>
   cases ho
   (try dsimp only)
   rw [f15 (haf ⟨5,.data⟩ (by simp) rfl)];go_wp2_with fail;have CW:=f1;rw [hL] at CW;refine (pickC (w.heap.size+1+1) w.heap.size _ 3 wl CW (by split <;> split <;> omega) (by omega) (by omega)).mono ?_;rintro rr w' ⟨z,rfl,zb,CC,o⟩;go_wp2_with fail;exact hK (fun jj=>if jj=22 then .int .i64 z else if jj=21 then Value.pointer (some ⟨w.heap.size+1+1,0,none⟩) else lx jj) _ ⟨Only.ext f0 o (by omega),CC.more (by show _≤0+2000+2000+(if L 3=true then 2 else 0)+2;cases L 3 <;> decide),o.vecC (by omega) f2,o.vecC (by omega) f3,(fun z=>o.vecC (by omega) (f4 z)),(fun z=>o.vecC (by omega) (f5 z)),(fun z=>o.vecC (by omega) (f6 z)),(fun z=>o.vecC (by omega) (f7 z)),f8.only o (fun q hq=>by have:=lb1 q hq;omega),f9.only o (fun q hq=>by have:=lb2 q hq;omega),f10,f11,f12,f13,f14,(fun _=>rfl),(fun _=>⟨z,rfl,zb⟩),f17,f18,f19,Nat.lt_of_lt_of_le f20 o.size,Nat.lt_of_lt_of_le f21 o.size⟩
  | 7,ho,hL,haf,hK =>
   cases ho
   (try dsimp only)
   obtain ⟨z,ez,z0,z9⟩:=f16 (haf ⟨6,.data⟩ (by simp) rfl);rw [ez];go_wp2_with fail;exact hK (fun jj=>if jj=23 then .int .i64 (1+z) else if jj=22 then .int .i64 z else lx jj) _ ⟨f0,f1,f2,f3,f4,f5,f6,f7,f8,f9,f10,f11,f12,f13,f14,f15,(fun _=>⟨z,rfl,z0,z9⟩),(fun _=>⟨1+z,rfl,by omega,by omega⟩),f18,f19,f20,f21⟩
  | 8,ho,hL,haf,hK =>
   cases ho
   (try dsimp only)
   have bx:=f4 hL;rw [f10 (haf ⟨0,.data⟩ (by simp) rfl)];obtain ⟨b0,b1,b2⟩:=Vec.three bx;obtain ⟨fb0,fb1,fb2⟩:=Vec.threeF bx;have hX:=Ext.setL (b:=w.heap.size) (by omega) [.int .i64 R1,.int .i64 C1,.slice p1 n1 c1] 0 f0;have hB:=bx.put3 (.int .i64 R1) (.int .i64 C1) (.slice p1 n1 c1);have q1:RowAt (setL wl (w.heap.size) 0 [.int .i64 R1,.int .i64 C1,.slice p1 n1 c1]) (.slice p1 n1 c1) l1.length (flatV l1):=RowAt.far (by rw [HN1.out];exact f8) bx [.int .i64 R1,.int .i64 C1,.slice p1 n1 c1];rw [HN1.out] at q1;have q2:RowAt (setL wl (w.heap.size) 0 [.int .i64 R1,.int .i64 C1,.slice p1 n1 c1]) (.slice p2 n2 c2) l2.length (flatV l2):=RowAt.far (by rw [HN2.out];exact f9) bx [.int .i64 R1,.int .i64 C1,.slice p1 n1 c1];rw [HN2.out] at q2;have CF:=((f1.far (g:=w.heap.size) (i:=0) (by omega) (by omega) (.int .i64 R1)).far (g:=w.heap.size) (i:=1) (by omega) (by omega) (.int .i64 C1)).far (g:=w.heap.size) (i:=2) (by omega) (by omega) (.slice p1 n1 c1);go_wp2_with fail;exact hK (fun jj=>if jj=16 then Value.agg #[.int .i64 R1,.int .i64 C1,.slice p1 n1 c1] else lx jj) _ ⟨hX,CF,Vec.farL (k:=w.heap.size) (by omega) [.int .i64 R1,.int .i64 C1,.slice p1 n1 c1] 0 f2,Vec.farL (k:=w.heap.size) (by omega) [.int .i64 R1,.int .i64 C1,.slice p1 n1 c1] 0 f3,(fun z=>by cases z),(fun _=>hB),(fun z=>Vec.farL (k:=w.heap.size) (by omega) [.int .i64 R1,.int .i64 C1,.slice p1 n1 c1] 0 (f6 z)),(fun z=>Vec.farL (k:=w.heap.size) (by omega) [.int .i64 R1,.int .i64 C1,.slice p1 n1 c1] 0 (f7 z)),q1,q2,(fun _=>rfl),f11,f12,f13,f14,f15,f16,f17,f18,f19,(by simp only [World.size_setCell];exact f20),(by simp only [World.size_setCell];exact f21)⟩
  | 9,ho,hL,haf,hK =>
   cases ho
   (try dsimp only)
   have bx:=f6 hL;rw [f11 (haf ⟨1,.data⟩ (by simp) rfl)];obtain ⟨b0,b1,b2⟩:=Vec.three bx;obtain ⟨fb0,fb1,fb2⟩:=Vec.threeF bx;have hX:=Ext.setL (b:=(w.heap.size+1)) (by omega) [.int .i64 R2,.int .i64 C2,.slice p2 n2 c2] 0 f0;have hB:=bx.put3 (.int .i64 R2) (.int .i64 C2) (.slice p2 n2 c2);have q1:RowAt (setL wl ((w.heap.size+1)) 0 [.int .i64 R2,.int .i64 C2,.slice p2 n2 c2]) (.slice p1 n1 c1) l1.length (flatV l1):=RowAt.far (by rw [HN1.out];exact f8) bx [.int .i64 R2,.int .i64 C2,.slice p2 n2 c2];rw [HN1.out] at q1;have q2:RowAt (setL wl ((w.heap.size+1)) 0 [.int .i64 R2,.int .i64 C2,.slice p2 n2 c2]) (.slice p2 n2 c2) l2.length (flatV l2):=RowAt.far (by rw [HN2.out];exact f9) bx [.int .i64 R2,.int .i64 C2,.slice p2 n2 c2];rw [HN2.out] at q2;have CF:=((f1.far (g:=(w.heap.size+1)) (i:=0) (by omega) (by omega) (.int .i64 R2)).far (g:=(w.heap.size+1)) (i:=1) (by omega) (by omega) (.int .i64 C2)).far (g:=(w.heap.size+1)) (i:=2) (by omega) (by omega) (.slice p2 n2 c2);go_wp2_with fail;exact hK (fun jj=>if jj=17 then Value.agg #[.int .i64 R2,.int .i64 C2,.slice p2 n2 c2] else lx jj) _ ⟨hX,CF,Vec.farL (k:=(w.heap.size+1)) (by omega) [.int .i64 R2,.int .i64 C2,.slice p2 n2 c2] 0 f2,Vec.farL (k:=(w.heap.size+1)) (by omega) [.int .i64 R2,.int .i64 C2,.slice p2 n2 c2] 0 f3,(fun z=>Vec.farL (k:=(w.heap.size+1)) (by omega) [.int .i64 R2,.int .i64 C2,.slice p2 n2 c2] 0 (f4 z)),(fun z=>Vec.farL (k:=(w.heap.size+1)) (by omega) [.int .i64 R2,.int .i64 C2,.slice p2 n2 c2] 0 (f5 z)),(fun z=>by cases z),(fun _=>hB),q1,q2,f10,(fun _=>rfl),f12,f13,f14,f15,f16,f17,f18,f19,(by simp only [World.size_setCell];exact f20),(by simp only [World.size_setCell];exact f21)⟩
  | 10,ho,hL,haf,hK =>
   cases ho
   (try dsimp only)
   obtain ⟨z,ez,z0,z9⟩:=f14 (haf ⟨4,.data⟩ (by simp) rfl);rw [ez];go_wp2_with fail;exact hK (fun jj=>if jj=4 then .int .i64 z else if jj=20 then .int .i64 z else lx jj) _ ⟨f0,f1,f2,f3,f4,f5,f6,f7,f8,f9,f10,f11,f12,f13,(fun _=>⟨z,rfl,z0,z9⟩),f15,f16,f17,(fun _=>⟨z,rfl,z0,z9⟩),f19,f20,f21⟩
  | 11,ho,hL,haf,hK =>
   cases ho
   (try dsimp only)
   obtain ⟨z,ez,z0,z9⟩:=f17 (haf ⟨7,.data⟩ (by simp) rfl);rw [ez];go_wp2_with fail;exact hK (fun jj=>if jj=5 then .int .i64 z else if jj=23 then .int .i64 z else lx jj) _ ⟨f0,f1,f2,f3,f4,f5,f6,f7,f8,f9,f10,f11,f12,f13,f14,f15,f16,(fun _=>⟨z,rfl,z0,z9⟩),f18,(fun _=>⟨z,rfl,z0,z9⟩),f20,f21⟩
  | k+12,ho,_,_,_=>simp at ho
 ·intro L lx w9 hall hI;obtain ⟨f0,f1,f2,f3,f4,f5,f6,f7,f8,f9,f10,f11,f12,f13,f14,f15,f16,f17,f18,f19,f20,f21⟩:=hI.out;clear hI;have W0:=f5 (hall 8 (by simp));have W1:=f7 (hall 9 (by simp));obtain ⟨lt,e4,t1⟩:=f18 (hall 10 (by simp));obtain ⟨rt,e5,t2⟩:=f19 (hall 11 (by simp));have v1:ValsIn w9 (.slice p1 n1 c1) l1:=RowAt.vals (by rw [HN1.out];exact f8);have v2:ValsIn w9 (.slice p2 n2 c2) l2:=RowAt.vals (by rw [HN2.out];exact f9);have XF:=f0
  (try dsimp only)
  rw [e4,e5];obtain ⟨a0,a1,a2⟩:=Vec.three W0;obtain ⟨d0,d1,d2⟩:=Vec.three W1;clear hall f0 f1 f2 f3 f4 f5 f6 f7 f8 f9 f10 f11 f12 f13 f14 f15 f16 f17 f18 f19 f20 f21;go_wp2_with fail;exact bodyPost_ret (v:=.tuple #[grV R1 C1 (.slice p1 n1 c1),grV R2 C2 (.slice p2 n2 c2),.int .i64 lt,.int .i64 rt]) (by simp [results,Tryd.results4,go_sem,a0,a1,a2,d0,d1,d2]) rfl ⟨⟨_,_,_,l1,_,_,_,l2,lt,rt,rfl,t1,t2,⟨v1,by rw [HN1.out];exact hl1,hE1⟩,v2,by rw [HN2.out];exact hl2,hE2⟩,XF⟩
abbrev numV (x:Nat):Value:=.int .i64 (x:Int)
def NumsAt (w:World) (v:Value) (l:List Nat):Prop:=∃ p cap,v=.slice p l.length cap∧l.length≤cap∧(0<l.length→∃ g,p=some ⟨g,0,none⟩∧Vec w g (l.map numV))
theorem vec_lt {w:World} {g:Nat} {l:List Value} (h:Vec w g l) (hl:0<l.length):g<w.heap.size:=by
 cases l with
 | nil=>simp at hl
 | cons u l=>exact World.block_lt_of_cell? _ _ (h 0 u rfl).1
theorem vec_keep {w w':World} {g:Nat} {l:List Value} {row:Option Nat} (h:Vec w g l) (hg:w.grownBy w' row) (hr:some g ≠ row):Vec w' g l:=by
 intro i v hi;have hlt:=vec_lt h (by have:=(List.getElem?_eq_some_iff.1 hi).1;omega);have hb:=hg.block g hlt hr;obtain ⟨a,f⟩:=h i v hi;refine ⟨?_,?_⟩
 ·unfold World.cell? at a ⊢;rw [hb];exact a
 ·unfold World.frozen? at f ⊢;rw [hb];exact f
abbrev OwnI (w:World) (base:Nat) (v:Value) (l:List Nat):Prop:=w.ownsRow base 3 1 v l.length (l.map numV)
theorem ownI_later {w w':World} {base:Nat} {v:Value} {l:List Nat} (h:OwnI w base v l) (hx:Ext w w'):OwnI w' base v l:=by
 refine ⟨h.1,h.2.imp id ?_⟩;rintro ⟨g,cap,cur,h1,h2,h3,h4⟩;have hlt:g<w.heap.size:=by
  rcases Nat.lt_or_ge g w.heap.size with h' | h'
  ·exact h'
  ·rw [Array.getElem?_eq_none h'] at h3;cases h3
 exact ⟨g,cap,cur,h1,h2,by rw [hx.block g hlt];exact h3,h4⟩
theorem ownI_slice {w:World} {base:Nat} {v:Value} {l:List Nat} (h:OwnI w base v l):∃ p c,v=.slice p l.length c∧l.length≤c:=by
 rcases h.2 with ⟨rfl,h0⟩ | ⟨g,cap,cur,rfl,_,_,h3,_⟩
 ·exact ⟨none,0,by rw [h0],by omega⟩
 ·exact ⟨_,_,rfl,h3⟩
theorem ownI_block {w:World} {base:Nat} {v:Value} {l:List Nat} (h:OwnI w base v l):∀ r,v.ownBlock=some r→base≤r:=by
 intro r hr
 rcases h.2 with ⟨rfl,_⟩ | ⟨g,cap,cur,rfl,h2,_⟩
 ·cases hr
 ·have:g=r:=by simpa [Value.ownBlock] using hr
  omega
theorem ownI_nil (w:World) (base:Nat):OwnI w base (.slice none 0 0) []:=World.ownsRow_nil _ _ _ _
theorem ownI_nums {w:World} {base:Nat} {v:Value} {l:List Nat} (h:OwnI w base v l):NumsAt w v l:=by
 rcases h.2 with ⟨rfl,h0⟩ | ⟨g,cap,cur,rfl,hb,hg,hc,hz,hcs,htake⟩
 ·exact ⟨none,0,by rw [h0],by omega,fun h=>absurd h0 (by omega)⟩
 ·refine ⟨_,cap,rfl,hc,fun _=>⟨g,rfl,fun i u hi=>?_⟩⟩;have hcell:=h.cells (g:=g) rfl i u hi;rw [show (⟨g,0,none⟩:Addr).add i=⟨g,i,none⟩ by unfold Addr.add;split <;> simp_all] at hcell;refine ⟨hcell,?_⟩;unfold World.frozen?;rw [hg];simp
theorem infoI:∃ inf,Tryd.prog.info? 3=some inf∧inf.zero=some (.int .i64 0)∧inf.size=1∧inf.bytes=8:=by
 have h:(Tryd.prog.info? 3).map (fun i=>(i.zero,i.size,i.bytes))=some (some (.int .i64 0),1,8):=by kernel_rfl
 cases h':Tryd.prog.info? 3 with
 | none=>rw [h'] at h;cases h
 | some inf =>
  rw [h'] at h;simp at h;exact ⟨inf,rfl,h.1,h.2.1,h.2.2⟩
def cel (l:List VT) (k:Nat):VT:=l.getD k zeroVT
theorem cel_at {l:List VT} {k:Nat} (h:k<l.length):l[k]?=some (cel l k):=by
 rw [List.getElem?_eq_getElem h];simp [cel,h]
theorem cel_mem {l:List VT} {k:Nat} (h:k<l.length):cel l k ∈ l:=List.mem_of_getElem? (cel_at h)
set_option maxRecDepth 8000 in
set_option maxHeartbeats 2000000 in
theorem atI (r:Int) (c:Nat) (v:Value) (l:List VT) (i j:Nat) (w:World) (h:ValsIn w v l) (hl:l.length≤2000) (hk:i * c+j<l.length) :
  Calls Tryd.prog 16 #[grV r c v,.int .i64 i,.int .i64 j] w fun e w'=>e=.returned (cel l (i * c+j)).val∧Ext w w':=by
 obtain ⟨pp,cap,rfl,hcap,hrow⟩:=h;have he:=cel_at hk;obtain ⟨e,hee⟩:∃ e,cel l (i * c+j)=e:=⟨_,rfl⟩;rw [hee] at he ⊢;obtain ⟨N,hN⟩:∃ N,l.length=N:=⟨_,rfl⟩;obtain ⟨m,hm⟩:∃ m,i * c=m:=⟨_,rfl⟩;have hm':(i:Int) * (c:Int)=(m:Int):=by rw [← hm];simp
 rw [hN] at hcap hl hk hrow ⊢;rw [hm] at hk he;obtain ⟨b,o,hpp,hrw⟩:=hrow (by omega);subst hpp;have hmj:(m:Int)+(j:Int)=((m+j:Nat):Int):=by omega
 obtain ⟨q,hq⟩:∃ q,m+j=q:=⟨_,rfl⟩;rw [hq] at hmj hk he;have q1:(q:Int)<(N:Int):=by omega
 have m0:(m:Int)≤2000:=by omega
 have j0:(j:Int)≤2000:=by omega
 obtain ⟨u0,u1,h0,h1,s0,s1,B0,B1,X⟩:=mkB2 w [.int .i64 r,.int .i64 c,.slice (some ⟨b,o,none⟩) N cap] [.int .i64 0,.bool false,.int .i64 0,.int .i64 0,sV []] 25 46;obtain ⟨a0,a1,a2⟩:=Vec.three (B0);obtain ⟨d0,d1,d2,d3,d4⟩:=(hrw.later X).five he;obtain ⟨wy,hy,FX,⟨b0,b1,b2,b3,b4⟩,⟨fb0,fb1,fb2,fb3,fb4⟩,fd0,fd1,fd2,fd3,fd4⟩:=fin5 B1 X (by omega) e.k e.n e.d e.x e.t;clear hee hm hq hN hrow hrw he;go_enter Tryd.func16,Tryd.ntmps16;go_wp2_with fail;exact bodyPost_ret (v:=e.val) (by simp [results,Tryd.results16,go_sem,fd0,fd1,fd2,fd3,fd4]) rfl ⟨rfl,FX⟩
def colL (l:List VT) (c j n:Nat):List VT:=(List.range n).map fun i=>cel l (i * c+j)
theorem colL_length (l:List VT) (c j n:Nat):(colL l c j n).length=n:=by simp [colL]
theorem colL_succ (l:List VT) (c j n:Nat):colL l c j (n+1)=colL l c j n++[cel l (n * c+j)]:=by simp [colL,List.range_succ]
theorem colL_at (l:List VT) (c j n:Nat) {i:Nat} (hi:i<n):(colL l c j n)[i]?=some (cel l (i * c+j)):=by simp [colL,hi]
theorem place_lt {i r c j:Nat} (hi:i<r) (hj:j<c):i * c+j<r * c:=by
 have:(i+1) * c≤r * c:=Nat.mul_le_mul_right c hi;rw [Nat.add_mul,Nat.one_mul] at this;omega
set_option maxRecDepth 8000 in
set_option maxHeartbeats 2000000 in
theorem columnI (r c:Nat) (v:Value) (l:List VT) (j:Nat) (w:World) (h:ValsIn w v l) (hl:l.length=r * c) (h2:l.length≤2000) (hj:j<c) (hr:r≤2000) :
  Calls Tryd.prog 13 #[grV r c v,.int .i64 j] w fun e w'=>∃ sv,e=.returned sv∧OwnW w' w.heap.size sv (colL l c j r)∧Ext w w':=by
 have AT:Hid (∀ (W:World) (i:Nat),ValsIn W v l→i<r→Calls Tryd.prog 16 #[grV r c v,.int .i64 i,.int .i64 j] W fun e w'=>e=.returned (cel l (i * c+j)).val∧Ext W w'):=fun W i hW hi=>atI r c v l i j W hW h2 (by rw [hl];exact place_lt hi hj);have HV:Hid (ValsIn w v l):=h;have X0:=x1 w (.cells #[.int .i64 r,.int .i64 c,v] 25);have B0:=vec_made w [.int .i64 r,.int .i64 c,v] 25;have S0:(w.alloc (.cells #[.int .i64 r,.int .i64 c,v] 25)).heap.size=w.heap.size+1:=by rw [World.size_alloc]
 obtain ⟨u0,hu0⟩:∃ u,w.alloc (.cells #[.int .i64 r,.int .i64 c,v] 25)=u:=⟨_,rfl⟩;change Vec (w.alloc (.cells #[.int .i64 r,.int .i64 c,v] 25)) _ _ at B0;rw [hu0] at X0 B0 S0;obtain ⟨a0,a1,a2⟩:=Vec.three B0;clear h hl h2;go_enter Tryd.func13,Tryd.ntmps13;go_wp2_with fail;clear a0 a1 a2;go_loopw [5,9] (fun s i wr=>∃ (k n cc:Nat) (p:Option Addr),k≤r∧i=.int .i64 k∧s=.slice p n cc∧Hid (OwnW wr (w.heap.size+1) (.slice p n cc) (colL l c j k)∧Ext u0 wr)) (fun _ i _=>r - (intOf i).toNat)
 case atStart=>exact ⟨0,0,0,none,by omega,rfl,rfl,World.ownsRow_nil _ _ _ _,xr _⟩
 case round =>
  obtain ⟨k,n,cc,p,hk,rfl,rfl,HO⟩:=hrel;have B1:=B0.later HO.out.2;by_cases hlt:k<r
  ·have i2:(k:Int)<(r:Int):=by omega
   have CA:=AT.out wr k (HV.out.later (xt X0 HO.out.2)) hlt;obtain ⟨⟨ek,en,ed,ex,et⟩,he⟩:∃ e,cel l (k * c+j)=e:=⟨_,rfl⟩;rw [he] at CA;have HE:Hid (cel l (k * c+j)=⟨ek,en,ed,ex,et⟩):=he;obtain ⟨a0,a1,a2⟩:=Vec.three B1;clear he;go_wp2_with fail;refine CA.mono ?_;rintro z w1 ⟨rfl,e1⟩;have OQ:Hid (OwnW w1 (w.heap.size+1) (.slice p n cc) (colL l c j k)):=ownW_later HO.out.1 e1;have Y1:=xt HO.out.2 e1;obtain ⟨inf,hi,hz,hz1,hz2⟩:=infoW;have lk:=colL_length l c j k;have hs1:w.heap.size+1≤w1.heap.size:=by have:=Y1.size;omega
   clear a0 a1 a2 B1 CA HO;go_wp2_with (at_builtin;refine wpList_append_own _ rfl _ _ 23 rfl (w.heap.size+1) 46 inf (valV 0 false 0 0 []) 5 48 Tryd.underlying23 hi hz hz1 hz2 rfl (by decide) _ _ _ rfl (OQ.out.alloc _) ⟨w1.heap.size,0,none⟩ 1 1 [.int .i64 ek,.bool en,.int .i64 ed,.int .i64 ex,sV et] rfl rfl (World.news_of_block (heap_alloc_new _ _)) (by simp [Value.oneCell']) (by simp only [maxLen,lk];omega) (by rw [lk];omega) (by simp;omega) ?_);intro v7 wC ownC gC _;have lb:=ownW_block OQ.out;have Y5:Ext u0 wC:=(xa Y1 _).grown gC (xa Y1 _).size (fun r hr=>by have:=lb r hr;omega);have OC:OwnW wC (w.heap.size+1) v7 (colL l c j (k+1)):=by
    rw [colL_succ,HE.out];show World.ownsRow _ _ _ _ _ _ _;rw [flatV_append,List.length_append,lk];exact ownC
   obtain ⟨p7,n7,c7,rfl⟩:=ownW_slice OC;have HN:Hid (OwnW wC (w.heap.size+1) (.slice p7 n7 c7) (colL l c j (k+1))∧Ext u0 wC):=⟨OC,Y5⟩;clear ownC gC lb OQ Y1 hi hz hz1 hz2 Y5 OC;go_wp2_with fail;go_roundw
   case rel=>exact ⟨k+1,n7,c7,p7,by omega,by go_num,rfl,HN⟩
   case measure=>simp [intOf];omega
  ·obtain rfl:k=r:=by omega
   have i2:¬ (k:Int)<(k:Int):=by omega
   go_wp2_with fail;go_ret;exact ⟨_,rfl,ownW_base HO.out.1 (by omega),xt X0 HO.out.2⟩
set_option maxHeartbeats 1000000 in
theorem lacksI (r c:Int) (v:Value) (x:Int) (w:World) :
  Calls Tryd.prog 11 #[grV r c v,.int .i64 x] w fun e w'=>e=.returned (.bool (decide (x<1∨c<x)))∧Ext w w':=by
 have X0:=x1 w (.cells #[.int .i64 r,.int .i64 c,v] 25);have B0:=vec_made w [.int .i64 r,.int .i64 c,v] 25;obtain ⟨a0,a1,a2⟩:=Vec.three B0;by_cases h1:x<1
 ·rw [decide_eq_true (Or.inl h1)];have f1:decide (x<1)=true:=decide_eq_true h1;go_enter Tryd.func11,Tryd.ntmps11;go_wp2_with fail;go_ret;exact ⟨rfl,X0⟩
 ·have f1:decide (x<1)=false:=decide_eq_false h1;have e:decide (x<1∨c<x)=decide (c<x):=decide_eq_decide.2 ⟨fun h=>h.resolve_left h1,Or.inr⟩;rw [e];go_enter Tryd.func11,Tryd.ntmps11;go_wp2_with fail;go_ret;exact ⟨rfl,X0⟩
structure Asks (f:Nat) (lb:Array Value) (l:List Nat) (p:Nat→Bool) (I:World→Prop):Prop where
 ent:∀ args w,(callFunc f args).run Tryd.prog w=.ok (.enter f args) w
 says:∀ W x,I W→x ∈ l→Calls Tryd.prog f (#[numV x]++lb) W fun e w'=>e=.returned (.bool (p x))∧Ext W w'
 later:∀ W W',I W→Ext W W'→I W'
structure Kept (l:List Nat) (p:Nat→Bool) (j i:Nat) (M:List Nat):Prop where
 len:M.length=l.length
 lt:i<j
 le:j≤l.length
 ahead:M.take i=(l.take j).filter fun x=>!p x
 rest:∀ t,j≤t→M[t]?=l[t]?
set_option maxRecDepth 8000 in
set_option maxHeartbeats 1000000 in
theorem capsI (l:List UInt8) (w:World) (hl:l.length≤2000000) :
  Calls Tryd.prog 44 #[sV l] w fun e w'=>e=.returned (sV (l.map upC))∧Ext w w':=by
 obtain ⟨cap,wb,hcv,hcap,X0,V0⟩:=bytes_made l w;obtain ⟨n,hn⟩:∃ n,l.length=n:=⟨_,rfl⟩;rw [hn] at hcv hcap hl;have HN:Hid (l.length=n):=hn;have V0':Hid (Vec wb w.heap.size (encB (upK l 0))):=by show Vec _ _ _;rw [upK_zero];exact V0
 clear hn V0;go_enter Tryd.func44,Tryd.ntmps44;go_wp2_with fail;clear hcv;go_loopw [10] (fun i wr=>∃ k:Nat,k≤n∧i=.int .i64 k∧Hid (Vec wr w.heap.size (encB (upK l k)))∧Ext w wr) (fun i _=>n - (intOf i).toNat)
 case atStart=>exact ⟨0,by omega,rfl,V0',X0⟩
 case round =>
  obtain ⟨k,hk,rfl,V,X⟩:=hrel;by_cases hlt:k<n
  ·obtain ⟨c,hc⟩:∃ c,l[k]?=some c:=⟨_,List.getElem?_eq_getElem (by rw [HN.out];exact hlt)⟩;obtain ⟨a0,f0⟩:=V.out k _ (encB_at (upK_at hc));have i1:(0:Int)≤(k:Int):=by omega
   have i2:(k:Int)<(n:Int):=by omega
   have hz:c.toNat<256:=UInt8.toNat_lt c;have VP:=V.out.put k (by rw [encB_length,upK_length,HN.out];exact hlt) (.int .u8 ((upC c).toNat:Int));have es:(encB (upK l k)).set k (.int .u8 ((upC c).toNat:Int))=encB (upK l (k+1)):=by rw [upK_succ hc];simp [encB,List.map_set]
   rw [es] at VP;by_cases hs:97≤c.toNat∧c.toNat≤122
   ·have eu:=upC_small hs;rw [eu] at VP;have HV:Hid (Vec (wr.setCell ⟨w.heap.size,k,none⟩ (.int .u8 ((c.toNat:Int) - 32))) w.heap.size (encB (upK l (k+1)))):=VP;obtain ⟨z,ez⟩:∃ z:Int,(c.toNat:Int)=z:=⟨_,rfl⟩;rw [ez] at a0 HV;have z1:97≤z:=(by omega);have z2:z≤122:=(by omega);clear V VP es eu hc hs ez hz;go_wp2_with fail;go_roundw
    case rel=>exact ⟨k+1,by omega,by go_num,by first | exact HV | (show Vec _ _ _;have:=HV.out;rw [show z - 97+65=z - 32 by omega];exact this),xset X (Nat.le_refl _) _⟩
    case measure=>simp [intOf];omega
   ·have eu:=upC_other hs;have HV:Hid (Vec wr w.heap.size (encB (upK l (k+1)))):=by
     show Vec _ _ _;have:upK l (k+1)=upK l k:=by
      rw [upK_succ hc,eu];exact List.ext_getElem? fun i=>by
       rw [List.getElem?_set]
       split
       ·next e=>subst e;rw [if_pos (by rw [upK_length,HN.out];exact hlt)];exact (upK_at hc).symm
       ·rfl
     rw [this];exact V.out
    obtain ⟨z,ez⟩:∃ z:Int,(c.toNat:Int)=z:=⟨_,rfl⟩;rw [ez] at a0;have z3:0≤z∧z≤255:=(by omega);have z4:z<97∨122<z:=(by omega);clear V VP es eu hc hs ez hz
    rcases z4 with z4 | z4
    ·go_wp2_with fail;go_roundw
     case rel=>exact ⟨k+1,by omega,by go_num,HV,X⟩
     case measure=>simp [intOf];omega
    ·have z5:97≤z:=(by omega);go_wp2_with fail;go_roundw
     case rel=>exact ⟨k+1,by omega,by go_num,HV,X⟩
     case measure=>simp [intOf];omega
  ·obtain rfl:k=n:=by omega
   have hb:=bytes_back (l.map upC) w.heap.size cap wr (by have:=V.out;rw [← HN.out,upK_all] at this;exact this);rw [List.length_map,HN.out] at hb;go_wp2_with fail;go_ret;exact ⟨rfl,X⟩
set_option maxRecDepth 8000 in
set_option maxHeartbeats 1000000 in
theorem capsS (l:List UInt8) (w:World) (hl:l.length≤2000000) :
  Calls Tryd.prog 51 #[sV l] w fun e w'=>e=.returned (sV (l.map upC))∧Ext w w':=by
 obtain ⟨cap,wb,hcv,hcap,X0,V0⟩:=bytes_made l w;obtain ⟨n,hn⟩:∃ n,l.length=n:=⟨_,rfl⟩;rw [hn] at hcv hcap hl;have HN:Hid (l.length=n):=hn;have V0':Hid (Vec wb w.heap.size (encB (upK l 0))):=by show Vec _ _ _;rw [upK_zero];exact V0
 clear hn V0;go_enter Tryd.func51,Tryd.ntmps51;go_wp2_with fail;clear hcv;go_loopw [10] (fun i wr=>∃ k:Nat,k≤n∧i=.int .i64 k∧Hid (Vec wr w.heap.size (encB (upK l k)))∧Ext w wr) (fun i _=>n - (intOf i).toNat)
 case atStart=>exact ⟨0,by omega,rfl,V0',X0⟩
 case round =>
  obtain ⟨k,hk,rfl,V,X⟩:=hrel;by_cases hlt:k<n
  ·obtain ⟨c,hc⟩:∃ c,l[k]?=some c:=⟨_,List.getElem?_eq_getElem (by rw [HN.out];exact hlt)⟩;obtain ⟨a0,f0⟩:=V.out k _ (encB_at (upK_at hc));have i1:(0:Int)≤(k:Int):=by omega
   have i2:(k:Int)<(n:Int):=by omega
   have hz:c.toNat<256:=UInt8.toNat_lt c;have VP:=V.out.put k (by rw [encB_length,upK_length,HN.out];exact hlt) (.int .u8 ((upC c).toNat:Int));have es:(encB (upK l k)).set k (.int .u8 ((upC c).toNat:Int))=encB (upK l (k+1)):=by rw [upK_succ hc];simp [encB,List.map_set]
   rw [es] at VP;by_cases hs:97≤c.toNat∧c.toNat≤122
   ·have eu:=upC_small hs;rw [eu] at VP;have HV:Hid (Vec (wr.setCell ⟨w.heap.size,k,none⟩ (.int .u8 ((c.toNat:Int) - 32))) w.heap.size (encB (upK l (k+1)))):=VP;obtain ⟨z,ez⟩:∃ z:Int,(c.toNat:Int)=z:=⟨_,rfl⟩;rw [ez] at a0 HV;have z1:97≤z:=(by omega);have z2:z≤122:=(by omega);clear V VP es eu hc hs ez hz;go_wp2_with fail;go_roundw
    case rel=>exact ⟨k+1,by omega,by go_num,HV,xset X (Nat.le_refl _) _⟩
    case measure=>simp [intOf];omega
   ·have eu:=upC_other hs;have HV:Hid (Vec wr w.heap.size (encB (upK l (k+1)))):=by
     show Vec _ _ _;have:upK l (k+1)=upK l k:=by
      rw [upK_succ hc,eu];exact List.ext_getElem? fun i=>by
       rw [List.getElem?_set]
       split
       ·next e=>subst e;rw [if_pos (by rw [upK_length,HN.out];exact hlt)];exact (upK_at hc).symm
       ·rfl
     rw [this];exact V.out
    obtain ⟨z,ez⟩:∃ z:Int,(c.toNat:Int)=z:=⟨_,rfl⟩;rw [ez] at a0;have z3:0≤z∧z≤255:=(by omega);have z4:z<97∨122<z:=(by omega);clear V VP es eu hc hs ez hz
    rcases z4 with z4 | z4
    ·go_wp2_with fail;go_roundw
     case rel=>exact ⟨k+1,by omega,by go_num,HV,X⟩
     case measure=>simp [intOf];omega
    ·have z5:97≤z:=(by omega);go_wp2_with fail;go_roundw
     case rel=>exact ⟨k+1,by omega,by go_num,HV,X⟩
     case measure=>simp [intOf];omega
  ·obtain rfl:k=n:=by omega
   have hb:=bytes_back (l.map upC) w.heap.size cap wr (by have:=V.out;rw [← HN.out,upK_all] at this;exact this);rw [List.length_map,HN.out] at hb;go_wp2_with fail;go_ret;exact ⟨rfl,X⟩
def besideV (k:Int) (n:Bool) (d x:Int) (t:List UInt8) (k':Int):Value:=
 if k ≠ 0 then valV k n d x t else if k'=1 then valV 1 false 0 0 [] else if k'=2 then valV 2 false 0 0 [] else if k'=3 then valV 3 false 0 0 falseT else valV k n d x t
set_option maxRecDepth 8000 in
set_option maxHeartbeats 2000000 in
theorem likeS (k:Int) (n:Bool) (d x:Int) (t:List UInt8) (k':Int) (n':Bool) (d' x':Int) (t':List UInt8) (w:World)  :
  Calls Tryd.prog 48 #[valV k n d x t,valV k' n' d' x' t'] w fun e w'=>e=.returned (besideV k n d x t k')∧Ext w w':=by
 obtain ⟨R,hR⟩:∃ R,besideV k n d x t k'=R:=⟨_,rfl⟩;have HR0:Hid (besideV k n d x t k'=R):=hR;rw [hR];clear hR;have X1:=x1 w (.cells #[.int .i64 k,.bool n,.int .i64 d,.int .i64 x,sV t] 46);have B1:=vec_made w (valL k n d x t) 46;obtain ⟨wa,ha⟩:∃ wa,w.alloc (.cells #[.int .i64 k,.bool n,.int .i64 d,.int .i64 x,sV t] 46)=wa:=⟨_,rfl⟩;have X2:=x1 wa (.cells #[.int .i64 k',.bool n',.int .i64 d',.int .i64 x',sV t'] 46);have B2:=vec_made wa (valL k' n' d' x' t') 46;obtain ⟨wb,hb⟩:∃ wb,wa.alloc (.cells #[.int .i64 k',.bool n',.int .i64 d',.int .i64 x',sV t'] 46)=wb:=⟨_,rfl⟩;have sa:wa.heap.size=w.heap.size+1:=by rw [← ha,World.size_alloc]
 have sb:wb.heap.size=w.heap.size+1+1:=by rw [← hb,World.size_alloc,sa]
 change Vec (w.alloc (.cells #[.int .i64 k,.bool n,.int .i64 d,.int .i64 x,sV t] 46)) _ _ at B1;change Vec (wa.alloc (.cells #[.int .i64 k',.bool n',.int .i64 d',.int .i64 x',sV t'] 46)) _ _ at B2;rw [ha] at X1 B1;rw [hb] at X2 B2;rw [sa] at B2;have B1:=B1.later X2;have X:=xt X1 X2;have X3:=x1 wb (.cells #[.int .i64 0,.bool false,.int .i64 0,.int .i64 0,sV []] 46);have B3:=vec_made wb (valL 0 false 0 0 []) 46;obtain ⟨wc,hc⟩:∃ wc,wb.alloc (.cells #[.int .i64 0,.bool false,.int .i64 0,.int .i64 0,sV []] 46)=wc:=⟨_,rfl⟩;change Vec (wb.alloc (.cells #[.int .i64 0,.bool false,.int .i64 0,.int .i64 0,sV []] 46)) _ _ at B3;rw [hc] at X3 B3;rw [sb] at B3;have B1:=B1.later X3;have B2:=B2.later X3;have X:=xt X X3;clear X1 X2 X3;obtain ⟨a0,a1,a2,a3,a4⟩:=Vec.five B1;obtain ⟨c0,c1,c2,c3,c4⟩:=Vec.five B2;go_enter Tryd.func48,Tryd.ntmps48;by_cases h0:k=0
 ·subst h0;by_cases h1:k'=1
  ·subst h1;have HR:Hid (valV 1 false 0 0 []=R):=by show _=_;rw [← HR0.out];simp [besideV]
   go_wp2_with fail;clear ha hb hc sa sb a0 a1 a2 a3 a4 c0 c1 c2 c3 c4;refine (numVS false 0 0 wc).mono ?_;rintro e w2 ⟨rfl,e2⟩;obtain ⟨wy,hy,FX,⟨b0,b1,b2,b3,b4⟩,⟨fb0,fb1,fb2,fb3,fb4⟩,fd0,fd1,fd2,fd3,fd4⟩:=fin5 (B3.later e2) (xt X e2) (by omega) (1) (false) (0) (0) ([]);go_wp2_with fail;exact bodyPost_ret (v:=valV 1 false 0 0 []) (by simp [results,Tryd.results48,go_sem,fd0,fd1,fd2,fd3,fd4]) rfl ⟨congrArg Ending.returned HR.out,FX⟩
  ·by_cases h2:k'=2
   ·subst h2;have HR:Hid (valV 2 false 0 0 []=R):=(by show _=_;rw [← HR0.out];simp [besideV]);go_wp2_with fail;clear ha hb hc sa sb a0 a1 a2 a3 a4 c0 c1 c2 c3 c4;refine (textVS [] wc).mono ?_;rintro e w2 ⟨rfl,e2⟩;obtain ⟨wy,hy,FX,⟨b0,b1,b2,b3,b4⟩,⟨fb0,fb1,fb2,fb3,fb4⟩,fd0,fd1,fd2,fd3,fd4⟩:=fin5 (B3.later e2) (xt X e2) (by omega) (2) (false) (0) (0) ([]);go_wp2_with fail;exact bodyPost_ret (v:=valV 2 false 0 0 []) (by simp [results,Tryd.results48,go_sem,fd0,fd1,fd2,fd3,fd4]) rfl ⟨congrArg Ending.returned HR.out,FX⟩
   ·by_cases h3:k'=3
    ·subst h3;have HR:Hid (valV 3 false 0 0 falseT=R):=(by show _=_;rw [← HR0.out];simp [besideV]);go_wp2_with fail;clear ha hb hc sa sb a0 a1 a2 a3 a4 c0 c1 c2 c3 c4;refine (boolVS false wc).mono ?_;rintro e w2 ⟨rfl,e2⟩;obtain ⟨wy,hy,FX,⟨b0,b1,b2,b3,b4⟩,⟨fb0,fb1,fb2,fb3,fb4⟩,fd0,fd1,fd2,fd3,fd4⟩:=fin5 (B3.later e2) (xt X e2) (by omega) (3) (false) (0) (0) (falseT);go_wp2_with fail;exact bodyPost_ret (v:=valV 3 false 0 0 falseT) (by simp [results,Tryd.results48,go_sem,fd0,fd1,fd2,fd3,fd4]) rfl ⟨congrArg Ending.returned HR.out,FX⟩
    ·have HR:Hid (valV 0 n d x t=R):=(by show _=_;rw [← HR0.out];simp [besideV,h1,h2,h3]);obtain ⟨wy,hy,FX,⟨b0,b1,b2,b3,b4⟩,⟨fb0,fb1,fb2,fb3,fb4⟩,fd0,fd1,fd2,fd3,fd4⟩:=fin5 (B3) (X) (by omega) (0) (n) (d) (x) (t);go_wp2_with fail;exact bodyPost_ret (v:=valV 0 n d x t) (by simp [results,Tryd.results48,go_sem,fd0,fd1,fd2,fd3,fd4]) rfl ⟨congrArg Ending.returned HR.out,FX⟩
 ·have HR:Hid (valV k n d x t=R):=by show _=_;rw [← HR0.out];simp [besideV,h0]
  obtain ⟨wy,hy,FX,⟨b0,b1,b2,b3,b4⟩,⟨fb0,fb1,fb2,fb3,fb4⟩,fd0,fd1,fd2,fd3,fd4⟩:=fin5 (B3) (X) (by omega) (k) (n) (d) (x) (t);go_wp2_with fail;exact bodyPost_ret (v:=valV k n d x t) (by simp [results,Tryd.results48,go_sem,fd0,fd1,fd2,fd3,fd4]) rfl ⟨congrArg Ending.returned HR.out,FX⟩
theorem cmp_three:∀ a b:List UInt8,Lib.compareBytes a b = -1∨Lib.compareBytes a b=0∨Lib.compareBytes a b=1
 | [],[]=>Or.inr (Or.inl rfl)
 | [],_ :: _=>Or.inl rfl
 | _ :: _,[]=>Or.inr (Or.inr rfl)
 | a :: x,b :: y=>by
  unfold Lib.compareBytes
  split
  ·exact Or.inl rfl
  ·split
   ·exact Or.inr (Or.inr rfl)
   ·exact cmp_three x y
theorem cmp_less:∀ a b:List UInt8,Op.bytesLess a b=decide (Lib.compareBytes a b = -1)
 | [],[]=>rfl
 | [],_ :: _=>rfl
 | _ :: _,[]=>rfl
 | a :: x,b :: y=>by
  unfold Lib.compareBytes Op.bytesLess;have ih:=cmp_less x y;by_cases h:a<b
  ·simp [h]
  ·by_cases h2:b<a
   ·have:¬ a=b:=fun e=>(by subst e;exact absurd h2 (UInt8.lt_irrefl a));simp [h,h2,this]
   ·have e:a=b:=UInt8.le_antisymm (UInt8.not_lt.1 h2) (UInt8.not_lt.1 h);subst e;simp [UInt8.lt_irrefl,ih]
theorem cmp_same:∀ a b:List UInt8,(a == b)=decide (Lib.compareBytes a b=0)
 | [],[]=>rfl
 | [],_ :: _=>rfl
 | _ :: _,[]=>rfl
 | a :: x,b :: y=>by
  unfold Lib.compareBytes;have ih:=cmp_same x y;by_cases h:a<b
  ·have:¬ a=b:=fun e=>by subst e;exact absurd h (UInt8.lt_irrefl a)
   simp [h,this]
  ·by_cases h2:b<a
   ·have:¬ a=b:=fun e=>(by subst e;exact absurd h2 (UInt8.lt_irrefl a));simp [h,h2,this]
   ·have e:a=b:=UInt8.le_antisymm (UInt8.not_lt.1 h2) (UInt8.not_lt.1 h);subst e;rw [if_neg (UInt8.lt_irrefl a),if_neg (UInt8.lt_irrefl a),← ih];simp
end Go.Proofs.YtnphbpmdohidcaaDoor

