/-
  Several texts in one: V9e, X9b, X9c, V7a, V7b, V7c.
-/
import Derived.Test.YtkadkfmidlhedaaGreatDoorMg3
import Derived.Test.YtkadkfmidlhedaaGreatDoorMg15
import Derived.Test.YtkadkfmidlhedaaGreatDoorPwM
import Derived.Test.YtkadkfmidlhedaaGreatDoorMg1
import Derived.Deep.MidRow
import Derived.Laws.MakeOwn
set_option maxRecDepth 8000
set_option maxHeartbeats 2000000
namespace Go.Proofs.YtkadkfmidlhedaaGreatDoor
open Go.RowKit
theorem Vec.three {w:World} {b:Nat} {v0 v1 v2:Value} (h:Vec w b [v0,v1,v2]):w.cell? ⟨b,0,none⟩=some v0/\w.cell? ⟨b,1,none⟩=some v1/\w.cell? ⟨b,2,none⟩=some v2:=
 ⟨(h 0 _ rfl).1,(h 1 _ rfl).1,(h 2 _ rfl).1⟩
theorem Vec.threeF {w:World} {b:Nat} {v0 v1 v2:Value} (h:Vec w b [v0,v1,v2]):w.frozen? ⟨b,0,none⟩=false/\w.frozen? ⟨b,1,none⟩=false/\w.frozen? ⟨b,2,none⟩=false:=
 ⟨(h 0 _ rfl).2,(h 1 _ rfl).2,(h 2 _ rfl).2⟩
theorem Vec.four {w:World} {b:Nat} {v0 v1 v2 v3:Value} (h:Vec w b [v0,v1,v2,v3]):w.cell? ⟨b,0,none⟩=some v0/\w.cell? ⟨b,1,none⟩=some v1/\w.cell? ⟨b,2,none⟩=some v2/\w.cell? ⟨b,3,none⟩=some v3:=
 ⟨(h 0 _ rfl).1,(h 1 _ rfl).1,(h 2 _ rfl).1,(h 3 _ rfl).1⟩
theorem Vec.fourF {w:World} {b:Nat} {v0 v1 v2 v3:Value} (h:Vec w b [v0,v1,v2,v3]):w.frozen? ⟨b,0,none⟩=false/\w.frozen? ⟨b,1,none⟩=false/\w.frozen? ⟨b,2,none⟩=false/\w.frozen? ⟨b,3,none⟩=false:=
 ⟨(h 0 _ rfl).2,(h 1 _ rfl).2,(h 2 _ rfl).2,(h 3 _ rfl).2⟩
theorem Vec.five {w:World} {b:Nat} {v0 v1 v2 v3 v4:Value} (h:Vec w b [v0,v1,v2,v3,v4]):w.cell? ⟨b,0,none⟩=some v0/\w.cell? ⟨b,1,none⟩=some v1/\w.cell? ⟨b,2,none⟩=some v2/\w.cell? ⟨b,3,none⟩=some v3/\w.cell? ⟨b,4,none⟩=some v4:=
 ⟨(h 0 _ rfl).1,(h 1 _ rfl).1,(h 2 _ rfl).1,(h 3 _ rfl).1,(h 4 _ rfl).1⟩
theorem Vec.fiveF {w:World} {b:Nat} {v0 v1 v2 v3 v4:Value} (h:Vec w b [v0,v1,v2,v3,v4]):w.frozen? ⟨b,0,none⟩=false/\w.frozen? ⟨b,1,none⟩=false/\w.frozen? ⟨b,2,none⟩=false/\w.frozen? ⟨b,3,none⟩=false/\w.frozen? ⟨b,4,none⟩=false:=
 ⟨(h 0 _ rfl).2,(h 1 _ rfl).2,(h 2 _ rfl).2,(h 3 _ rfl).2,(h 4 _ rfl).2⟩
theorem fin5 {a w:World} {b:Nat} (V:Vec w b (valL 0 false 0 0 [])) (X:Ext a w) (hb:a.heap.size<=b) (k:Int) (n:Bool) (d x:Int) (t:List UInt8) :
  ∃ wy,(((((w.setCell ⟨b,0,none⟩ (iQ k)).setCell ⟨b,1,none⟩ (.bool n)).setCell ⟨b,2,none⟩ (iQ d)).setCell ⟨b,3,none⟩ (iQ x)).setCell ⟨b,4,none⟩ (sV t))=wy/\Ext a wy/\(w.cell? ⟨b,0,none⟩=some (iQ 0)/\w.cell? ⟨b,1,none⟩=some (.bool false)/\w.cell? ⟨b,2,none⟩=some (iQ 0)/\w.cell? ⟨b,3,none⟩=some (iQ 0)/\w.cell? ⟨b,4,none⟩=some (sV []))/\(w.frozen? ⟨b,0,none⟩=false/\w.frozen? ⟨b,1,none⟩=false/\w.frozen? ⟨b,2,none⟩=false/\w.frozen? ⟨b,3,none⟩=false/\w.frozen? ⟨b,4,none⟩=false)/\wy.cell? ⟨b,0,none⟩=some (iQ k)/\wy.cell? ⟨b,1,none⟩=some (.bool n)/\wy.cell? ⟨b,2,none⟩=some (iQ d)/\wy.cell? ⟨b,3,none⟩=some (iQ x)/\wy.cell? ⟨b,4,none⟩=some (sV t):=by
 have FG:=V.put5 (iQ k) (.bool n) (iQ d) (iQ x) (sV t);have FX:=Ext.setL (b:=b) hb [iQ k,.bool n,iQ d,iQ x,sV t] 0 X;exact ⟨_,rfl,FX,V.five,V.fiveF,FG.five⟩
theorem newB (w:World) (k:Int) (n:Bool) (d x:Int) (t:List UInt8) :
  ∃ wz wy,w.alloc (.cells #[iQ 0,.bool false,iQ 0,iQ 0,sV []] 26)=wz/\(((((wz.setCell ⟨w.heap.size,0,none⟩ (iQ k)).setCell ⟨w.heap.size,1,none⟩ (.bool n)).setCell ⟨w.heap.size,2,none⟩ (iQ d)).setCell ⟨w.heap.size,3,none⟩ (iQ x)).setCell ⟨w.heap.size,4,none⟩ (sV t))=wy/\Vec wy w.heap.size (valL k n d x t)/\Ext w wy/\(wz.cell? ⟨w.heap.size,0,none⟩=some (iQ 0)/\wz.cell? ⟨w.heap.size,1,none⟩=some (.bool false)/\wz.cell? ⟨w.heap.size,2,none⟩=some (iQ 0)/\wz.cell? ⟨w.heap.size,3,none⟩=some (iQ 0)/\wz.cell? ⟨w.heap.size,4,none⟩=some (sV []))/\wz.frozen? ⟨w.heap.size,0,none⟩=false/\wz.frozen? ⟨w.heap.size,1,none⟩=false/\wz.frozen? ⟨w.heap.size,2,none⟩=false/\wz.frozen? ⟨w.heap.size,3,none⟩=false/\wz.frozen? ⟨w.heap.size,4,none⟩=false:=by
 have Z:=zA5 w (valL 0 false 0 0 []) 26;exact ⟨_,_,rfl,rfl,Z.put5 (iQ k) (.bool n) (iQ d) (iQ x) (sV t),Ext.setL (b:=w.heap.size) (Nat.le_refl _) [iQ k,.bool n,iQ d,iQ x,sV t] 0 (x1 w _),Z.five,Z.fiveF⟩
theorem mkB2 (w:World) (l0 l1:List Value) (T0 T1:TypeId):∃ u0 u1,w.alloc (.cells l0.toArray T0)=u0/\u0.alloc (.cells l1.toArray T1)=u1/\u0.heap.size=w.heap.size+1/\u1.heap.size=w.heap.size+1+1/\Vec u1 (w.heap.size) l0/\Vec u1 (w.heap.size+1) l1/\Ext w u1:=by
 have X0:=x1 w (.cells l0.toArray T0);have B0:=zA5 w l0 T0;obtain ⟨u0,h0⟩:=nm (w.alloc (.cells l0.toArray T0));rw [h0] at X0 B0;have s0:u0.heap.size=w.heap.size+1:=by rw [<- h0,World.size_alloc]
 have X:=X0;have X1:=x1 u0 (.cells l1.toArray T1);have B1:=zA5 u0 l1 T1;obtain ⟨u1,h1⟩:=nm (u0.alloc (.cells l1.toArray T1));rw [h1] at X1 B1;rw [s0] at B1;have s1:u1.heap.size=w.heap.size+1+1:=by rw [<- h1,World.size_alloc,s0]
 have B0:=B0.l X1;have X:=xt X X1;exact ⟨u0,u1,h0,h1,s0,s1,B0,B1,X⟩
theorem mkB3 (w:World) (l0 l1 l2:List Value) (T0 T1 T2:TypeId):∃ u0 u1 u2,w.alloc (.cells l0.toArray T0)=u0/\u0.alloc (.cells l1.toArray T1)=u1/\u1.alloc (.cells l2.toArray T2)=u2/\u0.heap.size=w.heap.size+1/\u1.heap.size=w.heap.size+1+1/\u2.heap.size=w.heap.size+1+1+1/\Vec u2 (w.heap.size) l0/\Vec u2 (w.heap.size+1) l1/\Vec u2 (w.heap.size+1+1) l2/\Ext w u2:=by
 have X0:=x1 w (.cells l0.toArray T0);have B0:=zA5 w l0 T0;obtain ⟨u0,h0⟩:=nm (w.alloc (.cells l0.toArray T0));rw [h0] at X0 B0;have s0:u0.heap.size=w.heap.size+1:=by rw [<- h0,World.size_alloc]
 have X:=X0;have X1:=x1 u0 (.cells l1.toArray T1);have B1:=zA5 u0 l1 T1;obtain ⟨u1,h1⟩:=nm (u0.alloc (.cells l1.toArray T1));rw [h1] at X1 B1;rw [s0] at B1;have s1:u1.heap.size=w.heap.size+1+1:=by rw [<- h1,World.size_alloc,s0]
 have B0:=B0.l X1;have X:=xt X X1;have X2:=x1 u1 (.cells l2.toArray T2);have B2:=zA5 u1 l2 T2;obtain ⟨u2,h2⟩:=nm (u1.alloc (.cells l2.toArray T2));rw [h2] at X2 B2;rw [s1] at B2;have s2:u2.heap.size=w.heap.size+1+1+1:=by rw [<- h2,World.size_alloc,s1]
 have B0:=B0.l X2;have B1:=B1.l X2;have X:=xt X X2;exact ⟨u0,u1,u2,h0,h1,h2,s0,s1,s2,B0,B1,B2,X⟩
theorem mkB4 (w:World) (l0 l1 l2 l3:List Value) (T0 T1 T2 T3:TypeId):∃ u0 u1 u2 u3,w.alloc (.cells l0.toArray T0)=u0/\u0.alloc (.cells l1.toArray T1)=u1/\u1.alloc (.cells l2.toArray T2)=u2/\u2.alloc (.cells l3.toArray T3)=u3/\u0.heap.size=w.heap.size+1/\u1.heap.size=w.heap.size+1+1/\u2.heap.size=w.heap.size+1+1+1/\u3.heap.size=w.heap.size+1+1+1+1/\Vec u3 (w.heap.size) l0/\Vec u3 (w.heap.size+1) l1/\Vec u3 (w.heap.size+1+1) l2/\Vec u3 (w.heap.size+1+1+1) l3/\Ext w u3:=by
 have X0:=x1 w (.cells l0.toArray T0);have B0:=zA5 w l0 T0;obtain ⟨u0,h0⟩:=nm (w.alloc (.cells l0.toArray T0));rw [h0] at X0 B0;have s0:u0.heap.size=w.heap.size+1:=by rw [<- h0,World.size_alloc]
 have X:=X0;have X1:=x1 u0 (.cells l1.toArray T1);have B1:=zA5 u0 l1 T1;obtain ⟨u1,h1⟩:=nm (u0.alloc (.cells l1.toArray T1));rw [h1] at X1 B1;rw [s0] at B1;have s1:u1.heap.size=w.heap.size+1+1:=by rw [<- h1,World.size_alloc,s0]
 have B0:=B0.l X1;have X:=xt X X1;have X2:=x1 u1 (.cells l2.toArray T2);have B2:=zA5 u1 l2 T2;obtain ⟨u2,h2⟩:=nm (u1.alloc (.cells l2.toArray T2));rw [h2] at X2 B2;rw [s1] at B2;have s2:u2.heap.size=w.heap.size+1+1+1:=by rw [<- h2,World.size_alloc,s1]
 have B0:=B0.l X2;have B1:=B1.l X2;have X:=xt X X2;have X3:=x1 u2 (.cells l3.toArray T3);have B3:=zA5 u2 l3 T3;obtain ⟨u3,h3⟩:=nm (u2.alloc (.cells l3.toArray T3));rw [h3] at X3 B3;rw [s2] at B3;have s3:u3.heap.size=w.heap.size+1+1+1+1:=by rw [<- h3,World.size_alloc,s2]
 have B0:=B0.l X3;have B1:=B1.l X3;have B2:=B2.l X3;have X:=xt X X3;exact ⟨u0,u1,u2,u3,h0,h1,h2,h3,s0,s1,s2,s3,B0,B1,B2,B3,X⟩
theorem Cur.baseC {w:World} {b base K:Nat} (h:Cur w b base K):base<=b:=by obtain ⟨_,_,_,_,_,_,_,_,_,_,_,hb⟩:=h;exact hb
theorem Only.vecC {b k:Nat} {w w':World} {l:List Value} (h:Only b w w') (hk:k ≠ b) (v:Vec w k l):Vec w' k l:=fun i x hi=>by
 obtain ⟨hc,hf⟩:=v i x hi;refine ⟨h.cell hk hc,?_⟩;have hlt:=World.block_lt_of_cell? _ _ hc;rw [<- hf];exact World.frozen?_of_block (h.block k hk hlt)
theorem zKG {a w:World} {b base K g:Nat} (V:Vec w g [.bool false,iQ 0,iQ 0]) (C:Cur w b base K) (O:Only b a w) (hg:a.heap.size<=g) (hb:b ≠ g) (hbase:base<=g) (n:Bool) (d x:Int) :
  ∃ wy,((w.setCell ⟨g,0,none⟩ (.bool n)).setCell ⟨g,1,none⟩ (iQ d)).setCell ⟨g,2,none⟩ (iQ x)=wy/\Only b a wy/\Cur wy b base K/\(w.cell? ⟨g,0,none⟩=some (.bool false)/\w.cell? ⟨g,1,none⟩=some (iQ 0)/\w.cell? ⟨g,2,none⟩=some (iQ 0))/\(w.frozen? ⟨g,0,none⟩=false/\w.frozen? ⟨g,1,none⟩=false/\w.frozen? ⟨g,2,none⟩=false)/\wy.cell? ⟨g,0,none⟩=some (.bool n)/\wy.cell? ⟨g,1,none⟩=some (iQ d)/\wy.cell? ⟨g,2,none⟩=some (iQ x):=
 ⟨_,rfl,((O.setNew hg _).setNew hg _).setNew hg _,((C.far hb hbase _).far hb hbase _).far hb hbase _,V.three,V.threeF,Vec.three (((V.put 0 (by simp) (.bool n)).put 1 (by simp) (iQ d)).put 2 (by simp) (iQ x))⟩
theorem zFC {a w:World} {b base K g:Nat} {k0:Int} {n0:Bool} {d0 x0:Int} {t0:List UInt8} (V:Vec w g [iQ k0,.bool n0,iQ d0,iQ x0,sV t0]) (C:Cur w b base K) (O:Only b a w) (hg:a.heap.size<=g) (hb:b ≠ g) (hbase:base<=g) (k:Int) (n:Bool) (d x:Int) (t:List UInt8) :
  ∃ wy,(((((w.setCell ⟨g,0,none⟩ (iQ k)).setCell ⟨g,1,none⟩ (.bool n)).setCell ⟨g,2,none⟩ (iQ d)).setCell ⟨g,3,none⟩ (iQ x)).setCell ⟨g,4,none⟩ (sV t))=wy/\Only b a wy/\Cur wy b base K/\Vec wy g [iQ k,.bool n,iQ d,iQ x,sV t]/\(w.cell? ⟨g,0,none⟩=some (iQ k0)/\w.cell? ⟨g,1,none⟩=some (.bool n0)/\w.cell? ⟨g,2,none⟩=some (iQ d0)/\w.cell? ⟨g,3,none⟩=some (iQ x0)/\w.cell? ⟨g,4,none⟩=some (sV t0))/\(w.frozen? ⟨g,0,none⟩=false/\w.frozen? ⟨g,1,none⟩=false/\w.frozen? ⟨g,2,none⟩=false/\w.frozen? ⟨g,3,none⟩=false/\w.frozen? ⟨g,4,none⟩=false)/\wy.cell? ⟨g,0,none⟩=some (iQ k)/\wy.cell? ⟨g,1,none⟩=some (.bool n)/\wy.cell? ⟨g,2,none⟩=some (iQ d)/\wy.cell? ⟨g,3,none⟩=some (iQ x)/\wy.cell? ⟨g,4,none⟩=some (sV t):=
 ⟨_,rfl,((((O.setNew hg _).setNew hg _).setNew hg _).setNew hg _).setNew hg _,((((C.far hb hbase _).far hb hbase _).far hb hbase _).far hb hbase _).far hb hbase _,V.put5 (iQ k) (.bool n) (iQ d) (iQ x) (sV t),V.five,V.fiveF,Vec.five (V.put5 (iQ k) (.bool n) (iQ d) (iQ x) (sV t))⟩
theorem zCN (ok n:Bool) (d x:Int) (W:World):(Instr.field 79 (.agg #[.bool ok,.bool n,iQ d,iQ x]) 1).run Tryz.prog W=.ok (decV n d x) W:=by kernel_rfl
theorem zX7 (neg:Bool) (P:Nat) (e:Int) (m:Bool):0<=(putR neg P e m).d/\(putR neg P e m).d<1000000000000000:=by
 cases h:(putR neg P e m).ok with
 | true =>
  have:=zOD h;unfold zA1 at this
  split at this
  ·rename_i h0;rw [h0];omega
  ·simp only [decide_eq_true_eq] at this;omega
 | false =>
  revert h
  unfold putR fitR
  repeat' split
  all_goals intro h
  all_goals first | (cases h;done) | (constructor <;> decide)
theorem zGQ (z:Int) (w:World) (s1 : -1000000000000000000<z) (s2:z<1000000000000000000) :
  Calls Tryz.prog 126 #[iQ z] w fun e w'=>e=.returned (zS z)/\Ext w w':=by
 go_enter Tryz.func126,Tryz.ntmps126
 go_wp2
 exact bodyPost_ret (v:=zS z) (by simp [results,Tryz.results126,go_sem]) rfl ⟨rfl,x1 _ _⟩
theorem putZ (z e:Int) (w:World) (s1 : -1000000000000000000<z) (s2:z<1000000000000000000) (e0 : -50000<=e) (e1:e<=50000) :
  Calls Tryz.prog 125 #[zS z,iQ e,.bool false] w fun rr w'=>(∃ ok n d x,rr=.returned (.agg #[.bool ok,.bool n,iQ d,iQ x])/\0<=d/\d<1000000000000000)/\Ext w w':=by
 have hp:((1000000000:Int) ^ 3)=1000000000000000000000000000:=by decide
 refine (zDI e false w (ZV.small s1 s2) 3 (by omega) (by rw [hp];omega) e0 e1 (decide (z<0)) z.natAbs rfl (fun _=>rfl)).mono ?_;rintro rr w' ⟨rfl,E⟩;exact ⟨⟨_,_,_,_,rfl,zX7 _ _ _ _⟩,E⟩
theorem decC (b base K:Nat) (w:World) (h:Cur w b base K) (hK:K<=1000000) :
  Calls Tryz.prog 85 #[.pointer (some ⟨b,0,none⟩)] w fun e w'=>(∃ n d x,e=.returned (decV n d x)/\0<=d/\d<1000000000000000)/\Cur w' b base (K+20)/\Only b w w':=by
 have bl:=h.lt;have bb:=h.baseC;have X0:=x1 w (.cells #[.bool false,iQ 0,iQ 0] 24);have V0:=zA5 w [.bool false,iQ 0,iQ 0] 24;have C0:=h.ext X0;go_enter Tryz.func85,Tryz.ntmps85;go_wp2_with fail;refine (zBX b base K 9 _ C0 (by omega) (by omega) (by omega)).mono ?_;rintro e w1 ⟨x,rfl,⟨y0,y9⟩,C1,o1⟩;have V1:=o1.vecC (by omega) V0;have O1:=(Only.of_ext X0).trans o1;clear C0 o1 X0 V0;by_cases h0:x=0
 ·subst h0;clear y0 y9;obtain ⟨wy,hy,OF,CF,⟨b0,b1,b2⟩,⟨fb0,fb1,fb2⟩,fd0,fd1,fd2⟩:=zKG V1 C1 O1 (Nat.le_refl _) (by omega) (by omega) false 0 0;go_wp2_with fail;exact bodyPost_ret (v:=decV false 0 0) (by simp [results,Tryz.results85,go_sem,fd0,fd1,fd2]) rfl ⟨⟨_,_,_,rfl,by omega,by omega⟩,CF.more (by omega),OF⟩
 ·have e0:(x == 0)=false:=by simpa using h0
  by_cases h1:x=1
  ·subst h1;clear y0 y9;go_wp2_with fail;refine (zWU b base _ _ C1 (by omega)).mono ?_;rintro e w2 ⟨u,rfl,⟨u0,u9⟩,C1,o1⟩;have V1:=o1.vecC (by omega) V1;have O1:=O1.trans o1;clear o1;have wy2:IntKind.i64.wrap (u / 16384)=u / 16384:=by rw [IntKind.wrap_i64];omega
   go_wp2_with fail;refine (zGQ (u / 16384) _ (by omega) (by omega)).mono ?_;rintro e w3 ⟨rfl,E⟩;have C1:=C1.ext E;have V1:=V1.l E;have O1:=O1.trans (Only.of_ext E);clear E;go_wp2_with fail;refine (zBX b base _ 40 _ C1 (by omega) (by omega) (by omega)).mono ?_;rintro e w4 ⟨p,rfl,⟨p0,p9⟩,C1,o1⟩;have V1:=o1.vecC (by omega) V1;have O1:=O1.trans o1;clear o1;go_wp2_with fail;refine (putZ (u / 16384) (p - 20) _ (by omega) (by omega) (by omega) (by omega)).mono ?_;rintro e w5 ⟨⟨ok,n,d,x,rfl,d0,d1⟩,E⟩;have C1:=C1.ext E;have V1:=V1.l E;have O1:=O1.trans (Only.of_ext E);clear E;have FD:=fun W=>zCN ok n d x W;obtain ⟨wy,hy,OF,CF,⟨b0,b1,b2⟩,⟨fb0,fb1,fb2⟩,fd0,fd1,fd2⟩:=zKG V1 C1 O1 (Nat.le_refl _) (by omega) (by omega) n d x;go_wp2_with fail;exact bodyPost_ret (v:=decV n d x) (by simp [results,Tryz.results85,go_sem,fd0,fd1,fd2]) rfl ⟨⟨_,_,_,rfl,d0,d1⟩,CF.more (by omega),OF⟩
  ·have e1:(x == 1)=false:=by simpa using h1
   by_cases h2:x=2
   ·subst h2;clear y0 y9;go_wp2_with fail;refine (zBX b base _ 999 _ C1 (by omega) (by omega) (by omega)).mono ?_;rintro e w2 ⟨y,rfl,⟨y0,y9⟩,C1,o1⟩;have V1:=o1.vecC (by omega) V1;have O1:=O1.trans o1;clear o1;go_wp2_with fail;refine (zGQ (1+y) _ (by omega) (by omega)).mono ?_;rintro e w3 ⟨rfl,E⟩;have C1:=C1.ext E;have V1:=V1.l E;have O1:=O1.trans (Only.of_ext E);clear E;go_wp2_with fail;refine (zBX b base _ 620 _ C1 (by omega) (by omega) (by omega)).mono ?_;rintro e w4 ⟨p,rfl,⟨p0,p9⟩,C1,o1⟩;have V1:=o1.vecC (by omega) V1;have O1:=O1.trans o1;clear o1;go_wp2_with fail;refine (putZ (1+y) (p - 310) _ (by omega) (by omega) (by omega) (by omega)).mono ?_;rintro e w5 ⟨⟨ok,n,d,x,rfl,d0,d1⟩,E⟩;have C1:=C1.ext E;have V1:=V1.l E;have O1:=O1.trans (Only.of_ext E);clear E;have FD:=fun W=>zCN ok n d x W;have hs5:w.heap.size<w5.heap.size:=World.block_lt_of_cell? _ _ (V1 0 _ rfl).1;have hb5:=C1.lt;obtain ⟨wz,hz⟩:=nm (w5.alloc (.cells #[.bool false,.bool false,iQ 0,iQ 0] 79));have Z:=zA5 w5 [.bool false,.bool false,iQ 0,iQ 0] 79;have EZ:=x1 w5 (.cells #[.bool false,.bool false,iQ 0,iQ 0] 79);change Vec (w5.alloc (.cells #[.bool false,.bool false,iQ 0,iQ 0] 79)) _ _ at Z;rw [hz] at Z EZ;obtain ⟨z0,z1,z2,z3⟩:=Vec.four Z;obtain ⟨fz0,fz1,fz2,fz3⟩:=Vec.fourF Z;have Z4:Vec (setL wz w5.heap.size 0 [.bool ok,.bool n,iQ d,iQ x]) w5.heap.size [.bool ok,.bool n,iQ d,iQ x]:=(((Z.put 0 (by simp) (.bool ok)).put 1 (by simp) (.bool n)).put 2 (by simp) (iQ d)).put 3 (by simp) (iQ x);have V1:=Vec.farL (k:=w5.heap.size) (by omega) [.bool ok,.bool n,iQ d,iQ x] 0 (V1.l EZ);have C1:Cur (setL wz w5.heap.size 0 [.bool ok,.bool n,iQ d,iQ x]) b base _:=((((C1.ext EZ).far (g:=w5.heap.size) (i:=0) (by omega) (by omega) (.bool ok)).far (g:=w5.heap.size) (i:=1) (by omega) (by omega) (.bool n)).far (g:=w5.heap.size) (i:=2) (by omega) (by omega) (iQ d)).far (g:=w5.heap.size) (i:=3) (by omega) (by omega) (iQ x);have O1:Only b w (setL wz w5.heap.size 0 [.bool ok,.bool n,iQ d,iQ x]):=((((O1.trans (Only.of_ext EZ)).setNew (g:=w5.heap.size) (i:=0) (by omega) (.bool ok)).setNew (g:=w5.heap.size) (i:=1) (by omega) (.bool n)).setNew (g:=w5.heap.size) (i:=2) (by omega) (iQ d)).setNew (g:=w5.heap.size) (i:=3) (by omega) (iQ x);obtain ⟨w6,h6⟩:=nm (setL wz w5.heap.size 0 [.bool ok,.bool n,iQ d,iQ x]);rw [h6] at Z4 V1 C1 O1;have h6:(((wz.setCell ⟨w5.heap.size,0,none⟩ (.bool ok)).setCell ⟨w5.heap.size,1,none⟩ (.bool n)).setCell ⟨w5.heap.size,2,none⟩ (iQ d)).setCell ⟨w5.heap.size,3,none⟩ (iQ x)=w6:=h6;obtain ⟨q0,q1,q2,q3⟩:=Vec.four Z4;obtain ⟨wy,hy,OF,CF,⟨b0,b1,b2⟩,⟨fb0,fb1,fb2⟩,fd0,fd1,fd2⟩:=zKG V1 C1 O1 (Nat.le_refl _) (by omega) (by omega) n d x;go_wp2_with fail;exact bodyPost_ret (v:=decV n d x) (by simp [results,Tryz.results85,go_sem,fd0,fd1,fd2]) rfl ⟨⟨_,_,_,rfl,d0,d1⟩,CF.more (by omega),OF⟩
   ·have e2:(x == 2)=false:=(by simpa using h2);by_cases h3:x=3
    ·subst h3;clear y0 y9;go_wp2_with fail;refine (zBX b base _ 3 _ C1 (by omega) (by omega) (by omega)).mono ?_;rintro e w2 ⟨y,rfl,⟨y0,y9⟩,C1,o1⟩;have V1:=o1.vecC (by omega) V1;have O1:=O1.trans o1;clear o1;go_wp2_with fail;refine (zGQ (999999999999999 - y) _ (by omega) (by omega)).mono ?_;rintro e w3 ⟨rfl,E⟩;have C1:=C1.ext E;have V1:=V1.l E;have O1:=O1.trans (Only.of_ext E);clear E;go_wp2_with fail;refine (zBX b base _ 5 _ C1 (by omega) (by omega) (by omega)).mono ?_;rintro e w4 ⟨p,rfl,⟨p0,p9⟩,C1,o1⟩;have V1:=o1.vecC (by omega) V1;have O1:=O1.trans o1;clear o1;go_wp2_with fail;refine (putZ (999999999999999 - y) (p - 2) _ (by omega) (by omega) (by omega) (by omega)).mono ?_;rintro e w5 ⟨⟨ok,n,d,x,rfl,d0,d1⟩,E⟩;have C1:=C1.ext E;have V1:=V1.l E;have O1:=O1.trans (Only.of_ext E);clear E;have FD:=fun W=>zCN ok n d x W;obtain ⟨wy,hy,OF,CF,⟨b0,b1,b2⟩,⟨fb0,fb1,fb2⟩,fd0,fd1,fd2⟩:=zKG V1 C1 O1 (Nat.le_refl _) (by omega) (by omega) n d x;go_wp2_with fail;exact bodyPost_ret (v:=decV n d x) (by simp [results,Tryz.results85,go_sem,fd0,fd1,fd2]) rfl ⟨⟨_,_,_,rfl,d0,d1⟩,CF.more (by omega),OF⟩
    ·have e3:(x == 3)=false:=(by simpa using h3);by_cases h4:x=4
     ·subst h4;clear y0 y9;go_wp2_with fail;refine (zBX b base _ 20000 _ C1 (by omega) (by omega) (by omega)).mono ?_;rintro e w2 ⟨y,rfl,⟨y0,y9⟩,C1,o1⟩;have V1:=o1.vecC (by omega) V1;have O1:=O1.trans o1;clear o1;go_wp2_with fail;refine (zGQ (y - 10000) _ (by omega) (by omega)).mono ?_;rintro e w3 ⟨rfl,E⟩;have C1:=C1.ext E;have V1:=V1.l E;have O1:=O1.trans (Only.of_ext E);clear E;go_wp2_with fail;refine (zBX b base _ 4 _ C1 (by omega) (by omega) (by omega)).mono ?_;rintro e w4 ⟨p,rfl,⟨p0,p9⟩,C1,o1⟩;have V1:=o1.vecC (by omega) V1;have O1:=O1.trans o1;clear o1;go_wp2_with fail;refine (putZ (y - 10000) (-p) _ (by omega) (by omega) (by omega) (by omega)).mono ?_;rintro e w5 ⟨⟨ok,n,d,x,rfl,d0,d1⟩,E⟩;have C1:=C1.ext E;have V1:=V1.l E;have O1:=O1.trans (Only.of_ext E);clear E;have FD:=fun W=>zCN ok n d x W;obtain ⟨wy,hy,OF,CF,⟨b0,b1,b2⟩,⟨fb0,fb1,fb2⟩,fd0,fd1,fd2⟩:=zKG V1 C1 O1 (Nat.le_refl _) (by omega) (by omega) n d x;go_wp2_with fail;exact bodyPost_ret (v:=decV n d x) (by simp [results,Tryz.results85,go_sem,fd0,fd1,fd2]) rfl ⟨⟨_,_,_,rfl,d0,d1⟩,CF.more (by omega),OF⟩
     ·have e4:(x == 4)=false:=(by simpa using h4);by_cases h5:x=5
      ·subst h5;clear y0 y9;go_wp2_with fail;refine (zBX b base _ 20000 _ C1 (by omega) (by omega) (by omega)).mono ?_;rintro e w2 ⟨y,rfl,⟨y0,y9⟩,C1,o1⟩;have V1:=o1.vecC (by omega) V1;have O1:=O1.trans o1;clear o1;go_wp2_with fail;refine (zGQ (y - 10000) _ (by omega) (by omega)).mono ?_;rintro e w3 ⟨rfl,E⟩;have C1:=C1.ext E;have V1:=V1.l E;have O1:=O1.trans (Only.of_ext E);clear E;go_wp2_with fail;refine (zBX b base _ 4 _ C1 (by omega) (by omega) (by omega)).mono ?_;rintro e w4 ⟨p,rfl,⟨p0,p9⟩,C1,o1⟩;have V1:=o1.vecC (by omega) V1;have O1:=O1.trans o1;clear o1;go_wp2_with fail;refine (putZ (y - 10000) (-p) _ (by omega) (by omega) (by omega) (by omega)).mono ?_;rintro e w5 ⟨⟨ok,n,d,x,rfl,d0,d1⟩,E⟩;have C1:=C1.ext E;have V1:=V1.l E;have O1:=O1.trans (Only.of_ext E);clear E;have FD:=fun W=>zCN ok n d x W;obtain ⟨wy,hy,OF,CF,⟨b0,b1,b2⟩,⟨fb0,fb1,fb2⟩,fd0,fd1,fd2⟩:=zKG V1 C1 O1 (Nat.le_refl _) (by omega) (by omega) n d x;go_wp2_with fail;exact bodyPost_ret (v:=decV n d x) (by simp [results,Tryz.results85,go_sem,fd0,fd1,fd2]) rfl ⟨⟨_,_,_,rfl,d0,d1⟩,CF.more (by omega),OF⟩
      ·have e5:(x == 5)=false:=(by simpa using h5);go_wp2_with fail;refine (zBX b base _ 200 _ C1 (by omega) (by omega) (by omega)).mono ?_;rintro e w2 ⟨y,rfl,⟨y0,y9⟩,C1,o1⟩;have V1:=o1.vecC (by omega) V1;have O1:=O1.trans o1;clear o1;go_wp2_with fail;refine (zGQ (y - 100) _ (by omega) (by omega)).mono ?_;rintro e w3 ⟨rfl,E⟩;have C1:=C1.ext E;have V1:=V1.l E;have O1:=O1.trans (Only.of_ext E);clear E;go_wp2_with fail;refine (putZ (y - 100) (0) _ (by omega) (by omega) (by omega) (by omega)).mono ?_;rintro e w5 ⟨⟨ok,n,d,x,rfl,d0,d1⟩,E⟩;have C1:=C1.ext E;have V1:=V1.l E;have O1:=O1.trans (Only.of_ext E);clear E;have FD:=fun W=>zCN ok n d x W;obtain ⟨wy,hy,OF,CF,⟨b0,b1,b2⟩,⟨fb0,fb1,fb2⟩,fd0,fd1,fd2⟩:=zKG V1 C1 O1 (Nat.le_refl _) (by omega) (by omega) n d x;go_wp2_with fail;exact bodyPost_ret (v:=decV n d x) (by simp [results,Tryz.results85,go_sem,fd0,fd1,fd2]) rfl ⟨⟨_,_,_,rfl,d0,d1⟩,CF.more (by omega),OF⟩
theorem zNJ {L:List (List UInt8)} {m:Nat} (h:m<L.length):∃ t,(L.map sV)[m]?=some (sV t)/\t ∈ L:=
 ⟨L[m],by rw [List.getElem?_map,List.getElem?_eq_getElem h];rfl,List.getElem_mem h⟩
theorem zSN {w:World} {b base K g:Nat} {l:List Value} {t:List UInt8} (C:Cur w b base K) (V:Vec w g l) (h:l[1]?=some (sV t)):g ≠ b:=by
 intro e;subst e;obtain ⟨v,n,a,s,B,_⟩:=C;have h1:=(V 1 _ h).1;have h2:w.cell? ⟨g,1,none⟩=some (iQ a):=B.1.2.1;rw [h2] at h1;cases h1
def zG7:List (List UInt8):=[[],[97],[66],[97,98,99],[49,50],[32,51,46,53,32],[116,114,117,101],[120,32,121],[65,98],[122,122,122]]
def zSQ (e:Ending):Prop:=∃ k n d x t,e=.returned (valV k n d x t)/\0<=d/\d<1000000000000000/\t.length<=2000
theorem zSF (z:Int) (w:World) (s1 : -1000000000000000000<z) (s2:z<1000000000000000000) :
  Calls Tryz.prog 86 #[iQ z] w fun e w'=>(∃ n d x,e=.returned (valV 1 n d x [])/\0<=d/\d<1000000000000000)/\Ext w w':=by
 have X0:=x1 w (.cells #[iQ 0,.bool false,iQ 0,iQ 0,sV []] 26);have V0:=zA5 w [iQ 0,.bool false,iQ 0,iQ 0,sV []] 26;go_enter Tryz.func86,Tryz.ntmps86;go_wp2_with fail;refine (zGQ z _ s1 s2).mono ?_;rintro e w1 ⟨rfl,e1⟩;go_wp2_with fail;refine (putZ z 0 w1 s1 s2 (by omega) (by omega)).mono ?_;rintro e w2 ⟨⟨ok,n,d,x,rfl,d0,d1⟩,e2⟩;have FD:=fun W=>zCN ok n d x W;go_wp2_with fail;refine (zEV n d x w2).mono ?_;rintro e w3 ⟨rfl,e3⟩;obtain ⟨wy,hy,FX,⟨b0,b1,b2,b3,b4⟩,⟨fb0,fb1,fb2,fb3,fb4⟩,fd0,fd1,fd2,fd3,fd4⟩:=fin5 (((V0.l e1).l e2).l e3) (xt (xt (xt X0 e1) e2) e3) (Nat.le_refl _) 1 n d x [];go_wp2_with fail;exact bodyPost_ret (v:=valV 1 n d x []) (by simp [results,Tryz.results86,go_sem,fd0,fd1,fd2,fd3,fd4]) rfl ⟨⟨_,_,_,rfl,d0,d1⟩,FX⟩
theorem zN9 (b base K:Nat) (w:World) (h:Cur w b base K) (hK:K<=900000) :
  Calls Tryz.prog 33 #[.pointer (some ⟨b,0,none⟩)] w fun e w'=>zSQ e/\Cur w' b base (K+40)/\Only b w w':=by
 have bl:=h.lt;have bb:=h.baseC;have X0:=x1 w (.cells #[iQ 0,.bool false,iQ 0,iQ 0,sV []] 26);have V0:=zA5 w [iQ 0,.bool false,iQ 0,iQ 0,sV []] 26;have C0:=h.ext X0;go_enter Tryz.func33,Tryz.ntmps33;go_wp2_with fail;refine (zBX b base K 9 _ C0 (by omega) (by omega) (by omega)).mono ?_;rintro e w1 ⟨x,rfl,⟨y0,y9⟩,C1,o1⟩;have V1:=o1.vecC (by omega) V0;have O1:=(Only.of_ext X0).trans o1;clear C0 o1 X0 V0;by_cases h0:x=0
 ·subst h0;clear y0 y9;obtain ⟨wy,hy,OF,CF,_,⟨b0,b1,b2,b3,b4⟩,⟨fb0,fb1,fb2,fb3,fb4⟩,fd0,fd1,fd2,fd3,fd4⟩:=zFC V1 C1 O1 (Nat.le_refl _) (by omega) (by omega) 0 false 0 0 [];go_wp2_with fail;exact bodyPost_ret (v:=valV 0 false 0 0 []) (by simp [results,Tryz.results33,go_sem,fd0,fd1,fd2,fd3,fd4]) rfl ⟨⟨_,_,_,_,_,rfl,by omega,by omega,by simp⟩,CF.more (by omega),OF⟩
 ·have e0:(x == 0)=false:=by simpa using h0
  by_cases h1:x=1
  ·subst h1;clear y0 y9;have hs1:w.heap.size<w1.heap.size:=World.block_lt_of_cell? _ _ (V1 0 _ rfl).1;have hb1:=C1.lt;have TV:=zA5 w1 (zG7.map sV) 9;have C1:=fun o=>C1.ext (x1 w1 o);have V1:=fun o=>V1.l (x1 w1 o);have O1:=fun o=>O1.trans (Only.of_ext (x1 w1 o));go_wp2_with fail;refine (zBX b base _ 10 _ (C1 _) (by omega) (by omega) (by omega)).mono ?_;rintro e w2 ⟨y,rfl,⟨y0,y9⟩,C2,o1⟩;have V1:=o1.vecC (by omega) (V1 _);have O1:=(O1 _).trans o1;have TV:Vec w2 w1.heap.size (zG7.map sV):=o1.vecC (by omega) TV;have C1:=C2;clear o1 C2;obtain ⟨m,rfl⟩:=Int.eq_ofNat_of_zero_le y0;obtain ⟨t,ht,hm⟩:=zNJ (L:=zG7) (m:=m) (by show m<10;omega);have hl:t.length<=5:=by
    simp only [zG7,List.mem_cons,List.not_mem_nil,or_false] at hm
    rcases hm with rfl | rfl | rfl | rfl | rfl | rfl | rfl | rfl | rfl | rfl <;> decide
   have a0:=(TV m _ ht).1;have i2:(m:Int)<10:=y9;clear hm ht TV;go_wp2_with fail;clear a0;refine (zG0 t _).mono ?_;rintro e w3 ⟨rfl,E⟩;have C1:=C1.ext E;have V1:=V1.l E;have O1:=O1.trans (Only.of_ext E);clear E;obtain ⟨wy,hy,OF,CF,_,⟨b0,b1,b2,b3,b4⟩,⟨fb0,fb1,fb2,fb3,fb4⟩,fd0,fd1,fd2,fd3,fd4⟩:=zFC V1 C1 O1 (Nat.le_refl _) (by omega) (by omega) 2 false 0 0 t;go_wp2_with fail;exact bodyPost_ret (v:=valV 2 false 0 0 t) (by simp [results,Tryz.results33,go_sem,fd0,fd1,fd2,fd3,fd4]) rfl ⟨⟨_,_,_,_,_,rfl,by omega,by omega,by omega⟩,CF.more (by omega),OF⟩
  ·have e1:(x == 1)=false:=by simpa using h1
   by_cases h2:x=2
   ·subst h2;clear y0 y9;have hs1:w.heap.size<w1.heap.size:=World.block_lt_of_cell? _ _ (V1 0 _ rfl).1;have hb1:=C1.lt;have TV:=zA5 w1 (zG7.map sV) 9;have C1:=fun o=>C1.ext (x1 w1 o);have V1:=fun o=>V1.l (x1 w1 o);have O1:=fun o=>O1.trans (Only.of_ext (x1 w1 o));go_wp2_with fail;refine (zBX b base _ 10 _ (C1 _) (by omega) (by omega) (by omega)).mono ?_;rintro e w2 ⟨y,rfl,⟨y0,y9⟩,C2,o1⟩;have V1:=o1.vecC (by omega) (V1 _);have O1:=(O1 _).trans o1;have TV:Vec w2 w1.heap.size (zG7.map sV):=o1.vecC (by omega) TV;have C1:=C2;clear o1 C2;obtain ⟨m,rfl⟩:=Int.eq_ofNat_of_zero_le y0;obtain ⟨t,ht,hm⟩:=zNJ (L:=zG7) (m:=m) (by show m<10;omega);have hl:t.length<=5:=by
     simp only [zG7,List.mem_cons,List.not_mem_nil,or_false] at hm
     rcases hm with rfl | rfl | rfl | rfl | rfl | rfl | rfl | rfl | rfl | rfl <;> decide
    have a0:=(TV m _ ht).1;have i2:(m:Int)<10:=y9;clear hm ht TV;go_wp2_with fail;clear a0;refine (zG0 t _).mono ?_;rintro e w3 ⟨rfl,E⟩;have C1:=C1.ext E;have V1:=V1.l E;have O1:=O1.trans (Only.of_ext E);clear E;obtain ⟨wy,hy,OF,CF,_,⟨b0,b1,b2,b3,b4⟩,⟨fb0,fb1,fb2,fb3,fb4⟩,fd0,fd1,fd2,fd3,fd4⟩:=zFC V1 C1 O1 (Nat.le_refl _) (by omega) (by omega) 2 false 0 0 t;go_wp2_with fail;exact bodyPost_ret (v:=valV 2 false 0 0 t) (by simp [results,Tryz.results33,go_sem,fd0,fd1,fd2,fd3,fd4]) rfl ⟨⟨_,_,_,_,_,rfl,by omega,by omega,by omega⟩,CF.more (by omega),OF⟩
   ·have e2:(x == 2)=false:=(by simpa using h2);by_cases h3:x=3
    ·subst h3;clear y0 y9;go_wp2_with fail;refine (oneC b base _ 2 _ C1 (by omega) (by omega) (by omega)).mono ?_;rintro e w2 ⟨q,rfl,C1,o1⟩;have V1:=o1.vecC (by omega) V1;have O1:=O1.trans o1;clear o1;cases q
     ·go_wp2_with fail;refine (zFH false _).mono ?_;rintro e w3 ⟨rfl,E⟩;have C1:=C1.ext E;have V1:=V1.l E;have O1:=O1.trans (Only.of_ext E);clear E;obtain ⟨wy,hy,OF,CF,_,⟨b0,b1,b2,b3,b4⟩,⟨fb0,fb1,fb2,fb3,fb4⟩,fd0,fd1,fd2,fd3,fd4⟩:=zFC V1 C1 O1 (Nat.le_refl _) (by omega) (by omega) 3 false 0 0 zAA;go_wp2_with fail;exact bodyPost_ret (v:=valV 3 false 0 0 zAA) (by simp [results,Tryz.results33,go_sem,fd0,fd1,fd2,fd3,fd4]) rfl ⟨⟨_,_,_,_,_,rfl,by omega,by omega,by decide⟩,CF.more (by omega),OF⟩
     ·go_wp2_with fail;refine (zFH true _).mono ?_;rintro e w3 ⟨rfl,E⟩;have C1:=C1.ext E;have V1:=V1.l E;have O1:=O1.trans (Only.of_ext E);clear E;obtain ⟨wy,hy,OF,CF,_,⟨b0,b1,b2,b3,b4⟩,⟨fb0,fb1,fb2,fb3,fb4⟩,fd0,fd1,fd2,fd3,fd4⟩:=zFC V1 C1 O1 (Nat.le_refl _) (by omega) (by omega) 3 false 0 0 zAX;go_wp2_with fail;exact bodyPost_ret (v:=valV 3 false 0 0 zAX) (by simp [results,Tryz.results33,go_sem,fd0,fd1,fd2,fd3,fd4]) rfl ⟨⟨_,_,_,_,_,rfl,by omega,by omega,by decide⟩,CF.more (by omega),OF⟩
    ·have e3:(x == 3)=false:=(by simpa using h3);by_cases h4:x=4
     ·subst h4;clear y0 y9;go_wp2_with fail;refine (oneC b base _ 2 _ C1 (by omega) (by omega) (by omega)).mono ?_;rintro e w2 ⟨q,rfl,C1,o1⟩;have V1:=o1.vecC (by omega) V1;have O1:=O1.trans o1;clear o1;cases q
      ·go_wp2_with fail;refine (zBX b base _ 40 _ C1 (by omega) (by omega) (by omega)).mono ?_;rintro e w7 ⟨y,rfl,⟨y0,y9⟩,C1,o1⟩;have V1:=o1.vecC (by omega) V1;have O1:=O1.trans o1;clear o1;go_wp2_with fail;refine (zSF (y - 15) _ (by omega) (by omega)).mono ?_;rintro e w8 ⟨⟨n,d,x,rfl,d0,d1⟩,E⟩;have C1:=C1.ext E;have V1:=V1.l E;have O1:=O1.trans (Only.of_ext E);clear E;obtain ⟨wy,hy,OF,CF,_,⟨b0,b1,b2,b3,b4⟩,⟨fb0,fb1,fb2,fb3,fb4⟩,fd0,fd1,fd2,fd3,fd4⟩:=zFC V1 C1 O1 (Nat.le_refl _) (by omega) (by omega) 1 n d x [];go_wp2_with fail;exact bodyPost_ret (v:=valV 1 n d x []) (by simp [results,Tryz.results33,go_sem,fd0,fd1,fd2,fd3,fd4]) rfl ⟨⟨_,_,_,_,_,rfl,d0,d1,by simp⟩,CF.more (by omega),OF⟩
      ·go_wp2_with fail;refine (zPF _).mono ?_;rintro e w3 ⟨g,rfl,TV,E⟩;have C1:=C1.ext E;have V1:=V1.l E;have O1:=O1.trans (Only.of_ext E);clear E;have gb:g ≠ b:=zSN C1 TV rfl;go_wp2_with fail;refine (zBX b base _ 9 _ C1 (by omega) (by omega) (by omega)).mono ?_;rintro e w4 ⟨y,rfl,⟨y0,y9⟩,C1,o1⟩;have V1:=o1.vecC (by omega) V1;have O1:=O1.trans o1;have TV:=o1.vecC gb TV;clear o1;obtain ⟨m,rfl⟩:=Int.eq_ofNat_of_zero_le y0;obtain ⟨t,ht,hm⟩:=zNJ (L:=errL) (m:=m) (by show m<9;omega);have hl:t.length<=7:=by
        simp only [errL,List.mem_cons,List.not_mem_nil,or_false] at hm
        rcases hm with rfl | rfl | rfl | rfl | rfl | rfl | rfl | rfl | rfl <;> decide
       have a0:=(TV m _ ht).1;have i2:(m:Int)<9:=y9;clear hm ht TV;go_wp2_with fail;clear a0;refine (zB2 t _).mono ?_;rintro e w5 ⟨rfl,E⟩;have C1:=C1.ext E;have V1:=V1.l E;have O1:=O1.trans (Only.of_ext E);clear E;obtain ⟨wy,hy,OF,CF,_,⟨b0,b1,b2,b3,b4⟩,⟨fb0,fb1,fb2,fb3,fb4⟩,fd0,fd1,fd2,fd3,fd4⟩:=zFC V1 C1 O1 (Nat.le_refl _) (by omega) (by omega) 4 false 0 0 t;go_wp2_with fail;exact bodyPost_ret (v:=valV 4 false 0 0 t) (by simp [results,Tryz.results33,go_sem,fd0,fd1,fd2,fd3,fd4]) rfl ⟨⟨_,_,_,_,_,rfl,by omega,by omega,by omega⟩,CF.more (by omega),OF⟩
     ·have e4:(x == 4)=false:=(by simpa using h4);by_cases h5:x=5
      ·subst h5;clear y0 y9;go_wp2_with fail;refine (decC b base _ _ C1 (by omega)).mono ?_;rintro e w2 ⟨⟨n,d,x,rfl,d0,d1⟩,C1,o1⟩;have V1:=o1.vecC (by omega) V1;have O1:=O1.trans o1;clear o1;go_wp2_with fail;refine (zEV n d x _).mono ?_;rintro e w3 ⟨rfl,E⟩;have C1:=C1.ext E;have V1:=V1.l E;have O1:=O1.trans (Only.of_ext E);clear E;obtain ⟨wy,hy,OF,CF,_,⟨b0,b1,b2,b3,b4⟩,⟨fb0,fb1,fb2,fb3,fb4⟩,fd0,fd1,fd2,fd3,fd4⟩:=zFC V1 C1 O1 (Nat.le_refl _) (by omega) (by omega) 1 n d x [];go_wp2_with fail;exact bodyPost_ret (v:=valV 1 n d x []) (by simp [results,Tryz.results33,go_sem,fd0,fd1,fd2,fd3,fd4]) rfl ⟨⟨_,_,_,_,_,rfl,d0,d1,by simp⟩,CF.more (by omega),OF⟩
      ·have e5:(x == 5)=false:=(by simpa using h5);go_wp2_with fail;refine (zBX b base _ 40 _ C1 (by omega) (by omega) (by omega)).mono ?_;rintro e w7 ⟨y,rfl,⟨y0,y9⟩,C1,o1⟩;have V1:=o1.vecC (by omega) V1;have O1:=O1.trans o1;clear o1;go_wp2_with fail;refine (zSF (y - 15) _ (by omega) (by omega)).mono ?_;rintro e w8 ⟨⟨n,d,x,rfl,d0,d1⟩,E⟩;have C1:=C1.ext E;have V1:=V1.l E;have O1:=O1.trans (Only.of_ext E);clear E;obtain ⟨wy,hy,OF,CF,_,⟨b0,b1,b2,b3,b4⟩,⟨fb0,fb1,fb2,fb3,fb4⟩,fd0,fd1,fd2,fd3,fd4⟩:=zFC V1 C1 O1 (Nat.le_refl _) (by omega) (by omega) 1 n d x [];go_wp2_with fail;exact bodyPost_ret (v:=valV 1 n d x []) (by simp [results,Tryz.results33,go_sem,fd0,fd1,fd2,fd3,fd4]) rfl ⟨⟨_,_,_,_,_,rfl,d0,d1,by simp⟩,CF.more (by omega),OF⟩
structure VT where
 k:Int
 n:Bool
 d:Int
 x:Int
 t:List UInt8
abbrev VT.cells (e:VT):List Value:=valL e.k e.n e.d e.x e.t
abbrev VT.val (e:VT):Value:=valV e.k e.n e.d e.x e.t
def RowV (w:World) (b o:Nat) (l:List VT):Prop:=∀ (i:Nat) (e:VT),l[i]?=some e->∀ (c:Nat) (u:Value),e.cells[c]?=some u->w.cell? ⟨b,o+i * 5+c,none⟩=some u
theorem RowV.l {w w':World} {b o:Nat} {l:List VT} (h:RowV w b o l) (x:Ext w w'):RowV w' b o l:=fun i e hi c u hc=>cell_later x (h i e hi c u hc)
theorem RowV.five {w:World} {b o:Nat} {l:List VT} (h:RowV w b o l) {k:Nat} {e:VT} (he:l[k]?=some e) :
  w.cell? ⟨b,o+k * 5,none⟩=some (iQ e.k)/\w.cell? ⟨b,o+k * 5+1,none⟩=some (.bool e.n)/\w.cell? ⟨b,o+k * 5+2,none⟩=some (iQ e.d)/\w.cell? ⟨b,o+k * 5+3,none⟩=some (iQ e.x)/\w.cell? ⟨b,o+k * 5+4,none⟩=some (sV e.t):=
 ⟨h k e he 0 _ rfl,h k e he 1 _ rfl,h k e he 2 _ rfl,h k e he 3 _ rfl,h k e he 4 _ rfl⟩
def zB6 (w:World) (v:Value) (l:List VT):Prop:=
 ∃ p cap,v=.slice p l.length cap/\l.length<=cap/\(0<l.length->∃ b o,p=some ⟨b,o,none⟩/\RowV w b o l)
theorem zB6.l {w w':World} {v:Value} {l:List VT} (h:zB6 w v l) (x:Ext w w'):zB6 w' v l:=by
 obtain ⟨p,cap,h1,h2,h3⟩:=h;refine ⟨p,cap,h1,h2,fun h0=>?_⟩;obtain ⟨b,o,h4,h5⟩:=h3 h0;exact ⟨b,o,h4,h5.l x⟩
def OwnV (w:World) (g:Nat) (l:List VT):Prop:=∀ (i:Nat) (e:VT),l[i]?=some e->∀ (c:Nat) (u:Value),e.cells[c]?=some u->w.cell? ⟨g,i * 5+c,none⟩=some u/\w.frozen? ⟨g,i * 5+c,none⟩=false
def zBG:VT:=⟨0,false,0,0,[]⟩
theorem zIR {e:VT} {c:Nat} {u:Value} (h:e.cells[c]?=some u):c<5:=(List.getElem?_eq_some_iff.1 h).1
theorem OwnV.made (w:World) (n:Nat) (t:TypeId):OwnV (w.alloc (.cells (madeCells #[iQ 0,.bool false,iQ 0,iQ 0,sV []] (n * 5)) t)) w.heap.size (List.replicate n zBG):=by
 intro i e hi c u hc;have hb:=heap_alloc_new w (.cells (madeCells #[iQ 0,.bool false,iQ 0,iQ 0,sV []] (n * 5)) t);obtain ⟨hin,rfl⟩:i<n/\e=zBG:=by
  rw [List.getElem?_replicate] at hi
  split at hi
  ·cases hi;exact ⟨by assumption,rfl⟩
  ·cases hi
 have h5:=zIR hc;have hlt:i * 5+c<n * 5:=by omega
 refine ⟨?_,?_⟩
 ·unfold World.cell?;simp only [hb];have e1:(madeCells #[iQ 0,.bool false,iQ 0,iQ 0,sV []] (n * 5))[i * 5+c]?=some u:=by
   unfold madeCells;have hm:(i * 5+c) % 5=c:=by omega
   rw [Array.getElem?_map,Array.getElem?_eq_getElem (by simpa using hlt)];simp only [Array.getElem_range,Option.map_some];have hs:(#[iQ 0,.bool false,iQ 0,iQ 0,sV []]:Array Value).size=5:=rfl;rw [hs,hm,<- hc]
   match c,h5 with
   | 0,_=>rfl
   | 1,_=>rfl
   | 2,_=>rfl
   | 3,_=>rfl
   | 4,_=>rfl
  simpa using e1
 ·unfold World.frozen?;simp only [hb];simp
theorem zW8:(Tryz.prog.info? 26).map (fun i=>(i.zero,i.size,i.bytes))=some (some (.agg #[iQ 0,.bool false,iQ 0,iQ 0,sV []]),5,48):=by kernel_rfl
theorem zLD (n:Nat) (hn:n<=2000000) (w:World) :
  (Instr.makeSlice 33 (iQ (n:Int)) (iQ (n:Int))).run Tryz.prog w=.ok (.slice (some ⟨w.heap.size,0,none⟩) n n) (w.alloc (.cells (madeCells #[iQ 0,.bool false,iQ 0,iQ 0,sV []] (n * 5)) 26)):=by
 obtain ⟨i,hi,hzz⟩:=Option.map_eq_some_iff.1 zW8;simp only [Prod.mk.injEq] at hzz;obtain ⟨hz,hs,hb⟩:=hzz;have hr:=run_make (P:=Tryz.prog) w 33 26 i _ Tryz.underlying33 hi hz .i64 .i64 n n (by omega) (Int.le_refl _) (by rw [hb];omega) (by omega);simp only [Int.toNat_natCast,hs] at hr;exact hr
end Go.Proofs.YtkadkfmidlhedaaGreatDoor

