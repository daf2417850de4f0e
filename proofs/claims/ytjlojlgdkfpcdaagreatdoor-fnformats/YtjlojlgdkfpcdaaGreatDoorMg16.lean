/-
  Several texts in one: PutZ, Pok, Bx, V9e, X9b, X9c, Sb0, MuI.
-/
import Derived.Test.YtjlojlgdkfpcdaaGreatDoorPutS
import Derived.Test.YtjlojlgdkfpcdaaGreatDoorMg11
import Derived.Test.YtjlojlgdkfpcdaaGreatDoorMg14
import Derived.Test.YtjlojlgdkfpcdaaGreatDoorMg0
import Derived.Test.YtjlojlgdkfpcdaaGreatDoorMg1
import Derived.Test.YtjlojlgdkfpcdaaGreatDoorMg5
import Derived.Lib.ItoaNum
set_option maxRecDepth 8000
set_option maxHeartbeats 2000000
namespace Go.Proofs.YtjlojlgdkfpcdaaGreatDoor
open Go.RowKit
theorem zNG (sg:Bool) (e:Int) (more:Bool):putR sg 0 e more=⟨true,false,0,0⟩:=by
 unfold putR;rw [zDZ,if_neg (by decide)];unfold fitR;rw [if_pos rfl]
theorem putS0 {v:Value} (e:Int) (more:Bool) (w:World) (h:ZV w v 0) :
  Calls Tryz.prog 57 #[v,iQ e,.bool more] w fun r w'=>r=.returned (.agg #[.bool true,.bool false,iQ 0,iQ 0])/\Ext w w':=by
 obtain ⟨c0,c1,pa,na,ca,rfl⟩:=h.shape;have NA:Hid (∀ w2,Ext w w2->Calls Tryz.prog 110 #[.agg #[iQ c0,.bool c1,.slice pa na ca]] w2 fun e w'=>e=.returned (.bool false)/\Ext w2 w'):=fun w2 x=>zAU false w2 (by decide) (h.l x);have AB:Hid (∀ w2,Ext w w2->Calls Tryz.prog 111 #[.agg #[iQ c0,.bool c1,.slice pa na ca]] w2 fun e w'=>∃ z0 z1 p n c,e=.returned (.agg #[iQ z0,.bool z1,.slice p n c])/\ZV w' (.agg #[iQ z0,.bool z1,.slice p n c]) 0/\Ext w2 w'):=fun w2 x=>by
  refine (zI6 w2 (h.l x)).mono ?_;rintro e w' ⟨v',rfl,hz,hx⟩;obtain ⟨z0,z1,p,n,c,rfl⟩:=hz.shape;exact ⟨z0,z1,p,n,c,rfl,hz,hx⟩
 have DG:Hid (∀ (w2:World) (v:Value),ZV w2 v 0->Calls Tryz.prog 112 #[v] w2 fun e w'=>e=.returned (iQ 1)/\Ext w2 w'):=fun w2 v hv=>zJ9 w2 hv (by decide) 1 (by decide) (by decide);have ZR:Hid (∀ (w2:World) (v:Value),ZV w2 v 0->Calls Tryz.prog 113 #[v] w2 fun e w'=>e=.returned (.bool true)/\Ext w2 w'):=fun w2 v hv=>zH0 w2 hv;have Ba:=(Box3.made w (iQ c0) (.bool c1) (.slice pa na ca) 103).l (x1 _ (.cells #[.bool false,.bool false,iQ 0,iQ 0] 99));have Br:=Box4.made (w.alloc (.cells #[iQ c0,.bool c1,.slice pa na ca] 103)) (.bool false) (.bool false) (iQ 0) (iQ 0) 99;have X0:=xa (x1 w (.cells #[iQ c0,.bool c1,.slice pa na ca] 103)) (.cells #[.bool false,.bool false,iQ 0,iQ 0] 99);simp only [World.size_alloc] at Br;clear h;go_enter Tryz.func57,Tryz.ntmps57;go_wp2_with fail;refine (NA.out _ X0).mono ?_;rintro r w1 ⟨rfl,x1'⟩;have Ba':=Ba.l x1';obtain ⟨⟨p0,p1,p2⟩,_⟩:=Ba';go_wp2_with fail;refine (AB.out _ (xt X0 x1')).mono ?_;rintro r w2 ⟨z0,z1,z2,z3,z4,rfl,hz2,x2'⟩;have B2:=(Ba.l x1').l x2';have ZP:ZIn (set3 w2 w.heap.size (iQ z0) (.bool z1) (.slice z2 z3 z4)) w.heap.size 0:=⟨_,_,_,_,_,B2.put _ _ _,hz2.set3 B2 _ _ _⟩;have X2:=Ext.set3 (xt (xt X0 x1') x2') (b:=w.heap.size) (Nat.le_refl _) (iQ z0) (.bool z1) (.slice z2 z3 z4);have Br2:=(Br.l x1').l x2';have Br3:=((Br2.far (p:=⟨w.heap.size,0,none⟩) (show w.heap.size ≠ w.heap.size+1 by omega) (iQ z0)).far (p:=⟨w.heap.size,1,none⟩) (show w.heap.size ≠ w.heap.size+1 by omega) (.bool z1)).far (p:=⟨w.heap.size,2,none⟩) (show w.heap.size ≠ w.heap.size+1 by omega) (.slice z2 z3 z4);obtain ⟨⟨g0,g1,g2⟩,h0,h1,h2⟩:=B2;obtain ⟨u2,hu2⟩:=nm (set3 w2 w.heap.size (iQ z0) (.bool z1) (.slice z2 z3 z4));rw [hu2] at ZP X2;unfold set3 at hu2;rw [hu2] at Br3;obtain ⟨y0,y1,y2,y3,y4,⟨⟨i0,i1,i2⟩,_⟩,hy⟩:=ZP;clear hz2 NA AB Ba Br Br2 X0 x1' x2' p0 p1 p2;go_wp2_with fail;refine (DG.out _ _ hy).mono ?_;rintro r w3 ⟨rfl,x3'⟩;replace Br3:=Br3.l x3';replace X2:=xt X2 x3';have hy3:=hy.l x3';have i3:=cell_later x3' i0;have i4:=cell_later x3' i1;have i5:=cell_later x3' i2;clear hy g0 g1 g2 h0 h1 h2 hu2 DG x3' i0 i1 i2;go_wp2_with fail;refine (ZR.out _ _ hy3).mono ?_;rintro r w4 ⟨rfl,x4'⟩;replace Br3:=Br3.l x4';replace X2:=xt X2 x4';have hy4:=hy3.l x4';replace i3:=cell_later x4' i3;replace i4:=cell_later x4' i4;replace i5:=cell_later x4' i5;clear hy3 x4';go_wp2_with fail;refine (ZR.out _ _ hy4).mono ?_;rintro r w5 ⟨rfl,x5'⟩;obtain ⟨⟨m0,m1,m2,m3⟩,n0,n1,n2,n3⟩:=Br3.l x5';have XD:=xt X2 x5';clear i3 i4 i5 hy4;go_wp2_with fail;exact bodyPost_ret (v:=.agg #[.bool true,.bool false,iQ 0,iQ 0]) (by simp [results,Tryz.results57,go_sem,m0,m1,m2,m3]) rfl ⟨rfl,xset (xset (xset (xset XD (Nat.le_succ _) _) (Nat.le_succ _) _) (Nat.le_succ _) _) (Nat.le_succ _) _⟩
theorem zFL {v:Value} {z:Int} (e:Int) (more:Bool) (w:World) (h:ZV w v z) (k:Nat) (hk:k<=1000) (kz:(z.natAbs:Int)<1000000000 ^ k) (e0 : -50000<=e) (e1:e<=50000) (sg:Bool) (P:Nat) (hP:z.natAbs=P) (hs:z ≠ 0->decide (z<0)=sg) :
  Calls Tryz.prog 57 #[v,iQ e,.bool more] w fun r w'=>r=.returned (resV (putR sg P e more))/\Ext w w':=by
 by_cases hz:z=0
 ·subst hz;have:P=0:=by rw [<- hP];rfl
  subst this;rw [zNG];exact putS0 e more w h
 ·have:=putS e more w h hz k hk kz e0 e1;rw [hP,hs hz] at this;exact this
theorem zJF {P:Nat} (e:Int):(P ≠ 0->(zAK P e).1 % 10 ≠ 0)/\(zAK P e).1<=P:=by
 induction P using Nat.strongRecOn generalizing e with
 | ind P ih =>
  by_cases h:P ≠ 0/\P % 10=0
  ·rw [zB1 h.1 h.2];obtain ⟨h1,h2⟩:=ih (P / 10) (by omega) (e+1);exact ⟨fun _=>h1 (by omega),by omega⟩
  ·rw [zAK];simp only [h,dite_false];exact ⟨fun h0=>by omega,Nat.le_refl _⟩
theorem zLI {neg:Bool} {P:Nat} {e:Int} (hP:P<=1000000000000000) (h:(fitR neg P e).ok=true):zA1 (fitR neg P e).neg (fitR neg P e).d (fitR neg P e).e=true:=by
 unfold fitR at h ⊢
 split
 ·rfl
 ·rename_i h0;simp only [h0,if_false] at h
  split
  ·rename_i h1;simp [h1] at h
  ·split
   ·rfl
   ·rename_i h1 h2;obtain ⟨hm,hl⟩:=zJF (P:=P) e;have hm':=hm h0;unfold zA1;simp only;have hne:((zAK P e).1:Int) ≠ 0:=(by omega);rw [if_neg hne];have:(zAK P e).1 ≠ 1000000000000000:=(by omega);simp;omega
theorem zKV {neg:Bool} {P:Nat} {e:Int} {more:Bool} (h:(putR neg P e more).ok=true):zA1 (putR neg P e more).neg (putR neg P e more).d (putR neg P e more).e=true:=by
 unfold putR at h ⊢
 split
 ·rename_i h15;rw [if_pos h15] at h;exact zLI (zNC h15) h
 ·rename_i h15;rw [if_neg h15] at h;refine zLI ?_ h;have h1:=(zE5 P).1;have h2:=zB3 (show nd P<=15 by omega);have e15:(10:Nat) ^ 15=1000000000000000:=by decide
  omega
theorem Vec.three {w:World} {b:Nat} {v0 v1 v2:Value} (h:Vec w b [v0,v1,v2]):w.cell? ⟨b,0,none⟩=some v0/\w.cell? ⟨b,1,none⟩=some v1/\w.cell? ⟨b,2,none⟩=some v2:=
 ⟨(h 0 _ rfl).1,(h 1 _ rfl).1,(h 2 _ rfl).1⟩
theorem Vec.threeF {w:World} {b:Nat} {v0 v1 v2:Value} (h:Vec w b [v0,v1,v2]):w.frozen? ⟨b,0,none⟩=false/\w.frozen? ⟨b,1,none⟩=false/\w.frozen? ⟨b,2,none⟩=false:=
 ⟨(h 0 _ rfl).2,(h 1 _ rfl).2,(h 2 _ rfl).2⟩
theorem Vec.four {w:World} {b:Nat} {v0 v1 v2 v3:Value} (h:Vec w b [v0,v1,v2,v3]):w.cell? ⟨b,0,none⟩=some v0/\w.cell? ⟨b,1,none⟩=some v1/\w.cell? ⟨b,2,none⟩=some v2/\w.cell? ⟨b,3,none⟩=some v3:=
 ⟨(h 0 _ rfl).1,(h 1 _ rfl).1,(h 2 _ rfl).1,(h 3 _ rfl).1⟩
theorem Vec.fourF {w:World} {b:Nat} {v0 v1 v2 v3:Value} (h:Vec w b [v0,v1,v2,v3]):w.frozen? ⟨b,0,none⟩=false/\w.frozen? ⟨b,1,none⟩=false/\w.frozen? ⟨b,2,none⟩=false/\w.frozen? ⟨b,3,none⟩=false:=
 ⟨(h 0 _ rfl).2,(h 1 _ rfl).2,(h 2 _ rfl).2,(h 3 _ rfl).2⟩
theorem Vec.five {w:World} {b:Nat} {v0 v1 v2 v3 v4:Value} (h:Vec w b [v0,v1,v2,v3,v4]):w.cell? ⟨b,0,none⟩=some v0/\w.cell? ⟨b,1,none⟩=some v1/\w.cell? ⟨b,2,none⟩=some v2/\w.cell? ⟨b,3,none⟩=some v3/\w.cell? ⟨b,4,none⟩=some v4:=
 ⟨(h 0 _ rfl).1,(h 1 _ rfl).1,(h 2 _ rfl).1,(h 3 _ rfl).1,(h 4 _ rfl).1⟩
theorem Vec.fiveF {w:World} {b:Nat} {v0 v1 v2 v3 v4:Value} (h:Vec w b [v0,v1,v2,v3,v4]):w.frozen? ⟨b,0,none⟩=false/\w.frozen? ⟨b,1,none⟩=false/\w.frozen? ⟨b,2,none⟩=false/\w.frozen? ⟨b,3,none⟩=false/\w.frozen? ⟨b,4,none⟩=false:=
 ⟨(h 0 _ rfl).2,(h 1 _ rfl).2,(h 2 _ rfl).2,(h 3 _ rfl).2,(h 4 _ rfl).2⟩
theorem mkB2 (w:World) (l0 l1:List Value) (T0 T1:TypeId):∃ u0 u1,w.alloc (.cells l0.toArray T0)=u0/\u0.alloc (.cells l1.toArray T1)=u1/\u0.heap.size=w.heap.size+1/\u1.heap.size=w.heap.size+1+1/\Vec u1 (w.heap.size) l0/\Vec u1 (w.heap.size+1) l1/\Ext w u1:=by
 have X0:=x1 w (.cells l0.toArray T0);have B0:=zA2 w l0 T0;obtain ⟨u0,h0⟩:=nm (w.alloc (.cells l0.toArray T0));rw [h0] at X0 B0;have s0:u0.heap.size=w.heap.size+1:=by rw [<- h0,World.size_alloc]
 have X:=X0;have X1:=x1 u0 (.cells l1.toArray T1);have B1:=zA2 u0 l1 T1;obtain ⟨u1,h1⟩:=nm (u0.alloc (.cells l1.toArray T1));rw [h1] at X1 B1;rw [s0] at B1;have s1:u1.heap.size=w.heap.size+1+1:=by rw [<- h1,World.size_alloc,s0]
 have B0:=B0.l X1;have X:=xt X X1;exact ⟨u0,u1,h0,h1,s0,s1,B0,B1,X⟩
theorem mkB3 (w:World) (l0 l1 l2:List Value) (T0 T1 T2:TypeId):∃ u0 u1 u2,w.alloc (.cells l0.toArray T0)=u0/\u0.alloc (.cells l1.toArray T1)=u1/\u1.alloc (.cells l2.toArray T2)=u2/\u0.heap.size=w.heap.size+1/\u1.heap.size=w.heap.size+1+1/\u2.heap.size=w.heap.size+1+1+1/\Vec u2 (w.heap.size) l0/\Vec u2 (w.heap.size+1) l1/\Vec u2 (w.heap.size+1+1) l2/\Ext w u2:=by
 have X0:=x1 w (.cells l0.toArray T0);have B0:=zA2 w l0 T0;obtain ⟨u0,h0⟩:=nm (w.alloc (.cells l0.toArray T0));rw [h0] at X0 B0;have s0:u0.heap.size=w.heap.size+1:=by rw [<- h0,World.size_alloc]
 have X:=X0;have X1:=x1 u0 (.cells l1.toArray T1);have B1:=zA2 u0 l1 T1;obtain ⟨u1,h1⟩:=nm (u0.alloc (.cells l1.toArray T1));rw [h1] at X1 B1;rw [s0] at B1;have s1:u1.heap.size=w.heap.size+1+1:=by rw [<- h1,World.size_alloc,s0]
 have B0:=B0.l X1;have X:=xt X X1;have X2:=x1 u1 (.cells l2.toArray T2);have B2:=zA2 u1 l2 T2;obtain ⟨u2,h2⟩:=nm (u1.alloc (.cells l2.toArray T2));rw [h2] at X2 B2;rw [s1] at B2;have s2:u2.heap.size=w.heap.size+1+1+1:=by rw [<- h2,World.size_alloc,s1]
 have B0:=B0.l X2;have B1:=B1.l X2;have X:=xt X X2;exact ⟨u0,u1,u2,h0,h1,h2,s0,s1,s2,B0,B1,B2,X⟩
theorem mkB4 (w:World) (l0 l1 l2 l3:List Value) (T0 T1 T2 T3:TypeId):∃ u0 u1 u2 u3,w.alloc (.cells l0.toArray T0)=u0/\u0.alloc (.cells l1.toArray T1)=u1/\u1.alloc (.cells l2.toArray T2)=u2/\u2.alloc (.cells l3.toArray T3)=u3/\u0.heap.size=w.heap.size+1/\u1.heap.size=w.heap.size+1+1/\u2.heap.size=w.heap.size+1+1+1/\u3.heap.size=w.heap.size+1+1+1+1/\Vec u3 (w.heap.size) l0/\Vec u3 (w.heap.size+1) l1/\Vec u3 (w.heap.size+1+1) l2/\Vec u3 (w.heap.size+1+1+1) l3/\Ext w u3:=by
 have X0:=x1 w (.cells l0.toArray T0);have B0:=zA2 w l0 T0;obtain ⟨u0,h0⟩:=nm (w.alloc (.cells l0.toArray T0));rw [h0] at X0 B0;have s0:u0.heap.size=w.heap.size+1:=by rw [<- h0,World.size_alloc]
 have X:=X0;have X1:=x1 u0 (.cells l1.toArray T1);have B1:=zA2 u0 l1 T1;obtain ⟨u1,h1⟩:=nm (u0.alloc (.cells l1.toArray T1));rw [h1] at X1 B1;rw [s0] at B1;have s1:u1.heap.size=w.heap.size+1+1:=by rw [<- h1,World.size_alloc,s0]
 have B0:=B0.l X1;have X:=xt X X1;have X2:=x1 u1 (.cells l2.toArray T2);have B2:=zA2 u1 l2 T2;obtain ⟨u2,h2⟩:=nm (u1.alloc (.cells l2.toArray T2));rw [h2] at X2 B2;rw [s1] at B2;have s2:u2.heap.size=w.heap.size+1+1+1:=by rw [<- h2,World.size_alloc,s1]
 have B0:=B0.l X2;have B1:=B1.l X2;have X:=xt X X2;have X3:=x1 u2 (.cells l3.toArray T3);have B3:=zA2 u2 l3 T3;obtain ⟨u3,h3⟩:=nm (u2.alloc (.cells l3.toArray T3));rw [h3] at X3 B3;rw [s2] at B3;have s3:u3.heap.size=w.heap.size+1+1+1+1:=by rw [<- h3,World.size_alloc,s2]
 have B0:=B0.l X3;have B1:=B1.l X3;have B2:=B2.l X3;have X:=xt X X3;exact ⟨u0,u1,u2,u3,h0,h1,h2,h3,s0,s1,s2,s3,B0,B1,B2,B3,X⟩
theorem fin5 {a w:World} {b:Nat} (V:Vec w b (valL 0 false 0 0 [])) (X:Ext a w) (hb:a.heap.size<=b) (k:Int) (n:Bool) (d x:Int) (t:List UInt8) :
  ∃ wy,(((((w.setCell ⟨b,0,none⟩ (iQ k)).setCell ⟨b,1,none⟩ (.bool n)).setCell ⟨b,2,none⟩ (iQ d)).setCell ⟨b,3,none⟩ (iQ x)).setCell ⟨b,4,none⟩ (sV t))=wy/\Ext a wy/\(w.cell? ⟨b,0,none⟩=some (iQ 0)/\w.cell? ⟨b,1,none⟩=some (.bool false)/\w.cell? ⟨b,2,none⟩=some (iQ 0)/\w.cell? ⟨b,3,none⟩=some (iQ 0)/\w.cell? ⟨b,4,none⟩=some (sV []))/\(w.frozen? ⟨b,0,none⟩=false/\w.frozen? ⟨b,1,none⟩=false/\w.frozen? ⟨b,2,none⟩=false/\w.frozen? ⟨b,3,none⟩=false/\w.frozen? ⟨b,4,none⟩=false)/\wy.cell? ⟨b,0,none⟩=some (iQ k)/\wy.cell? ⟨b,1,none⟩=some (.bool n)/\wy.cell? ⟨b,2,none⟩=some (iQ d)/\wy.cell? ⟨b,3,none⟩=some (iQ x)/\wy.cell? ⟨b,4,none⟩=some (sV t):=by
 have FG:=V.put5 (iQ k) (.bool n) (iQ d) (iQ x) (sV t);have FX:=Ext.setL (b:=b) hb [iQ k,.bool n,iQ d,iQ x,sV t] 0 X;exact ⟨_,rfl,FX,V.five,V.fiveF,FG.five⟩
theorem Cur.baseC {w:World} {b base K:Nat} (h:Cur w b base K):base<=b:=by obtain ⟨_,_,_,_,_,_,_,_,_,_,_,hb⟩:=h;exact hb
theorem Only.vecC {b k:Nat} {w w':World} {l:List Value} (h:Only b w w') (hk:k ≠ b) (v:Vec w k l):Vec w' k l:=fun i x hi=>by
 obtain ⟨hc,hf⟩:=v i x hi;refine ⟨h.cell hk hc,?_⟩;have hlt:=World.block_lt_of_cell? _ _ hc;rw [<- hf];exact World.frozen?_of_block (h.block k hk hlt)
theorem zMI {a w:World} {b base K g:Nat} (V:Vec w g [.bool false,iQ 0,iQ 0]) (C:Cur w b base K) (O:Only b a w) (hg:a.heap.size<=g) (hb:b ≠ g) (hbase:base<=g) (n:Bool) (d x:Int) :
  ∃ wy,((w.setCell ⟨g,0,none⟩ (.bool n)).setCell ⟨g,1,none⟩ (iQ d)).setCell ⟨g,2,none⟩ (iQ x)=wy/\Only b a wy/\Cur wy b base K/\(w.cell? ⟨g,0,none⟩=some (.bool false)/\w.cell? ⟨g,1,none⟩=some (iQ 0)/\w.cell? ⟨g,2,none⟩=some (iQ 0))/\(w.frozen? ⟨g,0,none⟩=false/\w.frozen? ⟨g,1,none⟩=false/\w.frozen? ⟨g,2,none⟩=false)/\wy.cell? ⟨g,0,none⟩=some (.bool n)/\wy.cell? ⟨g,1,none⟩=some (iQ d)/\wy.cell? ⟨g,2,none⟩=some (iQ x):=
 ⟨_,rfl,((O.setNew hg _).setNew hg _).setNew hg _,((C.far hb hbase _).far hb hbase _).far hb hbase _,V.three,V.threeF,Vec.three (((V.put 0 (by simp) (.bool n)).put 1 (by simp) (iQ d)).put 2 (by simp) (iQ x))⟩
theorem zFX {a w:World} {b base K g:Nat} {k0:Int} {n0:Bool} {d0 x0:Int} {t0:List UInt8} (V:Vec w g [iQ k0,.bool n0,iQ d0,iQ x0,sV t0]) (C:Cur w b base K) (O:Only b a w) (hg:a.heap.size<=g) (hb:b ≠ g) (hbase:base<=g) (k:Int) (n:Bool) (d x:Int) (t:List UInt8) :
  ∃ wy,(((((w.setCell ⟨g,0,none⟩ (iQ k)).setCell ⟨g,1,none⟩ (.bool n)).setCell ⟨g,2,none⟩ (iQ d)).setCell ⟨g,3,none⟩ (iQ x)).setCell ⟨g,4,none⟩ (sV t))=wy/\Only b a wy/\Cur wy b base K/\Vec wy g [iQ k,.bool n,iQ d,iQ x,sV t]/\(w.cell? ⟨g,0,none⟩=some (iQ k0)/\w.cell? ⟨g,1,none⟩=some (.bool n0)/\w.cell? ⟨g,2,none⟩=some (iQ d0)/\w.cell? ⟨g,3,none⟩=some (iQ x0)/\w.cell? ⟨g,4,none⟩=some (sV t0))/\(w.frozen? ⟨g,0,none⟩=false/\w.frozen? ⟨g,1,none⟩=false/\w.frozen? ⟨g,2,none⟩=false/\w.frozen? ⟨g,3,none⟩=false/\w.frozen? ⟨g,4,none⟩=false)/\wy.cell? ⟨g,0,none⟩=some (iQ k)/\wy.cell? ⟨g,1,none⟩=some (.bool n)/\wy.cell? ⟨g,2,none⟩=some (iQ d)/\wy.cell? ⟨g,3,none⟩=some (iQ x)/\wy.cell? ⟨g,4,none⟩=some (sV t):=
 ⟨_,rfl,((((O.setNew hg _).setNew hg _).setNew hg _).setNew hg _).setNew hg _,((((C.far hb hbase _).far hb hbase _).far hb hbase _).far hb hbase _).far hb hbase _,V.put5 (iQ k) (.bool n) (iQ d) (iQ x) (sV t),V.five,V.fiveF,Vec.five (V.put5 (iQ k) (.bool n) (iQ d) (iQ x) (sV t))⟩
theorem zD0 (ok n:Bool) (d x:Int) (W:World):(Instr.field 99 (.agg #[.bool ok,.bool n,iQ d,iQ x]) 1).run Tryz.prog W=.ok (decV n d x) W:=by kernel_rfl
theorem put_d (neg:Bool) (P:Nat) (e:Int) (m:Bool):0<=(putR neg P e m).d/\(putR neg P e m).d<1000000000000000:=by
 cases h:(putR neg P e m).ok with
 | true =>
  have:=zKV h;unfold zA1 at this
  split at this
  ·rename_i h0;rw [h0];omega
  ·simp only [decide_eq_true_eq] at this;omega
 | false =>
  revert h
  unfold putR fitR
  repeat' split
  all_goals intro h
  all_goals first | (cases h;done) | (constructor <;> decide)
theorem zHG (z:Int) (w:World) (s1 : -1000000000000000000<z) (s2:z<1000000000000000000) :
  Calls Tryz.prog 58 #[iQ z] w fun e w'=>e=.returned (zS z)/\Ext w w':=by
 go_enter Tryz.func58,Tryz.ntmps58
 go_wp2
 exact bodyPost_ret (v:=zS z) (by simp [results,Tryz.results58,go_sem]) rfl ⟨rfl,x1 _ _⟩
theorem putZ (z e:Int) (w:World) (s1 : -1000000000000000000<z) (s2:z<1000000000000000000) (e0 : -50000<=e) (e1:e<=50000) :
  Calls Tryz.prog 57 #[zS z,iQ e,.bool false] w fun rr w'=>(∃ ok n d x,rr=.returned (.agg #[.bool ok,.bool n,iQ d,iQ x])/\0<=d/\d<1000000000000000)/\Ext w w':=by
 have hp:((1000000000:Int) ^ 3)=1000000000000000000000000000:=by decide
 refine (zFL e false w (ZV.small s1 s2) 3 (by omega) (by rw [hp];omega) e0 e1 (decide (z<0)) z.natAbs rfl (fun _=>rfl)).mono ?_;rintro rr w' ⟨rfl,E⟩;exact ⟨⟨_,_,_,_,rfl,put_d _ _ _ _⟩,E⟩
theorem decC (b base K:Nat) (w:World) (h:Cur w b base K) (hK:K<=1000000) :
  Calls Tryz.prog 29 #[.pointer (some ⟨b,0,none⟩)] w fun e w'=>(∃ n d x,e=.returned (decV n d x)/\0<=d/\d<1000000000000000)/\Cur w' b base (K+20)/\Only b w w':=by
 have bl:=h.lt;have bb:=h.baseC;have X0:=x1 w (.cells #[.bool false,iQ 0,iQ 0] 31);have V0:=zA2 w [.bool false,iQ 0,iQ 0] 31;have C0:=h.ext X0;go_enter Tryz.func29,Tryz.ntmps29;go_wp2_with fail;refine (zBA b base K 9 _ C0 (by omega) (by omega) (by omega)).mono ?_;rintro e w1 ⟨x,rfl,⟨y0,y9⟩,C1,o1⟩;have V1:=o1.vecC (by omega) V0;have O1:=(Only.of_ext X0).trans o1;clear C0 o1 X0 V0;by_cases h0:x=0
 ·subst h0;clear y0 y9;obtain ⟨wy,hy,OF,CF,⟨b0,b1,b2⟩,⟨fb0,fb1,fb2⟩,fd0,fd1,fd2⟩:=zMI V1 C1 O1 (Nat.le_refl _) (by omega) (by omega) false 0 0;go_wp2_with fail;exact bodyPost_ret (v:=decV false 0 0) (by simp [results,Tryz.results29,go_sem,fd0,fd1,fd2]) rfl ⟨⟨_,_,_,rfl,by omega,by omega⟩,CF.more (by omega),OF⟩
 ·have e0:(x == 0)=false:=by simpa using h0
  by_cases h1:x=1
  ·subst h1;clear y0 y9;go_wp2_with fail;refine (wideC b base _ _ C1 (by omega)).mono ?_;rintro e w2 ⟨u,rfl,⟨u0,u9⟩,C1,o1⟩;have V1:=o1.vecC (by omega) V1;have O1:=O1.trans o1;clear o1;have wy2:IntKind.i64.wrap (u / 16384)=u / 16384:=by rw [IntKind.wrap_i64];omega
   go_wp2_with fail;refine (zHG (u / 16384) _ (by omega) (by omega)).mono ?_;rintro e w3 ⟨rfl,E⟩;have C1:=C1.ext E;have V1:=V1.l E;have O1:=O1.trans (Only.of_ext E);clear E;go_wp2_with fail;refine (zBA b base _ 40 _ C1 (by omega) (by omega) (by omega)).mono ?_;rintro e w4 ⟨p,rfl,⟨p0,p9⟩,C1,o1⟩;have V1:=o1.vecC (by omega) V1;have O1:=O1.trans o1;clear o1;go_wp2_with fail;refine (putZ (u / 16384) (p - 20) _ (by omega) (by omega) (by omega) (by omega)).mono ?_;rintro e w5 ⟨⟨ok,n,d,x,rfl,d0,d1⟩,E⟩;have C1:=C1.ext E;have V1:=V1.l E;have O1:=O1.trans (Only.of_ext E);clear E;have FD:=fun W=>zD0 ok n d x W;obtain ⟨wy,hy,OF,CF,⟨b0,b1,b2⟩,⟨fb0,fb1,fb2⟩,fd0,fd1,fd2⟩:=zMI V1 C1 O1 (Nat.le_refl _) (by omega) (by omega) n d x;go_wp2_with fail;exact bodyPost_ret (v:=decV n d x) (by simp [results,Tryz.results29,go_sem,fd0,fd1,fd2]) rfl ⟨⟨_,_,_,rfl,d0,d1⟩,CF.more (by omega),OF⟩
  ·have e1:(x == 1)=false:=by simpa using h1
   by_cases h2:x=2
   ·subst h2;clear y0 y9;go_wp2_with fail;refine (zBA b base _ 999 _ C1 (by omega) (by omega) (by omega)).mono ?_;rintro e w2 ⟨y,rfl,⟨y0,y9⟩,C1,o1⟩;have V1:=o1.vecC (by omega) V1;have O1:=O1.trans o1;clear o1;go_wp2_with fail;refine (zHG (1+y) _ (by omega) (by omega)).mono ?_;rintro e w3 ⟨rfl,E⟩;have C1:=C1.ext E;have V1:=V1.l E;have O1:=O1.trans (Only.of_ext E);clear E;go_wp2_with fail;refine (zBA b base _ 620 _ C1 (by omega) (by omega) (by omega)).mono ?_;rintro e w4 ⟨p,rfl,⟨p0,p9⟩,C1,o1⟩;have V1:=o1.vecC (by omega) V1;have O1:=O1.trans o1;clear o1;go_wp2_with fail;refine (putZ (1+y) (p - 310) _ (by omega) (by omega) (by omega) (by omega)).mono ?_;rintro e w5 ⟨⟨ok,n,d,x,rfl,d0,d1⟩,E⟩;have C1:=C1.ext E;have V1:=V1.l E;have O1:=O1.trans (Only.of_ext E);clear E;have FD:=fun W=>zD0 ok n d x W;have hs5:w.heap.size<w5.heap.size:=World.block_lt_of_cell? _ _ (V1 0 _ rfl).1;have hb5:=C1.lt;obtain ⟨wz,hz⟩:=nm (w5.alloc (.cells #[.bool false,.bool false,iQ 0,iQ 0] 99));have Z:=zA2 w5 [.bool false,.bool false,iQ 0,iQ 0] 99;have EZ:=x1 w5 (.cells #[.bool false,.bool false,iQ 0,iQ 0] 99);change Vec (w5.alloc (.cells #[.bool false,.bool false,iQ 0,iQ 0] 99)) _ _ at Z;rw [hz] at Z EZ;obtain ⟨z0,z1,z2,z3⟩:=Vec.four Z;obtain ⟨fz0,fz1,fz2,fz3⟩:=Vec.fourF Z;have Z4:Vec (setL wz w5.heap.size 0 [.bool ok,.bool n,iQ d,iQ x]) w5.heap.size [.bool ok,.bool n,iQ d,iQ x]:=(((Z.put 0 (by simp) (.bool ok)).put 1 (by simp) (.bool n)).put 2 (by simp) (iQ d)).put 3 (by simp) (iQ x);have V1:=Vec.farL (k:=w5.heap.size) (by omega) [.bool ok,.bool n,iQ d,iQ x] 0 (V1.l EZ);have C1:Cur (setL wz w5.heap.size 0 [.bool ok,.bool n,iQ d,iQ x]) b base _:=((((C1.ext EZ).far (g:=w5.heap.size) (i:=0) (by omega) (by omega) (.bool ok)).far (g:=w5.heap.size) (i:=1) (by omega) (by omega) (.bool n)).far (g:=w5.heap.size) (i:=2) (by omega) (by omega) (iQ d)).far (g:=w5.heap.size) (i:=3) (by omega) (by omega) (iQ x);have O1:Only b w (setL wz w5.heap.size 0 [.bool ok,.bool n,iQ d,iQ x]):=((((O1.trans (Only.of_ext EZ)).setNew (g:=w5.heap.size) (i:=0) (by omega) (.bool ok)).setNew (g:=w5.heap.size) (i:=1) (by omega) (.bool n)).setNew (g:=w5.heap.size) (i:=2) (by omega) (iQ d)).setNew (g:=w5.heap.size) (i:=3) (by omega) (iQ x);obtain ⟨w6,h6⟩:=nm (setL wz w5.heap.size 0 [.bool ok,.bool n,iQ d,iQ x]);rw [h6] at Z4 V1 C1 O1;have h6:(((wz.setCell ⟨w5.heap.size,0,none⟩ (.bool ok)).setCell ⟨w5.heap.size,1,none⟩ (.bool n)).setCell ⟨w5.heap.size,2,none⟩ (iQ d)).setCell ⟨w5.heap.size,3,none⟩ (iQ x)=w6:=h6;obtain ⟨q0,q1,q2,q3⟩:=Vec.four Z4;obtain ⟨wy,hy,OF,CF,⟨b0,b1,b2⟩,⟨fb0,fb1,fb2⟩,fd0,fd1,fd2⟩:=zMI V1 C1 O1 (Nat.le_refl _) (by omega) (by omega) n d x;go_wp2_with fail;exact bodyPost_ret (v:=decV n d x) (by simp [results,Tryz.results29,go_sem,fd0,fd1,fd2]) rfl ⟨⟨_,_,_,rfl,d0,d1⟩,CF.more (by omega),OF⟩
   ·have e2:(x == 2)=false:=(by simpa using h2);by_cases h3:x=3
    ·subst h3;clear y0 y9;go_wp2_with fail;refine (zBA b base _ 3 _ C1 (by omega) (by omega) (by omega)).mono ?_;rintro e w2 ⟨y,rfl,⟨y0,y9⟩,C1,o1⟩;have V1:=o1.vecC (by omega) V1;have O1:=O1.trans o1;clear o1;go_wp2_with fail;refine (zHG (999999999999999 - y) _ (by omega) (by omega)).mono ?_;rintro e w3 ⟨rfl,E⟩;have C1:=C1.ext E;have V1:=V1.l E;have O1:=O1.trans (Only.of_ext E);clear E;go_wp2_with fail;refine (zBA b base _ 5 _ C1 (by omega) (by omega) (by omega)).mono ?_;rintro e w4 ⟨p,rfl,⟨p0,p9⟩,C1,o1⟩;have V1:=o1.vecC (by omega) V1;have O1:=O1.trans o1;clear o1;go_wp2_with fail;refine (putZ (999999999999999 - y) (p - 2) _ (by omega) (by omega) (by omega) (by omega)).mono ?_;rintro e w5 ⟨⟨ok,n,d,x,rfl,d0,d1⟩,E⟩;have C1:=C1.ext E;have V1:=V1.l E;have O1:=O1.trans (Only.of_ext E);clear E;have FD:=fun W=>zD0 ok n d x W;obtain ⟨wy,hy,OF,CF,⟨b0,b1,b2⟩,⟨fb0,fb1,fb2⟩,fd0,fd1,fd2⟩:=zMI V1 C1 O1 (Nat.le_refl _) (by omega) (by omega) n d x;go_wp2_with fail;exact bodyPost_ret (v:=decV n d x) (by simp [results,Tryz.results29,go_sem,fd0,fd1,fd2]) rfl ⟨⟨_,_,_,rfl,d0,d1⟩,CF.more (by omega),OF⟩
    ·have e3:(x == 3)=false:=(by simpa using h3);by_cases h4:x=4
     ·subst h4;clear y0 y9;go_wp2_with fail;refine (zBA b base _ 20000 _ C1 (by omega) (by omega) (by omega)).mono ?_;rintro e w2 ⟨y,rfl,⟨y0,y9⟩,C1,o1⟩;have V1:=o1.vecC (by omega) V1;have O1:=O1.trans o1;clear o1;go_wp2_with fail;refine (zHG (y - 10000) _ (by omega) (by omega)).mono ?_;rintro e w3 ⟨rfl,E⟩;have C1:=C1.ext E;have V1:=V1.l E;have O1:=O1.trans (Only.of_ext E);clear E;go_wp2_with fail;refine (zBA b base _ 4 _ C1 (by omega) (by omega) (by omega)).mono ?_;rintro e w4 ⟨p,rfl,⟨p0,p9⟩,C1,o1⟩;have V1:=o1.vecC (by omega) V1;have O1:=O1.trans o1;clear o1;go_wp2_with fail;refine (putZ (y - 10000) (-p) _ (by omega) (by omega) (by omega) (by omega)).mono ?_;rintro e w5 ⟨⟨ok,n,d,x,rfl,d0,d1⟩,E⟩;have C1:=C1.ext E;have V1:=V1.l E;have O1:=O1.trans (Only.of_ext E);clear E;have FD:=fun W=>zD0 ok n d x W;obtain ⟨wy,hy,OF,CF,⟨b0,b1,b2⟩,⟨fb0,fb1,fb2⟩,fd0,fd1,fd2⟩:=zMI V1 C1 O1 (Nat.le_refl _) (by omega) (by omega) n d x;go_wp2_with fail;exact bodyPost_ret (v:=decV n d x) (by simp [results,Tryz.results29,go_sem,fd0,fd1,fd2]) rfl ⟨⟨_,_,_,rfl,d0,d1⟩,CF.more (by omega),OF⟩
     ·have e4:(x == 4)=false:=(by simpa using h4);by_cases h5:x=5
      ·subst h5;clear y0 y9;go_wp2_with fail;refine (zBA b base _ 20000 _ C1 (by omega) (by omega) (by omega)).mono ?_;rintro e w2 ⟨y,rfl,⟨y0,y9⟩,C1,o1⟩;have V1:=o1.vecC (by omega) V1;have O1:=O1.trans o1;clear o1;go_wp2_with fail;refine (zHG (y - 10000) _ (by omega) (by omega)).mono ?_;rintro e w3 ⟨rfl,E⟩;have C1:=C1.ext E;have V1:=V1.l E;have O1:=O1.trans (Only.of_ext E);clear E;go_wp2_with fail;refine (zBA b base _ 4 _ C1 (by omega) (by omega) (by omega)).mono ?_;rintro e w4 ⟨p,rfl,⟨p0,p9⟩,C1,o1⟩;have V1:=o1.vecC (by omega) V1;have O1:=O1.trans o1;clear o1;go_wp2_with fail;refine (putZ (y - 10000) (-p) _ (by omega) (by omega) (by omega) (by omega)).mono ?_;rintro e w5 ⟨⟨ok,n,d,x,rfl,d0,d1⟩,E⟩;have C1:=C1.ext E;have V1:=V1.l E;have O1:=O1.trans (Only.of_ext E);clear E;have FD:=fun W=>zD0 ok n d x W;obtain ⟨wy,hy,OF,CF,⟨b0,b1,b2⟩,⟨fb0,fb1,fb2⟩,fd0,fd1,fd2⟩:=zMI V1 C1 O1 (Nat.le_refl _) (by omega) (by omega) n d x;go_wp2_with fail;exact bodyPost_ret (v:=decV n d x) (by simp [results,Tryz.results29,go_sem,fd0,fd1,fd2]) rfl ⟨⟨_,_,_,rfl,d0,d1⟩,CF.more (by omega),OF⟩
      ·have e5:(x == 5)=false:=(by simpa using h5);go_wp2_with fail;refine (zBA b base _ 200 _ C1 (by omega) (by omega) (by omega)).mono ?_;rintro e w2 ⟨y,rfl,⟨y0,y9⟩,C1,o1⟩;have V1:=o1.vecC (by omega) V1;have O1:=O1.trans o1;clear o1;go_wp2_with fail;refine (zHG (y - 100) _ (by omega) (by omega)).mono ?_;rintro e w3 ⟨rfl,E⟩;have C1:=C1.ext E;have V1:=V1.l E;have O1:=O1.trans (Only.of_ext E);clear E;go_wp2_with fail;refine (putZ (y - 100) (0) _ (by omega) (by omega) (by omega) (by omega)).mono ?_;rintro e w5 ⟨⟨ok,n,d,x,rfl,d0,d1⟩,E⟩;have C1:=C1.ext E;have V1:=V1.l E;have O1:=O1.trans (Only.of_ext E);clear E;have FD:=fun W=>zD0 ok n d x W;obtain ⟨wy,hy,OF,CF,⟨b0,b1,b2⟩,⟨fb0,fb1,fb2⟩,fd0,fd1,fd2⟩:=zMI V1 C1 O1 (Nat.le_refl _) (by omega) (by omega) n d x;go_wp2_with fail;exact bodyPost_ret (v:=decV n d x) (by simp [results,Tryz.results29,go_sem,fd0,fd1,fd2]) rfl ⟨⟨_,_,_,rfl,d0,d1⟩,CF.more (by omega),OF⟩
theorem zLY {L:List (List UInt8)} {m:Nat} (h:m<L.length):∃ t,(L.map sV)[m]?=some (sV t)/\t ∈ L:=
 ⟨L[m],by rw [List.getElem?_map,List.getElem?_eq_getElem h];rfl,List.getElem_mem h⟩
theorem cur_ne {w:World} {b base K g:Nat} {l:List Value} {t:List UInt8} (C:Cur w b base K) (V:Vec w g l) (h:l[1]?=some (sV t)):g ≠ b:=by
 intro e;subst e;obtain ⟨v,n,a,s,B,_⟩:=C;have h1:=(V 1 _ h).1;have h2:w.cell? ⟨g,1,none⟩=some (iQ a):=B.1.2.1;rw [h2] at h1;cases h1
def zGS:List (List UInt8):=[[],[97],[66],[97,98,99],[49,50],[32,51,46,53,32],[116,114,117,101],[120,32,121],[65,98],[122,122,122]]
def zOD (e:Ending):Prop:=∃ k n d x t,e=.returned (valV k n d x t)/\0<=d/\d<1000000000000000/\t.length<=2000
theorem zL4 (z:Int) (w:World) (s1 : -1000000000000000000<z) (s2:z<1000000000000000000) :
  Calls Tryz.prog 33 #[iQ z] w fun e w'=>(∃ n d x,e=.returned (valV 1 n d x [])/\0<=d/\d<1000000000000000)/\Ext w w':=by
 have X0:=x1 w (.cells #[iQ 0,.bool false,iQ 0,iQ 0,sV []] 33);have V0:=zA2 w [iQ 0,.bool false,iQ 0,iQ 0,sV []] 33;go_enter Tryz.func33,Tryz.ntmps33;go_wp2_with fail;refine (zHG z _ s1 s2).mono ?_;rintro e w1 ⟨rfl,e1⟩;go_wp2_with fail;refine (putZ z 0 w1 s1 s2 (by omega) (by omega)).mono ?_;rintro e w2 ⟨⟨ok,n,d,x,rfl,d0,d1⟩,e2⟩;have FD:=fun W=>zD0 ok n d x W;go_wp2_with fail;refine (zSC n d x w2).mono ?_;rintro e w3 ⟨rfl,e3⟩;obtain ⟨wy,hy,FX,⟨b0,b1,b2,b3,b4⟩,⟨fb0,fb1,fb2,fb3,fb4⟩,fd0,fd1,fd2,fd3,fd4⟩:=fin5 (((V0.l e1).l e2).l e3) (xt (xt (xt X0 e1) e2) e3) (Nat.le_refl _) 1 n d x [];go_wp2_with fail;exact bodyPost_ret (v:=valV 1 n d x []) (by simp [results,Tryz.results33,go_sem,fd0,fd1,fd2,fd3,fd4]) rfl ⟨⟨_,_,_,rfl,d0,d1⟩,FX⟩
theorem valueC (b base K:Nat) (w:World) (h:Cur w b base K) (hK:K<=900000) :
  Calls Tryz.prog 31 #[.pointer (some ⟨b,0,none⟩)] w fun e w'=>zOD e/\Cur w' b base (K+40)/\Only b w w':=by
 have bl:=h.lt;have bb:=h.baseC;have X0:=x1 w (.cells #[iQ 0,.bool false,iQ 0,iQ 0,sV []] 33);have V0:=zA2 w [iQ 0,.bool false,iQ 0,iQ 0,sV []] 33;have C0:=h.ext X0;go_enter Tryz.func31,Tryz.ntmps31;go_wp2_with fail;refine (zBA b base K 9 _ C0 (by omega) (by omega) (by omega)).mono ?_;rintro e w1 ⟨x,rfl,⟨y0,y9⟩,C1,o1⟩;have V1:=o1.vecC (by omega) V0;have O1:=(Only.of_ext X0).trans o1;clear C0 o1 X0 V0;by_cases h0:x=0
 ·subst h0;clear y0 y9;obtain ⟨wy,hy,OF,CF,_,⟨b0,b1,b2,b3,b4⟩,⟨fb0,fb1,fb2,fb3,fb4⟩,fd0,fd1,fd2,fd3,fd4⟩:=zFX V1 C1 O1 (Nat.le_refl _) (by omega) (by omega) 0 false 0 0 [];go_wp2_with fail;exact bodyPost_ret (v:=valV 0 false 0 0 []) (by simp [results,Tryz.results31,go_sem,fd0,fd1,fd2,fd3,fd4]) rfl ⟨⟨_,_,_,_,_,rfl,by omega,by omega,by simp⟩,CF.more (by omega),OF⟩
 ·have e0:(x == 0)=false:=by simpa using h0
  by_cases h1:x=1
  ·subst h1;clear y0 y9;have hs1:w.heap.size<w1.heap.size:=World.block_lt_of_cell? _ _ (V1 0 _ rfl).1;have hb1:=C1.lt;have TV:=zA2 w1 (zGS.map sV) 9;have C1:=fun o=>C1.ext (x1 w1 o);have V1:=fun o=>V1.l (x1 w1 o);have O1:=fun o=>O1.trans (Only.of_ext (x1 w1 o));go_wp2_with fail;refine (zBA b base _ 10 _ (C1 _) (by omega) (by omega) (by omega)).mono ?_;rintro e w2 ⟨y,rfl,⟨y0,y9⟩,C2,o1⟩;have V1:=o1.vecC (by omega) (V1 _);have O1:=(O1 _).trans o1;have TV:Vec w2 w1.heap.size (zGS.map sV):=o1.vecC (by omega) TV;have C1:=C2;clear o1 C2;obtain ⟨m,rfl⟩:=Int.eq_ofNat_of_zero_le y0;obtain ⟨t,ht,hm⟩:=zLY (L:=zGS) (m:=m) (by show m<10;omega);have hl:t.length<=5:=by
    simp only [zGS,List.mem_cons,List.not_mem_nil,or_false] at hm
    rcases hm with rfl | rfl | rfl | rfl | rfl | rfl | rfl | rfl | rfl | rfl <;> decide
   have a0:=(TV m _ ht).1;have i2:(m:Int)<10:=y9;clear hm ht TV;go_wp2_with fail;clear a0;refine (zIN t _).mono ?_;rintro e w3 ⟨rfl,E⟩;have C1:=C1.ext E;have V1:=V1.l E;have O1:=O1.trans (Only.of_ext E);clear E;obtain ⟨wy,hy,OF,CF,_,⟨b0,b1,b2,b3,b4⟩,⟨fb0,fb1,fb2,fb3,fb4⟩,fd0,fd1,fd2,fd3,fd4⟩:=zFX V1 C1 O1 (Nat.le_refl _) (by omega) (by omega) 2 false 0 0 t;go_wp2_with fail;exact bodyPost_ret (v:=valV 2 false 0 0 t) (by simp [results,Tryz.results31,go_sem,fd0,fd1,fd2,fd3,fd4]) rfl ⟨⟨_,_,_,_,_,rfl,by omega,by omega,by omega⟩,CF.more (by omega),OF⟩
  ·have e1:(x == 1)=false:=by simpa using h1
   by_cases h2:x=2
   ·subst h2;clear y0 y9;have hs1:w.heap.size<w1.heap.size:=World.block_lt_of_cell? _ _ (V1 0 _ rfl).1;have hb1:=C1.lt;have TV:=zA2 w1 (zGS.map sV) 9;have C1:=fun o=>C1.ext (x1 w1 o);have V1:=fun o=>V1.l (x1 w1 o);have O1:=fun o=>O1.trans (Only.of_ext (x1 w1 o));go_wp2_with fail;refine (zBA b base _ 10 _ (C1 _) (by omega) (by omega) (by omega)).mono ?_;rintro e w2 ⟨y,rfl,⟨y0,y9⟩,C2,o1⟩;have V1:=o1.vecC (by omega) (V1 _);have O1:=(O1 _).trans o1;have TV:Vec w2 w1.heap.size (zGS.map sV):=o1.vecC (by omega) TV;have C1:=C2;clear o1 C2;obtain ⟨m,rfl⟩:=Int.eq_ofNat_of_zero_le y0;obtain ⟨t,ht,hm⟩:=zLY (L:=zGS) (m:=m) (by show m<10;omega);have hl:t.length<=5:=by
     simp only [zGS,List.mem_cons,List.not_mem_nil,or_false] at hm
     rcases hm with rfl | rfl | rfl | rfl | rfl | rfl | rfl | rfl | rfl | rfl <;> decide
    have a0:=(TV m _ ht).1;have i2:(m:Int)<10:=y9;clear hm ht TV;go_wp2_with fail;clear a0;refine (zIN t _).mono ?_;rintro e w3 ⟨rfl,E⟩;have C1:=C1.ext E;have V1:=V1.l E;have O1:=O1.trans (Only.of_ext E);clear E;obtain ⟨wy,hy,OF,CF,_,⟨b0,b1,b2,b3,b4⟩,⟨fb0,fb1,fb2,fb3,fb4⟩,fd0,fd1,fd2,fd3,fd4⟩:=zFX V1 C1 O1 (Nat.le_refl _) (by omega) (by omega) 2 false 0 0 t;go_wp2_with fail;exact bodyPost_ret (v:=valV 2 false 0 0 t) (by simp [results,Tryz.results31,go_sem,fd0,fd1,fd2,fd3,fd4]) rfl ⟨⟨_,_,_,_,_,rfl,by omega,by omega,by omega⟩,CF.more (by omega),OF⟩
   ·have e2:(x == 2)=false:=(by simpa using h2);by_cases h3:x=3
    ·subst h3;clear y0 y9;go_wp2_with fail;refine (oneC b base _ 2 _ C1 (by omega) (by omega) (by omega)).mono ?_;rintro e w2 ⟨q,rfl,C1,o1⟩;have V1:=o1.vecC (by omega) V1;have O1:=O1.trans o1;clear o1;cases q
     ·go_wp2_with fail;refine (boolVS false _).mono ?_;rintro e w3 ⟨rfl,E⟩;have C1:=C1.ext E;have V1:=V1.l E;have O1:=O1.trans (Only.of_ext E);clear E;obtain ⟨wy,hy,OF,CF,_,⟨b0,b1,b2,b3,b4⟩,⟨fb0,fb1,fb2,fb3,fb4⟩,fd0,fd1,fd2,fd3,fd4⟩:=zFX V1 C1 O1 (Nat.le_refl _) (by omega) (by omega) 3 false 0 0 zLJ;go_wp2_with fail;exact bodyPost_ret (v:=valV 3 false 0 0 zLJ) (by simp [results,Tryz.results31,go_sem,fd0,fd1,fd2,fd3,fd4]) rfl ⟨⟨_,_,_,_,_,rfl,by omega,by omega,by decide⟩,CF.more (by omega),OF⟩
     ·go_wp2_with fail;refine (boolVS true _).mono ?_;rintro e w3 ⟨rfl,E⟩;have C1:=C1.ext E;have V1:=V1.l E;have O1:=O1.trans (Only.of_ext E);clear E;obtain ⟨wy,hy,OF,CF,_,⟨b0,b1,b2,b3,b4⟩,⟨fb0,fb1,fb2,fb3,fb4⟩,fd0,fd1,fd2,fd3,fd4⟩:=zFX V1 C1 O1 (Nat.le_refl _) (by omega) (by omega) 3 false 0 0 zQM;go_wp2_with fail;exact bodyPost_ret (v:=valV 3 false 0 0 zQM) (by simp [results,Tryz.results31,go_sem,fd0,fd1,fd2,fd3,fd4]) rfl ⟨⟨_,_,_,_,_,rfl,by omega,by omega,by decide⟩,CF.more (by omega),OF⟩
    ·have e3:(x == 3)=false:=(by simpa using h3);by_cases h4:x=4
     ·subst h4;clear y0 y9;go_wp2_with fail;refine (oneC b base _ 2 _ C1 (by omega) (by omega) (by omega)).mono ?_;rintro e w2 ⟨q,rfl,C1,o1⟩;have V1:=o1.vecC (by omega) V1;have O1:=O1.trans o1;clear o1;cases q
      ·go_wp2_with fail;refine (zBA b base _ 40 _ C1 (by omega) (by omega) (by omega)).mono ?_;rintro e w7 ⟨y,rfl,⟨y0,y9⟩,C1,o1⟩;have V1:=o1.vecC (by omega) V1;have O1:=O1.trans o1;clear o1;go_wp2_with fail;refine (zL4 (y - 15) _ (by omega) (by omega)).mono ?_;rintro e w8 ⟨⟨n,d,x,rfl,d0,d1⟩,E⟩;have C1:=C1.ext E;have V1:=V1.l E;have O1:=O1.trans (Only.of_ext E);clear E;obtain ⟨wy,hy,OF,CF,_,⟨b0,b1,b2,b3,b4⟩,⟨fb0,fb1,fb2,fb3,fb4⟩,fd0,fd1,fd2,fd3,fd4⟩:=zFX V1 C1 O1 (Nat.le_refl _) (by omega) (by omega) 1 n d x [];go_wp2_with fail;exact bodyPost_ret (v:=valV 1 n d x []) (by simp [results,Tryz.results31,go_sem,fd0,fd1,fd2,fd3,fd4]) rfl ⟨⟨_,_,_,_,_,rfl,d0,d1,by simp⟩,CF.more (by omega),OF⟩
      ·go_wp2_with fail;refine (zTC _).mono ?_;rintro e w3 ⟨g,rfl,TV,E⟩;have C1:=C1.ext E;have V1:=V1.l E;have O1:=O1.trans (Only.of_ext E);clear E;have gb:g ≠ b:=cur_ne C1 TV rfl;go_wp2_with fail;refine (zBA b base _ 9 _ C1 (by omega) (by omega) (by omega)).mono ?_;rintro e w4 ⟨y,rfl,⟨y0,y9⟩,C1,o1⟩;have V1:=o1.vecC (by omega) V1;have O1:=O1.trans o1;have TV:=o1.vecC gb TV;clear o1;obtain ⟨m,rfl⟩:=Int.eq_ofNat_of_zero_le y0;obtain ⟨t,ht,hm⟩:=zLY (L:=errL) (m:=m) (by show m<9;omega);have hl:t.length<=7:=by
        simp only [errL,List.mem_cons,List.not_mem_nil,or_false] at hm
        rcases hm with rfl | rfl | rfl | rfl | rfl | rfl | rfl | rfl | rfl <;> decide
       have a0:=(TV m _ ht).1;have i2:(m:Int)<9:=y9;clear hm ht TV;go_wp2_with fail;clear a0;refine (zVX t _).mono ?_;rintro e w5 ⟨rfl,E⟩;have C1:=C1.ext E;have V1:=V1.l E;have O1:=O1.trans (Only.of_ext E);clear E;obtain ⟨wy,hy,OF,CF,_,⟨b0,b1,b2,b3,b4⟩,⟨fb0,fb1,fb2,fb3,fb4⟩,fd0,fd1,fd2,fd3,fd4⟩:=zFX V1 C1 O1 (Nat.le_refl _) (by omega) (by omega) 4 false 0 0 t;go_wp2_with fail;exact bodyPost_ret (v:=valV 4 false 0 0 t) (by simp [results,Tryz.results31,go_sem,fd0,fd1,fd2,fd3,fd4]) rfl ⟨⟨_,_,_,_,_,rfl,by omega,by omega,by omega⟩,CF.more (by omega),OF⟩
     ·have e4:(x == 4)=false:=(by simpa using h4);by_cases h5:x=5
      ·subst h5;clear y0 y9;go_wp2_with fail;refine (decC b base _ _ C1 (by omega)).mono ?_;rintro e w2 ⟨⟨n,d,x,rfl,d0,d1⟩,C1,o1⟩;have V1:=o1.vecC (by omega) V1;have O1:=O1.trans o1;clear o1;go_wp2_with fail;refine (zSC n d x _).mono ?_;rintro e w3 ⟨rfl,E⟩;have C1:=C1.ext E;have V1:=V1.l E;have O1:=O1.trans (Only.of_ext E);clear E;obtain ⟨wy,hy,OF,CF,_,⟨b0,b1,b2,b3,b4⟩,⟨fb0,fb1,fb2,fb3,fb4⟩,fd0,fd1,fd2,fd3,fd4⟩:=zFX V1 C1 O1 (Nat.le_refl _) (by omega) (by omega) 1 n d x [];go_wp2_with fail;exact bodyPost_ret (v:=valV 1 n d x []) (by simp [results,Tryz.results31,go_sem,fd0,fd1,fd2,fd3,fd4]) rfl ⟨⟨_,_,_,_,_,rfl,d0,d1,by simp⟩,CF.more (by omega),OF⟩
      ·have e5:(x == 5)=false:=(by simpa using h5);go_wp2_with fail;refine (zBA b base _ 40 _ C1 (by omega) (by omega) (by omega)).mono ?_;rintro e w7 ⟨y,rfl,⟨y0,y9⟩,C1,o1⟩;have V1:=o1.vecC (by omega) V1;have O1:=O1.trans o1;clear o1;go_wp2_with fail;refine (zL4 (y - 15) _ (by omega) (by omega)).mono ?_;rintro e w8 ⟨⟨n,d,x,rfl,d0,d1⟩,E⟩;have C1:=C1.ext E;have V1:=V1.l E;have O1:=O1.trans (Only.of_ext E);clear E;obtain ⟨wy,hy,OF,CF,_,⟨b0,b1,b2,b3,b4⟩,⟨fb0,fb1,fb2,fb3,fb4⟩,fd0,fd1,fd2,fd3,fd4⟩:=zFX V1 C1 O1 (Nat.le_refl _) (by omega) (by omega) 1 n d x [];go_wp2_with fail;exact bodyPost_ret (v:=valV 1 n d x []) (by simp [results,Tryz.results31,go_sem,fd0,fd1,fd2,fd3,fd4]) rfl ⟨⟨_,_,_,_,_,rfl,d0,d1,by simp⟩,CF.more (by omega),OF⟩
abbrev BLs:=List UInt8
def padZ (n:Nat) (l:BLs):BLs:=List.replicate (n - l.length) 48++l
theorem zD4 (n:Nat) (l:BLs):(padZ n l).length=max n l.length:=by
 unfold padZ;rw [List.length_append,List.length_replicate];omega
theorem zUW (a b:Nat) (l:BLs):padZ a (padZ b l)=padZ (max a b) l:=by
 unfold padZ;rw [List.length_append,List.length_replicate,<- List.append_assoc,List.replicate_append_replicate]
 congr 2
 omega
theorem zKW {n:Nat} {l:BLs} (h:n<=l.length):padZ n l=l:=by
 unfold padZ;rw [show n - l.length=0 by omega];rfl
def zCI (p:Nat) (l:BLs):BLs:=l.take (l.length - p)
def zF8 (p:Nat) (l:BLs):BLs:=l.drop (l.length - p)
theorem zU0 (w p:Nat) (l:BLs) (h:p<=l.length):zCI p (padZ (w+p) l)=padZ w (zCI p l):=by
 unfold zCI padZ;rw [List.length_append,List.length_replicate,List.length_take,Nat.min_eq_left (by omega)];have e:w+p - l.length+l.length - p=(w+p - l.length)+(l.length - p):=by omega
 rw [e,List.take_append,List.length_replicate,List.take_of_length_le (by simp),Nat.add_sub_cancel_left]
 congr 2
 omega
theorem zVH (w p:Nat) (l:BLs) (h:p<=l.length):zF8 p (padZ (w+p) l)=zF8 p l:=by
 unfold zF8 padZ;rw [List.length_append,List.length_replicate];have e:w+p - l.length+l.length - p=(w+p - l.length)+(l.length - p):=by omega
 rw [e,List.drop_append,List.length_replicate,List.drop_eq_nil_of_le (by simp),Nat.add_sub_cancel_left];rfl
def trimZ (m:Nat):Nat->BLs->BLs
 | 0,l=>l
 | f+1,l=>if m<l.length/\l.getLast?=some 48 then trimZ m f l.dropLast else l
def zF2 (l:BLs):BLs:=(l.reverse.dropWhile (· == 48)).reverse
theorem zIL (l:BLs) (c:UInt8):zF2 (l++[c])=if c=48 then zF2 l else l++[c]:=by
 unfold zF2;rw [List.reverse_append,List.reverse_singleton,List.singleton_append,List.dropWhile_cons];by_cases h:c=48
 ·rw [if_pos (by simp [h]),if_pos h]
 ·rw [if_neg (by simp [h]),if_neg h];simp
def grpZ:Nat->BLs->BLs
 | 0,l=>l
 | f+1,l=>if 3<l.length then grpZ f (l.take (l.length - 3))++44 :: l.drop (l.length - 3) else l
def digZ (d k:Nat):BLs:=if d=0 then [48] else Lib.decDigits d++List.replicate k 48
def zRI (pl p:Nat) (X:BLs):BLs:=let r:=zF8 p X;r.take pl++zF2 (r.drop pl)
def numZ (wh pl mb:Nat) (gr:Bool) (tm:Nat) (X:BLs):BLs:=
 let w:=padZ wh (zCI (pl+mb) X)
 let r:=zRI pl (pl+mb) X
 (if gr then grpZ w.length w else w)++((if r=[] then [] else 46 :: r)++List.replicate tm 37)
def badR:DR:=⟨false,false,0,0⟩
def mulR (na:Bool) (da ea:Int) (nb:Bool) (db eb:Int):DR:=if (zA1 na da ea && zA1 nb db eb)=true then putR (na != nb) (da.toNat * db.toNat) (ea+eb) false else badR
def ofR (d e:Int):DR:=if -1000<=e/\e<=1000 then putR (decide (d<0)) d.natAbs e false else badR
theorem mulI (na nb:Bool) (da ea db eb:Int) (w:World) (a1 : -9223372036854775808<=da) (a2:da<=9223372036854775807) (b1 : -9223372036854775808<=db) (b2:db<=9223372036854775807) (hT:Tens w) :
  Calls Tryz.prog 72 #[.agg #[.bool na,iQ da,iQ ea],.agg #[.bool nb,iQ db,iQ eb]] w fun r w'=>r=.returned (resV (mulR na da ea nb db eb))/\Ext w w':=by
 obtain ⟨R,hR⟩:=nm (mulR na da ea nb db eb);rw [hR];have X0:=xa (xa (x1 w (.cells #[.bool na,iQ da,iQ ea] 31)) (.cells #[.bool nb,iQ db,iQ eb] 31)) (.cells #[.bool false,.bool false,iQ 0,iQ 0] 99);have Ba:=(Box3.made w (.bool na) (iQ da) (iQ ea) 31).l (xa (x1 _ (.cells #[.bool nb,iQ db,iQ eb] 31)) (.cells #[.bool false,.bool false,iQ 0,iQ 0] 99));have Bb:=(Box3.made (w.alloc (.cells #[.bool na,iQ da,iQ ea] 31)) (.bool nb) (iQ db) (iQ eb) 31).l (x1 _ (.cells #[.bool false,.bool false,iQ 0,iQ 0] 99));have Br:=Box4.made ((w.alloc (.cells #[.bool na,iQ da,iQ ea] 31)).alloc (.cells #[.bool nb,iQ db,iQ eb] 31)) (.bool false) (.bool false) (iQ 0) (iQ 0) 99;simp only [World.size_alloc] at Bb Br;have T:=hT.l X0;clear hT;go_enter Tryz.func72,Tryz.ntmps72;go_wp2_with fail;cases ga:zA1 na da ea
 ·have HR:Hid (R=⟨false,false,0,0⟩):=by rw [<- hR];unfold mulR;rw [ga];rfl
  refine (zC9 false na da ea _ a1 a2 T ga).mono ?_;rintro r w1 ⟨rfl,x1'⟩;obtain ⟨⟨m0,m1,m2,m3⟩,n0,n1,n2,n3⟩:=Br.l x1';clear ga hR;go_wp2_with fail;exact bodyPost_ret (v:=.agg #[.bool false,.bool false,iQ 0,iQ 0]) (by simp [results,Tryz.results72,go_sem,m0,m1,m2,m3]) rfl ⟨by rw [HR.out],xset (xset (xset (xset (xt X0 x1') (by simp only;omega) _) (by simp only;omega) _) (by simp only;omega) _) (by simp only;omega) _⟩
 ·refine (zC9 true na da ea _ a1 a2 T ga).mono ?_;rintro r w1 ⟨rfl,x1'⟩;have Bb1:=Bb.l x1';have Bb1':=Bb1;obtain ⟨⟨q0,q1,q2⟩,_⟩:=Bb1';go_wp2_with fail;cases gb:zA1 nb db eb
  ·have HR:Hid (R=⟨false,false,0,0⟩):=by rw [<- hR];unfold mulR;rw [ga,gb];rfl
   refine (zC9 false nb db eb _ b1 b2 (T.l x1') gb).mono ?_;rintro r w2 ⟨rfl,x2'⟩;obtain ⟨⟨m0,m1,m2,m3⟩,n0,n1,n2,n3⟩:=(Br.l x1').l x2';clear ga gb hR q0 q1 q2;go_wp2_with fail;exact bodyPost_ret (v:=.agg #[.bool false,.bool false,iQ 0,iQ 0]) (by simp [results,Tryz.results72,go_sem,m0,m1,m2,m3]) rfl ⟨by rw [HR.out],xset (xset (xset (xset (xt (xt X0 x1') x2') (by simp only;omega) _) (by simp only;omega) _) (by simp only;omega) _) (by simp only;omega) _⟩
  ·refine (zC9 true nb db eb _ b1 b2 (T.l x1') gb).mono ?_;rintro r w2 ⟨rfl,x2'⟩;obtain ⟨ga0,ga1,ga2,ga3⟩:=zCM ga;obtain ⟨gb0,gb1,gb2,gb3⟩:=zCM gb;have HR:Hid (putR (na != nb) (da.toNat * db.toNat) (ea+eb) false=R):=by rw [<- hR];unfold mulR;rw [ga,gb];rfl
   obtain ⟨A,rfl⟩:=Int.eq_ofNat_of_zero_le ga0;obtain ⟨B,rfl⟩:=Int.eq_ofNat_of_zero_le gb0;simp only [Int.toNat_natCast] at HR;have PR:Hid (∀ w2,Calls Tryz.prog 134 #[.int .u64 A,.int .u64 B] w2 fun e w'=>∃ h l:Nat,e=.returned (.agg #[.int .u64 h,.int .u64 l])/\WV (.agg #[.int .u64 h,.int .u64 l]) (A * B)/\Ext w2 w'):=fun w2=>by
    refine (zCX A B (by omega) (by omega) w2).mono ?_;rintro e w' ⟨v,rfl,hv,hx⟩;have hv':=hv;obtain ⟨h,l,rfl,_⟩:=hv';exact ⟨h,l,rfl,hv,hx⟩
   have PU:Hid (∀ w2 h l,Tens w2->WV (.agg #[.int .u64 h,.int .u64 l]) (A * B)->Calls Tryz.prog 133 #[.bool (na != nb),.agg #[.int .u64 h,.int .u64 l],iQ (ea+eb),.bool false] w2 fun r w'=>r=.returned (resV R)/\Ext w2 w'):=fun w2 h l hT hv=>by
    rw [<- HR.out];exact zF7 _ _ _ w2 hv (by omega) (by omega) hT
   have wA:IntKind.u64.wrap (A:Int)=(A:Int):=by rw [IntKind.wrap_u64];omega
   have wB:IntKind.u64.wrap (B:Int)=(B:Int):=by rw [IntKind.wrap_u64];omega
   have wE:IntKind.i64.wrap (ea+eb)=ea+eb:=by rw [IntKind.wrap_i64];omega
   have Ba2:=(Ba.l x1').l x2';have Bb2:=Bb1.l x2';have Br2:=(Br.l x1').l x2';have T2:=(T.l x1').l x2';have X2:=xt (xt X0 x1') x2';have Ba2':=Ba2;have Bb2':=Bb2;obtain ⟨⟨p0,p1,p2⟩,_⟩:=Ba2';obtain ⟨⟨p3,p4,p5⟩,_⟩:=Bb2';have xn:((na != nb))=!(na == nb):=rfl;clear ga gb hR q0 q1 q2 Ba Bb Bb1 Br T X0 x1' x2' a1 a2 b1 b2 ga0 gb0 HR xn;have nz0:w.heap.size+1+1 ≠ w.heap.size:=by omega
   have nz1:w.heap.size+1+1 ≠ w.heap.size+1:=by omega
   go_upto_region 3 with fail;go_region_held3 (fun w'=>(w'.cell? ⟨w.heap.size,0,none⟩=some (.bool na)/\w'.cell? ⟨w.heap.size,1,none⟩=some (iQ A)/\w'.cell? ⟨w.heap.size,2,none⟩=some (iQ ea))/\w'.cell? ⟨w.heap.size+1,0,none⟩=some (.bool nb)/\w'.cell? ⟨w.heap.size+1,1,none⟩=some (iQ B)/\w'.cell? ⟨w.heap.size+1,2,none⟩=some (iQ eb)) (go_keep) (first
    | (go_at_call 134;refine (PR.out _).mono ?_;rintro r w3 ⟨h,l,rfl,hW,e3⟩;have X3:Ext w2 w3:=xt (xd (xr _)) e3;obtain ⟨⟨a30,a31,a32⟩,_⟩:=Ba2.l X3;obtain ⟨⟨b30,b31,b32⟩,_⟩:=Bb2.l X3)
    | (go_at_call 133;refine (PU.out _ _ _ (T2.l X3) hW).mono ?_;rintro r w4 ⟨rfl,e4⟩;have X4:Ext w2 w4:=xt X3 e4;obtain ⟨⟨a40,a41,a42⟩,_⟩:=Ba2.l X4;obtain ⟨⟨b40,b41,b42⟩,_⟩:=Bb2.l X4;obtain ⟨⟨m0,m1,m2,m3⟩,n0,n1,n2,n3⟩:=Br2.l X4))
   all_goals
    go_wp2_with fail;exact bodyPost_ret (v:=resV R) (by simp [results,Tryz.results72,go_sem,m0,m1,m2,m3]) rfl ⟨rfl,xset (xset (xset (xset (xt X2 X4) (by simp only;omega) _) (by simp only;omega) _) (by simp only;omega) _) (by simp only;omega) _⟩
theorem zEN (n m:Int) (c:Bool) (w:World) (hc:decide (-m<=n/\n<=m)=c) (m0:0<=m) (m1:m<=100000) :
  Calls Tryz.prog 120 #[iQ n,iQ m] w fun r w'=>r=.returned (.bool c)/\w'=w:=by
 have H:Hid (∀ b:Bool,(b=true ↔ -m<=n/\n<=m)->b=c):=fun b hb=>by
  rw [<- hc,Bool.eq_iff_iff,decide_eq_true_eq];exact hb
 clear hc;by_cases h1 : -m<=n
 ·go_enter Tryz.func120,Tryz.ntmps120
  go_wp2
  all_goals go_ret
  all_goals exact ⟨zA5 (H.out _ (by simp [h1])),rfl⟩
 ·have h1':n < -m:=by omega
  go_enter Tryz.func120,Tryz.ntmps120
  go_wp2
  all_goals go_ret
  all_goals exact ⟨zA5 (H.out _ (by simp;omega)),rfl⟩
theorem ofI (d e:Int) (w:World) (a1 : -9223372036854775808<=d) (a2:d<=9223372036854775807) (hT:Tens w) :
  Calls Tryz.prog 73 #[iQ d,iQ e] w fun r w'=>r=.returned (resV (ofR d e))/\Ext w w':=by
 obtain ⟨R,hR⟩:=nm (ofR d e);rw [hR];have X0:=x1 w (.cells #[.bool false,.bool false,iQ 0,iQ 0] 99);have Br:=Box4.made w (.bool false) (.bool false) (iQ 0) (iQ 0) 99;have T:=hT.l X0;clear hT;by_cases he : -1000<=e/\e<=1000
 ·have HR:Hid (putR (decide (d<0)) d.natAbs e false=R):=by rw [<- hR];unfold ofR;rw [if_pos he];rfl
  have WI:Hid (∀ w2,Calls Tryz.prog 120 #[iQ e,iQ 1000] w2 fun r w'=>r=.returned (.bool true)/\w'=w2):=fun w2=>zEN e 1000 true w2 (decide_eq_true he) (by decide) (by decide);obtain ⟨he0,he1⟩:=he;clear hR;by_cases hd:d<0
  ·obtain ⟨P,hP⟩:∃ P:Nat,d.natAbs=P:=⟨_,rfl⟩;have hdd:decide (d<0)=true:=decide_eq_true hd;rw [hP,hdd] at HR;have PU:Hid (∀ w2,Tens w2->Calls Tryz.prog 133 #[.bool true,.agg #[.int .u64 0,.int .u64 P],iQ e,.bool false] w2 fun r w'=>r=.returned (resV R)/\Ext w2 w'):=fun w2 hT=>by
    rw [<- HR.out];exact zF7 _ _ _ w2 ⟨0,P,rfl,by decide,by omega,by omega⟩ (by omega) (by omega) hT
   have e1:IntKind.u64.wrap d=d+18446744073709551616:=by rw [IntKind.wrap_u64];omega
   have e2:IntKind.u64.wrap (-(d+18446744073709551616))=(P:Int):=by rw [IntKind.wrap_u64];omega
   clear HR hP hdd a1 a2;go_enter Tryz.func73,Tryz.ntmps73;go_wp2_with fail;refine (WI.out _).mono ?_;rintro r w1 ⟨rfl,hw⟩;subst hw;go_wp2_with fail;refine (PU.out _ T).mono ?_;rintro r w2 ⟨rfl,x2'⟩;obtain ⟨⟨m0,m1,m2,m3⟩,n0,n1,n2,n3⟩:=Br.l x2';go_wp2_with fail;exact bodyPost_ret (v:=resV R) (by simp [results,Tryz.results73,go_sem,m0,m1,m2,m3]) rfl ⟨rfl,xset (xset (xset (xset (xt X0 x2') (Nat.le_refl _) _) (Nat.le_refl _) _) (Nat.le_refl _) _) (Nat.le_refl _) _⟩
  ·obtain ⟨P,hP⟩:∃ P:Nat,d=P:=⟨d.toNat,by omega⟩;subst hP;have hdd:decide ((P:Int)<0)=false:=decide_eq_false hd;rw [hdd,Int.natAbs_natCast] at HR;have PU:Hid (∀ w2,Tens w2->Calls Tryz.prog 133 #[.bool false,.agg #[.int .u64 0,.int .u64 P],iQ e,.bool false] w2 fun r w'=>r=.returned (resV R)/\Ext w2 w'):=fun w2 hT=>by
    rw [<- HR.out];exact zF7 _ _ _ w2 ⟨0,P,rfl,by decide,by omega,by omega⟩ (by omega) (by omega) hT
   have e1:IntKind.u64.wrap (P:Int)=(P:Int):=by rw [IntKind.wrap_u64];omega
   clear HR hdd a1 a2;go_enter Tryz.func73,Tryz.ntmps73;go_wp2_with fail;refine (WI.out _).mono ?_;rintro r w1 ⟨rfl,hw⟩;subst hw;go_wp2_with fail;refine (PU.out _ T).mono ?_;rintro r w2 ⟨rfl,x2'⟩;obtain ⟨⟨m0,m1,m2,m3⟩,n0,n1,n2,n3⟩:=Br.l x2';go_wp2_with fail;exact bodyPost_ret (v:=resV R) (by simp [results,Tryz.results73,go_sem,m0,m1,m2,m3]) rfl ⟨rfl,xset (xset (xset (xset (xt X0 x2') (Nat.le_refl _) _) (Nat.le_refl _) _) (Nat.le_refl _) _) (Nat.le_refl _) _⟩
 ·have HR:Hid (R=⟨false,false,0,0⟩):=by rw [<- hR];unfold ofR;rw [if_neg he];rfl
  have WI:Hid (∀ w2,Calls Tryz.prog 120 #[iQ e,iQ 1000] w2 fun r w'=>r=.returned (.bool false)/\w'=w2):=fun w2=>zEN e 1000 false w2 (decide_eq_false he) (by decide) (by decide);clear hR he;go_enter Tryz.func73,Tryz.ntmps73;go_wp2_with fail;refine (WI.out _).mono ?_;rintro r w1 ⟨rfl,hw⟩;subst hw;obtain ⟨⟨m0,m1,m2,m3⟩,n0,n1,n2,n3⟩:=Br;go_wp2_with fail;exact bodyPost_ret (v:=.agg #[.bool false,.bool false,iQ 0,iQ 0]) (by simp [results,Tryz.results73,go_sem]) rfl ⟨by rw [HR.out],X0⟩
end Go.Proofs.YtjlojlgdkfpcdaaGreatDoor

