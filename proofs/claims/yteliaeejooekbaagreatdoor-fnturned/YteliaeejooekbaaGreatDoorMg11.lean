/-
  Several texts in one: Nor, Zr, Va, Stc, Bx, Cd0, Hul, HulI, HulS.
-/
import Derived.Test.YteliaeejooekbaaGreatDoorMg10
import Derived.Deep.DeepCutAuto
import Derived.RegionTactic
import Derived.ChangeAlike
import Derived.Test.YteliaeejooekbaaGreatDoorMg1
import Derived.Deep.MidRow
set_option maxRecDepth 8000
set_option maxHeartbeats 4000000
namespace Go.Proofs.YteliaeejooekbaaGreatDoor
open Go.RowKit
def lo (a b:Int):Int:=if b<a then b else a
def hi (a b:Int):Int:=if b<a then a else b
def loF (a b:Int) (p q:Bool):Bool:=if b<a then q else p
def hiF (a b:Int) (p q:Bool):Bool:=if b<a then p else q
abbrev norV (r c:Int) (rf cf:Bool) (r' c':Int) (rf' cf':Bool):Value:=arV (lo r r') (lo c c') (loF r r' rf rf') (loF c c' cf cf') (hi r r') (hi c c') (hiF r r' rf rf') (hiF c c' cf cf')
theorem Vec.made4' (w:World) (o:Obj) (v0 v1 v2 v3:Value) (t:TypeId):Vec ((w.alloc o).alloc (.cells #[v0,v1,v2,v3] t)) (w.heap.size+1) [v0,v1,v2,v3]:=by
 have h:=Vec.made4 (w.alloc o) v0 v1 v2 v3 t
 rwa [World.size_alloc] at h
def swp (w:World) (b b' i:Nat) (x x' y y':Value):World:=(((w.setCell ⟨b,i,none⟩ x').setCell ⟨b',i,none⟩ x).setCell ⟨b,i+2,none⟩ y').setCell ⟨b',i+2,none⟩ y
theorem Vec.swp_b {w:World} {b b' i:Nat} {l:List Value} (h:Vec w b l) (hb:b' ≠ b) (hi:i+2<l.length) (x x' y y':Value):Vec (swp w b b' i x x' y y') b ((l.set i x').set (i+2) y'):=
 (((h.put i (by omega) x').far hb x).put (i+2) (by rw [List.length_set];omega) y').far hb y
theorem Vec.swp_b' {w:World} {b b' i:Nat} {l:List Value} (h:Vec w b' l) (hb:b ≠ b') (hi:i+2<l.length) (x x' y y':Value):Vec (swp w b b' i x x' y y') b' ((l.set i x).set (i+2) y):=
 (((h.far hb x').put i (by omega) x).far hb y').put (i+2) (by rw [List.length_set];omega) y
theorem Vec.swp_far {w:World} {b b' k i:Nat} {l:List Value} (h:Vec w k l) (hb:b ≠ k) (hb':b' ≠ k) (x x' y y':Value):Vec (swp w b b' i x x' y y') k l:=
 (((h.far hb x').far hb' x).far hb y').far hb' y
theorem Ext.swp {a w:World} {b b' i:Nat} (h:Ext a w) (hb:a.heap.size<=b) (hb':a.heap.size<=b') (x x' y y':Value):Ext a (swp w b b' i x x' y y'):=xset (xset (xset (xset h hb x') hb' x) hb y') hb' y
theorem zIY (r c:Int) (rf cf:Bool) (r' c':Int) (rf' cf':Bool) (w:World) (hg:zAZ r c r' c'=true) :
  Calls Tryz.prog 104 #[arV r c rf cf r' c' rf' cf'] w fun e w'=>e=.returned (norV r c rf cf r' c' rf' cf')/\Ext w w':=by
 have G:=fun w=>zOX r c rf cf r' c' rf' cf' w;rw [hg] at G;have B1:=Vec.made8 w (iQ r) (iQ c) (.bool rf) (.bool cf) (iQ r') (iQ c') (.bool rf') (.bool cf') 43;have X1:=x1 w (.cells #[iQ r,iQ c,.bool rf,.bool cf,iQ r',iQ c',.bool rf',.bool cf'] 43);obtain ⟨wa,ha⟩:=nm (w.alloc (.cells #[iQ r,iQ c,.bool rf,.bool cf,iQ r',iQ c',.bool rf',.bool cf'] 43));have B2:=Vec.made8 wa (iQ 0) (iQ 0) (.bool false) (.bool false) (iQ 0) (iQ 0) (.bool false) (.bool false) 43;have X2:=x1 wa (.cells #[iQ 0,iQ 0,.bool false,.bool false,iQ 0,iQ 0,.bool false,.bool false] 43);obtain ⟨wb,hb⟩:=nm (wa.alloc (.cells #[iQ 0,iQ 0,.bool false,.bool false,iQ 0,iQ 0,.bool false,.bool false] 43));have sa:wa.heap.size=w.heap.size+1:=by rw [<- ha,World.size_alloc]
 rw [ha] at X1 B1;rw [hb] at X2 B2;rw [sa] at B2;have X:=xt X1 X2;have B1:=B1.l X2;obtain ⟨⟨⟨a0,a1,a2,a3⟩,a4,a5,a6,a7⟩,_⟩:=B1.box8;clear X1 X2;go_enter Tryz.func104,Tryz.ntmps104;go_wp2_with fail;clear ha hb sa a0 a1 a2 a3 a4 a5 a6 a7;refine (G _).mono ?_;rintro e w1 ⟨rfl,e1⟩;have C1:=B1.l e1;have C2:=B2.l e1;have Y:=xt X e1;clear B1 B2 X e1 G;obtain ⟨⟨⟨a0,a1,a2,a3⟩,a4,a5,a6,a7⟩,_⟩:=C1.box8;have lt1:w.heap.size+1<w1.heap.size:=World.block_lt_of_cell? _ _ (C2 0 _ rfl).1;go_upto_region 3 with fail;go_cut [3,4] (fun p q wc=>∃ b b':Nat,p=.pointer (some ⟨b,0,none⟩)/\q=.pointer (some ⟨b',0,none⟩)/\(b ≠ b'/\w.heap.size+1<b/\w.heap.size+1<b')/\Vec wc b [iQ r,iQ c,.bool rf,.bool cf]/\Vec wc b' [iQ r',iQ c',.bool rf',.bool cf']/\Vec wc (w.heap.size+1) [iQ 0,iQ 0,.bool false,.bool false,iQ 0,iQ 0,.bool false,.bool false]/\Ext w wc)
 case first =>
  have b0:∀ o,(w1.alloc o).cell? ⟨w.heap.size,0,none⟩=some (iQ r):=fun o=>((C1.l (x1 w1 o)) 0 _ rfl).1;have d0:∀ o o',((w1.alloc o).alloc o').cell? ⟨w.heap.size,0,none⟩=some (iQ r):=fun o o'=>((C1.l (xa (x1 w1 o) o')) 0 _ rfl).1;have b1:∀ o,(w1.alloc o).cell? ⟨w.heap.size,1,none⟩=some (iQ c):=fun o=>((C1.l (x1 w1 o)) 1 _ rfl).1;have d1:∀ o o',((w1.alloc o).alloc o').cell? ⟨w.heap.size,1,none⟩=some (iQ c):=fun o o'=>((C1.l (xa (x1 w1 o) o')) 1 _ rfl).1;have b2:∀ o,(w1.alloc o).cell? ⟨w.heap.size,2,none⟩=some (.bool rf):=fun o=>((C1.l (x1 w1 o)) 2 _ rfl).1;have d2:∀ o o',((w1.alloc o).alloc o').cell? ⟨w.heap.size,2,none⟩=some (.bool rf):=fun o o'=>((C1.l (xa (x1 w1 o) o')) 2 _ rfl).1;have b3:∀ o,(w1.alloc o).cell? ⟨w.heap.size,3,none⟩=some (.bool cf):=fun o=>((C1.l (x1 w1 o)) 3 _ rfl).1;have d3:∀ o o',((w1.alloc o).alloc o').cell? ⟨w.heap.size,3,none⟩=some (.bool cf):=fun o o'=>((C1.l (xa (x1 w1 o) o')) 3 _ rfl).1;have b4:∀ o,(w1.alloc o).cell? ⟨w.heap.size,4,none⟩=some (iQ r'):=fun o=>((C1.l (x1 w1 o)) 4 _ rfl).1;have d4:∀ o o',((w1.alloc o).alloc o').cell? ⟨w.heap.size,4,none⟩=some (iQ r'):=fun o o'=>((C1.l (xa (x1 w1 o) o')) 4 _ rfl).1;have b5:∀ o,(w1.alloc o).cell? ⟨w.heap.size,5,none⟩=some (iQ c'):=fun o=>((C1.l (x1 w1 o)) 5 _ rfl).1;have d5:∀ o o',((w1.alloc o).alloc o').cell? ⟨w.heap.size,5,none⟩=some (iQ c'):=fun o o'=>((C1.l (xa (x1 w1 o) o')) 5 _ rfl).1;have b6:∀ o,(w1.alloc o).cell? ⟨w.heap.size,6,none⟩=some (.bool rf'):=fun o=>((C1.l (x1 w1 o)) 6 _ rfl).1;have d6:∀ o o',((w1.alloc o).alloc o').cell? ⟨w.heap.size,6,none⟩=some (.bool rf'):=fun o o'=>((C1.l (xa (x1 w1 o) o')) 6 _ rfl).1;have b7:∀ o,(w1.alloc o).cell? ⟨w.heap.size,7,none⟩=some (.bool cf'):=fun o=>((C1.l (x1 w1 o)) 7 _ rfl).1;have d7:∀ o o',((w1.alloc o).alloc o').cell? ⟨w.heap.size,7,none⟩=some (.bool cf'):=fun o o'=>((C1.l (xa (x1 w1 o) o')) 7 _ rfl).1
  go_region
  all_goals go_wp2_with fail
  ·go_meet
   case rel=>exact ⟨_,_,rfl,rfl,⟨by omega,by omega,by omega⟩,((Vec.made4 w1 _ _ _ _ _).l (x1 _ _)).l (xd (xr _)),(Vec.made4' w1 _ _ _ _ _ _).l (xd (xr _)),C2.l (xd (xa (x1 _ _) _)),xt Y (xd (xa (x1 _ _) _))⟩
  ·go_meet
   case rel=>exact ⟨_,_,rfl,rfl,⟨by omega,by omega,by omega⟩,(Vec.made4' w1 _ _ _ _ _ _).l (xd (xr _)),((Vec.made4 w1 _ _ _ _ _).l (x1 _ _)).l (xd (xr _)),C2.l (xd (xa (x1 _ _) _)),xt Y (xd (xa (x1 _ _) _))⟩
 case rest =>
  obtain ⟨b,b',rfl,rfl,⟨hbb,hb1,hb2⟩,V,V',R,Z⟩:=hcut;clear a0 a1 a2 a3 a4 a5 a6 a7 C1 C2 Y lt1 B1;have hb3:(b=b')=False:=eq_false hbb;have hb4:(b'=b)=False:=eq_false (fun e=>hbb e.symm);have hb5:(b=w.heap.size+1)=False:=eq_false (by omega);have hb6:(b'=w.heap.size+1)=False:=eq_false (by omega);by_cases hr:r'<r
  ·have er:decide (r > r')=true:=by simp;omega
   by_cases hc:c'<c
   ·have ec:decide (c > c')=true:=(by simp;omega);have HNV:Hid (norV r c rf cf r' c' rf' cf'=arV r' c' rf' cf' r c rf cf):=(by show _=_;unfold norV lo hi loF hiF;simp only [hr,hc,if_true]);obtain ⟨⟨p0,p1,p2,p3⟩,q0,q1,q2,q3⟩:=V.box4;obtain ⟨⟨m0,m1,m2,m3⟩,n0,n1,n2,n3⟩:=V'.box4;obtain ⟨wx1,hwx1⟩:=nm (swp wc b b' 0 (iQ r) (iQ r') (.bool rf) (.bool rf'));have V1:=V.swp_b (b':=b') (i:=0) (fun e=>hbb e.symm) (by simp) (iQ r) (iQ r') (.bool rf) (.bool rf');have V1':=V'.swp_b' (b:=b) (i:=0) hbb (by simp) (iQ r) (iQ r') (.bool rf) (.bool rf');have R1:=R.swp_far (b:=b) (b':=b') (i:=0) (by omega) (by omega) (iQ r) (iQ r') (.bool rf) (.bool rf');have Z1:=Ext.swp (b:=b) (b':=b') (i:=0) Z (by omega) (by omega) (iQ r) (iQ r') (.bool rf) (.bool rf');rw [hwx1] at V1 V1' R1 Z1;simp only [List.set_cons_zero,List.set_cons_succ,Nat.zero_add] at V1 V1';unfold swp at hwx1;obtain ⟨⟨p01,p11,p21,p31⟩,q01,q11,q21,q31⟩:=V1.box4;obtain ⟨⟨m01,m11,m21,m31⟩,n01,n11,n21,n31⟩:=V1'.box4;obtain ⟨wx2,hwx2⟩:=nm (swp wx1 b b' 1 (iQ c) (iQ c') (.bool cf) (.bool cf'));have V2:=V1.swp_b (b':=b') (i:=1) (fun e=>hbb e.symm) (by simp) (iQ c) (iQ c') (.bool cf) (.bool cf');have V2':=V1'.swp_b' (b:=b) (i:=1) hbb (by simp) (iQ c) (iQ c') (.bool cf) (.bool cf');have R2:=R1.swp_far (b:=b) (b':=b') (i:=1) (by omega) (by omega) (iQ c) (iQ c') (.bool cf) (.bool cf');have Z2:=Ext.swp (b:=b) (b':=b') (i:=1) Z1 (by omega) (by omega) (iQ c) (iQ c') (.bool cf) (.bool cf');rw [hwx2] at V2 V2' R2 Z2;simp only [List.set_cons_zero,List.set_cons_succ,Nat.reduceAdd] at V2 V2';unfold swp at hwx2;obtain ⟨⟨p02,p12,p22,p32⟩,q02,q12,q22,q32⟩:=V2.box4;obtain ⟨⟨m02,m12,m22,m32⟩,n02,n12,n22,n32⟩:=V2'.box4;obtain ⟨wy,hy⟩:=nm (set8 wx2 (w.heap.size+1) (iQ r') (iQ c') (.bool rf') (.bool cf') (iQ r) (iQ c) (.bool rf) (.bool cf));have GR:=R2.put8 (iQ r') (iQ c') (.bool rf') (.bool cf') (iQ r) (iQ c) (.bool rf) (.bool cf);have GZ:=Ext.set8 (b:=w.heap.size+1) Z2 (by omega) (iQ r') (iQ c') (.bool rf') (.bool cf') (iQ r) (iQ c) (.bool rf) (.bool cf);obtain ⟨⟨⟨k0,k1,k2,k3⟩,k4,k5,k6,k7⟩,⟨f0,f1,f2,f3⟩,f4,f5,f6,f7⟩:=R2.box8;rw [hy] at GR GZ;unfold set8 set4 at hy;obtain ⟨⟨⟨d0,d1,d2,d3⟩,d4,d5,d6,d7⟩,_⟩:=GR.box8;go_wp2_with fail;exact bodyPost_ret (v:=arV r' c' rf' cf' r c rf cf) (by simp [results,Tryz.results104,go_sem,d0,d1,d2,d3,d4,d5,d6,d7]) rfl ⟨by rw [HNV.out],GZ⟩
   ·have ec:decide (c > c')=false:=(by simp;omega);have HNV:Hid (norV r c rf cf r' c' rf' cf'=arV r' c rf' cf r c' rf cf'):=(by show _=_;unfold norV lo hi loF hiF;simp only [hr,hc,if_true,if_false]);obtain ⟨⟨p0,p1,p2,p3⟩,q0,q1,q2,q3⟩:=V.box4;obtain ⟨⟨m0,m1,m2,m3⟩,n0,n1,n2,n3⟩:=V'.box4;obtain ⟨wx1,hwx1⟩:=nm (swp wc b b' 0 (iQ r) (iQ r') (.bool rf) (.bool rf'));have V1:=V.swp_b (b':=b') (i:=0) (fun e=>hbb e.symm) (by simp) (iQ r) (iQ r') (.bool rf) (.bool rf');have V1':=V'.swp_b' (b:=b) (i:=0) hbb (by simp) (iQ r) (iQ r') (.bool rf) (.bool rf');have R1:=R.swp_far (b:=b) (b':=b') (i:=0) (by omega) (by omega) (iQ r) (iQ r') (.bool rf) (.bool rf');have Z1:=Ext.swp (b:=b) (b':=b') (i:=0) Z (by omega) (by omega) (iQ r) (iQ r') (.bool rf) (.bool rf');rw [hwx1] at V1 V1' R1 Z1;simp only [List.set_cons_zero,List.set_cons_succ,Nat.zero_add] at V1 V1';unfold swp at hwx1;obtain ⟨⟨p01,p11,p21,p31⟩,q01,q11,q21,q31⟩:=V1.box4;obtain ⟨⟨m01,m11,m21,m31⟩,n01,n11,n21,n31⟩:=V1'.box4;obtain ⟨wy,hy⟩:=nm (set8 wx1 (w.heap.size+1) (iQ r') (iQ c) (.bool rf') (.bool cf) (iQ r) (iQ c') (.bool rf) (.bool cf'));have GR:=R1.put8 (iQ r') (iQ c) (.bool rf') (.bool cf) (iQ r) (iQ c') (.bool rf) (.bool cf');have GZ:=Ext.set8 (b:=w.heap.size+1) Z1 (by omega) (iQ r') (iQ c) (.bool rf') (.bool cf) (iQ r) (iQ c') (.bool rf) (.bool cf');obtain ⟨⟨⟨k0,k1,k2,k3⟩,k4,k5,k6,k7⟩,⟨f0,f1,f2,f3⟩,f4,f5,f6,f7⟩:=R1.box8;rw [hy] at GR GZ;unfold set8 set4 at hy;obtain ⟨⟨⟨d0,d1,d2,d3⟩,d4,d5,d6,d7⟩,_⟩:=GR.box8;go_wp2_with fail;exact bodyPost_ret (v:=arV r' c rf' cf r c' rf cf') (by simp [results,Tryz.results104,go_sem,d0,d1,d2,d3,d4,d5,d6,d7]) rfl ⟨by rw [HNV.out],GZ⟩
  ·have er:decide (r > r')=false:=by simp;omega
   by_cases hc:c'<c
   ·have ec:decide (c > c')=true:=(by simp;omega);have HNV:Hid (norV r c rf cf r' c' rf' cf'=arV r c' rf cf' r' c rf' cf):=(by show _=_;unfold norV lo hi loF hiF;simp only [hr,hc,if_true,if_false]);obtain ⟨⟨p0,p1,p2,p3⟩,q0,q1,q2,q3⟩:=V.box4;obtain ⟨⟨m0,m1,m2,m3⟩,n0,n1,n2,n3⟩:=V'.box4;obtain ⟨wx1,hwx1⟩:=nm (swp wc b b' 1 (iQ c) (iQ c') (.bool cf) (.bool cf'));have V1:=V.swp_b (b':=b') (i:=1) (fun e=>hbb e.symm) (by simp) (iQ c) (iQ c') (.bool cf) (.bool cf');have V1':=V'.swp_b' (b:=b) (i:=1) hbb (by simp) (iQ c) (iQ c') (.bool cf) (.bool cf');have R1:=R.swp_far (b:=b) (b':=b') (i:=1) (by omega) (by omega) (iQ c) (iQ c') (.bool cf) (.bool cf');have Z1:=Ext.swp (b:=b) (b':=b') (i:=1) Z (by omega) (by omega) (iQ c) (iQ c') (.bool cf) (.bool cf');rw [hwx1] at V1 V1' R1 Z1;simp only [List.set_cons_zero,List.set_cons_succ,Nat.reduceAdd] at V1 V1';unfold swp at hwx1;obtain ⟨⟨p01,p11,p21,p31⟩,q01,q11,q21,q31⟩:=V1.box4;obtain ⟨⟨m01,m11,m21,m31⟩,n01,n11,n21,n31⟩:=V1'.box4;obtain ⟨wy,hy⟩:=nm (set8 wx1 (w.heap.size+1) (iQ r) (iQ c') (.bool rf) (.bool cf') (iQ r') (iQ c) (.bool rf') (.bool cf));have GR:=R1.put8 (iQ r) (iQ c') (.bool rf) (.bool cf') (iQ r') (iQ c) (.bool rf') (.bool cf);have GZ:=Ext.set8 (b:=w.heap.size+1) Z1 (by omega) (iQ r) (iQ c') (.bool rf) (.bool cf') (iQ r') (iQ c) (.bool rf') (.bool cf);obtain ⟨⟨⟨k0,k1,k2,k3⟩,k4,k5,k6,k7⟩,⟨f0,f1,f2,f3⟩,f4,f5,f6,f7⟩:=R1.box8;rw [hy] at GR GZ;unfold set8 set4 at hy;obtain ⟨⟨⟨d0,d1,d2,d3⟩,d4,d5,d6,d7⟩,_⟩:=GR.box8;go_wp2_with fail;exact bodyPost_ret (v:=arV r c' rf cf' r' c rf' cf) (by simp [results,Tryz.results104,go_sem,d0,d1,d2,d3,d4,d5,d6,d7]) rfl ⟨by rw [HNV.out],GZ⟩
   ·have ec:decide (c > c')=false:=(by simp;omega);have HNV:Hid (norV r c rf cf r' c' rf' cf'=arV r c rf cf r' c' rf' cf'):=(by show _=_;unfold norV lo hi loF hiF;simp only [hr,hc,if_false]);obtain ⟨⟨p0,p1,p2,p3⟩,q0,q1,q2,q3⟩:=V.box4;obtain ⟨⟨m0,m1,m2,m3⟩,n0,n1,n2,n3⟩:=V'.box4;obtain ⟨wy,hy⟩:=nm (set8 wc (w.heap.size+1) (iQ r) (iQ c) (.bool rf) (.bool cf) (iQ r') (iQ c') (.bool rf') (.bool cf'));have GR:=R.put8 (iQ r) (iQ c) (.bool rf) (.bool cf) (iQ r') (iQ c') (.bool rf') (.bool cf');have GZ:=Ext.set8 (b:=w.heap.size+1) Z (by omega) (iQ r) (iQ c) (.bool rf) (.bool cf) (iQ r') (iQ c') (.bool rf') (.bool cf');obtain ⟨⟨⟨k0,k1,k2,k3⟩,k4,k5,k6,k7⟩,⟨f0,f1,f2,f3⟩,f4,f5,f6,f7⟩:=R.box8;rw [hy] at GR GZ;unfold set8 set4 at hy;obtain ⟨⟨⟨d0,d1,d2,d3⟩,d4,d5,d6,d7⟩,_⟩:=GR.box8;go_wp2_with fail;exact bodyPost_ret (v:=arV r c rf cf r' c' rf' cf') (by simp [results,Tryz.results104,go_sem,d0,d1,d2,d3,d4,d5,d6,d7]) rfl ⟨by rw [HNV.out],GZ⟩
theorem Only.vec {b k:Nat} {w w':World} {l:List Value} (h:Only b w w') (hk:k ≠ b) (v:Vec w k l):Vec w' k l:=fun i x hi=>by
 obtain ⟨hc,hf⟩:=v i x hi;refine ⟨h.cell hk hc,?_⟩;have hlt:=World.block_lt_of_cell? _ _ hc;have:=h.block k hk hlt;unfold World.frozen? at hf ⊢;rw [this];exact hf
theorem Cur.base_le {w:World} {b base K:Nat} (h:Cur w b base K):base<=b:=by obtain ⟨_,_,_,_,_,_,_,_,_,_,_,hb⟩:=h;exact hb
theorem refC (b base K:Nat) (w:World) (h:Cur w b base K) (hK:K<=1000000) :
  Calls Tryz.prog 27 #[.pointer (some ⟨b,0,none⟩)] w fun e w'=>∃ (r c:Int) (rf cf:Bool) (K':Nat),e=.returned (refV r c rf cf)/\(1<=r/\r<=1000)/\(1<=c/\c<=200)/\K'<=K+100/\Cur w' b base K'/\Only b w w':=by
 have bl:=h.lt;have bb:=h.base_le;have X0:=x1 w (.cells #[iQ 0,iQ 0,.bool false,.bool false] 26);have V2:=Vec.made4 w (iQ 0) (iQ 0) (.bool false) (.bool false) 26;have C0:=h.ext X0;go_enter Tryz.func27,Tryz.ntmps27;go_wp2_with fail;refine (zAV b base _ 9 _ C0 (by omega) (by omega) (by omega)).mono ?_;rintro e w1 ⟨p,rfl,⟨p0,p1⟩,c1,o1⟩;go_wp2_with fail;refine (zAV b base _ 9 w1 c1 (by omega) (by omega) (by omega)).mono ?_;rintro e w2 ⟨q,rfl,⟨q0,q1⟩,c2,o2⟩;go_wp2_with fail;refine (oneC b base _ 3 w2 c2 (by omega) (by omega) (by omega)).mono ?_;rintro e w3 ⟨f,rfl,c3,o3⟩;go_wp2_with fail;refine (oneC b base _ 3 w3 c3 (by omega) (by omega) (by omega)).mono ?_;rintro e w4 ⟨g,rfl,c4,o4⟩;have O4:Only b w w4:=(Only.of_ext X0).trans (((o1.trans o2).trans o3).trans o4);have V2:=(((o1.trans o2).trans o3).trans o4).vec (k:=w.heap.size) (by omega) V2;have V3:=Vec.made4 w4 (iQ (1+p)) (iQ (1+q)) (.bool f) (.bool g) 26;have X5:=x1 w4 (.cells #[iQ (1+p),iQ (1+q),.bool f,.bool g] 26);have c5:=c4.ext X5;have O5:=O4.trans (Only.of_ext X5);have lt4:w.heap.size<w4.heap.size:=World.block_lt_of_cell? _ _ (V2 0 _ rfl).1;have V2:=V2.l X5;have lb4:=c4.lt;clear c1 c2 c3 o1 o2 o3 o4 O4 C0 X0 X5 h;go_wp2_with fail;refine (zAV b base _ 9 _ c5 (by omega) (by omega) (by omega)).mono ?_;rintro e w6 ⟨x,rfl,⟨x0,x9⟩,c6,o6⟩;have V2:=o6.vec (k:=w.heap.size) (by omega) V2;have V3:=o6.vec (k:=w4.heap.size) (by omega) V3;have O6:=O5.trans o6;clear c5 c4 o6 O5;have FIN:Hid (∀ (wf:World) (r c:Int) (u v:Bool) (K':Nat),K'<=K+100->Cur wf b base K'->Only b w wf->Cur (set4 wf w.heap.size 0 (iQ r) (iQ c) (.bool u) (.bool v)) b base K'/\Only b w (set4 wf w.heap.size 0 (iQ r) (iQ c) (.bool u) (.bool v))):=fun wf r c u v K' _ hc ho =>
  ⟨(((hc.far (g:=w.heap.size) (by omega) (by omega) _).far (g:=w.heap.size) (by omega) (by omega) _).far (g:=w.heap.size) (by omega) (by omega) _).far (g:=w.heap.size) (by omega) (by omega) _,(((ho.setNew (g:=w.heap.size) (Nat.le_refl _) _).setNew (g:=w.heap.size) (Nat.le_refl _) _).setNew (g:=w.heap.size) (Nat.le_refl _) _).setNew (g:=w.heap.size) (Nat.le_refl _) _⟩
 by_cases h0:x=0
 ·subst h0;go_wp2_with fail;refine (zAV b base _ 1000 w6 c6 (by omega) (by omega) (by omega)).mono ?_;rintro e w7 ⟨u,rfl,⟨u0,u1⟩,c7,o7⟩;have V2:=o7.vec (k:=w.heap.size) (by omega) V2;have V3:=o7.vec (k:=w4.heap.size) (by omega) V3;have O7:=O6.trans o7;obtain ⟨w8,h8⟩:=nm (w7.setCell ⟨w4.heap.size,0,none⟩ (iQ (1+u)));obtain ⟨⟨m0,m1,m2,m3⟩,f0,f1,f2,f3⟩:=V3.box4;have V3:=V3.put 0 (by simp) (iQ (1+u));have V2:=V2.far (p:=⟨w4.heap.size,0,none⟩) (by simp;omega) (iQ (1+u));have c8:=c7.far (g:=w4.heap.size) (i:=0) (by omega) (by omega) (iQ (1+u));have O8:=O7.setNew (g:=w4.heap.size) (i:=0) (by omega) (iQ (1+u));rw [h8] at V3 V2 c8 O8;simp only [List.set_cons_zero] at V3;clear c6 c7 o7 O6 O7;go_wp2_with fail;clear h8 m0 m1 m2 m3 f0 f1 f2 f3;refine (zAV b base _ 200 w8 c8 (by omega) (by omega) (by omega)).mono ?_;rintro e w9 ⟨v,rfl,⟨v0,v1⟩,c9,o9⟩;have V2:=o9.vec (k:=w.heap.size) (by omega) V2;have V3:=o9.vec (k:=w4.heap.size) (by omega) V3;have O9:=O8.trans o9;obtain ⟨wa,ha⟩:=nm (w9.setCell ⟨w4.heap.size,1,none⟩ (iQ (1+v)));obtain ⟨⟨m0,m1,m2,m3⟩,f0,f1,f2,f3⟩:=V3.box4;have V3:=V3.put 1 (by simp) (iQ (1+v));have V2:=V2.far (p:=⟨w4.heap.size,1,none⟩) (by simp;omega) (iQ (1+v));have ca:=c9.far (g:=w4.heap.size) (i:=1) (by omega) (by omega) (iQ (1+v));have Oa:=O9.setNew (g:=w4.heap.size) (i:=1) (by omega) (iQ (1+v));rw [ha] at V3 V2 ca Oa;simp only [List.set_cons_zero,List.set_cons_succ] at V3;clear c8 c9 o9 O8 O9;obtain ⟨⟨a0,a1,a2,a3⟩,_⟩:=V3.box4;obtain ⟨⟨k0,k1,k2,k3⟩,g0,g1,g2,g3⟩:=V2.box4;go_wp2_with fail;obtain ⟨fc,fo⟩:=FIN.out wa (1+u) (1+v) f g _ (by omega) ca Oa;exact bodyPost_ret (v:=refV (1+u) (1+v) f g) (by simp [results,Tryz.results27,go_sem,k0,k1,k2,k3]) rfl ⟨_,_,_,_,_,rfl,by omega,by omega,by omega,fc,fo⟩
 ·have g0:(x == 0)=false:=by simpa using h0
  by_cases h1:x=1
  ·subst h1;go_wp2_with fail;refine (zAV b base _ 2 w6 c6 (by omega) (by omega) (by omega)).mono ?_;rintro e w7 ⟨u,rfl,⟨u0,u1⟩,c7,o7⟩;have V2:=o7.vec (k:=w.heap.size) (by omega) V2;have V3:=o7.vec (k:=w4.heap.size) (by omega) V3;have O7:=O6.trans o7;obtain ⟨w8,h8⟩:=nm (w7.setCell ⟨w4.heap.size,0,none⟩ (iQ (1000 - u)));obtain ⟨⟨m0,m1,m2,m3⟩,f0,f1,f2,f3⟩:=V3.box4;have V3:=V3.put 0 (by simp) (iQ (1000 - u));have V2:=V2.far (p:=⟨w4.heap.size,0,none⟩) (by simp;omega) (iQ (1000 - u));have c8:=c7.far (g:=w4.heap.size) (i:=0) (by omega) (by omega) (iQ (1000 - u));have O8:=O7.setNew (g:=w4.heap.size) (i:=0) (by omega) (iQ (1000 - u));rw [h8] at V3 V2 c8 O8;simp only [List.set_cons_zero] at V3;clear c6 c7 o7 O6 O7;go_wp2_with fail;clear h8 m0 m1 m2 m3 f0 f1 f2 f3;refine (zAV b base _ 2 w8 c8 (by omega) (by omega) (by omega)).mono ?_;rintro e w9 ⟨v,rfl,⟨v0,v1⟩,c9,o9⟩;have V2:=o9.vec (k:=w.heap.size) (by omega) V2;have V3:=o9.vec (k:=w4.heap.size) (by omega) V3;have O9:=O8.trans o9;obtain ⟨wa,ha⟩:=nm (w9.setCell ⟨w4.heap.size,1,none⟩ (iQ (200 - v)));obtain ⟨⟨m0,m1,m2,m3⟩,f0,f1,f2,f3⟩:=V3.box4;have V3:=V3.put 1 (by simp) (iQ (200 - v));have V2:=V2.far (p:=⟨w4.heap.size,1,none⟩) (by simp;omega) (iQ (200 - v));have ca:=c9.far (g:=w4.heap.size) (i:=1) (by omega) (by omega) (iQ (200 - v));have Oa:=O9.setNew (g:=w4.heap.size) (i:=1) (by omega) (iQ (200 - v));rw [ha] at V3 V2 ca Oa;simp only [List.set_cons_zero,List.set_cons_succ] at V3;clear c8 c9 o9 O8 O9;obtain ⟨⟨a0,a1,a2,a3⟩,_⟩:=V3.box4;obtain ⟨⟨k0,k1,k2,k3⟩,g0,g1,g2,g3⟩:=V2.box4;go_wp2_with fail;obtain ⟨fc,fo⟩:=FIN.out wa (1000 - u) (200 - v) f g _ (by omega) ca Oa;exact bodyPost_ret (v:=refV (1000 - u) (200 - v) f g) (by simp [results,Tryz.results27,go_sem,k0,k1,k2,k3]) rfl ⟨_,_,_,_,_,rfl,by omega,by omega,by omega,fc,fo⟩
  ·have g1:(x == 1)=false:=by simpa using h1
   obtain ⟨⟨a0,a1,a2,a3⟩,_⟩:=V3.box4;obtain ⟨⟨k0,k1,k2,k3⟩,e0,e1,e2,e3⟩:=V2.box4;go_wp2_with fail;obtain ⟨fc,fo⟩:=FIN.out w6 (1+p) (1+q) f g _ (by omega) c6 O6;exact bodyPost_ret (v:=refV (1+p) (1+q) f g) (by simp [results,Tryz.results27,go_sem,k0,k1,k2,k3]) rfl ⟨_,_,_,_,_,rfl,by omega,by omega,by omega,fc,fo⟩
theorem Vec.made3 (w:World) (v0 v1 v2:Value) (t:TypeId):Vec (w.alloc (.cells #[v0,v1,v2] t)) w.heap.size [v0,v1,v2]:=by
 obtain ⟨⟨a0,a1,a2⟩,f0,f1,f2⟩:=Box3.made w v0 v1 v2 t;intro i v hi
 match i,hi with
 | 0,hi=>cases hi;exact ⟨a0,f0⟩
 | 1,hi=>cases hi;exact ⟨a1,f1⟩
 | 2,hi=>cases hi;exact ⟨a2,f2⟩
theorem oddC (b base K:Nat) (r c:Int) (rf cf:Bool) (w:World) (h:Cur w b base K) (hK:K<=1000000) :
  Calls Tryz.prog 26 #[.pointer (some ⟨b,0,none⟩),refV r c rf cf] w fun e w'=>∃ (r' c':Int) (rf' cf':Bool) (K':Nat),e=.returned (refV r' c' rf' cf')/\K'<=K+100/\Cur w' b base K'/\Only b w w':=by
 have bl:=h.lt;have bb:=h.base_le;have V3:=Vec.made4 w (iQ r) (iQ c) (.bool rf) (.bool cf) 26;have V4:=Vec.made4' w (.cells #[iQ r,iQ c,.bool rf,.bool cf] 26) (iQ 0) (iQ 0) (.bool false) (.bool false) 26;have X0:=xa (x1 w (.cells #[iQ r,iQ c,.bool rf,.bool cf] 26)) (.cells #[iQ 0,iQ 0,.bool false,.bool false] 26);have V3:=V3.l (x1 _ (.cells #[iQ 0,iQ 0,.bool false,.bool false] 26));have C0:=h.ext X0;have FIN:Hid (∀ (wf:World) (r' c':Int) (u v:Bool) (K':Nat),Cur wf b base K'->Only b w wf->Cur (set4 wf (w.heap.size+1) 0 (iQ r') (iQ c') (.bool u) (.bool v)) b base K'/\Only b w (set4 wf (w.heap.size+1) 0 (iQ r') (iQ c') (.bool u) (.bool v))):=fun wf r' c' u v K' hc ho =>
  ⟨(((hc.far (g:=w.heap.size+1) (by omega) (by omega) _).far (g:=w.heap.size+1) (by omega) (by omega) _).far (g:=w.heap.size+1) (by omega) (by omega) _).far (g:=w.heap.size+1) (by omega) (by omega) _,(((ho.setNew (g:=w.heap.size+1) (by omega) _).setNew (g:=w.heap.size+1) (by omega) _).setNew (g:=w.heap.size+1) (by omega) _).setNew (g:=w.heap.size+1) (by omega) _⟩
 go_enter Tryz.func26,Tryz.ntmps26;go_wp2_with fail;refine (zAV b base _ 30 _ C0 (by omega) (by omega) (by omega)).mono ?_;rintro e w1 ⟨x,rfl,⟨x0,x9⟩,c1,o1⟩;have V3:=o1.vec (k:=w.heap.size) (by omega) V3;have V4:=o1.vec (k:=w.heap.size+1) (by omega) V4;have O1:=(Only.of_ext X0).trans o1;clear C0 X0 o1 h;by_cases h0:x=0
 ·subst h0;obtain ⟨w2,h2⟩:=nm (w1.alloc (.cells #[iQ (0),iQ (1001),iQ (-3)] 3));have xs:=x1 w1 (.cells #[iQ (0),iQ (1001),iQ (-3)] 3);have VSs:=Vec.made3 w1 (iQ (0)) (iQ (1001)) (iQ (-3)) 3;rw [h2] at xs VSs;have cs:=c1.ext xs;have Os:=O1.trans (Only.of_ext xs);have V3s:=V3.l xs;have V4s:=V4.l xs;have lb:=c1.lt;have lw:w.heap.size+1<w1.heap.size:=World.block_lt_of_cell? _ _ (V4 0 _ rfl).1;clear c1 O1 xs V3 V4;go_wp2_with fail;refine (zAV b base _ 3 _ cs (by omega) (by omega) (by omega)).mono ?_;rintro e w7 ⟨u,rfl,⟨u0,u1⟩,c7,o7⟩;have V3:=o7.vec (k:=w.heap.size) (by omega) V3s;have V4:=o7.vec (k:=w.heap.size+1) (by omega) V4s;have VS:=o7.vec (k:=w1.heap.size) (by omega) VSs;have O7:=Os.trans o7;clear cs o7 Os V3s V4s VSs;obtain rfl | rfl | rfl:u=0\/u=1\/u=2:=by omega
  ·have s0:=(VS 0 _ rfl).1;obtain ⟨wa,ha⟩:=nm (w7.setCell ⟨w.heap.size,0,none⟩ (iQ (0)));obtain ⟨⟨m0,m1,m2,m3⟩,f0,f1,f2,f3⟩:=V3.box4;have V3:=V3.put 0 (by simp) (iQ (0));have V4:=V4.far (p:=⟨w.heap.size,0,none⟩) (by simp) (iQ (0));have ca:=c7.far (g:=w.heap.size) (i:=0) (by omega) (by omega) (iQ (0));have Oa:=O7.setNew (g:=w.heap.size) (i:=0) (by omega) (iQ (0));rw [ha] at V3 V4 ca Oa;simp only [List.set_cons_zero] at V3;obtain ⟨⟨a0,a1,a2,a3⟩,_⟩:=V3.box4;obtain ⟨⟨k0,k1,k2,k3⟩,g0,g1,g2,g3⟩:=V4.box4;clear VS;go_wp2_with fail;obtain ⟨fc,fo⟩:=FIN.out wa (0) c rf cf _ ca Oa;exact bodyPost_ret (v:=refV (0) c rf cf) (by simp [results,Tryz.results26,go_sem,k0,k1,k2,k3]) rfl ⟨_,_,_,_,_,rfl,by omega,fc,fo⟩
  ·have s1:=(VS 1 _ rfl).1;obtain ⟨wa,ha⟩:=nm (w7.setCell ⟨w.heap.size,0,none⟩ (iQ (1001)));obtain ⟨⟨m0,m1,m2,m3⟩,f0,f1,f2,f3⟩:=V3.box4;have V3:=V3.put 0 (by simp) (iQ (1001));have V4:=V4.far (p:=⟨w.heap.size,0,none⟩) (by simp) (iQ (1001));have ca:=c7.far (g:=w.heap.size) (i:=0) (by omega) (by omega) (iQ (1001));have Oa:=O7.setNew (g:=w.heap.size) (i:=0) (by omega) (iQ (1001));rw [ha] at V3 V4 ca Oa;simp only [List.set_cons_zero] at V3;obtain ⟨⟨a0,a1,a2,a3⟩,_⟩:=V3.box4;obtain ⟨⟨k0,k1,k2,k3⟩,g0,g1,g2,g3⟩:=V4.box4;clear VS;go_wp2_with fail;obtain ⟨fc,fo⟩:=FIN.out wa (1001) c rf cf _ ca Oa;exact bodyPost_ret (v:=refV (1001) c rf cf) (by simp [results,Tryz.results26,go_sem,k0,k1,k2,k3]) rfl ⟨_,_,_,_,_,rfl,by omega,fc,fo⟩
  ·have s2:=(VS 2 _ rfl).1;obtain ⟨wa,ha⟩:=nm (w7.setCell ⟨w.heap.size,0,none⟩ (iQ (-3)));obtain ⟨⟨m0,m1,m2,m3⟩,f0,f1,f2,f3⟩:=V3.box4;have V3:=V3.put 0 (by simp) (iQ (-3));have V4:=V4.far (p:=⟨w.heap.size,0,none⟩) (by simp) (iQ (-3));have ca:=c7.far (g:=w.heap.size) (i:=0) (by omega) (by omega) (iQ (-3));have Oa:=O7.setNew (g:=w.heap.size) (i:=0) (by omega) (iQ (-3));rw [ha] at V3 V4 ca Oa;simp only [List.set_cons_zero] at V3;obtain ⟨⟨a0,a1,a2,a3⟩,_⟩:=V3.box4;obtain ⟨⟨k0,k1,k2,k3⟩,g0,g1,g2,g3⟩:=V4.box4;clear VS;go_wp2_with fail;obtain ⟨fc,fo⟩:=FIN.out wa (-3) c rf cf _ ca Oa;exact bodyPost_ret (v:=refV (-3) c rf cf) (by simp [results,Tryz.results26,go_sem,k0,k1,k2,k3]) rfl ⟨_,_,_,_,_,rfl,by omega,fc,fo⟩
 ·have g0:(x == 0)=false:=by simpa using h0
  by_cases h1:x=1
  ·subst h1;obtain ⟨w2,h2⟩:=nm (w1.alloc (.cells #[iQ (0),iQ (201),iQ (-1)] 3));have xs:=x1 w1 (.cells #[iQ (0),iQ (201),iQ (-1)] 3);have VSs:=Vec.made3 w1 (iQ (0)) (iQ (201)) (iQ (-1)) 3;rw [h2] at xs VSs;have cs:=c1.ext xs;have Os:=O1.trans (Only.of_ext xs);have V3s:=V3.l xs;have V4s:=V4.l xs;have lb:=c1.lt;have lw:w.heap.size+1<w1.heap.size:=World.block_lt_of_cell? _ _ (V4 0 _ rfl).1;clear c1 O1 xs V3 V4;go_wp2_with fail;refine (zAV b base _ 3 _ cs (by omega) (by omega) (by omega)).mono ?_;rintro e w7 ⟨u,rfl,⟨u0,u1⟩,c7,o7⟩;have V3:=o7.vec (k:=w.heap.size) (by omega) V3s;have V4:=o7.vec (k:=w.heap.size+1) (by omega) V4s;have VS:=o7.vec (k:=w1.heap.size) (by omega) VSs;have O7:=Os.trans o7;clear cs o7 Os V3s V4s VSs;obtain rfl | rfl | rfl:u=0\/u=1\/u=2:=by omega
   ·have s0:=(VS 0 _ rfl).1;obtain ⟨wa,ha⟩:=nm (w7.setCell ⟨w.heap.size,1,none⟩ (iQ (0)));obtain ⟨⟨m0,m1,m2,m3⟩,f0,f1,f2,f3⟩:=V3.box4;have V3:=V3.put 1 (by simp) (iQ (0));have V4:=V4.far (p:=⟨w.heap.size,1,none⟩) (by simp) (iQ (0));have ca:=c7.far (g:=w.heap.size) (i:=1) (by omega) (by omega) (iQ (0));have Oa:=O7.setNew (g:=w.heap.size) (i:=1) (by omega) (iQ (0));rw [ha] at V3 V4 ca Oa;simp only [List.set_cons_zero,List.set_cons_succ] at V3;obtain ⟨⟨a0,a1,a2,a3⟩,_⟩:=V3.box4;obtain ⟨⟨k0,k1,k2,k3⟩,g0,g1,g2,g3⟩:=V4.box4;clear VS;go_wp2_with fail;obtain ⟨fc,fo⟩:=FIN.out wa r (0) rf cf _ ca Oa;exact bodyPost_ret (v:=refV r (0) rf cf) (by simp [results,Tryz.results26,go_sem,k0,k1,k2,k3]) rfl ⟨_,_,_,_,_,rfl,by omega,fc,fo⟩
   ·have s1:=(VS 1 _ rfl).1;obtain ⟨wa,ha⟩:=nm (w7.setCell ⟨w.heap.size,1,none⟩ (iQ (201)));obtain ⟨⟨m0,m1,m2,m3⟩,f0,f1,f2,f3⟩:=V3.box4;have V3:=V3.put 1 (by simp) (iQ (201));have V4:=V4.far (p:=⟨w.heap.size,1,none⟩) (by simp) (iQ (201));have ca:=c7.far (g:=w.heap.size) (i:=1) (by omega) (by omega) (iQ (201));have Oa:=O7.setNew (g:=w.heap.size) (i:=1) (by omega) (iQ (201));rw [ha] at V3 V4 ca Oa;simp only [List.set_cons_zero,List.set_cons_succ] at V3;obtain ⟨⟨a0,a1,a2,a3⟩,_⟩:=V3.box4;obtain ⟨⟨k0,k1,k2,k3⟩,g0,g1,g2,g3⟩:=V4.box4;clear VS;go_wp2_with fail;obtain ⟨fc,fo⟩:=FIN.out wa r (201) rf cf _ ca Oa;exact bodyPost_ret (v:=refV r (201) rf cf) (by simp [results,Tryz.results26,go_sem,k0,k1,k2,k3]) rfl ⟨_,_,_,_,_,rfl,by omega,fc,fo⟩
   ·have s2:=(VS 2 _ rfl).1;obtain ⟨wa,ha⟩:=nm (w7.setCell ⟨w.heap.size,1,none⟩ (iQ (-1)));obtain ⟨⟨m0,m1,m2,m3⟩,f0,f1,f2,f3⟩:=V3.box4;have V3:=V3.put 1 (by simp) (iQ (-1));have V4:=V4.far (p:=⟨w.heap.size,1,none⟩) (by simp) (iQ (-1));have ca:=c7.far (g:=w.heap.size) (i:=1) (by omega) (by omega) (iQ (-1));have Oa:=O7.setNew (g:=w.heap.size) (i:=1) (by omega) (iQ (-1));rw [ha] at V3 V4 ca Oa;simp only [List.set_cons_zero,List.set_cons_succ] at V3;obtain ⟨⟨a0,a1,a2,a3⟩,_⟩:=V3.box4;obtain ⟨⟨k0,k1,k2,k3⟩,g0,g1,g2,g3⟩:=V4.box4;clear VS;go_wp2_with fail;obtain ⟨fc,fo⟩:=FIN.out wa r (-1) rf cf _ ca Oa;exact bodyPost_ret (v:=refV r (-1) rf cf) (by simp [results,Tryz.results26,go_sem,k0,k1,k2,k3]) rfl ⟨_,_,_,_,_,rfl,by omega,fc,fo⟩
  ·have g1:(x == 1)=false:=by simpa using h1
   obtain ⟨⟨a0,a1,a2,a3⟩,_⟩:=V3.box4;obtain ⟨⟨k0,k1,k2,k3⟩,e0,e1,e2,e3⟩:=V4.box4;go_wp2_with fail;obtain ⟨fc,fo⟩:=FIN.out w1 r c rf cf _ c1 O1;exact bodyPost_ret (v:=refV r c rf cf) (by simp [results,Tryz.results26,go_sem,k0,k1,k2,k3]) rfl ⟨_,_,_,_,_,rfl,by omega,fc,fo⟩
theorem Ext.setCells {a:World} {b:Nat} (hb:a.heap.size<=b):∀ (vs:List Value) (o:Nat) (w:World),Ext a w->Ext a (w.setCells b o vs)
 | [],_,_,h=>h
 | v :: vs,o,_,h=>Ext.setCells hb vs (o+1) _ (xset (p:=⟨b,o,none⟩) h hb v)
def zM5 (M:List Value):Nat->List Value->List Value
 | _,[]=>M
 | o,u :: us=>zM5 (M.set o u) (o+1) us
theorem zA8 {g:Nat}:∀ (us:List Value) (o:Nat) (w:World) (M:List Value),Vec w g M->o+us.length<=M.length->Vec (w.setCells g o us) g (zM5 M o us)
 | [],_,_,_,V,_=>V
 | u :: us,o,w,M,V,h=>by
  rw [List.length_cons] at h;exact zA8 us (o+1) _ (M.set o u) (V.put o (by omega) u) (by rw [List.length_set];omega)
theorem zAD {w:World} {g o k:Nat} {M:List Value} (V:Vec w g M) (h:o+k<=M.length):w.there g o k:=fun j hj=>by
 obtain ⟨u,hu⟩:∃ u,M[o+j]?=some u:=⟨_,List.getElem?_eq_getElem (by omega)⟩;exact ⟨by rw [(V _ u hu).1];rfl,(V _ u hu).2⟩
theorem zAL (g:Nat):∀ (us:List Value) (o:Nat) (w:World),w.grownBy (w.setCells g o us) (some g)
 | [],_,w=>⟨rfl,rfl,rfl,Nat.le_refl _,fun _ _ _=>rfl⟩
 | u :: us,o,w=>by
  have ih:=zAL g us (o+1) (w.setCell ⟨g,o,none⟩ u);refine ⟨ih.os,ih.tape,ih.output,?_,fun k hk hne=>?_⟩
  ·have:=ih.size;rw [World.size_setCell] at this;exact this
  ·exact (ih.block k (by rw [World.size_setCell];exact hk) hne).trans (Below.heap_setCell _ _ _ _ (fun e=>hne (by rw [e])))
theorem Vec.three {w:World} {b:Nat} {v0 v1 v2:Value} (h:Vec w b [v0,v1,v2]):w.cell? ⟨b,0,none⟩=some v0/\w.cell? ⟨b,1,none⟩=some v1/\w.cell? ⟨b,2,none⟩=some v2:=
 ⟨(h 0 _ rfl).1,(h 1 _ rfl).1,(h 2 _ rfl).1⟩
theorem Vec.threeF {w:World} {b:Nat} {v0 v1 v2:Value} (h:Vec w b [v0,v1,v2]):w.frozen? ⟨b,0,none⟩=false/\w.frozen? ⟨b,1,none⟩=false/\w.frozen? ⟨b,2,none⟩=false:=
 ⟨(h 0 _ rfl).2,(h 1 _ rfl).2,(h 2 _ rfl).2⟩
theorem Vec.four {w:World} {b:Nat} {v0 v1 v2 v3:Value} (h:Vec w b [v0,v1,v2,v3]):w.cell? ⟨b,0,none⟩=some v0/\w.cell? ⟨b,1,none⟩=some v1/\w.cell? ⟨b,2,none⟩=some v2/\w.cell? ⟨b,3,none⟩=some v3:=
 ⟨(h 0 _ rfl).1,(h 1 _ rfl).1,(h 2 _ rfl).1,(h 3 _ rfl).1⟩
theorem Vec.fourF {w:World} {b:Nat} {v0 v1 v2 v3:Value} (h:Vec w b [v0,v1,v2,v3]):w.frozen? ⟨b,0,none⟩=false/\w.frozen? ⟨b,1,none⟩=false/\w.frozen? ⟨b,2,none⟩=false/\w.frozen? ⟨b,3,none⟩=false:=
 ⟨(h 0 _ rfl).2,(h 1 _ rfl).2,(h 2 _ rfl).2,(h 3 _ rfl).2⟩
theorem Cur.baseC {w:World} {b base K:Nat} (h:Cur w b base K):base<=b:=by obtain ⟨_,_,_,_,_,_,_,_,_,_,_,hb⟩:=h;exact hb
theorem Only.vecC {b k:Nat} {w w':World} {l:List Value} (h:Only b w w') (hk:k ≠ b) (v:Vec w k l):Vec w' k l:=fun i x hi=>by
 obtain ⟨hc,hf⟩:=v i x hi;refine ⟨h.cell hk hc,?_⟩;have hlt:=World.block_lt_of_cell? _ _ hc;rw [<- hf];exact World.frozen?_of_block (h.block k hk hlt)
theorem zK9 {a w:World} {b base K g:Nat} (V:Vec w g [.bool false,iQ 0,iQ 0]) (C:Cur w b base K) (O:Only b a w) (hg:a.heap.size<=g) (hb:b ≠ g) (hbase:base<=g) (n:Bool) (d x:Int) :
  ∃ wy,((w.setCell ⟨g,0,none⟩ (.bool n)).setCell ⟨g,1,none⟩ (iQ d)).setCell ⟨g,2,none⟩ (iQ x)=wy/\Only b a wy/\Cur wy b base K/\(w.cell? ⟨g,0,none⟩=some (.bool false)/\w.cell? ⟨g,1,none⟩=some (iQ 0)/\w.cell? ⟨g,2,none⟩=some (iQ 0))/\(w.frozen? ⟨g,0,none⟩=false/\w.frozen? ⟨g,1,none⟩=false/\w.frozen? ⟨g,2,none⟩=false)/\wy.cell? ⟨g,0,none⟩=some (.bool n)/\wy.cell? ⟨g,1,none⟩=some (iQ d)/\wy.cell? ⟨g,2,none⟩=some (iQ x):=
 ⟨_,rfl,((O.setNew hg _).setNew hg _).setNew hg _,((C.far hb hbase _).far hb hbase _).far hb hbase _,V.three,V.threeF,Vec.three (((V.put 0 (by simp) (.bool n)).put 1 (by simp) (iQ d)).put 2 (by simp) (iQ x))⟩
abbrev spV (a b:Int):Value:=.agg #[iQ a,iQ b]
abbrev blV (a b c d:Int):Value:=.agg #[iQ a,iQ b,iQ c,iQ d]
theorem zHF (a b a' b':Int) (w:World) :
  Calls Tryz.prog 93 #[spV a b,spV a' b'] w fun e w'=>e=.returned (spV (hi a a') (lo b b'))/\Ext w w':=by
 by_cases ga:a<a'
 ·have ea:hi a a'=a':=by unfold hi;split <;> omega
  have fa:(a<a')=True:=eq_true ga;rw [ea];by_cases gb:b'<b
  ·have eb:lo b b'=b':=by unfold lo;split <;> omega
   have fb:(b'<b)=True:=eq_true gb;rw [eb];clear ga gb ea eb;go_enter Tryz.func93,Tryz.ntmps93
   go_wp2
   exact bodyPost_ret (v:=spV a' b') (by simp [results,Tryz.results93,go_sem] <;> (simp at fa fb;omega)) rfl ⟨rfl,xa (xa (x1 _ _) _) _⟩
  ·have eb:lo b b'=b:=by unfold lo;split <;> omega
   have fb:(b'<b)=False:=eq_false gb;rw [eb];clear ga gb ea eb;go_enter Tryz.func93,Tryz.ntmps93
   go_wp2
   exact bodyPost_ret (v:=spV a' b) (by simp [results,Tryz.results93,go_sem] <;> (simp at fa fb;omega)) rfl ⟨rfl,xa (xa (x1 _ _) _) _⟩
 ·have ea:hi a a'=a:=by unfold hi;split <;> omega
  have fa:(a<a')=False:=eq_false ga;rw [ea];by_cases gb:b'<b
  ·have eb:lo b b'=b':=by unfold lo;split <;> omega
   have fb:(b'<b)=True:=eq_true gb;rw [eb];clear ga gb ea eb;go_enter Tryz.func93,Tryz.ntmps93
   go_wp2
   exact bodyPost_ret (v:=spV a b') (by simp [results,Tryz.results93,go_sem] <;> (simp at fa fb;omega)) rfl ⟨rfl,xa (xa (x1 _ _) _) _⟩
  ·have eb:lo b b'=b:=by unfold lo;split <;> omega
   have fb:(b'<b)=False:=eq_false gb;rw [eb];clear ga gb ea eb;go_enter Tryz.func93,Tryz.ntmps93
   go_wp2
   exact bodyPost_ret (v:=spV a b) (by simp [results,Tryz.results93,go_sem] <;> (simp at fa fb;omega)) rfl ⟨rfl,xa (xa (x1 _ _) _) _⟩
theorem zM2 (a b a' b':Int) (w:World) :
  Calls Tryz.prog 94 #[spV a b,spV a' b'] w fun e w'=>e=.returned (spV (lo a a') (hi b b'))/\Ext w w':=by
 by_cases ga:a'<a
 ·have ea:lo a a'=a':=by unfold lo;split <;> omega
  have fa:(a'<a)=True:=eq_true ga;rw [ea];by_cases gb:b<b'
  ·have eb:hi b b'=b':=by unfold hi;split <;> omega
   have fb:(b<b')=True:=eq_true gb;rw [eb];clear ga gb ea eb;go_enter Tryz.func94,Tryz.ntmps94
   go_wp2
   exact bodyPost_ret (v:=spV a' b') (by simp [results,Tryz.results94,go_sem] <;> (simp at fa fb;omega)) rfl ⟨rfl,xa (xa (x1 _ _) _) _⟩
  ·have eb:hi b b'=b:=by unfold hi;split <;> omega
   have fb:(b<b')=False:=eq_false gb;rw [eb];clear ga gb ea eb;go_enter Tryz.func94,Tryz.ntmps94
   go_wp2
   exact bodyPost_ret (v:=spV a' b) (by simp [results,Tryz.results94,go_sem] <;> (simp at fa fb;omega)) rfl ⟨rfl,xa (xa (x1 _ _) _) _⟩
 ·have ea:lo a a'=a:=by unfold lo;split <;> omega
  have fa:(a'<a)=False:=eq_false ga;rw [ea];by_cases gb:b<b'
  ·have eb:hi b b'=b':=by unfold hi;split <;> omega
   have fb:(b<b')=True:=eq_true gb;rw [eb];clear ga gb ea eb;go_enter Tryz.func94,Tryz.ntmps94
   go_wp2
   exact bodyPost_ret (v:=spV a b') (by simp [results,Tryz.results94,go_sem] <;> (simp at fa fb;omega)) rfl ⟨rfl,xa (xa (x1 _ _) _) _⟩
  ·have eb:hi b b'=b:=by unfold hi;split <;> omega
   have fb:(b<b')=False:=eq_false gb;rw [eb];clear ga gb ea eb;go_enter Tryz.func94,Tryz.ntmps94
   go_wp2
   exact bodyPost_ret (v:=spV a b) (by simp [results,Tryz.results94,go_sem] <;> (simp at fa fb;omega)) rfl ⟨rfl,xa (xa (x1 _ _) _) _⟩
theorem zGH (a b:Int) (w:World) :
  Calls Tryz.prog 78 #[spV a b] w fun e w'=>e=.returned (.bool (decide (a > b)))/\Ext w w':=by
 go_enter Tryz.func78,Tryz.ntmps78
 go_wp2
 all_goals go_ret
 all_goals exact ⟨rfl,x1 _ _⟩
theorem blockOf (r c:Int) (rf cf:Bool) (r' c':Int) (rf' cf':Bool) (w:World) (hg:zAZ r c r' c'=true) :
  Calls Tryz.prog 88 #[arV r c rf cf r' c' rf' cf'] w fun e w'=>e=.returned (blV (lo r r') (hi r r') (lo c c') (hi c c'))/\Ext w w':=by
 have N:=fun w=>zIY r c rf cf r' c' rf' cf' w hg;have B2:=Vec.made4 (w.alloc (.cells #[iQ r,iQ c,.bool rf,.bool cf,iQ r',iQ c',.bool rf',.bool cf'] 43)) (iQ 0) (iQ 0) (iQ 0) (iQ 0) 111;have X:=xa (x1 w (.cells #[iQ r,iQ c,.bool rf,.bool cf,iQ r',iQ c',.bool rf',.bool cf'] 43)) (.cells #[iQ 0,iQ 0,iQ 0,iQ 0] 111);rw [World.size_alloc] at B2;obtain ⟨n1,h1⟩:=nm (lo r r');obtain ⟨n2,h2⟩:=nm (lo c c');obtain ⟨n3,h3⟩:=nm (loF r r' rf rf');obtain ⟨n4,h4⟩:=nm (loF c c' cf cf');obtain ⟨n5,h5⟩:=nm (hi r r');obtain ⟨n6,h6⟩:=nm (hi c c');obtain ⟨n7,h7⟩:=nm (hiF r r' rf rf');obtain ⟨n8,h8⟩:=nm (hiF c c' cf cf');simp only [norV,h1,h2,h3,h4,h5,h6,h7,h8] at N ⊢;clear h1 h2 h3 h4 h5 h6 h7 h8 hg;go_enter Tryz.func88,Tryz.ntmps88;go_wp2_with fail;refine (N _).mono ?_;rintro e w1 ⟨rfl,e1⟩;have C2:=B2.l e1;have Y:=xt X e1;clear B2 X e1 N;obtain ⟨w2,h2⟩:=nm (w1.alloc (.cells #[iQ n1,iQ n2,.bool n3,.bool n4,iQ n5,iQ n6,.bool n7,.bool n8] 43));have P:=Vec.made8 w1 (iQ n1) (iQ n2) (.bool n3) (.bool n4) (iQ n5) (iQ n6) (.bool n7) (.bool n8) 43;have x2:=x1 w1 (.cells #[iQ n1,iQ n2,.bool n3,.bool n4,iQ n5,iQ n6,.bool n7,.bool n8] 43);rw [h2] at P x2;have D2:=C2.l x2;have Z:=Ext.set4 (b:=w.heap.size+1) (o:=0) (xt Y x2) (by omega) (iQ n1) (iQ n5) (iQ n2) (iQ n6);obtain ⟨⟨⟨a0,a1,a2,a3⟩,a4,a5,a6,a7⟩,_⟩:=P.box8;obtain ⟨⟨m0,m1,m2,m3⟩,f0,f1,f2,f3⟩:=D2.box4;clear P D2 C2 Y x2;go_wp2_with fail;exact bodyPost_ret (v:=blV n1 n5 n2 n6) (by simp [results,Tryz.results88,go_sem,m0,m1,m2,m3]) rfl ⟨rfl,Z⟩
theorem maxS (a b:Int) (w:World) :
  Calls Tryz.prog 65 #[iQ a,iQ b] w fun e w'=>e=.returned (iQ (hi a b))/\w'=w:=by
 go_enter Tryz.func65,Tryz.ntmps65
 go_wp2
 all_goals go_ret
 all_goals exact ⟨zAG (by unfold hi;split <;> omega),rfl⟩
theorem minS (a b:Int) (w:World) :
  Calls Tryz.prog 64 #[iQ a,iQ b] w fun e w'=>e=.returned (iQ (lo a b))/\w'=w:=by
 go_enter Tryz.func64,Tryz.ntmps64
 go_wp2
 all_goals go_ret
 all_goals exact ⟨zAG (by unfold lo;split <;> omega),rfl⟩
end Go.Proofs.YteliaeejooekbaaGreatDoor

