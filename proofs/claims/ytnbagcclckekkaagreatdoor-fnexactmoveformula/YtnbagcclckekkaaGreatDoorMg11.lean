/-
  Several texts in one: Nor, Hul, HulI.
-/
import Derived.Test.YtnbagcclckekkaaGreatDoorMg9
import Derived.Deep.DeepCutAuto
import Derived.RegionTactic
import Derived.ChangeAlike
namespace Go.Proofs.YtnbagcclckekkaaGreatDoor
open Go.RowKit
def lo (a b:Int):Int:=if b<a then b else a
def hi (a b:Int):Int:=if b<a then a else b
def loF (a b:Int) (p q:Bool):Bool:=if b<a then q else p
def hiF (a b:Int) (p q:Bool):Bool:=if b<a then p else q
abbrev norV (r c:Int) (rf cf:Bool) (r' c':Int) (rf' cf':Bool):Value:=arV (lo r r') (lo c c') (loF r r' rf rf') (loF c c' cf cf') (hi r r') (hi c c') (hiF r r' rf rf') (hiF c c' cf cf')
theorem Vec.made4' (w:World) (o:Obj) (v0 v1 v2 v3:Value) (t:TypeId):Vec ((w.alloc o).alloc (.cells #[v0,v1,v2,v3] t)) (w.heap.size+1) [v0,v1,v2,v3]:=by
 have h:=Vec.made4 (w.alloc o) v0 v1 v2 v3 t
 rwa [World.size_alloc] at h
def swp (w:World) (b b' i:Nat) (x x' y y':Value):World:=(((w.setCell ⟨b,i,none⟩ x').setCell ⟨b',i,none⟩ x).setCell ⟨b,i+2,none⟩ y').setCell ⟨b',i+2,none⟩ y
theorem Vec.swp_b {w:World} {b b' i:Nat} {l:List Value} (h:Vec w b l) (hb:b' ≠ b) (hi:i+2<l.length) (x x' y y':Value):Vec (swp w b b' i x x' y y') b ((l.set i x').set (i+2) y'):=
 (((h.put i (by omega) x').far hb x).put (i+2) (by rw [List.length_set];omega) y').far hb y
theorem Vec.swp_b' {w:World} {b b' i:Nat} {l:List Value} (h:Vec w b' l) (hb:b ≠ b') (hi:i+2<l.length) (x x' y y':Value):Vec (swp w b b' i x x' y y') b' ((l.set i x).set (i+2) y):=
 (((h.far hb x').put i (by omega) x).far hb y').put (i+2) (by rw [List.length_set];omega) y
theorem Vec.swp_far {w:World} {b b' k i:Nat} {l:List Value} (h:Vec w k l) (hb:b ≠ k) (hb':b' ≠ k) (x x' y y':Value):Vec (swp w b b' i x x' y y') k l:=
 (((h.far hb x').far hb' x).far hb y').far hb' y
theorem Ext.swp {a w:World} {b b' i:Nat} (h:Ext a w) (hb:a.heap.size≤b) (hb':a.heap.size≤b') (x x' y y':Value):Ext a (swp w b b' i x x' y y'):=xset (xset (xset (xset h hb x') hb' x) hb y') hb' y
set_option maxRecDepth 8000 in
set_option maxHeartbeats 2000000 in
theorem normalI_good (r c:Int) (rf cf:Bool) (r' c':Int) (rf' cf':Bool) (w:World) (hg:goodAB r c r' c'=true) :
  Calls Tryz.prog 87 #[arV r c rf cf r' c' rf' cf'] w fun e w'=>e=.returned (norV r c rf cf r' c' rf' cf')∧Ext w w':=by
 have G:=fun w=>goodAI r c rf cf r' c' rf' cf' w;rw [hg] at G;have B1:=Vec.made8 w (.int .i64 r) (.int .i64 c) (.bool rf) (.bool cf) (.int .i64 r') (.int .i64 c') (.bool rf') (.bool cf') 45;have X1:=x1 w (.cells #[.int .i64 r,.int .i64 c,.bool rf,.bool cf,.int .i64 r',.int .i64 c',.bool rf',.bool cf'] 45);obtain ⟨wa,ha⟩:∃ wa,w.alloc (.cells #[.int .i64 r,.int .i64 c,.bool rf,.bool cf,.int .i64 r',.int .i64 c',.bool rf',.bool cf'] 45)=wa:=⟨_,rfl⟩;have B2:=Vec.made8 wa (.int .i64 0) (.int .i64 0) (.bool false) (.bool false) (.int .i64 0) (.int .i64 0) (.bool false) (.bool false) 45;have X2:=x1 wa (.cells #[.int .i64 0,.int .i64 0,.bool false,.bool false,.int .i64 0,.int .i64 0,.bool false,.bool false] 45);obtain ⟨wb,hb⟩:∃ wb,wa.alloc (.cells #[.int .i64 0,.int .i64 0,.bool false,.bool false,.int .i64 0,.int .i64 0,.bool false,.bool false] 45)=wb:=⟨_,rfl⟩;have sa:wa.heap.size=w.heap.size+1:=by rw [← ha,World.size_alloc]
 rw [ha] at X1 B1;rw [hb] at X2 B2;rw [sa] at B2;have X:=xt X1 X2;have B1:=B1.later X2;obtain ⟨⟨⟨a0,a1,a2,a3⟩,a4,a5,a6,a7⟩,_⟩:=B1.box8;clear X1 X2;go_enter Tryz.func87,Tryz.ntmps87;go_wp2_with fail;clear ha hb sa a0 a1 a2 a3 a4 a5 a6 a7;refine (G _).mono ?_;rintro e w1 ⟨rfl,e1⟩;have C1:=B1.later e1;have C2:=B2.later e1;have Y:=xt X e1;clear B1 B2 X e1 G;obtain ⟨⟨⟨a0,a1,a2,a3⟩,a4,a5,a6,a7⟩,_⟩:=C1.box8;have lt1:w.heap.size+1<w1.heap.size:=World.block_lt_of_cell? _ _ (C2 0 _ rfl).1;go_upto_region 3 with fail;go_cut [3,4] (fun p q wc=>∃ b b':Nat,p=.pointer (some ⟨b,0,none⟩)∧q=.pointer (some ⟨b',0,none⟩)∧(b ≠ b'∧w.heap.size+1<b∧w.heap.size+1<b')∧Vec wc b [.int .i64 r,.int .i64 c,.bool rf,.bool cf]∧Vec wc b' [.int .i64 r',.int .i64 c',.bool rf',.bool cf']∧Vec wc (w.heap.size+1) [.int .i64 0,.int .i64 0,.bool false,.bool false,.int .i64 0,.int .i64 0,.bool false,.bool false]∧Ext w wc)
 case first =>
  have b0:∀ o,(w1.alloc o).cell? ⟨w.heap.size,0,none⟩=some (.int .i64 r):=fun o=>((C1.later (x1 w1 o)) 0 _ rfl).1;have d0:∀ o o',((w1.alloc o).alloc o').cell? ⟨w.heap.size,0,none⟩=some (.int .i64 r):=fun o o'=>((C1.later (xa (x1 w1 o) o')) 0 _ rfl).1;have b1:∀ o,(w1.alloc o).cell? ⟨w.heap.size,1,none⟩=some (.int .i64 c):=fun o=>((C1.later (x1 w1 o)) 1 _ rfl).1;have d1:∀ o o',((w1.alloc o).alloc o').cell? ⟨w.heap.size,1,none⟩=some (.int .i64 c):=fun o o'=>((C1.later (xa (x1 w1 o) o')) 1 _ rfl).1;have b2:∀ o,(w1.alloc o).cell? ⟨w.heap.size,2,none⟩=some (.bool rf):=fun o=>((C1.later (x1 w1 o)) 2 _ rfl).1;have d2:∀ o o',((w1.alloc o).alloc o').cell? ⟨w.heap.size,2,none⟩=some (.bool rf):=fun o o'=>((C1.later (xa (x1 w1 o) o')) 2 _ rfl).1;have b3:∀ o,(w1.alloc o).cell? ⟨w.heap.size,3,none⟩=some (.bool cf):=fun o=>((C1.later (x1 w1 o)) 3 _ rfl).1;have d3:∀ o o',((w1.alloc o).alloc o').cell? ⟨w.heap.size,3,none⟩=some (.bool cf):=fun o o'=>((C1.later (xa (x1 w1 o) o')) 3 _ rfl).1;have b4:∀ o,(w1.alloc o).cell? ⟨w.heap.size,4,none⟩=some (.int .i64 r'):=fun o=>((C1.later (x1 w1 o)) 4 _ rfl).1;have d4:∀ o o',((w1.alloc o).alloc o').cell? ⟨w.heap.size,4,none⟩=some (.int .i64 r'):=fun o o'=>((C1.later (xa (x1 w1 o) o')) 4 _ rfl).1;have b5:∀ o,(w1.alloc o).cell? ⟨w.heap.size,5,none⟩=some (.int .i64 c'):=fun o=>((C1.later (x1 w1 o)) 5 _ rfl).1;have d5:∀ o o',((w1.alloc o).alloc o').cell? ⟨w.heap.size,5,none⟩=some (.int .i64 c'):=fun o o'=>((C1.later (xa (x1 w1 o) o')) 5 _ rfl).1;have b6:∀ o,(w1.alloc o).cell? ⟨w.heap.size,6,none⟩=some (.bool rf'):=fun o=>((C1.later (x1 w1 o)) 6 _ rfl).1;have d6:∀ o o',((w1.alloc o).alloc o').cell? ⟨w.heap.size,6,none⟩=some (.bool rf'):=fun o o'=>((C1.later (xa (x1 w1 o) o')) 6 _ rfl).1;have b7:∀ o,(w1.alloc o).cell? ⟨w.heap.size,7,none⟩=some (.bool cf'):=fun o=>((C1.later (x1 w1 o)) 7 _ rfl).1;have d7:∀ o o',((w1.alloc o).alloc o').cell? ⟨w.heap.size,7,none⟩=some (.bool cf'):=fun o o'=>((C1.later (xa (x1 w1 o) o')) 7 _ rfl).1
  go_region
  all_goals go_wp2_with fail
  ·go_meet
   case rel=>exact ⟨_,_,rfl,rfl,⟨by omega,by omega,by omega⟩,((Vec.made4 w1 _ _ _ _ _).later (x1 _ _)).later (xd (xr _)),(Vec.made4' w1 _ _ _ _ _ _).later (xd (xr _)),C2.later (xd (xa (x1 _ _) _)),xt Y (xd (xa (x1 _ _) _))⟩
  ·go_meet
   case rel=>exact ⟨_,_,rfl,rfl,⟨by omega,by omega,by omega⟩,(Vec.made4' w1 _ _ _ _ _ _).later (xd (xr _)),((Vec.made4 w1 _ _ _ _ _).later (x1 _ _)).later (xd (xr _)),C2.later (xd (xa (x1 _ _) _)),xt Y (xd (xa (x1 _ _) _))⟩
 case rest =>
  obtain ⟨b,b',rfl,rfl,⟨hbb,hb1,hb2⟩,V,V',R,Z⟩:=hcut;clear a0 a1 a2 a3 a4 a5 a6 a7 C1 C2 Y lt1 B1;have hb3:(b=b')=False:=eq_false hbb;have hb4:(b'=b)=False:=eq_false (fun e=>hbb e.symm);have hb5:(b=w.heap.size+1)=False:=eq_false (by omega);have hb6:(b'=w.heap.size+1)=False:=eq_false (by omega);by_cases hr:r'<r
  ·have er:decide (r > r')=true:=by simp;omega
   by_cases hc:c'<c
   ·have ec:decide (c > c')=true:=(by simp;omega);have HNV:Hid (norV r c rf cf r' c' rf' cf'=arV r' c' rf' cf' r c rf cf):=(by show _=_;unfold norV lo hi loF hiF;simp only [hr,hc,if_true]);obtain ⟨⟨p0,p1,p2,p3⟩,q0,q1,q2,q3⟩:=V.box4;obtain ⟨⟨m0,m1,m2,m3⟩,n0,n1,n2,n3⟩:=V'.box4;obtain ⟨wx1,hwx1⟩:∃ wx,swp wc b b' 0 (.int .i64 r) (.int .i64 r') (.bool rf) (.bool rf')=wx:=⟨_,rfl⟩;have V1:=V.swp_b (b':=b') (i:=0) (fun e=>hbb e.symm) (by simp) (.int .i64 r) (.int .i64 r') (.bool rf) (.bool rf');have V1':=V'.swp_b' (b:=b) (i:=0) hbb (by simp) (.int .i64 r) (.int .i64 r') (.bool rf) (.bool rf');have R1:=R.swp_far (b:=b) (b':=b') (i:=0) (by omega) (by omega) (.int .i64 r) (.int .i64 r') (.bool rf) (.bool rf');have Z1:=Ext.swp (b:=b) (b':=b') (i:=0) Z (by omega) (by omega) (.int .i64 r) (.int .i64 r') (.bool rf) (.bool rf');rw [hwx1] at V1 V1' R1 Z1;simp only [List.set_cons_zero,List.set_cons_succ,Nat.zero_add] at V1 V1';unfold swp at hwx1;obtain ⟨⟨p01,p11,p21,p31⟩,q01,q11,q21,q31⟩:=V1.box4;obtain ⟨⟨m01,m11,m21,m31⟩,n01,n11,n21,n31⟩:=V1'.box4;obtain ⟨wx2,hwx2⟩:∃ wx,swp wx1 b b' 1 (.int .i64 c) (.int .i64 c') (.bool cf) (.bool cf')=wx:=⟨_,rfl⟩;have V2:=V1.swp_b (b':=b') (i:=1) (fun e=>hbb e.symm) (by simp) (.int .i64 c) (.int .i64 c') (.bool cf) (.bool cf');have V2':=V1'.swp_b' (b:=b) (i:=1) hbb (by simp) (.int .i64 c) (.int .i64 c') (.bool cf) (.bool cf');have R2:=R1.swp_far (b:=b) (b':=b') (i:=1) (by omega) (by omega) (.int .i64 c) (.int .i64 c') (.bool cf) (.bool cf');have Z2:=Ext.swp (b:=b) (b':=b') (i:=1) Z1 (by omega) (by omega) (.int .i64 c) (.int .i64 c') (.bool cf) (.bool cf');rw [hwx2] at V2 V2' R2 Z2;simp only [List.set_cons_zero,List.set_cons_succ,Nat.reduceAdd] at V2 V2';unfold swp at hwx2;obtain ⟨⟨p02,p12,p22,p32⟩,q02,q12,q22,q32⟩:=V2.box4;obtain ⟨⟨m02,m12,m22,m32⟩,n02,n12,n22,n32⟩:=V2'.box4;obtain ⟨wy,hy⟩:∃ wy,set8 wx2 (w.heap.size+1) (.int .i64 r') (.int .i64 c') (.bool rf') (.bool cf') (.int .i64 r) (.int .i64 c) (.bool rf) (.bool cf)=wy:=⟨_,rfl⟩;have GR:=R2.put8 (.int .i64 r') (.int .i64 c') (.bool rf') (.bool cf') (.int .i64 r) (.int .i64 c) (.bool rf) (.bool cf);have GZ:=Ext.set8 (b:=w.heap.size+1) Z2 (by omega) (.int .i64 r') (.int .i64 c') (.bool rf') (.bool cf') (.int .i64 r) (.int .i64 c) (.bool rf) (.bool cf);obtain ⟨⟨⟨k0,k1,k2,k3⟩,k4,k5,k6,k7⟩,⟨f0,f1,f2,f3⟩,f4,f5,f6,f7⟩:=R2.box8;rw [hy] at GR GZ;unfold set8 set4 at hy;obtain ⟨⟨⟨d0,d1,d2,d3⟩,d4,d5,d6,d7⟩,_⟩:=GR.box8;go_wp2_with fail;exact bodyPost_ret (v:=arV r' c' rf' cf' r c rf cf) (by simp [results,Tryz.results87,go_sem,d0,d1,d2,d3,d4,d5,d6,d7]) rfl ⟨by rw [HNV.out],GZ⟩
   ·have ec:decide (c > c')=false:=(by simp;omega);have HNV:Hid (norV r c rf cf r' c' rf' cf'=arV r' c rf' cf r c' rf cf'):=(by show _=_;unfold norV lo hi loF hiF;simp only [hr,hc,if_true,if_false]);obtain ⟨⟨p0,p1,p2,p3⟩,q0,q1,q2,q3⟩:=V.box4;obtain ⟨⟨m0,m1,m2,m3⟩,n0,n1,n2,n3⟩:=V'.box4;obtain ⟨wx1,hwx1⟩:∃ wx,swp wc b b' 0 (.int .i64 r) (.int .i64 r') (.bool rf) (.bool rf')=wx:=⟨_,rfl⟩;have V1:=V.swp_b (b':=b') (i:=0) (fun e=>hbb e.symm) (by simp) (.int .i64 r) (.int .i64 r') (.bool rf) (.bool rf');have V1':=V'.swp_b' (b:=b) (i:=0) hbb (by simp) (.int .i64 r) (.int .i64 r') (.bool rf) (.bool rf');have R1:=R.swp_far (b:=b) (b':=b') (i:=0) (by omega) (by omega) (.int .i64 r) (.int .i64 r') (.bool rf) (.bool rf');have Z1:=Ext.swp (b:=b) (b':=b') (i:=0) Z (by omega) (by omega) (.int .i64 r) (.int .i64 r') (.bool rf) (.bool rf');rw [hwx1] at V1 V1' R1 Z1;simp only [List.set_cons_zero,List.set_cons_succ,Nat.zero_add] at V1 V1';unfold swp at hwx1;obtain ⟨⟨p01,p11,p21,p31⟩,q01,q11,q21,q31⟩:=V1.box4;obtain ⟨⟨m01,m11,m21,m31⟩,n01,n11,n21,n31⟩:=V1'.box4;obtain ⟨wy,hy⟩:∃ wy,set8 wx1 (w.heap.size+1) (.int .i64 r') (.int .i64 c) (.bool rf') (.bool cf) (.int .i64 r) (.int .i64 c') (.bool rf) (.bool cf')=wy:=⟨_,rfl⟩;have GR:=R1.put8 (.int .i64 r') (.int .i64 c) (.bool rf') (.bool cf) (.int .i64 r) (.int .i64 c') (.bool rf) (.bool cf');have GZ:=Ext.set8 (b:=w.heap.size+1) Z1 (by omega) (.int .i64 r') (.int .i64 c) (.bool rf') (.bool cf) (.int .i64 r) (.int .i64 c') (.bool rf) (.bool cf');obtain ⟨⟨⟨k0,k1,k2,k3⟩,k4,k5,k6,k7⟩,⟨f0,f1,f2,f3⟩,f4,f5,f6,f7⟩:=R1.box8;rw [hy] at GR GZ;unfold set8 set4 at hy;obtain ⟨⟨⟨d0,d1,d2,d3⟩,d4,d5,d6,d7⟩,_⟩:=GR.box8;go_wp2_with fail;exact bodyPost_ret (v:=arV r' c rf' cf r c' rf cf') (by simp [results,Tryz.results87,go_sem,d0,d1,d2,d3,d4,d5,d6,d7]) rfl ⟨by rw [HNV.out],GZ⟩
  ·have er:decide (r > r')=false:=by simp;omega
   by_cases hc:c'<c
   ·have ec:decide (c > c')=true:=(by simp;omega);have HNV:Hid (norV r c rf cf r' c' rf' cf'=arV r c' rf cf' r' c rf' cf):=(by show _=_;unfold norV lo hi loF hiF;simp only [hr,hc,if_true,if_false]);obtain ⟨⟨p0,p1,p2,p3⟩,q0,q1,q2,q3⟩:=V.box4;obtain ⟨⟨m0,m1,m2,m3⟩,n0,n1,n2,n3⟩:=V'.box4;obtain ⟨wx1,hwx1⟩:∃ wx,swp wc b b' 1 (.int .i64 c) (.int .i64 c') (.bool cf) (.bool cf')=wx:=⟨_,rfl⟩;have V1:=V.swp_b (b':=b') (i:=1) (fun e=>hbb e.symm) (by simp) (.int .i64 c) (.int .i64 c') (.bool cf) (.bool cf');have V1':=V'.swp_b' (b:=b) (i:=1) hbb (by simp) (.int .i64 c) (.int .i64 c') (.bool cf) (.bool cf');have R1:=R.swp_far (b:=b) (b':=b') (i:=1) (by omega) (by omega) (.int .i64 c) (.int .i64 c') (.bool cf) (.bool cf');have Z1:=Ext.swp (b:=b) (b':=b') (i:=1) Z (by omega) (by omega) (.int .i64 c) (.int .i64 c') (.bool cf) (.bool cf');rw [hwx1] at V1 V1' R1 Z1;simp only [List.set_cons_zero,List.set_cons_succ,Nat.reduceAdd] at V1 V1';unfold swp at hwx1;obtain ⟨⟨p01,p11,p21,p31⟩,q01,q11,q21,q31⟩:=V1.box4;obtain ⟨⟨m01,m11,m21,m31⟩,n01,n11,n21,n31⟩:=V1'.box4;obtain ⟨wy,hy⟩:∃ wy,set8 wx1 (w.heap.size+1) (.int .i64 r) (.int .i64 c') (.bool rf) (.bool cf') (.int .i64 r') (.int .i64 c) (.bool rf') (.bool cf)=wy:=⟨_,rfl⟩;have GR:=R1.put8 (.int .i64 r) (.int .i64 c') (.bool rf) (.bool cf') (.int .i64 r') (.int .i64 c) (.bool rf') (.bool cf);have GZ:=Ext.set8 (b:=w.heap.size+1) Z1 (by omega) (.int .i64 r) (.int .i64 c') (.bool rf) (.bool cf') (.int .i64 r') (.int .i64 c) (.bool rf') (.bool cf);obtain ⟨⟨⟨k0,k1,k2,k3⟩,k4,k5,k6,k7⟩,⟨f0,f1,f2,f3⟩,f4,f5,f6,f7⟩:=R1.box8;rw [hy] at GR GZ;unfold set8 set4 at hy;obtain ⟨⟨⟨d0,d1,d2,d3⟩,d4,d5,d6,d7⟩,_⟩:=GR.box8;go_wp2_with fail;exact bodyPost_ret (v:=arV r c' rf cf' r' c rf' cf) (by simp [results,Tryz.results87,go_sem,d0,d1,d2,d3,d4,d5,d6,d7]) rfl ⟨by rw [HNV.out],GZ⟩
   ·have ec:decide (c > c')=false:=(by simp;omega);have HNV:Hid (norV r c rf cf r' c' rf' cf'=arV r c rf cf r' c' rf' cf'):=(by show _=_;unfold norV lo hi loF hiF;simp only [hr,hc,if_false]);obtain ⟨⟨p0,p1,p2,p3⟩,q0,q1,q2,q3⟩:=V.box4;obtain ⟨⟨m0,m1,m2,m3⟩,n0,n1,n2,n3⟩:=V'.box4;obtain ⟨wy,hy⟩:∃ wy,set8 wc (w.heap.size+1) (.int .i64 r) (.int .i64 c) (.bool rf) (.bool cf) (.int .i64 r') (.int .i64 c') (.bool rf') (.bool cf')=wy:=⟨_,rfl⟩;have GR:=R.put8 (.int .i64 r) (.int .i64 c) (.bool rf) (.bool cf) (.int .i64 r') (.int .i64 c') (.bool rf') (.bool cf');have GZ:=Ext.set8 (b:=w.heap.size+1) Z (by omega) (.int .i64 r) (.int .i64 c) (.bool rf) (.bool cf) (.int .i64 r') (.int .i64 c') (.bool rf') (.bool cf');obtain ⟨⟨⟨k0,k1,k2,k3⟩,k4,k5,k6,k7⟩,⟨f0,f1,f2,f3⟩,f4,f5,f6,f7⟩:=R.box8;rw [hy] at GR GZ;unfold set8 set4 at hy;obtain ⟨⟨⟨d0,d1,d2,d3⟩,d4,d5,d6,d7⟩,_⟩:=GR.box8;go_wp2_with fail;exact bodyPost_ret (v:=arV r c rf cf r' c' rf' cf') (by simp [results,Tryz.results87,go_sem,d0,d1,d2,d3,d4,d5,d6,d7]) rfl ⟨by rw [HNV.out],GZ⟩
set_option maxRecDepth 8000 in
set_option maxHeartbeats 2000000 in
theorem normalI_bad (r c:Int) (rf cf:Bool) (r' c':Int) (rf' cf':Bool) (w:World) (hg:goodAB r c r' c'=false) :
  Calls Tryz.prog 87 #[arV r c rf cf r' c' rf' cf'] w fun e w'=>e=.returned (arV 0 0 false false 0 0 false false)∧Ext w w':=by
 have G:=fun w=>goodAI r c rf cf r' c' rf' cf' w;rw [hg] at G;have B2:=Vec.made8 (w.alloc (.cells #[.int .i64 r,.int .i64 c,.bool rf,.bool cf,.int .i64 r',.int .i64 c',.bool rf',.bool cf'] 45)) (.int .i64 0) (.int .i64 0) (.bool false) (.bool false) (.int .i64 0) (.int .i64 0) (.bool false) (.bool false) 45;have X:=xa (x1 w (.cells #[.int .i64 r,.int .i64 c,.bool rf,.bool cf,.int .i64 r',.int .i64 c',.bool rf',.bool cf'] 45)) (.cells #[.int .i64 0,.int .i64 0,.bool false,.bool false,.int .i64 0,.int .i64 0,.bool false,.bool false] 45);rw [World.size_alloc] at B2;go_enter Tryz.func87,Tryz.ntmps87;go_wp2_with fail;refine (G _).mono ?_;rintro e w1 ⟨rfl,e1⟩;have C2:=B2.later e1;obtain ⟨wy,hy⟩:∃ wy,set8 w1 (w.heap.size+1) (.int .i64 0) (.int .i64 0) (.bool false) (.bool false) (.int .i64 0) (.int .i64 0) (.bool false) (.bool false)=wy:=⟨_,rfl⟩;have GR:=C2.put8 (.int .i64 0) (.int .i64 0) (.bool false) (.bool false) (.int .i64 0) (.int .i64 0) (.bool false) (.bool false);have GZ:=Ext.set8 (b:=w.heap.size+1) (xt X e1) (by omega) (.int .i64 0) (.int .i64 0) (.bool false) (.bool false) (.int .i64 0) (.int .i64 0) (.bool false) (.bool false);obtain ⟨⟨⟨k0,k1,k2,k3⟩,k4,k5,k6,k7⟩,⟨f0,f1,f2,f3⟩,f4,f5,f6,f7⟩:=C2.box8;rw [hy] at GR GZ;unfold set8 set4 at hy;obtain ⟨⟨⟨d0,d1,d2,d3⟩,d4,d5,d6,d7⟩,_⟩:=GR.box8;go_wp2_with fail;exact bodyPost_ret (v:=arV 0 0 false false 0 0 false false) (by simp [results,Tryz.results87,go_sem,d0,d1,d2,d3,d4,d5,d6,d7]) rfl ⟨rfl,GZ⟩
def mir (w:World) (b i:Nat) (x y x' y':Value):World:=(((w.setCell ⟨b,i,none⟩ x').setCell ⟨b,i+2,none⟩ y').setCell ⟨b,i+4,none⟩ x).setCell ⟨b,i+6,none⟩ y
theorem Vec.mirr {w:World} {b i:Nat} {l:List Value} (h:Vec w b l) (hi:i+6<l.length) (x y x' y':Value):Vec (mir w b i x y x' y') b ((((l.set i x').set (i+2) y').set (i+4) x).set (i+6) y):=
 (((h.put i (by omega) x').put (i+2) (by simp only [List.length_set];omega) y').put (i+4) (by simp only [List.length_set];omega) x).put (i+6) (by simp only [List.length_set];omega) y
theorem Vec.mir_far {w:World} {b k i:Nat} {l:List Value} (h:Vec w k l) (hb:b ≠ k) (x y x' y':Value):Vec (mir w b i x y x' y') k l:=(((h.far hb x').far hb y').far hb x).far hb y
theorem Ext.mirr {a w:World} {b i:Nat} (h:Ext a w) (hb:a.heap.size≤b) (x y x' y':Value):Ext a (mir w b i x y x' y'):=xset (xset (xset (xset h hb x') hb y') hb x) hb y
set_option maxRecDepth 8000 in
set_option maxHeartbeats 4000000 in
theorem l3Normal (r c:Int) (rf cf:Bool) (r' c':Int) (rf' cf':Bool) (w:World) :
  Calls Tryz.prog 76 #[arV r c rf cf r' c' rf' cf'] w fun e w'=>e=.returned (norV r c rf cf r' c' rf' cf')∧Ext w w':=by
 have B1:=Vec.made8 w (.int .i64 r) (.int .i64 c) (.bool rf) (.bool cf) (.int .i64 r') (.int .i64 c') (.bool rf') (.bool cf') 45;have X1:=x1 w (.cells #[.int .i64 r,.int .i64 c,.bool rf,.bool cf,.int .i64 r',.int .i64 c',.bool rf',.bool cf'] 45);obtain ⟨wa,ha⟩:∃ wa,w.alloc (.cells #[.int .i64 r,.int .i64 c,.bool rf,.bool cf,.int .i64 r',.int .i64 c',.bool rf',.bool cf'] 45)=wa:=⟨_,rfl⟩;have B2:=Vec.made8 wa (.int .i64 0) (.int .i64 0) (.bool false) (.bool false) (.int .i64 0) (.int .i64 0) (.bool false) (.bool false) 45;have X2:=x1 wa (.cells #[.int .i64 0,.int .i64 0,.bool false,.bool false,.int .i64 0,.int .i64 0,.bool false,.bool false] 45);obtain ⟨wb,hb⟩:∃ wb,wa.alloc (.cells #[.int .i64 0,.int .i64 0,.bool false,.bool false,.int .i64 0,.int .i64 0,.bool false,.bool false] 45)=wb:=⟨_,rfl⟩;have B3:=Vec.made8 wb (.int .i64 r) (.int .i64 c) (.bool rf) (.bool cf) (.int .i64 r') (.int .i64 c') (.bool rf') (.bool cf') 45;have X3:=x1 wb (.cells #[.int .i64 r,.int .i64 c,.bool rf,.bool cf,.int .i64 r',.int .i64 c',.bool rf',.bool cf'] 45);have sa:wa.heap.size=w.heap.size+1:=by rw [← ha,World.size_alloc]
 have sb:wb.heap.size=w.heap.size+1+1:=by rw [← hb,World.size_alloc,sa]
 rw [ha] at X1 B1;rw [hb] at X2 B2;rw [sa] at B2;rw [sb] at B3;have X:=xt (xt X1 X2) X3;have B1:=B1.later X2;have A1:=B1;have B1:=B1.later X3;have B2:=B2.later X3;clear X1 X2 X3;obtain ⟨wc,hc0⟩:∃ wc,wb.alloc (.cells #[.int .i64 r,.int .i64 c,.bool rf,.bool cf,.int .i64 r',.int .i64 c',.bool rf',.bool cf'] 45)=wc:=⟨_,rfl⟩;rw [hc0] at B1 B2 B3 X;obtain ⟨⟨⟨a0,a1,a2,a3⟩,a4,a5,a6,a7⟩,_⟩:=B1.box8;obtain ⟨⟨⟨e0,e1,e2,e3⟩,e4,e5,e6,e7⟩,_⟩:=A1.box8;by_cases hr:r'<r
 ·have er:decide (r > r')=true:=by simp;omega
  by_cases hc:c'<c
  ·have ec:decide (c > c')=true:=by simp;omega
   obtain ⟨⟨⟨p01,p11,p21,p31⟩,p41,p51,p61,p71⟩,⟨q01,q11,q21,q31⟩,q41,q51,q61,q71⟩:=B3.box8;obtain ⟨⟨⟨o01,o11,o21,o31⟩,o41,o51,o61,o71⟩,_⟩:=B1.box8;obtain ⟨wx1,hwx1⟩:∃ wx,mir wc (w.heap.size+1+1) 0 (.int .i64 r) (.bool rf) (.int .i64 r') (.bool rf')=wx:=⟨_,rfl⟩;have V1:=B3.mirr (i:=0) (by simp) (.int .i64 r) (.bool rf) (.int .i64 r') (.bool rf');have A1:=B1.mir_far (b:=w.heap.size+1+1) (i:=0) (by omega) (.int .i64 r) (.bool rf) (.int .i64 r') (.bool rf');have R1:=B2.mir_far (b:=w.heap.size+1+1) (i:=0) (by omega) (.int .i64 r) (.bool rf) (.int .i64 r') (.bool rf');have Z1:=Ext.mirr (b:=w.heap.size+1+1) (i:=0) X (by omega) (.int .i64 r) (.bool rf) (.int .i64 r') (.bool rf');rw [hwx1] at V1 A1 R1 Z1;simp only [List.set_cons_zero,List.set_cons_succ,Nat.zero_add] at V1;unfold mir at hwx1;obtain ⟨⟨⟨p02,p12,p22,p32⟩,p42,p52,p62,p72⟩,⟨q02,q12,q22,q32⟩,q42,q52,q62,q72⟩:=V1.box8;obtain ⟨⟨⟨o02,o12,o22,o32⟩,o42,o52,o62,o72⟩,_⟩:=A1.box8;obtain ⟨wx2,hwx2⟩:∃ wx,mir wx1 (w.heap.size+1+1) 1 (.int .i64 c) (.bool cf) (.int .i64 c') (.bool cf')=wx:=⟨_,rfl⟩;have V2:=V1.mirr (i:=1) (by simp) (.int .i64 c) (.bool cf) (.int .i64 c') (.bool cf');have A2:=A1.mir_far (b:=w.heap.size+1+1) (i:=1) (by omega) (.int .i64 c) (.bool cf) (.int .i64 c') (.bool cf');have R2:=R1.mir_far (b:=w.heap.size+1+1) (i:=1) (by omega) (.int .i64 c) (.bool cf) (.int .i64 c') (.bool cf');have Z2:=Ext.mirr (b:=w.heap.size+1+1) (i:=1) Z1 (by omega) (.int .i64 c) (.bool cf) (.int .i64 c') (.bool cf');rw [hwx2] at V2 A2 R2 Z2;simp only [List.set_cons_zero,List.set_cons_succ,Nat.reduceAdd] at V2;unfold mir at hwx2;obtain ⟨⟨⟨p0,p1,p2,p3⟩,p4,p5,p6,p7⟩,_⟩:=V2.box8;obtain ⟨⟨⟨o0,o1,o2,o3⟩,o4,o5,o6,o7⟩,_⟩:=A2.box8;obtain ⟨wy,hy⟩:∃ wy,set8 wx2 (w.heap.size+1) (.int .i64 r') (.int .i64 c') (.bool rf') (.bool cf') (.int .i64 r) (.int .i64 c) (.bool rf) (.bool cf)=wy:=⟨_,rfl⟩;have GR:=R2.put8 (.int .i64 r') (.int .i64 c') (.bool rf') (.bool cf') (.int .i64 r) (.int .i64 c) (.bool rf) (.bool cf);have GZ:=Ext.set8 (b:=w.heap.size+1) Z2 (by omega) (.int .i64 r') (.int .i64 c') (.bool rf') (.bool cf') (.int .i64 r) (.int .i64 c) (.bool rf) (.bool cf);obtain ⟨⟨⟨k0,k1,k2,k3⟩,k4,k5,k6,k7⟩,⟨f0,f1,f2,f3⟩,f4,f5,f6,f7⟩:=R2.box8;rw [hy] at GR GZ;unfold set8 set4 at hy;obtain ⟨⟨⟨d0,d1,d2,d3⟩,d4,d5,d6,d7⟩,_⟩:=GR.box8;have HNV:Hid (norV r c rf cf r' c' rf' cf'=arV r' c' rf' cf' r c rf cf):=by show _=_;unfold norV lo hi loF hiF;simp only [hr,hc,if_true]
   go_enter Tryz.func76,Tryz.ntmps76;go_wp2_with fail;exact bodyPost_ret (v:=arV r' c' rf' cf' r c rf cf) (by simp [results,Tryz.results76,go_sem,d0,d1,d2,d3,d4,d5,d6,d7]) rfl ⟨by rw [HNV.out],GZ⟩
  ·have ec:decide (c > c')=false:=by simp;omega
   obtain ⟨⟨⟨p01,p11,p21,p31⟩,p41,p51,p61,p71⟩,⟨q01,q11,q21,q31⟩,q41,q51,q61,q71⟩:=B3.box8;obtain ⟨⟨⟨o01,o11,o21,o31⟩,o41,o51,o61,o71⟩,_⟩:=B1.box8;obtain ⟨wx1,hwx1⟩:∃ wx,mir wc (w.heap.size+1+1) 0 (.int .i64 r) (.bool rf) (.int .i64 r') (.bool rf')=wx:=⟨_,rfl⟩;have V1:=B3.mirr (i:=0) (by simp) (.int .i64 r) (.bool rf) (.int .i64 r') (.bool rf');have A1:=B1.mir_far (b:=w.heap.size+1+1) (i:=0) (by omega) (.int .i64 r) (.bool rf) (.int .i64 r') (.bool rf');have R1:=B2.mir_far (b:=w.heap.size+1+1) (i:=0) (by omega) (.int .i64 r) (.bool rf) (.int .i64 r') (.bool rf');have Z1:=Ext.mirr (b:=w.heap.size+1+1) (i:=0) X (by omega) (.int .i64 r) (.bool rf) (.int .i64 r') (.bool rf');rw [hwx1] at V1 A1 R1 Z1;simp only [List.set_cons_zero,List.set_cons_succ,Nat.zero_add] at V1;unfold mir at hwx1;obtain ⟨⟨⟨p0,p1,p2,p3⟩,p4,p5,p6,p7⟩,_⟩:=V1.box8;obtain ⟨⟨⟨o0,o1,o2,o3⟩,o4,o5,o6,o7⟩,_⟩:=A1.box8;obtain ⟨wy,hy⟩:∃ wy,set8 wx1 (w.heap.size+1) (.int .i64 r') (.int .i64 c) (.bool rf') (.bool cf) (.int .i64 r) (.int .i64 c') (.bool rf) (.bool cf')=wy:=⟨_,rfl⟩;have GR:=R1.put8 (.int .i64 r') (.int .i64 c) (.bool rf') (.bool cf) (.int .i64 r) (.int .i64 c') (.bool rf) (.bool cf');have GZ:=Ext.set8 (b:=w.heap.size+1) Z1 (by omega) (.int .i64 r') (.int .i64 c) (.bool rf') (.bool cf) (.int .i64 r) (.int .i64 c') (.bool rf) (.bool cf');obtain ⟨⟨⟨k0,k1,k2,k3⟩,k4,k5,k6,k7⟩,⟨f0,f1,f2,f3⟩,f4,f5,f6,f7⟩:=R1.box8;rw [hy] at GR GZ;unfold set8 set4 at hy;obtain ⟨⟨⟨d0,d1,d2,d3⟩,d4,d5,d6,d7⟩,_⟩:=GR.box8;have HNV:Hid (norV r c rf cf r' c' rf' cf'=arV r' c rf' cf r c' rf cf'):=by show _=_;unfold norV lo hi loF hiF;simp only [hr,hc,if_true,if_false]
   go_enter Tryz.func76,Tryz.ntmps76;go_wp2_with fail;exact bodyPost_ret (v:=arV r' c rf' cf r c' rf cf') (by simp [results,Tryz.results76,go_sem,d0,d1,d2,d3,d4,d5,d6,d7]) rfl ⟨by rw [HNV.out],GZ⟩
 ·have er:decide (r > r')=false:=by simp;omega
  by_cases hc:c'<c
  ·have ec:decide (c > c')=true:=by simp;omega
   obtain ⟨⟨⟨p01,p11,p21,p31⟩,p41,p51,p61,p71⟩,⟨q01,q11,q21,q31⟩,q41,q51,q61,q71⟩:=B3.box8;obtain ⟨⟨⟨o01,o11,o21,o31⟩,o41,o51,o61,o71⟩,_⟩:=B1.box8;obtain ⟨wx1,hwx1⟩:∃ wx,mir wc (w.heap.size+1+1) 1 (.int .i64 c) (.bool cf) (.int .i64 c') (.bool cf')=wx:=⟨_,rfl⟩;have V1:=B3.mirr (i:=1) (by simp) (.int .i64 c) (.bool cf) (.int .i64 c') (.bool cf');have A1:=B1.mir_far (b:=w.heap.size+1+1) (i:=1) (by omega) (.int .i64 c) (.bool cf) (.int .i64 c') (.bool cf');have R1:=B2.mir_far (b:=w.heap.size+1+1) (i:=1) (by omega) (.int .i64 c) (.bool cf) (.int .i64 c') (.bool cf');have Z1:=Ext.mirr (b:=w.heap.size+1+1) (i:=1) X (by omega) (.int .i64 c) (.bool cf) (.int .i64 c') (.bool cf');rw [hwx1] at V1 A1 R1 Z1;simp only [List.set_cons_zero,List.set_cons_succ,Nat.reduceAdd] at V1;unfold mir at hwx1;obtain ⟨⟨⟨p0,p1,p2,p3⟩,p4,p5,p6,p7⟩,_⟩:=V1.box8;obtain ⟨⟨⟨o0,o1,o2,o3⟩,o4,o5,o6,o7⟩,_⟩:=A1.box8;obtain ⟨wy,hy⟩:∃ wy,set8 wx1 (w.heap.size+1) (.int .i64 r) (.int .i64 c') (.bool rf) (.bool cf') (.int .i64 r') (.int .i64 c) (.bool rf') (.bool cf)=wy:=⟨_,rfl⟩;have GR:=R1.put8 (.int .i64 r) (.int .i64 c') (.bool rf) (.bool cf') (.int .i64 r') (.int .i64 c) (.bool rf') (.bool cf);have GZ:=Ext.set8 (b:=w.heap.size+1) Z1 (by omega) (.int .i64 r) (.int .i64 c') (.bool rf) (.bool cf') (.int .i64 r') (.int .i64 c) (.bool rf') (.bool cf);obtain ⟨⟨⟨k0,k1,k2,k3⟩,k4,k5,k6,k7⟩,⟨f0,f1,f2,f3⟩,f4,f5,f6,f7⟩:=R1.box8;rw [hy] at GR GZ;unfold set8 set4 at hy;obtain ⟨⟨⟨d0,d1,d2,d3⟩,d4,d5,d6,d7⟩,_⟩:=GR.box8;have HNV:Hid (norV r c rf cf r' c' rf' cf'=arV r c' rf cf' r' c rf' cf):=by show _=_;unfold norV lo hi loF hiF;simp only [hr,hc,if_true,if_false]
   go_enter Tryz.func76,Tryz.ntmps76;go_wp2_with fail;exact bodyPost_ret (v:=arV r c' rf cf' r' c rf' cf) (by simp [results,Tryz.results76,go_sem,d0,d1,d2,d3,d4,d5,d6,d7]) rfl ⟨by rw [HNV.out],GZ⟩
  ·have ec:decide (c > c')=false:=by simp;omega
   obtain ⟨⟨⟨p0,p1,p2,p3⟩,p4,p5,p6,p7⟩,_⟩:=B3.box8;obtain ⟨⟨⟨o0,o1,o2,o3⟩,o4,o5,o6,o7⟩,_⟩:=B1.box8;obtain ⟨wy,hy⟩:∃ wy,set8 wc (w.heap.size+1) (.int .i64 r) (.int .i64 c) (.bool rf) (.bool cf) (.int .i64 r') (.int .i64 c') (.bool rf') (.bool cf')=wy:=⟨_,rfl⟩;have GR:=B2.put8 (.int .i64 r) (.int .i64 c) (.bool rf) (.bool cf) (.int .i64 r') (.int .i64 c') (.bool rf') (.bool cf');have GZ:=Ext.set8 (b:=w.heap.size+1) X (by omega) (.int .i64 r) (.int .i64 c) (.bool rf) (.bool cf) (.int .i64 r') (.int .i64 c') (.bool rf') (.bool cf');obtain ⟨⟨⟨k0,k1,k2,k3⟩,k4,k5,k6,k7⟩,⟨f0,f1,f2,f3⟩,f4,f5,f6,f7⟩:=B2.box8;rw [hy] at GR GZ;unfold set8 set4 at hy;obtain ⟨⟨⟨d0,d1,d2,d3⟩,d4,d5,d6,d7⟩,_⟩:=GR.box8;have HNV:Hid (norV r c rf cf r' c' rf' cf'=arV r c rf cf r' c' rf' cf'):=by show _=_;unfold norV lo hi loF hiF;simp only [hr,hc,if_false]
   go_enter Tryz.func76,Tryz.ntmps76;go_wp2_with fail;exact bodyPost_ret (v:=arV r c rf cf r' c' rf' cf') (by simp [results,Tryz.results76,go_sem,d0,d1,d2,d3,d4,d5,d6,d7]) rfl ⟨by rw [HNV.out],GZ⟩
abbrev spV (a b:Int):Value:=.agg #[.int .i64 a,.int .i64 b]
abbrev blV (a b c d:Int):Value:=.agg #[.int .i64 a,.int .i64 b,.int .i64 c,.int .i64 d]
set_option maxRecDepth 8000 in
set_option maxHeartbeats 1000000 in
theorem spanCommon (a b a' b':Int) (w:World) :
  Calls Tryz.prog 85 #[spV a b,spV a' b'] w fun e w'=>e=.returned (spV (hi a a') (lo b b'))∧Ext w w':=by
 by_cases ga:a<a'
 ·have ea:hi a a'=a':=by unfold hi;split <;> omega
  have fa:(a<a')=True:=eq_true ga;rw [ea];by_cases gb:b'<b
  ·have eb:lo b b'=b':=by unfold lo;split <;> omega
   have fb:(b'<b)=True:=eq_true gb;rw [eb];clear ga gb ea eb;go_enter Tryz.func85,Tryz.ntmps85
   go_wp2
   exact bodyPost_ret (v:=spV a' b') (by simp [results,Tryz.results85,go_sem] <;> (simp at fa fb;omega)) rfl ⟨rfl,xa (xa (x1 _ _) _) _⟩
  ·have eb:lo b b'=b:=by unfold lo;split <;> omega
   have fb:(b'<b)=False:=eq_false gb;rw [eb];clear ga gb ea eb;go_enter Tryz.func85,Tryz.ntmps85
   go_wp2
   exact bodyPost_ret (v:=spV a' b) (by simp [results,Tryz.results85,go_sem] <;> (simp at fa fb;omega)) rfl ⟨rfl,xa (xa (x1 _ _) _) _⟩
 ·have ea:hi a a'=a:=by unfold hi;split <;> omega
  have fa:(a<a')=False:=eq_false ga;rw [ea];by_cases gb:b'<b
  ·have eb:lo b b'=b':=by unfold lo;split <;> omega
   have fb:(b'<b)=True:=eq_true gb;rw [eb];clear ga gb ea eb;go_enter Tryz.func85,Tryz.ntmps85
   go_wp2
   exact bodyPost_ret (v:=spV a b') (by simp [results,Tryz.results85,go_sem] <;> (simp at fa fb;omega)) rfl ⟨rfl,xa (xa (x1 _ _) _) _⟩
  ·have eb:lo b b'=b:=by unfold lo;split <;> omega
   have fb:(b'<b)=False:=eq_false gb;rw [eb];clear ga gb ea eb;go_enter Tryz.func85,Tryz.ntmps85
   go_wp2
   exact bodyPost_ret (v:=spV a b) (by simp [results,Tryz.results85,go_sem] <;> (simp at fa fb;omega)) rfl ⟨rfl,xa (xa (x1 _ _) _) _⟩
set_option maxRecDepth 8000 in
set_option maxHeartbeats 1000000 in
theorem spanAround (a b a' b':Int) (w:World) :
  Calls Tryz.prog 86 #[spV a b,spV a' b'] w fun e w'=>e=.returned (spV (lo a a') (hi b b'))∧Ext w w':=by
 by_cases ga:a'<a
 ·have ea:lo a a'=a':=by unfold lo;split <;> omega
  have fa:(a'<a)=True:=eq_true ga;rw [ea];by_cases gb:b<b'
  ·have eb:hi b b'=b':=by unfold hi;split <;> omega
   have fb:(b<b')=True:=eq_true gb;rw [eb];clear ga gb ea eb;go_enter Tryz.func86,Tryz.ntmps86
   go_wp2
   exact bodyPost_ret (v:=spV a' b') (by simp [results,Tryz.results86,go_sem] <;> (simp at fa fb;omega)) rfl ⟨rfl,xa (xa (x1 _ _) _) _⟩
  ·have eb:hi b b'=b:=by unfold hi;split <;> omega
   have fb:(b<b')=False:=eq_false gb;rw [eb];clear ga gb ea eb;go_enter Tryz.func86,Tryz.ntmps86
   go_wp2
   exact bodyPost_ret (v:=spV a' b) (by simp [results,Tryz.results86,go_sem] <;> (simp at fa fb;omega)) rfl ⟨rfl,xa (xa (x1 _ _) _) _⟩
 ·have ea:lo a a'=a:=by unfold lo;split <;> omega
  have fa:(a'<a)=False:=eq_false ga;rw [ea];by_cases gb:b<b'
  ·have eb:hi b b'=b':=by unfold hi;split <;> omega
   have fb:(b<b')=True:=eq_true gb;rw [eb];clear ga gb ea eb;go_enter Tryz.func86,Tryz.ntmps86
   go_wp2
   exact bodyPost_ret (v:=spV a b') (by simp [results,Tryz.results86,go_sem] <;> (simp at fa fb;omega)) rfl ⟨rfl,xa (xa (x1 _ _) _) _⟩
  ·have eb:hi b b'=b:=by unfold hi;split <;> omega
   have fb:(b<b')=False:=eq_false gb;rw [eb];clear ga gb ea eb;go_enter Tryz.func86,Tryz.ntmps86
   go_wp2
   exact bodyPost_ret (v:=spV a b) (by simp [results,Tryz.results86,go_sem] <;> (simp at fa fb;omega)) rfl ⟨rfl,xa (xa (x1 _ _) _) _⟩
set_option maxRecDepth 8000 in
set_option maxHeartbeats 1000000 in
theorem blockArea (a b c d:Int) (w:World) :
  Calls Tryz.prog 80 #[blV a b c d] w fun e w'=>e=.returned (arV a c false false b d false false)∧Ext w w':=by
 go_enter Tryz.func80,Tryz.ntmps80
 go_wp2
 exact bodyPost_ret (v:=arV a c false false b d false false) (by simp [results,Tryz.results80,go_sem]) rfl ⟨rfl,xa (x1 _ _) _⟩
set_option maxRecDepth 8000 in
set_option maxHeartbeats 1000000 in
theorem blockOf (r c:Int) (rf cf:Bool) (r' c':Int) (rf' cf':Bool) (w:World) (hg:goodAB r c r' c'=true) :
  Calls Tryz.prog 78 #[arV r c rf cf r' c' rf' cf'] w fun e w'=>e=.returned (blV (lo r r') (hi r r') (lo c c') (hi c c'))∧Ext w w':=by
 have N:=fun w=>normalI_good r c rf cf r' c' rf' cf' w hg;have B2:=Vec.made4 (w.alloc (.cells #[.int .i64 r,.int .i64 c,.bool rf,.bool cf,.int .i64 r',.int .i64 c',.bool rf',.bool cf'] 45)) (.int .i64 0) (.int .i64 0) (.int .i64 0) (.int .i64 0) 108;have X:=xa (x1 w (.cells #[.int .i64 r,.int .i64 c,.bool rf,.bool cf,.int .i64 r',.int .i64 c',.bool rf',.bool cf'] 45)) (.cells #[.int .i64 0,.int .i64 0,.int .i64 0,.int .i64 0] 108);rw [World.size_alloc] at B2;obtain ⟨n1,h1⟩:∃ n,lo r r'=n:=⟨_,rfl⟩;obtain ⟨n2,h2⟩:∃ n,lo c c'=n:=⟨_,rfl⟩;obtain ⟨n3,h3⟩:∃ n,loF r r' rf rf'=n:=⟨_,rfl⟩;obtain ⟨n4,h4⟩:∃ n,loF c c' cf cf'=n:=⟨_,rfl⟩;obtain ⟨n5,h5⟩:∃ n,hi r r'=n:=⟨_,rfl⟩;obtain ⟨n6,h6⟩:∃ n,hi c c'=n:=⟨_,rfl⟩;obtain ⟨n7,h7⟩:∃ n,hiF r r' rf rf'=n:=⟨_,rfl⟩;obtain ⟨n8,h8⟩:∃ n,hiF c c' cf cf'=n:=⟨_,rfl⟩;simp only [norV,h1,h2,h3,h4,h5,h6,h7,h8] at N ⊢;clear h1 h2 h3 h4 h5 h6 h7 h8 hg;go_enter Tryz.func78,Tryz.ntmps78;go_wp2_with fail;refine (N _).mono ?_;rintro e w1 ⟨rfl,e1⟩;have C2:=B2.later e1;have Y:=xt X e1;clear B2 X e1 N;obtain ⟨w2,h2⟩:∃ w2,w1.alloc (.cells #[.int .i64 n1,.int .i64 n2,.bool n3,.bool n4,.int .i64 n5,.int .i64 n6,.bool n7,.bool n8] 45)=w2:=⟨_,rfl⟩;have P:=Vec.made8 w1 (.int .i64 n1) (.int .i64 n2) (.bool n3) (.bool n4) (.int .i64 n5) (.int .i64 n6) (.bool n7) (.bool n8) 45;have x2:=x1 w1 (.cells #[.int .i64 n1,.int .i64 n2,.bool n3,.bool n4,.int .i64 n5,.int .i64 n6,.bool n7,.bool n8] 45);rw [h2] at P x2;have D2:=C2.later x2;have Z:=Ext.set4 (b:=w.heap.size+1) (o:=0) (xt Y x2) (by omega) (.int .i64 n1) (.int .i64 n5) (.int .i64 n2) (.int .i64 n6);obtain ⟨⟨⟨a0,a1,a2,a3⟩,a4,a5,a6,a7⟩,_⟩:=P.box8;obtain ⟨⟨m0,m1,m2,m3⟩,f0,f1,f2,f3⟩:=D2.box4;clear P D2 C2 Y x2;go_wp2_with fail;exact bodyPost_ret (v:=blV n1 n5 n2 n6) (by simp [results,Tryz.results78,go_sem,m0,m1,m2,m3]) rfl ⟨rfl,Z⟩
set_option maxHeartbeats 400000 in
theorem maxS (a b:Int) (w:World) :
  Calls Tryz.prog 50 #[.int .i64 a,.int .i64 b] w fun e w'=>e=.returned (.int .i64 (hi a b))∧w'=w:=by
 go_enter Tryz.func50,Tryz.ntmps50
 go_wp2
 all_goals go_ret
 all_goals exact ⟨ret_int (by unfold hi;split <;> omega),rfl⟩
set_option maxHeartbeats 400000 in
theorem minS (a b:Int) (w:World) :
  Calls Tryz.prog 49 #[.int .i64 a,.int .i64 b] w fun e w'=>e=.returned (.int .i64 (lo a b))∧w'=w:=by
 go_enter Tryz.func49,Tryz.ntmps49
 go_wp2
 all_goals go_ret
 all_goals exact ⟨ret_int (by unfold lo;split <;> omega),rfl⟩
set_option maxRecDepth 8000 in
set_option maxHeartbeats 400000 in
theorem areaS (a b c d:Int) (w:World) :
  Calls Tryz.prog 77 #[.int .i64 a,.int .i64 b,.int .i64 c,.int .i64 d] w fun e w'=>e=.returned (arV a b false false c d false false)∧Ext w w':=by
 go_enter Tryz.func77,Tryz.ntmps77
 go_wp2
 exact bodyPost_ret (v:=arV a b false false c d false false) (by simp [results,Tryz.results77,go_sem]) rfl ⟨rfl,x1 _ _⟩
def hullB (r c r' c' s d s' d':Int):Value:=
 if goodAB r c r' c'=true∧goodAB s d s' d'=true then arV (lo (lo r r') (lo s s')) (lo (lo c c') (lo d d')) false false (hi (hi r r') (hi s s')) (hi (hi c c') (hi d d')) false false else arV 0 0 false false 0 0 false false
end Go.Proofs.YtnbagcclckekkaaGreatDoor

