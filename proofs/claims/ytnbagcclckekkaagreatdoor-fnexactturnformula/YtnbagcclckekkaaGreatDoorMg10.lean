import Derived.Test.YtnbagcclckekkaaGreatDoorMg9
import Derived.Deep.DeepCutAuto
import Derived.RegionTactic
import Derived.ChangeAlike
import Derived.Test.YtnbagcclckekkaaGreatDoorMg1
import Derived.Deep.RegionHeld3
import Derived.BigQuiet
import Derived.Deep.Strs
namespace Go.Proofs.YtnbagcclckekkaaGreatDoor
open Go.RowKit
def lo (a b:Int):Int:=if b<a then b else a
def hi (a b:Int):Int:=if b<a then a else b
def loF (a b:Int) (p q:Bool):Bool:=if b<a then q else p
def hiF (a b:Int) (p q:Bool):Bool:=if b<a then p else q
abbrev norV (r c:Int) (rf cf:Bool) (r' c':Int) (rf' cf':Bool):Value:=arV (lo r r') (lo c c') (loF r r' rf rf') (loF c c' cf cf') (hi r r') (hi c c') (hiF r r' rf rf') (hiF c c' cf cf')
theorem Vec.made4' (w:World) (o:Obj) (v0 v1 v2 v3:Value) (t:TypeId):Vec ((w.alloc o).alloc (.cells #[v0,v1,v2,v3] t)) (w.heap.size+1) [v0,v1,v2,v3]:=by
 have h:=Vec.made4 (w.alloc o) v0 v1 v2 v3 t
 rwa [World.size_alloc] at h
def swp (w:World) (b b' i:Nat) (x x' y y':Value):World:=(((w.setCell ⟨b,i,none⟩ x').setCell ⟨b',i,none⟩ x).setCell ⟨b,i+2,none⟩ y').setCell ⟨b',i+2,none⟩ y
theorem Ext.swp {a w:World} {b b' i:Nat} (h:Ext a w) (hb:a.heap.size≤b) (hb':a.heap.size≤b') (x x' y y':Value):Ext a (swp w b b' i x x' y y'):=xset (xset (xset (xset h hb x') hb' x) hb y') hb' y
set_option maxRecDepth 8000 in
set_option maxHeartbeats 2000000 in
theorem normalI_good (r c:Int) (rf cf:Bool) (r' c':Int) (rf' cf':Bool) (w:World) (hg:goodAB r c r' c'=true) :
  Calls Tryz.prog 87 #[arV r c rf cf r' c' rf' cf'] w fun e w'=>e=.returned (norV r c rf cf r' c' rf' cf')∧Ext w w':=by
 have G:=fun w=>goodAI r c rf cf r' c' rf' cf' w;rw [hg] at G;have B1:=Vec.made8 w (.int .i64 r) (.int .i64 c) (.bool rf) (.bool cf) (.int .i64 r') (.int .i64 c') (.bool rf') (.bool cf') 45;have X1:=x1 w (.cells #[.int .i64 r,.int .i64 c,.bool rf,.bool cf,.int .i64 r',.int .i64 c',.bool rf',.bool cf'] 45);obtain ⟨wa,ha⟩:∃ wa,w.alloc (.cells #[.int .i64 r,.int .i64 c,.bool rf,.bool cf,.int .i64 r',.int .i64 c',.bool rf',.bool cf'] 45)=wa:=⟨_,rfl⟩;have B2:=Vec.made8 wa (.int .i64 0) (.int .i64 0) (.bool false) (.bool false) (.int .i64 0) (.int .i64 0) (.bool false) (.bool false) 45;have X2:=x1 wa (.cells #[.int .i64 0,.int .i64 0,.bool false,.bool false,.int .i64 0,.int .i64 0,.bool false,.bool false] 45);obtain ⟨wb,hb⟩:∃ wb,wa.alloc (.cells #[.int .i64 0,.int .i64 0,.bool false,.bool false,.int .i64 0,.int .i64 0,.bool false,.bool false] 45)=wb:=⟨_,rfl⟩;have sa:wa.heap.size=w.heap.size+1:=by rw [← ha,World.size_alloc]
 rw [ha] at X1 B1;rw [hb] at X2 B2;rw [sa] at B2;have X:=xt X1 X2;have B1:=B1.later X2;obtain ⟨⟨⟨a0,a1,a2,a3⟩,a4,a5,a6,a7⟩,_⟩:=B1.box8;clear X1 X2;go_enter Tryz.func87,Tryz.ntmps87;go_wp2_with fail;clear ha hb sa a0 a1 a2 a3 a4 a5 a6 a7;refine (G _).mono ?_;rintro e w1 ⟨rfl,e1⟩;have C1:=B1.later e1;have C2:=B2.later e1;have Y:=xt X e1;clear B1 B2 X e1 G;obtain ⟨⟨⟨a0,a1,a2,a3⟩,a4,a5,a6,a7⟩,_⟩:=C1.box8;have lt1:w.heap.size+1<w1.heap.size:=World.block_lt_of_cell? _ _ (C2 0 _ rfl).1;go_upto_region 3 with fail;go_cut [3,4] (fun p q wc=>∃ b b':Nat,p=.pointer (some ⟨b,0,none⟩)∧q=.pointer (some ⟨b',0,none⟩)∧(b ≠ b'∧w.heap.size+1<b∧w.heap.size+1<b')∧Vec wc b [.int .i64 r,.int .i64 c,.bool rf,.bool cf]∧Vec wc b' [.int .i64 r',.int .i64 c',.bool rf',.bool cf']∧Vec wc (w.heap.size+1) [.int .i64 0,.int .i64 0,.bool false,.bool false,.int .i64 0,.int .i64 0,.bool false,.bool false]∧Ext w wc)
 case first =>
  have b0:∀ o,(w1.alloc o).cell? ⟨w.heap.size,0,none⟩=some (.int .i64 r):=fun o=>((C1.later (x1 w1 o)) 0 _ rfl).1;have d0:∀ o o',((w1.alloc o).alloc o').cell? ⟨w.heap.size,0,none⟩=some (.int .i64 r):=fun o o'=>((C1.later (xa (x1 w1 o) o')) 0 _ rfl).1;have b1:∀ o,(w1.alloc o).cell? ⟨w.heap.size,1,none⟩=some (.int .i64 c):=fun o=>((C1.later (x1 w1 o)) 1 _ rfl).1;have d1:∀ o o',((w1.alloc o).alloc o').cell? ⟨w.heap.size,1,none⟩=some (.int .i64 c):=fun o o'=>((C1.later (xa (x1 w1 o) o')) 1 _ rfl).1;have b2:∀ o,(w1.alloc o).cell? ⟨w.heap.size,2,none⟩=some (.bool rf):=fun o=>((C1.later (x1 w1 o)) 2 _ rfl).1;have d2:∀ o o',((w1.alloc o).alloc o').cell? ⟨w.heap.size,2,none⟩=some (.bool rf):=fun o o'=>((C1.later (xa (x1 w1 o) o')) 2 _ rfl).1;have b3:∀ o,(w1.alloc o).cell? ⟨w.heap.size,3,none⟩=some (.bool cf):=fun o=>((C1.later (x1 w1 o)) 3 _ rfl).1;have d3:∀ o o',((w1.alloc o).alloc o').cell? ⟨w.heap.size,3,none⟩=some (.bool cf):=fun o o'=>((C1.later (xa (x1 w1 o) o')) 3 _ rfl).1;have b4:∀ o,(w1.alloc o).cell? ⟨w.heap.size,4,none⟩=some (.int .i64 r'):=fun o=>((C1.later (x1 w1 o)) 4 _ rfl).1;have d4:∀ o o',((w1.alloc o).alloc o').cell? ⟨w.heap.size,4,none⟩=some (.int .i64 r'):=fun o o'=>((C1.later (xa (x1 w1 o) o')) 4 _ rfl).1;have b5:∀ o,(w1.alloc o).cell? ⟨w.heap.size,5,none⟩=some (.int .i64 c'):=fun o=>((C1.later (x1 w1 o)) 5 _ rfl).1;have d5:∀ o o',((w1.alloc o).alloc o').cell? ⟨w.heap.size,5,none⟩=some (.int .i64 c'):=fun o o'=>((C1.later (xa (x1 w1 o) o')) 5 _ rfl).1;have b6:∀ o,(w1.alloc o).cell? ⟨w.heap.size,6,none⟩=some (.bool rf'):=fun o=>((C1.later (x1 w1 o)) 6 _ rfl).1;have d6:∀ o o',((w1.alloc o).alloc o').cell? ⟨w.heap.size,6,none⟩=some (.bool rf'):=fun o o'=>((C1.later (xa (x1 w1 o) o')) 6 _ rfl).1;have b7:∀ o,(w1.alloc o).cell? ⟨w.heap.size,7,none⟩=some (.bool cf'):=fun o=>((C1.later (x1 w1 o)) 7 _ rfl).1;have d7:∀ o o',((w1.alloc o).alloc o').cell? ⟨w.heap.size,7,none⟩=some (.bool cf'):=fun o o'=>((C1.later (xa (x1 w1 o) o')) 7 _ rfl).1
  go_region
  all_goals go_wp2_with fail
  ·go_meet
   case rel=>exact ⟨_,_,rfl,rfl,⟨by omega,by omega,by omega⟩,((Vec.made4 w1 _ _ _ _ _).later (x1 _ _)).later (xd (xr _)),(Vec.made4' w1 _ _ _ _ _ _).later (xd (xr _)),C2.later (xd (xa (x1 _ _) _)),xt Y (xd (xa (x1 _ _) _))⟩
  ·go_meet
   case rel=>exact ⟨_,_,rfl,rfl,⟨by omega,by omega,by omega⟩,(Vec.made4' w1 _ _ _ _ _ _).later (xd (xr _)),((Vec.made4 w1 _ _ _ _ _).later (x1 _ _)).later (xd (xr _)),C2.later (xd (xa (x1 _ _) _)),xt Y (xd (xa (x1 _ _) _))⟩
 case rest =>
  obtain ⟨b,b',rfl,rfl,⟨hbb,hb1,hb2⟩,V,V',R,Z⟩:=hcut;clear a0 a1 a2 a3 a4 a5 a6 a7 C1 C2 Y lt1 B1;have hb3:(b=b')=False:=eq_false hbb;have hb4:(b'=b)=False:=eq_false (fun e=>hbb e.symm);have hb5:(b=w.heap.size+1)=False:=eq_false (by omega);have hb6:(b'=w.heap.size+1)=False:=eq_false (by omega);by_cases hr:r'<r
  ·have er:decide (r > r')=true:=by simp;omega
   by_cases hc:c'<c
   ·have ec:decide (c > c')=true:=(by simp;omega);have HNV:Hid (norV r c rf cf r' c' rf' cf'=arV r' c' rf' cf' r c rf cf):=(by show _=_;unfold norV lo hi loF hiF;simp only [hr,hc,if_true]);obtain ⟨⟨p0,p1,p2,p3⟩,q0,q1,q2,q3⟩:=V.box4;obtain ⟨⟨m0,m1,m2,m3⟩,n0,n1,n2,n3⟩:=V'.box4;obtain ⟨wx1,hwx1⟩:∃ wx,swp wc b b' 0 (.int .i64 r) (.int .i64 r') (.bool rf) (.bool rf')=wx:=⟨_,rfl⟩;have V1:=V.swp_b (b':=b') (i:=0) (fun e=>hbb e.symm) (by simp) (.int .i64 r) (.int .i64 r') (.bool rf) (.bool rf');have V1':=V'.swp_b' (b:=b) (i:=0) hbb (by simp) (.int .i64 r) (.int .i64 r') (.bool rf) (.bool rf');have R1:=R.swp_far (b:=b) (b':=b') (i:=0) (by omega) (by omega) (.int .i64 r) (.int .i64 r') (.bool rf) (.bool rf');have Z1:=Ext.swp (b:=b) (b':=b') (i:=0) Z (by omega) (by omega) (.int .i64 r) (.int .i64 r') (.bool rf) (.bool rf');rw [hwx1] at V1 V1' R1 Z1;simp only [List.set_cons_zero,List.set_cons_succ,Nat.zero_add] at V1 V1';unfold swp at hwx1;obtain ⟨⟨p01,p11,p21,p31⟩,q01,q11,q21,q31⟩:=V1.box4;obtain ⟨⟨m01,m11,m21,m31⟩,n01,n11,n21,n31⟩:=V1'.box4;obtain ⟨wx2,hwx2⟩:∃ wx,swp wx1 b b' 1 (.int .i64 c) (.int .i64 c') (.bool cf) (.bool cf')=wx:=⟨_,rfl⟩;have V2:=V1.swp_b (b':=b') (i:=1) (fun e=>hbb e.symm) (by simp) (.int .i64 c) (.int .i64 c') (.bool cf) (.bool cf');have V2':=V1'.swp_b' (b:=b) (i:=1) hbb (by simp) (.int .i64 c) (.int .i64 c') (.bool cf) (.bool cf');have R2:=R1.swp_far (b:=b) (b':=b') (i:=1) (by omega) (by omega) (.int .i64 c) (.int .i64 c') (.bool cf) (.bool cf');have Z2:=Ext.swp (b:=b) (b':=b') (i:=1) Z1 (by omega) (by omega) (.int .i64 c) (.int .i64 c') (.bool cf) (.bool cf');rw [hwx2] at V2 V2' R2 Z2;simp only [List.set_cons_zero,List.set_cons_succ,Nat.reduceAdd] at V2 V2';unfold swp at hwx2;obtain ⟨⟨p02,p12,p22,p32⟩,q02,q12,q22,q32⟩:=V2.box4;obtain ⟨⟨m02,m12,m22,m32⟩,n02,n12,n22,n32⟩:=V2'.box4;obtain ⟨wy,hy⟩:∃ wy,set8 wx2 (w.heap.size+1) (.int .i64 r') (.int .i64 c') (.bool rf') (.bool cf') (.int .i64 r) (.int .i64 c) (.bool rf) (.bool cf)=wy:=⟨_,rfl⟩;have GR:=R2.put8 (.int .i64 r') (.int .i64 c') (.bool rf') (.bool cf') (.int .i64 r) (.int .i64 c) (.bool rf) (.bool cf);have GZ:=Ext.set8 (b:=w.heap.size+1) Z2 (by omega) (.int .i64 r') (.int .i64 c') (.bool rf') (.bool cf') (.int .i64 r) (.int .i64 c) (.bool rf) (.bool cf);obtain ⟨⟨⟨k0,k1,k2,k3⟩,k4,k5,k6,k7⟩,⟨f0,f1,f2,f3⟩,f4,f5,f6,f7⟩:=R2.box8;rw [hy] at GR GZ;unfold set8 set4 at hy;obtain ⟨⟨⟨d0,d1,d2,d3⟩,d4,d5,d6,d7⟩,_⟩:=GR.box8;go_wp2_with fail;exact bodyPost_ret (v:=arV r' c' rf' cf' r c rf cf) (by simp [results,Tryz.results87,go_sem,d0,d1,d2,d3,d4,d5,d6,d7]) rfl ⟨by rw [HNV.out],GZ⟩
   ·have ec:decide (c > c')=false:=(by simp;omega);have HNV:Hid (norV r c rf cf r' c' rf' cf'=arV r' c rf' cf r c' rf cf'):=(by show _=_;unfold norV lo hi loF hiF;simp only [hr,hc,if_true,if_false]);obtain ⟨⟨p0,p1,p2,p3⟩,q0,q1,q2,q3⟩:=V.box4;obtain ⟨⟨m0,m1,m2,m3⟩,n0,n1,n2,n3⟩:=V'.box4;obtain ⟨wx1,hwx1⟩:∃ wx,swp wc b b' 0 (.int .i64 r) (.int .i64 r') (.bool rf) (.bool rf')=wx:=⟨_,rfl⟩;have V1:=V.swp_b (b':=b') (i:=0) (fun e=>hbb e.symm) (by simp) (.int .i64 r) (.int .i64 r') (.bool rf) (.bool rf');have V1':=V'.swp_b' (b:=b) (i:=0) hbb (by simp) (.int .i64 r) (.int .i64 r') (.bool rf) (.bool rf');have R1:=R.swp_far (b:=b) (b':=b') (i:=0) (by omega) (by omega) (.int .i64 r) (.int .i64 r') (.bool rf) (.bool rf');have Z1:=Ext.swp (b:=b) (b':=b') (i:=0) Z (by omega) (by omega) (.int .i64 r) (.int .i64 r') (.bool rf) (.bool rf');rw [hwx1] at V1 V1' R1 Z1;simp only [List.set_cons_zero,List.set_cons_succ,Nat.zero_add] at V1 V1';unfold swp at hwx1;obtain ⟨⟨p01,p11,p21,p31⟩,q01,q11,q21,q31⟩:=V1.box4;obtain ⟨⟨m01,m11,m21,m31⟩,n01,n11,n21,n31⟩:=V1'.box4;obtain ⟨wy,hy⟩:∃ wy,set8 wx1 (w.heap.size+1) (.int .i64 r') (.int .i64 c) (.bool rf') (.bool cf) (.int .i64 r) (.int .i64 c') (.bool rf) (.bool cf')=wy:=⟨_,rfl⟩;have GR:=R1.put8 (.int .i64 r') (.int .i64 c) (.bool rf') (.bool cf) (.int .i64 r) (.int .i64 c') (.bool rf) (.bool cf');have GZ:=Ext.set8 (b:=w.heap.size+1) Z1 (by omega) (.int .i64 r') (.int .i64 c) (.bool rf') (.bool cf) (.int .i64 r) (.int .i64 c') (.bool rf) (.bool cf');obtain ⟨⟨⟨k0,k1,k2,k3⟩,k4,k5,k6,k7⟩,⟨f0,f1,f2,f3⟩,f4,f5,f6,f7⟩:=R1.box8;rw [hy] at GR GZ;unfold set8 set4 at hy;obtain ⟨⟨⟨d0,d1,d2,d3⟩,d4,d5,d6,d7⟩,_⟩:=GR.box8;go_wp2_with fail;exact bodyPost_ret (v:=arV r' c rf' cf r c' rf cf') (by simp [results,Tryz.results87,go_sem,d0,d1,d2,d3,d4,d5,d6,d7]) rfl ⟨by rw [HNV.out],GZ⟩
  ·have er:decide (r > r')=false:=by simp;omega
   by_cases hc:c'<c
   ·have ec:decide (c > c')=true:=(by simp;omega);have HNV:Hid (norV r c rf cf r' c' rf' cf'=arV r c' rf cf' r' c rf' cf):=(by show _=_;unfold norV lo hi loF hiF;simp only [hr,hc,if_true,if_false]);obtain ⟨⟨p0,p1,p2,p3⟩,q0,q1,q2,q3⟩:=V.box4;obtain ⟨⟨m0,m1,m2,m3⟩,n0,n1,n2,n3⟩:=V'.box4;obtain ⟨wx1,hwx1⟩:∃ wx,swp wc b b' 1 (.int .i64 c) (.int .i64 c') (.bool cf) (.bool cf')=wx:=⟨_,rfl⟩;have V1:=V.swp_b (b':=b') (i:=1) (fun e=>hbb e.symm) (by simp) (.int .i64 c) (.int .i64 c') (.bool cf) (.bool cf');have V1':=V'.swp_b' (b:=b) (i:=1) hbb (by simp) (.int .i64 c) (.int .i64 c') (.bool cf) (.bool cf');have R1:=R.swp_far (b:=b) (b':=b') (i:=1) (by omega) (by omega) (.int .i64 c) (.int .i64 c') (.bool cf) (.bool cf');have Z1:=Ext.swp (b:=b) (b':=b') (i:=1) Z (by omega) (by omega) (.int .i64 c) (.int .i64 c') (.bool cf) (.bool cf');rw [hwx1] at V1 V1' R1 Z1;simp only [List.set_cons_zero,List.set_cons_succ,Nat.reduceAdd] at V1 V1';unfold swp at hwx1;obtain ⟨⟨p01,p11,p21,p31⟩,q01,q11,q21,q31⟩:=V1.box4;obtain ⟨⟨m01,m11,m21,m31⟩,n01,n11,n21,n31⟩:=V1'.box4;obtain ⟨wy,hy⟩:∃ wy,set8 wx1 (w.heap.size+1) (.int .i64 r) (.int .i64 c') (.bool rf) (.bool cf') (.int .i64 r') (.int .i64 c) (.bool rf') (.bool cf)=wy:=⟨_,rfl⟩;have GR:=R1.put8 (.int .i64 r) (.int .i64 c') (.bool rf) (.bool cf') (.int .i64 r') (.int .i64 c) (.bool rf') (.bool cf);have GZ:=Ext.set8 (b:=w.heap.size+1) Z1 (by omega) (.int .i64 r) (.int .i64 c') (.bool rf) (.bool cf') (.int .i64 r') (.int .i64 c) (.bool rf') (.bool cf);obtain ⟨⟨⟨k0,k1,k2,k3⟩,k4,k5,k6,k7⟩,⟨f0,f1,f2,f3⟩,f4,f5,f6,f7⟩:=R1.box8;rw [hy] at GR GZ;unfold set8 set4 at hy;obtain ⟨⟨⟨d0,d1,d2,d3⟩,d4,d5,d6,d7⟩,_⟩:=GR.box8;go_wp2_with fail;exact bodyPost_ret (v:=arV r c' rf cf' r' c rf' cf) (by simp [results,Tryz.results87,go_sem,d0,d1,d2,d3,d4,d5,d6,d7]) rfl ⟨by rw [HNV.out],GZ⟩
   ·have ec:decide (c > c')=false:=(by simp;omega);have HNV:Hid (norV r c rf cf r' c' rf' cf'=arV r c rf cf r' c' rf' cf'):=(by show _=_;unfold norV lo hi loF hiF;simp only [hr,hc,if_false]);obtain ⟨⟨p0,p1,p2,p3⟩,q0,q1,q2,q3⟩:=V.box4;obtain ⟨⟨m0,m1,m2,m3⟩,n0,n1,n2,n3⟩:=V'.box4;obtain ⟨wy,hy⟩:∃ wy,set8 wc (w.heap.size+1) (.int .i64 r) (.int .i64 c) (.bool rf) (.bool cf) (.int .i64 r') (.int .i64 c') (.bool rf') (.bool cf')=wy:=⟨_,rfl⟩;have GR:=R.put8 (.int .i64 r) (.int .i64 c) (.bool rf) (.bool cf) (.int .i64 r') (.int .i64 c') (.bool rf') (.bool cf');have GZ:=Ext.set8 (b:=w.heap.size+1) Z (by omega) (.int .i64 r) (.int .i64 c) (.bool rf) (.bool cf) (.int .i64 r') (.int .i64 c') (.bool rf') (.bool cf');obtain ⟨⟨⟨k0,k1,k2,k3⟩,k4,k5,k6,k7⟩,⟨f0,f1,f2,f3⟩,f4,f5,f6,f7⟩:=R.box8;rw [hy] at GR GZ;unfold set8 set4 at hy;obtain ⟨⟨⟨d0,d1,d2,d3⟩,d4,d5,d6,d7⟩,_⟩:=GR.box8;go_wp2_with fail;exact bodyPost_ret (v:=arV r c rf cf r' c' rf' cf') (by simp [results,Tryz.results87,go_sem,d0,d1,d2,d3,d4,d5,d6,d7]) rfl ⟨by rw [HNV.out],GZ⟩
abbrev spV (a b:Int):Value:=.agg #[.int .i64 a,.int .i64 b]
abbrev blV (a b c d:Int):Value:=.agg #[.int .i64 a,.int .i64 b,.int .i64 c,.int .i64 d]
set_option maxRecDepth 8000 in
set_option maxHeartbeats 1000000 in
theorem spanCommon (a b a' b':Int) (w:World) :
  Calls Tryz.prog 85 #[spV a b,spV a' b'] w fun e w'=>e=.returned (spV (hi a a') (lo b b'))∧Ext w w':=by
 by_cases ga:a<a'
 ·have ea:hi a a'=a':=by unfold hi;split <;> omega
  have fa:(a<a')=True:=eq_true ga;rw [ea];by_cases gb:b'<b
  ·have eb:lo b b'=b':=by unfold lo;split <;> omega
   have fb:(b'<b)=True:=eq_true gb;rw [eb];clear ga gb ea eb;go_enter Tryz.func85,Tryz.ntmps85
   go_wp2
   exact bodyPost_ret (v:=spV a' b') (by simp [results,Tryz.results85,go_sem]) rfl ⟨rfl,xa (xa (x1 _ _) _) _⟩
  ·have eb:lo b b'=b:=by unfold lo;split <;> omega
   have fb:(b'<b)=False:=eq_false gb;rw [eb];clear ga gb ea eb;go_enter Tryz.func85,Tryz.ntmps85
   go_wp2
   exact bodyPost_ret (v:=spV a' b) (by simp [results,Tryz.results85,go_sem]) rfl ⟨rfl,xa (xa (x1 _ _) _) _⟩
 ·have ea:hi a a'=a:=by unfold hi;split <;> omega
  have fa:(a<a')=False:=eq_false ga;rw [ea];by_cases gb:b'<b
  ·have eb:lo b b'=b':=by unfold lo;split <;> omega
   have fb:(b'<b)=True:=eq_true gb;rw [eb];clear ga gb ea eb;go_enter Tryz.func85,Tryz.ntmps85
   go_wp2
   exact bodyPost_ret (v:=spV a b') (by simp [results,Tryz.results85,go_sem]) rfl ⟨rfl,xa (xa (x1 _ _) _) _⟩
  ·have eb:lo b b'=b:=by unfold lo;split <;> omega
   have fb:(b'<b)=False:=eq_false gb;rw [eb];clear ga gb ea eb;go_enter Tryz.func85,Tryz.ntmps85
   go_wp2
   exact bodyPost_ret (v:=spV a b) (by simp [results,Tryz.results85,go_sem]) rfl ⟨rfl,xa (xa (x1 _ _) _) _⟩
set_option maxRecDepth 8000 in
set_option maxHeartbeats 1000000 in
theorem spanAround (a b a' b':Int) (w:World) :
  Calls Tryz.prog 86 #[spV a b,spV a' b'] w fun e w'=>e=.returned (spV (lo a a') (hi b b'))∧Ext w w':=by
 by_cases ga:a'<a
 ·have ea:lo a a'=a':=by unfold lo;split <;> omega
  have fa:(a'<a)=True:=eq_true ga;rw [ea];by_cases gb:b<b'
  ·have eb:hi b b'=b':=by unfold hi;split <;> omega
   have fb:(b<b')=True:=eq_true gb;rw [eb];clear ga gb ea eb;go_enter Tryz.func86,Tryz.ntmps86
   go_wp2
   exact bodyPost_ret (v:=spV a' b') (by simp [results,Tryz.results86,go_sem]) rfl ⟨rfl,xa (xa (x1 _ _) _) _⟩
  ·have eb:hi b b'=b:=by unfold hi;split <;> omega
   have fb:(b<b')=False:=eq_false gb;rw [eb];clear ga gb ea eb;go_enter Tryz.func86,Tryz.ntmps86
   go_wp2
   exact bodyPost_ret (v:=spV a' b) (by simp [results,Tryz.results86,go_sem]) rfl ⟨rfl,xa (xa (x1 _ _) _) _⟩
 ·have ea:lo a a'=a:=by unfold lo;split <;> omega
  have fa:(a'<a)=False:=eq_false ga;rw [ea];by_cases gb:b<b'
  ·have eb:hi b b'=b':=by unfold hi;split <;> omega
   have fb:(b<b')=True:=eq_true gb;rw [eb];clear ga gb ea eb;go_enter Tryz.func86,Tryz.ntmps86
   go_wp2
   exact bodyPost_ret (v:=spV a b') (by simp [results,Tryz.results86,go_sem]) rfl ⟨rfl,xa (xa (x1 _ _) _) _⟩
  ·have eb:hi b b'=b:=by unfold hi;split <;> omega
   have fb:(b<b')=False:=eq_false gb;rw [eb];clear ga gb ea eb;go_enter Tryz.func86,Tryz.ntmps86
   go_wp2
   exact bodyPost_ret (v:=spV a b) (by simp [results,Tryz.results86,go_sem]) rfl ⟨rfl,xa (xa (x1 _ _) _) _⟩
set_option maxHeartbeats 1000000 in
theorem spanEmpty (a b:Int) (w:World) :
  Calls Tryz.prog 73 #[spV a b] w fun e w'=>e=.returned (.bool (decide (a > b)))∧Ext w w':=by
 go_enter Tryz.func73,Tryz.ntmps73
 go_wp2
 all_goals go_ret
 all_goals exact ⟨rfl,x1 _ _⟩
set_option maxRecDepth 8000 in
set_option maxHeartbeats 1000000 in
theorem blockOf (r c:Int) (rf cf:Bool) (r' c':Int) (rf' cf':Bool) (w:World) (hg:goodAB r c r' c'=true) :
  Calls Tryz.prog 78 #[arV r c rf cf r' c' rf' cf'] w fun e w'=>e=.returned (blV (lo r r') (hi r r') (lo c c') (hi c c'))∧Ext w w':=by
 have N:=fun w=>normalI_good r c rf cf r' c' rf' cf' w hg;have B2:=Vec.made4 (w.alloc (.cells #[.int .i64 r,.int .i64 c,.bool rf,.bool cf,.int .i64 r',.int .i64 c',.bool rf',.bool cf'] 45)) (.int .i64 0) (.int .i64 0) (.int .i64 0) (.int .i64 0) 108;have X:=xa (x1 w (.cells #[.int .i64 r,.int .i64 c,.bool rf,.bool cf,.int .i64 r',.int .i64 c',.bool rf',.bool cf'] 45)) (.cells #[.int .i64 0,.int .i64 0,.int .i64 0,.int .i64 0] 108);rw [World.size_alloc] at B2;obtain ⟨n1,h1⟩:∃ n,lo r r'=n:=⟨_,rfl⟩;obtain ⟨n2,h2⟩:∃ n,lo c c'=n:=⟨_,rfl⟩;obtain ⟨n3,h3⟩:∃ n,loF r r' rf rf'=n:=⟨_,rfl⟩;obtain ⟨n4,h4⟩:∃ n,loF c c' cf cf'=n:=⟨_,rfl⟩;obtain ⟨n5,h5⟩:∃ n,hi r r'=n:=⟨_,rfl⟩;obtain ⟨n6,h6⟩:∃ n,hi c c'=n:=⟨_,rfl⟩;obtain ⟨n7,h7⟩:∃ n,hiF r r' rf rf'=n:=⟨_,rfl⟩;obtain ⟨n8,h8⟩:∃ n,hiF c c' cf cf'=n:=⟨_,rfl⟩;simp only [norV,h1,h2,h3,h4,h5,h6,h7,h8] at N ⊢;clear h1 h2 h3 h4 h5 h6 h7 h8 hg;go_enter Tryz.func78,Tryz.ntmps78;go_wp2_with fail;refine (N _).mono ?_;rintro e w1 ⟨rfl,e1⟩;have C2:=B2.later e1;have Y:=xt X e1;clear B2 X e1 N;obtain ⟨w2,h2⟩:∃ w2,w1.alloc (.cells #[.int .i64 n1,.int .i64 n2,.bool n3,.bool n4,.int .i64 n5,.int .i64 n6,.bool n7,.bool n8] 45)=w2:=⟨_,rfl⟩;have P:=Vec.made8 w1 (.int .i64 n1) (.int .i64 n2) (.bool n3) (.bool n4) (.int .i64 n5) (.int .i64 n6) (.bool n7) (.bool n8) 45;have x2:=x1 w1 (.cells #[.int .i64 n1,.int .i64 n2,.bool n3,.bool n4,.int .i64 n5,.int .i64 n6,.bool n7,.bool n8] 45);rw [h2] at P x2;have D2:=C2.later x2;have Z:=Ext.set4 (b:=w.heap.size+1) (o:=0) (xt Y x2) (by omega) (.int .i64 n1) (.int .i64 n5) (.int .i64 n2) (.int .i64 n6);obtain ⟨⟨⟨a0,a1,a2,a3⟩,a4,a5,a6,a7⟩,_⟩:=P.box8;obtain ⟨⟨m0,m1,m2,m3⟩,f0,f1,f2,f3⟩:=D2.box4;clear P D2 C2 Y x2;go_wp2_with fail;exact bodyPost_ret (v:=blV n1 n5 n2 n6) (by simp [results,Tryz.results78,go_sem,m0,m1,m2,m3]) rfl ⟨rfl,Z⟩
set_option maxHeartbeats 400000 in
theorem maxS (a b:Int) (w:World) :
  Calls Tryz.prog 50 #[.int .i64 a,.int .i64 b] w fun e w'=>e=.returned (.int .i64 (hi a b))∧w'=w:=by
 go_enter Tryz.func50,Tryz.ntmps50
 go_wp2
 all_goals go_ret
 all_goals exact ⟨ret_int (by unfold hi;split <;> omega),rfl⟩
set_option maxHeartbeats 400000 in
theorem minS (a b:Int) (w:World) :
  Calls Tryz.prog 49 #[.int .i64 a,.int .i64 b] w fun e w'=>e=.returned (.int .i64 (lo a b))∧w'=w:=by
 go_enter Tryz.func49,Tryz.ntmps49
 go_wp2
 all_goals go_ret
 all_goals exact ⟨ret_int (by unfold lo;split <;> omega),rfl⟩
abbrev tuV (k a m:Int) (d:Bool):Value:=.agg #[.int .i64 k,.int .i64 a,.int .i64 m,.bool d]
def limT (k:Int):Int:=if k=1 then 1000 else 200
def gTurnB (k a m:Int) (d:Bool):Bool:=decide ((k=1∨k=2)∧(1≤m∧m≤100)∧(1≤a∧a≤limT k)∧(d=true→a+m - 1≤limT k))
set_option maxHeartbeats 400000 in
theorem lastI (k:Int) (w:World) :
  Calls Tryz.prog 53 #[.int .i64 k] w fun e w'=>e=.returned (.int .i64 (if k=1 then 1000 else if k=2 then 200 else 0))∧w'=w:=by
 go_enter Tryz.func53,Tryz.ntmps53
 go_wp2
 all_goals go_ret
 all_goals refine ⟨ret_int ?_,rfl⟩
 all_goals simp_all
set_option maxHeartbeats 400000 in
theorem limitS (k:Int) (w:World) :
  Calls Tryz.prog 44 #[.int .i64 k] w fun e w'=>e=.returned (.int .i64 (limT k))∧w'=w:=by
 go_enter Tryz.func44,Tryz.ntmps44
 go_wp2
 all_goals go_ret
 all_goals refine ⟨ret_int ?_,rfl⟩
 all_goals simp_all [limT]
theorem xdNt {a b:World} (h:Ext a b) (n:Nat):Ext a (b.drewN n):=⟨h.os,h.tape,h.output,h.size,h.block⟩
theorem limT_is (k:Int):∃ x,limT k=x∧((k=1∧x=1000)∨(k ≠ 1∧x=200)):=by
 unfold limT;by_cases h:k=1
 ·exact ⟨1000,by simp [h],.inl ⟨h,rfl⟩⟩
 ·exact ⟨200,by simp [h],.inr ⟨h,rfl⟩⟩
set_option maxRecDepth 8000 in
set_option maxHeartbeats 2000000 in
theorem goodTI (k a m:Int) (d:Bool) (w:World) :
  Calls Tryz.prog 26 #[tuV k a m d] w fun e w'=>e=.returned (.bool (gTurnB k a m d))∧Ext w w':=by
 have L:=fun w=>lastI k w;obtain ⟨l,hl⟩:∃ l,(if k=1 then (1000:Int) else if k=2 then 200 else 0)=l:=⟨_,rfl⟩;have hl0:(k=1∧l=1000)∨(k=2∧l=200)∨(k ≠ 1∧k ≠ 2∧l=0):=by rw [← hl];split;omega;split <;> omega
 rw [hl] at L;clear hl;obtain ⟨lt,hlt,hlt0⟩:=limT_is k;unfold gTurnB;rw [hlt];clear hlt;cases d
 all_goals go_enter Tryz.func26,Tryz.ntmps26
 all_goals go_wp2_with fail
 all_goals refine (L _).mono ?_
 all_goals rintro e w1 ⟨rfl,rfl⟩
 all_goals go_wp2_with fail
 all_goals go_ret
 all_goals refine ⟨ret_bool ?_,x1 _ _⟩
 all_goals clear L
 all_goals rw [Bool.eq_iff_iff]
 all_goals first | (simp only [decide_eq_true_eq,Bool.false_eq_true,true_imp_iff,false_iff];omega) | (simp;omega)
set_option maxRecDepth 8000 in
set_option maxHeartbeats 4000000 in
theorem gTurnS (k a m:Int) (d:Bool) (w:World) :
  Calls Tryz.prog 20 #[tuV k a m d] w fun e w'=>e=.returned (.bool (gTurnB k a m d))∧Ext w w':=by
 obtain ⟨lt,hlt,hlt0⟩:=limT_is k;unfold gTurnB;rw [hlt];have L:∀ w,Calls Tryz.prog 44 #[.int .i64 k] w fun e w'=>e=.returned (.int .i64 lt)∧w'=w:=fun w=>by rw [← hlt];exact limitS k w
 clear hlt;have B:=Box4.made w (.int .i64 k) (.int .i64 a) (.int .i64 m) (.bool d) 28;obtain ⟨⟨q0,q1,q2,q3⟩,_⟩:=B;have X:=x1 w (.cells #[.int .i64 k,.int .i64 a,.int .i64 m,.bool d] 28);go_enter Tryz.func20,Tryz.ntmps20;go_upto_region 1 with fail;obtain ⟨w0,hw0⟩:∃ u,w.alloc (.cells #[.int .i64 k,.int .i64 a,.int .i64 m,.bool d] 28)=u:=⟨_,rfl⟩;rw [hw0] at X q0 q1 q2 q3 ⊢;clear hw0;go_cut [33] (fun v wc=>v=.bool (decide (¬ ((k=1∨k=2)∧(1≤m∧m≤100)∧(1≤a∧a≤lt))))∧Ext w0 wc)
 case first =>
  by_cases h1:k=1
  ·subst h1;by_cases h3:m<1
   ·(go_quiet ((go_at_call 44;refine Calls.quiet_of_same (L _)));go_wp2;go_meet;case rel=>(refine ⟨congrArg Value.bool ?_,xdNt (xr _) _⟩;rw [Bool.eq_iff_iff];first | (simp only [decide_eq_true_eq];omega) | (simp;omega) | (simp only [decide_eq_true_eq,true_iff];omega)))
   have f3:decide (m<1)=false:=decide_eq_false h3;by_cases h4:100<m
   ·(go_quiet ((go_at_call 44;refine Calls.quiet_of_same (L _)));go_wp2;go_meet;case rel=>(refine ⟨congrArg Value.bool ?_,xdNt (xr _) _⟩;rw [Bool.eq_iff_iff];first | (simp only [decide_eq_true_eq];omega) | (simp;omega) | (simp only [decide_eq_true_eq,true_iff];omega)))
   have f4:decide (100<m)=false:=decide_eq_false h4;by_cases h5:a<1
   ·(go_quiet ((go_at_call 44;refine Calls.quiet_of_same (L _)));go_wp2;go_meet;case rel=>(refine ⟨congrArg Value.bool ?_,xdNt (xr _) _⟩;rw [Bool.eq_iff_iff];first | (simp only [decide_eq_true_eq];omega) | (simp;omega) | (simp only [decide_eq_true_eq,true_iff];omega)))
   have f5:decide (a<1)=false:=decide_eq_false h5
   (go_quiet ((go_at_call 44;refine Calls.quiet_of_same (L _)));go_wp2;go_meet;case rel=>(refine ⟨congrArg Value.bool ?_,xdNt (xr _) _⟩;rw [Bool.eq_iff_iff];first | (simp only [decide_eq_true_eq];omega) | (simp;omega) | (simp only [decide_eq_true_eq,true_iff];omega)))
  by_cases h2:k=2
  ·subst h2;by_cases h3:m<1
   ·(go_quiet ((go_at_call 44;refine Calls.quiet_of_same (L _)));go_wp2;go_meet;case rel=>(refine ⟨congrArg Value.bool ?_,xdNt (xr _) _⟩;rw [Bool.eq_iff_iff];first | (simp only [decide_eq_true_eq];omega) | (simp;omega) | (simp only [decide_eq_true_eq,true_iff];omega)))
   have f3:decide (m<1)=false:=decide_eq_false h3;by_cases h4:100<m
   ·(go_quiet ((go_at_call 44;refine Calls.quiet_of_same (L _)));go_wp2;go_meet;case rel=>(refine ⟨congrArg Value.bool ?_,xdNt (xr _) _⟩;rw [Bool.eq_iff_iff];first | (simp only [decide_eq_true_eq];omega) | (simp;omega) | (simp only [decide_eq_true_eq,true_iff];omega)))
   have f4:decide (100<m)=false:=decide_eq_false h4;by_cases h5:a<1
   ·(go_quiet ((go_at_call 44;refine Calls.quiet_of_same (L _)));go_wp2;go_meet;case rel=>(refine ⟨congrArg Value.bool ?_,xdNt (xr _) _⟩;rw [Bool.eq_iff_iff];first | (simp only [decide_eq_true_eq];omega) | (simp;omega) | (simp only [decide_eq_true_eq,true_iff];omega)))
   have f5:decide (a<1)=false:=decide_eq_false h5
   (go_quiet ((go_at_call 44;refine Calls.quiet_of_same (L _)));go_wp2;go_meet;case rel=>(refine ⟨congrArg Value.bool ?_,xdNt (xr _) _⟩;rw [Bool.eq_iff_iff];first | (simp only [decide_eq_true_eq];omega) | (simp;omega) | (simp only [decide_eq_true_eq,true_iff];omega)))
  have f1:decide (k=1)=false:=decide_eq_false h1;have f2:decide (k=2)=false:=decide_eq_false h2;have f1':(k == 1)=false:=beq_eq_false_iff_ne.2 h1;have f2':(k == 2)=false:=beq_eq_false_iff_ne.2 h2
  (go_quiet ((go_at_call 44;refine Calls.quiet_of_same (L _)));go_wp2;go_meet;case rel=>(refine ⟨congrArg Value.bool ?_,xdNt (xr _) _⟩;rw [Bool.eq_iff_iff];first | (simp only [decide_eq_true_eq];omega) | (simp;omega) | (simp only [decide_eq_true_eq,true_iff];omega)))
 case rest =>
  obtain ⟨rfl,E1⟩:=hcut
  rename World=>w2
  have Y:=xt X E1;replace q0:=cell_later E1 q0;replace q1:=cell_later E1 q1;replace q2:=cell_later E1 q2;replace q3:=cell_later E1 q3;by_cases hb:(k=1∨k=2)∧(1≤m∧m≤100)∧(1≤a∧a≤lt)
  ·have hb':decide (¬ ((k=1∨k=2)∧(1≤m∧m≤100)∧(1≤a∧a≤lt)))=false:=decide_eq_false (fun h=>h hb);simp only [hb'];have e1:IntKind.i64.wrap (a+m)=a+m:=by rw [IntKind.wrap_i64];omega
   have e2:IntKind.i64.wrap (a+m - 1)=a+m - 1:=by rw [IntKind.wrap_i64];omega
   go_upto_region 3 with fail;cases d
   all_goals go_quiet ((go_at_call 44;refine Calls.quiet_of_same (L _)))
   all_goals go_wp2
   all_goals go_ret
   all_goals refine ⟨ret_bool ?_,xdNt Y _⟩
   all_goals simp [hb]
  ·have hb':decide (¬ ((k=1∨k=2)∧(1≤m∧m≤100)∧(1≤a∧a≤lt)))=true:=decide_eq_true hb;simp only [hb']
   go_wp2
   go_ret;refine ⟨ret_bool ?_,Y⟩;symm;rw [decide_eq_false_iff_not];exact fun h=>hb ⟨h.1,h.2.1,h.2.2.1⟩
end Go.Proofs.YtnbagcclckekkaaGreatDoor

namespace Go.Proofs.YtnbagcclckekkaaGreatDoor
open Go.ChangeShapes Go.WideShapes Go.ChangeAt Go.RowKit
set_option maxRecDepth 100000 in
theorem open_turn {H:Type} {enc:TypeId × Value→H} {W:World} {base:Nat} {v:Value} {d:DataW H} {p:List MemPlace}
  (hv:Value.okWide Tryz.prog W .any base 23 v) (h:DataW.Trod enc Tryz.prog W 0 (fun _=>true) true 23 v d p) :
  ∃ (k a m:Int) (x:Bool),v=tuV k a m x∧(Lit.int .i64 k).wf=true∧(Lit.int .i64 a).wf=true∧(Lit.int .i64 m).wf=true:=by
 obtain ⟨cs,rfl,hsz⟩:=okWide_struct Tryz.underlying23 hv;obtain ⟨c0,c1,c2,c3,rfl⟩:=Joins.array4 (hsz.trans (show Tryz.prog.cellsOf 23=4 by kernel_rfl));obtain ⟨fuel,hf⟩:=h;obtain ⟨y0,y1,y2,y3,n,_,_,h0,h1,h2,h3⟩:=Joins.trod_struct4 Tryz.underlying23 hf;obtain ⟨a0,e0,_,w0⟩:=DataW.trod_int Tryz.underlying3 h0;obtain ⟨a1,e1,_,w1⟩:=DataW.trod_int Tryz.underlying3 h1;obtain ⟨a2,e2,_,w2⟩:=DataW.trod_int Tryz.underlying3 h2;obtain ⟨b3,e3,_⟩:=DataW.trod_bool Tryz.underlying4 h3;have k3:Tryz.prog.cellsOf 3=1:=by kernel_rfl
 have k4:Tryz.prog.cellsOf 4=1:=by kernel_rfl
 simp [k3,k4,Value.cells] at e0 e1 e2 e3;subst e0 e1 e2 e3;exact ⟨a0,a1,a2,b3,rfl,w0,w1,w2⟩
end Go.Proofs.YtnbagcclckekkaaGreatDoor

