/-
  Several texts in one: HulS, Tg, Tn, FrameW, Mv, Tp, Ts, Tu, Mw, Mx.
-/
import Derived.Test.YtnbagcclckekkaaGreatDoorMg11
import Derived.Deep.DeepCutAuto
import Derived.Test.YtnbagcclckekkaaGreatDoorMg1
import Derived.Deep.RegionHeld3
import Derived.BigQuiet
import Derived.Deep.Strs
namespace Go.Proofs.YtnbagcclckekkaaGreatDoor
open Go.RowKit
set_option maxRecDepth 8000 in
set_option maxHeartbeats 4000000 in
theorem hullS (r c:Int) (f g:Bool) (r' c':Int) (f' g':Bool) (s d:Int) (h k:Bool) (s' d':Int) (h' k':Bool) (w:World) :
  Calls Tryz.prog 63 #[arV r c f g r' c' f' g',arV s d h k s' d' h' k'] w fun e w'=>e=.returned (hullB r c r' c' s d s' d')∧Ext w w':=by
 have B1:=Vec.made8 w (.int .i64 r) (.int .i64 c) (.bool f) (.bool g) (.int .i64 r') (.int .i64 c') (.bool f') (.bool g') 45;have X1:=x1 w (.cells #[.int .i64 r,.int .i64 c,.bool f,.bool g,.int .i64 r',.int .i64 c',.bool f',.bool g'] 45);obtain ⟨wa,ha⟩:∃ wa,w.alloc (.cells #[.int .i64 r,.int .i64 c,.bool f,.bool g,.int .i64 r',.int .i64 c',.bool f',.bool g'] 45)=wa:=⟨_,rfl⟩;have B2:=Vec.made8 wa (.int .i64 s) (.int .i64 d) (.bool h) (.bool k) (.int .i64 s') (.int .i64 d') (.bool h') (.bool k') 45;have X2:=x1 wa (.cells #[.int .i64 s,.int .i64 d,.bool h,.bool k,.int .i64 s',.int .i64 d',.bool h',.bool k'] 45);obtain ⟨wb,hb⟩:∃ wb,wa.alloc (.cells #[.int .i64 s,.int .i64 d,.bool h,.bool k,.int .i64 s',.int .i64 d',.bool h',.bool k'] 45)=wb:=⟨_,rfl⟩;have sa:wa.heap.size=w.heap.size+1:=by rw [← ha,World.size_alloc]
 have sb:wb.heap.size=w.heap.size+1+1:=by rw [← hb,World.size_alloc,sa]
 rw [ha] at X1 B1;rw [hb] at X2 B2;rw [sa] at B2;have B3:=Vec.made8 wb (.int .i64 0) (.int .i64 0) (.bool false) (.bool false) (.int .i64 0) (.int .i64 0) (.bool false) (.bool false) 45;have X3:=x1 wb (.cells #[.int .i64 0,.int .i64 0,.bool false,.bool false,.int .i64 0,.int .i64 0,.bool false,.bool false] 45);obtain ⟨wc,hc0⟩:∃ wc,wb.alloc (.cells #[.int .i64 0,.int .i64 0,.bool false,.bool false,.int .i64 0,.int .i64 0,.bool false,.bool false] 45)=wc:=⟨_,rfl⟩;rw [sb] at B3;have X:=xt (xt X1 X2) X3;have B1:=(B1.later X2).later X3;have B2:=B2.later X3;rw [hc0] at B1 B2 B3 X;clear X1 X2 X3;obtain ⟨⟨⟨a0,a1,a2,a3⟩,a4,a5,a6,a7⟩,_⟩:=B1.box8;have G1:=fun w=>goodAS r c f g r' c' f' g' w;have G2:=fun w=>goodAS s d h k s' d' h' k' w;go_enter Tryz.func63,Tryz.ntmps63;go_wp2_with fail;clear a0 a1 a2 a3 a4 a5 a6 a7 ha hb hc0 sa sb;refine (G1 _).mono ?_;rintro e w1 ⟨rfl,e1⟩;have B1:=B1.later e1;have B2:=B2.later e1;have B3:=B3.later e1;have X:=xt X e1;clear G1 e1;obtain ⟨⟨⟨a0,a1,a2,a3⟩,a4,a5,a6,a7⟩,_⟩:=B1.box8;obtain ⟨⟨⟨b0,b1,b2,b3⟩,b4,b5,b6,b7⟩,_⟩:=B2.box8;by_cases hA:goodAB r c r' c'=true
 ·rw [hA];go_wp2_with fail;refine (G2 _).mono ?_;rintro e w2 ⟨rfl,e2⟩;have B1:=B1.later e2;have B2:=B2.later e2;have B3:=B3.later e2;have X:=xt X e2;clear G2 e2 a0 a1 a2 a3 a4 a5 a6 a7 b0 b1 b2 b3 b4 b5 b6 b7;by_cases hB:goodAB s d s' d'=true
  ·rw [hB];have HB:Hid (hullB r c r' c' s d s' d'=arV (lo (lo r r') (lo s s')) (lo (lo c c') (lo d d')) false false (hi (hi r r') (hi s s')) (hi (hi c c') (hi d d')) false false):=by show _=_;unfold hullB;rw [if_pos ⟨hA,hB⟩]
   have N1:=fun w=>l3Normal r c f g r' c' f' g' w;have N2:=fun w=>l3Normal s d h k s' d' h' k' w;simp only [norV] at N1 N2;obtain ⟨⟨⟨a0,a1,a2,a3⟩,a4,a5,a6,a7⟩,_⟩:=B1.box8;clear hA hB;go_wp2_with fail;refine (N1 _).mono ?_;rintro e w3 ⟨rfl,e3⟩;have B1:=B1.later e3;have B2:=B2.later e3;have B3:=B3.later e3;have X:=xt X e3;clear a0 a1 a2 a3 a4 a5 a6 a7 e3 N1;obtain ⟨w4,hw4⟩:∃ wy,set8 w3 (w.heap.size) (.int .i64 (lo r r')) (.int .i64 (lo c c')) (.bool (loF r r' f f')) (.bool (loF c c' g g')) (.int .i64 (hi r r')) (.int .i64 (hi c c')) (.bool (hiF r r' f f')) (.bool (hiF c c' g g'))=wy:=⟨_,rfl⟩;obtain ⟨⟨⟨k0,k1,k2,k3⟩,k4,k5,k6,k7⟩,⟨f0,f1,f2,f3⟩,f4,f5,f6,f7⟩:=B1.box8;have B1:=B1.put8 (.int .i64 (lo r r')) (.int .i64 (lo c c')) (.bool (loF r r' f f')) (.bool (loF c c' g g')) (.int .i64 (hi r r')) (.int .i64 (hi c c')) (.bool (hiF r r' f f')) (.bool (hiF c c' g g'));have B2:=B2.far8 (k:=w.heap.size) (by omega) (.int .i64 (lo r r')) (.int .i64 (lo c c')) (.bool (loF r r' f f')) (.bool (loF c c' g g')) (.int .i64 (hi r r')) (.int .i64 (hi c c')) (.bool (hiF r r' f f')) (.bool (hiF c c' g g'));have B3:=B3.far8 (k:=w.heap.size) (by omega) (.int .i64 (lo r r')) (.int .i64 (lo c c')) (.bool (loF r r' f f')) (.bool (loF c c' g g')) (.int .i64 (hi r r')) (.int .i64 (hi c c')) (.bool (hiF r r' f f')) (.bool (hiF c c' g g'));have X:=Ext.set8 (b:=w.heap.size) X (by omega) (.int .i64 (lo r r')) (.int .i64 (lo c c')) (.bool (loF r r' f f')) (.bool (loF c c' g g')) (.int .i64 (hi r r')) (.int .i64 (hi c c')) (.bool (hiF r r' f f')) (.bool (hiF c c' g g'));rw [hw4] at B1 B2 B3 X;unfold set8 set4 at hw4;obtain ⟨⟨⟨a0,a1,a2,a3⟩,a4,a5,a6,a7⟩,_⟩:=B2.box8;go_wp2_with fail;refine (N2 _).mono ?_;rintro e w5 ⟨rfl,e5⟩;have B1:=B1.later e5;have B2:=B2.later e5;have B3:=B3.later e5;have X:=xt X e5;clear a0 a1 a2 a3 a4 a5 a6 a7 e5 N2 hw4 k0 k1 k2 k3 k4 k5 k6 k7 f0 f1 f2 f3 f4 f5 f6 f7;obtain ⟨w6,hw6⟩:∃ wy,set8 w5 (w.heap.size+1) (.int .i64 (lo s s')) (.int .i64 (lo d d')) (.bool (loF s s' h h')) (.bool (loF d d' k k')) (.int .i64 (hi s s')) (.int .i64 (hi d d')) (.bool (hiF s s' h h')) (.bool (hiF d d' k k'))=wy:=⟨_,rfl⟩;obtain ⟨⟨⟨k0,k1,k2,k3⟩,k4,k5,k6,k7⟩,⟨f0,f1,f2,f3⟩,f4,f5,f6,f7⟩:=B2.box8;have B2:=B2.put8 (.int .i64 (lo s s')) (.int .i64 (lo d d')) (.bool (loF s s' h h')) (.bool (loF d d' k k')) (.int .i64 (hi s s')) (.int .i64 (hi d d')) (.bool (hiF s s' h h')) (.bool (hiF d d' k k'));have B1:=B1.far8 (k:=w.heap.size+1) (by omega) (.int .i64 (lo s s')) (.int .i64 (lo d d')) (.bool (loF s s' h h')) (.bool (loF d d' k k')) (.int .i64 (hi s s')) (.int .i64 (hi d d')) (.bool (hiF s s' h h')) (.bool (hiF d d' k k'));have B3:=B3.far8 (k:=w.heap.size+1) (by omega) (.int .i64 (lo s s')) (.int .i64 (lo d d')) (.bool (loF s s' h h')) (.bool (loF d d' k k')) (.int .i64 (hi s s')) (.int .i64 (hi d d')) (.bool (hiF s s' h h')) (.bool (hiF d d' k k'));have X:=Ext.set8 (b:=w.heap.size+1) X (by omega) (.int .i64 (lo s s')) (.int .i64 (lo d d')) (.bool (loF s s' h h')) (.bool (loF d d' k k')) (.int .i64 (hi s s')) (.int .i64 (hi d d')) (.bool (hiF s s' h h')) (.bool (hiF d d' k k'));rw [hw6] at B2 B1 B3 X;unfold set8 set4 at hw6;have Y:=xr w6;go_upto_region 5 with fail;clear hw6 k0 k1 k2 k3 k4 k5 k6 k7 f0 f1 f2 f3 f4 f5 f6 f7;obtain ⟨⟨⟨a0,a1,a2,a3⟩,a4,a5,a6,a7⟩,_⟩:=B1.box8;obtain ⟨⟨⟨b0,b1,b2,b3⟩,b4,b5,b6,b7⟩,_⟩:=B2.box8;obtain ⟨⟨⟨m0,m1,m2,m3⟩,m4,m5,m6,m7⟩,⟨f0,f1,f2,f3⟩,f4,f5,f6,f7⟩:=B3.box8;have n1:(w.heap.size=w.heap.size+1+1)=False:=eq_false (by omega);have n2:(w.heap.size+1+1=w.heap.size)=False:=eq_false (by omega);have n3:(w.heap.size+1+1=w.heap.size+1)=False:=eq_false (by omega);go_region_held3 (fun w'=>(w'.cell? ⟨w.heap.size,0,none⟩=some (.int .i64 (lo r r'))∧w'.cell? ⟨w.heap.size,1,none⟩=some (.int .i64 (lo c c'))∧w'.cell? ⟨w.heap.size,4,none⟩=some (.int .i64 (hi r r'))∧w'.cell? ⟨w.heap.size,5,none⟩=some (.int .i64 (hi c c')))∧w'.cell? ⟨w.heap.size+1,0,none⟩=some (.int .i64 (lo s s'))∧w'.cell? ⟨w.heap.size+1,1,none⟩=some (.int .i64 (lo d d'))∧w'.cell? ⟨w.heap.size+1,4,none⟩=some (.int .i64 (hi s s'))∧w'.cell? ⟨w.heap.size+1,5,none⟩=some (.int .i64 (hi d d'))) (go_keep) (first
    | (go_at_call 50;refine (maxS _ _ _).mono ?_;rintro e w' ⟨rfl,rfl⟩)
    | (go_at_call 49;refine (minS _ _ _).mono ?_;rintro e w' ⟨rfl,rfl⟩)
    | (go_at_call 77;refine (areaS _ _ _ _ _).mono ?_;rintro e w7 ⟨rfl,e7⟩;have Y:Ext w6 w7:=(by first | exact xt Y e7 | exact xt (xd Y) e7);obtain ⟨⟨⟨a0,a1,a2,a3⟩,a4,a5,a6,a7⟩,_⟩:=(B1.later Y).box8;obtain ⟨⟨⟨b0,b1,b2,b3⟩,b4,b5,b6,b7⟩,_⟩:=(B2.later Y).box8;obtain ⟨⟨⟨m0,m1,m2,m3⟩,m4,m5,m6,m7⟩,⟨f0,f1,f2,f3⟩,f4,f5,f6,f7⟩:=(B3.later Y).box8))
   all_goals
    obtain ⟨wy,hy⟩:∃ wy,set8 w7 (w.heap.size+1+1) (.int .i64 (lo (lo r r') (lo s s'))) (.int .i64 (lo (lo c c') (lo d d'))) (.bool false) (.bool false) (.int .i64 (hi (hi r r') (hi s s'))) (.int .i64 (hi (hi c c') (hi d d'))) (.bool false) (.bool false)=wy:=⟨_,rfl⟩;have GR:=(B3.later Y).put8 (.int .i64 (lo (lo r r') (lo s s'))) (.int .i64 (lo (lo c c') (lo d d'))) (.bool false) (.bool false) (.int .i64 (hi (hi r r') (hi s s'))) (.int .i64 (hi (hi c c') (hi d d'))) (.bool false) (.bool false);have GZ:=Ext.set8 (b:=w.heap.size+1+1) (xt X Y) (by omega) (.int .i64 (lo (lo r r') (lo s s'))) (.int .i64 (lo (lo c c') (lo d d'))) (.bool false) (.bool false) (.int .i64 (hi (hi r r') (hi s s'))) (.int .i64 (hi (hi c c') (hi d d'))) (.bool false) (.bool false);rw [hy] at GR GZ;unfold set8 set4 at hy;simp only [Nat.zero_add,Nat.reduceAdd] at hy;rw [hy];clear hy;obtain ⟨⟨⟨d0,d1,d2,d3⟩,d4,d5,d6,d7⟩,_⟩:=GR.box8;go_wp2_with fail;exact bodyPost_ret (v:=arV (lo (lo r r') (lo s s')) (lo (lo c c') (lo d d')) false false (hi (hi r r') (hi s s')) (hi (hi c c') (hi d d')) false false) (by simp [results,Tryz.results63,go_sem,d0,d1,d2,d3,d4,d5,d6,d7]) rfl ⟨by rw [HB.out],GZ⟩
  ·have hB':goodAB s d s' d'=false:=by simpa using hB
   rw [hB'];have HB:Hid (hullB r c r' c' s d s' d'=arV 0 0 false false 0 0 false false):=by show _=_;unfold hullB;rw [if_neg (fun q=>by simp_all)]
   clear hA hB hB';obtain ⟨wy,hy⟩:∃ wy,set8 w2 (w.heap.size+1+1) (.int .i64 0) (.int .i64 0) (.bool false) (.bool false) (.int .i64 0) (.int .i64 0) (.bool false) (.bool false)=wy:=⟨_,rfl⟩;have GR:=B3.put8 (.int .i64 0) (.int .i64 0) (.bool false) (.bool false) (.int .i64 0) (.int .i64 0) (.bool false) (.bool false);have GZ:=Ext.set8 (b:=w.heap.size+1+1) X (by omega) (.int .i64 0) (.int .i64 0) (.bool false) (.bool false) (.int .i64 0) (.int .i64 0) (.bool false) (.bool false);obtain ⟨⟨⟨k0,k1,k2,k3⟩,k4,k5,k6,k7⟩,⟨f0,f1,f2,f3⟩,f4,f5,f6,f7⟩:=B3.box8;rw [hy] at GR GZ;unfold set8 set4 at hy;obtain ⟨⟨⟨d0,d1,d2,d3⟩,d4,d5,d6,d7⟩,_⟩:=GR.box8;go_wp2_with fail;exact bodyPost_ret (v:=arV 0 0 false false 0 0 false false) (by simp [results,Tryz.results63,go_sem,d0,d1,d2,d3,d4,d5,d6,d7]) rfl ⟨by rw [HB.out],GZ⟩
 ·have hA':goodAB r c r' c'=false:=by simpa using hA
  rw [hA'];have HB:Hid (hullB r c r' c' s d s' d'=arV 0 0 false false 0 0 false false):=by show _=_;unfold hullB;rw [if_neg (fun q=>by simp_all)]
  clear hA hA' a0 a1 a2 a3 a4 a5 a6 a7 b0 b1 b2 b3 b4 b5 b6 b7 G2;obtain ⟨wy,hy⟩:∃ wy,set8 w1 (w.heap.size+1+1) (.int .i64 0) (.int .i64 0) (.bool false) (.bool false) (.int .i64 0) (.int .i64 0) (.bool false) (.bool false)=wy:=⟨_,rfl⟩;have GR:=B3.put8 (.int .i64 0) (.int .i64 0) (.bool false) (.bool false) (.int .i64 0) (.int .i64 0) (.bool false) (.bool false);have GZ:=Ext.set8 (b:=w.heap.size+1+1) X (by omega) (.int .i64 0) (.int .i64 0) (.bool false) (.bool false) (.int .i64 0) (.int .i64 0) (.bool false) (.bool false);obtain ⟨⟨⟨k0,k1,k2,k3⟩,k4,k5,k6,k7⟩,⟨f0,f1,f2,f3⟩,f4,f5,f6,f7⟩:=B3.box8;rw [hy] at GR GZ;unfold set8 set4 at hy;obtain ⟨⟨⟨d0,d1,d2,d3⟩,d4,d5,d6,d7⟩,_⟩:=GR.box8;go_wp2_with fail;exact bodyPost_ret (v:=arV 0 0 false false 0 0 false false) (by simp [results,Tryz.results63,go_sem,d0,d1,d2,d3,d4,d5,d6,d7]) rfl ⟨by rw [HB.out],GZ⟩
abbrev tuV (k a m:Int) (d:Bool):Value:=.agg #[.int .i64 k,.int .i64 a,.int .i64 m,.bool d]
end Go.Proofs.YtnbagcclckekkaaGreatDoor

namespace Go.Proofs.YtnbagcclckekkaaGreatDoor
open Go.ChangeShapes Go.WideShapes Go.ChangeAt Go.RowKit
set_option maxRecDepth 100000 in
theorem open_move {H:Type} {enc:TypeId × Value→H} {W:World} {base:Nat} {v:Value} {d:DataW H} {p:List MemPlace}
  (hv:Value.okWide Tryz.prog W .any base 41 v) (h:DataW.Trod enc Tryz.prog W 0 (fun _=>true) true 41 v d p) :
  ∃ (r c:Int) (f g:Bool) (r' c':Int) (f' g':Bool) (x y:Int),v=.agg #[.int .i64 r,.int .i64 c,.bool f,.bool g,.int .i64 r',.int .i64 c',.bool f',.bool g',.int .i64 x,.int .i64 y]∧(Lit.int .i64 x).wf=true∧(Lit.int .i64 y).wf=true:=by
 obtain ⟨cs,rfl,hsz⟩:=okWide_struct Tryz.underlying41 hv;have h10:cs.size=10:=hsz.trans (show Tryz.prog.cellsOf 41=10 by kernel_rfl);obtain ⟨c0,c1,c2,c3,c4,c5,c6,c7,c8,c9,rfl⟩:∃ c0 c1 c2 c3 c4 c5 c6 c7 c8 c9,cs=#[c0,c1,c2,c3,c4,c5,c6,c7,c8,c9]:=by
  obtain ⟨l⟩:=cs
  match l,h10 with
  | [c0,c1,c2,c3,c4,c5,c6,c7,c8,c9],_=>exact ⟨c0,c1,c2,c3,c4,c5,c6,c7,c8,c9,rfl⟩
 obtain ⟨fuel,hf⟩:=h;obtain ⟨y0,y1,y2,n,_,_,h0,h1,h2⟩:=Deep.trod_struct3 Tryz.underlying41 hf;have k:Tryz.prog.cellsOf 37=4:=by kernel_rfl
 have k8:Tryz.prog.cellsOf 39=8:=by kernel_rfl
 have k3:Tryz.prog.cellsOf 3=1:=by kernel_rfl
 obtain ⟨z0,z1,n',_,_,g0,g1⟩:=trod_struct2 Tryz.underlying39 h0;obtain ⟨r,c,rf,cf,e,w0,w1⟩:=ref_parts g0 c0 c1 c2 c3 (by simp [Value.cells,k,k8]);obtain ⟨r',c',rf',cf',e',w0',w1'⟩:=ref_parts g1 c4 c5 c6 c7 (by simp [Value.cells,k,k8]);obtain ⟨a1,e1,_,v1⟩:=DataW.trod_int Tryz.underlying3 h1;obtain ⟨a2,e2,_,v2⟩:=DataW.trod_int Tryz.underlying3 h2;simp [Value.cells,k,k8,k3] at e e' e1 e2;obtain ⟨rfl,rfl,rfl,rfl⟩:=e;obtain ⟨rfl,rfl,rfl,rfl⟩:=e';subst e1 e2;exact ⟨r,c,rf,cf,r',c',rf',cf',a1,a2,rfl,v1,v2⟩
end Go.Proofs.YtnbagcclckekkaaGreatDoor

namespace Go.Proofs.YtnbagcclckekkaaGreatDoor
open Go.RowKit
abbrev moV (r c:Int) (f g:Bool) (r' c':Int) (f' g':Bool) (x y:Int):Value:=.agg #[.int .i64 r,.int .i64 c,.bool f,.bool g,.int .i64 r',.int .i64 c',.bool f',.bool g',.int .i64 x,.int .i64 y]
theorem Vec.made10 (w:World) (v0 v1 v2 v3 v4 v5 v6 v7 v8 v9:Value) (t:TypeId):Vec (w.alloc (.cells #[v0,v1,v2,v3,v4,v5,v6,v7,v8,v9] t)) w.heap.size [v0,v1,v2,v3,v4,v5,v6,v7,v8,v9]:=by
 intro i v hi
 match i,hi with
 | 0,hi=>cases hi;exact ⟨by simp [go_sem],by simp [go_sem]⟩
 | 1,hi=>cases hi;exact ⟨by simp [go_sem],by simp [go_sem]⟩
 | 2,hi=>cases hi;exact ⟨by simp [go_sem],by simp [go_sem]⟩
 | 3,hi=>cases hi;exact ⟨by simp [go_sem],by simp [go_sem]⟩
 | 4,hi=>cases hi;exact ⟨by simp [go_sem],by simp [go_sem]⟩
 | 5,hi=>cases hi;exact ⟨by simp [go_sem],by simp [go_sem]⟩
 | 6,hi=>cases hi;exact ⟨by simp [go_sem],by simp [go_sem]⟩
 | 7,hi=>cases hi;exact ⟨by simp [go_sem],by simp [go_sem]⟩
 | 8,hi=>cases hi;exact ⟨by simp [go_sem],by simp [go_sem]⟩
 | 9,hi=>cases hi;exact ⟨by simp [go_sem],by simp [go_sem]⟩
theorem Vec.box10 {w:World} {b:Nat} {v0 v1 v2 v3 v4 v5 v6 v7 v8 v9:Value} (h:Vec w b [v0,v1,v2,v3,v4,v5,v6,v7,v8,v9]) :
  (w.cell? ⟨b,0,none⟩=some v0∧w.cell? ⟨b,1,none⟩=some v1∧w.cell? ⟨b,2,none⟩=some v2∧w.cell? ⟨b,3,none⟩=some v3∧w.cell? ⟨b,4,none⟩=some v4∧w.cell? ⟨b,5,none⟩=some v5∧w.cell? ⟨b,6,none⟩=some v6∧w.cell? ⟨b,7,none⟩=some v7∧w.cell? ⟨b,8,none⟩=some v8∧w.cell? ⟨b,9,none⟩=some v9) ∧
  w.frozen? ⟨b,0,none⟩=false∧w.frozen? ⟨b,1,none⟩=false∧w.frozen? ⟨b,2,none⟩=false∧w.frozen? ⟨b,3,none⟩=false∧w.frozen? ⟨b,4,none⟩=false∧w.frozen? ⟨b,5,none⟩=false∧w.frozen? ⟨b,6,none⟩=false∧w.frozen? ⟨b,7,none⟩=false∧w.frozen? ⟨b,8,none⟩=false∧w.frozen? ⟨b,9,none⟩=false:=
 ⟨⟨(h 0 _ rfl).1,(h 1 _ rfl).1,(h 2 _ rfl).1,(h 3 _ rfl).1,(h 4 _ rfl).1,(h 5 _ rfl).1,(h 6 _ rfl).1,(h 7 _ rfl).1,(h 8 _ rfl).1,(h 9 _ rfl).1⟩,
  (h 0 _ rfl).2,(h 1 _ rfl).2,(h 2 _ rfl).2,(h 3 _ rfl).2,(h 4 _ rfl).2,(h 5 _ rfl).2,(h 6 _ rfl).2,(h 7 _ rfl).2,(h 8 _ rfl).2,(h 9 _ rfl).2⟩
set_option maxRecDepth 8000 in
set_option maxHeartbeats 2000000 in
theorem toMove (r c:Int) (f g:Bool) (r' c':Int) (f' g':Bool) (x y:Int) (w:World) :
  Calls Tryz.prog 17 #[moV r c f g r' c' f' g' x y] w fun e w'=>e=.returned (moV r c f g r' c' f' g' x y)∧Ext w w':=by
 have B1:=Vec.made10 w (.int .i64 r) (.int .i64 c) (.bool f) (.bool g) (.int .i64 r') (.int .i64 c') (.bool f') (.bool g') (.int .i64 x) (.int .i64 y) 41;have X:=x1 w (.cells #[.int .i64 r,.int .i64 c,.bool f,.bool g,.int .i64 r',.int .i64 c',.bool f',.bool g',.int .i64 x,.int .i64 y] 41);obtain ⟨wa,ha⟩:∃ u,w.alloc (.cells #[.int .i64 r,.int .i64 c,.bool f,.bool g,.int .i64 r',.int .i64 c',.bool f',.bool g',.int .i64 x,.int .i64 y] 41)=u:=⟨_,rfl⟩;rw [ha] at B1 X;have sa:wa.heap.size=w.heap.size+1:=by rw [← ha,World.size_alloc]
 have B2:=Vec.made10 wa (.int .i64 0) (.int .i64 0) (.bool false) (.bool false) (.int .i64 0) (.int .i64 0) (.bool false) (.bool false) (.int .i64 0) (.int .i64 0) 47;have x2:=x1 wa (.cells #[.int .i64 0,.int .i64 0,.bool false,.bool false,.int .i64 0,.int .i64 0,.bool false,.bool false,.int .i64 0,.int .i64 0] 47);obtain ⟨wb,hb⟩:∃ u,wa.alloc (.cells #[.int .i64 0,.int .i64 0,.bool false,.bool false,.int .i64 0,.int .i64 0,.bool false,.bool false,.int .i64 0,.int .i64 0] 47)=u:=⟨_,rfl⟩;rw [hb] at B2 x2;have sb:wb.heap.size=w.heap.size+1+1:=by rw [← hb,World.size_alloc,sa]
 have B3:=Vec.made10 wb (.int .i64 0) (.int .i64 0) (.bool false) (.bool false) (.int .i64 0) (.int .i64 0) (.bool false) (.bool false) (.int .i64 0) (.int .i64 0) 47;have x3:=x1 wb (.cells #[.int .i64 0,.int .i64 0,.bool false,.bool false,.int .i64 0,.int .i64 0,.bool false,.bool false,.int .i64 0,.int .i64 0] 47);rw [sa] at B2;go_enter Tryz.func17,Tryz.ntmps17;go_upto_region 2 with fail
 (try rw [ha])
 (try rw [hb])
 obtain ⟨w0,hw0⟩:∃ u,wb.alloc (.cells #[.int .i64 0,.int .i64 0,.bool false,.bool false,.int .i64 0,.int .i64 0,.bool false,.bool false,.int .i64 0,.int .i64 0] 47)=u:=⟨_,rfl⟩;have s0:w0.heap.size=w.heap.size+1+1+1:=by rw [← hw0,World.size_alloc,sb]
 rw [hw0] at B3 x3 ⊢;rw [sb] at B3;replace B1:=(B1.later x2).later x3;replace B2:=B2.later x3;replace X:=xt (xt X x2) x3;clear ha hb hw0 sa sb x2 x3;obtain ⟨⟨a0,a1,a2,a3,a4,a5,a6,a7,a8,a9⟩,_⟩:=B1.box10;go_wp2_with fail;refine (toArea _ _ _ _ _ _ _ _ _).mono ?_;rintro e w1 ⟨rfl,e1⟩;clear a0 a1 a2 a3 a4 a5 a6 a7 a8 a9;replace B1:=B1.later e1;replace B2:=B2.later e1;replace B3:=B3.later e1;replace X:=xt X e1;clear e1;obtain ⟨⟨a0,a1,a2,a3,a4,a5,a6,a7,a8,a9⟩,_⟩:=B1.box10;obtain ⟨⟨b0,b1,b2,b3,b4,b5,b6,b7,b8,b9⟩,c0,c1,c2,c3,c4,c5,c6,c7,c8,c9⟩:=B2.box10;obtain ⟨⟨d0,d1,d2,d3,d4,d5,d6,d7,d8,d9⟩,f0,f1,f2,f3,f4,f5,f6,f7,f8,f9⟩:=B3.box10
 go_wp2
 exact bodyPost_ret (v:=moV r c f g r' c' f' g' x y) (by simp [results,Tryz.results17,go_sem,b0,b1,b2,b3,b4,b5,b6,b7,b8,b9]) rfl ⟨rfl,xset (xset (xset (xset (xset (xset (xset (xset (xset (xset (xset (xset (xset (xset (xset (xset (xset (xset (xset (xset X (by simp only;omega) _) (by simp only;omega) _) (by simp only;omega) _) (by simp only;omega) _) (by simp only;omega) _) (by simp only;omega) _) (by simp only;omega) _) (by simp only;omega) _) (by simp only;omega) _) (by simp only;omega) _) (by simp only;omega) _) (by simp only;omega) _) (by simp only;omega) _) (by simp only;omega) _) (by simp only;omega) _) (by simp only;omega) _) (by simp only;omega) _) (by simp only;omega) _) (by simp only;omega) _) (by simp only;omega) _⟩
set_option maxHeartbeats 400000 in
theorem placeS (r c:Int) (w:World) :
  Calls Tryz.prog 64 #[.int .i64 r,.int .i64 c] w fun e w'=>e=.returned (.bool (goodRB r c))∧Ext w w':=by
 go_enter Tryz.func64,Tryz.ntmps64;go_wp2_with fail;refine (goodRS _ _ _ _ _).mono ?_;rintro e w1 ⟨rfl,e1⟩
 go_wp2
 go_ret;exact ⟨rfl,e1⟩
def insB (a b c d r s:Int):Bool:=decide ((a≤r∧r≤b)∧c≤s∧s≤d)
set_option maxRecDepth 8000 in
set_option maxHeartbeats 2000000 in
theorem insideS (r c:Int) (f g:Bool) (r' c':Int) (f' g':Bool) (s d:Int) (h k:Bool) (w:World) :
  Calls Tryz.prog 39 #[arV r c f g r' c' f' g',refV s d h k] w fun e w'=>e=.returned (.bool (insB r r' c c' s d))∧Ext w w':=by
 unfold insB;go_enter Tryz.func39,Tryz.ntmps39
 go_wp2
 all_goals go_ret
 all_goals refine ⟨ret_bool ?_,xa (x1 _ _) _⟩
 all_goals rw [Bool.eq_iff_iff]
 all_goals first | (simp only [decide_eq_true_eq];omega) | (simp;omega)
def fa (m:Int) (d:Bool):Int:=if d then -m else m
theorem lo_is (a b:Int):(b<a∧lo a b=b)∨(a≤b∧lo a b=a):=by
 unfold lo
 split
 ·exact .inl ⟨by assumption,rfl⟩
 ·exact .inr ⟨by omega,rfl⟩
theorem hi_is (a b:Int):(b<a∧hi a b=a)∨(a≤b∧hi a b=b):=by
 unfold hi
 split
 ·exact .inl ⟨by assumption,rfl⟩
 ·exact .inr ⟨by omega,rfl⟩
section
variable {l a m:Int} {d:Bool} (hm:1≤m) (ha:1≤a) (hl:a≤l) (hd:d=true→a+m - 1≤l)
include hm ha hl hd
end
theorem goodAB_bd {r c r' c':Int} (h:goodAB r c r' c'=true):((1≤r∧r≤1000)∧1≤c∧c≤200)∧(1≤r'∧r'≤1000)∧1≤c'∧c'≤200:=by
 unfold goodAB goodRB at h;simp at h;exact h
def doesB (r c r' c' x y:Int):Bool:=goodAB r c r' c' && goodRB x y && goodRB (hi r r'+(x - lo r r')) (hi c c'+(y - lo c c'))
def MvP (r c r' c' x y:Int) (e:Ending):Prop:=∃ n1 n2 n3 n4:Int,(doesB r c r' c' x y=true→n1=lo r r'∧n2=lo c c'∧n3=hi r r'∧n4=hi c c')∧e=.returned (.tuple #[arV n1 n2 false false n3 n4 false false,.int .i64 (if doesB r c r' c' x y=true then x - lo r r' else 0),.int .i64 (if doesB r c r' c' x y=true then y - lo c c' else 0),.bool (doesB r c r' c' x y)])
theorem lo_self (x:Int):lo x x=x:=by unfold lo;split <;> rfl
theorem hi_self (x:Int):hi x x=x:=by unfold hi;split <;> rfl
set_option maxRecDepth 8000 in
set_option maxHeartbeats 4000000 in
theorem movesS (r c:Int) (f g:Bool) (r' c':Int) (f' g':Bool) (x y:Int) (w:World) :
  Calls Tryz.prog 38 #[moV r c f g r' c' f' g' x y] w fun e w'=>MvP r c r' c' x y e∧Ext w w':=by
 have GA:=fun w=>goodAS r c f g r' c' f' g' w;have HU:=fun w=>hullS r c f g r' c' f' g' r c f g r' c' f' g' w;have B1:=Vec.made10 w (.int .i64 r) (.int .i64 c) (.bool f) (.bool g) (.int .i64 r') (.int .i64 c') (.bool f') (.bool g') (.int .i64 x) (.int .i64 y) 47;have X:=x1 w (.cells #[.int .i64 r,.int .i64 c,.bool f,.bool g,.int .i64 r',.int .i64 c',.bool f',.bool g',.int .i64 x,.int .i64 y] 47);obtain ⟨wa,ha⟩:∃ u,w.alloc (.cells #[.int .i64 r,.int .i64 c,.bool f,.bool g,.int .i64 r',.int .i64 c',.bool f',.bool g',.int .i64 x,.int .i64 y] 47)=u:=⟨_,rfl⟩;rw [ha] at B1 X;have sa:wa.heap.size=w.heap.size+1:=by rw [← ha,World.size_alloc]
 have B2:=Vec.made8 wa (.int .i64 0) (.int .i64 0) (.bool false) (.bool false) (.int .i64 0) (.int .i64 0) (.bool false) (.bool false) 45;have x2:=x1 wa (.cells #[.int .i64 0,.int .i64 0,.bool false,.bool false,.int .i64 0,.int .i64 0,.bool false,.bool false] 45);cases hg:goodAB r c r' c'
 ·have hd:doesB r c r' c' x y=false:=by unfold doesB;rw [hg];rfl
  rw [hg] at GA;have HD:Hid (doesB r c r' c' x y=false):=hd;clear hg HU hd;go_enter Tryz.func38,Tryz.ntmps38;go_upto_region 1 with fail
  (try rw [ha])
  obtain ⟨w0,hw0⟩:∃ u,wa.alloc (.cells #[.int .i64 0,.int .i64 0,.bool false,.bool false,.int .i64 0,.int .i64 0,.bool false,.bool false] 45)=u:=⟨_,rfl⟩;rw [hw0] at B2 x2 ⊢;rw [sa] at B2;replace B1:=B1.later x2;replace X:=xt X x2;clear ha hw0 sa x2;obtain ⟨⟨a0,a1,a2,a3,a4,a5,a6,a7,a8,a9⟩,_⟩:=B1.box10;go_wp2_with fail;refine (GA _).mono ?_;rintro e w1 ⟨rfl,e1⟩;obtain ⟨⟨⟨m0,m1,m2,m3⟩,m4,m5,m6,m7⟩,⟨m8,m9,mA,mB⟩,mC,mD,mE,mF⟩:=(B2.later e1).box8
  go_wp2
  exact bodyPost_ret (v:=.tuple #[arV 0 0 false false 0 0 false false,.int .i64 0,.int .i64 0,.bool false]) (by simp [results,Tryz.results38,go_sem,m0,m1,m2,m3,m4,m5,m6,m7]) rfl ⟨⟨0,0,0,0,fun h=>(by rw [HD.out] at h;cases h),by rw [HD.out];rfl⟩,Ext.set8 (xt X e1) (by omega) _ _ _ _ _ _ _ _⟩
 ·rw [hg] at GA;have hH:hullB r c r' c' r c r' c'=arV (lo r r') (lo c c') false false (hi r r') (hi c c') false false:=by
   unfold hullB;rw [if_pos ⟨hg,hg⟩,lo_self,lo_self,hi_self,hi_self]
  rw [hH] at HU;have hg':=goodAB_bd hg;have L1:=lo_is r r';have L2:=lo_is c c';have L3:=hi_is r r';have L4:=hi_is c c';have P1:=fun w=>placeS x y w;obtain ⟨dd,hdd⟩:∃ dd,doesB r c r' c' x y=dd:=⟨_,rfl⟩;have hd0:=hdd;unfold doesB at hd0;rw [hg,Bool.true_and] at hd0;have HD:Hid (doesB r c r' c' x y=dd):=hdd;obtain ⟨R0,h1⟩:∃ n,lo r r'=n:=⟨_,rfl⟩;obtain ⟨C0,h2⟩:∃ n,lo c c'=n:=⟨_,rfl⟩;obtain ⟨R1,h3⟩:∃ n,hi r r'=n:=⟨_,rfl⟩;obtain ⟨C1,h4⟩:∃ n,hi c c'=n:=⟨_,rfl⟩;rw [h1,h2,h3,h4] at HU hd0;rw [h1] at L1;rw [h2] at L2;rw [h3] at L3;rw [h4] at L4;have H1:Hid (lo r r'=R0∧lo c c'=C0∧hi r r'=R1∧hi c c'=C1):=⟨h1,h2,h3,h4⟩;have bR:1≤R0∧R0≤1000∧1≤R1∧R1≤1000:=by omega
  have bC:1≤C0∧C0≤200∧1≤C1∧C1≤200:=by omega
  clear hg hH hg' L1 L2 L3 L4 h1 h2 h3 h4 hdd;go_enter Tryz.func38,Tryz.ntmps38;go_upto_region 1 with fail
  (try rw [ha])
  obtain ⟨w0,hw0⟩:∃ u,wa.alloc (.cells #[.int .i64 0,.int .i64 0,.bool false,.bool false,.int .i64 0,.int .i64 0,.bool false,.bool false] 45)=u:=⟨_,rfl⟩;have s0:w0.heap.size=w.heap.size+1+1:=by rw [← hw0,World.size_alloc,sa]
  rw [hw0] at B2 x2 ⊢;rw [sa] at B2;replace B1:=B1.later x2;replace X:=xt X x2;clear ha hw0 sa x2;obtain ⟨⟨a0,a1,a2,a3,a4,a5,a6,a7,a8,a9⟩,_⟩:=B1.box10;go_wp2_with fail;refine (GA _).mono ?_;rintro e w1 ⟨rfl,e1⟩;clear a0 a1 a2 a3 a4 a5 a6 a7 a8 a9 GA;have s1:=e1.size;replace B1:=B1.later e1;replace B2:=B2.later e1;replace X:=xt X e1;clear e1;obtain ⟨⟨a0,a1,a2,a3,a4,a5,a6,a7,a8,a9⟩,_⟩:=B1.box10;go_wp2_with fail;refine (HU _).mono ?_;rintro e w2 ⟨rfl,e2⟩;clear a0 a1 a2 a3 a4 a5 a6 a7 a8 a9 HU;have s2:=e2.size;replace B1:=B1.later e2;replace B2:=B2.later e2;replace X:=xt X e2;clear e2;obtain ⟨⟨a0,a1,a2,a3,a4,a5,a6,a7,a8,a9⟩,_⟩:=B1.box10;go_upto_region 4 with fail;have B6:=Vec.made8 w2 (.int .i64 R0) (.int .i64 C0) (.bool false) (.bool false) (.int .i64 R1) (.int .i64 C1) (.bool false) (.bool false) 45;have x6:=x1 w2 (.cells #[.int .i64 R0,.int .i64 C0,.bool false,.bool false,.int .i64 R1,.int .i64 C1,.bool false,.bool false] 45);obtain ⟨w3,hw3⟩:∃ u,w2.alloc (.cells #[.int .i64 R0,.int .i64 C0,.bool false,.bool false,.int .i64 R1,.int .i64 C1,.bool false,.bool false] 45)=u:=⟨_,rfl⟩;rw [hw3] at B6 x6 ⊢;obtain ⟨b6,hb6⟩:∃ b,w2.heap.size=b:=⟨_,rfl⟩;rw [hb6] at B6 ⊢;clear hw3 a0 a1 a2 a3 a4 a5 a6 a7 a8 a9;replace B1:=B1.later x6;replace B2:=B2.later x6;replace X:=xt X x6;have g6:w.heap.size+1+1≤b6:=by omega
  clear x6 s1 s2 s0 hb6;obtain ⟨⟨a0,a1,a2,a3,a4,a5,a6,a7,a8,a9⟩,_⟩:=B1.box10;obtain ⟨⟨⟨p0,p1,p2,p3⟩,p4,p5,p6,p7⟩,_⟩:=B6.box8;obtain ⟨dx,hdx⟩:∃ d,IntKind.i64.wrap (x - R0)=d:=⟨_,rfl⟩;obtain ⟨dy,hdy⟩:∃ d,IntKind.i64.wrap (y - C0)=d:=⟨_,rfl⟩;go_wp2_with fail;refine (P1 _).mono ?_;rintro e w4 ⟨rfl,e4⟩;clear a0 a1 a2 a3 a4 a5 a6 a7 a8 a9 p0 p1 p2 p3 p4 p5 p6 p7 P1 B1;replace B2:=B2.later e4;replace B6:=B6.later e4;replace X:=xt X e4;clear e4;obtain ⟨⟨⟨p0,p1,p2,p3⟩,p4,p5,p6,p7⟩,_⟩:=B6.box8;obtain ⟨⟨⟨m0,m1,m2,m3⟩,m4,m5,m6,m7⟩,⟨m8,m9,mA,mB⟩,mC,mD,mE,mF⟩:=B2.box8;cases hp:goodRB x y
  ·rw [hp,Bool.false_and] at hd0;subst hd0;clear hdx hdy
   go_wp2
   exact bodyPost_ret (v:=.tuple #[arV R0 C0 false false R1 C1 false false,.int .i64 0,.int .i64 0,.bool false]) (by simp [results,Tryz.results38,go_sem,m0,m1,m2,m3,m4,m5,m6,m7]) rfl ⟨⟨R0,C0,R1,C1,fun _=>⟨H1.out.1.symm,H1.out.2.1.symm,H1.out.2.2.1.symm,H1.out.2.2.2.symm⟩,by rw [HD.out];rfl⟩,Ext.set8 X (by omega) _ _ _ _ _ _ _ _⟩
  ·rw [hp,Bool.true_and] at hd0;have hp':=of_decide_eq_true hp;have e1:dx=x - R0:=by rw [← hdx,IntKind.wrap_i64];omega
   have e2:dy=y - C0:=by rw [← hdy,IntKind.wrap_i64];omega
   have e3:IntKind.i64.wrap (R1+dx)=R1+dx:=by rw [e1,IntKind.wrap_i64];omega
   have e4:IntKind.i64.wrap (C1+dy)=C1+dy:=by rw [e2,IntKind.wrap_i64];omega
   rw [← e1,← e2] at hd0;have E1:Hid (dx=x - R0∧dy=y - C0):=⟨e1,e2⟩;have P2:=fun w=>placeS (R1+dx) (C1+dy) w;rw [hd0] at P2;clear hp hp' hdx hdy e1 e2 hd0;go_wp2_with fail;refine (P2 _).mono ?_;rintro e w5 ⟨rfl,e5⟩;clear p0 p1 p2 p3 p4 p5 p6 p7 m0 m1 m2 m3 m4 m5 m6 m7 m8 m9 mA mB mC mD mE mF P2;replace B2:=B2.later e5;replace B6:=B6.later e5;replace X:=xt X e5;clear e5;obtain ⟨⟨⟨p0,p1,p2,p3⟩,p4,p5,p6,p7⟩,_⟩:=B6.box8;obtain ⟨⟨⟨m0,m1,m2,m3⟩,m4,m5,m6,m7⟩,⟨m8,m9,mA,mB⟩,mC,mD,mE,mF⟩:=B2.box8;cases dd
   ·go_wp2
    exact bodyPost_ret (v:=.tuple #[arV R0 C0 false false R1 C1 false false,.int .i64 0,.int .i64 0,.bool false]) (by simp [results,Tryz.results38,go_sem,m0,m1,m2,m3,m4,m5,m6,m7]) rfl ⟨⟨R0,C0,R1,C1,fun _=>⟨H1.out.1.symm,H1.out.2.1.symm,H1.out.2.2.1.symm,H1.out.2.2.2.symm⟩,by rw [HD.out];rfl⟩,Ext.set8 X (by omega) _ _ _ _ _ _ _ _⟩
   ·go_wp2
    exact bodyPost_ret (v:=.tuple #[arV R0 C0 false false R1 C1 false false,.int .i64 dx,.int .i64 dy,.bool true]) (by simp [results,Tryz.results38,go_sem,m0,m1,m2,m3,m4,m5,m6,m7]) rfl ⟨⟨R0,C0,R1,C1,fun _=>⟨H1.out.1.symm,H1.out.2.1.symm,H1.out.2.2.1.symm,H1.out.2.2.2.symm⟩,by rw [HD.out,H1.out.1,H1.out.2.1,E1.out.1,E1.out.2];rfl⟩,Ext.set8 X (by omega) _ _ _ _ _ _ _ _⟩
def mrB (r c r' c' x y s d:Int) (h k:Bool):Value:=
 if doesB r c r' c' x y=true∧insB (lo r r') (hi r r') (lo c c') (hi c c') s d=true then refV (s+(x - lo r r')) (d+(y - lo c c')) h k else refV s d h k
theorem doesB_bd {r c r' c' x y:Int} (h:doesB r c r' c' x y=true):(1≤lo r r'∧lo r r'≤1000∧1≤lo c c'∧lo c c'≤200)∧(1≤x∧x≤1000∧1≤y∧y≤200)∧(1≤hi r r'∧hi r r'≤1000∧1≤hi c c'∧hi c c'≤200):=by
 unfold doesB at h;simp only [Bool.and_eq_true] at h;obtain ⟨⟨h1,h2⟩,_⟩:=h;have g1:=goodAB_bd h1;have g2:(1≤x∧x≤1000)∧1≤y∧y≤200:=of_decide_eq_true h2;have:=lo_is r r';have:=lo_is c c';have:=hi_is r r';have:=hi_is c c';omega
set_option maxRecDepth 8000 in
set_option maxHeartbeats 4000000 in
theorem moveRS (r c:Int) (f g:Bool) (r' c':Int) (f' g':Bool) (x y:Int) (s d:Int) (h k:Bool) (w:World) :
  Calls Tryz.prog 40 #[moV r c f g r' c' f' g' x y,refV s d h k] w fun e w'=>e=.returned (mrB r c r' c' x y s d h k)∧Ext w w':=by
 obtain ⟨V,hV⟩:∃ V,mrB r c r' c' x y s d h k=V:=⟨_,rfl⟩;rw [hV];unfold mrB at hV;have MV:=fun w=>movesS r c f g r' c' f' g' x y w;have B2:=Vec.made10 w (.int .i64 r) (.int .i64 c) (.bool f) (.bool g) (.int .i64 r') (.int .i64 c') (.bool f') (.bool g') (.int .i64 x) (.int .i64 y) 47;have X:=x1 w (.cells #[.int .i64 r,.int .i64 c,.bool f,.bool g,.int .i64 r',.int .i64 c',.bool f',.bool g',.int .i64 x,.int .i64 y] 47);obtain ⟨wa,ha⟩:∃ u,w.alloc (.cells #[.int .i64 r,.int .i64 c,.bool f,.bool g,.int .i64 r',.int .i64 c',.bool f',.bool g',.int .i64 x,.int .i64 y] 47)=u:=⟨_,rfl⟩;rw [ha] at B2 X;have sa:wa.heap.size=w.heap.size+1:=by rw [← ha,World.size_alloc]
 have B3:=Vec.made4 wa (.int .i64 s) (.int .i64 d) (.bool h) (.bool k) 43;have x3:=x1 wa (.cells #[.int .i64 s,.int .i64 d,.bool h,.bool k] 43);obtain ⟨wb,hb⟩:∃ u,wa.alloc (.cells #[.int .i64 s,.int .i64 d,.bool h,.bool k] 43)=u:=⟨_,rfl⟩;rw [hb] at B3 x3;have sb:wb.heap.size=w.heap.size+1+1:=by rw [← hb,World.size_alloc,sa]
 have B4:=Vec.made4 wb (.int .i64 0) (.int .i64 0) (.bool false) (.bool false) 43;have x4:=x1 wb (.cells #[.int .i64 0,.int .i64 0,.bool false,.bool false] 43);rw [sa] at B3;go_enter Tryz.func40,Tryz.ntmps40;go_upto_region 1 with fail
 (try rw [ha])
 (try rw [hb])
 obtain ⟨w0,hw0⟩:∃ u,wb.alloc (.cells #[.int .i64 0,.int .i64 0,.bool false,.bool false] 43)=u:=⟨_,rfl⟩;have s0:w0.heap.size=w.heap.size+1+1+1:=by rw [← hw0,World.size_alloc,sb]
 rw [hw0] at B4 x4 ⊢;rw [sb] at B4;replace B2:=(B2.later x3).later x4;replace B3:=B3.later x4;replace X:=xt (xt X x3) x4;clear ha hb hw0 sa sb x3 x4;obtain ⟨⟨a0,a1,a2,a3,a4,a5,a6,a7,a8,a9⟩,_⟩:=B2.box10;go_wp2_with fail;refine (MV _).mono ?_;rintro e w1 ⟨⟨n1,n2,n3,n4,hn,rfl⟩,e1⟩;have s1:=e1.size;clear a0 a1 a2 a3 a4 a5 a6 a7 a8 a9 MV B2;replace B3:=B3.later e1;replace B4:=B4.later e1;replace X:=xt X e1;clear e1;cases hd:doesB r c r' c' x y
 ·rw [hd] at hV;have Z:Hid (refV s d h k=V):=by unfold Hid;rw [← hV];simp
  clear hV hd hn;rw [if_neg (by decide),if_neg (by decide)];go_upto_region 2 with fail;have x5:=x1 w1 (.cells #[.int .i64 n1,.int .i64 n2,.bool false,.bool false,.int .i64 n3,.int .i64 n4,.bool false,.bool false] 45);obtain ⟨w2,hw2⟩:∃ u,w1.alloc (.cells #[.int .i64 n1,.int .i64 n2,.bool false,.bool false,.int .i64 n3,.int .i64 n4,.bool false,.bool false] 45)=u:=⟨_,rfl⟩;rw [hw2] at x5 ⊢;clear hw2;obtain ⟨⟨a0,a1,a2,a3⟩,_⟩:=(B3.later x5).box4;obtain ⟨⟨m0,m1,m2,m3⟩,m4,m5,m6,m7⟩:=(B4.later x5).box4
  go_wp2
  exact bodyPost_ret (v:=refV s d h k) (by simp [results,Tryz.results40,go_sem,m0,m1,m2,m3]) rfl ⟨congrArg Ending.returned Z.out,Ext.set4 (o:=0) (xt X x5) (by omega) _ _ _ _⟩
 ·obtain ⟨rfl,rfl,rfl,rfl⟩:=hn hd;have bd:=doesB_bd hd;rw [hd] at hV;rw [if_pos rfl,if_pos rfl];obtain ⟨R0,h1⟩:∃ n,lo r r'=n:=⟨_,rfl⟩;obtain ⟨C0,h2⟩:∃ n,lo c c'=n:=⟨_,rfl⟩;obtain ⟨R1,h3⟩:∃ n,hi r r'=n:=⟨_,rfl⟩;obtain ⟨C1,h4⟩:∃ n,hi c c'=n:=⟨_,rfl⟩;rw [h1,h2,h3,h4] at hV bd;rw [h1,h2,h3,h4];obtain ⟨dx,hdx⟩:∃ n,x - R0=n:=⟨_,rfl⟩;obtain ⟨dy,hdy⟩:∃ n,y - C0=n:=⟨_,rfl⟩;rw [hdx,hdy] at hV;rw [hdx,hdy];have IN:=fun w=>insideS R0 C0 false false R1 C1 false false s d h k w;obtain ⟨q,hq⟩:∃ q,insB R0 R1 C0 C1 s d=q:=⟨_,rfl⟩;rw [hq] at IN hV;have Z:Hid (q=false→refV s d h k=V):=fun e=>by rw [← hV,e];simp
  have Y:Hid (q=true→refV (s+dx) (d+dy) h k=V):=fun e=>by rw [← hV,e];simp
  have ws:q=true→IntKind.i64.wrap (s+dx)=s+dx∧IntKind.i64.wrap (d+dy)=d+dy:=fun e=>by
   rw [e] at hq;have:=of_decide_eq_true hq;rw [IntKind.wrap_i64,IntKind.wrap_i64];omega
  have WS:Hid (q=true→IntKind.i64.wrap (s+dx)=s+dx∧IntKind.i64.wrap (d+dy)=d+dy):=ws;clear hV hn hd bd h1 h2 h3 h4 hdx hdy hq ws;go_upto_region 2 with fail;have B5:=Vec.made8 w1 (.int .i64 R0) (.int .i64 C0) (.bool false) (.bool false) (.int .i64 R1) (.int .i64 C1) (.bool false) (.bool false) 45;have x5:=x1 w1 (.cells #[.int .i64 R0,.int .i64 C0,.bool false,.bool false,.int .i64 R1,.int .i64 C1,.bool false,.bool false] 45);obtain ⟨w2,hw2⟩:∃ u,w1.alloc (.cells #[.int .i64 R0,.int .i64 C0,.bool false,.bool false,.int .i64 R1,.int .i64 C1,.bool false,.bool false] 45)=u:=⟨_,rfl⟩;rw [hw2] at B5 x5 ⊢;replace B3:=B3.later x5;replace B4:=B4.later x5;replace X:=xt X x5;clear hw2 x5;obtain ⟨⟨a0,a1,a2,a3⟩,_⟩:=B3.box4;obtain ⟨⟨⟨p0,p1,p2,p3⟩,p4,p5,p6,p7⟩,_⟩:=B5.box8;go_wp2_with fail;refine (IN _).mono ?_;rintro e w3 ⟨rfl,e3⟩;clear a0 a1 a2 a3 p0 p1 p2 p3 p4 p5 p6 p7 IN B5;replace B3:=B3.later e3;replace B4:=B4.later e3;replace X:=xt X e3;clear e3;obtain ⟨⟨a0,a1,a2,a3⟩,a4,a5,a6,a7⟩:=B3.box4;obtain ⟨⟨m0,m1,m2,m3⟩,m4,m5,m6,m7⟩:=B4.box4;cases q
  ·have ZZ:Hid (refV s d h k=V):=Z.out rfl;clear Z Y WS
   go_wp2
   exact bodyPost_ret (v:=refV s d h k) (by simp [results,Tryz.results40,go_sem,m0,m1,m2,m3]) rfl ⟨congrArg Ending.returned ZZ.out,Ext.set4 (o:=0) X (by omega) _ _ _ _⟩
  ·have ZZ:Hid (refV (s+dx) (d+dy) h k=V):=Y.out rfl;obtain ⟨e1,e2⟩:=WS.out rfl;clear Z Y WS
   go_wp2
   exact bodyPost_ret (v:=refV (s+dx) (d+dy) h k) (by simp [results,Tryz.results40,go_sem,m0,m1,m2,m3]) rfl ⟨congrArg Ending.returned ZZ.out,Ext.set4 (o:=0) (xset (xset X (by simp only;omega) _) (by simp only;omega) _) (by omega) _ _ _ _⟩
end Go.Proofs.YtnbagcclckekkaaGreatDoor

