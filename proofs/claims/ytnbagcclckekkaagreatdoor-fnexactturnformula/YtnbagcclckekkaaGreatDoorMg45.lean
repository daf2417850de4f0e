import Derived.Test.YtnbagcclckekkaaGreatDoorMg43
import Derived.Test.YtnbagcclckekkaaGreatDoorMg44
import Derived.Test.YtnbagcclckekkaaGreatDoorMg38
import Derived.Test.YtnbagcclckekkaaGreatDoorMg42
import Derived.Test.YtnbagcclckekkaaGreatDoorMg9
import Derived.Test.YtnbagcclckekkaaGreatDoorFo
import Derived.Deep.DeepCutAuto
namespace Go.Proofs.YtnbagcclckekkaaGreatDoor
open Go.RowKit
set_option maxRecDepth 8000 in
set_option maxHeartbeats 8000000 in
theorem areaTI (k a m:Int) (d:Bool) (r c:Int) (f g:Bool) (r' c':Int) (f' g':Bool) (w:World) :
  Calls Tryz.prog 29 #[tuV k a m d,arV r c f g r' c' f' g'] w fun e w'=>e=.returned (taB k a m d r c f g r' c' f' g')∧Ext w w':=by
 obtain ⟨V,hV⟩:∃ V,taB k a m d r c f g r' c' f' g'=V:=⟨_,rfl⟩;rw [hV];unfold taB at hV;have GT:=fun w=>goodTI k a m d w;have GA:=fun w=>goodAI r c f g r' c' f' g' w;obtain ⟨p,hp⟩:∃ p,gTurnB k a m d=p:=⟨_,rfl⟩;obtain ⟨q,hq⟩:∃ q,goodAB r c r' c'=q:=⟨_,rfl⟩;rw [hp] at GT hV;rw [hq] at GA hV;have B2:=Vec.made4 w (.int .i64 k) (.int .i64 a) (.int .i64 m) (.bool d) 28;have X:=x1 w (.cells #[.int .i64 k,.int .i64 a,.int .i64 m,.bool d] 28);obtain ⟨wa,ha⟩:∃ wa,w.alloc (.cells #[.int .i64 k,.int .i64 a,.int .i64 m,.bool d] 28)=wa:=⟨_,rfl⟩;rw [ha] at B2 X;have sa:wa.heap.size=w.heap.size+1:=by rw [← ha,World.size_alloc]
 have B3:=Vec.made8 wa (.int .i64 r) (.int .i64 c) (.bool f) (.bool g) (.int .i64 r') (.int .i64 c') (.bool f') (.bool g') 45;have x3:=x1 wa (.cells #[.int .i64 r,.int .i64 c,.bool f,.bool g,.int .i64 r',.int .i64 c',.bool f',.bool g'] 45);obtain ⟨wb,hb⟩:∃ wb,wa.alloc (.cells #[.int .i64 r,.int .i64 c,.bool f,.bool g,.int .i64 r',.int .i64 c',.bool f',.bool g'] 45)=wb:=⟨_,rfl⟩;rw [hb] at B3 x3;have sb:wb.heap.size=w.heap.size+1+1:=by rw [← hb,World.size_alloc,sa]
 have B4:=Vec.made8 wb (.int .i64 0) (.int .i64 0) (.bool false) (.bool false) (.int .i64 0) (.int .i64 0) (.bool false) (.bool false) 45;have x4:=x1 wb (.cells #[.int .i64 0,.int .i64 0,.bool false,.bool false,.int .i64 0,.int .i64 0,.bool false,.bool false] 45);rw [sa] at B3;go_enter Tryz.func29,Tryz.ntmps29;go_upto_region 1 with fail
 (try rw [ha])
 (try rw [hb])
 obtain ⟨w0,hw0⟩:∃ w0,wb.alloc (.cells #[.int .i64 0,.int .i64 0,.bool false,.bool false,.int .i64 0,.int .i64 0,.bool false,.bool false] 45)=w0:=⟨_,rfl⟩;have s0:w0.heap.size=w.heap.size+1+1+1:=by rw [← hw0,World.size_alloc,sb]
 rw [hw0] at B4 x4 ⊢;rw [sb] at B4;replace B2:=(B2.later x3).later x4;replace B3:=B3.later x4;replace X:=xt (xt X x3) x4;clear ha hb hw0 sa sb x3 x4;obtain ⟨⟨a0,a1,a2,a3⟩,_⟩:=B2.box4;go_wp2_with fail;refine (GT _).mono ?_;rintro e w1 ⟨rfl,e1⟩;clear a0 a1 a2 a3 GT;have s1:=e1.size;replace B2:=B2.later e1;replace B3:=B3.later e1;replace B4:=B4.later e1;replace X:=xt X e1;clear e1;obtain ⟨⟨⟨m0,m1,m2,m3⟩,m4,m5,m6,m7⟩,⟨m8,m9,mA,mB⟩,mC,mD,mE,mF⟩:=B4.box8;cases p
 ·have Z:Hid (Value.tuple #[arV 0 0 false false 0 0 false false,.bool false]=V):=by unfold Hid;rw [← hV];simp
  clear hV
  go_wp2
  exact bodyPost_ret (v:=.tuple #[arV 0 0 false false 0 0 false false,.bool false]) (by simp [results,Tryz.results29,go_sem,m0,m1,m2,m3,m4,m5,m6,m7]) rfl ⟨congrArg Ending.returned Z.out,Ext.set8 X (by omega) _ _ _ _ _ _ _ _⟩
 clear m0 m1 m2 m3 m4 m5 m6 m7 m8 m9 mA mB mC mD mE mF;obtain ⟨⟨⟨a0,a1,a2,a3⟩,a4,a5,a6,a7⟩,_⟩:=B3.box8;go_wp2_with fail;refine (GA _).mono ?_;rintro e w2 ⟨rfl,e2⟩;clear a0 a1 a2 a3 a4 a5 a6 a7 GA;have s2:=e2.size;replace B2:=B2.later e2;replace B3:=B3.later e2;replace B4:=B4.later e2;replace X:=xt X e2;clear e2;obtain ⟨⟨⟨m0,m1,m2,m3⟩,m4,m5,m6,m7⟩,⟨m8,m9,mA,mB⟩,mC,mD,mE,mF⟩:=B4.box8;cases q
 ·have Z:Hid (Value.tuple #[arV 0 0 false false 0 0 false false,.bool false]=V):=by unfold Hid;rw [← hV];simp
  clear hV
  go_wp2
  exact bodyPost_ret (v:=.tuple #[arV 0 0 false false 0 0 false false,.bool false]) (by simp [results,Tryz.results29,go_sem,m0,m1,m2,m3,m4,m5,m6,m7]) rfl ⟨congrArg Ending.returned Z.out,Ext.set8 X (by omega) _ _ _ _ _ _ _ _⟩
 clear m0 m1 m2 m3 m4 m5 m6 m7 m8 m9 mA mB mC mD mE mF;obtain ⟨hk,hm,ha,hd⟩:=gTurnB_bd hp;obtain ⟨⟨hr,hc⟩,hr',hc'⟩:=goodAB_bd hq;clear hp hq;clear s1 s2 s0;obtain rfl | rfl:=hk
 ·have lim:limT 1=1000:=by simp [limT]
  rw [lim] at ha hd;simp only [true_and,if_true,if_true] at hV;obtain ⟨A1,A2,A3⟩:=lo_hi hr hr';have EN:=fun w=>tendsI 1 a m d r r' 1000 w lim (by omega) hm ha hd hr hr';have ST0:=st_good hm.1 ha.1 ha.2 hd A1 A2 A3;obtain ⟨sF,hsF⟩:∃ F,stF 1000 a m d (lo r r') (hi r r')=F:=⟨_,rfl⟩;obtain ⟨sT,hsT⟩:∃ T,stT 1000 a m d (lo r r') (hi r r')=T:=⟨_,rfl⟩;obtain ⟨F,hF⟩:∃ F,lfF 1000 a m d (lo r r') (hi r r')=F:=⟨_,rfl⟩;obtain ⟨T,hT⟩:∃ T,lfT 1000 a m d (lo r r') (hi r r')=T:=⟨_,rfl⟩;rw [hsF,hsT] at hV ST0;rw [hF,hT] at EN ST0;have ST:Hid ((T<F∧sF=0)∨(1≤F∧F≤T∧T≤1000∧sF=F∧sT=T)):=ST0;have Z:Hid (sF=0→Value.tuple #[arV 0 0 false false 0 0 false false,.bool false]=V):=fun h=>by rw [← hV,if_pos h]
  have Y1:Hid (sF ≠ 0→sF=F→sT=T→r'<r→Value.tuple #[arV T c f g F c' f' g',.bool true]=V):=fun h h1 h2 h'=>by rw [← hV,if_neg h,if_pos h',h1,h2]
  have Y2:Hid (sF ≠ 0→sF=F→sT=T→¬ r'<r→Value.tuple #[arV F c f g T c' f' g',.bool true]=V):=fun h h1 h2 h'=>by rw [← hV,if_neg h,if_neg h',h1,h2]
  clear hV hF hT hsF hsT ST0 A1 A2 A3 hm ha hd lim hr hr' hc hc';obtain ⟨⟨b0,b1,b2,b3⟩,_⟩:=B2.box4;obtain ⟨⟨⟨a0,a1,a2,a3⟩,a4,a5,a6,a7⟩,_⟩:=B3.box8;go_wp2_with fail;by_cases hx:r'<r
  ·refine (EN _).mono ?_;rintro e w4 ⟨rfl,e4⟩;replace B3:=B3.later e4;replace B4:=B4.later e4;replace X:=xt X e4;clear e4 B2 EN b0 b1 b2 b3 a0 a1 a2 a3 a4 a5 a6 a7;rw [if_pos hx];obtain ⟨⟨⟨a0,a1,a2,a3⟩,a4,a5,a6,a7⟩,⟨a8,a9,aA,aB⟩,aC,aD,aE,aF⟩:=B3.box8;have N3:=(B3.put 0 (by simp) (.int .i64 T)).put 4 (by simp) (.int .i64 F);have N4:=(B4.far (p:=⟨w.heap.size+1,0,none⟩) (by simp only;omega) (.int .i64 T)).far (p:=⟨w.heap.size+1,4,none⟩) (by simp only;omega) (.int .i64 F);have NX:=xset (p:=⟨w.heap.size+1,4,none⟩) (xset (p:=⟨w.heap.size+1,0,none⟩) X (by simp only;omega) (.int .i64 T)) (by simp only;omega) (.int .i64 F);go_upto_region 9 with fail;obtain ⟨w5,hw5⟩:∃ u,(w4.setCell ⟨w.heap.size+1,0,none⟩ (.int .i64 T)).setCell ⟨w.heap.size+1,4,none⟩ (.int .i64 F)=u:=⟨_,rfl⟩;rw [hw5] at N3 N4 NX ⊢;clear hw5 a0 a1 a2 a3 a4 a5 a6 a7 a8 a9 aA aB aC aD aE aF B3 B4 X;by_cases h0:F > T
   ·have f0:decide (F > T)=true:=decide_eq_true h0;rw [f0];have ZZ:Hid (Value.tuple #[arV 0 0 false false 0 0 false false,.bool false]=V):=Z.out (by have:=ST.out;omega);clear Z Y1 Y2 ST;obtain ⟨⟨⟨m0,m1,m2,m3⟩,m4,m5,m6,m7⟩,⟨m8,m9,mA,mB⟩,mC,mD,mE,mF⟩:=N4.box8;obtain ⟨⟨⟨a0,a1,a2,a3⟩,a4,a5,a6,a7⟩,_⟩:=N3.box8
    go_wp2
    exact bodyPost_ret (v:=.tuple #[arV 0 0 false false 0 0 false false,.bool false]) (by simp [results,Tryz.results29,go_sem,m0,m1,m2,m3,m4,m5,m6,m7]) rfl ⟨congrArg Ending.returned ZZ.out,Ext.set8 NX (by omega) _ _ _ _ _ _ _ _⟩
   ·have f0:decide (F > T)=false:=decide_eq_false h0;rw [f0];have ZZ:Hid (Value.tuple #[arV T c f g F c' f' g',.bool true]=V):=Y1.out (by have:=ST.out;omega) (by have:=ST.out;omega) (by have:=ST.out;omega) hx;clear Z Y1 Y2 ST;obtain ⟨⟨⟨m0,m1,m2,m3⟩,m4,m5,m6,m7⟩,⟨m8,m9,mA,mB⟩,mC,mD,mE,mF⟩:=N4.box8;obtain ⟨⟨⟨a0,a1,a2,a3⟩,a4,a5,a6,a7⟩,_⟩:=N3.box8
    go_wp2
    exact bodyPost_ret (v:=.tuple #[arV T c f g F c' f' g',.bool true]) (by simp [results,Tryz.results29,go_sem,m0,m1,m2,m3,m4,m5,m6,m7]) rfl ⟨congrArg Ending.returned ZZ.out,Ext.set8 NX (by omega) _ _ _ _ _ _ _ _⟩
  ·refine (EN _).mono ?_;rintro e w4 ⟨rfl,e4⟩;replace B3:=B3.later e4;replace B4:=B4.later e4;replace X:=xt X e4;clear e4 B2 EN b0 b1 b2 b3 a0 a1 a2 a3 a4 a5 a6 a7;rw [if_neg hx];obtain ⟨⟨⟨a0,a1,a2,a3⟩,a4,a5,a6,a7⟩,⟨a8,a9,aA,aB⟩,aC,aD,aE,aF⟩:=B3.box8;have N3:=(B3.put 0 (by simp) (.int .i64 F)).put 4 (by simp) (.int .i64 T);have N4:=(B4.far (p:=⟨w.heap.size+1,0,none⟩) (by simp only;omega) (.int .i64 F)).far (p:=⟨w.heap.size+1,4,none⟩) (by simp only;omega) (.int .i64 T);have NX:=xset (p:=⟨w.heap.size+1,4,none⟩) (xset (p:=⟨w.heap.size+1,0,none⟩) X (by simp only;omega) (.int .i64 F)) (by simp only;omega) (.int .i64 T);go_upto_region 9 with fail;obtain ⟨w5,hw5⟩:∃ u,(w4.setCell ⟨w.heap.size+1,0,none⟩ (.int .i64 F)).setCell ⟨w.heap.size+1,4,none⟩ (.int .i64 T)=u:=⟨_,rfl⟩;rw [hw5] at N3 N4 NX ⊢;clear hw5 a0 a1 a2 a3 a4 a5 a6 a7 a8 a9 aA aB aC aD aE aF B3 B4 X;by_cases h0:F > T
   ·have f0:decide (F > T)=true:=decide_eq_true h0;rw [f0];have ZZ:Hid (Value.tuple #[arV 0 0 false false 0 0 false false,.bool false]=V):=Z.out (by have:=ST.out;omega);clear Z Y1 Y2 ST;obtain ⟨⟨⟨m0,m1,m2,m3⟩,m4,m5,m6,m7⟩,⟨m8,m9,mA,mB⟩,mC,mD,mE,mF⟩:=N4.box8;obtain ⟨⟨⟨a0,a1,a2,a3⟩,a4,a5,a6,a7⟩,_⟩:=N3.box8
    go_wp2
    exact bodyPost_ret (v:=.tuple #[arV 0 0 false false 0 0 false false,.bool false]) (by simp [results,Tryz.results29,go_sem,m0,m1,m2,m3,m4,m5,m6,m7]) rfl ⟨congrArg Ending.returned ZZ.out,Ext.set8 NX (by omega) _ _ _ _ _ _ _ _⟩
   ·have f0:decide (F > T)=false:=decide_eq_false h0;rw [f0];have ZZ:Hid (Value.tuple #[arV F c f g T c' f' g',.bool true]=V):=Y2.out (by have:=ST.out;omega) (by have:=ST.out;omega) (by have:=ST.out;omega) hx;clear Z Y1 Y2 ST;obtain ⟨⟨⟨m0,m1,m2,m3⟩,m4,m5,m6,m7⟩,⟨m8,m9,mA,mB⟩,mC,mD,mE,mF⟩:=N4.box8;obtain ⟨⟨⟨a0,a1,a2,a3⟩,a4,a5,a6,a7⟩,_⟩:=N3.box8
    go_wp2
    exact bodyPost_ret (v:=.tuple #[arV F c f g T c' f' g',.bool true]) (by simp [results,Tryz.results29,go_sem,m0,m1,m2,m3,m4,m5,m6,m7]) rfl ⟨congrArg Ending.returned ZZ.out,Ext.set8 NX (by omega) _ _ _ _ _ _ _ _⟩
 ·have lim:limT 2=200:=by simp [limT]
  rw [lim] at ha hd;simp only [true_and,if_true,show ((2:Int)=1)=False by decide,if_false] at hV;obtain ⟨A1,A2,A3⟩:=lo_hi hc hc';have EN:=fun w=>tendsI 2 a m d c c' 200 w lim (by omega) hm ha hd hc hc';have ST0:=st_good hm.1 ha.1 ha.2 hd A1 A2 A3;obtain ⟨sF,hsF⟩:∃ F,stF 200 a m d (lo c c') (hi c c')=F:=⟨_,rfl⟩;obtain ⟨sT,hsT⟩:∃ T,stT 200 a m d (lo c c') (hi c c')=T:=⟨_,rfl⟩;obtain ⟨F,hF⟩:∃ F,lfF 200 a m d (lo c c') (hi c c')=F:=⟨_,rfl⟩;obtain ⟨T,hT⟩:∃ T,lfT 200 a m d (lo c c') (hi c c')=T:=⟨_,rfl⟩;rw [hsF,hsT] at hV ST0;rw [hF,hT] at EN ST0;have ST:Hid ((T<F∧sF=0)∨(1≤F∧F≤T∧T≤200∧sF=F∧sT=T)):=ST0;have Z:Hid (sF=0→Value.tuple #[arV 0 0 false false 0 0 false false,.bool false]=V):=fun h=>by rw [← hV,if_pos h]
  have Y1:Hid (sF ≠ 0→sF=F→sT=T→c'<c→Value.tuple #[arV r T f g r' F f' g',.bool true]=V):=fun h h1 h2 h'=>by rw [← hV,if_neg h,if_pos h',h1,h2]
  have Y2:Hid (sF ≠ 0→sF=F→sT=T→¬ c'<c→Value.tuple #[arV r F f g r' T f' g',.bool true]=V):=fun h h1 h2 h'=>by rw [← hV,if_neg h,if_neg h',h1,h2]
  clear hV hF hT hsF hsT ST0 A1 A2 A3 hm ha hd lim hr hr' hc hc';obtain ⟨⟨b0,b1,b2,b3⟩,_⟩:=B2.box4;obtain ⟨⟨⟨a0,a1,a2,a3⟩,a4,a5,a6,a7⟩,_⟩:=B3.box8;go_wp2_with fail;by_cases hx:c'<c
  ·refine (EN _).mono ?_;rintro e w4 ⟨rfl,e4⟩;replace B3:=B3.later e4;replace B4:=B4.later e4;replace X:=xt X e4;clear e4 B2 EN b0 b1 b2 b3 a0 a1 a2 a3 a4 a5 a6 a7;rw [if_pos hx];obtain ⟨⟨⟨a0,a1,a2,a3⟩,a4,a5,a6,a7⟩,⟨a8,a9,aA,aB⟩,aC,aD,aE,aF⟩:=B3.box8;have N3:=(B3.put 1 (by simp) (.int .i64 T)).put 5 (by simp) (.int .i64 F);have N4:=(B4.far (p:=⟨w.heap.size+1,1,none⟩) (by simp only;omega) (.int .i64 T)).far (p:=⟨w.heap.size+1,5,none⟩) (by simp only;omega) (.int .i64 F);have NX:=xset (p:=⟨w.heap.size+1,5,none⟩) (xset (p:=⟨w.heap.size+1,1,none⟩) X (by simp only;omega) (.int .i64 T)) (by simp only;omega) (.int .i64 F);go_upto_region 9 with fail;obtain ⟨w5,hw5⟩:∃ u,(w4.setCell ⟨w.heap.size+1,1,none⟩ (.int .i64 T)).setCell ⟨w.heap.size+1,5,none⟩ (.int .i64 F)=u:=⟨_,rfl⟩;rw [hw5] at N3 N4 NX ⊢;clear hw5 a0 a1 a2 a3 a4 a5 a6 a7 a8 a9 aA aB aC aD aE aF B3 B4 X;by_cases h0:F > T
   ·have f0:decide (F > T)=true:=decide_eq_true h0;rw [f0];have ZZ:Hid (Value.tuple #[arV 0 0 false false 0 0 false false,.bool false]=V):=Z.out (by have:=ST.out;omega);clear Z Y1 Y2 ST;obtain ⟨⟨⟨m0,m1,m2,m3⟩,m4,m5,m6,m7⟩,⟨m8,m9,mA,mB⟩,mC,mD,mE,mF⟩:=N4.box8;obtain ⟨⟨⟨a0,a1,a2,a3⟩,a4,a5,a6,a7⟩,_⟩:=N3.box8
    go_wp2
    exact bodyPost_ret (v:=.tuple #[arV 0 0 false false 0 0 false false,.bool false]) (by simp [results,Tryz.results29,go_sem,m0,m1,m2,m3,m4,m5,m6,m7]) rfl ⟨congrArg Ending.returned ZZ.out,Ext.set8 NX (by omega) _ _ _ _ _ _ _ _⟩
   ·have f0:decide (F > T)=false:=decide_eq_false h0;rw [f0];have ZZ:Hid (Value.tuple #[arV r T f g r' F f' g',.bool true]=V):=Y1.out (by have:=ST.out;omega) (by have:=ST.out;omega) (by have:=ST.out;omega) hx;clear Z Y1 Y2 ST;obtain ⟨⟨⟨m0,m1,m2,m3⟩,m4,m5,m6,m7⟩,⟨m8,m9,mA,mB⟩,mC,mD,mE,mF⟩:=N4.box8;obtain ⟨⟨⟨a0,a1,a2,a3⟩,a4,a5,a6,a7⟩,_⟩:=N3.box8
    go_wp2
    exact bodyPost_ret (v:=.tuple #[arV r T f g r' F f' g',.bool true]) (by simp [results,Tryz.results29,go_sem,m0,m1,m2,m3,m4,m5,m6,m7]) rfl ⟨congrArg Ending.returned ZZ.out,Ext.set8 NX (by omega) _ _ _ _ _ _ _ _⟩
  ·refine (EN _).mono ?_;rintro e w4 ⟨rfl,e4⟩;replace B3:=B3.later e4;replace B4:=B4.later e4;replace X:=xt X e4;clear e4 B2 EN b0 b1 b2 b3 a0 a1 a2 a3 a4 a5 a6 a7;rw [if_neg hx];obtain ⟨⟨⟨a0,a1,a2,a3⟩,a4,a5,a6,a7⟩,⟨a8,a9,aA,aB⟩,aC,aD,aE,aF⟩:=B3.box8;have N3:=(B3.put 1 (by simp) (.int .i64 F)).put 5 (by simp) (.int .i64 T);have N4:=(B4.far (p:=⟨w.heap.size+1,1,none⟩) (by simp only;omega) (.int .i64 F)).far (p:=⟨w.heap.size+1,5,none⟩) (by simp only;omega) (.int .i64 T);have NX:=xset (p:=⟨w.heap.size+1,5,none⟩) (xset (p:=⟨w.heap.size+1,1,none⟩) X (by simp only;omega) (.int .i64 F)) (by simp only;omega) (.int .i64 T);go_upto_region 9 with fail;obtain ⟨w5,hw5⟩:∃ u,(w4.setCell ⟨w.heap.size+1,1,none⟩ (.int .i64 F)).setCell ⟨w.heap.size+1,5,none⟩ (.int .i64 T)=u:=⟨_,rfl⟩;rw [hw5] at N3 N4 NX ⊢;clear hw5 a0 a1 a2 a3 a4 a5 a6 a7 a8 a9 aA aB aC aD aE aF B3 B4 X;by_cases h0:F > T
   ·have f0:decide (F > T)=true:=decide_eq_true h0;rw [f0];have ZZ:Hid (Value.tuple #[arV 0 0 false false 0 0 false false,.bool false]=V):=Z.out (by have:=ST.out;omega);clear Z Y1 Y2 ST;obtain ⟨⟨⟨m0,m1,m2,m3⟩,m4,m5,m6,m7⟩,⟨m8,m9,mA,mB⟩,mC,mD,mE,mF⟩:=N4.box8;obtain ⟨⟨⟨a0,a1,a2,a3⟩,a4,a5,a6,a7⟩,_⟩:=N3.box8
    go_wp2
    exact bodyPost_ret (v:=.tuple #[arV 0 0 false false 0 0 false false,.bool false]) (by simp [results,Tryz.results29,go_sem,m0,m1,m2,m3,m4,m5,m6,m7]) rfl ⟨congrArg Ending.returned ZZ.out,Ext.set8 NX (by omega) _ _ _ _ _ _ _ _⟩
   ·have f0:decide (F > T)=false:=decide_eq_false h0;rw [f0];have ZZ:Hid (Value.tuple #[arV r F f g r' T f' g',.bool true]=V):=Y2.out (by have:=ST.out;omega) (by have:=ST.out;omega) (by have:=ST.out;omega) hx;clear Z Y1 Y2 ST;obtain ⟨⟨⟨m0,m1,m2,m3⟩,m4,m5,m6,m7⟩,⟨m8,m9,mA,mB⟩,mC,mD,mE,mF⟩:=N4.box8;obtain ⟨⟨⟨a0,a1,a2,a3⟩,a4,a5,a6,a7⟩,_⟩:=N3.box8
    go_wp2
    exact bodyPost_ret (v:=.tuple #[arV r F f g r' T f' g',.bool true]) (by simp [results,Tryz.results29,go_sem,m0,m1,m2,m3,m4,m5,m6,m7]) rfl ⟨congrArg Ending.returned ZZ.out,Ext.set8 NX (by omega) _ _ _ _ _ _ _ _⟩
theorem ta_tr (k a m:Int) (d:Bool) (r c:Int) (f g:Bool):∃ n1 n2 n3 n4 n5 n6 n7 n8 q,taB k a m d r c f g r c f g=.tuple #[arV n1 n2 n3 n4 n5 n6 n7 n8,.bool q]∧trB k a m d r c f g=.tuple #[refV n1 n2 n3 n4,.bool q]:=by
 unfold taB trB;have e:goodAB r c r c=goodRB r c:=by unfold goodAB;simp
 rw [e];by_cases hg:gTurnB k a m d=true∧goodRB r c=true
 ·rw [if_pos hg,if_pos hg];obtain ⟨hk,hm,ha,hd⟩:=gTurnB_bd hg.1;obtain ⟨hr,hc⟩:=goodRB_bd hg.2;have key:∀ (l n:Int),limT k=l→1≤n→n≤l→(tN l a m d n=0∧stF l a m d (lo n n) (hi n n)=0)∨(tN l a m d n ≠ 0∧stF l a m d (lo n n) (hi n n)=tN l a m d n∧stT l a m d (lo n n) (hi n n)=tN l a m d n):=by
   intro l n hl h1 h2;rw [hl] at ha hd;have e1:lo n n=n:=by have:=lo_is n n;omega
   have e2:hi n n=n:=by have:=hi_is n n;omega
   rw [e1,e2];obtain ⟨s1,s2⟩:=st_step hm.1 ha.1 ha.2 hd h1 (Int.le_refl n) h2;obtain ⟨t1,t2⟩:=st_start hm.1 ha.1 ha.2 hd h1 h2;have ti:=tN_is l a m d n;have t0:0≤tN l a m d n:=by cases d <;> simp at ti <;> omega
   by_cases hz:0<tN l a m d n
   ·obtain ⟨u1,u2⟩:=s1 hz;rw [t1,if_pos rfl] at u1;exact .inr ⟨by omega,u1,u2⟩
   ·obtain ⟨u1,u2⟩:=s2 (by omega);rw [t1] at u1;exact .inl ⟨by omega,u1⟩
  rcases hk with rfl | rfl
  ·rw [if_pos rfl,if_pos rfl]
   rcases key 1000 r (by simp [limT]) hr.1 hr.2 with ⟨h1,h2⟩ | ⟨h1,h2,h3⟩
   ·rw [if_pos h1,if_pos h2];exact ⟨_,_,_,_,_,_,_,_,_,rfl,rfl⟩
   ·rw [if_neg h1,h2,h3,if_neg h1,if_neg (Int.lt_irrefl r)];exact ⟨_,_,_,_,_,_,_,_,_,rfl,rfl⟩
  ·rw [if_neg (show ¬ ((2:Int)=1) by decide),if_neg (show ¬ ((2:Int)=1) by decide)]
   rcases key 200 c (by simp [limT]) hc.1 hc.2 with ⟨h1,h2⟩ | ⟨h1,h2,h3⟩
   ·rw [if_pos h1,if_pos h2];exact ⟨_,_,_,_,_,_,_,_,_,rfl,rfl⟩
   ·rw [if_neg h1,h2,h3,if_neg h1,if_neg (Int.lt_irrefl c)];exact ⟨_,_,_,_,_,_,_,_,_,rfl,rfl⟩
 ·rw [if_neg hg,if_neg hg];exact ⟨_,_,_,_,_,_,_,_,_,rfl,rfl⟩
def tT (k a m:Int) (d:Bool) (x:AT):Option AT:=
 if gTurnB k a m d=true∧goodAB x.r x.c x.r2 x.c2=true then
  (if k=1 then (if stF 1000 a m d (lo x.r x.r2) (hi x.r x.r2)=0 then none
   else if x.r2<x.r then some ⟨stT 1000 a m d (lo x.r x.r2) (hi x.r x.r2),x.c,x.f,x.g,stF 1000 a m d (lo x.r x.r2) (hi x.r x.r2),x.c2,x.f2,x.g2⟩ else some ⟨stF 1000 a m d (lo x.r x.r2) (hi x.r x.r2),x.c,x.f,x.g,stT 1000 a m d (lo x.r x.r2) (hi x.r x.r2),x.c2,x.f2,x.g2⟩)
  else (if stF 200 a m d (lo x.c x.c2) (hi x.c x.c2)=0 then none
   else if x.c2<x.c then some ⟨x.r,stT 200 a m d (lo x.c x.c2) (hi x.c x.c2),x.f,x.g,x.r2,stF 200 a m d (lo x.c x.c2) (hi x.c x.c2),x.f2,x.g2⟩ else some ⟨x.r,stF 200 a m d (lo x.c x.c2) (hi x.c x.c2),x.f,x.g,x.r2,stT 200 a m d (lo x.c x.c2) (hi x.c x.c2),x.f2,x.g2⟩))
 else none
theorem ta_tT (k a m:Int) (d:Bool) (x:AT):∃ b:AT,taB k a m d x.r x.c x.f x.g x.r2 x.c2 x.f2 x.g2=.tuple #[b.val,.bool (tT k a m d x).isSome]∧(∀ z,tT k a m d x=some z→b=z)∧(tT k a m d x=none→b=⟨0,0,false,false,0,0,false,false⟩):=by
 unfold taB tT
 split
 ·split
  ·split
   ·exact ⟨⟨0,0,false,false,0,0,false,false⟩,rfl,(fun z h=>by cases h),fun _=>rfl⟩
   ·split
    ·exact ⟨_,rfl,(fun z h=>by cases h;rfl),fun h=>by cases h⟩
    ·exact ⟨_,rfl,(fun z h=>by cases h;rfl),fun h=>by cases h⟩
  ·split
   ·exact ⟨⟨0,0,false,false,0,0,false,false⟩,rfl,(fun z h=>by cases h),fun _=>rfl⟩
   ·split
    ·exact ⟨_,rfl,(fun z h=>by cases h;rfl),fun h=>by cases h⟩
    ·exact ⟨_,rfl,(fun z h=>by cases h;rfl),fun h=>by cases h⟩
 ·exact ⟨⟨0,0,false,false,0,0,false,false⟩,rfl,(fun z h=>by cases h),fun _=>rfl⟩
theorem tr_tT (k a m:Int) (d:Bool) (r c:Int) (f g:Bool):∃ n1 n2 n3 n4 q,trB k a m d r c f g=.tuple #[refV n1 n2 n3 n4,.bool q]∧(q=true→toldN 5 (tT k a m d ⟨r,c,f,g,r,c,f,g⟩)=⟨5,[],false,0,0,n1,n2,n3,n4,0,0,false,false,0⟩)∧(q=false→toldN 5 (tT k a m d ⟨r,c,f,g,r,c,f,g⟩)=lostNT):=by
 obtain ⟨n1,n2,n3,n4,n5,n6,n7,n8,q,e1,e2⟩:=ta_tr k a m d r c f g;obtain ⟨b,h1,h2,_⟩:=ta_tT k a m d ⟨r,c,f,g,r,c,f,g⟩;obtain ⟨b1,b2,b3,b4,b5,b6,b7,b8⟩:=b;have h3:=e1.symm.trans h1;simp only [Value.tuple.injEq,Array.mk.injEq,List.cons.injEq,Value.agg.injEq,Value.int.injEq,Value.bool.injEq,and_true,true_and] at h3;obtain ⟨⟨rfl,rfl,rfl,rfl,rfl,rfl,rfl,rfl⟩,hq⟩:=h3;refine ⟨_,_,_,_,q,e2,fun h=>?_,fun h=>?_⟩
 ·cases hT:tT k a m d ⟨r,c,f,g,r,c,f,g⟩ with
  | none=>rw [hT,h] at hq;cases hq
  | some z=>obtain rfl:=h2 z hT;rfl
 ·cases hT:tT k a m d ⟨r,c,f,g,r,c,f,g⟩ with
  | none=>rfl
  | some z=>rw [hT,h] at hq;cases hq
theorem ta_6 (k a m:Int) (d:Bool) (r c:Int) (f g:Bool) (r2 c2:Int) (f2 g2:Bool):∃ n1 n2 n3 n4 n5 n6 n7 n8 q,taB k a m d r c f g r2 c2 f2 g2=.tuple #[arV n1 n2 n3 n4 n5 n6 n7 n8,.bool q]∧(q=true→toldN 6 (tT k a m d ⟨r,c,f,g,r2,c2,f2,g2⟩)=⟨6,[],false,0,0,n1,n2,n3,n4,n5,n6,n7,n8,0⟩)∧(q=false→toldN 6 (tT k a m d ⟨r,c,f,g,r2,c2,f2,g2⟩)=lostNT):=by
 obtain ⟨b,h1,h2,_⟩:=ta_tT k a m d ⟨r,c,f,g,r2,c2,f2,g2⟩;obtain ⟨b1,b2,b3,b4,b5,b6,b7,b8⟩:=b;refine ⟨_,_,_,_,_,_,_,_,_,h1,fun h=>?_,fun h=>?_⟩
 ·cases hT:tT k a m d ⟨r,c,f,g,r2,c2,f2,g2⟩ with
  | none=>rw [hT] at h;cases h
  | some z=>obtain rfl:=h2 z hT;rfl
 ·cases hT:tT k a m d ⟨r,c,f,g,r2,c2,f2,g2⟩ with
  | none=>rfl
  | some z=>rw [hT] at h;cases h
theorem good5 {x:NT} (h:x.good=true) (hk:x.k=5):∃ r c f g,x=⟨5,[],false,0,0,r,c,f,g,0,0,false,false,0⟩:=by
 obtain ⟨k,t,n,d,e,r,c,f,g,r2,c2,f2,g2,q⟩:=x;dsimp only at hk;subst hk;unfold NT.good goodN at h;simp at h;obtain ⟨⟨rfl,rfl,rfl,rfl,rfl,rfl,rfl,rfl,rfl⟩,_⟩:=h;exact ⟨_,_,_,_,rfl⟩
theorem good6 {x:NT} (h:x.good=true) (hk:x.k=6):∃ r c f g r2 c2 f2 g2,x=⟨6,[],false,0,0,r,c,f,g,r2,c2,f2,g2,0⟩:=by
 obtain ⟨k,t,n,d,e,r,c,f,g,r2,c2,f2,g2,q⟩:=x;dsimp only at hk;subst hk;unfold NT.good goodN at h;simp at h;obtain ⟨⟨rfl,rfl,rfl,rfl,rfl⟩,_⟩:=h;exact ⟨_,_,_,_,_,_,_,_,rfl⟩
theorem hi8T:(Tryz.prog.info? 45).map (·.size)=some 8:=by kernel_rfl
set_option maxRecDepth 8000 in
set_option maxHeartbeats 4000000 in
theorem tellT (k a m:Int) (d:Bool) (Bc:Nat) (x:AT) (w:World) (V:Vec w Bc [.int .i64 k,.int .i64 a,.int .i64 m,.bool d]) :
  Calls Tryz.prog 28 #[x.val,.pointer (some ⟨Bc,0,none⟩)] w fun e w'=>(∃ b:AT,e=.returned (.tuple #[b.val,.bool (tT k a m d x).isSome])∧∀ z,tT k a m d x=some z→b=z)∧Ext w w':=by
 obtain ⟨b,hb,hz,_⟩:=ta_tT k a m d x;have C:=fun w=>areaTI k a m d x.r x.c x.f x.g x.r2 x.c2 x.f2 x.g2 w;rw [hb] at C;obtain ⟨r,c,f,g,r2,c2,f2,g2⟩:=x;dsimp only at C;obtain ⟨q,hq⟩:∃ q,(tT k a m d ⟨r,c,f,g,r2,c2,f2,g2⟩).isSome=q:=⟨_,rfl⟩;have HZ:Hid (∀ z,tT k a m d ⟨r,c,f,g,r2,c2,f2,g2⟩=some z→b=z):=hz;rw [hq] at C ⊢;obtain ⟨r',c',f',g',r2',c2',f2',g2'⟩:=b;clear hq hb hz;have XB:Ext w ((w.alloc (.cells #[.int .i64 r,.int .i64 c,.bool f,.bool g,.int .i64 r2,.int .i64 c2,.bool f2,.bool g2] 45)).alloc (.cells #[.int .i64 0,.int .i64 0,.bool false,.bool false,.int .i64 0,.int .i64 0,.bool false,.bool false] 45)):=xa (x1 _ _) _;have VL:=V.later XB;have VA:Vec ((w.alloc (.cells #[.int .i64 r,.int .i64 c,.bool f,.bool g,.int .i64 r2,.int .i64 c2,.bool f2,.bool g2] 45)).alloc (.cells #[.int .i64 0,.int .i64 0,.bool false,.bool false,.int .i64 0,.int .i64 0,.bool false,.bool false] 45)) w.heap.size [.int .i64 r,.int .i64 c,.bool f,.bool g,.int .i64 r2,.int .i64 c2,.bool f2,.bool g2]:=(vec_made w [.int .i64 r,.int .i64 c,.bool f,.bool g,.int .i64 r2,.int .i64 c2,.bool f2,.bool g2] 45).later (x1 _ _);have VZ:=vec_made (w.alloc (.cells #[.int .i64 r,.int .i64 c,.bool f,.bool g,.int .i64 r2,.int .i64 c2,.bool f2,.bool g2] 45)) [.int .i64 0,.int .i64 0,.bool false,.bool false,.int .i64 0,.int .i64 0,.bool false,.bool false] 45;change Vec ((w.alloc (.cells #[.int .i64 r,.int .i64 c,.bool f,.bool g,.int .i64 r2,.int .i64 c2,.bool f2,.bool g2] 45)).alloc (.cells #[.int .i64 0,.int .i64 0,.bool false,.bool false,.int .i64 0,.int .i64 0,.bool false,.bool false] 45)) _ _ at VZ;rw [World.size_alloc] at VZ;have l0:=(VL 0 _ rfl).1;have l1:=(VL 1 _ rfl).1;have l2:=(VL 2 _ rfl).1;have l3:=(VL 3 _ rfl).1;have q0:=(VA 0 _ rfl).1;have q1:=(VA 1 _ rfl).1;have q2:=(VA 2 _ rfl).1;have q3:=(VA 3 _ rfl).1;have q4:=(VA 4 _ rfl).1;have q5:=(VA 5 _ rfl).1;have q6:=(VA 6 _ rfl).1;have q7:=(VA 7 _ rfl).1;obtain ⟨wb,hwb⟩:∃ z,(w.alloc (.cells #[.int .i64 r,.int .i64 c,.bool f,.bool g,.int .i64 r2,.int .i64 c2,.bool f2,.bool g2] 45)).alloc (.cells #[.int .i64 0,.int .i64 0,.bool false,.bool false,.int .i64 0,.int .i64 0,.bool false,.bool false] 45)=z:=⟨_,rfl⟩;have HWB:Hid ((w.alloc (.cells #[.int .i64 r,.int .i64 c,.bool f,.bool g,.int .i64 r2,.int .i64 c2,.bool f2,.bool g2] 45)).alloc (.cells #[.int .i64 0,.int .i64 0,.bool false,.bool false,.int .i64 0,.int .i64 0,.bool false,.bool false] 45)=wb):=hwb;rw [hwb] at XB VZ l0 l1 l2 l3 q0 q1 q2 q3 q4 q5 q6 q7;have HC:Hid (∀ W,Calls Tryz.prog 29 #[tuV k a m d,.agg #[.int .i64 r,.int .i64 c,.bool f,.bool g,.int .i64 r2,.int .i64 c2,.bool f2,.bool g2]] W fun e w'=>e=.returned (.tuple #[.agg #[.int .i64 r',.int .i64 c',.bool f',.bool g',.int .i64 r2',.int .i64 c2',.bool f2',.bool g2'],.bool q])∧Ext W w'):=C;have HVZ:Hid (Vec wb (w.heap.size+1) [.int .i64 0,.int .i64 0,.bool false,.bool false,.int .i64 0,.int .i64 0,.bool false,.bool false]):=VZ;clear V VL VA VZ C hwb;go_enter Tryz.func28,Tryz.ntmps28;go_upto_region 1 with fail;rw [HWB.out];go_wp2_with fail;refine (HC.out wb).mono ?_;rintro e w5 ⟨rfl,e5⟩;have V5:=HVZ.out.later e5;have VT:w5.there (w.heap.size+1) 0 8:=vec_thereN V5 (by simp);have VR:=World.rangeAt_setCells_same w5 (w.heap.size+1) 0 [.int .i64 r',.int .i64 c',.bool f',.bool g',.int .i64 r2',.int .i64 c2',.bool f2',.bool g2'] VT;have XR:=Ext.setCells (b:=w.heap.size+1) (by omega) [.int .i64 r',.int .i64 c',.bool f',.bool g',.int .i64 r2',.int .i64 c2',.bool f2',.bool g2'] 0 w5 (xt XB e5);have one:(#[.int .i64 r',.int .i64 c',.bool f',.bool g',.int .i64 r2',.int .i64 c2',.bool f2',.bool g2']:Array Value).all (·.oneCell')=true:=by simp [Value.oneCell']
 obtain ⟨w6,hw6⟩:∃ z,w5.setCells (w.heap.size+1) 0 [.int .i64 r',.int .i64 c',.bool f',.bool g',.int .i64 r2',.int .i64 c2',.bool f2',.bool g2']=z:=⟨_,rfl⟩;have HW6:Hid (w5.setCells (w.heap.size+1) 0 [.int .i64 r',.int .i64 c',.bool f',.bool g',.int .i64 r2',.int .i64 c2',.bool f2',.bool g2']=w6):=hw6;rw [hw6] at VR XR;have z0:=rangeAt_cell VR (i:=0) rfl;have z1:=rangeAt_cell VR (i:=1) rfl;have z2:=rangeAt_cell VR (i:=2) rfl;have z3:=rangeAt_cell VR (i:=3) rfl;have z4:=rangeAt_cell VR (i:=4) rfl;have z5:=rangeAt_cell VR (i:=5) rfl;have z6:=rangeAt_cell VR (i:=6) rfl;have z7:=rangeAt_cell VR (i:=7) rfl;clear hw6 VR V5;go_wp2_with (refine wpList_store_mid rfl _ _ _ rfl (w.heap.size+1) 0 #[.int .i64 r',.int .i64 c',.bool f',.bool g',.int .i64 r2',.int .i64 c2',.bool f2',.bool g2'] rfl rfl VT hi8T one ?_;show wpList _ _ _ _ _ (w5.setCells (w.heap.size+1) 0 [.int .i64 r',.int .i64 c',.bool f',.bool g',.int .i64 r2',.int .i64 c2',.bool f2',.bool g2']);rw [HW6.out]);exact bodyPost_ret (v:=.tuple #[.agg #[.int .i64 r',.int .i64 c',.bool f',.bool g',.int .i64 r2',.int .i64 c2',.bool f2',.bool g2'],.bool q]) (by simp [results,Tryz.results28,go_sem,z0,z1,z2,z3,z4,z5,z6,z7]) rfl ⟨⟨⟨r',c',f',g',r2',c2',f2',g2'⟩,rfl,HZ.out⟩,XR⟩
noncomputable def turnR (k a m:Int) (d:Bool) (f:List NT):List NT:=if gTurnB k a m d=true then rwR (tT k a m d) f else []
theorem rwPostB_nil {w w':World} (x:Ext w w'):RwPostB [] w (.returned (.slice none 0 0)) w':=⟨.slice none 0 0,0,rfl,⟨rfl,none,0,rfl,Nat.le_refl _,fun h=>absurd h (by simp)⟩,fun h=>absurd h (by simp),x⟩
theorem RwPostB.ext {l:List NT} {w w1 w2:World} {e:Ending} (h:RwPostB l w1 e w2) (x:Ext w w1):RwPostB l w e w2:=by
 obtain ⟨v,g,h1,h2,h3,h4⟩:=h;exact ⟨v,g,h1,h2,fun h=>⟨Nat.le_trans x.size (h3 h).1,(h3 h).2⟩,xt x h4⟩
set_option maxRecDepth 8000 in
set_option maxHeartbeats 4000000 in
theorem turnFI (k a m:Int) (d:Bool) (v:Value) (f:List NT) (w:World) (h:NodesIn w v f) (hr:∀ x ∈ f,x.fits) (hl:f.length≤1048576) (hT:Tens w) (hE:ErrTab w) (hO:OpTab w) (LW:LibW w) (IT:ItoaC w) :
  Calls Tryz.prog 10 #[.agg #[.int .i64 k,.int .i64 a,.int .i64 m,.bool d],v] w fun e w'=>RwPostB (turnR k a m d f) w e w':=by
 have VT:=vec_made w [.int .i64 k,.int .i64 a,.int .i64 m,.bool d] 28;change Vec (w.alloc (.cells #[.int .i64 k,.int .i64 a,.int .i64 m,.bool d] 28)) _ _ at VT;have XT:Ext w (w.alloc (.cells #[.int .i64 k,.int .i64 a,.int .i64 m,.bool d] 28)):=x1 _ _;have t0:=(VT 0 _ rfl).1;have t1:=(VT 1 _ rfl).1;have t2:=(VT 2 _ rfl).1;have t3:=(VT 3 _ rfl).1;obtain ⟨wt,hwt⟩:∃ z,w.alloc (.cells #[.int .i64 k,.int .i64 a,.int .i64 m,.bool d] 28)=z:=⟨_,rfl⟩;have HWT:Hid (w.alloc (.cells #[.int .i64 k,.int .i64 a,.int .i64 m,.bool d] 28)=wt):=hwt;rw [hwt] at VT XT t0 t1 t2 t3;have HGT:Hid (∀ W,Calls Tryz.prog 26 #[.agg #[.int .i64 k,.int .i64 a,.int .i64 m,.bool d]] W fun e w'=>e=.returned (.bool (gTurnB k a m d))∧Ext W w'):=fun W=>goodTI k a m d W;have HRW:Hid (∀ W,Ext wt W→Calls Tryz.prog 27 #[v,.func (.func 28) #[] #[.pointer (some ⟨w.heap.size,0,none⟩)]] W fun e w'=>RwPostB (rwR (tT k a m d) f) W e w'):=fun W X =>
  rewrittenI (tT k a m d) 28 w.heap.size v f W (h.later (xt XT X)) hr hl (hT.later (xt XT X)) (hE.later (xt XT X)) (hO.later (xt XT X)) (LW.later (xt XT X)) (IT.laterG (xt XT X))
   (fun x _ _ _ W2 X2=>tellT k a m d w.heap.size x.at W2 (VT.later (xt X X2))) (enters_of Tryz.func28 (by kernel_rfl) rfl)
 obtain ⟨GT,hGT⟩:∃ q,gTurnB k a m d=q:=⟨_,rfl⟩;have HU:Hid (turnR k a m d f=if GT=true then rwR (tT k a m d) f else []):=by show _=_;unfold turnR;rw [hGT]
 rw [HU.out];rw [hGT] at HGT;clear hGT hwt VT h hr hl hT hE hO LW IT HU;go_enter Tryz.func10,Tryz.ntmps10;go_upto_region 1 with fail;rw [HWT.out];go_wp2_with fail;refine (HGT.out wt).mono ?_;rintro e w1 ⟨rfl,e1⟩;cases GT
 ·clear HRW;go_wp2_with fail;go_ret;exact rwPostB_nil (xt XT e1)
 ·go_wp2_with fail;refine (HRW.out w1 e1).mono ?_;rintro e w2 ⟨vo,g,rfl,h2,h3,h4⟩;have HP:Hid (RwPostB (rwR (tT k a m d) f) w (.returned vo) w2):=RwPostB.ext ⟨vo,g,rfl,h2,h3,h4⟩ (xt XT e1);clear h2 h3 h4;go_wp2_with fail;go_ret;exact HP.out
theorem hi4R:(Tryz.prog.info? 43).map (·.size)=some 4:=by kernel_rfl
set_option maxRecDepth 8000 in
set_option maxHeartbeats 4000000 in
theorem goneS (w:World):Calls Tryz.prog 24 #[] w fun e w'=>e=.returned (.agg #[.int .i64 4,.string ⟨#[35,82,69,70,33]⟩,.bool false,.int .i64 0,.int .i64 0,.int .i64 0,.int .i64 0,.bool false,.bool false,.int .i64 0,.int .i64 0,.bool false,.bool false,.int .i64 0])∧Ext w w':=by
 have X1:=x1 w (.cells #[.int .i64 4,.string ⟨#[35,82,69,70,33]⟩,.bool false,.int .i64 0,.int .i64 0,.int .i64 0,.int .i64 0,.bool false,.bool false,.int .i64 0,.int .i64 0,.bool false,.bool false,.int .i64 0] 59);have V1:=vec_made w [.int .i64 4,.string ⟨#[35,82,69,70,33]⟩,.bool false,.int .i64 0,.int .i64 0,.int .i64 0,.int .i64 0,.bool false,.bool false,.int .i64 0,.int .i64 0,.bool false,.bool false,.int .i64 0] 59;change Vec (w.alloc (.cells #[.int .i64 4,.string ⟨#[35,82,69,70,33]⟩,.bool false,.int .i64 0,.int .i64 0,.int .i64 0,.int .i64 0,.bool false,.bool false,.int .i64 0,.int .i64 0,.bool false,.bool false,.int .i64 0] 59)) _ _ at V1;have q0:=(V1 0 _ rfl).1;have q1:=(V1 1 _ rfl).1;have q2:=(V1 2 _ rfl).1;have q3:=(V1 3 _ rfl).1;have q4:=(V1 4 _ rfl).1;have q5:=(V1 5 _ rfl).1;have q6:=(V1 6 _ rfl).1;have q7:=(V1 7 _ rfl).1;have q8:=(V1 8 _ rfl).1;have q9:=(V1 9 _ rfl).1;have q10:=(V1 10 _ rfl).1;have q11:=(V1 11 _ rfl).1;have q12:=(V1 12 _ rfl).1;have q13:=(V1 13 _ rfl).1;clear V1;go_enter Tryz.func24,Tryz.ntmps24;go_wp2_with fail;exact bodyPost_ret (v:=.agg #[.int .i64 4,.string ⟨#[35,82,69,70,33]⟩,.bool false,.int .i64 0,.int .i64 0,.int .i64 0,.int .i64 0,.bool false,.bool false,.int .i64 0,.int .i64 0,.bool false,.bool false,.int .i64 0]) (by simp [results,Tryz.results24,go_sem,q0,q1,q2,q3,q4,q5,q6,q7,q8,q9,q10,q11,q12,q13]) rfl ⟨rfl,X1⟩
end Go.Proofs.YtnbagcclckekkaaGreatDoor

