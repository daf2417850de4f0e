/-
  Several texts in one: Tk, Tq0, Tm, Tq, Rfn, N7a, Gf0.
-/
import Derived.Test.YteliaeejooekbaaGreatDoorMg14
import Derived.Test.YteliaeejooekbaaGreatDoorMg12
import Derived.Test.YteliaeejooekbaaGreatDoorMg11
import Derived.Test.YteliaeejooekbaaGreatDoorMg2
import Derived.Laws.MakeOwn
set_option maxRecDepth 8000
set_option maxHeartbeats 8000000
namespace Go.Proofs.YteliaeejooekbaaGreatDoor
open Go.RowKit
theorem zSD (k a m:Int) (d:Bool) (r c:Int) (f g:Bool) (r' c':Int) (f' g':Bool) (w:World) :
  Calls Tryz.prog 28 #[tuV k a m d,arV r c f g r' c' f' g'] w fun e w'=>e=.returned (taB k a m d r c f g r' c' f' g')/\Ext w w':=by
 obtain ⟨V,hV⟩:=nm (taB k a m d r c f g r' c' f' g');rw [hV];unfold taB at hV;have GT:=fun w=>zLG k a m d w;have GA:=fun w=>zOX r c f g r' c' f' g' w;obtain ⟨p,hp⟩:=nm (zBB k a m d);obtain ⟨q,hq⟩:=nm (zAZ r c r' c');rw [hp] at GT hV;rw [hq] at GA hV;have B2:=Vec.made4 w (iQ k) (iQ a) (iQ m) (.bool d) 24;have X:=x1 w (.cells #[iQ k,iQ a,iQ m,.bool d] 24);obtain ⟨wa,ha⟩:=nm (w.alloc (.cells #[iQ k,iQ a,iQ m,.bool d] 24));rw [ha] at B2 X;have sa:wa.heap.size=w.heap.size+1:=by rw [<- ha,World.size_alloc]
 have B3:=Vec.made8 wa (iQ r) (iQ c) (.bool f) (.bool g) (iQ r') (iQ c') (.bool f') (.bool g') 43;have x3:=x1 wa (.cells #[iQ r,iQ c,.bool f,.bool g,iQ r',iQ c',.bool f',.bool g'] 43);obtain ⟨wb,hb⟩:=nm (wa.alloc (.cells #[iQ r,iQ c,.bool f,.bool g,iQ r',iQ c',.bool f',.bool g'] 43));rw [hb] at B3 x3;have sb:wb.heap.size=w.heap.size+1+1:=by rw [<- hb,World.size_alloc,sa]
 have B4:=Vec.made8 wb (iQ 0) (iQ 0) (.bool false) (.bool false) (iQ 0) (iQ 0) (.bool false) (.bool false) 43;have x4:=x1 wb (.cells #[iQ 0,iQ 0,.bool false,.bool false,iQ 0,iQ 0,.bool false,.bool false] 43);rw [sa] at B3;go_enter Tryz.func28,Tryz.ntmps28;go_upto_region 1 with fail
 (try rw [ha])
 (try rw [hb])
 obtain ⟨w0,hw0⟩:=nm (wb.alloc (.cells #[iQ 0,iQ 0,.bool false,.bool false,iQ 0,iQ 0,.bool false,.bool false] 43));have s0:w0.heap.size=w.heap.size+1+1+1:=by rw [<- hw0,World.size_alloc,sb]
 rw [hw0] at B4 x4 ⊢;rw [sb] at B4;replace B2:=(B2.l x3).l x4;replace B3:=B3.l x4;replace X:=xt (xt X x3) x4;clear ha hb hw0 sa sb x3 x4;obtain ⟨⟨a0,a1,a2,a3⟩,_⟩:=B2.box4;go_wp2_with fail;refine (GT _).mono ?_;rintro e w1 ⟨rfl,e1⟩;clear a0 a1 a2 a3 GT;have s1:=e1.size;replace B2:=B2.l e1;replace B3:=B3.l e1;replace B4:=B4.l e1;replace X:=xt X e1;clear e1;obtain ⟨⟨⟨m0,m1,m2,m3⟩,m4,m5,m6,m7⟩,⟨m8,m9,mA,mB⟩,mC,mD,mE,mF⟩:=B4.box8;cases p
 ·have Z:Hid (Value.tuple #[arV 0 0 false false 0 0 false false,.bool false]=V):=by unfold Hid;rw [<- hV];simp
  clear hV
  go_wp2
  exact bodyPost_ret (v:=.tuple #[arV 0 0 false false 0 0 false false,.bool false]) (by simp [results,Tryz.results28,go_sem,m0,m1,m2,m3,m4,m5,m6,m7]) rfl ⟨congrArg Ending.returned Z.out,Ext.set8 X (by omega) _ _ _ _ _ _ _ _⟩
 clear m0 m1 m2 m3 m4 m5 m6 m7 m8 m9 mA mB mC mD mE mF;obtain ⟨⟨⟨a0,a1,a2,a3⟩,a4,a5,a6,a7⟩,_⟩:=B3.box8;go_wp2_with fail;refine (GA _).mono ?_;rintro e w2 ⟨rfl,e2⟩;clear a0 a1 a2 a3 a4 a5 a6 a7 GA;have s2:=e2.size;replace B2:=B2.l e2;replace B3:=B3.l e2;replace B4:=B4.l e2;replace X:=xt X e2;clear e2;obtain ⟨⟨⟨m0,m1,m2,m3⟩,m4,m5,m6,m7⟩,⟨m8,m9,mA,mB⟩,mC,mD,mE,mF⟩:=B4.box8;cases q
 ·have Z:Hid (Value.tuple #[arV 0 0 false false 0 0 false false,.bool false]=V):=by unfold Hid;rw [<- hV];simp
  clear hV
  go_wp2
  exact bodyPost_ret (v:=.tuple #[arV 0 0 false false 0 0 false false,.bool false]) (by simp [results,Tryz.results28,go_sem,m0,m1,m2,m3,m4,m5,m6,m7]) rfl ⟨congrArg Ending.returned Z.out,Ext.set8 X (by omega) _ _ _ _ _ _ _ _⟩
 clear m0 m1 m2 m3 m4 m5 m6 m7 m8 m9 mA mB mC mD mE mF;obtain ⟨hk,hm,ha,hd⟩:=zFC hp;obtain ⟨⟨hr,hc⟩,hr',hc'⟩:=zJB hq;clear hp hq;clear s1 s2 s0;obtain rfl | rfl:=hk
 ·have lim:limT 1=1000:=by simp [limT]
  rw [lim] at ha hd;simp only [true_and,if_true,if_true] at hV;obtain ⟨A1,A2,A3⟩:=zR0 hr hr';have EN:=fun w=>zRY 1 a m d r r' 1000 w lim (by omega) hm ha hd hr hr';have ST0:=zFJ hm.1 ha.1 ha.2 hd A1 A2 A3;obtain ⟨sF,hsF⟩:=nm (stF 1000 a m d (lo r r') (hi r r'));obtain ⟨sT,hsT⟩:=nm (stT 1000 a m d (lo r r') (hi r r'));obtain ⟨F,hF⟩:=nm (lfF 1000 a m d (lo r r') (hi r r'));obtain ⟨T,hT⟩:=nm (lfT 1000 a m d (lo r r') (hi r r'));rw [hsF,hsT] at hV ST0;rw [hF,hT] at EN ST0;have ST:Hid _:=ST0;have Z:Hid (sF=0->Value.tuple #[arV 0 0 false false 0 0 false false,.bool false]=V):=fun h=>by rw [<- hV,if_pos h]
  have Y1:Hid (sF ≠ 0->sF=F->sT=T->r'<r->Value.tuple #[arV T c f g F c' f' g',.bool true]=V):=fun h h1 h2 h'=>by rw [<- hV,if_neg h,if_pos h',h1,h2]
  have Y2:Hid (sF ≠ 0->sF=F->sT=T->¬ r'<r->Value.tuple #[arV F c f g T c' f' g',.bool true]=V):=fun h h1 h2 h'=>by rw [<- hV,if_neg h,if_neg h',h1,h2]
  clear hV hF hT hsF hsT ST0 A1 A2 A3 hm ha hd lim hr hr' hc hc';obtain ⟨⟨b0,b1,b2,b3⟩,_⟩:=B2.box4;obtain ⟨⟨⟨a0,a1,a2,a3⟩,a4,a5,a6,a7⟩,_⟩:=B3.box8;go_wp2_with fail;by_cases hx:r'<r
  ·refine (EN _).mono ?_;rintro e w4 ⟨rfl,e4⟩;replace B3:=B3.l e4;replace B4:=B4.l e4;replace X:=xt X e4;clear e4 B2 EN b0 b1 b2 b3 a0 a1 a2 a3 a4 a5 a6 a7;rw [if_pos hx];obtain ⟨⟨⟨a0,a1,a2,a3⟩,a4,a5,a6,a7⟩,⟨a8,a9,aA,aB⟩,aC,aD,aE,aF⟩:=B3.box8;have N3:=(B3.put 0 (by simp) (iQ T)).put 4 (by simp) (iQ F);have N4:=(B4.far (p:=⟨w.heap.size+1,0,none⟩) (by simp only;omega) (iQ T)).far (p:=⟨w.heap.size+1,4,none⟩) (by simp only;omega) (iQ F);have NX:=xset (p:=⟨w.heap.size+1,4,none⟩) (xset (p:=⟨w.heap.size+1,0,none⟩) X (by simp only;omega) (iQ T)) (by simp only;omega) (iQ F);go_upto_region 9 with fail;obtain ⟨w5,hw5⟩:=nm ((w4.setCell ⟨w.heap.size+1,0,none⟩ (iQ T)).setCell ⟨w.heap.size+1,4,none⟩ (iQ F));rw [hw5] at N3 N4 NX ⊢;clear hw5 a0 a1 a2 a3 a4 a5 a6 a7 a8 a9 aA aB aC aD aE aF B3 B4 X;by_cases h0:F > T
   ·have f0:decide (F > T)=true:=decide_eq_true h0;rw [f0];have ZZ:Hid (Value.tuple #[arV 0 0 false false 0 0 false false,.bool false]=V):=Z.out (by have:=ST.out;omega);clear Z Y1 Y2 ST;obtain ⟨⟨⟨m0,m1,m2,m3⟩,m4,m5,m6,m7⟩,⟨m8,m9,mA,mB⟩,mC,mD,mE,mF⟩:=N4.box8;obtain ⟨⟨⟨a0,a1,a2,a3⟩,a4,a5,a6,a7⟩,_⟩:=N3.box8
    go_wp2
    exact bodyPost_ret (v:=.tuple #[arV 0 0 false false 0 0 false false,.bool false]) (by simp [results,Tryz.results28,go_sem,m0,m1,m2,m3,m4,m5,m6,m7]) rfl ⟨congrArg Ending.returned ZZ.out,Ext.set8 NX (by omega) _ _ _ _ _ _ _ _⟩
   ·have f0:decide (F > T)=false:=decide_eq_false h0;rw [f0];have ZZ:Hid (Value.tuple #[arV T c f g F c' f' g',.bool true]=V):=Y1.out (by have:=ST.out;omega) (by have:=ST.out;omega) (by have:=ST.out;omega) hx;clear Z Y1 Y2 ST;obtain ⟨⟨⟨m0,m1,m2,m3⟩,m4,m5,m6,m7⟩,⟨m8,m9,mA,mB⟩,mC,mD,mE,mF⟩:=N4.box8;obtain ⟨⟨⟨a0,a1,a2,a3⟩,a4,a5,a6,a7⟩,_⟩:=N3.box8
    go_wp2
    exact bodyPost_ret (v:=.tuple #[arV T c f g F c' f' g',.bool true]) (by simp [results,Tryz.results28,go_sem,m0,m1,m2,m3,m4,m5,m6,m7]) rfl ⟨congrArg Ending.returned ZZ.out,Ext.set8 NX (by omega) _ _ _ _ _ _ _ _⟩
  ·refine (EN _).mono ?_;rintro e w4 ⟨rfl,e4⟩;replace B3:=B3.l e4;replace B4:=B4.l e4;replace X:=xt X e4;clear e4 B2 EN b0 b1 b2 b3 a0 a1 a2 a3 a4 a5 a6 a7;rw [if_neg hx];obtain ⟨⟨⟨a0,a1,a2,a3⟩,a4,a5,a6,a7⟩,⟨a8,a9,aA,aB⟩,aC,aD,aE,aF⟩:=B3.box8;have N3:=(B3.put 0 (by simp) (iQ F)).put 4 (by simp) (iQ T);have N4:=(B4.far (p:=⟨w.heap.size+1,0,none⟩) (by simp only;omega) (iQ F)).far (p:=⟨w.heap.size+1,4,none⟩) (by simp only;omega) (iQ T);have NX:=xset (p:=⟨w.heap.size+1,4,none⟩) (xset (p:=⟨w.heap.size+1,0,none⟩) X (by simp only;omega) (iQ F)) (by simp only;omega) (iQ T);go_upto_region 9 with fail;obtain ⟨w5,hw5⟩:=nm ((w4.setCell ⟨w.heap.size+1,0,none⟩ (iQ F)).setCell ⟨w.heap.size+1,4,none⟩ (iQ T));rw [hw5] at N3 N4 NX ⊢;clear hw5 a0 a1 a2 a3 a4 a5 a6 a7 a8 a9 aA aB aC aD aE aF B3 B4 X;by_cases h0:F > T
   ·have f0:decide (F > T)=true:=decide_eq_true h0;rw [f0];have ZZ:Hid (Value.tuple #[arV 0 0 false false 0 0 false false,.bool false]=V):=Z.out (by have:=ST.out;omega);clear Z Y1 Y2 ST;obtain ⟨⟨⟨m0,m1,m2,m3⟩,m4,m5,m6,m7⟩,⟨m8,m9,mA,mB⟩,mC,mD,mE,mF⟩:=N4.box8;obtain ⟨⟨⟨a0,a1,a2,a3⟩,a4,a5,a6,a7⟩,_⟩:=N3.box8
    go_wp2
    exact bodyPost_ret (v:=.tuple #[arV 0 0 false false 0 0 false false,.bool false]) (by simp [results,Tryz.results28,go_sem,m0,m1,m2,m3,m4,m5,m6,m7]) rfl ⟨congrArg Ending.returned ZZ.out,Ext.set8 NX (by omega) _ _ _ _ _ _ _ _⟩
   ·have f0:decide (F > T)=false:=decide_eq_false h0;rw [f0];have ZZ:Hid (Value.tuple #[arV F c f g T c' f' g',.bool true]=V):=Y2.out (by have:=ST.out;omega) (by have:=ST.out;omega) (by have:=ST.out;omega) hx;clear Z Y1 Y2 ST;obtain ⟨⟨⟨m0,m1,m2,m3⟩,m4,m5,m6,m7⟩,⟨m8,m9,mA,mB⟩,mC,mD,mE,mF⟩:=N4.box8;obtain ⟨⟨⟨a0,a1,a2,a3⟩,a4,a5,a6,a7⟩,_⟩:=N3.box8
    go_wp2
    exact bodyPost_ret (v:=.tuple #[arV F c f g T c' f' g',.bool true]) (by simp [results,Tryz.results28,go_sem,m0,m1,m2,m3,m4,m5,m6,m7]) rfl ⟨congrArg Ending.returned ZZ.out,Ext.set8 NX (by omega) _ _ _ _ _ _ _ _⟩
 ·have lim:limT 2=200:=by simp [limT]
  rw [lim] at ha hd;simp only [true_and,if_true,show ((2:Int)=1)=False by decide,if_false] at hV;obtain ⟨A1,A2,A3⟩:=zR0 hc hc';have EN:=fun w=>zRY 2 a m d c c' 200 w lim (by omega) hm ha hd hc hc';have ST0:=zFJ hm.1 ha.1 ha.2 hd A1 A2 A3;obtain ⟨sF,hsF⟩:=nm (stF 200 a m d (lo c c') (hi c c'));obtain ⟨sT,hsT⟩:=nm (stT 200 a m d (lo c c') (hi c c'));obtain ⟨F,hF⟩:=nm (lfF 200 a m d (lo c c') (hi c c'));obtain ⟨T,hT⟩:=nm (lfT 200 a m d (lo c c') (hi c c'));rw [hsF,hsT] at hV ST0;rw [hF,hT] at EN ST0;have ST:Hid _:=ST0;have Z:Hid (sF=0->Value.tuple #[arV 0 0 false false 0 0 false false,.bool false]=V):=fun h=>by rw [<- hV,if_pos h]
  have Y1:Hid (sF ≠ 0->sF=F->sT=T->c'<c->Value.tuple #[arV r T f g r' F f' g',.bool true]=V):=fun h h1 h2 h'=>by rw [<- hV,if_neg h,if_pos h',h1,h2]
  have Y2:Hid (sF ≠ 0->sF=F->sT=T->¬ c'<c->Value.tuple #[arV r F f g r' T f' g',.bool true]=V):=fun h h1 h2 h'=>by rw [<- hV,if_neg h,if_neg h',h1,h2]
  clear hV hF hT hsF hsT ST0 A1 A2 A3 hm ha hd lim hr hr' hc hc';obtain ⟨⟨b0,b1,b2,b3⟩,_⟩:=B2.box4;obtain ⟨⟨⟨a0,a1,a2,a3⟩,a4,a5,a6,a7⟩,_⟩:=B3.box8;go_wp2_with fail;by_cases hx:c'<c
  ·refine (EN _).mono ?_;rintro e w4 ⟨rfl,e4⟩;replace B3:=B3.l e4;replace B4:=B4.l e4;replace X:=xt X e4;clear e4 B2 EN b0 b1 b2 b3 a0 a1 a2 a3 a4 a5 a6 a7;rw [if_pos hx];obtain ⟨⟨⟨a0,a1,a2,a3⟩,a4,a5,a6,a7⟩,⟨a8,a9,aA,aB⟩,aC,aD,aE,aF⟩:=B3.box8;have N3:=(B3.put 1 (by simp) (iQ T)).put 5 (by simp) (iQ F);have N4:=(B4.far (p:=⟨w.heap.size+1,1,none⟩) (by simp only;omega) (iQ T)).far (p:=⟨w.heap.size+1,5,none⟩) (by simp only;omega) (iQ F);have NX:=xset (p:=⟨w.heap.size+1,5,none⟩) (xset (p:=⟨w.heap.size+1,1,none⟩) X (by simp only;omega) (iQ T)) (by simp only;omega) (iQ F);go_upto_region 9 with fail;obtain ⟨w5,hw5⟩:=nm ((w4.setCell ⟨w.heap.size+1,1,none⟩ (iQ T)).setCell ⟨w.heap.size+1,5,none⟩ (iQ F));rw [hw5] at N3 N4 NX ⊢;clear hw5 a0 a1 a2 a3 a4 a5 a6 a7 a8 a9 aA aB aC aD aE aF B3 B4 X;by_cases h0:F > T
   ·have f0:decide (F > T)=true:=decide_eq_true h0;rw [f0];have ZZ:Hid (Value.tuple #[arV 0 0 false false 0 0 false false,.bool false]=V):=Z.out (by have:=ST.out;omega);clear Z Y1 Y2 ST;obtain ⟨⟨⟨m0,m1,m2,m3⟩,m4,m5,m6,m7⟩,⟨m8,m9,mA,mB⟩,mC,mD,mE,mF⟩:=N4.box8;obtain ⟨⟨⟨a0,a1,a2,a3⟩,a4,a5,a6,a7⟩,_⟩:=N3.box8
    go_wp2
    exact bodyPost_ret (v:=.tuple #[arV 0 0 false false 0 0 false false,.bool false]) (by simp [results,Tryz.results28,go_sem,m0,m1,m2,m3,m4,m5,m6,m7]) rfl ⟨congrArg Ending.returned ZZ.out,Ext.set8 NX (by omega) _ _ _ _ _ _ _ _⟩
   ·have f0:decide (F > T)=false:=decide_eq_false h0;rw [f0];have ZZ:Hid (Value.tuple #[arV r T f g r' F f' g',.bool true]=V):=Y1.out (by have:=ST.out;omega) (by have:=ST.out;omega) (by have:=ST.out;omega) hx;clear Z Y1 Y2 ST;obtain ⟨⟨⟨m0,m1,m2,m3⟩,m4,m5,m6,m7⟩,⟨m8,m9,mA,mB⟩,mC,mD,mE,mF⟩:=N4.box8;obtain ⟨⟨⟨a0,a1,a2,a3⟩,a4,a5,a6,a7⟩,_⟩:=N3.box8
    go_wp2
    exact bodyPost_ret (v:=.tuple #[arV r T f g r' F f' g',.bool true]) (by simp [results,Tryz.results28,go_sem,m0,m1,m2,m3,m4,m5,m6,m7]) rfl ⟨congrArg Ending.returned ZZ.out,Ext.set8 NX (by omega) _ _ _ _ _ _ _ _⟩
  ·refine (EN _).mono ?_;rintro e w4 ⟨rfl,e4⟩;replace B3:=B3.l e4;replace B4:=B4.l e4;replace X:=xt X e4;clear e4 B2 EN b0 b1 b2 b3 a0 a1 a2 a3 a4 a5 a6 a7;rw [if_neg hx];obtain ⟨⟨⟨a0,a1,a2,a3⟩,a4,a5,a6,a7⟩,⟨a8,a9,aA,aB⟩,aC,aD,aE,aF⟩:=B3.box8;have N3:=(B3.put 1 (by simp) (iQ F)).put 5 (by simp) (iQ T);have N4:=(B4.far (p:=⟨w.heap.size+1,1,none⟩) (by simp only;omega) (iQ F)).far (p:=⟨w.heap.size+1,5,none⟩) (by simp only;omega) (iQ T);have NX:=xset (p:=⟨w.heap.size+1,5,none⟩) (xset (p:=⟨w.heap.size+1,1,none⟩) X (by simp only;omega) (iQ F)) (by simp only;omega) (iQ T);go_upto_region 9 with fail;obtain ⟨w5,hw5⟩:=nm ((w4.setCell ⟨w.heap.size+1,1,none⟩ (iQ F)).setCell ⟨w.heap.size+1,5,none⟩ (iQ T));rw [hw5] at N3 N4 NX ⊢;clear hw5 a0 a1 a2 a3 a4 a5 a6 a7 a8 a9 aA aB aC aD aE aF B3 B4 X;by_cases h0:F > T
   ·have f0:decide (F > T)=true:=decide_eq_true h0;rw [f0];have ZZ:Hid (Value.tuple #[arV 0 0 false false 0 0 false false,.bool false]=V):=Z.out (by have:=ST.out;omega);clear Z Y1 Y2 ST;obtain ⟨⟨⟨m0,m1,m2,m3⟩,m4,m5,m6,m7⟩,⟨m8,m9,mA,mB⟩,mC,mD,mE,mF⟩:=N4.box8;obtain ⟨⟨⟨a0,a1,a2,a3⟩,a4,a5,a6,a7⟩,_⟩:=N3.box8
    go_wp2
    exact bodyPost_ret (v:=.tuple #[arV 0 0 false false 0 0 false false,.bool false]) (by simp [results,Tryz.results28,go_sem,m0,m1,m2,m3,m4,m5,m6,m7]) rfl ⟨congrArg Ending.returned ZZ.out,Ext.set8 NX (by omega) _ _ _ _ _ _ _ _⟩
   ·have f0:decide (F > T)=false:=decide_eq_false h0;rw [f0];have ZZ:Hid (Value.tuple #[arV r F f g r' T f' g',.bool true]=V):=Y2.out (by have:=ST.out;omega) (by have:=ST.out;omega) (by have:=ST.out;omega) hx;clear Z Y1 Y2 ST;obtain ⟨⟨⟨m0,m1,m2,m3⟩,m4,m5,m6,m7⟩,⟨m8,m9,mA,mB⟩,mC,mD,mE,mF⟩:=N4.box8;obtain ⟨⟨⟨a0,a1,a2,a3⟩,a4,a5,a6,a7⟩,_⟩:=N3.box8
    go_wp2
    exact bodyPost_ret (v:=.tuple #[arV r F f g r' T f' g',.bool true]) (by simp [results,Tryz.results28,go_sem,m0,m1,m2,m3,m4,m5,m6,m7]) rfl ⟨congrArg Ending.returned ZZ.out,Ext.set8 NX (by omega) _ _ _ _ _ _ _ _⟩
theorem zV8 (k a m:Int) (d:Bool) (r c:Int) (f g:Bool):∃ n1 n2 n3 n4 n5 n6 n7 n8 q,taB k a m d r c f g r c f g=.tuple #[arV n1 n2 n3 n4 n5 n6 n7 n8,.bool q]/\trB k a m d r c f g=.tuple #[refV n1 n2 n3 n4,.bool q]:=by
 unfold taB trB;have e:zAZ r c r c=zAA r c:=by unfold zAZ;simp
 rw [e];by_cases hg:zBB k a m d=true/\zAA r c=true
 ·rw [if_pos hg,if_pos hg];obtain ⟨hk,hm,ha,hd⟩:=zFC hg.1;obtain ⟨hr,hc⟩:=zJA hg.2;have key:∀ (l n:Int),limT k=l->1<=n->n<=l->(tN l a m d n=0/\stF l a m d (lo n n) (hi n n)=0)\/(tN l a m d n ≠ 0/\stF l a m d (lo n n) (hi n n)=tN l a m d n/\stT l a m d (lo n n) (hi n n)=tN l a m d n):=by
   intro l n hl h1 h2;rw [hl] at ha hd;have e1:lo n n=n:=by have:=zGT n n;omega
   have e2:hi n n=n:=by have:=zFZ n n;omega
   rw [e1,e2];obtain ⟨s1,s2⟩:=zND hm.1 ha.1 ha.2 hd h1 (Int.le_refl n) h2;obtain ⟨t1,t2⟩:=zKT hm.1 ha.1 ha.2 hd h1 h2;have ti:=zN7 l a m d n;have t0:0<=tN l a m d n:=by cases d <;> simp at ti <;> omega
   by_cases hz:0<tN l a m d n
   ·obtain ⟨u1,u2⟩:=s1 hz;rw [t1,if_pos rfl] at u1;exact .inr ⟨by omega,u1,u2⟩
   ·obtain ⟨u1,u2⟩:=s2 (by omega);rw [t1] at u1;exact .inl ⟨by omega,u1⟩
  rcases hk with rfl | rfl
  ·rw [if_pos rfl,if_pos rfl]
   rcases key 1000 r (by simp [limT]) hr.1 hr.2 with ⟨h1,h2⟩ | ⟨h1,h2,h3⟩
   ·rw [if_pos h1,if_pos h2];exact ⟨_,_,_,_,_,_,_,_,_,rfl,rfl⟩
   ·rw [if_neg h1,h2,h3,if_neg h1,if_neg (Int.lt_irrefl r)];exact ⟨_,_,_,_,_,_,_,_,_,rfl,rfl⟩
  ·rw [if_neg (show ¬ ((2:Int)=1) by decide),if_neg (show ¬ ((2:Int)=1) by decide)]
   rcases key 200 c (by simp [limT]) hc.1 hc.2 with ⟨h1,h2⟩ | ⟨h1,h2,h3⟩
   ·rw [if_pos h1,if_pos h2];exact ⟨_,_,_,_,_,_,_,_,_,rfl,rfl⟩
   ·rw [if_neg h1,h2,h3,if_neg h1,if_neg (Int.lt_irrefl c)];exact ⟨_,_,_,_,_,_,_,_,_,rfl,rfl⟩
 ·rw [if_neg hg,if_neg hg];exact ⟨_,_,_,_,_,_,_,_,_,rfl,rfl⟩
def zKG (k a m:Int) (d:Bool):Value:=if zBB k a m d=true/\zBB k a m (!d)=true then tuV k a m (!d) else tuV 0 0 0 false
theorem zKF (k a m:Int) (d:Bool):∃ x y z u,zKG k a m d=tuV x y z u:=by
 unfold zKG
 split
 ·exact ⟨_,_,_,_,rfl⟩
 ·exact ⟨_,_,_,_,rfl⟩
theorem backI (k a m:Int) (d:Bool) (w:World) :
  Calls Tryz.prog 8 #[tuV k a m d] w fun e w'=>e=.returned (zKG k a m d)/\Ext w w':=by
 have G1:=fun w=>zLG k a m d w;have G2:=fun w=>zLG k a m (!d) w;obtain ⟨D,hD⟩:=nm ((!d));obtain ⟨V,hV⟩:=nm (zKG k a m d);rw [hV];unfold zKG at hV;rw [hD] at G2 hV;obtain ⟨p,hp⟩:=nm (zBB k a m d);obtain ⟨q,hq⟩:=nm (zBB k a m D);rw [hp,hq] at hV;rw [hp] at G1;rw [hq] at G2;have F1:Hid (p=false->tuV 0 0 0 false=V):=fun h=>by rw [<- hV,h];rfl
 have F2:Hid (q=false->tuV 0 0 0 false=V):=fun h=>by rw [<- hV,h,if_neg (fun h=>Bool.noConfusion h.2)]
 have F3:Hid (p=true->q=true->tuV k a m D=V):=fun h1 h2=>by rw [<- hV,h1,h2];rfl
 clear hp hq hV;have B1:=Vec.made4 w (iQ k) (iQ a) (iQ m) (.bool d) 24;have x1':=x1 w (.cells #[iQ k,iQ a,iQ m,.bool d] 24);have B2:=Vec.made4 (w.alloc (.cells #[iQ k,iQ a,iQ m,.bool d] 24)) (iQ 0) (iQ 0) (iQ 0) (.bool false) 24;have B1':=B1.l (x1 _ (.cells #[iQ 0,iQ 0,iQ 0,.bool false] 24));have X:=xa x1' (.cells #[iQ 0,iQ 0,iQ 0,.bool false] 24);rw [World.size_alloc] at B2;clear B1 x1';go_enter Tryz.func8,Tryz.ntmps8;go_upto_region 1 with fail;obtain ⟨w0,hw0⟩:=nm ((w.alloc (.cells #[iQ k,iQ a,iQ m,.bool d] 24)).alloc (.cells #[iQ 0,iQ 0,iQ 0,.bool false] 24));have s0:w0.heap.size=w.heap.size+1+1:=by rw [<- hw0];simp only [World.size_alloc]
 rw [hw0] at X B2 B1' ⊢;clear hw0;obtain ⟨⟨a0,a1,a2,a3⟩,a4,a5,a6,a7⟩:=B1'.box4;go_upto_region 2 with fail;have B3:=Vec.made4 w0 (iQ k) (iQ a) (iQ m) (.bool d) 24;have x3:=x1 w0 (.cells #[iQ k,iQ a,iQ m,.bool d] 24);obtain ⟨w1,hw1⟩:=nm (w0.alloc (.cells #[iQ k,iQ a,iQ m,.bool d] 24));rw [hw1] at B3 x3 ⊢;rw [s0] at B3;clear hw1 a0 a1 a2 a3 a4 a5 a6 a7 s0;replace B1':=B1'.l x3;replace B2:=B2.l x3;replace X:=xt X x3;obtain ⟨⟨a0,a1,a2,a3⟩,a4,a5,a6,a7⟩:=B1'.box4;obtain ⟨⟨m0,m1,m2,m3⟩,m4,m5,m6,m7⟩:=B3.box4;go_upto_region 3 with fail
 try simp only [hD]
 have N1:=B1'.far (p:=⟨w.heap.size+1+1,3,none⟩) (by simp only;omega) (.bool D);have N2:=B2.far (p:=⟨w.heap.size+1+1,3,none⟩) (by simp only;omega) (.bool D);have N3:=B3.put 3 (by simp) (.bool D);have NX:=xset (p:=⟨w.heap.size+1+1,3,none⟩) X (by simp only;omega) (.bool D);obtain ⟨w2,hw2⟩:=nm (w1.setCell ⟨w.heap.size+1+1,3,none⟩ (.bool D));rw [hw2] at N1 N2 N3 NX ⊢;clear hw2 a0 a1 a2 a3 a4 a5 a6 a7 m0 m1 m2 m3 m4 m5 m6 m7 B1' B2 B3 X;obtain ⟨⟨a0,a1,a2,a3⟩,a4,a5,a6,a7⟩:=N1.box4;go_wp2_with fail;refine (G1 _).mono ?_;rintro e w3 ⟨rfl,b3⟩;clear a0 a1 a2 a3 a4 a5 a6 a7;replace N2:=N2.l b3;replace N3:=N3.l b3;replace NX:=xt NX b3;obtain ⟨⟨a0,a1,a2,a3⟩,a4,a5,a6,a7⟩:=N3.box4;obtain ⟨⟨m0,m1,m2,m3⟩,m4,m5,m6,m7⟩:=N2.box4;cases p
 ·go_wp2
  exact bodyPost_ret (v:=tuV 0 0 0 false) (by simp [results,Tryz.results8,go_sem,m0,m1,m2,m3]) rfl ⟨congrArg Ending.returned (F1.out (by first | rfl | trivial)),Ext.set4 (o:=0) NX (by omega) _ _ _ _⟩
 ·go_wp2_with fail;refine (G2 _).mono ?_;rintro e w4 ⟨rfl,b4⟩;clear a0 a1 a2 a3 a4 a5 a6 a7 m0 m1 m2 m3 m4 m5 m6 m7;replace N2:=N2.l b4;replace N3:=N3.l b4;replace NX:=xt NX b4;obtain ⟨⟨a0,a1,a2,a3⟩,a4,a5,a6,a7⟩:=N3.box4;obtain ⟨⟨m0,m1,m2,m3⟩,m4,m5,m6,m7⟩:=N2.box4;cases q
  ·go_wp2
   exact bodyPost_ret (v:=tuV 0 0 0 false) (by simp [results,Tryz.results8,go_sem,m0,m1,m2,m3]) rfl ⟨congrArg Ending.returned (F2.out (by first | rfl | trivial)),Ext.set4 (o:=0) NX (by omega) _ _ _ _⟩
  ·go_wp2
   exact bodyPost_ret (v:=tuV k a m D) (by simp [results,Tryz.results8,go_sem,m0,m1,m2,m3]) rfl ⟨congrArg Ending.returned (F3.out (by first | rfl | trivial) (by first | rfl | trivial)),Ext.set4 (o:=0) NX (by omega) _ _ _ _⟩
theorem zVD (k a m:Int) (d:Bool) (r c:Int) (f g:Bool) (w:World) :
  Calls Tryz.prog 6 #[tuV k a m d,refV r c f g] w fun e w'=>e=.returned (trB k a m d r c f g)/\Ext w w':=by
 obtain ⟨n1,n2,n3,n4,n5,n6,n7,n8,q,e1,e2⟩:=zV8 k a m d r c f g;have TA:=fun w=>zSD k a m d r c f g r c f g w;rw [e1] at TA;rw [e2];clear e1 e2;have B2:=Vec.made4 w (iQ k) (iQ a) (iQ m) (.bool d) 24;have X:=x1 w (.cells #[iQ k,iQ a,iQ m,.bool d] 24);obtain ⟨wa,ha⟩:=nm (w.alloc (.cells #[iQ k,iQ a,iQ m,.bool d] 24));rw [ha] at B2 X;have sa:wa.heap.size=w.heap.size+1:=by rw [<- ha,World.size_alloc]
 have B3:=Vec.made4 wa (iQ r) (iQ c) (.bool f) (.bool g) 26;have x3:=x1 wa (.cells #[iQ r,iQ c,.bool f,.bool g] 26);obtain ⟨wb,hb⟩:=nm (wa.alloc (.cells #[iQ r,iQ c,.bool f,.bool g] 26));rw [hb] at B3 x3;have sb:wb.heap.size=w.heap.size+1+1:=by rw [<- hb,World.size_alloc,sa]
 have B4:=Vec.made4 wb (iQ 0) (iQ 0) (.bool false) (.bool false) 26;have x4:=x1 wb (.cells #[iQ 0,iQ 0,.bool false,.bool false] 26);rw [sa] at B3;go_enter Tryz.func6,Tryz.ntmps6;go_upto_region 1 with fail
 (try rw [ha])
 (try rw [hb])
 obtain ⟨w0,hw0⟩:=nm (wb.alloc (.cells #[iQ 0,iQ 0,.bool false,.bool false] 26));have s0:w0.heap.size=w.heap.size+1+1+1:=by rw [<- hw0,World.size_alloc,sb]
 rw [hw0] at B4 x4 ⊢;rw [sb] at B4;replace B2:=(B2.l x3).l x4;replace B3:=B3.l x4;replace X:=xt (xt X x3) x4;clear ha hb hw0 sa sb x3 x4;obtain ⟨⟨a0,a1,a2,a3⟩,_⟩:=B2.box4;obtain ⟨⟨b0,b1,b2,b3⟩,_⟩:=B3.box4;go_wp2_with fail;refine (TA _).mono ?_;rintro e w1 ⟨rfl,e1⟩;clear a0 a1 a2 a3 b0 b1 b2 b3 TA B2 B3;replace B4:=B4.l e1;replace X:=xt X e1;go_upto_region 2 with fail;have B6:=Vec.made8 w1 (iQ n1) (iQ n2) (.bool n3) (.bool n4) (iQ n5) (iQ n6) (.bool n7) (.bool n8) 43;have x6:=x1 w1 (.cells #[iQ n1,iQ n2,.bool n3,.bool n4,iQ n5,iQ n6,.bool n7,.bool n8] 43);obtain ⟨w2,hw2⟩:=nm (w1.alloc (.cells #[iQ n1,iQ n2,.bool n3,.bool n4,iQ n5,iQ n6,.bool n7,.bool n8] 43));rw [hw2] at B6 x6 ⊢;replace B4:=B4.l x6;replace X:=xt X x6;clear hw2 x6 e1;obtain ⟨⟨⟨a0,a1,a2,a3⟩,a4,a5,a6,a7⟩,_⟩:=B6.box8;obtain ⟨⟨m0,m1,m2,m3⟩,m4,m5,m6,m7⟩:=B4.box4
 go_wp2
 exact bodyPost_ret (v:=.tuple #[refV n1 n2 n3 n4,.bool q]) (by simp [results,Tryz.results6,go_sem,m0,m1,m2,m3]) rfl ⟨rfl,Ext.set4 (o:=0) X (by omega) _ _ _ _⟩
theorem zT8 (r c:Int) (f g:Bool) (r' c':Int) (f' g':Bool) (W:World) :
  (binOp BinOp.neq 26 (refV r c f g) (refV r' c' f' g')).run Tryz.prog W=.ok (.bool (!(decide (r=r'/\c=c'/\f=f'/\g=g')))) W:=by
 by_cases h:r=r'/\c=c'/\f=f'/\g=g'
 ·obtain ⟨rfl,rfl,rfl,rfl⟩:=h
  go_simp
 ·rw [decide_eq_false h];have H:Hid _:=h;clear h
  go_simp
  intros
  have:=H.out
  simp_all
theorem zL1 (r c:Int) (f g:Bool) (W:World):(binOp BinOp.neq 26 (refV r c f g) (refV r c f g)).run Tryz.prog W=.ok (.bool false) W:=by
 rw [zT8];simp
structure NT where
 k:Int
 t:List UInt8
 n:Bool
 d:Int
 x:Int
 r:Int
 c:Int
 f:Bool
 g:Bool
 r2:Int
 c2:Int
 f2:Bool
 g2:Bool
 q:Int
abbrev NT.cells (e:NT):List Value:=[iQ e.k,sV e.t,.bool e.n,iQ e.d,iQ e.x,iQ e.r,iQ e.c,.bool e.f,.bool e.g,iQ e.r2,iQ e.c2,.bool e.f2,.bool e.g2,iQ e.q]
abbrev nodV (k:Int) (t:List UInt8) (n:Bool) (d:Int) (x:Int) (r:Int) (c:Int) (f:Bool) (g:Bool) (r2:Int) (c2:Int) (f2:Bool) (g2:Bool) (q:Int):Value:=.agg #[iQ k,sV t,.bool n,iQ d,iQ x,iQ r,iQ c,.bool f,.bool g,iQ r2,iQ c2,.bool f2,.bool g2,iQ q]
def RowN (w:World) (b o:Nat) (l:List NT):Prop:=∀ (i:Nat) (e:NT),l[i]?=some e->∀ (c:Nat) (u:Value),e.cells[c]?=some u->w.cell? ⟨b,o+i * 14+c,none⟩=some u
theorem RowN.l {w w':World} {b o:Nat} {l:List NT} (h:RowN w b o l) (x:Ext w w'):RowN w' b o l:=fun i e hi c u hc=>cell_later x (h i e hi c u hc)
def zAI (w:World) (v:Value) (l:List NT):Prop:=
 ∃ p cap,v=.slice p l.length cap/\l.length<=cap/\(0<l.length->∃ b o,p=some ⟨b,o,none⟩/\RowN w b o l)
theorem zAI.l {w w':World} {v:Value} {l:List NT} (h:zAI w v l) (x:Ext w w'):zAI w' v l:=by
 obtain ⟨p,cap,h1,h2,h3⟩:=h;refine ⟨p,cap,h1,h2,fun h0=>?_⟩;obtain ⟨b,o,h4,h5⟩:=h3 h0;exact ⟨b,o,h4,h5.l x⟩
def OwnN (w:World) (g:Nat) (l:List NT):Prop:=∀ (i:Nat) (e:NT),l[i]?=some e->∀ (c:Nat) (u:Value),e.cells[c]?=some u->w.cell? ⟨g,i * 14+c,none⟩=some u/\w.frozen? ⟨g,i * 14+c,none⟩=false
theorem OwnN.l {w w':World} {g:Nat} {l:List NT} (h:OwnN w g l) (x:Ext w w'):OwnN w' g l:=fun i e hi c u hc=>⟨cell_later x (h i e hi c u hc).1,zB7 x (h i e hi c u hc).1 (h i e hi c u hc).2⟩
theorem OwnN.row {w:World} {g:Nat} {l:List NT} (h:OwnN w g l):RowN w g 0 l:=fun i e hi c u hc=>by rw [Nat.zero_add];exact (h i e hi c u hc).1
theorem zF6 {e:NT} {c:Nat} {u:Value} (h:e.cells[c]?=some u):c<14:=(List.getElem?_eq_some_iff.1 h).1
inductive ET where
 | mk (n:NT) (kids:List ET)
def ET.n:ET->NT
 | .mk n _=>n
def ET.kids:ET->List ET
 | .mk _ ks=>ks
def zBK (g:List NT->Option (ET × List NT)):Nat->List NT->Option (List ET × List NT)
 | 0,r=>some ([],r)
 | m+1,r=>match zBK g m r with
  | none=>none
  | some (ks,r1)=>match g r1 with
   | none=>none
   | some (k,r2)=>some (ks++[k],r2)
def zBJ (e:ET):Bool:=if e.n.k=1\/e.n.k=2\/e.n.k=3\/e.n.k=4 then false else if e.n.k=8 then !(e.kids.head?.any fun x=>decide (x.n.k=1)) else true
def zCB (e:ET):Bool:=decide (e.n.k=13)
def zC4 (k:Int) (ks:List ET):Bool:=if k=11 then !(decide (ks.length=1) && ks.head?.any zCB) else if k=12 then !ks.any zBJ else !ks.any zCB
def zC0 (gd:NT->Bool):Nat->List NT->Option (ET × List NT)
 | 0,_=>none
 | _+1,[]=>none
 | f+1,n :: rest=>if gd n then (match zBK (zC0 gd f) n.q.toNat rest with
  | none=>none
  | some (ks,r)=>if zC4 n.k ks then some (.mk n ks,r) else none) else none
def zCC (gd:NT->Bool) (f:List NT):Bool:=decide (f.length<=300) && (match zC0 gd 40 f with
 | some (e,[])=>!zCB e
 | _=>false)
def zBF:Nat->List NT->Option (ET × List NT)
 | 0,_=>none
 | _+1,[]=>none
 | f+1,n :: rest=>if 0<=n.q/\n.q<=100 then (match zBK (zBF f) n.q.toNat rest with
  | none=>none
  | some (ks,r)=>some (.mk n ks,r)) else none
def zAU (e:ET):Bool:=decide (e.n.k=1\/e.n.k=2\/e.n.k=3\/e.n.k=4) || (decide (e.n.k=8) && decide (e.kids.length=1) && e.kids.head?.any fun x=>decide (x.n.k=1))
def zCP (gd:NT->Bool) (e:ET) (many:Bool):Bool:=decide (e.n.q=e.kids.length) && gd e.n && (!zCB e || many) && (!decide (e.n.k=12) || e.kids.all zAU)
mutual
def zCA (gd:NT->Bool):ET->Bool->Option (Nat × Nat)
 | .mk n ks,many=>if zCP gd (.mk n ks) many then (match zBD gd ks (decide (n.k=11) && decide (1<ks.length)) with
  | none=>none
  | some (a,d)=>some (a+1,d+1)) else none
def zBD (gd:NT->Bool):List ET->Bool->Option (Nat × Nat)
 | [],_=>some (0,0)
 | k :: ks,many=>match zCA gd k many with
  | none=>none
  | some (a,b)=>match zBD gd ks many with
   | none=>none
   | some (c,d)=>some (a+c,max b d)
end
def zAS (gd:NT->Bool) (f:List NT):Bool:=decide (1<=f.length) && decide (f.length<=300) && (match zBF 41 f with
 | some (e,[])=>(match zCA gd e false with
  | some (n,d)=>decide (n<=300) && decide (d<=40)
  | none=>false)
 | _=>false)
theorem zIZ {g:List NT->Option (ET × List NT)}:∀ {m:Nat} {r r':List NT} {ks:List ET},zBK g m r=some (ks,r')->ks.length=m
 | 0,r,r',ks,h=>by cases h;rfl
 | m+1,r,r',ks,h=>by
  unfold zBK at h
  split at h
  ·cases h
  ·next ks1 r1 h1 =>
   split at h
   ·cases h
   ·next k r2 h2 =>
    cases h;rw [List.length_append,zIZ h1];rfl
theorem zCH (gd:NT->Bool) (many:Bool):∀ (ks ls:List ET),zBD gd (ks++ls) many=(match zBD gd ks many with
  | none=>none
  | some (a,b)=>match zBD gd ls many with
   | none=>none
   | some (c,d)=>some (a+c,max b d))
 | [],ls=>by
  rw [List.nil_append,zBD];cases zBD gd ls many with
  | none=>rfl
  | some q=>obtain ⟨c,d⟩:=q;simp
 | k :: ks,ls=>by
  rw [List.cons_append,zBD,zBD,zCH gd many ks ls];cases zCA gd k many with
  | none=>rfl
  | some q =>
   obtain ⟨a,b⟩:=q;cases zBD gd ks many with
   | none=>rfl
   | some q2 =>
    obtain ⟨c,d⟩:=q2;cases zBD gd ls many with
    | none=>rfl
    | some q3 =>
     obtain ⟨e,f⟩:=q3;simp only [Option.some.injEq,Prod.mk.injEq];omega
theorem zIR {gd:NT->Bool} {many:Bool}:∀ {ks:List ET} {s:Nat × Nat},zBD gd ks many=some s->∀ k ∈ ks,zCP gd k many=true
 | k :: ks,s,h,x,hx=>by
  rw [zBD] at h
  split at h
  ·cases h
  ·next a b h1 =>
   split at h
   ·cases h
   ·next c d h2 =>
    rcases List.mem_cons.1 hx with rfl | hx
    ·obtain ⟨n,kk⟩:=x;rw [zCA] at h1
     split at h1
     ·assumption
     ·cases h1
    ·exact zIR h2 x hx
structure zMT (gd:NT->Bool):Prop where
 kids:∀ n,gd n=true->0<=n.q/\n.q<=100
 minus:∀ n,gd n=true->n.k=8->n.q=1
theorem zJ8 {gd:NT->Bool} (G:zMT gd) {F:Nat} {f r:List NT} {e:ET} (h:zC0 gd F f=some (e,r)):gd e.n=true/\e.n.q=e.kids.length/\zC4 e.n.k e.kids=true:=by
 match F,f,h with
 | 0,_,h=>cases h
 | F+1,[],h=>cases h
 | F+1,n :: rest,h =>
  rw [zC0] at h
  split at h
  ·next hg =>
   split at h
   ·cases h
   ·next ks r1 h1 =>
    split at h
    ·next hk =>
     cases h;have:=zIZ h1;have:=G.kids n hg;exact ⟨hg,by show n.q=(ks.length:Int);omega,hk⟩
    ·cases h
  ·cases h
theorem zOI {k:Int} {ks:List ET} (h:zC4 k ks=true):∀ x ∈ ks,zCB x=true->(decide (k=11) && decide (1<ks.length))=true:=by
 intro x hx hn;unfold zC4 at h
 split at h
 ·next h11 =>
  match ks,hx,h with
  | [y],hx,h =>
   rw [List.mem_singleton] at hx;subst hx;simp [hn] at h
  | y :: z :: l,hx,h=>simp [h11]
 ·split at h
  ·have:zBJ x=true:=by
    have hk:x.n.k=13:=(by simpa [zCB] using hn);simp [zBJ,hk]
   have h2:ks.any zBJ=true:=List.any_eq_true.2 ⟨x,hx,this⟩;rw [h2] at h;cases h
  ·have h2:ks.any zCB=true:=List.any_eq_true.2 ⟨x,hx,hn⟩;rw [h2] at h;cases h
theorem zJM {gd:NT->Bool} (G:zMT gd) {x:ET} (hg:gd x.n=true) (hq:x.n.q=x.kids.length) (h:zBJ x=false):zAU x=true:=by
 unfold zBJ at h
 split at h
 ·next hk=>simp [zAU,hk]
 ·split at h
  ·next h8 =>
   have:=G.minus _ hg h8;have hl:x.kids.length=1:=by omega
   simp at h;simp [zAU,h8,hl];obtain ⟨y,hy⟩:∃ y,x.kids=[y]:=List.length_eq_one_iff.1 hl;rw [hy] at h ⊢;simpa using h
  ·cases h
theorem zIF {x:ET} (h:zAU x=true):zBJ x=false:=by
 unfold zAU at h;unfold zBJ
 split
 ·rfl
 ·next hk =>
  rw [decide_eq_false hk,Bool.false_or,Bool.and_eq_true,Bool.and_eq_true] at h;obtain ⟨⟨h8,_⟩,h1⟩:=h;rw [if_pos (of_decide_eq_true h8),h1];rfl
theorem zK3 {gd:NT->Bool} {e:ET} {many:Bool} (h:zCP gd e many=true) (hm:∀ x ∈ e.kids,zCP gd x (decide (e.n.k=11) && decide (1<e.kids.length))=true):zC4 e.n.k e.kids=true:=by
 have nn:(decide (e.n.k=11) && decide (1<e.kids.length))=false->∀ x ∈ e.kids,zCB x=false:=fun hf x hx=>by
  have:=hm x hx;rw [hf] at this;unfold zCP at this;simp only [Bool.and_eq_true,Bool.or_false] at this;simpa using this.1.2
 unfold zC4
 split
 ·next h11 =>
  by_cases hl:e.kids.length=1
  ·obtain ⟨y,hy⟩:=List.length_eq_one_iff.1 hl;have:=nn (by simp [hl]) y (by rw [hy];simp);rw [hy];simp [this]
  ·simp [hl]
 ·next h11 =>
  split
  ·next h12 =>
   unfold zCP at h;rw [Bool.and_eq_true] at h;have h2:=h.2;rw [decide_eq_true h12] at h2;have h2:e.kids.all zAU=true:=h2;rw [List.all_eq_true] at h2;cases ha:e.kids.any zBJ with
   | false=>rfl
   | true =>
    obtain ⟨x,hx,hv⟩:=List.any_eq_true.1 ha;rw [zIF (h2 x hx)] at hv;cases hv
  ·cases ha:e.kids.any zCB with
   | false=>rfl
   | true =>
    obtain ⟨x,hx,hv⟩:=List.any_eq_true.1 ha;rw [nn (by simp [h11]) x hx] at hv;cases hv
theorem zGV {gd:NT->Bool} (G:zMT gd):∀ (F:Nat) (f r:List NT) (e:ET) (many:Bool),zC0 gd F f=some (e,r)->(zCB e=true->many=true) ->
  (∀ F',F<=F'->zBF F' f=some (e,r))/\∃ s d,zCA gd e many=some (s,d)/\d<=F/\f.length=s+r.length
 | 0,f,r,e,many,h,_=>by cases h
 | F+1,[],r,e,many,h,_=>by cases h
 | F+1,n :: rest,r,e,many,h,hn=>by
  have hh:=zJ8 G h;rw [zC0] at h
  split at h
  ·next hg =>
   split at h
   ·cases h
   ·next ks r1 h1 =>
    split at h
    ·next hk =>
     cases h;have key:∀ (m:Nat) (ls:List ET) (r2:List NT),zBK (zC0 gd F) m rest=some (ls,r2)->(∀ x ∈ ls,zCB x=true->(decide (n.k=11) && decide (1<ks.length))=true) ->
       (∀ F',F<=F'->zBK (zBF F') m rest=some (ls,r2))/\(∀ x ∈ ls,gd x.n=true/\x.n.q=x.kids.length)/\∃ s d,zBD gd ls (decide (n.k=11) && decide (1<ks.length))=some (s,d)/\d<=F/\rest.length=s+r2.length:=by
      intro m
      induction m with
      | zero =>
       intro ls r2 hm _;cases hm;exact ⟨fun _ _=>rfl,fun x hx=>by (cases hx),0,0,by rw [zBD],by omega,by omega⟩
      | succ m ih =>
       intro ls r2 hm hnn;rw [zBK] at hm
       split at hm
       ·cases hm
       ·next ks1 r3 hm1 =>
        split at hm
        ·cases hm
        ·next k r4 hm2 =>
         cases hm;obtain ⟨i1,i0,s1,d1,i2,i3,i4⟩:=ih ks1 r3 hm1 (fun x hx=>hnn x (List.mem_append_left _ hx));obtain ⟨j1,s2,d2,j2,j3,j4⟩:=zGV G F r3 r2 k _ hm2 (fun hx=>hnn k (by simp) hx);refine ⟨fun F' hF=>?_,fun x hx=>?_,s1+s2,max d1 d2,?_,by omega,by omega⟩
         ·rw [zBK,i1 F' hF];simp only [j1 F' hF]
         ·rcases List.mem_append.1 hx with hx | hx
          ·exact i0 x hx
          ·rw [List.mem_singleton] at hx;subst hx;have:=zJ8 G hm2;exact ⟨this.1,this.2.1⟩
         ·rw [zCH,i2,zBD,j2,zBD];simp
     obtain ⟨k1,k0,s,d,k2,k3,k4⟩:=key _ ks r h1 (zOI hk);refine ⟨fun F' hF=>?_,s+1,d+1,?_,by omega,by rw [List.length_cons];omega⟩
     ·obtain ⟨F'',rfl⟩:∃ q,F'=q+1:=⟨F' - 1,by omega⟩;rw [zBF,if_pos (G.kids n hg),k1 F'' (by omega)]
     ·rw [zCA,if_pos,k2];unfold zCP;rw [decide_eq_true hh.2.1,hh.1,Bool.true_and,Bool.true_and,Bool.and_eq_true];refine ⟨?_,?_⟩
      ·cases hx:zCB (.mk n ks) with
       | false=>rfl
       | true=>rw [hn hx];rfl
      ·by_cases h12:n.k=12
       ·have:ks.all zAU=true:=by
         rw [List.all_eq_true];intro x hx;have hv:zBJ x=false:=by
          have hk2:=hk;unfold zC4 at hk2;rw [if_neg (by omega),if_pos h12] at hk2;cases hv:zBJ x with
          | false=>rfl
          | true =>
           rw [List.any_eq_true.2 ⟨x,hx,hv⟩] at hk2;cases hk2
         exact zJM G (k0 x hx).1 (k0 x hx).2 hv
        show (!decide (n.k=12) || ks.all zAU)=true;rw [this,Bool.or_true]
       ·show (!decide (n.k=12) || ks.all zAU)=true;rw [decide_eq_false h12];rfl
    ·cases h
  ·cases h
theorem zIK {gd:NT->Bool}:∀ (F':Nat) (f r:List NT) (e:ET),zBF F' f=some (e,r)->∀ (many:Bool) (s d F:Nat),zCA gd e many=some (s,d)->d<=F->zC0 gd F f=some (e,r)
 | 0,f,r,e,h=>by cases h
 | F'+1,[],r,e,h=>by cases h
 | F'+1,n :: rest,r,e,h=>by
  intro many s d F hs hd;rw [zBF] at h
  split at h
  ·split at h
   ·cases h
   ·next ks r1 h1 =>
    cases h;rw [zCA] at hs
    split at hs
    ·next hr =>
     split at hs
     ·cases hs
     ·next a b hl =>
      cases hs;obtain ⟨F0,rfl⟩:∃ q,F=q+1:=⟨F - 1,by omega⟩;have key:∀ (m:Nat) (ls:List ET) (r2:List NT),zBK (zBF F') m rest=some (ls,r2)->∀ a b,zBD gd ls (decide (n.k=11) && decide (1<ks.length))=some (a,b)->b<=F0->zBK (zC0 gd F0) m rest=some (ls,r2):=by
       intro m
       induction m with
       | zero=>intro ls r2 hm a b _ _;cases hm;rfl
       | succ m ih =>
        intro ls r2 hm a b hsl hb;rw [zBK] at hm
        split at hm
        ·cases hm
        ·next ks1 r3 hm1 =>
         split at hm
         ·cases hm
         ·next k r4 hm2 =>
          cases hm;rw [zCH] at hsl
          split at hsl
          ·cases hsl
          ·next a1 b1 q1 =>
           split at hsl
           ·cases hsl
           ·next a2 b2 q2 =>
            cases hsl;rw [zBD] at q2
            split at q2
            ·cases q2
            ·next a3 b3 q3 =>
             rw [zBD] at q2;cases q2;rw [zBK,ih ks1 r3 hm1 a1 b1 q1 (by omega)];simp only [zIK F' r3 r2 k hm2 _ a3 b3 F0 q3 (by omega)]
      have hkey:=key _ ks r h1 a b hl (by omega);have hg:gd n=true:=by
       unfold zCP at hr;simp only [Bool.and_eq_true] at hr;exact hr.1.1.2
      rw [zC0,if_pos hg,hkey];simp only;rw [if_pos (show zC4 n.k ks=true from zK3 hr (fun x hx=>zIR hl x hx))]
    ·cases hs
  ·cases h
theorem zGX {gd:NT->Bool} (G:zMT gd) (f:List NT):zCC gd f=zAS gd f:=by
 have to1:zCC gd f=true->zAS gd f=true:=by
  intro h;unfold zCC at h;rw [Bool.and_eq_true] at h;obtain ⟨h1,h2⟩:=h
  split at h2
  ·next e hg =>
   obtain ⟨t1,s,d,t2,t3,t4⟩:=zGV G 40 f [] e false hg (fun hx=>by rw [hx] at h2;cases h2);have hs:f.length=s:=by simpa using t4
   have h1':=of_decide_eq_true h1;have hn:1<=f.length:=by
    match f,hg with
    | [],hg=>cases hg
    | _ :: _,_=>simp
   unfold zAS;rw [t1 41 (by omega)];simp only [t2];simp;omega
  ·cases h2
 have to2:zAS gd f=true->zCC gd f=true:=by
  intro h;unfold zAS at h;rw [Bool.and_eq_true,Bool.and_eq_true] at h;obtain ⟨⟨h0,h1⟩,h2⟩:=h
  split at h2
  ·next e ht =>
   split at h2
   ·next s d hs =>
    rw [Bool.and_eq_true] at h2;have hg:=zIK 41 f [] e ht false s d 40 hs (of_decide_eq_true h2.2);unfold zCC;rw [h1,hg];simp only;obtain ⟨n,ks⟩:=e;rw [zCA] at hs
    split at hs
    ·next hr =>
     unfold zCP at hr;simp only [Bool.and_eq_true,Bool.or_false] at hr;rw [hr.1.2];rfl
    ·cases hs
   ·cases h2
  ·cases h2
 cases h1:zCC gd f with
 | true=>rw [to1 h1]
 | false =>
  cases h2:zAS gd f with
  | false=>rfl
  | true=>rw [to2 h2] at h1;cases h1
end Go.Proofs.YteliaeejooekbaaGreatDoor

