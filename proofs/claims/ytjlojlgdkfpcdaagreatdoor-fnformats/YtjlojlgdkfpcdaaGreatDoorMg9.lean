/-
  Several texts in one: Cmp, DivZ, AddD, TextNum.
-/
import Derived.Test.YtjlojlgdkfpcdaaGreatDoorMg7
import Derived.Deep.RegionHeld3
import Derived.Test.YtjlojlgdkfpcdaaGreatDoorDivD
import Derived.Test.YtjlojlgdkfpcdaaGreatDoorMg6
set_option maxRecDepth 8000
set_option maxHeartbeats 4000000
namespace Go.Proofs.YtjlojlgdkfpcdaaGreatDoor
open Go.RowKit
theorem zI2 {a b:Int} (ha:a<0) (hb:b<0) : -cmpI (a.natAbs:Int) (b.natAbs:Int)=cmpI a b:=by
 have e1:(a.natAbs:Int) = -a:=by omega
 have e2:(b.natAbs:Int) = -b:=by omega
 rw [e1,e2,cmpI_neg];simp
theorem zI1 {a b:Int} (ha:¬ a<0) (hb:¬ b<0):cmpI (a.natAbs:Int) (b.natAbs:Int)=cmpI a b:=by
 have e1:(a.natAbs:Int)=a:=by omega
 have e2:(b.natAbs:Int)=b:=by omega
 rw [e1,e2]
theorem zTV {va vb:Value} {a b:Int} (w:World) (ha:ZV w va a) (hb:ZV w vb b) (sa:zAF a=true) (sb:zAF b=true) :
  Calls Tryz.prog 115 #[va,vb] w fun e w'=>e=.returned (iQ (cmpI a b))/\Ext w w':=by
 obtain ⟨s1,s2,rfl⟩:=ha.small_of sa;obtain ⟨t1,t2,rfl⟩:=hb.small_of sb;have H:Hid (cmpI a b=if a<b then -1 else if b<a then 1 else 0):=rfl;go_enter Tryz.func115,Tryz.ntmps115
 go_wp2
 all_goals go_ret
 all_goals refine ⟨zA8 ?_,?_⟩
 all_goals first | (rw [H.out];split <;> (try split) <;> omega) | skip
 all_goals exact xa (xa (xa (x1 _ _) _) _) _
theorem zAU {v:Value} {z:Int} (c:Bool) (w:World) (hc:decide (z<0)=c) (h:ZV w v z) :
  Calls Tryz.prog 110 #[v] w fun e w'=>e=.returned (.bool c)/\Ext w w':=by
 rw [<- hc];exact zDG w h
theorem zTW (a b:Int) : -1<=cmpI a b/\cmpI a b<=1:=by unfold cmpI;split <;> (try split) <;> omega
theorem zH9 {va vb:Value} {a b:Int} (w:World) (ha:zE9 w va a) (hb:zE9 w vb b) :
  Calls Tryz.prog 174 #[va,vb] w fun e w'=>e=.returned (iQ (cmpI a b))/\Ext w w':=by
 obtain ⟨xs,h1,h2,h3,rfl⟩:=ha;obtain ⟨ys,k1,k2,k3,rfl⟩:=hb;exact zE3 w h1 k1 h2 k2 h3 k3
theorem cmp_bigA {va vb:Value} {a b:Int} (w:World) (ha:ZV w va a) (hb:ZV w vb b) (sa:zAF a=false) :
  Calls Tryz.prog 115 #[va,vb] w fun e w'=>e=.returned (iQ (cmpI a b))/\Ext w w':=by
 obtain ⟨a0,a1,pa,na,ca,rfl⟩:=ha.shape;obtain ⟨b0,b1,pb,nb,cb,rfl⟩:=hb.shape;go_enter Tryz.func115,Tryz.ntmps115;go_wp2_with fail;refine (zA9 _ (ha.l (xa (x1 _ _) _))).mono ?_;rintro e w1 ⟨rfl,e1⟩;have Ba:=((Box3.made w (iQ a0) (.bool a1) (.slice pa na ca) 103).l (x1 _ _)).l e1;have Bb:=(Box3.made (w.alloc (.cells #[iQ a0,.bool a1,.slice pa na ca] 103)) (iQ b0) (.bool b1) (.slice pb nb cb) 103).l e1;simp only [World.size_alloc] at Bb;have ha1:=(ha.l (xa (x1 _ _) _)).l e1;have hb1:=(hb.l (xa (x1 _ _) _)).l e1;have X1:=xt (xa (x1 _ _) _) e1;clear e1 ha hb;have Ba':=Ba;have Bb':=Bb;obtain ⟨⟨p0,p1,p2⟩,_⟩:=Ba';obtain ⟨⟨q0,q1,q2⟩,_⟩:=Bb';go_wp2_with fail;by_cases hn:a<0
 ·have hn':decide (a<0)=true:=by simpa using hn
  by_cases hm:b<0
  ·have hm':decide (b<0)=true:=by simpa using hm
   go_region_held3 (fun w'=>(w'.cell? ⟨w.heap.size,0,none⟩=some (iQ a0)/\w'.cell? ⟨w.heap.size,1,none⟩=some (.bool a1)/\w'.cell? ⟨w.heap.size,2,none⟩=some (.slice pa na ca))/\w'.cell? ⟨w.heap.size+1,0,none⟩=some (iQ b0)/\w'.cell? ⟨w.heap.size+1,1,none⟩=some (.bool b1)/\w'.cell? ⟨w.heap.size+1,2,none⟩=some (.slice pb nb cb)) (go_keep)
    (first
     | (go_at_call_of 110 (Value.agg #[iQ a0,.bool a1,.slice pa na ca]);refine (zAU (z:=a) true _ hn' ?_).mono ?_;(exact ha1.l (xd (xr _)));rintro e w4 ⟨rfl,e4⟩;have X4:=xt (xd (xr _)) e4;obtain ⟨⟨c0,c1,c2⟩,_⟩:=Ba.l X4;obtain ⟨⟨d0,d1,d2⟩,_⟩:=Bb.l X4)
     | (go_at_call_of 110 (Value.agg #[iQ b0,.bool b1,.slice pb nb cb]);refine (zAU (z:=b) true _ hm' ?_).mono ?_;(exact hb1.l X4);rintro e w5 ⟨rfl,e5⟩;have X5:=xt X4 e5;obtain ⟨⟨f0,f1,f2⟩,_⟩:=Ba.l X5;obtain ⟨⟨g0,g1,g2⟩,_⟩:=Bb.l X5))
   have HH:Hid (-cmpI (a.natAbs:Int) (b.natAbs:Int)=cmpI a b):=zI2 (by omega) (by omega);go_wp2_with fail;go_region_held3 (fun w'=>(w'.cell? ⟨w.heap.size,0,none⟩=some (iQ a0)/\w'.cell? ⟨w.heap.size,1,none⟩=some (.bool a1)/\w'.cell? ⟨w.heap.size,2,none⟩=some (.slice pa na ca))/\w'.cell? ⟨w.heap.size+1,0,none⟩=some (iQ b0)/\w'.cell? ⟨w.heap.size+1,1,none⟩=some (.bool b1)/\w'.cell? ⟨w.heap.size+1,2,none⟩=some (.slice pb nb cb)) (go_keep)
    (first
     | (go_at_call_of 152 (Value.agg #[iQ a0,.bool a1,.slice pa na ca]);refine (zAD (z:=a) _ ?_).mono ?_;(exact (ha1.l X5).l (xd (xr _)));rintro e w6 ⟨x6,rfl,l6,e6⟩;have X6:=xt (xt X5 (xd (xr _))) e6;obtain ⟨⟨i0,i1,i2⟩,_⟩:=Ba.l X6;obtain ⟨⟨j0,j1,j2⟩,_⟩:=Bb.l X6)
     | (go_at_call_of 152 (Value.agg #[iQ b0,.bool b1,.slice pb nb cb]);refine (zAD (z:=b) _ ?_).mono ?_;(exact hb1.l X6);rintro e w7 ⟨x7,rfl,l7,e7⟩;have X7:=xt X6 e7;obtain ⟨⟨k0,k1,k2⟩,_⟩:=Ba.l X7;obtain ⟨⟨m0,m1,m2⟩,_⟩:=Bb.l X7)
     | (go_at_call 174;refine (zH9 _ (l6.l e7) l7).mono ?_;rintro e w8 ⟨rfl,e8⟩;have X8:=xt X7 e8;obtain ⟨⟨n0,n1,n2⟩,_⟩:=Ba.l X8;obtain ⟨⟨o0,o1,o2⟩,_⟩:=Bb.l X8))
   go_wp2_with fail;refine (zAU _ _ hn' (ha1.l X8)).mono ?_;rintro e w9 ⟨rfl,e9⟩;have cb:=zTW (a.natAbs:Int) (b.natAbs:Int)
   go_wp2
   go_ret;exact ⟨zA8 HH.out,xt X1 (xt X8 e9)⟩
  ·have hm':decide (b<0)=false:=by simpa using hm
   go_region_held3 (fun w'=>(w'.cell? ⟨w.heap.size,0,none⟩=some (iQ a0)/\w'.cell? ⟨w.heap.size,1,none⟩=some (.bool a1)/\w'.cell? ⟨w.heap.size,2,none⟩=some (.slice pa na ca))/\w'.cell? ⟨w.heap.size+1,0,none⟩=some (iQ b0)/\w'.cell? ⟨w.heap.size+1,1,none⟩=some (.bool b1)/\w'.cell? ⟨w.heap.size+1,2,none⟩=some (.slice pb nb cb)) (go_keep)
    (first
     | (go_at_call_of 110 (Value.agg #[iQ a0,.bool a1,.slice pa na ca]);refine (zAU (z:=a) true _ hn' ?_).mono ?_;(exact ha1.l (xd (xr _)));rintro e w4 ⟨rfl,e4⟩;have X4:=xt (xd (xr _)) e4;obtain ⟨⟨c0,c1,c2⟩,_⟩:=Ba.l X4;obtain ⟨⟨d0,d1,d2⟩,_⟩:=Bb.l X4)
     | (go_at_call_of 110 (Value.agg #[iQ b0,.bool b1,.slice pb nb cb]);refine (zAU (z:=b) false _ hm' ?_).mono ?_;(exact hb1.l X4);rintro e w5 ⟨rfl,e5⟩;have X5:=xt X4 e5;obtain ⟨⟨f0,f1,f2⟩,_⟩:=Ba.l X5;obtain ⟨⟨g0,g1,g2⟩,_⟩:=Bb.l X5))
   have HH:Hid (cmpI a b = -1):=zEK (by omega);go_wp2_with fail;refine (zAU _ _ hn' (ha1.l X5)).mono ?_;rintro e w9 ⟨rfl,e9⟩
   go_wp2
   go_ret;exact ⟨zA8 HH.out.symm,xt X1 (xt X5 e9)⟩
 ·have hn':decide (a<0)=false:=by simpa using hn
  by_cases hm:b<0
  ·have hm':decide (b<0)=true:=by simpa using hm
   go_region_held3 (fun w'=>(w'.cell? ⟨w.heap.size,0,none⟩=some (iQ a0)/\w'.cell? ⟨w.heap.size,1,none⟩=some (.bool a1)/\w'.cell? ⟨w.heap.size,2,none⟩=some (.slice pa na ca))/\w'.cell? ⟨w.heap.size+1,0,none⟩=some (iQ b0)/\w'.cell? ⟨w.heap.size+1,1,none⟩=some (.bool b1)/\w'.cell? ⟨w.heap.size+1,2,none⟩=some (.slice pb nb cb)) (go_keep)
    (first
     | (go_at_call_of 110 (Value.agg #[iQ a0,.bool a1,.slice pa na ca]);refine (zAU (z:=a) false _ hn' ?_).mono ?_;(exact ha1.l (xd (xr _)));rintro e w4 ⟨rfl,e4⟩;have X4:=xt (xd (xr _)) e4;obtain ⟨⟨c0,c1,c2⟩,_⟩:=Ba.l X4;obtain ⟨⟨d0,d1,d2⟩,_⟩:=Bb.l X4)
     | (go_at_call_of 110 (Value.agg #[iQ b0,.bool b1,.slice pb nb cb]);refine (zAU (z:=b) true _ hm' ?_).mono ?_;(exact hb1.l X4);rintro e w5 ⟨rfl,e5⟩;have X5:=xt X4 e5;obtain ⟨⟨f0,f1,f2⟩,_⟩:=Ba.l X5;obtain ⟨⟨g0,g1,g2⟩,_⟩:=Bb.l X5))
   have HH:Hid (cmpI a b=1):=zE2 (by omega);go_wp2_with fail;refine (zAU _ _ hn' (ha1.l X5)).mono ?_;rintro e w9 ⟨rfl,e9⟩
   go_wp2
   go_ret;exact ⟨zA8 HH.out.symm,xt X1 (xt X5 e9)⟩
  ·have hm':decide (b<0)=false:=by simpa using hm
   go_region_held3 (fun w'=>(w'.cell? ⟨w.heap.size,0,none⟩=some (iQ a0)/\w'.cell? ⟨w.heap.size,1,none⟩=some (.bool a1)/\w'.cell? ⟨w.heap.size,2,none⟩=some (.slice pa na ca))/\w'.cell? ⟨w.heap.size+1,0,none⟩=some (iQ b0)/\w'.cell? ⟨w.heap.size+1,1,none⟩=some (.bool b1)/\w'.cell? ⟨w.heap.size+1,2,none⟩=some (.slice pb nb cb)) (go_keep)
    (first
     | (go_at_call_of 110 (Value.agg #[iQ a0,.bool a1,.slice pa na ca]);refine (zAU (z:=a) false _ hn' ?_).mono ?_;(exact ha1.l (xd (xr _)));rintro e w4 ⟨rfl,e4⟩;have X4:=xt (xd (xr _)) e4;obtain ⟨⟨c0,c1,c2⟩,_⟩:=Ba.l X4;obtain ⟨⟨d0,d1,d2⟩,_⟩:=Bb.l X4)
     | (go_at_call_of 110 (Value.agg #[iQ b0,.bool b1,.slice pb nb cb]);refine (zAU (z:=b) false _ hm' ?_).mono ?_;(exact hb1.l X4);rintro e w5 ⟨rfl,e5⟩;have X5:=xt X4 e5;obtain ⟨⟨f0,f1,f2⟩,_⟩:=Ba.l X5;obtain ⟨⟨g0,g1,g2⟩,_⟩:=Bb.l X5))
   have HH:Hid (cmpI (a.natAbs:Int) (b.natAbs:Int)=cmpI a b):=zI1 (by omega) (by omega);go_wp2_with fail;go_region_held3 (fun w'=>(w'.cell? ⟨w.heap.size,0,none⟩=some (iQ a0)/\w'.cell? ⟨w.heap.size,1,none⟩=some (.bool a1)/\w'.cell? ⟨w.heap.size,2,none⟩=some (.slice pa na ca))/\w'.cell? ⟨w.heap.size+1,0,none⟩=some (iQ b0)/\w'.cell? ⟨w.heap.size+1,1,none⟩=some (.bool b1)/\w'.cell? ⟨w.heap.size+1,2,none⟩=some (.slice pb nb cb)) (go_keep)
    (first
     | (go_at_call_of 152 (Value.agg #[iQ a0,.bool a1,.slice pa na ca]);refine (zAD (z:=a) _ ?_).mono ?_;(exact (ha1.l X5).l (xd (xr _)));rintro e w6 ⟨x6,rfl,l6,e6⟩;have X6:=xt (xt X5 (xd (xr _))) e6;obtain ⟨⟨i0,i1,i2⟩,_⟩:=Ba.l X6;obtain ⟨⟨j0,j1,j2⟩,_⟩:=Bb.l X6)
     | (go_at_call_of 152 (Value.agg #[iQ b0,.bool b1,.slice pb nb cb]);refine (zAD (z:=b) _ ?_).mono ?_;(exact hb1.l X6);rintro e w7 ⟨x7,rfl,l7,e7⟩;have X7:=xt X6 e7;obtain ⟨⟨k0,k1,k2⟩,_⟩:=Ba.l X7;obtain ⟨⟨m0,m1,m2⟩,_⟩:=Bb.l X7)
     | (go_at_call 174;refine (zH9 _ (l6.l e7) l7).mono ?_;rintro e w8 ⟨rfl,e8⟩;have X8:=xt X7 e8;obtain ⟨⟨n0,n1,n2⟩,_⟩:=Ba.l X8;obtain ⟨⟨o0,o1,o2⟩,_⟩:=Bb.l X8))
   go_wp2_with fail;refine (zAU _ _ hn' (ha1.l X8)).mono ?_;rintro e w9 ⟨rfl,e9⟩
   go_wp2
   go_ret;exact ⟨zA8 HH.out,xt X1 (xt X8 e9)⟩
theorem cmp_bigB {va vb:Value} {a b:Int} (w:World) (ha:ZV w va a) (hb:ZV w vb b) (sa:zAF a=true) (sb:zAF b=false) :
  Calls Tryz.prog 115 #[va,vb] w fun e w'=>e=.returned (iQ (cmpI a b))/\Ext w w':=by
 obtain ⟨a0,a1,pa,na,ca,rfl⟩:=ha.shape;obtain ⟨b0,b1,pb,nb,cb,rfl⟩:=hb.shape;go_enter Tryz.func115,Tryz.ntmps115;go_wp2_with fail;refine (zA9 _ (ha.l (xa (x1 _ _) _))).mono ?_;rintro e w1 ⟨rfl,e1⟩;have Ba:=((Box3.made w (iQ a0) (.bool a1) (.slice pa na ca) 103).l (x1 _ _)).l e1;have Bb:=(Box3.made (w.alloc (.cells #[iQ a0,.bool a1,.slice pa na ca] 103)) (iQ b0) (.bool b1) (.slice pb nb cb) 103).l e1;simp only [World.size_alloc] at Bb;have ha1:=(ha.l (xa (x1 _ _) _)).l e1;have hb1:=(hb.l (xa (x1 _ _) _)).l e1;have X1:=xt (xa (x1 _ _) _) e1;clear e1 ha hb;have Bb':=Bb;obtain ⟨⟨p0,p1,p2⟩,_⟩:=Bb';go_wp2_with fail;clear p0 p1 p2;refine (zA9 _ hb1).mono ?_;rintro e w1b ⟨rfl,e1b⟩;replace Ba:=Ba.l e1b;replace Bb:=Bb.l e1b;replace ha1:=ha1.l e1b;replace hb1:=hb1.l e1b;replace X1:=xt X1 e1b;clear e1b;have Ba':=Ba;have Bb':=Bb;obtain ⟨⟨p0,p1,p2⟩,_⟩:=Ba';obtain ⟨⟨q0,q1,q2⟩,_⟩:=Bb';go_wp2_with fail;by_cases hn:a<0
 ·have hn':decide (a<0)=true:=by simpa using hn
  by_cases hm:b<0
  ·have hm':decide (b<0)=true:=by simpa using hm
   go_region_held3 (fun w'=>(w'.cell? ⟨w.heap.size,0,none⟩=some (iQ a0)/\w'.cell? ⟨w.heap.size,1,none⟩=some (.bool a1)/\w'.cell? ⟨w.heap.size,2,none⟩=some (.slice pa na ca))/\w'.cell? ⟨w.heap.size+1,0,none⟩=some (iQ b0)/\w'.cell? ⟨w.heap.size+1,1,none⟩=some (.bool b1)/\w'.cell? ⟨w.heap.size+1,2,none⟩=some (.slice pb nb cb)) (go_keep)
    (first
     | (go_at_call_of 110 (Value.agg #[iQ a0,.bool a1,.slice pa na ca]);refine (zAU (z:=a) true _ hn' ?_).mono ?_;(exact ha1.l (xd (xr _)));rintro e w4 ⟨rfl,e4⟩;have X4:=xt (xd (xr _)) e4;obtain ⟨⟨c0,c1,c2⟩,_⟩:=Ba.l X4;obtain ⟨⟨d0,d1,d2⟩,_⟩:=Bb.l X4)
     | (go_at_call_of 110 (Value.agg #[iQ b0,.bool b1,.slice pb nb cb]);refine (zAU (z:=b) true _ hm' ?_).mono ?_;(exact hb1.l X4);rintro e w5 ⟨rfl,e5⟩;have X5:=xt X4 e5;obtain ⟨⟨f0,f1,f2⟩,_⟩:=Ba.l X5;obtain ⟨⟨g0,g1,g2⟩,_⟩:=Bb.l X5))
   have HH:Hid (-cmpI (a.natAbs:Int) (b.natAbs:Int)=cmpI a b):=zI2 (by omega) (by omega);go_wp2_with fail;go_region_held3 (fun w'=>(w'.cell? ⟨w.heap.size,0,none⟩=some (iQ a0)/\w'.cell? ⟨w.heap.size,1,none⟩=some (.bool a1)/\w'.cell? ⟨w.heap.size,2,none⟩=some (.slice pa na ca))/\w'.cell? ⟨w.heap.size+1,0,none⟩=some (iQ b0)/\w'.cell? ⟨w.heap.size+1,1,none⟩=some (.bool b1)/\w'.cell? ⟨w.heap.size+1,2,none⟩=some (.slice pb nb cb)) (go_keep)
    (first
     | (go_at_call_of 152 (Value.agg #[iQ a0,.bool a1,.slice pa na ca]);refine (zAD (z:=a) _ ?_).mono ?_;(exact (ha1.l X5).l (xd (xr _)));rintro e w6 ⟨x6,rfl,l6,e6⟩;have X6:=xt (xt X5 (xd (xr _))) e6;obtain ⟨⟨i0,i1,i2⟩,_⟩:=Ba.l X6;obtain ⟨⟨j0,j1,j2⟩,_⟩:=Bb.l X6)
     | (go_at_call_of 152 (Value.agg #[iQ b0,.bool b1,.slice pb nb cb]);refine (zAD (z:=b) _ ?_).mono ?_;(exact hb1.l X6);rintro e w7 ⟨x7,rfl,l7,e7⟩;have X7:=xt X6 e7;obtain ⟨⟨k0,k1,k2⟩,_⟩:=Ba.l X7;obtain ⟨⟨m0,m1,m2⟩,_⟩:=Bb.l X7)
     | (go_at_call 174;refine (zH9 _ (l6.l e7) l7).mono ?_;rintro e w8 ⟨rfl,e8⟩;have X8:=xt X7 e8;obtain ⟨⟨n0,n1,n2⟩,_⟩:=Ba.l X8;obtain ⟨⟨o0,o1,o2⟩,_⟩:=Bb.l X8))
   go_wp2_with fail;refine (zAU _ _ hn' (ha1.l X8)).mono ?_;rintro e w9 ⟨rfl,e9⟩;have cb:=zTW (a.natAbs:Int) (b.natAbs:Int)
   go_wp2
   go_ret;exact ⟨zA8 HH.out,xt X1 (xt X8 e9)⟩
  ·have hm':decide (b<0)=false:=by simpa using hm
   go_region_held3 (fun w'=>(w'.cell? ⟨w.heap.size,0,none⟩=some (iQ a0)/\w'.cell? ⟨w.heap.size,1,none⟩=some (.bool a1)/\w'.cell? ⟨w.heap.size,2,none⟩=some (.slice pa na ca))/\w'.cell? ⟨w.heap.size+1,0,none⟩=some (iQ b0)/\w'.cell? ⟨w.heap.size+1,1,none⟩=some (.bool b1)/\w'.cell? ⟨w.heap.size+1,2,none⟩=some (.slice pb nb cb)) (go_keep)
    (first
     | (go_at_call_of 110 (Value.agg #[iQ a0,.bool a1,.slice pa na ca]);refine (zAU (z:=a) true _ hn' ?_).mono ?_;(exact ha1.l (xd (xr _)));rintro e w4 ⟨rfl,e4⟩;have X4:=xt (xd (xr _)) e4;obtain ⟨⟨c0,c1,c2⟩,_⟩:=Ba.l X4;obtain ⟨⟨d0,d1,d2⟩,_⟩:=Bb.l X4)
     | (go_at_call_of 110 (Value.agg #[iQ b0,.bool b1,.slice pb nb cb]);refine (zAU (z:=b) false _ hm' ?_).mono ?_;(exact hb1.l X4);rintro e w5 ⟨rfl,e5⟩;have X5:=xt X4 e5;obtain ⟨⟨f0,f1,f2⟩,_⟩:=Ba.l X5;obtain ⟨⟨g0,g1,g2⟩,_⟩:=Bb.l X5))
   have HH:Hid (cmpI a b = -1):=zEK (by omega);go_wp2_with fail;refine (zAU _ _ hn' (ha1.l X5)).mono ?_;rintro e w9 ⟨rfl,e9⟩
   go_wp2
   go_ret;exact ⟨zA8 HH.out.symm,xt X1 (xt X5 e9)⟩
 ·have hn':decide (a<0)=false:=by simpa using hn
  by_cases hm:b<0
  ·have hm':decide (b<0)=true:=by simpa using hm
   go_region_held3 (fun w'=>(w'.cell? ⟨w.heap.size,0,none⟩=some (iQ a0)/\w'.cell? ⟨w.heap.size,1,none⟩=some (.bool a1)/\w'.cell? ⟨w.heap.size,2,none⟩=some (.slice pa na ca))/\w'.cell? ⟨w.heap.size+1,0,none⟩=some (iQ b0)/\w'.cell? ⟨w.heap.size+1,1,none⟩=some (.bool b1)/\w'.cell? ⟨w.heap.size+1,2,none⟩=some (.slice pb nb cb)) (go_keep)
    (first
     | (go_at_call_of 110 (Value.agg #[iQ a0,.bool a1,.slice pa na ca]);refine (zAU (z:=a) false _ hn' ?_).mono ?_;(exact ha1.l (xd (xr _)));rintro e w4 ⟨rfl,e4⟩;have X4:=xt (xd (xr _)) e4;obtain ⟨⟨c0,c1,c2⟩,_⟩:=Ba.l X4;obtain ⟨⟨d0,d1,d2⟩,_⟩:=Bb.l X4)
     | (go_at_call_of 110 (Value.agg #[iQ b0,.bool b1,.slice pb nb cb]);refine (zAU (z:=b) true _ hm' ?_).mono ?_;(exact hb1.l X4);rintro e w5 ⟨rfl,e5⟩;have X5:=xt X4 e5;obtain ⟨⟨f0,f1,f2⟩,_⟩:=Ba.l X5;obtain ⟨⟨g0,g1,g2⟩,_⟩:=Bb.l X5))
   have HH:Hid (cmpI a b=1):=zE2 (by omega);go_wp2_with fail;refine (zAU _ _ hn' (ha1.l X5)).mono ?_;rintro e w9 ⟨rfl,e9⟩
   go_wp2
   go_ret;exact ⟨zA8 HH.out.symm,xt X1 (xt X5 e9)⟩
  ·have hm':decide (b<0)=false:=by simpa using hm
   go_region_held3 (fun w'=>(w'.cell? ⟨w.heap.size,0,none⟩=some (iQ a0)/\w'.cell? ⟨w.heap.size,1,none⟩=some (.bool a1)/\w'.cell? ⟨w.heap.size,2,none⟩=some (.slice pa na ca))/\w'.cell? ⟨w.heap.size+1,0,none⟩=some (iQ b0)/\w'.cell? ⟨w.heap.size+1,1,none⟩=some (.bool b1)/\w'.cell? ⟨w.heap.size+1,2,none⟩=some (.slice pb nb cb)) (go_keep)
    (first
     | (go_at_call_of 110 (Value.agg #[iQ a0,.bool a1,.slice pa na ca]);refine (zAU (z:=a) false _ hn' ?_).mono ?_;(exact ha1.l (xd (xr _)));rintro e w4 ⟨rfl,e4⟩;have X4:=xt (xd (xr _)) e4;obtain ⟨⟨c0,c1,c2⟩,_⟩:=Ba.l X4;obtain ⟨⟨d0,d1,d2⟩,_⟩:=Bb.l X4)
     | (go_at_call_of 110 (Value.agg #[iQ b0,.bool b1,.slice pb nb cb]);refine (zAU (z:=b) false _ hm' ?_).mono ?_;(exact hb1.l X4);rintro e w5 ⟨rfl,e5⟩;have X5:=xt X4 e5;obtain ⟨⟨f0,f1,f2⟩,_⟩:=Ba.l X5;obtain ⟨⟨g0,g1,g2⟩,_⟩:=Bb.l X5))
   have HH:Hid (cmpI (a.natAbs:Int) (b.natAbs:Int)=cmpI a b):=zI1 (by omega) (by omega);go_wp2_with fail;go_region_held3 (fun w'=>(w'.cell? ⟨w.heap.size,0,none⟩=some (iQ a0)/\w'.cell? ⟨w.heap.size,1,none⟩=some (.bool a1)/\w'.cell? ⟨w.heap.size,2,none⟩=some (.slice pa na ca))/\w'.cell? ⟨w.heap.size+1,0,none⟩=some (iQ b0)/\w'.cell? ⟨w.heap.size+1,1,none⟩=some (.bool b1)/\w'.cell? ⟨w.heap.size+1,2,none⟩=some (.slice pb nb cb)) (go_keep)
    (first
     | (go_at_call_of 152 (Value.agg #[iQ a0,.bool a1,.slice pa na ca]);refine (zAD (z:=a) _ ?_).mono ?_;(exact (ha1.l X5).l (xd (xr _)));rintro e w6 ⟨x6,rfl,l6,e6⟩;have X6:=xt (xt X5 (xd (xr _))) e6;obtain ⟨⟨i0,i1,i2⟩,_⟩:=Ba.l X6;obtain ⟨⟨j0,j1,j2⟩,_⟩:=Bb.l X6)
     | (go_at_call_of 152 (Value.agg #[iQ b0,.bool b1,.slice pb nb cb]);refine (zAD (z:=b) _ ?_).mono ?_;(exact hb1.l X6);rintro e w7 ⟨x7,rfl,l7,e7⟩;have X7:=xt X6 e7;obtain ⟨⟨k0,k1,k2⟩,_⟩:=Ba.l X7;obtain ⟨⟨m0,m1,m2⟩,_⟩:=Bb.l X7)
     | (go_at_call 174;refine (zH9 _ (l6.l e7) l7).mono ?_;rintro e w8 ⟨rfl,e8⟩;have X8:=xt X7 e8;obtain ⟨⟨n0,n1,n2⟩,_⟩:=Ba.l X8;obtain ⟨⟨o0,o1,o2⟩,_⟩:=Bb.l X8))
   go_wp2_with fail;refine (zAU _ _ hn' (ha1.l X8)).mono ?_;rintro e w9 ⟨rfl,e9⟩
   go_wp2
   go_ret;exact ⟨zA8 HH.out,xt X1 (xt X8 e9)⟩
theorem zMT {va vb:Value} {a b:Int} (w:World) (ha:ZV w va a) (hb:ZV w vb b) :
  Calls Tryz.prog 115 #[va,vb] w fun e w'=>e=.returned (iQ (cmpI a b))/\Ext w w':=by
 cases sa:zAF a
 ·exact cmp_bigA w ha hb sa
 ·cases sb:zAF b
  ·exact cmp_bigB w ha hb sa sb
  ·exact zTV w ha hb sa sb
def ZIn (w:World) (b:Nat) (z:Int):Prop:=∃ a0 a1 p n cap,Box3 w b (iQ a0) (.bool a1) (.slice p n cap)/\ZV w (.agg #[iQ a0,.bool a1,.slice p n cap]) z
theorem ZIn.l {w w1:World} {b:Nat} {z:Int} (h:ZIn w b z) (hb:Ext w w1):ZIn w1 b z:=by
 obtain ⟨a0,a1,p,n,cap,h1,h2⟩:=h;exact ⟨a0,a1,p,n,cap,h1.l hb,h2.l hb⟩
theorem Box3.far {w:World} {b:Nat} {v0 v1 v2:Value} (h:Box3 w b v0 v1 v2) {p:Addr} (hp:p.block ≠ b) (u:Value):Box3 (w.setCell p u) b v0 v1 v2:=by
 obtain ⟨⟨h0,h1,h2⟩,f0,f1,f2⟩:=h;have ne:∀ i,p ≠ ⟨b,i,none⟩:=fun i e=>hp (congrArg Addr.block e);refine ⟨⟨?_,?_,?_⟩,?_,?_,?_⟩
 ·rw [World.cell?_setCell_other _ _ _ _ (ne 0)];exact h0
 ·rw [World.cell?_setCell_other _ _ _ _ (ne 1)];exact h1
 ·rw [World.cell?_setCell_other _ _ _ _ (ne 2)];exact h2
 ·rw [World.frozen?_setCell];exact f0
 ·rw [World.frozen?_setCell];exact f1
 ·rw [World.frozen?_setCell];exact f2
theorem Box3.put {w:World} {b:Nat} {v0 v1 v2:Value} (h:Box3 w b v0 v1 v2) (u0 u1 u2:Value):Box3 (set3 w b u0 u1 u2) b u0 u1 u2:=by
 obtain ⟨⟨h0,h1,h2⟩,f0,f1,f2⟩:=h;have k1:(w.setCell ⟨b,0,none⟩ u0).cell? ⟨b,1,none⟩=some v1:=by rw [World.cell?_setCell_other _ _ _ _ (zBC (by decide))];exact h1
 have k2:((w.setCell ⟨b,0,none⟩ u0).setCell ⟨b,1,none⟩ u1).cell? ⟨b,2,none⟩=some v2:=by
  rw [World.cell?_setCell_other _ _ _ _ (zBC (by decide)),World.cell?_setCell_other _ _ _ _ (zBC (by decide))];exact h2
 refine ⟨⟨?_,?_,World.cell?_setCell_same _ _ _ k2⟩,?_,?_,?_⟩
 ·rw [World.cell?_setCell_other _ _ _ _ (zBC (by decide)),World.cell?_setCell_other _ _ _ _ (zBC (by decide))];exact World.cell?_setCell_same _ _ _ h0
 ·rw [World.cell?_setCell_other _ _ _ _ (zBC (by decide))];exact World.cell?_setCell_same _ _ _ k1
 ·simp only [World.frozen?_setCell];exact f0
 ·simp only [World.frozen?_setCell];exact f1
 ·simp only [World.frozen?_setCell];exact f2
theorem Box3.far3 {w:World} {b k:Nat} {v0 v1 v2:Value} (h:Box3 w b v0 v1 v2) (hk:k ≠ b) (u0 u1 u2:Value):Box3 (set3 w k u0 u1 u2) b v0 v1 v2:=((h.far (p:=⟨k,0,none⟩) hk u0).far (p:=⟨k,1,none⟩) hk u1).far (p:=⟨k,2,none⟩) hk u2
theorem ZIn.put {w:World} {b:Nat} {z y:Int} {a0:Int} {a1:Bool} {p:Option Addr} {n cap:Nat} (h:ZIn w b z) (hz:ZV w (.agg #[iQ a0,.bool a1,.slice p n cap]) y):ZIn (set3 w b (iQ a0) (.bool a1) (.slice p n cap)) b y:=by
 obtain ⟨c0,c1,q,m,cp,h1,h2⟩:=h;exact ⟨a0,a1,p,n,cap,h1.put _ _ _,hz.set3 h1 _ _ _⟩
theorem ZIn.far {w:World} {b k:Nat} {z y:Int} (h:ZIn w b z) (hk:ZIn w k y) (hne:k ≠ b) (c0 c1 c2:Value):ZIn (set3 w k c0 c1 c2) b z:=by
 obtain ⟨a0,a1,p,n,cap,h1,h2⟩:=h;obtain ⟨d0,d1,q,m,cp,k1,_⟩:=hk;exact ⟨a0,a1,p,n,cap,h1.far3 hne _ _ _,h2.set3 k1 _ _ _⟩
theorem ZIn.made {w:World} {a0:Int} {a1:Bool} {p:Option Addr} {n cap:Nat} {z:Int} (t:TypeId) (h:ZV w (.agg #[iQ a0,.bool a1,.slice p n cap]) z):ZIn (w.alloc (.cells #[iQ a0,.bool a1,.slice p n cap] t)) w.heap.size z:=
 ⟨a0,a1,p,n,cap,Box3.made w _ _ _ t,h.l (x1 _ _)⟩
theorem ZIn.zero (w:World) (t:TypeId):ZIn (w.alloc (.cells #[iQ 0,.bool false,.slice none 0 0] t)) w.heap.size 0:=ZIn.made t (ZV.small (by decide) (by decide))
theorem zGZ {w:World} {v:Value} {z y:Int} {b:Nat} (h:ZV w v z) (hb:ZIn w b y) (c0 c1 c2:Value):ZV (set3 w b c0 c1 c2) v z:=by
 obtain ⟨_,_,_,_,_,h1,_⟩:=hb;exact h.set3 h1 _ _ _
theorem zSL {a:Int} (h:0<=a):(a.natAbs:Int)=a:=by omega
theorem zTI (a b:Int) (w:World) (a0:0<=a) (a1:a<1000000000000000000) (b0:0<b) (b1:b<1000000000000000000) :
  Calls Tryz.prog 114 #[zS a,zS b] w fun e w'=>∃ vq vr,e=.returned (.tuple #[vq,vr])/\ZV w' vq (a / b)/\ZV w' vr (a % b)/\Ext w w':=by
 have q0:0<=a / b:=Int.ediv_nonneg a0 (by omega);have q1:a / b<=a:=Int.ediv_le_self b a0;have r0:0<=a % b:=Int.emod_nonneg a (by omega);have r1:a % b<b:=Int.emod_lt_of_pos a b0;have sa:Hid (∀ w2:World,Calls Tryz.prog 153 #[zS a] w2 fun e w'=>e=.returned (.bool true)/\Ext w2 w'):=fun w2=>by
  have:=zA9 w2 (ZV.small (w:=w2) (z:=a) (by omega) (by omega))
  rwa [zBD (by omega) (by omega)] at this
 have sb:Hid (∀ w2:World,Calls Tryz.prog 153 #[zS b] w2 fun e w'=>e=.returned (.bool true)/\Ext w2 w'):=fun w2=>by
  have:=zA9 w2 (ZV.small (w:=w2) (z:=b) (by omega) (by omega))
  rwa [zBD (by omega) (by omega)] at this
 have hr0:¬ a % b<0:=by omega
 go_enter Tryz.func114,Tryz.ntmps114;go_wp2_with fail;refine (sa.out _).mono ?_;rintro e w1 ⟨rfl,e1⟩;have Ba:=((Box3.made w (iQ a) (.bool false) (.slice none 0 0) 103).l (xa (xa (x1 _ (.cells #[iQ b,.bool false,.slice none 0 0] 103)) (.cells #[iQ 0,.bool false,.slice none 0 0] 103)) (.cells #[iQ 0,.bool false,.slice none 0 0] 103))).l e1;have Bb:=((Box3.made (w.alloc (.cells #[iQ a,.bool false,.slice none 0 0] 103)) (iQ b) (.bool false) (.slice none 0 0) 103).l (xa (x1 _ _) _)).l e1;have Bq:=((Box3.made ((w.alloc (.cells #[iQ a,.bool false,.slice none 0 0] 103)).alloc (.cells #[iQ b,.bool false,.slice none 0 0] 103)) (iQ 0) (.bool false) (.slice none 0 0) 103).l (x1 _ _)).l e1;have Bs:=(Box3.made (((w.alloc (.cells #[iQ a,.bool false,.slice none 0 0] 103)).alloc (.cells #[iQ b,.bool false,.slice none 0 0] 103)).alloc (.cells #[iQ 0,.bool false,.slice none 0 0] 103)) (iQ 0) (.bool false) (.slice none 0 0) 103).l e1;simp only [World.size_alloc] at Bb Bq Bs;have X1:=xt (xa (xa (xa (x1 _ _) _) _) _) e1;have Bb':=Bb;obtain ⟨⟨p0,p1,p2⟩,_⟩:=Bb';clear e1;go_wp2_with fail;refine (sb.out _).mono ?_;rintro e w2 ⟨rfl,e2⟩;obtain ⟨⟨g0,g1,g2⟩,_⟩:=Ba.l e2;obtain ⟨⟨h0,h1,h2⟩,_⟩:=Bb.l e2;obtain ⟨⟨i0,i1,i2⟩,j0,j1,j2⟩:=Bq.l e2;obtain ⟨⟨k0,k1,k2⟩,l0,l1,l2⟩:=Bs.l e2;clear p0 p1 p2 Ba Bb Bq Bs;go_wp2_with fail;refine bodyPost_ret (v:=.tuple #[zS (a / b),zS (a % b)]) (by simp [results,Tryz.results114,go_sem,i0,i1,i2,k0,k1,k2]) rfl ⟨_,_,rfl,ZV.small (by omega) (by omega),ZV.small (by omega) (by omega),?_⟩;refine xset (xset (xset (xset (xset (xset (xt X1 e2) ?_ _) ?_ _) ?_ _) ?_ _) ?_ _) ?_ _ <;> (simp only;omega)
theorem div_big {va vb:Value} {a b:Int} (w:World) (ha:ZV w va a) (hb:ZV w vb b) (a0:0<=a) (b0:0<b) (hbig:(zAF a && zAF b)=false) (k:Nat) (hk:k<=100000000) (ka:a<1000000000 ^ k) (kb:b<1000000000 ^ k) :
  Calls Tryz.prog 114 #[va,vb] w fun e w'=>∃ vq vr,e=.returned (.tuple #[vq,vr])/\ZV w' vq (a / b)/\ZV w' vr (a % b)/\Ext w w':=by
 obtain ⟨c0,c1,pa,na,ca,rfl⟩:=ha.shape;obtain ⟨d0,d1,pb,nb,cb,rfl⟩:=hb.shape;have IA:Hid (∀ w2,Ext w w2->Calls Tryz.prog 153 #[.agg #[iQ c0,.bool c1,.slice pa na ca]] w2 fun e w'=>e=.returned (.bool (zAF a))/\Ext w2 w'):=fun w2 x=>zA9 w2 (ha.l x);have IB:Hid (∀ w2,Ext w w2->Calls Tryz.prog 153 #[.agg #[iQ d0,.bool d1,.slice pb nb cb]] w2 fun e w'=>e=.returned (.bool (zAF b))/\Ext w2 w'):=fun w2 x=>zA9 w2 (hb.l x);have na':decide (a<0)=false:=by simpa using a0
 have nb':decide (b<0)=false:=by simp;omega
 have NA:Hid (∀ w2,Ext w w2->Calls Tryz.prog 110 #[.agg #[iQ c0,.bool c1,.slice pa na ca]] w2 fun e w'=>e=.returned (.bool false)/\Ext w2 w'):=fun w2 x=>zAU false w2 na' (ha.l x);have NB:Hid (∀ w2,Ext w w2->Calls Tryz.prog 110 #[.agg #[iQ d0,.bool d1,.slice pb nb cb]] w2 fun e w'=>e=.returned (.bool false)/\Ext w2 w'):=fun w2 x=>zAU false w2 nb' (hb.l x);have LA:Hid (∀ w2,Ext w w2->Calls Tryz.prog 152 #[.agg #[iQ c0,.bool c1,.slice pa na ca]] w2 fun e w'=>∃ v' xs,e=.returned v'/\Hid (Row w' v' xs/\Lim xs/\Top xs/\lv xs=a/\xs.length<=k)/\Ext w2 w'):=fun w2 x=>by
  refine (zAD w2 (ha.l x)).mono ?_;rintro e w' ⟨v',rfl,⟨xs,h1,h2,h3,h4⟩,hx⟩;rw [zSL a0] at h4;exact ⟨v',xs,rfl,⟨h1,h2,h3,h4,zEF h2 h3 (by rw [h4];exact ka)⟩,hx⟩
 have LB:Hid (∀ w2,Ext w w2->Calls Tryz.prog 152 #[.agg #[iQ d0,.bool d1,.slice pb nb cb]] w2 fun e w'=>∃ v' xs,e=.returned v'/\Hid (Row w' v' xs/\Lim xs/\Top xs/\lv xs=b/\xs.length<=k)/\Ext w2 w'):=fun w2 x=>by
  refine (zAD w2 (hb.l x)).mono ?_;rintro e w' ⟨v',rfl,⟨xs,h1,h2,h3,h4⟩,hx⟩;rw [zSL (by omega)] at h4;exact ⟨v',xs,rfl,⟨h1,h2,h3,h4,zEF h2 h3 (by rw [h4];exact kb)⟩,hx⟩
 have DV:Hid (∀ (w2:World) (va vb:Value) (xs ys:List Int),(Row w2 va xs/\Lim xs/\Top xs/\lv xs=a/\xs.length<=k)->(Row w2 vb ys/\Lim ys/\Top ys/\lv ys=b/\ys.length<=k)->Calls Tryz.prog 172 #[va,vb] w2 fun e w'=>∃ vq vr qs rs,e=.returned (.tuple #[vq,vr])/\Hid (Row w' vq qs/\Lim qs/\lv qs=a / b/\Row w' vr rs/\Lim rs/\lv rs=a % b)/\Ext w2 w'):=fun w2 va vb xs ys h1 h2=>by
  have hy:0<ys.length:=by
   by_cases h:0<ys.length
   ·exact h
   ·have e:ys=[]:=List.eq_nil_of_length_eq_zero (by omega);have:=h2.2.2.2.1;rw [e] at this;simp [lv] at this;omega
  refine (zW2 w2 h1.1 h2.1 h1.2.1 h2.2.1 h2.2.2.1 hy (by omega) (by omega)).mono ?_;rintro e w' ⟨vq,vr,rfl,⟨⟨qs,g1,g2,g3⟩,⟨rs,g4,g5,_,g7,_⟩⟩,hx⟩;rw [h1.2.2.2.1,h2.2.2.2.1] at g3 g7;exact ⟨vq,vr,qs,rs,rfl,⟨g1,g2,g3,g4,g5,g7⟩,hx⟩
 have MK:Hid (∀ (w2:World) (v:Value) (xs:List Int),Row w2 v xs->Lim xs->Calls Tryz.prog 155 #[.bool false,v] w2 fun e w'=>∃ z0 z1 p n c,e=.returned (.agg #[iQ z0,.bool z1,.slice p n c])/\ZV w' (.agg #[iQ z0,.bool z1,.slice p n c]) (lv xs)/\Ext w2 w'):=fun w2 v xs h1 h2=>by
  refine (zES false w2 h1 h2).mono ?_;rintro e w' ⟨v',rfl,hz,hx⟩;obtain ⟨z0,z1,p,n,c,rfl⟩:=hz.shape;exact ⟨z0,z1,p,n,c,rfl,hz,hx⟩
 have Ba:=(Box3.made w (iQ c0) (.bool c1) (.slice pa na ca) 103).l (xa (xa (x1 _ (.cells #[iQ d0,.bool d1,.slice pb nb cb] 103)) (.cells #[iQ 0,.bool false,.slice none 0 0] 103)) (.cells #[iQ 0,.bool false,.slice none 0 0] 103));have Bb:=(Box3.made (w.alloc (.cells #[iQ c0,.bool c1,.slice pa na ca] 103)) (iQ d0) (.bool d1) (.slice pb nb cb) 103).l (xa (x1 _ (.cells #[iQ 0,.bool false,.slice none 0 0] 103)) (.cells #[iQ 0,.bool false,.slice none 0 0] 103));have Zq:=(ZIn.zero ((w.alloc (.cells #[iQ c0,.bool c1,.slice pa na ca] 103)).alloc (.cells #[iQ d0,.bool d1,.slice pb nb cb] 103)) 103).l (x1 _ (.cells #[iQ 0,.bool false,.slice none 0 0] 103));have Zr:=ZIn.zero (((w.alloc (.cells #[iQ c0,.bool c1,.slice pa na ca] 103)).alloc (.cells #[iQ d0,.bool d1,.slice pb nb cb] 103)).alloc (.cells #[iQ 0,.bool false,.slice none 0 0] 103)) 103;have X0:=xa (xa (xa (x1 w (.cells #[iQ c0,.bool c1,.slice pa na ca] 103)) (.cells #[iQ d0,.bool d1,.slice pb nb cb] 103)) (.cells #[iQ 0,.bool false,.slice none 0 0] 103)) (.cells #[iQ 0,.bool false,.slice none 0 0] 103);simp only [World.size_alloc] at Bb Zq Zr;clear ha hb ka kb;go_enter Tryz.func114,Tryz.ntmps114;go_upto_region 1 with fail;obtain ⟨w0,hw0⟩:=nm ((((w.alloc (.cells #[iQ c0,.bool c1,.slice pa na ca] 103)).alloc (.cells #[iQ d0,.bool d1,.slice pb nb cb] 103)).alloc (.cells #[iQ 0,.bool false,.slice none 0 0] 103)).alloc (.cells #[iQ 0,.bool false,.slice none 0 0] 103));rw [hw0] at Ba Bb Zq Zr X0 ⊢;clear hw0;go_cut [18] (fun v wc=>v=.bool false/\Ext w0 wc)
 case first =>
  have Ba':=Ba;obtain ⟨⟨p0,p1,p2⟩,_⟩:=Ba';go_wp2_with fail;refine (IA.out _ X0).mono ?_;rintro e w1 ⟨rfl,e1⟩;obtain ⟨⟨q0,q1,q2⟩,_⟩:=Bb.l e1;cases sa:zAF a
  ·go_wp2_with fail;go_meet
   case rel=>exact ⟨rfl,e1⟩
  ·have sb:zAF b=false:=by rw [sa] at hbig;exact hbig
   go_wp2_with fail;refine (IB.out _ (xt X0 e1)).mono ?_;rintro e w2 ⟨rfl,e2⟩;rw [sb];go_wp2_with fail;go_meet
   case rel=>exact ⟨rfl,xt e1 e2⟩
 case rest =>
  obtain ⟨rfl,X1⟩:=hcut
  rename World=>w1
  replace Ba:=Ba.l X1;replace Bb:=Bb.l X1;replace Zq:=Zq.l X1;replace Zr:=Zr.l X1;replace X1:=xt X0 X1;clear X0 IA IB hbig na' nb';have Ba':=Ba;have Bb':=Bb;obtain ⟨⟨p0,p1,p2⟩,_⟩:=Ba';obtain ⟨⟨p3,p4,p5⟩,_⟩:=Bb';go_upto_region 9 with fail;go_cut [8,9] (fun v x wc=>∃ qs rs,Hid (Row wc v qs/\Lim qs/\lv qs=a / b/\Row wc x rs/\Lim rs/\lv rs=a % b)/\Ext w1 wc)
  case first =>
   go_region_held3 (fun w'=>(w'.cell? ⟨w.heap.size,0,none⟩=some (iQ c0)/\w'.cell? ⟨w.heap.size,1,none⟩=some (.bool c1)/\w'.cell? ⟨w.heap.size,2,none⟩=some (.slice pa na ca))/\w'.cell? ⟨w.heap.size+1,0,none⟩=some (iQ d0)/\w'.cell? ⟨w.heap.size+1,1,none⟩=some (.bool d1)/\w'.cell? ⟨w.heap.size+1,2,none⟩=some (.slice pb nb cb)) (go_keep) (first
    | (go_at_call_of 152 (Value.agg #[iQ c0,.bool c1,.slice pa na ca]);refine (LA.out _ (xt X1 (xd (xr _)))).mono ?_;rintro e w2 ⟨v2,xs,rfl,H2,e2⟩;have X2:=xt (xd (xr w1)) e2;obtain ⟨⟨a20,a21,a22⟩,_⟩:=Ba.l X2;obtain ⟨⟨b20,b21,b22⟩,_⟩:=Bb.l X2)
    | (go_at_call_of 152 (Value.agg #[iQ d0,.bool d1,.slice pb nb cb]);refine (LB.out _ (xt X1 X2)).mono ?_;rintro e w3 ⟨v3,ys,rfl,H3,e3⟩;have X3:=xt X2 e3;obtain ⟨⟨a30,a31,a32⟩,_⟩:=Ba.l X3;obtain ⟨⟨b30,b31,b32⟩,_⟩:=Bb.l X3)
    | (go_at_call 172;refine (DV.out _ _ _ xs ys ⟨H2.out.1.l e3,H2.out.2⟩ H3.out).mono ?_;rintro e w4 ⟨vq,vr,qs,rs,rfl,H4,e4⟩;have X4:=xt X3 e4;obtain ⟨⟨a40,a41,a42⟩,_⟩:=Ba.l X4;obtain ⟨⟨b40,b41,b42⟩,_⟩:=Bb.l X4))
   go_wp2_with fail;go_meet
   case rel=>exact ⟨qs,rs,H4,X4⟩
  case rest =>
   obtain ⟨qs,rs,H4,X2⟩:=hcut
   rename World=>w2
   clear p0 p1 p2 p3 p4 p5 LA LB DV;replace Ba:=Ba.l X2;replace Bb:=Bb.l X2;replace Zq:=Zq.l X2;replace Zr:=Zr.l X2;replace X2:=xt X1 X2;clear X1;have Ba':=Ba;have Bb':=Bb;obtain ⟨⟨p0,p1,p2⟩,_⟩:=Ba';obtain ⟨⟨p3,p4,p5⟩,_⟩:=Bb';have ne0:=World.new_ne w2 _ p0;have ne1:=World.new_ne w2 _ p1;have ne2:=World.new_ne w2 _ p2;have ne3:=World.new_ne w2 _ p3;have ne4:=World.new_ne w2 _ p4;have ne5:=World.new_ne w2 _ p5;go_upto_region 10 with fail;go_cut [10] (fun v wc=>∃ b10,v=.pointer (some ⟨b10,0,none⟩)/\w2.heap.size<=b10/\ZIn wc b10 (a / b)/\Ext w2 wc)
   case first =>
    go_region_held3 (fun w'=>(w'.cell? ⟨w.heap.size,0,none⟩=some (iQ c0)/\w'.cell? ⟨w.heap.size,1,none⟩=some (.bool c1)/\w'.cell? ⟨w.heap.size,2,none⟩=some (.slice pa na ca))/\w'.cell? ⟨w.heap.size+1,0,none⟩=some (iQ d0)/\w'.cell? ⟨w.heap.size+1,1,none⟩=some (.bool d1)/\w'.cell? ⟨w.heap.size+1,2,none⟩=some (.slice pb nb cb)) (go_keep) (first
     | (go_at_call_of 110 (Value.agg #[iQ c0,.bool c1,.slice pa na ca]);refine (NA.out _ (xt X2 (by first | exact xd (xr _) | exact xd (xa (xr _) _)))).mono ?_;rintro e w3 ⟨rfl,e3⟩;have X3:Ext w2 w3:=xt (by first | exact xd (xr _) | exact xd (xa (xr _) _)) e3;obtain ⟨⟨a30,a31,a32⟩,_⟩:=Ba.l X3;obtain ⟨⟨b30,b31,b32⟩,_⟩:=Bb.l X3;have na3:=World.new_ne w3 _ a30;have nb3:=World.new_ne w3 _ b30;(first | (have RB3:Box3 w3 w2.heap.size (iQ 0) (.bool false) (.slice none 0 0):=(by exact (Box3.made w2 (iQ 0) (.bool false) (.slice none 0 0) 103).l (xt (xd (xr _)) e3))) | skip))
     | (go_at_call_of 110 (Value.agg #[iQ d0,.bool d1,.slice pb nb cb]);refine (NB.out _ (xt X2 (by first | exact X3 | exact xa X3 _))).mono ?_;rintro e w4 ⟨rfl,e4⟩;have X4:Ext w2 w4:=xt (by first | exact X3 | exact xa X3 _) e4;obtain ⟨⟨a40,a41,a42⟩,_⟩:=Ba.l X4;obtain ⟨⟨b40,b41,b42⟩,_⟩:=Bb.l X4;have na4:=World.new_ne w4 _ a40;have nb4:=World.new_ne w4 _ b40;(first | (have RB4:Box3 w4 w2.heap.size (iQ 0) (.bool false) (.slice none 0 0):=(by exact RB3.l e4)) | (have RB4:Box3 w4 w3.heap.size (iQ 0) (.bool false) (.slice none 0 0):=(by exact (Box3.made w3 (iQ 0) (.bool false) (.slice none 0 0) 103).l e4)) | skip))
     | (go_at_call 155;refine (MK.out _ _ qs (by first | exact H4.out.1.l X4 | exact H4.out.1.l (xa X4 _)) H4.out.2.1).mono ?_;rintro e w5 ⟨f0,f1,f2,f3,f4,rfl,hz5,e5⟩;have X5:Ext w2 w5:=xt (by first | exact X4 | exact xa X4 _) e5;obtain ⟨⟨a50,a51,a52⟩,_⟩:=Ba.l X5;obtain ⟨⟨b50,b51,b52⟩,_⟩:=Bb.l X5;have na5:=World.new_ne w5 _ a50;have nb5:=World.new_ne w5 _ b50;(first | (have RB5:Box3 w5 w2.heap.size (iQ 0) (.bool false) (.slice none 0 0):=(by exact RB4.l e5);have RB5':=RB5;obtain ⟨⟨z0'',z1'',z2''⟩,y0'',y1'',y2''⟩:=RB5') | (have RB5:Box3 w5 w3.heap.size (iQ 0) (.bool false) (.slice none 0 0):=(by exact RB4.l e5);have RB5':=RB5;obtain ⟨⟨z0'',z1'',z2''⟩,y0'',y1'',y2''⟩:=RB5') | (have RB5:Box3 w5 w4.heap.size (iQ 0) (.bool false) (.slice none 0 0):=(by exact (Box3.made w4 (iQ 0) (.bool false) (.slice none 0 0) 103).l e5);have RB5':=RB5;obtain ⟨⟨z0'',z1'',z2''⟩,y0'',y1'',y2''⟩:=RB5') | skip)))
    all_goals
     have hz6:ZV w5 (.agg #[iQ f0,.bool f1,.slice f2 f3 f4]) (a / b):=(by rw [<- H4.out.2.2.1];exact hz5);have S3:=X3.size;have S4:=X4.size;clear hz5 NA NB MK Ba Bb Zq Zr;go_wp2_with fail;go_meet
     case rel =>
      first
      | exact ⟨_,rfl,X5.size,ZIn.made _ hz6,xa X5 _⟩
      | exact ⟨_,rfl,Nat.le_refl _,⟨_,_,_,_,_,RB5.put _ _ _,hz6.set3 RB5 _ _ _⟩,Ext.set3 X5 (Nat.le_refl _) _ _ _⟩
      | exact ⟨_,rfl,S3,⟨_,_,_,_,_,RB5.put _ _ _,hz6.set3 RB5 _ _ _⟩,Ext.set3 X5 S3 _ _ _⟩
      | exact ⟨_,rfl,S4,⟨_,_,_,_,_,RB5.put _ _ _,hz6.set3 RB5 _ _ _⟩,Ext.set3 X5 S4 _ _ _⟩
   case rest =>
    obtain ⟨b10,rfl,hb10,Z10,X3⟩:=hcut
    rename World=>w3
    have Z2s:w.heap.size+3<w2.heap.size:=(by obtain ⟨_,_,_,_,_,⟨⟨h,_⟩,_⟩,_⟩:=Zr;exact World.block_lt_of_cell? _ _ h);replace Ba:=Ba.l X3;replace Zq:=Zq.l X3;replace Zr:=Zr.l X3;have H5:Hid (Row w3 _ rs/\Lim rs/\lv rs=a % b):=⟨H4.out.2.2.2.1.l X3,H4.out.2.2.2.2.1,H4.out.2.2.2.2.2⟩;replace X3:=xt X2 X3;clear p0 p1 p2 p3 p4 p5 ne0 ne1 ne2 ne3 ne4 ne5 H4 NB Bb;go_wp2_with fail;refine (MK.out _ _ rs H5.out.1 H5.out.2.1).mono ?_;rintro e w4 ⟨f0,f1,f2,f3,f4,rfl,hz4,e4⟩;rw [H5.out.2.2] at hz4;have Z11:=ZIn.made 103 hz4;have e5:=xa e4 (.cells #[iQ f0,.bool f1,.slice f2 f3 f4] 103);obtain ⟨w5,hw5⟩:=nm (w4.alloc (.cells #[iQ f0,.bool f1,.slice f2 f3 f4] 103));rw [hw5] at Z11 e5;have hb11:w3.heap.size<=w4.heap.size:=e4.size;obtain ⟨b11,hb11'⟩:=nm (w4.heap.size);rw [hb11'] at Z11 hb11;have lt10:b10<w3.heap.size:=(by obtain ⟨_,_,_,_,_,⟨⟨h,_⟩,_⟩,_⟩:=Z10;exact World.block_lt_of_cell? _ _ h);replace Ba:=Ba.l e5;replace Zq:=Zq.l e5;replace Zr:=Zr.l e5;replace Z10:=Z10.l e5;replace X3:=xt X3 e5;obtain ⟨⟨p0,p1,p2⟩,_⟩:=Ba;clear e4 e5 hz4 H5 MK X2;go_wp2_with fail;clear hw5 hb11';refine (NA.out _ X3).mono ?_;rintro e w6 ⟨rfl,e6⟩;replace Zq:=Zq.l e6;replace Zr:=Zr.l e6;replace Z10:=Z10.l e6;replace Z11:=Z11.l e6;replace X3:=xt X3 e6;clear p0 p1 p2 e6 NA;have Zq':=Zq;have Zr':=Zr;obtain ⟨x0,x1',x2,x3,x4,⟨⟨i0,i1,i2⟩,j0,j1,j2⟩,_⟩:=Zq';obtain ⟨y0,y1,y2,y3,y4,⟨⟨k0,k1,k2⟩,l0,l1,l2⟩,_⟩:=Zr';obtain ⟨q0,q1,q2,q3,q4,⟨⟨g0,g1,g2⟩,_⟩,hq⟩:=Z10;obtain ⟨r0,r1,r2,r3,r4,⟨⟨h0,h1,h2⟩,_⟩,hr⟩:=Z11;have ne1:w.heap.size+1+1 ≠ b10:=(by omega);have ne2:w.heap.size+1+1 ≠ b11:=(by omega);have ne3:w.heap.size+1+1+1 ≠ b10:=(by omega);have ne4:w.heap.size+1+1+1 ≠ b11:=(by omega);have ne5:w.heap.size+1+1 ≠ w.heap.size+1+1+1:=(by omega);have F:Hid (∀ w7,Ext w6 w7->(ZV (set3 (set3 w7 (w.heap.size+1+1) (iQ q0) (.bool q1) (.slice q2 q3 q4)) (w.heap.size+1+1+1) (iQ r0) (.bool r1) (.slice r2 r3 r4)) (.agg #[iQ q0,.bool q1,.slice q2 q3 q4]) (a / b)/\ZV (set3 (set3 w7 (w.heap.size+1+1) (iQ q0) (.bool q1) (.slice q2 q3 q4)) (w.heap.size+1+1+1) (iQ r0) (.bool r1) (.slice r2 r3 r4)) (.agg #[iQ r0,.bool r1,.slice r2 r3 r4]) (a % b)/\Ext w (set3 (set3 w7 (w.heap.size+1+1) (iQ q0) (.bool q1) (.slice q2 q3 q4)) (w.heap.size+1+1+1) (iQ r0) (.bool r1) (.slice r2 r3 r4)))):=fun w7 x7=>by
     have f1:=(Zr.l x7).far (Zq.l x7) ne5 (iQ q0) (.bool q1) (.slice q2 q3 q4);exact ⟨zGZ (zGZ (hq.l x7) (Zq.l x7) _ _ _) f1 _ _ _,zGZ (zGZ (hr.l x7) (Zq.l x7) _ _ _) f1 _ _ _,Ext.set3 (Ext.set3 (xt X3 x7) (by omega) _ _ _) (by omega) _ _ _⟩
    clear Zq Zr hq hr X3 hb10 hb11 lt10 Z2s;go_upto_region 18 with fail
    go_region
    go_wp2_with fail;refine bodyPost_ret (v:=.tuple #[.agg #[iQ q0,.bool q1,.slice q2 q3 q4],.agg #[iQ r0,.bool r1,.slice r2 r3 r4]]) (by simp [results,Tryz.results114,go_sem,i0,i1,i2,k0,k1,k2]) rfl ⟨_,_,rfl,?_⟩;have K:=F.out w6 (xr _);exact ⟨K.1.l (xd (xr _)),K.2.1.l (xd (xr _)),xd K.2.2⟩
theorem zK9 {va vb:Value} {a b:Int} (w:World) (ha:ZV w va a) (hb:ZV w vb b) (a0:0<=a) (b0:0<b) (k:Nat) (hk:k<=100000000) (ka:a<1000000000 ^ k) (kb:b<1000000000 ^ k) :
  Calls Tryz.prog 114 #[va,vb] w fun e w'=>∃ vq vr,e=.returned (.tuple #[vq,vr])/\ZV w' vq (a / b)/\ZV w' vr (a % b)/\Ext w w':=by
 cases h:(zAF a && zAF b)
 ·exact div_big w ha hb a0 b0 h k hk ka kb
 ·rw [Bool.and_eq_true] at h;obtain ⟨a1,a2,rfl⟩:=ha.small_of h.1;obtain ⟨b1,b2,rfl⟩:=hb.small_of h.2;exact zTI a b w a0 a2 b0 b2
theorem addD_any {va vb:Value} {xs ys:List Int} (w:World) (ha:Row w va xs) (hb:Row w vb ys) (lx:Lim xs) (ly:Lim ys) (nx:xs.length<=1000000000) (ny:ys.length<=1000000000) :
  Calls Tryz.prog 175 #[va,vb] w fun e w'=>∃ v' fs,e=.returned v'/\Row w' v' fs/\Lim fs/\lv fs=lv xs+lv ys/\Ext w w':=by
 obtain ⟨px,cx,rfl,cx1,cx2,cx3⟩:=ha;obtain ⟨py,cy,rfl,cy1,cy2,cy3⟩:=hb;by_cases hab:xs.length<ys.length
 ·have hab':(xs.length:Int)<(ys.length:Int):=by omega
  have hmk:=run_make_row' (P:=Tryz.prog) 101 146 (.int .u32 0) 4 Tryz.underlying101 zF0 rfl .i64 .i64 (ys.length+1) (by omega) (by omega);have ec:((ys.length+1:Nat):Int)=(ys.length:Int)+1:=by omega
  rw [ec] at hmk;clear ec;go_enter Tryz.func175,Tryz.ntmps175;go_wp2_with fail;go_loopw [7,8] (fun c i wr=>∃ (m:Nat) (fs:List Int) (cc:Int),m<=ys.length+1/\i=.int .i64 m/\c=.int .u64 cc/\zAH wr w.heap.size fs/\zGM xs ys fs ys.length m cc/\Ext w wr) (fun _ i _=>ys.length+1 - (intOf i).toNat)
  case atStart=>exact ⟨0,List.replicate (ys.length+1) 0,0,Nat.zero_le _,rfl,rfl,zAH.zeros _ _,zGM.start _ _ _,x1 _ _⟩
  case round =>
   obtain ⟨m,fs,cc,hm,rfl,rfl,ho,hA,X⟩:=hrel;by_cases hlt:m<=ys.length
   ·have hlt':(m:Int)<=(ys.length:Int):=(by omega);have hA':=hA;obtain ⟨a1,a2,a3,a4,a5,_⟩:=hA';obtain ⟨x,ex⟩:=nm (xs.getD m 0);obtain ⟨y,ey⟩:=nm (ys.getD m 0);obtain ⟨x0,x1'⟩:=lx.getD m;obtain ⟨y0,y1'⟩:=ly.getD m;rw [ex] at x0 x1';rw [ey] at y0 y1';have HN:Hid (zGM xs ys (fs.set m ((cc+x+y) % 1000000000)) ys.length (m+1) ((cc+x+y) / 1000000000)):=hA.step hlt lx ly ex ey;have kf:=World.rowIs.cell ho (i:=m) (by omega);have kz:=World.rowIs.frozen ho m;have HQ:Hid (zAH wr w.heap.size fs/\m<fs.length):=⟨ho,by omega⟩;have hfl:(m:Int)<(fs.length:Int):=(by omega);have KX:Hid (m<xs.length->∃ b o,px=some ⟨b,o,none⟩/\wr.cell? ⟨b,o+m,none⟩=some (.int .u32 x)):=fun h=>by
     rcases cx3 with ⟨_,h'⟩ | ⟨b,o,e,k⟩
     ·omega
     ·exact ⟨b,o,e,by rw [<- ex];exact (k.l X) m h⟩
    have KY:Hid (m<ys.length->∃ b o,py=some ⟨b,o,none⟩/\wr.cell? ⟨b,o+m,none⟩=some (.int .u32 y)):=fun h=>by
     rcases cy3 with ⟨_,h'⟩ | ⟨b,o,e,k⟩
     ·omega
     ·exact ⟨b,o,e,by rw [<- ey];exact (k.l X) m h⟩
    have EX:Hid (¬ m<xs.length->x=0):=fun h=>(by rw [<- ex,List.getD_eq_getElem?_getD,List.getElem?_eq_none (by omega)];rfl);have EY:Hid (¬ m<ys.length->y=0):=fun h=>(by rw [<- ey,List.getD_eq_getElem?_getD,List.getElem?_eq_none (by omega)];rfl);clear ho hA a3 ex ey cx3 cy3 lx ly hmk;by_cases hx:m<xs.length
    ·obtain ⟨bx,ox,rfl,kx⟩:=KX.out hx;by_cases hy:m<ys.length
     ·obtain ⟨bv,ov,rfl,ky⟩:=KY.out hy
      go_wp2
      go_roundw
      case rel=>exact ⟨m+1,_,_,by omega,by go_num,rfl,HQ.out.1.set _ HQ.out.2 _,HN.out,xset X (Nat.le_refl _) _⟩
      case measure=>simp [intOf];omega
     ·exact absurd hx (by omega)
    ·obtain rfl:=EX.out hx;rw [Int.add_zero] at HN;by_cases hy:m<ys.length
     ·obtain ⟨bv,ov,rfl,ky⟩:=KY.out hy
      go_wp2
      go_roundw
      case rel=>exact ⟨m+1,_,_,by omega,by go_num,rfl,HQ.out.1.set _ HQ.out.2 _,HN.out,xset X (Nat.le_refl _) _⟩
      case measure=>simp [intOf];omega
     ·obtain rfl:=EY.out hy;rw [Int.add_zero] at HN
      go_wp2
      go_roundw
      case rel=>exact ⟨m+1,_,_,by omega,by go_num,rfl,HQ.out.1.set _ HQ.out.2 _,HN.out,xset X (Nat.le_refl _) _⟩
      case measure=>simp [intOf];omega
   ·obtain rfl:m=ys.length+1:=(by omega);have hd:=hA.done lx ly (by omega) (by omega);have hl:=hA.1;have hlim:=hA.2.1;have R:=ho.row (by omega);rw [hl] at R;have HR:Hid (Row wr (.slice (some ⟨w.heap.size,0,none⟩) (ys.length+1) (ys.length+1)) fs/\Lim fs/\lv fs=lv xs+lv ys):=⟨R,hlim,hd⟩;have hlt':¬ ((ys.length:Int)+1<=(ys.length:Int)):=(by omega);clear R hlim hd hl ho hA cx3 cy3 lx ly hmk
    go_wp2
    go_ret;exact ⟨_,rfl,fs,HR.out.1,HR.out.2.1,HR.out.2.2,X⟩
 ·have hab':¬ (xs.length:Int)<(ys.length:Int):=by omega
  have hmk:=run_make_row' (P:=Tryz.prog) 101 146 (.int .u32 0) 4 Tryz.underlying101 zF0 rfl .i64 .i64 (xs.length+1) (by omega) (by omega);have ec:((xs.length+1:Nat):Int)=(xs.length:Int)+1:=by omega
  rw [ec] at hmk;clear ec;go_enter Tryz.func175,Tryz.ntmps175;go_wp2_with fail;go_loopw [7,8] (fun c i wr=>∃ (m:Nat) (fs:List Int) (cc:Int),m<=xs.length+1/\i=.int .i64 m/\c=.int .u64 cc/\zAH wr w.heap.size fs/\zGM xs ys fs xs.length m cc/\Ext w wr) (fun _ i _=>xs.length+1 - (intOf i).toNat)
  case atStart=>exact ⟨0,List.replicate (xs.length+1) 0,0,Nat.zero_le _,rfl,rfl,zAH.zeros _ _,zGM.start _ _ _,x1 _ _⟩
  case round =>
   obtain ⟨m,fs,cc,hm,rfl,rfl,ho,hA,X⟩:=hrel;by_cases hlt:m<=xs.length
   ·have hlt':(m:Int)<=(xs.length:Int):=(by omega);have hA':=hA;obtain ⟨a1,a2,a3,a4,a5,_⟩:=hA';obtain ⟨x,ex⟩:=nm (xs.getD m 0);obtain ⟨y,ey⟩:=nm (ys.getD m 0);obtain ⟨x0,x1'⟩:=lx.getD m;obtain ⟨y0,y1'⟩:=ly.getD m;rw [ex] at x0 x1';rw [ey] at y0 y1';have HN:Hid (zGM xs ys (fs.set m ((cc+x+y) % 1000000000)) xs.length (m+1) ((cc+x+y) / 1000000000)):=hA.step hlt lx ly ex ey;have kf:=World.rowIs.cell ho (i:=m) (by omega);have kz:=World.rowIs.frozen ho m;have HQ:Hid (zAH wr w.heap.size fs/\m<fs.length):=⟨ho,by omega⟩;have hfl:(m:Int)<(fs.length:Int):=(by omega);have KX:Hid (m<xs.length->∃ b o,px=some ⟨b,o,none⟩/\wr.cell? ⟨b,o+m,none⟩=some (.int .u32 x)):=fun h=>by
     rcases cx3 with ⟨_,h'⟩ | ⟨b,o,e,k⟩
     ·omega
     ·exact ⟨b,o,e,by rw [<- ex];exact (k.l X) m h⟩
    have KY:Hid (m<ys.length->∃ b o,py=some ⟨b,o,none⟩/\wr.cell? ⟨b,o+m,none⟩=some (.int .u32 y)):=fun h=>by
     rcases cy3 with ⟨_,h'⟩ | ⟨b,o,e,k⟩
     ·omega
     ·exact ⟨b,o,e,by rw [<- ey];exact (k.l X) m h⟩
    have EX:Hid (¬ m<xs.length->x=0):=fun h=>(by rw [<- ex,List.getD_eq_getElem?_getD,List.getElem?_eq_none (by omega)];rfl);have EY:Hid (¬ m<ys.length->y=0):=fun h=>(by rw [<- ey,List.getD_eq_getElem?_getD,List.getElem?_eq_none (by omega)];rfl);clear ho hA a3 ex ey cx3 cy3 lx ly hmk;by_cases hx:m<xs.length
    ·obtain ⟨bx,ox,rfl,kx⟩:=KX.out hx;by_cases hy:m<ys.length
     ·obtain ⟨bv,ov,rfl,ky⟩:=KY.out hy
      go_wp2
      go_roundw
      case rel=>exact ⟨m+1,_,_,by omega,by go_num,rfl,HQ.out.1.set _ HQ.out.2 _,HN.out,xset X (Nat.le_refl _) _⟩
      case measure=>simp [intOf];omega
     ·obtain rfl:=EY.out hy;rw [Int.add_zero] at HN
      go_wp2
      go_roundw
      case rel=>exact ⟨m+1,_,_,by omega,by go_num,rfl,HQ.out.1.set _ HQ.out.2 _,HN.out,xset X (Nat.le_refl _) _⟩
      case measure=>simp [intOf];omega
    ·obtain rfl:=EX.out hx;rw [Int.add_zero] at HN;by_cases hy:m<ys.length
     ·exact absurd hx (by omega)
     ·obtain rfl:=EY.out hy;rw [Int.add_zero] at HN
      go_wp2
      go_roundw
      case rel=>exact ⟨m+1,_,_,by omega,by go_num,rfl,HQ.out.1.set _ HQ.out.2 _,HN.out,xset X (Nat.le_refl _) _⟩
      case measure=>simp [intOf];omega
   ·obtain rfl:m=xs.length+1:=(by omega);have hd:=hA.done lx ly (by omega) (by omega);have hl:=hA.1;have hlim:=hA.2.1;have R:=ho.row (by omega);rw [hl] at R;have HR:Hid (Row wr (.slice (some ⟨w.heap.size,0,none⟩) (xs.length+1) (xs.length+1)) fs/\Lim fs/\lv fs=lv xs+lv ys):=⟨R,hlim,hd⟩;have hlt':¬ ((xs.length:Int)+1<=(xs.length:Int)):=(by omega);clear R hlim hd hl ho hA cx3 cy3 lx ly hmk
    go_wp2
    go_ret;exact ⟨_,rfl,fs,HR.out.1,HR.out.2.1,HR.out.2.2,X⟩
end Go.Proofs.YtjlojlgdkfpcdaaGreatDoor

namespace Go.Proofs.YtjlojlgdkfpcdaaGreatDoor
def dv:List Int->Int
 | []=>0
 | x :: xs=>x+10 * dv xs
def D10 (xs:List Int):Prop:=∀ x ∈ xs,0<=x/\x<10
theorem D10.nil:D10 []:=fun _ h=>by cases h
theorem D10.snoc {xs:List Int} {x:Int} (h:D10 xs) (h0:0<=x) (h1:x<10):D10 (xs++[x]):=fun y hy=>by
 rcases List.mem_append.1 hy with hy | hy
 ·exact h y hy
 ·obtain rfl:y=x:=by simpa using hy
  exact ⟨h0,h1⟩
theorem D10.take {xs:List Int} (h:D10 xs) (n:Nat):D10 (xs.take n):=fun y hy=>h y (List.mem_of_mem_take hy)
theorem D10.getD {xs:List Int} (h:D10 xs) (i:Nat):0<=xs.getD i 0/\xs.getD i 0<10:=by
 by_cases hi:i<xs.length
 ·rw [List.getD_eq_getElem?_getD,List.getElem?_eq_getElem hi];exact h _ (List.getElem_mem hi)
 ·rw [List.getD_eq_getElem?_getD,List.getElem?_eq_none (by omega)];simp
theorem zO4:∀ (xs ys:List Int),dv (xs++ys)=dv xs+10 ^ xs.length * dv ys
 | [],ys=>by simp [dv]
 | x :: xs,ys=>by
  simp only [List.cons_append,dv,zO4 xs ys,List.length_cons,Int.pow_succ];rw [Int.mul_add,Int.mul_comm (10 ^ xs.length) 10,<- Int.mul_assoc];omega
theorem zTE (xs:List Int) (x:Int):dv (xs++[x])=dv xs+10 ^ xs.length * x:=by
 rw [zO4];simp [dv]
theorem zQV (xs:List Int) (i:Nat) (h:i<xs.length):xs.take (i+1)=xs.take i++[xs.getD i 0]:=by
 rw [List.take_succ_eq_append_getElem h];simp [List.getElem?_eq_getElem h]
theorem zTD (xs:List Int) (i:Nat) (h:i<xs.length):dv (xs.take (i+1))=dv (xs.take i)+10 ^ i * xs.getD i 0:=by
 rw [zQV xs i h,zTE];have e:(xs.take i).length=i:=by simp;omega
 rw [e]
theorem zCG:∀ {xs:List Int},D10 xs->0<=dv xs
 | [],_=>by simp [dv]
 | x :: xs,h=>by
  have:=zCG (xs:=xs) (fun y hy=>h y (by simp [hy]));have:=h x (by simp);simp only [dv];omega
theorem zVY:∀ {xs:List Int},D10 xs->dv xs<10 ^ xs.length
 | [],_=>by simp [dv]
 | x :: xs,h=>by
  have:=zVY (xs:=xs) (fun y hy=>h y (by simp [hy]));have:=h x (by simp);simp only [dv,List.length_cons,Int.pow_succ];omega
theorem pow9 (i:Nat):(10:Int) ^ (9 * i)=1000000000 ^ i:=by
 rw [Int.pow_mul];rfl
def TextAt (xs ds:List Int) (i k:Nat) (x:Int):Prop:=
 ds.length=9 * i+k/\D10 ds/\0<=x/\x<10 ^ (9 - k)/\dv ds+10 ^ (9 * i+k) * x=lv (xs.take (i+1))
def zCK (xs ds:List Int) (i:Nat):Prop:=ds.length=9 * i/\D10 ds/\dv ds=lv (xs.take i)
theorem zCK.start (xs:List Int):zCK xs [] 0:=⟨rfl,D10.nil,by simp [dv,lv]⟩
theorem zCK.next {xs ds:List Int} {i:Nat} (h:zCK xs ds i) (hl:Lim xs):TextAt xs ds i 0 (xs.getD i 0):=by
 obtain ⟨h1,h2,h3⟩:=h;have hx:=hl.getD i;refine ⟨h1,h2,hx.1,hx.2,?_⟩;rw [h3,zBP,Nat.add_zero,pow9]
theorem TextAt.step {xs ds:List Int} {i k:Nat} {x:Int} (h:TextAt xs ds i k x) (hk:k<9):TextAt xs (ds++[x % 10]) i (k+1) (x / 10):=by
 obtain ⟨h1,h2,h3,h4,h5⟩:=h;refine ⟨by simp;omega,h2.snoc (by omega) (by omega),by omega,?_,?_⟩
 ·have e:9 - k=(9 - (k+1))+1:=by omega
  rw [e,Int.pow_succ] at h4;omega
 ·rw [zTE,h1,<- h5,show 9 * i+(k+1)=(9 * i+k)+1 from rfl,Int.pow_succ];generalize (10:Int) ^ (9 * i+k)=p;have e3:x % 10+10 * (x / 10)=x:=Int.emod_add_mul_ediv _ _;generalize x % 10=r at *;generalize x / 10=q at *;subst e3;simp only [Int.mul_add,Int.mul_comm,Int.mul_left_comm];omega
theorem TextAt.done {xs ds:List Int} {i:Nat} {x:Int} (h:TextAt xs ds i 9 x):zCK xs ds (i+1):=by
 obtain ⟨h1,h2,h3,h4,h5⟩:=h;have:x=0:=by simp at h4;omega
 subst this;exact ⟨by omega,h2,by simpa using h5⟩
def Digs (ds:List Int) (u:Int):Prop:=D10 ds/\dv ds=u/\0<ds.length/\ds.getD (ds.length - 1) 0 ≠ 0
theorem zQN {ds:List Int} {j:Nat} (hj:j<ds.length) (hz:ds.getD j 0=0):dv (ds.take (j+1))=dv (ds.take j):=by
 rw [zTD ds j hj,hz];simp
theorem Digs.of {ds:List Int} {j:Nat} {u:Int} (h:D10 ds) (hj:j<ds.length) (hz:ds.getD j 0 ≠ 0) (hv:dv (ds.take (j+1))=u):Digs (ds.take (j+1)) u:=by
 have e:(ds.take (j+1)).length=j+1:=by simp;omega
 refine ⟨h.take _,hv,by omega,?_⟩;rw [e];simp only [Nat.add_sub_cancel,List.getD_eq_getElem?_getD,List.getElem?_take,Nat.lt_succ_self,if_true] at *;exact hz
theorem Digs.ge {ds:List Int} {u:Int} (h:Digs ds u):10 ^ (ds.length - 1)<=u:=by
 obtain ⟨h1,h2,h3,h4⟩:=h;have e:=zTD ds (ds.length - 1) (by omega);rw [show ds.length - 1+1=ds.length by omega,List.take_length] at e;have h5:=zCG (h1.take (ds.length - 1));have h6:=h1.getD (ds.length - 1);have hp:(0:Int)<10 ^ (ds.length - 1):=Int.pow_pos (by decide);have:(10:Int) ^ (ds.length - 1) * 1<=10 ^ (ds.length - 1) * ds.getD (ds.length - 1) 0:=Int.mul_le_mul_of_nonneg_left (by omega) (by omega);omega
theorem Digs.lt {ds:List Int} {u:Int} (h:Digs ds u):u<10 ^ ds.length:=by
 rw [<- h.2.1];exact zVY h.1
def chr (d:Int):UInt8:=UInt8.ofNat (48+d).toNat
theorem zI3 {d:Int} (h0 : -48<=d) (h1:d<10):((chr d).toNat:Int)=48+d:=by
 unfold chr;rw [UInt8.toNat_ofNat'];omega
def zCO (l:List UInt8) (z:Int):Prop:=
 (z=0/\l=[48])\/∃ ds,Digs ds (z.natAbs:Int)/\l=(if z<0 then [45] else [])++ds.reverse.map chr
end Go.Proofs.YtjlojlgdkfpcdaaGreatDoor

