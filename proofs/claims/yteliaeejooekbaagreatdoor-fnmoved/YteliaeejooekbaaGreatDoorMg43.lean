import Derived.Test.YteliaeejooekbaaGreatDoorMg42
import Derived.Test.YteliaeejooekbaaGreatDoorMg8
import Derived.Test.YteliaeejooekbaaGreatDoorMg19
import Derived.Shelf.Bits.Mul64
import Derived.Deep.QuietTactic
import Derived.BigQuiet
import Derived.Deep.RegionWith
import Derived.Laws.Externs
import Derived.Shelf.Spec.BitsCarry
import Derived.Test.YteliaeejooekbaaGreatDoorMg4
import Derived.Test.YteliaeejooekbaaGreatDoorBase
import Derived.Shelf.Small.Bits
import Derived.Deep.DeepCutAuto
import Derived.Deep.CutBlock
import Derived.Test.YteliaeejooekbaaGreatDoorMg5
import Derived.Deep.RegionHeld3
set_option maxRecDepth 8000
set_option maxHeartbeats 2000000
namespace Go.Proofs.YteliaeejooekbaaGreatDoor
open Go.RowKit
theorem zQU {a b:Int} (h:decide (a<0)=decide (b<0)):sgn (decide (a<0)) ((a.natAbs:Int)+(b.natAbs:Int))=a+b:=by
 by_cases ha:a<0
 ·have hb:b<0:=by rw [decide_eq_true ha] at h;exact of_decide_eq_true h.symm
  simp [sgn,ha];omega
 ·have hb:¬ b<0:=by rw [decide_eq_false ha] at h;exact of_decide_eq_false h.symm
  simp [sgn,ha];omega
theorem zL9 {a b:Int} (h:decide (a<0) ≠ decide (b<0)):sgn (decide (a<0)) ((a.natAbs:Int) - (b.natAbs:Int))=a+b:=by
 by_cases ha:a<0
 ·have hb:¬ b<0:=fun hb=>h (by rw [decide_eq_true ha,decide_eq_true hb]);simp [sgn,ha];omega
 ·have hb:b<0:=by
   by_cases hb:b<0
   ·exact hb
   ·exact absurd (by rw [decide_eq_false ha,decide_eq_false hb]) h
  simp [sgn,ha];omega
theorem zP1 {a b:Int} (h:decide (a<0) ≠ decide (b<0)):sgn (decide (b<0)) ((b.natAbs:Int) - (a.natAbs:Int))=a+b:=by
 rw [zL9 h.symm];omega
theorem zTT {va vb:Value} {a b:Int} (w:World) (ha:ZV w va a) (hb:ZV w vb b) (hbig:(zAP a && zAP b)=false) (k:Nat) (hk:k<=100000000) (ka:(a.natAbs:Int)<1000000000 ^ k) (kb:(b.natAbs:Int)<1000000000 ^ k) :
  Calls Tryz.prog 98 #[va,vb] w fun e w'=>∃ v',e=.returned v'/\ZV w' v' (a+b)/\Ext w w':=by
 obtain ⟨c0,c1,pa,na,ca,rfl⟩:=ha.shape;obtain ⟨d0,d1,pb,nb,cb,rfl⟩:=hb.shape;have IA:Hid (∀ w2,Ext w w2->Calls Tryz.prog 109 #[.agg #[iQ c0,.bool c1,.slice pa na ca]] w2 fun e w'=>e=.returned (.bool (zAP a))/\Ext w2 w'):=fun w2 x=>zAH w2 (ha.l x);have IB:Hid (∀ w2,Ext w w2->Calls Tryz.prog 109 #[.agg #[iQ d0,.bool d1,.slice pb nb cb]] w2 fun e w'=>e=.returned (.bool (zAP b))/\Ext w2 w'):=fun w2 x=>zAH w2 (hb.l x);obtain ⟨sa,hsa⟩:=nm (decide (a<0));obtain ⟨sb,hsb⟩:=nm (decide (b<0));have NA:Hid (∀ w2,Ext w w2->Calls Tryz.prog 108 #[.agg #[iQ c0,.bool c1,.slice pa na ca]] w2 fun e w'=>e=.returned (.bool sa)/\Ext w2 w'):=fun w2 x=>zAW sa w2 hsa (ha.l x);have NB:Hid (∀ w2,Ext w w2->Calls Tryz.prog 108 #[.agg #[iQ d0,.bool d1,.slice pb nb cb]] w2 fun e w'=>e=.returned (.bool sb)/\Ext w2 w'):=fun w2 x=>zAW sb w2 hsb (hb.l x);have LA:Hid (∀ w2,Ext w w2->Calls Tryz.prog 107 #[.agg #[iQ c0,.bool c1,.slice pa na ca]] w2 fun e w'=>∃ v' xs,e=.returned v'/\Hid (Row w' v' xs/\Lim xs/\Top xs/\lv xs=(a.natAbs:Int)/\xs.length<=k)/\Ext w2 w'):=fun w2 x=>by
  refine (zAO w2 (ha.l x)).mono ?_;rintro e w' ⟨v',rfl,⟨xs,h1,h2,h3,h4⟩,hx⟩;exact ⟨v',xs,rfl,⟨h1,h2,h3,h4,zE0 h2 h3 (by rw [h4];exact ka)⟩,hx⟩
 have LB:Hid (∀ w2,Ext w w2->Calls Tryz.prog 107 #[.agg #[iQ d0,.bool d1,.slice pb nb cb]] w2 fun e w'=>∃ v' xs,e=.returned v'/\Hid (Row w' v' xs/\Lim xs/\Top xs/\lv xs=(b.natAbs:Int)/\xs.length<=k)/\Ext w2 w'):=fun w2 x=>by
  refine (zAO w2 (hb.l x)).mono ?_;rintro e w' ⟨v',rfl,⟨xs,h1,h2,h3,h4⟩,hx⟩;exact ⟨v',xs,rfl,⟨h1,h2,h3,h4,zE0 h2 h3 (by rw [h4];exact kb)⟩,hx⟩
 have MK:Hid (∀ (w2:World) (s:Bool) (v:Value) (xs:List Int),Row w2 v xs->Lim xs->Calls Tryz.prog 110 #[.bool s,v] w2 fun e w'=>∃ z0 z1 p n c,e=.returned (.agg #[iQ z0,.bool z1,.slice p n c])/\ZV w' (.agg #[iQ z0,.bool z1,.slice p n c]) (sgn s (lv xs))/\Ext w2 w'):=fun w2 s v xs h1 h2=>by
  refine (zEX s w2 h1 h2).mono ?_;rintro e w' ⟨v',rfl,hz,hx⟩;obtain ⟨z0,z1,p,n,c,rfl⟩:=hz.shape;exact ⟨z0,z1,p,n,c,rfl,hz,hx⟩
 have SAME:Hid (sa=sb->sgn sa ((a.natAbs:Int)+(b.natAbs:Int))=a+b):=fun h=>by rw [<- hsa,<- hsb] at h;rw [<- hsa];exact zQU h
 have LEFT:Hid (sa ≠ sb->sgn sa ((a.natAbs:Int) - (b.natAbs:Int))=a+b):=fun h=>by rw [<- hsa,<- hsb] at h;rw [<- hsa];exact zL9 h
 have RIGHT:Hid (sa ≠ sb->sgn sb ((b.natAbs:Int) - (a.natAbs:Int))=a+b):=fun h=>by rw [<- hsa,<- hsb] at h;rw [<- hsb];exact zP1 h
 have Ba:=(Box3.made w (iQ c0) (.bool c1) (.slice pa na ca) 137).l (xa (x1 _ (.cells #[iQ d0,.bool d1,.slice pb nb cb] 137)) (.cells #[iQ 0,.bool false,.slice none 0 0] 137));have Bb:=(Box3.made (w.alloc (.cells #[iQ c0,.bool c1,.slice pa na ca] 137)) (iQ d0) (.bool d1) (.slice pb nb cb) 137).l (x1 _ (.cells #[iQ 0,.bool false,.slice none 0 0] 137));have Br:=Box3.made ((w.alloc (.cells #[iQ c0,.bool c1,.slice pa na ca] 137)).alloc (.cells #[iQ d0,.bool d1,.slice pb nb cb] 137)) (iQ 0) (.bool false) (.slice none 0 0) 137;have X0:=xa (xa (x1 w (.cells #[iQ c0,.bool c1,.slice pa na ca] 137)) (.cells #[iQ d0,.bool d1,.slice pb nb cb] 137)) (.cells #[iQ 0,.bool false,.slice none 0 0] 137);simp only [World.size_alloc] at Bb Br;clear ha hb ka kb hsa hsb;go_enter Tryz.func98,Tryz.ntmps98;go_upto_region 1 with fail;obtain ⟨w0,hw0⟩:=nm (((w.alloc (.cells #[iQ c0,.bool c1,.slice pa na ca] 137)).alloc (.cells #[iQ d0,.bool d1,.slice pb nb cb] 137)).alloc (.cells #[iQ 0,.bool false,.slice none 0 0] 137));rw [hw0] at Ba Bb Br X0 ⊢;clear hw0;go_cut [12] (fun v wc=>v=.bool false/\Ext w0 wc)
 case first =>
  have Ba':=Ba;obtain ⟨⟨p0,p1,p2⟩,_⟩:=Ba';go_wp2_with fail;refine (IA.out _ X0).mono ?_;rintro e w1 ⟨rfl,e1⟩;obtain ⟨⟨q0,q1,q2⟩,_⟩:=Bb.l e1;cases ea:zAP a
  ·go_wp2_with fail;go_meet
   case rel=>exact ⟨rfl,e1⟩
  ·have eb:zAP b=false:=by rw [ea] at hbig;exact hbig
   go_wp2_with fail;refine (IB.out _ (xt X0 e1)).mono ?_;rintro e w2 ⟨rfl,e2⟩;rw [eb];go_wp2_with fail;go_meet
   case rel=>exact ⟨rfl,xt e1 e2⟩
 case rest =>
  obtain ⟨rfl,X1⟩:=hcut
  rename World=>w1
  replace Ba:=Ba.l X1;replace Bb:=Bb.l X1;replace Br:=Br.l X1;replace X1:=xt X0 X1;have Ba':=Ba;obtain ⟨⟨p0,p1,p2⟩,_⟩:=Ba';clear X0 IA IB hbig;go_wp2_with fail;refine (LA.out _ X1).mono ?_;rintro e w2 ⟨vx,xs,rfl,HX,e2⟩;replace Ba:=Ba.l e2;replace Bb:=Bb.l e2;replace Br:=Br.l e2;replace X1:=xt X1 e2;have Bb':=Bb;obtain ⟨⟨p3,p4,p5⟩,_⟩:=Bb';clear p0 p1 p2;go_wp2_with fail;refine (LB.out _ X1).mono ?_;rintro e w3 ⟨vy,ys,rfl,HY,e3⟩;replace Ba:=Ba.l e3;replace Bb:=Bb.l e3;replace Br:=Br.l e3;replace X1:=xt X1 e3;have HX3:Hid (Row w3 vx xs/\Lim xs/\Top xs/\lv xs=(a.natAbs:Int)/\xs.length<=k):=⟨HX.out.1.l e3,HX.out.2⟩;clear p3 p4 p5 e2 HX LA LB;have Ba':=Ba;have Bb':=Bb;obtain ⟨⟨p0,p1,p2⟩,_⟩:=Ba';obtain ⟨⟨p3,p4,p5⟩,_⟩:=Bb';go_upto_region 5 with fail;go_cut [27] (fun v wc=>v=.bool (decide (sa=sb))/\Ext w3 wc)
  case first =>
   go_region_held3 (fun w'=>(w'.cell? ⟨w.heap.size,0,none⟩=some (iQ c0)/\w'.cell? ⟨w.heap.size,1,none⟩=some (.bool c1)/\w'.cell? ⟨w.heap.size,2,none⟩=some (.slice pa na ca))/\w'.cell? ⟨w.heap.size+1,0,none⟩=some (iQ d0)/\w'.cell? ⟨w.heap.size+1,1,none⟩=some (.bool d1)/\w'.cell? ⟨w.heap.size+1,2,none⟩=some (.slice pb nb cb)) (go_keep) (first
    | (go_at_call_of 108 (Value.agg #[iQ c0,.bool c1,.slice pa na ca]);refine (NA.out _ (xt X1 (xd (xr _)))).mono ?_;rintro e w4 ⟨rfl,e4⟩;have X4:Ext w3 w4:=xt (xd (xr _)) e4;obtain ⟨⟨a40,a41,a42⟩,_⟩:=Ba.l X4;obtain ⟨⟨b40,b41,b42⟩,_⟩:=Bb.l X4)
    | (go_at_call_of 108 (Value.agg #[iQ d0,.bool d1,.slice pb nb cb]);refine (NB.out _ (xt X1 X4)).mono ?_;rintro e w5 ⟨rfl,e5⟩;have X5:Ext w3 w5:=xt X4 e5;obtain ⟨⟨a50,a51,a52⟩,_⟩:=Ba.l X5;obtain ⟨⟨b50,b51,b52⟩,_⟩:=Bb.l X5))
   go_wp2_with fail;go_meet
   case rel=>exact ⟨by cases sa <;> cases sb <;> rfl,X5⟩
  case rest =>
   obtain ⟨rfl,X4⟩:=hcut
   rename World=>w4
   replace Ba:=Ba.l X4;replace Bb:=Bb.l X4;replace Br:=Br.l X4;replace X1:=xt X1 X4;have HX4:Hid (Row w4 vx xs/\Lim xs/\Top xs/\lv xs=(a.natAbs:Int)/\xs.length<=k):=⟨HX3.out.1.l X4,HX3.out.2⟩;have HY4:Hid (Row w4 vy ys/\Lim ys/\Top ys/\lv ys=(b.natAbs:Int)/\ys.length<=k):=⟨HY.out.1.l X4,HY.out.2⟩;obtain ⟨⟨p0',p1',p2'⟩,_⟩:=Ba;have Bb':=Bb;obtain ⟨⟨p3',p4',p5'⟩,_⟩:=Bb';clear p0 p1 p2 p3 p4 p5 HX3 HY X4;by_cases hs:sa=sb
   ·have hs':decide (sa=sb)=true:=decide_eq_true hs;have HS:Hid (sgn sa ((a.natAbs:Int)+(b.natAbs:Int))=a+b):=SAME.out hs;rw [hs'];clear hs hs' SAME LEFT RIGHT NB p3' p4' p5';go_wp2_with fail;refine (NA.out _ X1).mono ?_;rintro e w5 ⟨rfl,e5⟩;go_wp2_with fail;refine (zQV _ (HX4.out.1.l e5) (HY4.out.1.l e5) HX4.out.2.1 HY4.out.2.1 (by have:=HX4.out.2.2.2.2;omega) (by have:=HY4.out.2.2.2.2;omega)).mono ?_;rintro e w6 ⟨v6,fs,rfl,F1,F2,F3,e6⟩;have FV:Hid _:=F3;clear F3;go_wp2_with fail;refine (MK.out _ _ _ _ F1 F2).mono ?_;rintro e w7 ⟨f0,f1,f2,f3,f4,rfl,hz7,e7⟩;rw [FV.out,HX4.out.2.2.2.1,HY4.out.2.2.2.1,HS.out] at hz7;have B7:=((Br.l e5).l e6).l e7;have HZ:Hid (ZV (set3 w7 (w.heap.size+1+1) (iQ f0) (.bool f1) (.slice f2 f3 f4)) (.agg #[iQ f0,.bool f1,.slice f2 f3 f4]) (a+b)/\Ext w (set3 w7 (w.heap.size+1+1) (iQ f0) (.bool f1) (.slice f2 f3 f4))):=⟨hz7.set3 B7 _ _ _,Ext.set3 (xt (xt (xt X1 e5) e6) e7) (by omega) _ _ _⟩;obtain ⟨⟨r0,r1,r2⟩,s0,s1,s2⟩:=B7;clear hz7 F1 F2 p0' p1' p2';go_wp2_with fail;exact bodyPost_ret (v:=.agg #[iQ f0,.bool f1,.slice f2 f3 f4]) (by simp [results,Tryz.results98,go_sem,r0,r1,r2]) rfl ⟨_,rfl,HZ.out.1,HZ.out.2⟩
   ·have hs':decide (sa=sb)=false:=decide_eq_false hs;have HSL:Hid (sgn sa ((a.natAbs:Int) - (b.natAbs:Int))=a+b):=LEFT.out hs;have HSR:Hid (sgn sb ((b.natAbs:Int) - (a.natAbs:Int))=a+b):=RIGHT.out hs;rw [hs'];clear hs hs' SAME LEFT RIGHT;go_wp2_with fail;by_cases hlt:lv xs<lv ys
    ·refine (zJ8 (-1) (zEO hlt) _ HX4.out.1 HY4.out.1 HX4.out.2.1 HY4.out.2.1 HX4.out.2.2.1 HY4.out.2.2.1).mono ?_;rintro e w5 ⟨rfl,e5⟩;have HL:Hid (lv xs<=lv ys/\xs.length<=ys.length):=⟨by omega,zCK HX4.out.2.1 HY4.out.2.1 HX4.out.2.2.1 (by omega)⟩;obtain ⟨⟨q0,q1,q2⟩,_⟩:=Bb.l e5;clear hlt NA p0' p1' p2' p3' p4' p5' HSL;go_wp2_with fail;refine (NB.out _ (xt X1 e5)).mono ?_;rintro e w6 ⟨rfl,e6⟩;go_wp2_with fail;refine (zCY _ ((HY4.out.1.l e5).l e6) ((HX4.out.1.l e5).l e6) HY4.out.2.1 HX4.out.2.1 (by have:=HY4.out.2.2.2.2;omega) HL.out.2 HL.out.1).mono ?_;rintro e w7 ⟨v7,fs,rfl,F1,F2,F3,_,e7,kq,cq,rfl⟩;have FV:Hid _:=F3;clear F3;go_wp2_with fail;refine (MK.out _ _ _ _ F1 F2).mono ?_;rintro e w8 ⟨f0,f1,f2,f3,f4,rfl,hz7,e8⟩;rw [FV.out,HX4.out.2.2.2.1,HY4.out.2.2.2.1,HSR.out] at hz7;have B7:=(((Br.l e5).l e6).l e7).l e8;have HZ:Hid (ZV (set3 w8 (w.heap.size+1+1) (iQ f0) (.bool f1) (.slice f2 f3 f4)) (.agg #[iQ f0,.bool f1,.slice f2 f3 f4]) (a+b)/\Ext w (set3 w8 (w.heap.size+1+1) (iQ f0) (.bool f1) (.slice f2 f3 f4))):=⟨hz7.set3 B7 _ _ _,Ext.set3 (xt (xt (xt (xt X1 e5) e6) e7) e8) (by omega) _ _ _⟩;obtain ⟨⟨r0,r1,r2⟩,s0,s1,s2⟩:=B7;clear hz7 F1 F2 q0 q1 q2;go_wp2_with fail;exact bodyPost_ret (v:=.agg #[iQ f0,.bool f1,.slice f2 f3 f4]) (by simp [results,Tryz.results98,go_sem,r0,r1,r2]) rfl ⟨_,rfl,HZ.out.1,HZ.out.2⟩
    ·refine (zDN _ HX4.out.1 HY4.out.1 HX4.out.2.1 HY4.out.2.1 HX4.out.2.2.1 HY4.out.2.2.1).mono ?_;rintro e w5 ⟨rfl,e5⟩;obtain ⟨cc,hcc,cc0⟩:∃ c,cmpI (lv xs) (lv ys)=c/\0<=c:=⟨_,rfl,zL3 hlt⟩;rw [hcc];have HL:Hid (lv ys<=lv xs/\ys.length<=xs.length):=⟨by omega,zCK HY4.out.2.1 HX4.out.2.1 HY4.out.2.2.1 (by omega)⟩;have q0:=cell_later e5 p0';have q1:=cell_later e5 p1';have q2:=cell_later e5 p2';clear hlt NB p0' p1' p2' p3' p4' p5' HSR hcc;go_wp2_with fail;refine (NA.out _ (xt X1 e5)).mono ?_;rintro e w6 ⟨rfl,e6⟩;go_wp2_with fail;refine (zCY _ ((HX4.out.1.l e5).l e6) ((HY4.out.1.l e5).l e6) HX4.out.2.1 HY4.out.2.1 (by have:=HX4.out.2.2.2.2;omega) HL.out.2 HL.out.1).mono ?_;rintro e w7 ⟨v7,fs,rfl,F1,F2,F3,_,e7,kq,cq,rfl⟩;have FV:Hid _:=F3;clear F3;go_wp2_with fail;refine (MK.out _ _ _ _ F1 F2).mono ?_;rintro e w8 ⟨f0,f1,f2,f3,f4,rfl,hz7,e8⟩;rw [FV.out,HX4.out.2.2.2.1,HY4.out.2.2.2.1,HSL.out] at hz7;have B7:=(((Br.l e5).l e6).l e7).l e8;have HZ:Hid (ZV (set3 w8 (w.heap.size+1+1) (iQ f0) (.bool f1) (.slice f2 f3 f4)) (.agg #[iQ f0,.bool f1,.slice f2 f3 f4]) (a+b)/\Ext w (set3 w8 (w.heap.size+1+1) (iQ f0) (.bool f1) (.slice f2 f3 f4))):=⟨hz7.set3 B7 _ _ _,Ext.set3 (xt (xt (xt (xt X1 e5) e6) e7) e8) (by omega) _ _ _⟩;obtain ⟨⟨r0,r1,r2⟩,s0,s1,s2⟩:=B7;clear hz7 F1 F2 q0 q1 q2;go_wp2_with fail;exact bodyPost_ret (v:=.agg #[iQ f0,.bool f1,.slice f2 f3 f4]) (by simp [results,Tryz.results98,go_sem,r0,r1,r2]) rfl ⟨_,rfl,HZ.out.1,HZ.out.2⟩
theorem zTU {va vb:Value} {a b:Int} (w:World) (ha:ZV w va a) (hb:ZV w vb b) (k:Nat) (hk:k<=100000000) (ka:(a.natAbs:Int)<1000000000 ^ k) (kb:(b.natAbs:Int)<1000000000 ^ k) :
  Calls Tryz.prog 98 #[va,vb] w fun e w'=>∃ v',e=.returned v'/\ZV w' v' (a+b)/\Ext w w':=by
 cases h:(zAP a && zAP b)
 ·exact zTT w ha hb h k hk ka kb
 ·rw [Bool.and_eq_true] at h;exact zHE w ha hb h.1 h.2
def ndZ (a:Nat):Nat:=if a=0 then 1 else nd a
theorem zFO.len {l:List UInt8} {z:Int} (h:zFO l z) (z0:0<=z):l.length=ndZ z.toNat:=by
 unfold ndZ
 rcases h with ⟨rfl,rfl⟩ | ⟨ds,hd,rfl⟩
 ·rfl
 ·have hz:¬ z<0:=by omega
  rw [if_neg hz,List.nil_append,List.length_map,List.length_reverse];have h1:=hd.ge;have h2:=hd.lt;have hp:(0:Int)<10 ^ (ds.length - 1):=Int.pow_pos (by decide);rw [if_neg (by omega)];have e:((z.toNat:Nat):Int)=(z.natAbs:Int):=by omega
  refine (zW3 ?_ (.inr ?_)).symm
  ·have:((z.toNat:Nat):Int)<((10 ^ ds.length:Nat):Int):=by rw [e,Int.natCast_pow];exact h2
   exact_mod_cast this
  ·have:((10 ^ (ds.length - 1):Nat):Int)<=((z.toNat:Nat):Int):=by rw [e,Int.natCast_pow];exact h1
   exact_mod_cast this
theorem zHA {v:Value} {z:Int} (w:World) (h:ZV w v z) (z0:0<=z) (k:Nat) (hk:k<=1000000000) (kz:z<1000000000 ^ k) :
  Calls Tryz.prog 127 #[v] w fun e w'=>e=.returned (iQ (ndZ z.toNat))/\Ext w w':=by
 obtain ⟨c0,c1,p,n,c,rfl⟩:=h.shape;have hn:decide (z<0)=false:=by simpa using z0
 have NA:Hid (∀ w2,Ext w w2->Calls Tryz.prog 108 #[.agg #[iQ c0,.bool c1,.slice p n c]] w2 fun e w'=>e=.returned (.bool false)/\Ext w2 w'):=fun w2 x=>zAW false w2 hn (h.l x);have TX:Hid (∀ w2,Ext w w2->Calls Tryz.prog 97 #[.agg #[iQ c0,.bool c1,.slice p n c]] w2 fun e w'=>∃ l:List UInt8,e=.returned (.string ⟨l.toArray⟩)/\Hid (l.length=ndZ z.toNat)/\Ext w2 w'):=fun w2 x=>by
  refine (zKA w2 (h.l x) k hk (by rw [zN7 z0];exact kz)).mono ?_;rintro e w' ⟨l,rfl,ht,hx⟩;exact ⟨l,rfl,ht.len z0,hx⟩
 have B:=Box3.made w (iQ c0) (.bool c1) (.slice p n c) 137;clear h kz hn;go_enter Tryz.func127,Tryz.ntmps127;go_wp2_with fail;refine (TX.out _ (x1 _ _)).mono ?_;rintro e w1 ⟨l,rfl,hl,e1⟩;obtain ⟨⟨p0,p1,p2⟩,_⟩:=B.l e1;go_wp2_with fail;refine (NA.out _ (xt (x1 _ _) e1)).mono ?_;rintro e w2 ⟨rfl,e2⟩;clear p0 p1 p2;go_wp2_with fail;go_ret;refine ⟨zAK ?_,xt (xt (x1 _ _) e1) e2⟩;have:=hl.out;omega
def Two (w0 w:World) (b c:Nat) (q r:Int):Prop:=w0.heap.size<=b/\w0.heap.size<=c/\b ≠ c/\ZIn w b q/\ZIn w c r/\Ext w0 w
section
variable {w0 w:World} {q r:Int} {q0:Int} {q1:Bool} {q2:Option Addr} {q3 q4:Nat} {r0:Int} {r1:Bool} {r2:Option Addr} {r3 r4:Nat} {t:TypeId}
theorem two1 (X:Ext w0 w) (hq:ZV w (.agg #[iQ q0,.bool q1,.slice q2 q3 q4]) q) (hr:ZV w (.agg #[iQ r0,.bool r1,.slice r2 r3 r4]) r) :
  Two w0 ((w.alloc (.cells #[iQ q0,.bool q1,.slice q2 q3 q4] t)).alloc (.cells #[iQ r0,.bool r1,.slice r2 r3 r4] t)) w.heap.size (w.heap.size+1) q r:=by
 have h1:=ZIn.made t (hr.l (x1 w (.cells #[iQ q0,.bool q1,.slice q2 q3 q4] t)));simp only [World.size_alloc] at h1;exact ⟨X.size,Nat.le_succ_of_le X.size,by omega,(ZIn.made t hq).l (x1 _ _),h1,xa (xa X _) _⟩
theorem two2 (X:Ext w0 w) (hq:ZV w (.agg #[iQ q0,.bool q1,.slice q2 q3 q4]) q) (hr:ZV w (.agg #[iQ r0,.bool r1,.slice r2 r3 r4]) r) :
  Two w0 ((w.alloc (.cells #[iQ r0,.bool r1,.slice r2 r3 r4] t)).alloc (.cells #[iQ q0,.bool q1,.slice q2 q3 q4] t)) (w.heap.size+1) w.heap.size q r:=by
 have h1:=ZIn.made t (hq.l (x1 w (.cells #[iQ r0,.bool r1,.slice r2 r3 r4] t)));simp only [World.size_alloc] at h1;exact ⟨Nat.le_succ_of_le X.size,X.size,by omega,h1,(ZIn.made t hr).l (x1 _ _),xa (xa X _) _⟩
theorem Box3.zin {b:Nat} (h:Box3 w b (iQ 0) (.bool false) (.slice none 0 0)):ZIn w b 0:=⟨_,_,_,_,_,h,ZV.small (by decide) (by decide)⟩
theorem Box3.lt {b:Nat} {v0 v1 v2:Value} (h:Box3 w b v0 v1 v2):b<w.heap.size:=World.block_lt_of_cell? _ _ h.1.1
theorem two5 (X:Ext w0 w) (hq:ZV w (.agg #[iQ q0,.bool q1,.slice q2 q3 q4]) q) (hr:ZV w (.agg #[iQ r0,.bool r1,.slice r2 r3 r4]) r) {b c:Nat} (hb:Box3 w b (iQ 0) (.bool false) (.slice none 0 0)) (hc:Box3 w c (iQ 0) (.bool false) (.slice none 0 0)) (b0:w0.heap.size<=b) (c0:w0.heap.size<=c) (hne:b ≠ c) :
  Two w0 (set3 (set3 w b (iQ q0) (.bool q1) (.slice q2 q3 q4)) c (iQ r0) (.bool r1) (.slice r2 r3 r4)) b c q r:=by
 have k1:=hb.zin.put hq;have k2:=hc.zin.far hb.zin hne (iQ q0) (.bool q1) (.slice q2 q3 q4);exact ⟨b0,c0,hne,k1.far k2 hne.symm _ _ _,k2.put (hr.set3 hb _ _ _),Ext.set3 (Ext.set3 X b0 _ _ _) c0 _ _ _⟩
theorem two3 (X:Ext w0 w) (hq:ZV w (.agg #[iQ q0,.bool q1,.slice q2 q3 q4]) q) (hr:ZV w (.agg #[iQ r0,.bool r1,.slice r2 r3 r4]) r) {b:Nat} (hb:Box3 w b (iQ 0) (.bool false) (.slice none 0 0)) (b0:w0.heap.size<=b) :
  Two w0 (set3 (set3 (w.alloc (.cells #[iQ 0,.bool false,.slice none 0 0] t)) b (iQ q0) (.bool q1) (.slice q2 q3 q4)) w.heap.size (iQ r0) (.bool r1) (.slice r2 r3 r4)) b w.heap.size q r:=
 two5 (xa X _) (hq.l (x1 _ _)) (hr.l (x1 _ _)) (hb.l (x1 _ _)) (Box3.made w _ _ _ t) b0 X.size (Nat.ne_of_lt hb.lt)
theorem two4 (X:Ext w0 w) (hq:ZV w (.agg #[iQ q0,.bool q1,.slice q2 q3 q4]) q) (hr:ZV w (.agg #[iQ r0,.bool r1,.slice r2 r3 r4]) r) {b:Nat} (hb:Box3 w b (iQ 0) (.bool false) (.slice none 0 0)) (b0:w0.heap.size<=b) :
  Two w0 (set3 (w.alloc (.cells #[iQ q0,.bool q1,.slice q2 q3 q4] t)) b (iQ r0) (.bool r1) (.slice r2 r3 r4)) w.heap.size b q r:=by
 have k1:=(hb.l (x1 w (.cells #[iQ q0,.bool q1,.slice q2 q3 q4] t))).zin;exact ⟨X.size,b0,(Nat.ne_of_lt hb.lt).symm,(ZIn.made t hq).far k1 (Nat.ne_of_lt hb.lt) _ _ _,k1.put (hr.l (x1 _ _)),Ext.set3 (xa X _) b0 _ _ _⟩
end
abbrev resV (r:DR):Value:=.agg #[.bool r.ok,.bool r.neg,iQ r.d,iQ r.e]
theorem zV7 {neg:Bool} {P d:Nat} {e x:Int} (h0:P ≠ 0) (h:zD5 P e=(d,x)) :
  resV (fitR neg P e)=if 300<x then .agg #[.bool false,.bool false,iQ 0,iQ 0] else if x < -300 then .agg #[.bool true,.bool false,iQ 0,iQ 0] else .agg #[.bool true,.bool neg,iQ d,iQ x]:=by
 unfold fitR;rw [if_neg h0,h];by_cases h1:300<x
 ·rw [if_pos h1,if_pos h1]
 ·rw [if_neg h1,if_neg h1];by_cases h2:x < -300
  ·rw [if_pos h2,if_pos h2]
  ·rw [if_neg h2,if_neg h2]
end Go.Proofs.YteliaeejooekbaaGreatDoor
namespace Go.Proofs.YteliaeejooekbaaGreatDoor
end Go.Proofs.YteliaeejooekbaaGreatDoor
namespace Go.Proofs.YteliaeejooekbaaGreatDoor
open Go.RowKit
theorem Box4.far {w:World} {b:Nat} {v0 v1 v2 v3:Value} (h:Box4 w b v0 v1 v2 v3) {p:Addr} (hp:p.block ≠ b) (u:Value):Box4 (w.setCell p u) b v0 v1 v2 v3:=by
 obtain ⟨⟨h0,h1,h2,h3⟩,f0,f1,f2,f3⟩:=h;have ne:∀ i,p ≠ ⟨b,i,none⟩:=fun i e=>hp (congrArg Addr.block e);refine ⟨⟨?_,?_,?_,?_⟩,?_,?_,?_,?_⟩
 ·rw [World.cell?_setCell_other _ _ _ _ (ne 0)];exact h0
 ·rw [World.cell?_setCell_other _ _ _ _ (ne 1)];exact h1
 ·rw [World.cell?_setCell_other _ _ _ _ (ne 2)];exact h2
 ·rw [World.cell?_setCell_other _ _ _ _ (ne 3)];exact h3
 ·rw [World.frozen?_setCell];exact f0
 ·rw [World.frozen?_setCell];exact f1
 ·rw [World.frozen?_setCell];exact f2
 ·rw [World.frozen?_setCell];exact f3
theorem zR4 {P:Nat} {more:Bool} (h:15<nd P):rndM 0 P (nd P - 15) more<=1000000000000000:=by
 unfold rndM;have h1:P / 10 ^ (nd P - 15)<10 ^ 15:=by
  refine Nat.div_lt_of_lt_mul ?_;rw [<- Nat.pow_add,show nd P - 15+15=nd P by omega];exact (zH5 P).1
 have e:(10:Nat) ^ 15=1000000000000000:=by decide
 split <;> omega
theorem Box3.set3_same {w:World} {b:Nat} {v0 v1 v2:Value} (h:Box3 w b v0 v1 v2) (c0 c1 c2:Value):Box3 (set3 w b c0 c1 c2) b c0 c1 c2:=by
 obtain ⟨⟨q0,q1,q2⟩,f0,f1,f2⟩:=h;have n01:(⟨b,0,none⟩:Addr) ≠ ⟨b,1,none⟩:=zCG (by decide);have n02:(⟨b,0,none⟩:Addr) ≠ ⟨b,2,none⟩:=zCG (by decide);have n12:(⟨b,1,none⟩:Addr) ≠ ⟨b,2,none⟩:=zCG (by decide);refine ⟨⟨?_,?_,?_⟩,?_,?_,?_⟩
 ·rw [World.cell?_setCell_other _ _ _ _ n02.symm,World.cell?_setCell_other _ _ _ _ n01.symm];exact World.cell?_setCell_same _ _ _ q0
 ·rw [World.cell?_setCell_other _ _ _ _ n12.symm];exact World.cell?_setCell_same _ _ _ (by rw [World.cell?_setCell_other _ _ _ _ n01];exact q1)
 ·exact World.cell?_setCell_same _ _ _ (by rw [World.cell?_setCell_other _ _ _ _ n12,World.cell?_setCell_other _ _ _ _ n02];exact q2)
 ·simp [World.frozen?_setCell,f0]
 ·simp [World.frozen?_setCell,f1]
 ·simp [World.frozen?_setCell,f2]
theorem zCN {b g i j:Nat} (h:b ≠ g):(⟨g,i,none⟩:Addr) ≠ ⟨b,j,none⟩:=fun e=>h (by cases e;rfl)
theorem Box3.set3_other {w:World} {b g:Nat} {v0 v1 v2:Value} (h:Box3 w b v0 v1 v2) (hb:b ≠ g) (c0 c1 c2:Value):Box3 (set3 w g c0 c1 c2) b v0 v1 v2:=by
 obtain ⟨⟨q0,q1,q2⟩,f0,f1,f2⟩:=h;refine ⟨⟨?_,?_,?_⟩,?_,?_,?_⟩
 ·rw [World.cell?_setCell_other _ _ _ _ (zCN hb),World.cell?_setCell_other _ _ _ _ (zCN hb),World.cell?_setCell_other _ _ _ _ (zCN hb)];exact q0
 ·rw [World.cell?_setCell_other _ _ _ _ (zCN hb),World.cell?_setCell_other _ _ _ _ (zCN hb),World.cell?_setCell_other _ _ _ _ (zCN hb)];exact q1
 ·rw [World.cell?_setCell_other _ _ _ _ (zCN hb),World.cell?_setCell_other _ _ _ _ (zCN hb),World.cell?_setCell_other _ _ _ _ (zCN hb)];exact q2
 ·simp [World.frozen?_setCell,f0]
 ·simp [World.frozen?_setCell,f1]
 ·simp [World.frozen?_setCell,f2]
theorem zMY {va:Value} {a:Int} (n:Nat) (w:World) (ha:ZV w va a) (hn:n<=1000000) (k:Nat) (hk:k<=1000000000) (ka:(a.natAbs:Int)<1000000000 ^ k) (kp:∀ i,i<=n->((a ^ i).natAbs:Int)<1000000000 ^ k) :
  Calls Tryz.prog 152 #[va,iQ n] w fun e w'=>∃ v',e=.returned v'/\ZV w' v' (a ^ n)/\Ext w w':=by
 obtain ⟨a0,a1,pa,na,ca,rfl⟩:=ha.shape;go_enter Tryz.func152,Tryz.ntmps152;go_wp2_with fail;refine (zCR 1 _ (by decide) (by decide)).mono ?_;rintro e w1 ⟨v1,rfl,h1,e1⟩;obtain ⟨o0,o1,po,no,co,rfl⟩:=h1.shape;have Ba:=((Box3.made w (iQ a0) (.bool a1) (.slice pa na ca) 137).l (x1 _ _)).l e1;have Br:=(Box3.made (w.alloc (.cells #[iQ a0,.bool a1,.slice pa na ca] 137)) (iQ 0) (.bool false) (.slice none 0 0) 137).l e1;simp only [World.size_alloc] at Br;have X1:=xt (xa (x1 _ _) _) e1;have sz:=e1.size;simp only [World.size_alloc] at sz;have KH:Hid ((a.natAbs:Int)<1000000000 ^ k/\∀ i,i<=n->((a ^ i).natAbs:Int)<1000000000 ^ k):=⟨ka,kp⟩;clear e1 ka kp;go_wp2_with fail;go_loopw [6] (fun i wr=>∃ (m:Nat) (c0:Int) (c1:Bool) (pc:Option Addr) (nc cc:Nat),m<=n/\i=.int .i64 m/\Box3 wr w1.heap.size (.int .i64 c0) (.bool c1) (.slice pc nc cc)/\ZV wr (.agg #[.int .i64 c0,.bool c1,.slice pc nc cc]) (a ^ m) /\
   Box3 wr w.heap.size (iQ a0) (.bool a1) (.slice pa na ca)/\Box3 wr (w.heap.size+1) (iQ 0) (.bool false) (.slice none 0 0)/\Ext w wr) (fun i _=>n - (intOf i).toNat)
 case atStart=>exact ⟨0,o0,o1,po,no,co,Nat.zero_le _,rfl,Box3.made _ _ _ _ _,by rw [Int.pow_zero];exact h1.l (x1 _ _),Ba.l (x1 _ _),Br.l (x1 _ _),xa X1 _⟩
 case round =>
  obtain ⟨m,c0,c1,pc,nc,cc,hm,rfl,Bo,ho,Bar,Brr,X⟩:=hrel;by_cases hlt:m<n
  ·have Bo':=Bo;have Ba':=Bar;obtain ⟨⟨q0,q1,q2⟩,_⟩:=Bo';obtain ⟨⟨p0,p1,p2⟩,_⟩:=Ba';clear Ba Br;go_wp2_with fail;refine (zNC _ ho (ha.l X) k hk (KH.out.2 m hm) KH.out.1).mono ?_;rintro e w2 ⟨v2,rfl,h2,e2⟩;obtain ⟨d0,d1,pd,nd,cd,rfl⟩:=h2.shape;have B2:=Bo.l e2;have R:Hid (Box3 (set3 w2 w1.heap.size (iQ d0) (.bool d1) (.slice pd nd cd)) w1.heap.size (iQ d0) (.bool d1) (.slice pd nd cd)/\ZV (set3 w2 w1.heap.size (iQ d0) (.bool d1) (.slice pd nd cd)) (.agg #[iQ d0,.bool d1,.slice pd nd cd]) (a ^ (m+1)) /\
     Box3 (set3 w2 w1.heap.size (iQ d0) (.bool d1) (.slice pd nd cd)) w.heap.size (iQ a0) (.bool a1) (.slice pa na ca)/\Box3 (set3 w2 w1.heap.size (iQ d0) (.bool d1) (.slice pd nd cd)) (w.heap.size+1) (iQ 0) (.bool false) (.slice none 0 0)/\Ext w (set3 w2 w1.heap.size (iQ d0) (.bool d1) (.slice pd nd cd))):=
    ⟨B2.set3_same _ _ _,by rw [Int.pow_succ];exact h2.set3 B2 _ _ _,(Bar.l e2).set3_other (by omega) _ _ _,(Brr.l e2).set3_other (by omega) _ _ _,Ext.set3 (xt X e2) (by omega) _ _ _⟩
   obtain ⟨⟨r0,r1,r2⟩,s0,s1,s2⟩:=B2;clear Bo ho Bar Brr X h2 e2
   go_wp2
   go_roundw
   case rel=>exact ⟨m+1,d0,d1,pd,nd,cd,by omega,by go_num,R.out.1,R.out.2.1,R.out.2.2.1,R.out.2.2.2.1,R.out.2.2.2.2⟩
   case measure=>simp [intOf];omega
  ·obtain rfl:m=n:=by omega
   have Hz:=ho.set3 Brr (iQ c0) (.bool c1) (.slice pc nc cc);have Hx:=Ext.set3 (b:=w.heap.size+1) X (by omega) (iQ c0) (.bool c1) (.slice pc nc cc);obtain ⟨⟨q0,q1,q2⟩,_⟩:=Bo;obtain ⟨⟨r0,r1,r2⟩,s0,s1,s2⟩:=Brr;clear Ba Br
   go_wp2
   exact bodyPost_ret (v:=.agg #[iQ c0,.bool c1,.slice pc nc cc]) (by simp [results,Tryz.results152,go_sem,r0,r1,r2]) rfl ⟨_,rfl,Hz,Hx⟩
theorem zRS (i:Nat):(((10:Int) ^ i).natAbs:Int)<1000000000 ^ (i+1):=by
 have e:(((10:Int) ^ i).natAbs:Int)=((10 ^ i:Nat):Int):=by rw [Int.natAbs_pow];rfl
 rw [e];have h1:10 ^ i<=1000000000 ^ i:=Nat.pow_le_pow_left (by decide) i;have h2:1000000000 ^ i<1000000000 ^ (i+1):=Nat.pow_lt_pow_right (by decide) (by omega);have h3:((10 ^ i:Nat):Int)<((1000000000 ^ (i+1):Nat):Int):=by exact_mod_cast Nat.lt_of_le_of_lt h1 h2
 simpa using h3
theorem zKB (n i:Nat) (h:i<=n):(((10:Int) ^ i).natAbs:Int)<1000000000 ^ (n+1):=by
 have h1:=zRS i;have h2:(1000000000:Int) ^ (i+1)<=1000000000 ^ (n+1):=by
  have:=Nat.pow_le_pow_right (n:=1000000000) (by decide) (show i+1<=n+1 by omega);have h3:((1000000000 ^ (i+1):Nat):Int)<=((1000000000 ^ (n+1):Nat):Int):=by exact_mod_cast this
  simpa using h3
 omega
theorem Box3.up {w:World} {b:Nat} {v0 v1 v2:Value} (h:Box3 w b v0 v1 v2):((∀ o,(w.alloc o).cell? ⟨b,0,none⟩=some v0)/\(∀ o,(w.alloc o).cell? ⟨b,1,none⟩=some v1)/\∀ o,(w.alloc o).cell? ⟨b,2,none⟩=some v2)/\(∀ o,(w.alloc o).frozen? ⟨b,0,none⟩=false)/\(∀ o,(w.alloc o).frozen? ⟨b,1,none⟩=false)/\∀ o,(w.alloc o).frozen? ⟨b,2,none⟩=false:=
 ⟨⟨fun o=>(h.l (x1 w o)).1.1,fun o=>(h.l (x1 w o)).1.2.1,fun o=>(h.l (x1 w o)).1.2.2⟩,fun o=>(h.l (x1 w o)).2.1,fun o=>(h.l (x1 w o)).2.2.1,fun o=>(h.l (x1 w o)).2.2.2⟩
theorem zRT (n:Nat) (w:World) (hn:n<=1000000) :
  Calls Tryz.prog 130 #[iQ n] w fun e w'=>∃ v',e=.returned v'/\ZV w' v' (10 ^ n)/\Ext w w':=by
 go_enter Tryz.func130,Tryz.ntmps130;go_wp2_with fail;refine (zCR 10 _ (by decide) (by decide)).mono ?_;rintro e w1 ⟨v1,rfl,h1,e1⟩;go_wp2_with fail;refine (zMY n _ h1 hn (n+1+1) (by omega) (by simpa using zKB (n+1) 1 (by omega)) (fun i hi=>zKB (n+1) i (by omega))).mono ?_;rintro e w2 ⟨v2,rfl,h2,e2⟩;obtain ⟨o0,o1,po,no,co,rfl⟩:=h2.shape;have Br:=((Box3.made w (iQ 0) (.bool false) (.slice none 0 0) 137).l e1).l e2;have Hz:=h2.set3 Br (iQ o0) (.bool o1) (.slice po no co);have Hx:=Ext.set3 (b:=w.heap.size) (xt (xt (x1 _ _) e1) e2) (Nat.le_refl _) (iQ o0) (.bool o1) (.slice po no co);obtain ⟨⟨r0,r1,r2⟩,s0,s1,s2⟩:=Br
 go_wp2
 exact bodyPost_ret (v:=.agg #[iQ o0,.bool o1,.slice po no co]) (by simp [results,Tryz.results130,go_sem,r0,r1,r2]) rfl ⟨_,rfl,Hz,Hx⟩
end Go.Proofs.YteliaeejooekbaaGreatDoor
