/-
  Several texts in one: AddZ, ZTwo, ImA, DvN.
-/
import Derived.Test.YtjlojlgdkfpcdaaGreatDoorMg9
import Derived.Test.YtjlojlgdkfpcdaaGreatDoorMg11
import Derived.Test.YtjlojlgdkfpcdaaGreatDoorMg0
import Derived.Laws.Externs
import Derived.Shelf.Spec.BitsCarry
import Derived.Test.YtjlojlgdkfpcdaaGreatDoorMg5
set_option maxRecDepth 8000
set_option maxHeartbeats 2000000
namespace Go.Proofs.YtjlojlgdkfpcdaaGreatDoor
open Go.RowKit
theorem add_same {a b:Int} (h:decide (a<0)=decide (b<0)):sgn (decide (a<0)) ((a.natAbs:Int)+(b.natAbs:Int))=a+b:=by
 by_cases ha:a<0
 ·have hb:b<0:=by rw [decide_eq_true ha] at h;exact of_decide_eq_true h.symm
  simp [sgn,ha];omega
 ·have hb:¬ b<0:=by rw [decide_eq_false ha] at h;exact of_decide_eq_false h.symm
  simp [sgn,ha];omega
theorem zOC {a b:Int} (h:decide (a<0) ≠ decide (b<0)):sgn (decide (a<0)) ((a.natAbs:Int) - (b.natAbs:Int))=a+b:=by
 by_cases ha:a<0
 ·have hb:¬ b<0:=fun hb=>h (by rw [decide_eq_true ha,decide_eq_true hb]);simp [sgn,ha];omega
 ·have hb:b<0:=by
   by_cases hb:b<0
   ·exact hb
   ·exact absurd (by rw [decide_eq_false ha,decide_eq_false hb]) h
  simp [sgn,ha];omega
theorem zU4 {a b:Int} (h:decide (a<0) ≠ decide (b<0)):sgn (decide (b<0)) ((b.natAbs:Int) - (a.natAbs:Int))=a+b:=by
 rw [zOC h.symm];omega
theorem add_big {va vb:Value} {a b:Int} (w:World) (ha:ZV w va a) (hb:ZV w vb b) (hbig:(zAF a && zAF b)=false) (k:Nat) (hk:k<=100000000) (ka:(a.natAbs:Int)<1000000000 ^ k) (kb:(b.natAbs:Int)<1000000000 ^ k) :
  Calls Tryz.prog 116 #[va,vb] w fun e w'=>∃ v',e=.returned v'/\ZV w' v' (a+b)/\Ext w w':=by
 obtain ⟨c0,c1,pa,na,ca,rfl⟩:=ha.shape;obtain ⟨d0,d1,pb,nb,cb,rfl⟩:=hb.shape;have IA:Hid (∀ w2,Ext w w2->Calls Tryz.prog 153 #[.agg #[iQ c0,.bool c1,.slice pa na ca]] w2 fun e w'=>e=.returned (.bool (zAF a))/\Ext w2 w'):=fun w2 x=>zA9 w2 (ha.l x);have IB:Hid (∀ w2,Ext w w2->Calls Tryz.prog 153 #[.agg #[iQ d0,.bool d1,.slice pb nb cb]] w2 fun e w'=>e=.returned (.bool (zAF b))/\Ext w2 w'):=fun w2 x=>zA9 w2 (hb.l x);obtain ⟨sa,hsa⟩:=nm (decide (a<0));obtain ⟨sb,hsb⟩:=nm (decide (b<0));have NA:Hid (∀ w2,Ext w w2->Calls Tryz.prog 110 #[.agg #[iQ c0,.bool c1,.slice pa na ca]] w2 fun e w'=>e=.returned (.bool sa)/\Ext w2 w'):=fun w2 x=>zAU sa w2 hsa (ha.l x);have NB:Hid (∀ w2,Ext w w2->Calls Tryz.prog 110 #[.agg #[iQ d0,.bool d1,.slice pb nb cb]] w2 fun e w'=>e=.returned (.bool sb)/\Ext w2 w'):=fun w2 x=>zAU sb w2 hsb (hb.l x);have LA:Hid (∀ w2,Ext w w2->Calls Tryz.prog 152 #[.agg #[iQ c0,.bool c1,.slice pa na ca]] w2 fun e w'=>∃ v' xs,e=.returned v'/\Hid (Row w' v' xs/\Lim xs/\Top xs/\lv xs=(a.natAbs:Int)/\xs.length<=k)/\Ext w2 w'):=fun w2 x=>by
  refine (zAD w2 (ha.l x)).mono ?_;rintro e w' ⟨v',rfl,⟨xs,h1,h2,h3,h4⟩,hx⟩;exact ⟨v',xs,rfl,⟨h1,h2,h3,h4,zEF h2 h3 (by rw [h4];exact ka)⟩,hx⟩
 have LB:Hid (∀ w2,Ext w w2->Calls Tryz.prog 152 #[.agg #[iQ d0,.bool d1,.slice pb nb cb]] w2 fun e w'=>∃ v' xs,e=.returned v'/\Hid (Row w' v' xs/\Lim xs/\Top xs/\lv xs=(b.natAbs:Int)/\xs.length<=k)/\Ext w2 w'):=fun w2 x=>by
  refine (zAD w2 (hb.l x)).mono ?_;rintro e w' ⟨v',rfl,⟨xs,h1,h2,h3,h4⟩,hx⟩;exact ⟨v',xs,rfl,⟨h1,h2,h3,h4,zEF h2 h3 (by rw [h4];exact kb)⟩,hx⟩
 have MK:Hid (∀ (w2:World) (s:Bool) (v:Value) (xs:List Int),Row w2 v xs->Lim xs->Calls Tryz.prog 155 #[.bool s,v] w2 fun e w'=>∃ z0 z1 p n c,e=.returned (.agg #[iQ z0,.bool z1,.slice p n c])/\ZV w' (.agg #[iQ z0,.bool z1,.slice p n c]) (sgn s (lv xs))/\Ext w2 w'):=fun w2 s v xs h1 h2=>by
  refine (zES s w2 h1 h2).mono ?_;rintro e w' ⟨v',rfl,hz,hx⟩;obtain ⟨z0,z1,p,n,c,rfl⟩:=hz.shape;exact ⟨z0,z1,p,n,c,rfl,hz,hx⟩
 have SAME:Hid (sa=sb->sgn sa ((a.natAbs:Int)+(b.natAbs:Int))=a+b):=fun h=>by rw [<- hsa,<- hsb] at h;rw [<- hsa];exact add_same h
 have LEFT:Hid (sa ≠ sb->sgn sa ((a.natAbs:Int) - (b.natAbs:Int))=a+b):=fun h=>by rw [<- hsa,<- hsb] at h;rw [<- hsa];exact zOC h
 have RIGHT:Hid (sa ≠ sb->sgn sb ((b.natAbs:Int) - (a.natAbs:Int))=a+b):=fun h=>by rw [<- hsa,<- hsb] at h;rw [<- hsb];exact zU4 h
 have Ba:=(Box3.made w (iQ c0) (.bool c1) (.slice pa na ca) 103).l (xa (x1 _ (.cells #[iQ d0,.bool d1,.slice pb nb cb] 103)) (.cells #[iQ 0,.bool false,.slice none 0 0] 103));have Bb:=(Box3.made (w.alloc (.cells #[iQ c0,.bool c1,.slice pa na ca] 103)) (iQ d0) (.bool d1) (.slice pb nb cb) 103).l (x1 _ (.cells #[iQ 0,.bool false,.slice none 0 0] 103));have Br:=Box3.made ((w.alloc (.cells #[iQ c0,.bool c1,.slice pa na ca] 103)).alloc (.cells #[iQ d0,.bool d1,.slice pb nb cb] 103)) (iQ 0) (.bool false) (.slice none 0 0) 103;have X0:=xa (xa (x1 w (.cells #[iQ c0,.bool c1,.slice pa na ca] 103)) (.cells #[iQ d0,.bool d1,.slice pb nb cb] 103)) (.cells #[iQ 0,.bool false,.slice none 0 0] 103);simp only [World.size_alloc] at Bb Br;clear ha hb ka kb hsa hsb;go_enter Tryz.func116,Tryz.ntmps116;go_upto_region 1 with fail;obtain ⟨w0,hw0⟩:=nm (((w.alloc (.cells #[iQ c0,.bool c1,.slice pa na ca] 103)).alloc (.cells #[iQ d0,.bool d1,.slice pb nb cb] 103)).alloc (.cells #[iQ 0,.bool false,.slice none 0 0] 103));rw [hw0] at Ba Bb Br X0 ⊢;clear hw0;go_cut [12] (fun v wc=>v=.bool false/\Ext w0 wc)
 case first =>
  have Ba':=Ba;obtain ⟨⟨p0,p1,p2⟩,_⟩:=Ba';go_wp2_with fail;refine (IA.out _ X0).mono ?_;rintro e w1 ⟨rfl,e1⟩;obtain ⟨⟨q0,q1,q2⟩,_⟩:=Bb.l e1;cases ea:zAF a
  ·go_wp2_with fail;go_meet
   case rel=>exact ⟨rfl,e1⟩
  ·have eb:zAF b=false:=by rw [ea] at hbig;exact hbig
   go_wp2_with fail;refine (IB.out _ (xt X0 e1)).mono ?_;rintro e w2 ⟨rfl,e2⟩;rw [eb];go_wp2_with fail;go_meet
   case rel=>exact ⟨rfl,xt e1 e2⟩
 case rest =>
  obtain ⟨rfl,X1⟩:=hcut
  rename World=>w1
  replace Ba:=Ba.l X1;replace Bb:=Bb.l X1;replace Br:=Br.l X1;replace X1:=xt X0 X1;have Ba':=Ba;obtain ⟨⟨p0,p1,p2⟩,_⟩:=Ba';clear X0 IA IB hbig;go_wp2_with fail;refine (LA.out _ X1).mono ?_;rintro e w2 ⟨vx,xs,rfl,HX,e2⟩;replace Ba:=Ba.l e2;replace Bb:=Bb.l e2;replace Br:=Br.l e2;replace X1:=xt X1 e2;have Bb':=Bb;obtain ⟨⟨p3,p4,p5⟩,_⟩:=Bb';clear p0 p1 p2;go_wp2_with fail;refine (LB.out _ X1).mono ?_;rintro e w3 ⟨vy,ys,rfl,HY,e3⟩;replace Ba:=Ba.l e3;replace Bb:=Bb.l e3;replace Br:=Br.l e3;replace X1:=xt X1 e3;have HX3:Hid (Row w3 vx xs/\Lim xs/\Top xs/\lv xs=(a.natAbs:Int)/\xs.length<=k):=⟨HX.out.1.l e3,HX.out.2⟩;clear p3 p4 p5 e2 HX LA LB;have Ba':=Ba;have Bb':=Bb;obtain ⟨⟨p0,p1,p2⟩,_⟩:=Ba';obtain ⟨⟨p3,p4,p5⟩,_⟩:=Bb';go_upto_region 5 with fail;go_cut [27] (fun v wc=>v=.bool (decide (sa=sb))/\Ext w3 wc)
  case first =>
   go_region_held3 (fun w'=>(w'.cell? ⟨w.heap.size,0,none⟩=some (iQ c0)/\w'.cell? ⟨w.heap.size,1,none⟩=some (.bool c1)/\w'.cell? ⟨w.heap.size,2,none⟩=some (.slice pa na ca))/\w'.cell? ⟨w.heap.size+1,0,none⟩=some (iQ d0)/\w'.cell? ⟨w.heap.size+1,1,none⟩=some (.bool d1)/\w'.cell? ⟨w.heap.size+1,2,none⟩=some (.slice pb nb cb)) (go_keep) (first
    | (go_at_call_of 110 (Value.agg #[iQ c0,.bool c1,.slice pa na ca]);refine (NA.out _ (xt X1 (xd (xr _)))).mono ?_;rintro e w4 ⟨rfl,e4⟩;have X4:Ext w3 w4:=xt (xd (xr _)) e4;obtain ⟨⟨a40,a41,a42⟩,_⟩:=Ba.l X4;obtain ⟨⟨b40,b41,b42⟩,_⟩:=Bb.l X4)
    | (go_at_call_of 110 (Value.agg #[iQ d0,.bool d1,.slice pb nb cb]);refine (NB.out _ (xt X1 X4)).mono ?_;rintro e w5 ⟨rfl,e5⟩;have X5:Ext w3 w5:=xt X4 e5;obtain ⟨⟨a50,a51,a52⟩,_⟩:=Ba.l X5;obtain ⟨⟨b50,b51,b52⟩,_⟩:=Bb.l X5))
   go_wp2_with fail;go_meet
   case rel=>exact ⟨by cases sa <;> cases sb <;> rfl,X5⟩
  case rest =>
   obtain ⟨rfl,X4⟩:=hcut
   rename World=>w4
   replace Ba:=Ba.l X4;replace Bb:=Bb.l X4;replace Br:=Br.l X4;replace X1:=xt X1 X4;have HX4:Hid (Row w4 vx xs/\Lim xs/\Top xs/\lv xs=(a.natAbs:Int)/\xs.length<=k):=⟨HX3.out.1.l X4,HX3.out.2⟩;have HY4:Hid (Row w4 vy ys/\Lim ys/\Top ys/\lv ys=(b.natAbs:Int)/\ys.length<=k):=⟨HY.out.1.l X4,HY.out.2⟩;obtain ⟨⟨p0',p1',p2'⟩,_⟩:=Ba;have Bb':=Bb;obtain ⟨⟨p3',p4',p5'⟩,_⟩:=Bb';clear p0 p1 p2 p3 p4 p5 HX3 HY X4;by_cases hs:sa=sb
   ·have hs':decide (sa=sb)=true:=decide_eq_true hs;have HS:Hid (sgn sa ((a.natAbs:Int)+(b.natAbs:Int))=a+b):=SAME.out hs;rw [hs'];clear hs hs' SAME LEFT RIGHT NB p3' p4' p5';go_wp2_with fail;refine (NA.out _ X1).mono ?_;rintro e w5 ⟨rfl,e5⟩;go_wp2_with fail;refine (addD_any _ (HX4.out.1.l e5) (HY4.out.1.l e5) HX4.out.2.1 HY4.out.2.1 (by have:=HX4.out.2.2.2.2;omega) (by have:=HY4.out.2.2.2.2;omega)).mono ?_;rintro e w6 ⟨v6,fs,rfl,F1,F2,F3,e6⟩;have FV:Hid _:=F3;clear F3;go_wp2_with fail;refine (MK.out _ _ _ _ F1 F2).mono ?_;rintro e w7 ⟨f0,f1,f2,f3,f4,rfl,hz7,e7⟩;rw [FV.out,HX4.out.2.2.2.1,HY4.out.2.2.2.1,HS.out] at hz7;have B7:=((Br.l e5).l e6).l e7;have HZ:Hid (ZV (set3 w7 (w.heap.size+1+1) (iQ f0) (.bool f1) (.slice f2 f3 f4)) (.agg #[iQ f0,.bool f1,.slice f2 f3 f4]) (a+b)/\Ext w (set3 w7 (w.heap.size+1+1) (iQ f0) (.bool f1) (.slice f2 f3 f4))):=⟨hz7.set3 B7 _ _ _,Ext.set3 (xt (xt (xt X1 e5) e6) e7) (by omega) _ _ _⟩;obtain ⟨⟨r0,r1,r2⟩,s0,s1,s2⟩:=B7;clear hz7 F1 F2 p0' p1' p2';go_wp2_with fail;exact bodyPost_ret (v:=.agg #[iQ f0,.bool f1,.slice f2 f3 f4]) (by simp [results,Tryz.results116,go_sem,r0,r1,r2]) rfl ⟨_,rfl,HZ.out.1,HZ.out.2⟩
   ·have hs':decide (sa=sb)=false:=decide_eq_false hs;have HSL:Hid (sgn sa ((a.natAbs:Int) - (b.natAbs:Int))=a+b):=LEFT.out hs;have HSR:Hid (sgn sb ((b.natAbs:Int) - (a.natAbs:Int))=a+b):=RIGHT.out hs;rw [hs'];clear hs hs' SAME LEFT RIGHT;go_wp2_with fail;by_cases hlt:lv xs<lv ys
    ·refine (zLO (-1) (zEK hlt) _ HX4.out.1 HY4.out.1 HX4.out.2.1 HY4.out.2.1 HX4.out.2.2.1 HY4.out.2.2.1).mono ?_;rintro e w5 ⟨rfl,e5⟩;have HL:Hid (lv xs<=lv ys/\xs.length<=ys.length):=⟨by omega,zCR HX4.out.2.1 HY4.out.2.1 HX4.out.2.2.1 (by omega)⟩;obtain ⟨⟨q0,q1,q2⟩,_⟩:=Bb.l e5;clear hlt NA p0' p1' p2' p3' p4' p5' HSL;go_wp2_with fail;refine (NB.out _ (xt X1 e5)).mono ?_;rintro e w6 ⟨rfl,e6⟩;go_wp2_with fail;refine (zD3 _ ((HY4.out.1.l e5).l e6) ((HX4.out.1.l e5).l e6) HY4.out.2.1 HX4.out.2.1 (by have:=HY4.out.2.2.2.2;omega) HL.out.2 HL.out.1).mono ?_;rintro e w7 ⟨v7,fs,rfl,F1,F2,F3,_,e7,kq,cq,rfl⟩;have FV:Hid _:=F3;clear F3;go_wp2_with fail;refine (MK.out _ _ _ _ F1 F2).mono ?_;rintro e w8 ⟨f0,f1,f2,f3,f4,rfl,hz7,e8⟩;rw [FV.out,HX4.out.2.2.2.1,HY4.out.2.2.2.1,HSR.out] at hz7;have B7:=(((Br.l e5).l e6).l e7).l e8;have HZ:Hid (ZV (set3 w8 (w.heap.size+1+1) (iQ f0) (.bool f1) (.slice f2 f3 f4)) (.agg #[iQ f0,.bool f1,.slice f2 f3 f4]) (a+b)/\Ext w (set3 w8 (w.heap.size+1+1) (iQ f0) (.bool f1) (.slice f2 f3 f4))):=⟨hz7.set3 B7 _ _ _,Ext.set3 (xt (xt (xt (xt X1 e5) e6) e7) e8) (by omega) _ _ _⟩;obtain ⟨⟨r0,r1,r2⟩,s0,s1,s2⟩:=B7;clear hz7 F1 F2 q0 q1 q2;go_wp2_with fail;exact bodyPost_ret (v:=.agg #[iQ f0,.bool f1,.slice f2 f3 f4]) (by simp [results,Tryz.results116,go_sem,r0,r1,r2]) rfl ⟨_,rfl,HZ.out.1,HZ.out.2⟩
    ·refine (zE3 _ HX4.out.1 HY4.out.1 HX4.out.2.1 HY4.out.2.1 HX4.out.2.2.1 HY4.out.2.2.1).mono ?_;rintro e w5 ⟨rfl,e5⟩;obtain ⟨cc,hcc,cc0⟩:∃ c,cmpI (lv xs) (lv ys)=c/\0<=c:=⟨_,rfl,zO9 hlt⟩;rw [hcc];have HL:Hid (lv ys<=lv xs/\ys.length<=xs.length):=⟨by omega,zCR HY4.out.2.1 HX4.out.2.1 HY4.out.2.2.1 (by omega)⟩;have q0:=cell_later e5 p0';have q1:=cell_later e5 p1';have q2:=cell_later e5 p2';clear hlt NB p0' p1' p2' p3' p4' p5' HSR hcc;go_wp2_with fail;refine (NA.out _ (xt X1 e5)).mono ?_;rintro e w6 ⟨rfl,e6⟩;go_wp2_with fail;refine (zD3 _ ((HX4.out.1.l e5).l e6) ((HY4.out.1.l e5).l e6) HX4.out.2.1 HY4.out.2.1 (by have:=HX4.out.2.2.2.2;omega) HL.out.2 HL.out.1).mono ?_;rintro e w7 ⟨v7,fs,rfl,F1,F2,F3,_,e7,kq,cq,rfl⟩;have FV:Hid _:=F3;clear F3;go_wp2_with fail;refine (MK.out _ _ _ _ F1 F2).mono ?_;rintro e w8 ⟨f0,f1,f2,f3,f4,rfl,hz7,e8⟩;rw [FV.out,HX4.out.2.2.2.1,HY4.out.2.2.2.1,HSL.out] at hz7;have B7:=(((Br.l e5).l e6).l e7).l e8;have HZ:Hid (ZV (set3 w8 (w.heap.size+1+1) (iQ f0) (.bool f1) (.slice f2 f3 f4)) (.agg #[iQ f0,.bool f1,.slice f2 f3 f4]) (a+b)/\Ext w (set3 w8 (w.heap.size+1+1) (iQ f0) (.bool f1) (.slice f2 f3 f4))):=⟨hz7.set3 B7 _ _ _,Ext.set3 (xt (xt (xt (xt X1 e5) e6) e7) e8) (by omega) _ _ _⟩;obtain ⟨⟨r0,r1,r2⟩,s0,s1,s2⟩:=B7;clear hz7 F1 F2 q0 q1 q2;go_wp2_with fail;exact bodyPost_ret (v:=.agg #[iQ f0,.bool f1,.slice f2 f3 f4]) (by simp [results,Tryz.results116,go_sem,r0,r1,r2]) rfl ⟨_,rfl,HZ.out.1,HZ.out.2⟩
theorem zMV {va vb:Value} {a b:Int} (w:World) (ha:ZV w va a) (hb:ZV w vb b) (k:Nat) (hk:k<=100000000) (ka:(a.natAbs:Int)<1000000000 ^ k) (kb:(b.natAbs:Int)<1000000000 ^ k) :
  Calls Tryz.prog 116 #[va,vb] w fun e w'=>∃ v',e=.returned v'/\ZV w' v' (a+b)/\Ext w w':=by
 cases h:(zAF a && zAF b)
 ·exact add_big w ha hb h k hk ka kb
 ·rw [Bool.and_eq_true] at h;exact zJC w ha hb h.1 h.2
def ndZ (a:Nat):Nat:=if a=0 then 1 else nd a
theorem zCO.len {l:List UInt8} {z:Int} (h:zCO l z) (z0:0<=z):l.length=ndZ z.toNat:=by
 unfold ndZ
 rcases h with ⟨rfl,rfl⟩ | ⟨ds,hd,rfl⟩
 ·rfl
 ·have hz:¬ z<0:=by omega
  rw [if_neg hz,List.nil_append,List.length_map,List.length_reverse];have h1:=hd.ge;have h2:=hd.lt;have hp:(0:Int)<10 ^ (ds.length - 1):=Int.pow_pos (by decide);rw [if_neg (by omega)];have e:((z.toNat:Nat):Int)=(z.natAbs:Int):=by omega
  refine (nd_eq ?_ (.inr ?_)).symm
  ·have:((z.toNat:Nat):Int)<((10 ^ ds.length:Nat):Int):=by rw [e,Int.natCast_pow];exact h2
   exact_mod_cast this
  ·have:((10 ^ (ds.length - 1):Nat):Int)<=((z.toNat:Nat):Int):=by rw [e,Int.natCast_pow];exact h1
   exact_mod_cast this
theorem zJ9 {v:Value} {z:Int} (w:World) (h:ZV w v z) (z0:0<=z) (k:Nat) (hk:k<=1000000000) (kz:z<1000000000 ^ k) :
  Calls Tryz.prog 112 #[v] w fun e w'=>e=.returned (iQ (ndZ z.toNat))/\Ext w w':=by
 obtain ⟨c0,c1,p,n,c,rfl⟩:=h.shape;have hn:decide (z<0)=false:=by simpa using z0
 have NA:Hid (∀ w2,Ext w w2->Calls Tryz.prog 110 #[.agg #[iQ c0,.bool c1,.slice p n c]] w2 fun e w'=>e=.returned (.bool false)/\Ext w2 w'):=fun w2 x=>zAU false w2 hn (h.l x);have TX:Hid (∀ w2,Ext w w2->Calls Tryz.prog 91 #[.agg #[iQ c0,.bool c1,.slice p n c]] w2 fun e w'=>∃ l:List UInt8,e=.returned (.string ⟨l.toArray⟩)/\Hid (l.length=ndZ z.toNat)/\Ext w2 w'):=fun w2 x=>by
  refine (zH1 w2 (h.l x) k hk (by rw [zSL z0];exact kz)).mono ?_;rintro e w' ⟨l,rfl,ht,hx⟩;exact ⟨l,rfl,ht.len z0,hx⟩
 have B:=Box3.made w (iQ c0) (.bool c1) (.slice p n c) 103;clear h kz hn;go_enter Tryz.func112,Tryz.ntmps112;go_wp2_with fail;refine (TX.out _ (x1 _ _)).mono ?_;rintro e w1 ⟨l,rfl,hl,e1⟩;obtain ⟨⟨p0,p1,p2⟩,_⟩:=B.l e1;go_wp2_with fail;refine (NA.out _ (xt (x1 _ _) e1)).mono ?_;rintro e w2 ⟨rfl,e2⟩;clear p0 p1 p2;go_wp2_with fail;go_ret;refine ⟨zA8 ?_,xt (xt (x1 _ _) e1) e2⟩;have:=hl.out;omega
def Two (w0 w:World) (b c:Nat) (q r:Int):Prop:=w0.heap.size<=b/\w0.heap.size<=c/\b ≠ c/\ZIn w b q/\ZIn w c r/\Ext w0 w
section
variable {w0 w:World} {q r:Int} {q0:Int} {q1:Bool} {q2:Option Addr} {q3 q4:Nat} {r0:Int} {r1:Bool} {r2:Option Addr} {r3 r4:Nat} {t:TypeId}
theorem two1 (X:Ext w0 w) (hq:ZV w (.agg #[iQ q0,.bool q1,.slice q2 q3 q4]) q) (hr:ZV w (.agg #[iQ r0,.bool r1,.slice r2 r3 r4]) r) :
  Two w0 ((w.alloc (.cells #[iQ q0,.bool q1,.slice q2 q3 q4] t)).alloc (.cells #[iQ r0,.bool r1,.slice r2 r3 r4] t)) w.heap.size (w.heap.size+1) q r:=by
 have h1:=ZIn.made t (hr.l (x1 w (.cells #[iQ q0,.bool q1,.slice q2 q3 q4] t)));simp only [World.size_alloc] at h1;exact ⟨X.size,Nat.le_succ_of_le X.size,by omega,(ZIn.made t hq).l (x1 _ _),h1,xa (xa X _) _⟩
theorem two2 (X:Ext w0 w) (hq:ZV w (.agg #[iQ q0,.bool q1,.slice q2 q3 q4]) q) (hr:ZV w (.agg #[iQ r0,.bool r1,.slice r2 r3 r4]) r) :
  Two w0 ((w.alloc (.cells #[iQ r0,.bool r1,.slice r2 r3 r4] t)).alloc (.cells #[iQ q0,.bool q1,.slice q2 q3 q4] t)) (w.heap.size+1) w.heap.size q r:=by
 have h1:=ZIn.made t (hq.l (x1 w (.cells #[iQ r0,.bool r1,.slice r2 r3 r4] t)));simp only [World.size_alloc] at h1;exact ⟨Nat.le_succ_of_le X.size,X.size,by omega,h1,(ZIn.made t hr).l (x1 _ _),xa (xa X _) _⟩
theorem Box3.zin {b:Nat} (h:Box3 w b (iQ 0) (.bool false) (.slice none 0 0)):ZIn w b 0:=⟨_,_,_,_,_,h,ZV.small (by decide) (by decide)⟩
theorem Box3.lt {b:Nat} {v0 v1 v2:Value} (h:Box3 w b v0 v1 v2):b<w.heap.size:=World.block_lt_of_cell? _ _ h.1.1
theorem two5 (X:Ext w0 w) (hq:ZV w (.agg #[iQ q0,.bool q1,.slice q2 q3 q4]) q) (hr:ZV w (.agg #[iQ r0,.bool r1,.slice r2 r3 r4]) r) {b c:Nat} (hb:Box3 w b (iQ 0) (.bool false) (.slice none 0 0)) (hc:Box3 w c (iQ 0) (.bool false) (.slice none 0 0)) (b0:w0.heap.size<=b) (c0:w0.heap.size<=c) (hne:b ≠ c) :
  Two w0 (set3 (set3 w b (iQ q0) (.bool q1) (.slice q2 q3 q4)) c (iQ r0) (.bool r1) (.slice r2 r3 r4)) b c q r:=by
 have k1:=hb.zin.put hq;have k2:=hc.zin.far hb.zin hne (iQ q0) (.bool q1) (.slice q2 q3 q4);exact ⟨b0,c0,hne,k1.far k2 hne.symm _ _ _,k2.put (hr.set3 hb _ _ _),Ext.set3 (Ext.set3 X b0 _ _ _) c0 _ _ _⟩
theorem two3 (X:Ext w0 w) (hq:ZV w (.agg #[iQ q0,.bool q1,.slice q2 q3 q4]) q) (hr:ZV w (.agg #[iQ r0,.bool r1,.slice r2 r3 r4]) r) {b:Nat} (hb:Box3 w b (iQ 0) (.bool false) (.slice none 0 0)) (b0:w0.heap.size<=b) :
  Two w0 (set3 (set3 (w.alloc (.cells #[iQ 0,.bool false,.slice none 0 0] t)) b (iQ q0) (.bool q1) (.slice q2 q3 q4)) w.heap.size (iQ r0) (.bool r1) (.slice r2 r3 r4)) b w.heap.size q r:=
 two5 (xa X _) (hq.l (x1 _ _)) (hr.l (x1 _ _)) (hb.l (x1 _ _)) (Box3.made w _ _ _ t) b0 X.size (Nat.ne_of_lt hb.lt)
theorem two4 (X:Ext w0 w) (hq:ZV w (.agg #[iQ q0,.bool q1,.slice q2 q3 q4]) q) (hr:ZV w (.agg #[iQ r0,.bool r1,.slice r2 r3 r4]) r) {b:Nat} (hb:Box3 w b (iQ 0) (.bool false) (.slice none 0 0)) (b0:w0.heap.size<=b) :
  Two w0 (set3 (w.alloc (.cells #[iQ q0,.bool q1,.slice q2 q3 q4] t)) b (iQ r0) (.bool r1) (.slice r2 r3 r4)) w.heap.size b q r:=by
 have k1:=(hb.l (x1 w (.cells #[iQ q0,.bool q1,.slice q2 q3 q4] t))).zin;exact ⟨X.size,b0,(Nat.ne_of_lt hb.lt).symm,(ZIn.made t hq).far k1 (Nat.ne_of_lt hb.lt) _ _ _,k1.put (hr.l (x1 _ _)),Ext.set3 (xa X _) b0 _ _ _⟩
end
theorem zJD (x y c:Int) (hx:0<=x) (hy:0<=y) (h0:0<=c) (hc:c<=1) (w:World) :
  (callFunc 222 #[.int .u64 x,.int .u64 y,.int .u64 c]).run Tryz.prog w=.ok (.value (.tuple #[.int .u64 ((x+y+c) % 18446744073709551616),.int .u64 ((x+y+c) / 18446744073709551616)])) w:=by
 rw [run_callFunc_extern Tryz.func222 (by kernel_rfl) (by kernel_rfl) (by kernel_rfl) (e:=add64Entry) (by kernel_rfl),run_add64 x y c hx hy h0 hc];rfl
theorem zIO (x y c:Nat) (hc:c<=1) (w:World) :
  (callFunc 253 #[.int .u64 x,.int .u64 y,.int .u64 c]).run Tryz.prog w=.ok (.value (.tuple #[.int .u64 (((x+18446744073709551616 - y - c) % 18446744073709551616:Nat):Int),.int .u64 ((if x<y+c then 1 else 0:Nat):Int)])) w:=by
 rw [run_callFunc_extern Tryz.func253 (by kernel_rfl) (by kernel_rfl) (by kernel_rfl) (e:=sub64Entry) (by kernel_rfl),run_sub64 x y c hc];rfl
theorem zTX {l l':Nat} (h2:l<18446744073709551616) (h2':l'<18446744073709551616):∃ S C:Nat,S<18446744073709551616/\C<=1/\C * 18446744073709551616+S=l+l':=by
 by_cases h:l+l'<18446744073709551616
 ·exact ⟨l+l',0,h,by omega,by omega⟩
 ·exact ⟨l+l' - 18446744073709551616,1,by omega,by omega,by omega⟩
theorem zTY {a b h l h' l' S C:Nat} (e1:h * 18446744073709551616+l=a) (e2:h' * 18446744073709551616+l'=b) (hSC:C * 18446744073709551616+S=l+l') (hlt:a+b<340282366920938463463374607431768211456):h+h'+C<18446744073709551616/\(h+h'+C) * 18446744073709551616+S=a+b:=by
 omega
theorem zQ7 {l l':Nat} (h2:l<18446744073709551616) (h2':l'<18446744073709551616):∃ S C:Nat,S<18446744073709551616/\C<=1/\S+l'=l+C * 18446744073709551616/\(l+18446744073709551616 - l' - 0) % 18446744073709551616=S/\(if l<l'+0 then 1 else 0)=C:=by
 by_cases h:l<l'
 ·exact ⟨l+18446744073709551616 - l',1,by omega,by omega,by omega,by omega,by rw [if_pos (by omega)]⟩
 ·exact ⟨l - l',0,by omega,by omega,by omega,by omega,by rw [if_neg (by omega)]⟩
theorem zQ6 {A B D l l' S a b:Nat} (e1:A+B+D+l=a) (e2:A+l'=b) (hSC:S+l'=l+B):D+S=a - b:=by omega
theorem zQ8 {a b h l h' l' S C:Nat} (e1:h * 18446744073709551616+l=a) (e2:h' * 18446744073709551616+l'=b) (hS:S<18446744073709551616) (hC:C<=1) (h1:h<18446744073709551616) (hSC:S+l'=l+C * 18446744073709551616) (hlt:b<=a) :
  ∃ H:Nat,H<18446744073709551616/\(h+18446744073709551616 - h' - C) % 18446744073709551616=H/\(if h<h'+C then 1 else 0)=0/\H * 18446744073709551616+S=a - b:=by
 have hc:h'+C<=h:=by omega
 obtain ⟨H,rfl⟩:∃ H,h=h'+C+H:=⟨h - h' - C,by omega⟩;have e3:h'+C+H+18446744073709551616 - h' - C=H+18446744073709551616:=by omega
 refine ⟨H,by omega,by rw [e3,Nat.add_mod_right,Nat.mod_eq_of_lt (by omega)],by rw [if_neg (by omega)],?_⟩;rw [Nat.add_mul,Nat.add_mul] at e1;exact zQ6 e1 e2 hSC
theorem zFN {v u:Value} {a b:Nat} (w:World) (hv:WV v a) (hu:WV u b) (hlt:a+b<340282366920938463463374607431768211456) :
  Calls Tryz.prog 196 #[v,u] w fun e w'=>∃ v',e=.returned v'/\WV v' (a+b)/\Ext w w':=by
 obtain ⟨h,l,rfl,h1,h2,e1⟩:=hv;obtain ⟨h',l',rfl,h1',h2',e2⟩:=hu;obtain ⟨S,C,hS,hC,hSC⟩:=zTX h2 h2';obtain ⟨c1,c2⟩:=zTY e1 e2 hSC hlt;have A1:∀ w,(callFunc 222 #[.int .u64 l,.int .u64 l',.int .u64 0]).run Tryz.prog w=.ok (.value (.tuple #[.int .u64 S,.int .u64 C])) w:=fun w=>by
  rw [zJD l l' 0 (by omega) (by omega) (by omega) (by omega)];have r1:((l:Int)+l'+0) % 18446744073709551616=S:=by omega
  have r2:((l:Int)+l'+0) / 18446744073709551616=C:=by omega
  rw [r1,r2]
 obtain ⟨H,hH⟩:∃ H:Nat,h+h'+C=H:=⟨_,rfl⟩;rw [hH] at c1 c2;have A2:∀ w,(callFunc 222 #[.int .u64 h,.int .u64 h',.int .u64 C]).run Tryz.prog w=.ok (.value (.tuple #[.int .u64 H,.int .u64 0])) w:=fun w=>by
  rw [zJD h h' C (by omega) (by omega) (by omega) (by omega)];have r1:((h:Int)+h'+C) % 18446744073709551616=H:=by omega
  have r2:((h:Int)+h'+C) / 18446744073709551616=0:=by omega
  rw [r1,r2]
 have HW:Hid (WV (.agg #[.int .u64 H,.int .u64 S]) (a+b)):=⟨H,S,rfl,c1,hS,c2⟩;clear e1 e2 hSC hH hlt h1 h2 h1' h2' hS hC c1 c2;go_enter Tryz.func196,Tryz.ntmps196
 go_wp2
 exact bodyPost_ret (v:=.agg #[.int .u64 H,.int .u64 S]) (by simp [results,Tryz.results196,go_sem]) rfl ⟨_,rfl,HW.out,xa (xa (x1 _ _) _) _⟩
theorem zII {v u:Value} {a b:Nat} (w:World) (hv:WV v a) (hu:WV u b) (hlt:b<=a) :
  Calls Tryz.prog 244 #[v,u] w fun e w'=>∃ v',e=.returned v'/\WV v' (a - b)/\Ext w w':=by
 obtain ⟨h,l,rfl,h1,h2,e1⟩:=hv;obtain ⟨h',l',rfl,h1',h2',e2⟩:=hu;obtain ⟨S,C,hS,hC,hSC,r1,r2⟩:=zQ7 h2 h2';obtain ⟨H,c1,r3,r4,c2⟩:=zQ8 e1 e2 hS hC h1 hSC hlt;have A1:∀ w,(callFunc 253 #[.int .u64 l,.int .u64 l',.int .u64 0]).run Tryz.prog w=.ok (.value (.tuple #[.int .u64 S,.int .u64 C])) w:=fun w=>by
  have:=zIO l l' 0 (by omega) w;rw [r1,r2] at this;exact this
 have A2:∀ w,(callFunc 253 #[.int .u64 h,.int .u64 h',.int .u64 C]).run Tryz.prog w=.ok (.value (.tuple #[.int .u64 H,.int .u64 0])) w:=fun w=>by
  have:=zIO h h' C hC w;rw [r3,r4] at this;exact this
 have HW:Hid (WV (.agg #[.int .u64 H,.int .u64 S]) (a - b)):=⟨H,S,rfl,c1,hS,c2⟩;clear e1 e2 hSC hlt h1 h2 h1' h2' hS hC r1 r2 r3 r4 c1 c2;go_enter Tryz.func244,Tryz.ntmps244
 go_wp2
 exact bodyPost_ret (v:=.agg #[.int .u64 H,.int .u64 S]) (by simp [results,Tryz.results244,go_sem]) rfl ⟨_,rfl,HW.out,xa (xa (x1 _ _) _) _⟩
def zFJ (last:Nat) (more:Bool):Nat:=if 5<last\/last=5/\more=true then 3 else if last=5 then 2 else if 0<last\/more=true then 1 else 0
theorem zUN (P:Nat) (more:Bool):zFJ (P % 10) more=zCL P 1 more:=by
 unfold zFJ zCL;rw [Nat.pow_one];generalize P % 10=l;have e1:(5<l\/l=5/\more=true) ↔ (10<2 * l\/2 * l=10/\more=true):=by
  constructor <;> (intro h;rcases h with h | h)
  ·exact .inl (by omega)
  ·exact .inr ⟨by omega,h.2⟩
  ·exact .inl (by omega)
  ·exact .inr ⟨by omega,h.2⟩
 have e2:l=5 ↔ 2 * l=10:=by omega
 simp only [e1,<- e2]
theorem zBO (l:Nat) (more:Bool) (w:World) :
  Calls Tryz.prog 195 #[.int .u64 l,.bool more] w fun e w'=>e=.returned (iQ (zFJ l more))/\w'=w:=by
 have H:Hid (∀ k:Nat,((5<l\/l=5/\more=true)/\k=3\/l=5/\more=false/\k=2\/l<5/\(0<l\/more=true)/\k=1\/l=0/\more=false/\k=0)->(k:Int)=zFJ l more):=fun k h=>by
  unfold zFJ;cases more <;> simp at h <;> simp <;> (repeat' split) <;> omega
 cases more
 ·go_enter Tryz.func195,Tryz.ntmps195
  go_wp2
  all_goals go_ret
  all_goals refine ⟨zA8 ?_,rfl⟩
  all_goals first | rfl | exact H.out 3 (by simp;omega) | exact H.out 2 (by simp;omega) | exact H.out 1 (by simp;omega) | exact H.out 0 (by simp;omega)
 ·go_enter Tryz.func195,Tryz.ntmps195
  go_wp2
  all_goals go_ret
  all_goals refine ⟨zA8 ?_,rfl⟩
  all_goals first | rfl | exact H.out 3 (by simp;omega) | exact H.out 2 (by simp;omega) | exact H.out 1 (by simp;omega) | exact H.out 0 (by simp;omega)
theorem zOG (odd:Bool) (r:Nat) (w:World) :
  Calls Tryz.prog 188 #[.bool odd,iQ r] w fun e w'=>e=.returned (.bool (zAV 0 odd r))/\w'=w:=by
 by_cases h3:r=3
 ·subst h3;go_enter Tryz.func188,Tryz.ntmps188
  go_wp2
  go_ret;exact ⟨rfl,rfl⟩
 ·by_cases h2:r=2
  ·subst h2;cases odd
   all_goals
    go_enter Tryz.func188,Tryz.ntmps188
    go_wp2
    go_ret;exact ⟨rfl,rfl⟩
  ·have H:Hid (zAV 0 odd r=false):=by simp [zAV,Hid,h3,h2]
   have c3:(((r:Int)) == 3)=false:=by rw [beq_eq_false_iff_ne];omega
   have c2:(((r:Int)) == 2)=false:=by rw [beq_eq_false_iff_ne];omega
   clear h2 h3;go_enter Tryz.func188,Tryz.ntmps188
   go_wp2
   go_ret;exact ⟨zA5 H.out.symm,rfl⟩
theorem zOI (odd:Bool) (r:Nat) (w:World) :
  Calls Tryz.prog 190 #[.bool odd,iQ r] w fun e w'=>e=.returned (.bool (zAV 1 odd r))/\w'=w:=by
 have H:Hid (zAV 1 odd r=decide (2<=r)):=rfl;go_enter Tryz.func190,Tryz.ntmps190
 go_wp2
 all_goals go_ret
 all_goals refine ⟨zA5 ?_,rfl⟩
 all_goals (rw [H.out];rw [Bool.eq_iff_iff];simp) <;> omega
theorem zOH (odd:Bool) (r:Nat) (w:World) :
  Calls Tryz.prog 191 #[.bool odd,iQ r] w fun e w'=>e=.returned (.bool (zAV 2 odd r))/\w'=w:=by
 have H:Hid (zAV 2 odd r=false):=rfl;go_enter Tryz.func191,Tryz.ntmps191
 go_wp2
 all_goals go_ret
 all_goals exact ⟨zA5 H.out.symm,rfl⟩
theorem zUA (odd:Bool) (r:Nat) (w:World) :
  Calls Tryz.prog 192 #[.bool odd,iQ r] w fun e w'=>e=.returned (.bool (zAV 3 odd r))/\w'=w:=by
 have H:Hid (zAV 3 odd r=decide (r ≠ 0)):=rfl;go_enter Tryz.func192,Tryz.ntmps192
 go_wp2
 all_goals go_ret
 all_goals refine ⟨zA5 ?_,rfl⟩
 all_goals (rw [H.out];rw [Bool.eq_iff_iff];simp)
abbrev resV (r:DR):Value:=.agg #[.bool r.ok,.bool r.neg,iQ r.d,iQ r.e]
theorem fit_at {neg:Bool} {P d:Nat} {e x:Int} (h0:P ≠ 0) (h:zAK P e=(d,x)) :
  resV (fitR neg P e)=if 300<x then .agg #[.bool false,.bool false,iQ 0,iQ 0] else if x < -300 then .agg #[.bool true,.bool false,iQ 0,iQ 0] else .agg #[.bool true,.bool neg,iQ d,iQ x]:=by
 unfold fitR;rw [if_neg h0,h];by_cases h1:300<x
 ·rw [if_pos h1,if_pos h1]
 ·rw [if_neg h1,if_neg h1];by_cases h2:x < -300
  ·rw [if_pos h2,if_pos h2]
  ·rw [if_neg h2,if_neg h2]
theorem zJ3 (neg:Bool) (P:Nat) (e:Int) (w:World) (hP:P<9223372036854775808) (e0 : -100000<=e) (e1:e<=100000) :
  Calls Tryz.prog 189 #[.bool neg,.int .u64 P,iQ e] w fun r w'=>r=.returned (resV (fitR neg P e))/\Ext w w':=by
 by_cases h0:P=0
 ·subst h0;have H:Hid (resV (fitR neg 0 e)=.agg #[.bool true,.bool false,iQ 0,iQ 0]):=rfl;go_enter Tryz.func189,Tryz.ntmps189
  go_wp2
  exact bodyPost_ret (v:=.agg #[.bool true,.bool false,iQ 0,iQ 0]) (by simp [results,Tryz.results189,go_sem]) rfl ⟨by rw [H.out],x1 _ _⟩
 ·have c0:(((P:Int)) == 0)=false:=by rw [beq_eq_false_iff_ne];omega
  have ST:Hid (∀ (d:Nat) (x:Int),zAK d x=zAK P e->d % 10 ≠ 0->resV (fitR neg P e)=if 300<x then .agg #[.bool false,.bool false,iQ 0,iQ 0] else if x < -300 then .agg #[.bool true,.bool false,iQ 0,iQ 0] else .agg #[.bool true,.bool neg,iQ d,iQ x]):=fun d x h hd=>fit_at h0 (by rw [<- h,zDL hd]);have hn:nd P<=19:=zIC (by omega);have HN:=hid hn;clear hn;go_enter Tryz.func189,Tryz.ntmps189;go_wp2_with fail
  go_loop [1,2] (fun v x=>∃ (d:Nat) (y:Int),d ≠ 0/\d<9223372036854775808/\y - e+nd d=nd P/\v=.int .u64 d/\x=.int .i64 y/\zAK d y=zAK P e) (fun v _=>(intOf v).toNat)
  case atStart=>exact ⟨P,e,h0,hP,by omega,rfl,rfl,rfl⟩
  case round =>
   obtain ⟨d,y,d0,d1,hle,rfl,rfl,hs⟩:=hrel;have y0:y<=100020:=by have:=HN.out;omega
   have y1 : -100020<=y:=by
    have:nd d<=19:=zIC (by omega);omega
   by_cases hm:d % 10=0
   ·have cm:(((d:Int)) % 10 == 0)=true:=(by rw [beq_iff_eq];omega);have HS:Hid (zAK (d / 10) (y+1)=zAK P e/\d / 10 ≠ 0/\y+1 - e+nd (d / 10)=nd P):=by
     have:=zIX d0;exact ⟨by rw [<- zB1 d0 hm];exact hs,by omega,by omega⟩
    have hd:Hid (((d:Int)) / 10=((d / 10:Nat):Int)):=(by show _=_;omega);clear hs hle c0 h0;go_wp2_with fail
    go_round
    case rel=>exact ⟨d / 10,y+1,HS.out.2.1,by omega,HS.out.2.2,by rw [<- hd.out],rfl,HS.out.1⟩
    case measure=>simp [intOf];omega
   ·have cm:(((d:Int)) % 10 == 0)=false:=(by rw [beq_eq_false_iff_ne];omega);have HR:=ST.out d y hs hm;have d0':(0:Int)<=(d:Int):=(by omega);clear hs hle c0 h0 ST hm d0;by_cases h1:300<y
    ·rw [if_pos h1] at HR;have H:=hid HR;clear HR
     go_wp2
     exact bodyPost_ret (v:=.agg #[.bool false,.bool false,iQ 0,iQ 0]) (by simp [results,Tryz.results189,go_sem]) rfl ⟨by rw [H.out],x1 _ _⟩
    ·rw [if_neg h1] at HR;by_cases h2:y < -300
     ·rw [if_pos h2] at HR;have H:=hid HR;clear HR
      go_wp2
      exact bodyPost_ret (v:=.agg #[.bool true,.bool false,iQ 0,iQ 0]) (by simp [results,Tryz.results189,go_sem]) rfl ⟨by rw [H.out],x1 _ _⟩
     ·rw [if_neg h2] at HR;have H:=hid HR;clear HR
      go_wp2
      exact bodyPost_ret (v:=.agg #[.bool true,.bool neg,iQ d,iQ y]) (by simp [results,Tryz.results189,go_sem]) rfl ⟨by rw [H.out],x1 _ _⟩
end Go.Proofs.YtjlojlgdkfpcdaaGreatDoor

namespace Go.Proofs.YtjlojlgdkfpcdaaGreatDoor
def zC3 (a b u n q r:Int):Prop:=
 q * a+r=u/\(∀ t,0<=t->t * (a * 4294967296+b)<=u * 4294967296+n->t<=q)/\0<=q/\q<=4294967297/\0<=r/\r<4294967296
def zCT (a b u n q:Int):Prop:=q=(u * 4294967296+n) / (a * 4294967296+b)/\0<=q/\q<4294967296
def zDB (a b u n:Int):Prop:=2147483648<=a/\a<4294967296/\0<=b/\b<4294967296/\0<=u/\u<a * 4294967296+b/\0<=n/\n<4294967296
theorem zC3.start {a b u n:Int} (h:zDB a b u n):zC3 a b u n (u / a) (u % a):=by
 obtain ⟨a0,a1,b0,b1,u0,u1,n0,n1⟩:=h;have hq:0<=u / a:=Int.ediv_nonneg u0 (by omega);refine ⟨by rw [Int.mul_comm];exact Int.mul_ediv_add_emod u a,?_,hq,?_,Int.emod_nonneg _ (by omega),Int.lt_trans (Int.emod_lt_of_pos _ (by omega)) a1⟩
 ·intro t t0 ht;refine (Int.le_ediv_iff_mul_le (by omega)).2 ?_;have h1:t * (a * 4294967296+b)=t * a * 4294967296+t * b:=by rw [Int.mul_add,Int.mul_assoc]
  have h2:0<=t * b:=Int.mul_nonneg t0 b0;generalize t * a=p at *;omega
 ·have h3:u / a<4294967298:=by
   refine (Int.ediv_lt_iff_lt_mul (by omega)).2 ?_;omega
  omega
theorem zC3.pos {a b u n q r:Int} (h:zC3 a b u n q r) (hi:zDB a b u n) (hc:4294967296<=q\/r * 4294967296+n<q * b):1<=q:=by
 obtain ⟨h1,h2,h3,h4,h5,h6⟩:=h;by_cases e:q=0
 ·subst e;have:=hi.2.2.2.2.2.2.1;simp at hc;omega
 ·omega
theorem zNU {a b u n t:Int} (hi:zDB a b u n) (ht:t * (a * 4294967296+b)<=u * 4294967296+n):t<4294967296:=by
 obtain ⟨a0,a1,b0,b1,u0,u1,n0,n1⟩:=hi;by_cases e:t<4294967296
 ·exact e
 ·have h1:4294967296 * (a * 4294967296+b)<=t * (a * 4294967296+b):=Int.mul_le_mul_of_nonneg_right (by omega) (by omega);generalize t * (a * 4294967296+b)=p at *;omega
theorem zC3.less {a b u n q r:Int} (h:zC3 a b u n q r) (hi:zDB a b u n) (hc:4294967296<=q\/r * 4294967296+n<q * b):(q - 1) * a+(r+a)=u/\∀ t,0<=t->t * (a * 4294967296+b)<=u * 4294967296+n->t<=q - 1:=by
 obtain ⟨h1,h2,h3,h4,h5,h6⟩:=h;refine ⟨by rw [Int.sub_mul];omega,?_⟩;intro t t0 ht;have:=h2 t t0 ht;by_cases e:t=q
 ·subst e;exfalso
  rcases hc with hc | hc
  ·have:=zNU hi ht;omega
  ·have e1:t * (a * 4294967296+b)=t * a * 4294967296+t * b:=by rw [Int.mul_add,Int.mul_assoc]
   generalize t * a=p at *;generalize t * b=s at *;omega
 ·omega
theorem zLA {a b u n q:Int} (hi:zDB a b u n) (q0:0<=q) (hub:∀ t,0<=t->t * (a * 4294967296+b)<=u * 4294967296+n->t<=q) (hle:q * (a * 4294967296+b)<=u * 4294967296+n):zCT a b u n q:=by
 refine ⟨?_,q0,zNU hi hle⟩;obtain ⟨a0,a1,b0,b1,u0,u1,n0,n1⟩:=hi;have hY:0<a * 4294967296+b:=by omega
 have h1:q<=(u * 4294967296+n) / (a * 4294967296+b):=(Int.le_ediv_iff_mul_le hY).2 hle;have h2:=hub ((u * 4294967296+n) / (a * 4294967296+b)) (by omega) (Int.ediv_mul_le _ (by omega));omega
theorem zC3.stop {a b u n q r:Int} (h:zC3 a b u n q r) (hi:zDB a b u n) (hc:¬ (r * 4294967296+n<q * b)):zCT a b u n q:=by
 obtain ⟨h1,h2,h3,h4,h5,h6⟩:=h;refine zLA hi h3 h2 ?_;have e1:q * (a * 4294967296+b)=q * a * 4294967296+q * b:=by rw [Int.mul_add,Int.mul_assoc]
 generalize q * a=p at *;generalize q * b=s at *;omega
theorem zC3.next {a b u n q r:Int} (h:zC3 a b u n q r) (hi:zDB a b u n) (hc:4294967296<=q\/r * 4294967296+n<q * b) (hr:r+a<4294967296):zC3 a b u n (q - 1) (r+a):=by
 have hp:=h.pos hi hc;obtain ⟨l1,l2⟩:=h.less hi hc;have:=hi.1;have h3:=h.2.2.2;exact ⟨l1,l2,by omega,by omega,by omega,hr⟩
theorem zC3.last {a b u n q r:Int} (h:zC3 a b u n q r) (hi:zDB a b u n) (hc:4294967296<=q\/r * 4294967296+n<q * b) (hr:4294967296<=r+a):zCT a b u n (q - 1):=by
 have hp:=h.pos hi hc;obtain ⟨l1,l2⟩:=h.less hi hc;refine zLA hi (by omega) l2 ?_;obtain ⟨a0,a1,b0,b1,u0,u1,n0,n1⟩:=hi;have h4:=h.2.2.2.1;have e1:(q - 1) * (a * 4294967296+b)=(q - 1) * a * 4294967296+(q - 1) * b:=by rw [Int.mul_add,Int.mul_assoc]
 have e2:(q - 1) * b<=4294967296 * b:=Int.mul_le_mul_of_nonneg_right (by omega) b0;generalize (q - 1) * a=p at *;generalize (q - 1) * b=s at *;omega
theorem zCT.rest {a b u n q:Int} (h:zCT a b u n q) (hi:zDB a b u n):0<=u * 4294967296+n - q * (a * 4294967296+b)/\u * 4294967296+n - q * (a * 4294967296+b)<a * 4294967296+b:=by
 obtain ⟨rfl,_,_⟩:=h;obtain ⟨a0,a1,b0,b1,u0,u1,n0,n1⟩:=hi;have hY:0<a * 4294967296+b:=by omega
 have e:=Int.mul_ediv_add_emod (u * 4294967296+n) (a * 4294967296+b);have:=Int.emod_nonneg (u * 4294967296+n) (b:=a * 4294967296+b) (by omega);have:=Int.emod_lt_of_pos (u * 4294967296+n) hY;rw [Int.mul_comm] at e;omega
theorem zPV {V y S a b u n1 n0 q1 q0 u':Int} (hS:0<S) (hy:0<y) (hY:y * S=a * 4294967296+b) (hU:V * S=u * 18446744073709551616+n1 * 4294967296+n0)
  (hu':u'=u * 4294967296+n1 - q1 * (a * 4294967296+b)) (hi':zDB a b u' n0) (h2:zCT a b u' n0 q0) :
  q1 * 4294967296+q0=V / y/\(u' * 4294967296+n0 - q0 * (a * 4294967296+b)) / S=V % y:=by
 obtain ⟨r0,r1⟩:=h2.rest hi';obtain ⟨R,hR⟩:=nm (u' * 4294967296+n0 - q0 * (a * 4294967296+b));rw [hR] at r0 r1 ⊢;rw [<- hY] at hu' hR r1;have e1:V * S=(q1 * 4294967296+q0) * y * S+R:=by
  rw [hU,<- hR,hu',Int.add_mul,Int.add_mul,Int.mul_assoc q0 y S,Int.mul_right_comm q1 4294967296 y,Int.mul_right_comm (q1 * y) 4294967296 S,Int.mul_assoc q1 y S];generalize q1 * (y * S)=p1;generalize q0 * (y * S)=p0;omega
 have e2:(V - (q1 * 4294967296+q0) * y) * S=R:=by rw [Int.sub_mul];omega
 obtain ⟨r,hr⟩:=nm (V - (q1 * 4294967296+q0) * y);rw [hr] at e2;have r2:0<=r:=by
  by_cases h:0<=r
  ·exact h
  ·have:r * S <= -1 * S:=Int.mul_le_mul_of_nonneg_right (by omega) (by omega);omega
 have r3:r<y:=(Int.mul_lt_mul_right hS).1 (by omega);have e3:V=r+y * (q1 * 4294967296+q0):=by rw [Int.mul_comm y];omega
 constructor
 ·rw [e3,Int.add_mul_ediv_left _ _ (by omega),Int.ediv_eq_zero_of_lt r2 r3];omega
 ·rw [e3,Int.add_mul_emod_self_left,Int.emod_eq_of_lt r2 r3,<- e2,Int.mul_ediv_cancel _ (by omega)]
theorem zW3 {hi lo y n s:Nat} (hns:n+s=64) (hn:1<=n) (h1:hi<y) (yl:2 ^ (n - 1)<=y) (yu:y<2 ^ n) (l1:lo<18446744073709551616) :
  9223372036854775808<=y * 2 ^ s/\y * 2 ^ s<18446744073709551616/\hi * 2 ^ s<18446744073709551616/\(hi * 2 ^ s ||| lo / 2 ^ n)=hi * 2 ^ s+lo / 2 ^ n/\hi * 2 ^ s+lo / 2 ^ n<y * 2 ^ s /\
   (hi * 18446744073709551616+lo) * 2 ^ s=(hi * 2 ^ s+lo / 2 ^ n) * 18446744073709551616+lo * 2 ^ s % 18446744073709551616:=by
 have e1:2 ^ n * 2 ^ s=18446744073709551616:=by rw [<- Nat.pow_add,hns]
 have e2:2 ^ (n - 1) * 2 ^ s=9223372036854775808:=by rw [<- Nat.pow_add,show n - 1+s=63 by omega]
 have hT:0<2 ^ s:=Nat.pow_pos (by decide);have hN:0<2 ^ n:=Nat.pow_pos (by decide);have a1:2 ^ (n - 1) * 2 ^ s<=y * 2 ^ s:=Nat.mul_le_mul_right _ yl;have a2:y * 2 ^ s<2 ^ n * 2 ^ s:=Nat.mul_lt_mul_of_pos_right yu hT;have a3:(hi+1) * 2 ^ s<=y * 2 ^ s:=Nat.mul_le_mul_right _ h1;rw [Nat.add_mul,Nat.one_mul] at a3;have a4:lo / 2 ^ n<2 ^ s:=Nat.div_lt_of_lt_mul (by rw [e1];exact l1);refine ⟨by omega,by omega,by omega,?_,by omega,?_⟩
 ·rw [Nat.mul_comm hi];exact (Nat.two_pow_add_eq_or_of_lt a4 hi).symm
 ·have a5:=Nat.div_add_mod lo (2 ^ n);have a6:=Nat.mod_lt lo hN;have a7:lo % 2 ^ n * 2 ^ s<2 ^ n * 2 ^ s:=Nat.mul_lt_mul_of_pos_right a6 hT;have a8:lo * 2 ^ s=lo / 2 ^ n * 18446744073709551616+lo % 2 ^ n * 2 ^ s:=by
   rw [<- e1,<- Nat.mul_assoc,<- Nat.add_mul,Nat.mul_comm (lo / 2 ^ n)];rw [a5]
  have a9:lo * 2 ^ s % 18446744073709551616=lo % 2 ^ n * 2 ^ s:=by rw [a8];omega
  rw [a9,Nat.add_mul,a8,Nat.add_mul,Nat.mul_right_comm];omega
end Go.Proofs.YtjlojlgdkfpcdaaGreatDoor

