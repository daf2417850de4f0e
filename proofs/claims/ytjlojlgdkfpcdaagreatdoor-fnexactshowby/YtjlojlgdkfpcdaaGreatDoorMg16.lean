/-
  Several texts in one: AddZ, ZTwo.
-/
import Derived.Test.YtjlojlgdkfpcdaaGreatDoorMg14
import Derived.Test.YtjlojlgdkfpcdaaGreatDoorMg15
import Derived.Test.YtjlojlgdkfpcdaaGreatDoorMg5
namespace Go.Proofs.YtjlojlgdkfpcdaaGreatDoor
open Go.RowKit
theorem add_same {a b:Int} (h:decide (a<0)=decide (b<0)):sgn (decide (a<0)) ((a.natAbs:Int)+(b.natAbs:Int))=a+b:=by
 by_cases ha:a<0
 ·have hb:b<0:=by rw [decide_eq_true ha] at h;exact of_decide_eq_true h.symm
  simp [sgn,ha];omega
 ·have hb:¬ b<0:=by rw [decide_eq_false ha] at h;exact of_decide_eq_false h.symm
  simp [sgn,ha];omega
theorem add_left {a b:Int} (h:decide (a<0) ≠ decide (b<0)):sgn (decide (a<0)) ((a.natAbs:Int) - (b.natAbs:Int))=a+b:=by
 by_cases ha:a<0
 ·have hb:¬ b<0:=fun hb=>h (by rw [decide_eq_true ha,decide_eq_true hb]);simp [sgn,ha];omega
 ·have hb:b<0:=by
   by_cases hb:b<0
   ·exact hb
   ·exact absurd (by rw [decide_eq_false ha,decide_eq_false hb]) h
  simp [sgn,ha];omega
theorem add_right {a b:Int} (h:decide (a<0) ≠ decide (b<0)):sgn (decide (b<0)) ((b.natAbs:Int) - (a.natAbs:Int))=a+b:=by
 rw [add_left h.symm];omega
set_option maxRecDepth 4000 in
set_option maxHeartbeats 2000000 in
theorem add_big {va vb:Value} {a b:Int} (w:World) (ha:ZV w va a) (hb:ZV w vb b) (hbig:(smallB a && smallB b)=false) (k:Nat) (hk:k≤100000000) (ka:(a.natAbs:Int)<1000000000 ^ k) (kb:(b.natAbs:Int)<1000000000 ^ k) :
  Calls Tryz.prog 116 #[va,vb] w fun e w'=>∃ v',e=.returned v'∧ZV w' v' (a+b)∧Ext w w':=by
 obtain ⟨c0,c1,pa,na,ca,rfl⟩:=ha.shape;obtain ⟨d0,d1,pb,nb,cb,rfl⟩:=hb.shape;have IA:Hid (∀ w2,Ext w w2→Calls Tryz.prog 153 #[.agg #[.int .i64 c0,.bool c1,.slice pa na ca]] w2 fun e w'=>e=.returned (.bool (smallB a))∧Ext w2 w'):=fun w2 x=>isSmall_any w2 (ha.later x);have IB:Hid (∀ w2,Ext w w2→Calls Tryz.prog 153 #[.agg #[.int .i64 d0,.bool d1,.slice pb nb cb]] w2 fun e w'=>e=.returned (.bool (smallB b))∧Ext w2 w'):=fun w2 x=>isSmall_any w2 (hb.later x);obtain ⟨sa,hsa⟩:∃ s,decide (a<0)=s:=⟨_,rfl⟩;obtain ⟨sb,hsb⟩:∃ s,decide (b<0)=s:=⟨_,rfl⟩;have NA:Hid (∀ w2,Ext w w2→Calls Tryz.prog 110 #[.agg #[.int .i64 c0,.bool c1,.slice pa na ca]] w2 fun e w'=>e=.returned (.bool sa)∧Ext w2 w'):=fun w2 x=>neg_is sa w2 hsa (ha.later x);have NB:Hid (∀ w2,Ext w w2→Calls Tryz.prog 110 #[.agg #[.int .i64 d0,.bool d1,.slice pb nb cb]] w2 fun e w'=>e=.returned (.bool sb)∧Ext w2 w'):=fun w2 x=>neg_is sb w2 hsb (hb.later x);have LA:Hid (∀ w2,Ext w w2→Calls Tryz.prog 152 #[.agg #[.int .i64 c0,.bool c1,.slice pa na ca]] w2 fun e w'=>∃ v' xs,e=.returned v'∧Hid (Row w' v' xs∧Lim xs∧Top xs∧lv xs=(a.natAbs:Int)∧xs.length≤k)∧Ext w2 w'):=fun w2 x=>by
  refine (limbs_any w2 (ha.later x)).mono ?_;rintro e w' ⟨v',rfl,⟨xs,h1,h2,h3,h4⟩,hx⟩;exact ⟨v',xs,rfl,⟨h1,h2,h3,h4,len_le h2 h3 (by rw [h4];exact ka)⟩,hx⟩
 have LB:Hid (∀ w2,Ext w w2→Calls Tryz.prog 152 #[.agg #[.int .i64 d0,.bool d1,.slice pb nb cb]] w2 fun e w'=>∃ v' xs,e=.returned v'∧Hid (Row w' v' xs∧Lim xs∧Top xs∧lv xs=(b.natAbs:Int)∧xs.length≤k)∧Ext w2 w'):=fun w2 x=>by
  refine (limbs_any w2 (hb.later x)).mono ?_;rintro e w' ⟨v',rfl,⟨xs,h1,h2,h3,h4⟩,hx⟩;exact ⟨v',xs,rfl,⟨h1,h2,h3,h4,len_le h2 h3 (by rw [h4];exact kb)⟩,hx⟩
 have MK:Hid (∀ (w2:World) (s:Bool) (v:Value) (xs:List Int),Row w2 v xs→Lim xs→Calls Tryz.prog 155 #[.bool s,v] w2 fun e w'=>∃ z0 z1 p n c,e=.returned (.agg #[.int .i64 z0,.bool z1,.slice p n c])∧ZV w' (.agg #[.int .i64 z0,.bool z1,.slice p n c]) (sgn s (lv xs))∧Ext w2 w'):=fun w2 s v xs h1 h2=>by
  refine (make_any s w2 h1 h2).mono ?_;rintro e w' ⟨v',rfl,hz,hx⟩;obtain ⟨z0,z1,p,n,c,rfl⟩:=hz.shape;exact ⟨z0,z1,p,n,c,rfl,hz,hx⟩
 have SAME:Hid (sa=sb→sgn sa ((a.natAbs:Int)+(b.natAbs:Int))=a+b):=fun h=>by rw [← hsa,← hsb] at h;rw [← hsa];exact add_same h
 have LEFT:Hid (sa ≠ sb→sgn sa ((a.natAbs:Int) - (b.natAbs:Int))=a+b):=fun h=>by rw [← hsa,← hsb] at h;rw [← hsa];exact add_left h
 have RIGHT:Hid (sa ≠ sb→sgn sb ((b.natAbs:Int) - (a.natAbs:Int))=a+b):=fun h=>by rw [← hsa,← hsb] at h;rw [← hsb];exact add_right h
 have Ba:=(Box3.made w (.int .i64 c0) (.bool c1) (.slice pa na ca) 103).later (xa (x1 _ (.cells #[.int .i64 d0,.bool d1,.slice pb nb cb] 103)) (.cells #[.int .i64 0,.bool false,.slice none 0 0] 103));have Bb:=(Box3.made (w.alloc (.cells #[.int .i64 c0,.bool c1,.slice pa na ca] 103)) (.int .i64 d0) (.bool d1) (.slice pb nb cb) 103).later (x1 _ (.cells #[.int .i64 0,.bool false,.slice none 0 0] 103));have Br:=Box3.made ((w.alloc (.cells #[.int .i64 c0,.bool c1,.slice pa na ca] 103)).alloc (.cells #[.int .i64 d0,.bool d1,.slice pb nb cb] 103)) (.int .i64 0) (.bool false) (.slice none 0 0) 103;have X0:=xa (xa (x1 w (.cells #[.int .i64 c0,.bool c1,.slice pa na ca] 103)) (.cells #[.int .i64 d0,.bool d1,.slice pb nb cb] 103)) (.cells #[.int .i64 0,.bool false,.slice none 0 0] 103);simp only [World.size_alloc] at Bb Br;clear ha hb ka kb hsa hsb;go_enter Tryz.func116,Tryz.ntmps116;go_upto_region 1 with fail;obtain ⟨w0,hw0⟩:∃ u,((w.alloc (.cells #[.int .i64 c0,.bool c1,.slice pa na ca] 103)).alloc (.cells #[.int .i64 d0,.bool d1,.slice pb nb cb] 103)).alloc (.cells #[.int .i64 0,.bool false,.slice none 0 0] 103)=u:=⟨_,rfl⟩;rw [hw0] at Ba Bb Br X0 ⊢;clear hw0;go_cut [12] (fun v wc=>v=.bool false∧Ext w0 wc)
 case first =>
  have Ba':=Ba;obtain ⟨⟨p0,p1,p2⟩,_⟩:=Ba';go_wp2_with fail;refine (IA.out _ X0).mono ?_;rintro e w1 ⟨rfl,e1⟩;obtain ⟨⟨q0,q1,q2⟩,_⟩:=Bb.later e1;cases ea:smallB a
  ·go_wp2_with fail;go_meet
   case rel=>exact ⟨rfl,e1⟩
  ·have eb:smallB b=false:=by rw [ea] at hbig;exact hbig
   go_wp2_with fail;refine (IB.out _ (xt X0 e1)).mono ?_;rintro e w2 ⟨rfl,e2⟩;rw [eb];go_wp2_with fail;go_meet
   case rel=>exact ⟨rfl,xt e1 e2⟩
 case rest =>
  obtain ⟨rfl,X1⟩:=hcut
  rename World=>w1
  replace Ba:=Ba.later X1;replace Bb:=Bb.later X1;replace Br:=Br.later X1;replace X1:=xt X0 X1;have Ba':=Ba;obtain ⟨⟨p0,p1,p2⟩,_⟩:=Ba';clear X0 IA IB hbig;go_wp2_with fail;refine (LA.out _ X1).mono ?_;rintro e w2 ⟨vx,xs,rfl,HX,e2⟩;replace Ba:=Ba.later e2;replace Bb:=Bb.later e2;replace Br:=Br.later e2;replace X1:=xt X1 e2;have Bb':=Bb;obtain ⟨⟨p3,p4,p5⟩,_⟩:=Bb';clear p0 p1 p2;go_wp2_with fail;refine (LB.out _ X1).mono ?_;rintro e w3 ⟨vy,ys,rfl,HY,e3⟩;replace Ba:=Ba.later e3;replace Bb:=Bb.later e3;replace Br:=Br.later e3;replace X1:=xt X1 e3;have HX3:Hid (Row w3 vx xs∧Lim xs∧Top xs∧lv xs=(a.natAbs:Int)∧xs.length≤k):=⟨HX.out.1.later e3,HX.out.2⟩;clear p3 p4 p5 e2 HX LA LB;have Ba':=Ba;have Bb':=Bb;obtain ⟨⟨p0,p1,p2⟩,_⟩:=Ba';obtain ⟨⟨p3,p4,p5⟩,_⟩:=Bb';go_upto_region 5 with fail;go_cut [27] (fun v wc=>v=.bool (decide (sa=sb))∧Ext w3 wc)
  case first =>
   go_region_held3 (fun w'=>(w'.cell? ⟨w.heap.size,0,none⟩=some (.int .i64 c0)∧w'.cell? ⟨w.heap.size,1,none⟩=some (.bool c1)∧w'.cell? ⟨w.heap.size,2,none⟩=some (.slice pa na ca))∧w'.cell? ⟨w.heap.size+1,0,none⟩=some (.int .i64 d0)∧w'.cell? ⟨w.heap.size+1,1,none⟩=some (.bool d1)∧w'.cell? ⟨w.heap.size+1,2,none⟩=some (.slice pb nb cb)) (go_keep) (first
    | (go_at_call_of 110 (Value.agg #[.int .i64 c0,.bool c1,.slice pa na ca]);refine (NA.out _ (xt X1 (xd (xr _)))).mono ?_;rintro e w4 ⟨rfl,e4⟩;have X4:Ext w3 w4:=xt (xd (xr _)) e4;obtain ⟨⟨a40,a41,a42⟩,_⟩:=Ba.later X4;obtain ⟨⟨b40,b41,b42⟩,_⟩:=Bb.later X4)
    | (go_at_call_of 110 (Value.agg #[.int .i64 d0,.bool d1,.slice pb nb cb]);refine (NB.out _ (xt X1 X4)).mono ?_;rintro e w5 ⟨rfl,e5⟩;have X5:Ext w3 w5:=xt X4 e5;obtain ⟨⟨a50,a51,a52⟩,_⟩:=Ba.later X5;obtain ⟨⟨b50,b51,b52⟩,_⟩:=Bb.later X5))
   go_wp2_with fail;go_meet
   case rel=>exact ⟨by cases sa <;> cases sb <;> rfl,X5⟩
  case rest =>
   obtain ⟨rfl,X4⟩:=hcut
   rename World=>w4
   replace Ba:=Ba.later X4;replace Bb:=Bb.later X4;replace Br:=Br.later X4;replace X1:=xt X1 X4;have HX4:Hid (Row w4 vx xs∧Lim xs∧Top xs∧lv xs=(a.natAbs:Int)∧xs.length≤k):=⟨HX3.out.1.later X4,HX3.out.2⟩;have HY4:Hid (Row w4 vy ys∧Lim ys∧Top ys∧lv ys=(b.natAbs:Int)∧ys.length≤k):=⟨HY.out.1.later X4,HY.out.2⟩;obtain ⟨⟨p0',p1',p2'⟩,_⟩:=Ba;have Bb':=Bb;obtain ⟨⟨p3',p4',p5'⟩,_⟩:=Bb';clear p0 p1 p2 p3 p4 p5 HX3 HY X4;by_cases hs:sa=sb
   ·have hs':decide (sa=sb)=true:=decide_eq_true hs;have HS:Hid (sgn sa ((a.natAbs:Int)+(b.natAbs:Int))=a+b):=SAME.out hs;rw [hs'];clear hs hs' SAME LEFT RIGHT NB p3' p4' p5';go_wp2_with fail;refine (NA.out _ X1).mono ?_;rintro e w5 ⟨rfl,e5⟩;go_wp2_with fail;refine (addD_any _ (HX4.out.1.later e5) (HY4.out.1.later e5) HX4.out.2.1 HY4.out.2.1 (by have:=HX4.out.2.2.2.2;omega) (by have:=HY4.out.2.2.2.2;omega)).mono ?_;rintro e w6 ⟨v6,fs,rfl,F1,F2,F3,e6⟩;have FV:Hid _:=F3;clear F3;go_wp2_with fail;refine (MK.out _ _ _ _ F1 F2).mono ?_;rintro e w7 ⟨f0,f1,f2,f3,f4,rfl,hz7,e7⟩;rw [FV.out,HX4.out.2.2.2.1,HY4.out.2.2.2.1,HS.out] at hz7;have B7:=((Br.later e5).later e6).later e7;have HZ:Hid (ZV (set3 w7 (w.heap.size+1+1) (.int .i64 f0) (.bool f1) (.slice f2 f3 f4)) (.agg #[.int .i64 f0,.bool f1,.slice f2 f3 f4]) (a+b)∧Ext w (set3 w7 (w.heap.size+1+1) (.int .i64 f0) (.bool f1) (.slice f2 f3 f4))):=⟨hz7.set3 B7 _ _ _,Ext.set3 (xt (xt (xt X1 e5) e6) e7) (by omega) _ _ _⟩;obtain ⟨⟨r0,r1,r2⟩,s0,s1,s2⟩:=B7;clear hz7 F1 F2 p0' p1' p2';go_wp2_with fail;exact bodyPost_ret (v:=.agg #[.int .i64 f0,.bool f1,.slice f2 f3 f4]) (by simp [results,Tryz.results116,go_sem,r0,r1,r2]) rfl ⟨_,rfl,HZ.out.1,HZ.out.2⟩
   ·have hs':decide (sa=sb)=false:=decide_eq_false hs;have HSL:Hid (sgn sa ((a.natAbs:Int) - (b.natAbs:Int))=a+b):=LEFT.out hs;have HSR:Hid (sgn sb ((b.natAbs:Int) - (a.natAbs:Int))=a+b):=RIGHT.out hs;rw [hs'];clear hs hs' SAME LEFT RIGHT;go_wp2_with fail;by_cases hlt:lv xs<lv ys
    ·refine (cmp_is (-1) (cmpI_lt hlt) _ HX4.out.1 HY4.out.1 HX4.out.2.1 HY4.out.2.1 HX4.out.2.2.1 HY4.out.2.2.1).mono ?_;rintro e w5 ⟨rfl,e5⟩;have HL:Hid (lv xs≤lv ys∧xs.length≤ys.length):=⟨by omega,len_mono HX4.out.2.1 HY4.out.2.1 HX4.out.2.2.1 (by omega)⟩;obtain ⟨⟨q0,q1,q2⟩,_⟩:=Bb.later e5;clear hlt NA p0' p1' p2' p3' p4' p5' HSL;go_wp2_with fail;refine (NB.out _ (xt X1 e5)).mono ?_;rintro e w6 ⟨rfl,e6⟩;go_wp2_with fail;refine (subD_any _ ((HY4.out.1.later e5).later e6) ((HX4.out.1.later e5).later e6) HY4.out.2.1 HX4.out.2.1 (by have:=HY4.out.2.2.2.2;omega) HL.out.2 HL.out.1).mono ?_;rintro e w7 ⟨v7,fs,rfl,F1,F2,F3,_,e7,kq,cq,rfl⟩;have FV:Hid _:=F3;clear F3;go_wp2_with fail;refine (MK.out _ _ _ _ F1 F2).mono ?_;rintro e w8 ⟨f0,f1,f2,f3,f4,rfl,hz7,e8⟩;rw [FV.out,HX4.out.2.2.2.1,HY4.out.2.2.2.1,HSR.out] at hz7;have B7:=(((Br.later e5).later e6).later e7).later e8;have HZ:Hid (ZV (set3 w8 (w.heap.size+1+1) (.int .i64 f0) (.bool f1) (.slice f2 f3 f4)) (.agg #[.int .i64 f0,.bool f1,.slice f2 f3 f4]) (a+b)∧Ext w (set3 w8 (w.heap.size+1+1) (.int .i64 f0) (.bool f1) (.slice f2 f3 f4))):=⟨hz7.set3 B7 _ _ _,Ext.set3 (xt (xt (xt (xt X1 e5) e6) e7) e8) (by omega) _ _ _⟩;obtain ⟨⟨r0,r1,r2⟩,s0,s1,s2⟩:=B7;clear hz7 F1 F2 q0 q1 q2;go_wp2_with fail;exact bodyPost_ret (v:=.agg #[.int .i64 f0,.bool f1,.slice f2 f3 f4]) (by simp [results,Tryz.results116,go_sem,r0,r1,r2]) rfl ⟨_,rfl,HZ.out.1,HZ.out.2⟩
    ·refine (cmpD_any _ HX4.out.1 HY4.out.1 HX4.out.2.1 HY4.out.2.1 HX4.out.2.2.1 HY4.out.2.2.1).mono ?_;rintro e w5 ⟨rfl,e5⟩;obtain ⟨cc,hcc,cc0⟩:∃ c,cmpI (lv xs) (lv ys)=c∧0≤c:=⟨_,rfl,cmpI_pos hlt⟩;rw [hcc];have HL:Hid (lv ys≤lv xs∧ys.length≤xs.length):=⟨by omega,len_mono HY4.out.2.1 HX4.out.2.1 HY4.out.2.2.1 (by omega)⟩;have q0:=cell_later e5 p0';have q1:=cell_later e5 p1';have q2:=cell_later e5 p2';clear hlt NB p0' p1' p2' p3' p4' p5' HSR hcc;go_wp2_with fail;refine (NA.out _ (xt X1 e5)).mono ?_;rintro e w6 ⟨rfl,e6⟩;go_wp2_with fail;refine (subD_any _ ((HX4.out.1.later e5).later e6) ((HY4.out.1.later e5).later e6) HX4.out.2.1 HY4.out.2.1 (by have:=HX4.out.2.2.2.2;omega) HL.out.2 HL.out.1).mono ?_;rintro e w7 ⟨v7,fs,rfl,F1,F2,F3,_,e7,kq,cq,rfl⟩;have FV:Hid _:=F3;clear F3;go_wp2_with fail;refine (MK.out _ _ _ _ F1 F2).mono ?_;rintro e w8 ⟨f0,f1,f2,f3,f4,rfl,hz7,e8⟩;rw [FV.out,HX4.out.2.2.2.1,HY4.out.2.2.2.1,HSL.out] at hz7;have B7:=(((Br.later e5).later e6).later e7).later e8;have HZ:Hid (ZV (set3 w8 (w.heap.size+1+1) (.int .i64 f0) (.bool f1) (.slice f2 f3 f4)) (.agg #[.int .i64 f0,.bool f1,.slice f2 f3 f4]) (a+b)∧Ext w (set3 w8 (w.heap.size+1+1) (.int .i64 f0) (.bool f1) (.slice f2 f3 f4))):=⟨hz7.set3 B7 _ _ _,Ext.set3 (xt (xt (xt (xt X1 e5) e6) e7) e8) (by omega) _ _ _⟩;obtain ⟨⟨r0,r1,r2⟩,s0,s1,s2⟩:=B7;clear hz7 F1 F2 q0 q1 q2;go_wp2_with fail;exact bodyPost_ret (v:=.agg #[.int .i64 f0,.bool f1,.slice f2 f3 f4]) (by simp [results,Tryz.results116,go_sem,r0,r1,r2]) rfl ⟨_,rfl,HZ.out.1,HZ.out.2⟩
theorem add_any {va vb:Value} {a b:Int} (w:World) (ha:ZV w va a) (hb:ZV w vb b) (k:Nat) (hk:k≤100000000) (ka:(a.natAbs:Int)<1000000000 ^ k) (kb:(b.natAbs:Int)<1000000000 ^ k) :
  Calls Tryz.prog 116 #[va,vb] w fun e w'=>∃ v',e=.returned v'∧ZV w' v' (a+b)∧Ext w w':=by
 cases h:(smallB a && smallB b)
 ·exact add_big w ha hb h k hk ka kb
 ·rw [Bool.and_eq_true] at h;exact add_smallZ w ha hb h.1 h.2
def ndZ (a:Nat):Nat:=if a=0 then 1 else nd a
theorem TextOf.len {l:List UInt8} {z:Int} (h:TextOf l z) (z0:0≤z):l.length=ndZ z.toNat:=by
 unfold ndZ
 rcases h with ⟨rfl,rfl⟩ | ⟨ds,hd,rfl⟩
 ·rfl
 ·have hz:¬ z<0:=by omega
  rw [if_neg hz,List.nil_append,List.length_map,List.length_reverse];have h1:=hd.ge;have h2:=hd.lt;have hp:(0:Int)<10 ^ (ds.length - 1):=Int.pow_pos (by decide);rw [if_neg (by omega)];have e:((z.toNat:Nat):Int)=(z.natAbs:Int):=by omega
  refine (nd_eq ?_ (.inr ?_)).symm
  ·have:((z.toNat:Nat):Int)<((10 ^ ds.length:Nat):Int):=by rw [e,Int.natCast_pow];exact h2
   exact_mod_cast this
  ·have:((10 ^ (ds.length - 1):Nat):Int)≤((z.toNat:Nat):Int):=by rw [e,Int.natCast_pow];exact h1
   exact_mod_cast this
set_option maxRecDepth 4000 in
set_option maxHeartbeats 1000000 in
theorem digits_any {v:Value} {z:Int} (w:World) (h:ZV w v z) (z0:0≤z) (k:Nat) (hk:k≤1000000000) (kz:z<1000000000 ^ k) :
  Calls Tryz.prog 112 #[v] w fun e w'=>e=.returned (.int .i64 (ndZ z.toNat))∧Ext w w':=by
 obtain ⟨c0,c1,p,n,c,rfl⟩:=h.shape;have hn:decide (z<0)=false:=by simpa using z0
 have NA:Hid (∀ w2,Ext w w2→Calls Tryz.prog 110 #[.agg #[.int .i64 c0,.bool c1,.slice p n c]] w2 fun e w'=>e=.returned (.bool false)∧Ext w2 w'):=fun w2 x=>neg_is false w2 hn (h.later x);have TX:Hid (∀ w2,Ext w w2→Calls Tryz.prog 91 #[.agg #[.int .i64 c0,.bool c1,.slice p n c]] w2 fun e w'=>∃ l:List UInt8,e=.returned (.string ⟨l.toArray⟩)∧Hid (l.length=ndZ z.toNat)∧Ext w2 w'):=fun w2 x=>by
  refine (text_any w2 (h.later x) k hk (by rw [nat_ab z0];exact kz)).mono ?_;rintro e w' ⟨l,rfl,ht,hx⟩;exact ⟨l,rfl,ht.len z0,hx⟩
 have B:=Box3.made w (.int .i64 c0) (.bool c1) (.slice p n c) 103;clear h kz hn;go_enter Tryz.func112,Tryz.ntmps112;go_wp2_with fail;refine (TX.out _ (x1 _ _)).mono ?_;rintro e w1 ⟨l,rfl,hl,e1⟩;obtain ⟨⟨p0,p1,p2⟩,_⟩:=B.later e1;go_wp2_with fail;refine (NA.out _ (xt (x1 _ _) e1)).mono ?_;rintro e w2 ⟨rfl,e2⟩;clear p0 p1 p2;go_wp2_with fail;go_ret;refine ⟨ret_int ?_,xt (xt (x1 _ _) e1) e2⟩;have:=hl.out;omega
def Two (w0 w:World) (b c:Nat) (q r:Int):Prop:=w0.heap.size≤b∧w0.heap.size≤c∧b ≠ c∧ZIn w b q∧ZIn w c r∧Ext w0 w
section
variable {w0 w:World} {q r:Int} {q0:Int} {q1:Bool} {q2:Option Addr} {q3 q4:Nat} {r0:Int} {r1:Bool} {r2:Option Addr} {r3 r4:Nat} {t:TypeId}
theorem two1 (X:Ext w0 w) (hq:ZV w (.agg #[.int .i64 q0,.bool q1,.slice q2 q3 q4]) q) (hr:ZV w (.agg #[.int .i64 r0,.bool r1,.slice r2 r3 r4]) r) :
  Two w0 ((w.alloc (.cells #[.int .i64 q0,.bool q1,.slice q2 q3 q4] t)).alloc (.cells #[.int .i64 r0,.bool r1,.slice r2 r3 r4] t)) w.heap.size (w.heap.size+1) q r:=by
 have h1:=ZIn.made t (hr.later (x1 w (.cells #[.int .i64 q0,.bool q1,.slice q2 q3 q4] t)));simp only [World.size_alloc] at h1;exact ⟨X.size,Nat.le_succ_of_le X.size,by omega,(ZIn.made t hq).later (x1 _ _),h1,xa (xa X _) _⟩
theorem two2 (X:Ext w0 w) (hq:ZV w (.agg #[.int .i64 q0,.bool q1,.slice q2 q3 q4]) q) (hr:ZV w (.agg #[.int .i64 r0,.bool r1,.slice r2 r3 r4]) r) :
  Two w0 ((w.alloc (.cells #[.int .i64 r0,.bool r1,.slice r2 r3 r4] t)).alloc (.cells #[.int .i64 q0,.bool q1,.slice q2 q3 q4] t)) (w.heap.size+1) w.heap.size q r:=by
 have h1:=ZIn.made t (hq.later (x1 w (.cells #[.int .i64 r0,.bool r1,.slice r2 r3 r4] t)));simp only [World.size_alloc] at h1;exact ⟨Nat.le_succ_of_le X.size,X.size,by omega,h1,(ZIn.made t hr).later (x1 _ _),xa (xa X _) _⟩
theorem Box3.zin {b:Nat} (h:Box3 w b (.int .i64 0) (.bool false) (.slice none 0 0)):ZIn w b 0:=⟨_,_,_,_,_,h,ZV.small (by decide) (by decide)⟩
theorem Box3.lt {b:Nat} {v0 v1 v2:Value} (h:Box3 w b v0 v1 v2):b<w.heap.size:=World.block_lt_of_cell? _ _ h.1.1
theorem two5 (X:Ext w0 w) (hq:ZV w (.agg #[.int .i64 q0,.bool q1,.slice q2 q3 q4]) q) (hr:ZV w (.agg #[.int .i64 r0,.bool r1,.slice r2 r3 r4]) r) {b c:Nat} (hb:Box3 w b (.int .i64 0) (.bool false) (.slice none 0 0)) (hc:Box3 w c (.int .i64 0) (.bool false) (.slice none 0 0)) (b0:w0.heap.size≤b) (c0:w0.heap.size≤c) (hne:b ≠ c) :
  Two w0 (set3 (set3 w b (.int .i64 q0) (.bool q1) (.slice q2 q3 q4)) c (.int .i64 r0) (.bool r1) (.slice r2 r3 r4)) b c q r:=by
 have k1:=hb.zin.put hq;have k2:=hc.zin.far hb.zin hne (.int .i64 q0) (.bool q1) (.slice q2 q3 q4);exact ⟨b0,c0,hne,k1.far k2 hne.symm _ _ _,k2.put (hr.set3 hb _ _ _),Ext.set3 (Ext.set3 X b0 _ _ _) c0 _ _ _⟩
theorem two3 (X:Ext w0 w) (hq:ZV w (.agg #[.int .i64 q0,.bool q1,.slice q2 q3 q4]) q) (hr:ZV w (.agg #[.int .i64 r0,.bool r1,.slice r2 r3 r4]) r) {b:Nat} (hb:Box3 w b (.int .i64 0) (.bool false) (.slice none 0 0)) (b0:w0.heap.size≤b) :
  Two w0 (set3 (set3 (w.alloc (.cells #[.int .i64 0,.bool false,.slice none 0 0] t)) b (.int .i64 q0) (.bool q1) (.slice q2 q3 q4)) w.heap.size (.int .i64 r0) (.bool r1) (.slice r2 r3 r4)) b w.heap.size q r:=
 two5 (xa X _) (hq.later (x1 _ _)) (hr.later (x1 _ _)) (hb.later (x1 _ _)) (Box3.made w _ _ _ t) b0 X.size (Nat.ne_of_lt hb.lt)
theorem two4 (X:Ext w0 w) (hq:ZV w (.agg #[.int .i64 q0,.bool q1,.slice q2 q3 q4]) q) (hr:ZV w (.agg #[.int .i64 r0,.bool r1,.slice r2 r3 r4]) r) {b:Nat} (hb:Box3 w b (.int .i64 0) (.bool false) (.slice none 0 0)) (b0:w0.heap.size≤b) :
  Two w0 (set3 (w.alloc (.cells #[.int .i64 q0,.bool q1,.slice q2 q3 q4] t)) b (.int .i64 r0) (.bool r1) (.slice r2 r3 r4)) w.heap.size b q r:=by
 have k1:=(hb.later (x1 w (.cells #[.int .i64 q0,.bool q1,.slice q2 q3 q4] t))).zin;exact ⟨X.size,b0,(Nat.ne_of_lt hb.lt).symm,(ZIn.made t hq).far k1 (Nat.ne_of_lt hb.lt) _ _ _,k1.put (hr.later (x1 _ _)),Ext.set3 (xa X _) b0 _ _ _⟩
end
end Go.Proofs.YtjlojlgdkfpcdaaGreatDoor

