/-
  Several texts in one: SuM, ReadNum, IntNum, IntI, Qx, Vc.
-/
import Derived.Test.YtjlojlgdkfpcdaaGreatDoorSuA
import Derived.Test.YtjlojlgdkfpcdaaGreatDoorMg16
import Derived.Test.YtjlojlgdkfpcdaaGreatDoorMg18
import Derived.Test.YtjlojlgdkfpcdaaGreatDoorMg9
import Derived.Test.YtjlojlgdkfpcdaaGreatDoorMg0
import Derived.Test.YtjlojlgdkfpcdaaGreatDoorMg6
import Derived.Deep.RegionHeld3
import Derived.Deep.RegionWith
import Derived.Deep.DeepCutAuto
import Derived.Deep.CutBlock
import Derived.BigQuiet
import Derived.Test.YtjlojlgdkfpcdaaGreatDoorMg1
set_option maxRecDepth 8000
set_option maxHeartbeats 4000000
namespace Go.Proofs.YtjlojlgdkfpcdaaGreatDoor
open Go.RowKit
theorem zQZ {na nb:Bool} {ea db eb:Int} (gb:zA1 nb db eb=true):sumE na 0 ea nb db eb=⟨true,nb,db,eb⟩:=by
 obtain ⟨g0,g1,g2,g3,g4,g5⟩:=zAN gb;unfold sumE;rw [if_pos rfl];have:(if db=0 then eb else eb)=eb:=by split <;> rfl
 rw [this];exact zN2 g0 g1 g4 (fun h=>⟨g5 h,g2,g3⟩)
theorem zOP {na nb:Bool} {da ea eb:Int} (ga:zA1 na da ea=true) (hd:da ≠ 0):sumE na da ea nb 0 eb=⟨true,na,da,ea⟩:=by
 obtain ⟨g0,g1,g2,g3,g4,g5⟩:=zAN ga;unfold sumE;rw [if_neg hd,if_pos rfl,zN5];exact zN2 g0 g1 g4 (fun h=>⟨g5 h,g2,g3⟩)
theorem zR0 {na nb:Bool} {da ea db eb:Int} (ha:da ≠ 0) (hb:db ≠ 0):sumE na da ea nb db eb=sumZ na da ea nb db eb:=by
 unfold sumE;rw [if_neg ha,if_neg hb]
theorem addI (na nb:Bool) (da ea db eb:Int) (w:World) (a1 : -9223372036854775808<=da) (a2:da<=9223372036854775807) (b1 : -9223372036854775808<=db) (b2:db<=9223372036854775807) (hT:Tens w) :
  Calls Tryz.prog 218 #[.agg #[.bool na,iQ da,iQ ea],.agg #[.bool nb,iQ db,iQ eb]] w fun r w'=>r=.returned (resV (addR na da ea nb db eb))/\Ext w w':=by
 obtain ⟨R,hR⟩:=nm (addR na da ea nb db eb);rw [hR];have X0:=xa (xa (x1 w (.cells #[.bool na,iQ da,iQ ea] 31)) (.cells #[.bool nb,iQ db,iQ eb] 31)) (.cells #[.bool false,.bool false,iQ 0,iQ 0] 99);have Ba:=(Box3.made w (.bool na) (iQ da) (iQ ea) 31).l (xa (x1 _ (.cells #[.bool nb,iQ db,iQ eb] 31)) (.cells #[.bool false,.bool false,iQ 0,iQ 0] 99));have Bb:=(Box3.made (w.alloc (.cells #[.bool na,iQ da,iQ ea] 31)) (.bool nb) (iQ db) (iQ eb) 31).l (x1 _ (.cells #[.bool false,.bool false,iQ 0,iQ 0] 99));have Br:=Box4.made ((w.alloc (.cells #[.bool na,iQ da,iQ ea] 31)).alloc (.cells #[.bool nb,iQ db,iQ eb] 31)) (.bool false) (.bool false) (iQ 0) (iQ 0) 99;simp only [World.size_alloc] at Bb Br;have T:=hT.l X0;clear hT;go_enter Tryz.func218,Tryz.ntmps218;go_wp2_with fail;cases ga:zA1 na da ea
 ·have HR:Hid (R=⟨false,false,0,0⟩):=by rw [<- hR];unfold addR;rw [ga];rfl
  refine (zC9 false na da ea _ a1 a2 T ga).mono ?_;rintro r w1 ⟨rfl,x1'⟩;obtain ⟨⟨m0,m1,m2,m3⟩,n0,n1,n2,n3⟩:=Br.l x1';clear ga hR;go_wp2_with fail;exact bodyPost_ret (v:=.agg #[.bool false,.bool false,iQ 0,iQ 0]) (by simp [results,Tryz.results218,go_sem,m0,m1,m2,m3]) rfl ⟨by rw [HR.out],xset (xset (xset (xset (xt X0 x1') (by simp only;omega) _) (by simp only;omega) _) (by simp only;omega) _) (by simp only;omega) _⟩
 ·refine (zC9 true na da ea _ a1 a2 T ga).mono ?_;rintro r w1 ⟨rfl,x1'⟩;have Bb1:=Bb.l x1';have Bb1':=Bb1;obtain ⟨⟨q0,q1,q2⟩,_⟩:=Bb1';go_wp2_with fail;cases gb:zA1 nb db eb
  ·have HR:Hid (R=⟨false,false,0,0⟩):=by rw [<- hR];unfold addR;rw [ga,gb];rfl
   refine (zC9 false nb db eb _ b1 b2 (T.l x1') gb).mono ?_;rintro r w2 ⟨rfl,x2'⟩;obtain ⟨⟨m0,m1,m2,m3⟩,n0,n1,n2,n3⟩:=(Br.l x1').l x2';clear ga gb hR q0 q1 q2;go_wp2_with fail;exact bodyPost_ret (v:=.agg #[.bool false,.bool false,iQ 0,iQ 0]) (by simp [results,Tryz.results218,go_sem,m0,m1,m2,m3]) rfl ⟨by rw [HR.out],xset (xset (xset (xset (xt (xt X0 x1') x2') (by simp only;omega) _) (by simp only;omega) _) (by simp only;omega) _) (by simp only;omega) _⟩
  ·refine (zC9 true nb db eb _ b1 b2 (T.l x1') gb).mono ?_;rintro r w2 ⟨rfl,x2'⟩;have HR:sumE na da ea nb db eb=R:=by rw [<- hR];unfold addR;rw [ga,gb];rfl
   obtain ⟨ga0,ga1,ga2,ga3,ga4,ga5⟩:=zAN ga;obtain ⟨gb0,gb1,gb2,gb3,gb4,gb5⟩:=zAN gb;have X2:=xt (xt X0 x1') x2';have Ba2:=(Ba.l x1').l x2';have Bb2:=Bb1.l x2';have Br2:=(Br.l x1').l x2';have T2:=(T.l x1').l x2';obtain ⟨⟨p0,p1,p2⟩,_⟩:=Ba2;obtain ⟨⟨p3,p4,p5⟩,_⟩:=Bb2;clear q0 q1 q2 Ba Bb Bb1 Br T X0 x1' x2' a1 a2 b1 b2 hR;by_cases ha:da=0
   ·obtain ⟨rfl,rfl⟩:=ga4 ha;subst ha;rw [zQZ gb] at HR;subst HR;obtain ⟨⟨m0,m1,m2,m3⟩,n0,n1,n2,n3⟩:=Br2;clear ga gb ga0 ga1 ga2 ga3 ga4 ga5 gb0 gb1 gb2 gb3 gb4 gb5;go_wp2_with fail;exact bodyPost_ret (v:=.agg #[.bool true,.bool nb,iQ db,iQ eb]) (by simp [results,Tryz.results218,go_sem,m0,m1,m2,m3]) rfl ⟨rfl,xset (xset (xset (xset X2 (by simp only;omega) _) (by simp only;omega) _) (by simp only;omega) _) (by simp only;omega) _⟩
   ·by_cases hb:db=0
    ·obtain ⟨rfl,rfl⟩:=gb4 hb;subst hb;rw [zOP ga ha] at HR;subst HR;obtain ⟨⟨m0,m1,m2,m3⟩,n0,n1,n2,n3⟩:=Br2;have ha':(da == 0)=false:=(by rw [beq_eq_false_iff_ne];exact ha);clear ga gb ga0 ga1 ga2 ga3 ga4 ga5 gb0 gb1 gb2 gb3 gb4 gb5;cases na
     all_goals
      go_wp2_with fail;exact bodyPost_ret (v:=.agg #[.bool true,.bool _,iQ da,iQ ea]) (by simp [results,Tryz.results218,go_sem,m0,m1,m2,m3]) rfl ⟨rfl,xset (xset (xset (xset X2 (by simp only;omega) _) (by simp only;omega) _) (by simp only;omega) _) (by simp only;omega) _⟩
    ·rw [zR0 ha hb] at HR;obtain ⟨A,rfl⟩:=Int.eq_ofNat_of_zero_le ga0;obtain ⟨B,rfl⟩:=Int.eq_ofNat_of_zero_le gb0;have hA2:=ga5 ha;have hB2:=gb5 hb;have PS:Hid (∀ w3,Tens w3->Calls Tryz.prog 231 #[.agg #[.bool na,iQ A,iQ ea],.agg #[.bool nb,iQ B,iQ eb]] w3 fun r w'=>r=.returned (resV R)/\Ext w3 w'):=fun w3 hT=>by
      rw [<- HR];exact zP8 na nb A B ea eb w3 (by omega) (by omega) (by omega) (by omega) (by omega) (by omega) ga2 ga3 gb2 gb3 hT
     have ha':((A:Int) == 0)=false:=(by rw [beq_eq_false_iff_ne];exact ha);have hb':((B:Int) == 0)=false:=(by rw [beq_eq_false_iff_ne];exact hb);clear ga gb ga0 ga1 ga2 ga3 ga4 ga5 gb0 gb1 gb2 gb3 gb4 gb5 HR hA2 hB2 ha hb;cases na <;> cases nb
     all_goals
      go_wp2_with fail;refine (PS.out _ T2).mono ?_;rintro r w3 ⟨rfl,x3'⟩;obtain ⟨⟨m0,m1,m2,m3⟩,n0,n1,n2,n3⟩:=Br2.l x3';go_wp2_with fail;exact bodyPost_ret (v:=resV R) (by simp [results,Tryz.results218,go_sem,m0,m1,m2,m3]) rfl ⟨rfl,xset (xset (xset (xset (xt X2 x3') (by simp only;omega) _) (by simp only;omega) _) (by simp only;omega) _) (by simp only;omega) _⟩
def subR (na:Bool) (da ea:Int) (nb:Bool) (db eb:Int):DR:=addR na da ea (if db=0 then nb else !nb) db eb
theorem subI (na nb:Bool) (da ea db eb:Int) (w:World) (a1 : -9223372036854775808<=da) (a2:da<=9223372036854775807) (b1 : -9223372036854775808<=db) (b2:db<=9223372036854775807) (hT:Tens w) :
  Calls Tryz.prog 184 #[.agg #[.bool na,iQ da,iQ ea],.agg #[.bool nb,iQ db,iQ eb]] w fun r w'=>r=.returned (resV (subR na da ea nb db eb))/\Ext w w':=by
 obtain ⟨R,hR⟩:=nm (subR na da ea nb db eb);rw [hR];have X0:=xa (xa (x1 w (.cells #[.bool na,iQ da,iQ ea] 31)) (.cells #[.bool nb,iQ db,iQ eb] 31)) (.cells #[.bool false,.bool false,iQ 0,iQ 0] 99);have Ba:=(Box3.made w (.bool na) (iQ da) (iQ ea) 31).l (xa (x1 _ (.cells #[.bool nb,iQ db,iQ eb] 31)) (.cells #[.bool false,.bool false,iQ 0,iQ 0] 99));have Bb:=(Box3.made (w.alloc (.cells #[.bool na,iQ da,iQ ea] 31)) (.bool nb) (iQ db) (iQ eb) 31).l (x1 _ (.cells #[.bool false,.bool false,iQ 0,iQ 0] 99));have Br:=Box4.made ((w.alloc (.cells #[.bool na,iQ da,iQ ea] 31)).alloc (.cells #[.bool nb,iQ db,iQ eb] 31)) (.bool false) (.bool false) (iQ 0) (iQ 0) 99;simp only [World.size_alloc] at Bb Br;have T:=hT.l X0;by_cases hb:db=0
 ·have HR:addR na da ea nb db eb=R:=by rw [<- hR];unfold subR;rw [if_pos hb]
  have AD:Hid (∀ w2,Tens w2->Calls Tryz.prog 218 #[.agg #[.bool na,iQ da,iQ ea],.agg #[.bool nb,iQ db,iQ eb]] w2 fun r w'=>r=.returned (resV R)/\Ext w2 w'):=fun w2 hT=>by rw [<- HR];exact addI na nb da ea db eb w2 a1 a2 b1 b2 hT
  subst hb;clear hT HR hR a1 a2 b1 b2;go_enter Tryz.func184,Tryz.ntmps184;go_wp2_with fail;refine (AD.out _ T).mono ?_;rintro r w1 ⟨rfl,x1'⟩;obtain ⟨⟨m0,m1,m2,m3⟩,n0,n1,n2,n3⟩:=Br.l x1';go_wp2_with fail;exact bodyPost_ret (v:=resV R) (by simp [results,Tryz.results184,go_sem,m0,m1,m2,m3]) rfl ⟨rfl,xset (xset (xset (xset (xt X0 x1') (by simp only;omega) _) (by simp only;omega) _) (by simp only;omega) _) (by simp only;omega) _⟩
 ·have HR:addR na da ea (!nb) db eb=R:=by rw [<- hR];unfold subR;rw [if_neg hb]
  have AD:Hid (∀ w2,Tens w2->Calls Tryz.prog 218 #[.agg #[.bool na,iQ da,iQ ea],.agg #[.bool (!nb),iQ db,iQ eb]] w2 fun r w'=>r=.returned (resV R)/\Ext w2 w'):=fun w2 hT=>by rw [<- HR];exact addI na (!nb) da ea db eb w2 a1 a2 b1 b2 hT
  have hb':(db != 0)=true:=by rw [bne_iff_ne];exact hb
  have BN:Box3 ((((w.alloc (.cells #[.bool na,iQ da,iQ ea] 31)).alloc (.cells #[.bool nb,iQ db,iQ eb] 31)).alloc (.cells #[.bool false,.bool false,iQ 0,iQ 0] 99)).setCell ⟨w.heap.size+1,0,none⟩ (.bool (!nb))) (w.heap.size+1) (.bool (!nb)) (iQ db) (iQ eb):=by
   obtain ⟨⟨h0,h1,h2⟩,k0,k1,k2⟩:=Bb;refine ⟨⟨World.cell?_setCell_same _ _ _ h0,?_,?_⟩,?_,?_,?_⟩
   ·rw [World.cell?_setCell_other _ _ _ _ (zBC (by decide))];exact h1
   ·rw [World.cell?_setCell_other _ _ _ _ (zBC (by decide))];exact h2
   ·rw [World.frozen?_setCell];exact k0
   ·rw [World.frozen?_setCell];exact k1
   ·rw [World.frozen?_setCell];exact k2
  have BaN:=Ba.far (p:=⟨w.heap.size+1,0,none⟩) (by simp only;omega) (.bool (!nb));have BrN:=Br.far (p:=⟨w.heap.size+1,0,none⟩) (by simp only;omega) (.bool (!nb));have XN:=xset X0 (p:=⟨w.heap.size+1,0,none⟩) (by simp only;omega) (.bool (!nb));have TN:=hT.l XN;obtain ⟨w0,hw0⟩:=nm ((((w.alloc (.cells #[.bool na,iQ da,iQ ea] 31)).alloc (.cells #[.bool nb,iQ db,iQ eb] 31)).alloc (.cells #[.bool false,.bool false,iQ 0,iQ 0] 99)));rw [hw0] at BN BaN BrN XN TN Bb Ba;obtain ⟨⟨g0,g1,g2⟩,j0,j1,j2⟩:=Bb;obtain ⟨u0,hu0⟩:=nm (w0.setCell ⟨w.heap.size+1,0,none⟩ (.bool (!nb)));rw [hu0] at BN BaN BrN XN TN;obtain ⟨⟨p0,p1,p2⟩,_⟩:=BaN;obtain ⟨⟨p3,p4,p5⟩,_⟩:=BN;clear hT HR hR a1 a2 b1 b2 T X0 Ba Br;go_enter Tryz.func184,Tryz.ntmps184;go_wp2_with fail;refine (AD.out _ TN).mono ?_;rintro r w1 ⟨rfl,x1'⟩;obtain ⟨⟨m0,m1,m2,m3⟩,n0,n1,n2,n3⟩:=BrN.l x1';clear hw0 hu0 g0 g1 g2 j0 j1 j2 p0 p1 p2 p3 p4 p5;go_wp2_with fail;exact bodyPost_ret (v:=resV R) (by simp [results,Tryz.results184,go_sem,m0,m1,m2,m3]) rfl ⟨rfl,xset (xset (xset (xset (xt XN x1') (by simp only;omega) _) (by simp only;omega) _) (by simp only;omega) _) (by simp only;omega) _⟩
theorem fitK {P m k:Nat} (h:P<10 ^ m) (hm:m<=9 * k):(P:Int)<1000000000 ^ k:=by
 have h1:=zB3 hm;have h2:((10 ^ (9 * k):Nat):Int)=1000000000 ^ k:=by rw [Int.natCast_pow];exact pow9 k
 omega
theorem bndK {P m K:Nat} (hP:P<1000000000000000) (hm:m+15<=K):P * 10 ^ m<10 ^ K:=by
 have e15:(10:Nat) ^ 15=1000000000000000:=by decide
 have h1:P * 10 ^ m<10 ^ 15 * 10 ^ m:=Nat.mul_lt_mul_of_pos_right (by omega) (zA7 m);rw [<- Nat.pow_add] at h1;exact Nat.lt_of_lt_of_le h1 (zB3 (by omega))
theorem sumK {a b:Int} {K:Nat} (ha:a.natAbs<10 ^ K) (hb:b.natAbs<10 ^ K):(a+b).natAbs<10 ^ (K+1):=by
 rw [Nat.pow_succ];generalize 10 ^ K=G at *;omega
theorem zHH (n:Bool) (d:Nat) (m:Nat):(sgn n (d:Int) * 10 ^ m).natAbs=d * 10 ^ m:=by
 rw [Int.natAbs_mul,zCV,Int.natAbs_natCast,Int.natAbs_pow];rfl
theorem sgn_not (n m:Bool) (d:Int):(if m=true then -(sgn n d) else sgn n d)=sgn (n != m) d:=by cases n <;> cases m <;> simp [sgn]
theorem addS (na nb:Bool) (da ea db eb:Int) (minus:Bool) (w:World) (ga:zA1 na da ea=true) (gb:zA1 nb db eb=true) :
  Calls Tryz.prog 145 #[.agg #[.bool na,iQ da,iQ ea],.agg #[.bool nb,iQ db,iQ eb],.bool minus] w fun r w'=>r=.returned (resV (sumE na da ea (nb != minus) db eb))/\Ext w w':=by
 obtain ⟨KK,hKK⟩:∃ K:Nat,K=100:=⟨_,rfl⟩;obtain ⟨xa',hxa⟩:=nm ((if da=0 then eb else ea));obtain ⟨xb',hxb⟩:=nm ((if db=0 then xa' else eb));obtain ⟨R,hR⟩:=nm (sumE na da ea (nb != minus) db eb);rw [hR];have HR:Hid (sumZ na da xa' (nb != minus) db xb'=R):=by rw [<- hR];unfold sumE;rw [hxa,hxb];rfl
 obtain ⟨ga0,ga1,ga2,ga3,ga4,ga5⟩:=zAN ga;obtain ⟨gb0,gb1,gb2,gb3,gb4,gb5⟩:=zAN gb;have xa0 : -300<=xa'/\xa'<=300:=by rw [<- hxa];split <;> omega
 have xb0 : -300<=xb'/\xb'<=300:=by rw [<- hxb];split <;> omega
 obtain ⟨xa1,xa2⟩:=xa0;obtain ⟨xb1,xb2⟩:=xb0;obtain ⟨mn,hmn⟩:=nm (min xa' xb');have HA:Hid ((da=0->xa'=eb)/\(da ≠ 0->xa'=ea)):=⟨fun h=>by rw [<- hxa,if_pos h],fun h=>by rw [<- hxa,if_neg h]⟩;have HB:Hid ((db=0->xb'=xa')/\(db ≠ 0->xb'=eb)):=⟨fun h=>by rw [<- hxb,if_pos h],fun h=>by rw [<- hxb,if_neg h]⟩;have HM:Hid ((xb'<xa'->mn=xb')/\(¬ xb'<xa'->mn=xa')/\mn<=xa'/\mn<=xb' /\ -300<=mn):=⟨fun h=>by omega,fun h=>by omega,by omega,by omega,by omega⟩;obtain ⟨D,rfl⟩:=Int.eq_ofNat_of_zero_le ga0;obtain ⟨E,rfl⟩:=Int.eq_ofNat_of_zero_le gb0;obtain ⟨K6,hK6⟩:∃ K:Nat,K=615:=⟨_,rfl⟩;have OFa:Hid (∀ w2,Calls Tryz.prog 143 #[.agg #[.bool na,iQ D,iQ xa']] w2 fun e w'=>∃ v',e=.returned v'/\ZV w' v' (sgn na D)/\Ext w2 w'):=fun w2=>zHO na D xa' w2 (by omega) (by omega);have OFb:Hid (∀ w2,Calls Tryz.prog 143 #[.agg #[.bool nb,iQ E,iQ xb']] w2 fun e w'=>∃ v',e=.returned v'/\ZV w' v' (sgn nb E)/\Ext w2 w'):=fun w2=>zHO nb E xb' w2 (by omega) (by omega);have TEa:Hid (∀ w2,Calls Tryz.prog 93 #[iQ (xa' - mn)] w2 fun e w'=>∃ v',e=.returned v'/\ZV w' v' (10 ^ (xa' - mn).toNat)/\Ext w2 w'):=fun w2=>zLW _ w2 (by omega) (by omega);have TEb:Hid (∀ w2,Calls Tryz.prog 93 #[iQ (xb' - mn)] w2 fun e w'=>∃ v',e=.returned v'/\ZV w' v' (10 ^ (xb' - mn).toNat)/\Ext w2 w'):=fun w2=>zLW _ w2 (by omega) (by omega);have MUa:Hid (∀ (w2:World) (va vb:Value),ZV w2 va (sgn na D)->ZV w2 vb (10 ^ (xa' - mn).toNat)->Calls Tryz.prog 92 #[va,vb] w2 fun e w'=>∃ z0 z1 p n c,e=.returned (.agg #[iQ z0,.bool z1,.slice p n c])/\ZV w' (.agg #[iQ z0,.bool z1,.slice p n c]) (sgn na D * 10 ^ (xa' - mn).toNat)/\Ext w2 w'):=fun w2 va vb h1 h2=>by
  refine (zED w2 h1 h2 700 (by decide) (zK5 700 (by decide) (by omega) (by omega)) (zK4 700 (by omega))).mono ?_;rintro e w' ⟨v',rfl,hz,hx⟩;obtain ⟨z0,z1,p,n,c,rfl⟩:=hz.shape;exact ⟨z0,z1,p,n,c,rfl,hz,hx⟩
 have MUb:Hid (∀ (w2:World) (va vb:Value),ZV w2 va (sgn nb E)->ZV w2 vb (10 ^ (xb' - mn).toNat)->Calls Tryz.prog 92 #[va,vb] w2 fun e w'=>∃ z0 z1 p n c,e=.returned (.agg #[iQ z0,.bool z1,.slice p n c])/\ZV w' (.agg #[iQ z0,.bool z1,.slice p n c]) (sgn nb E * 10 ^ (xb' - mn).toNat)/\Ext w2 w'):=fun w2 va vb h1 h2=>by
  refine (zED w2 h1 h2 700 (by decide) (zK5 700 (by decide) (by omega) (by omega)) (zK4 700 (by omega))).mono ?_;rintro e w' ⟨v',rfl,hz,hx⟩;obtain ⟨z0,z1,p,n,c,rfl⟩:=hz.shape;exact ⟨z0,z1,p,n,c,rfl,hz,hx⟩
 obtain ⟨x,hx⟩:∃ x:Int,sgn na D * 10 ^ (xa' - mn).toNat=x:=⟨_,rfl⟩;obtain ⟨y,hy⟩:∃ y:Int,sgn nb E * 10 ^ (xb' - mn).toNat=y:=⟨_,rfl⟩;have hxB:x.natAbs<10 ^ K6:=by rw [<- hx,zHH];exact bndK (by omega) (by omega)
 have hyB:y.natAbs<10 ^ K6:=by rw [<- hy,zHH];exact bndK (by omega) (by omega)
 have hS:sumI na D xa' (nb != minus) E xb'=x+(if minus=true then -y else y):=by
  unfold sumI;rw [hmn,hx,<- hy,<- sgn_not nb minus];cases minus <;> simp [Int.neg_mul]
 have hSB:(x+(if minus=true then -y else y)).natAbs<10 ^ (K6+1):=by
  refine sumK hxB ?_
  split
  ·rw [Int.natAbs_neg];exact hyB
  ·exact hyB
 have KX:Hid ((x.natAbs:Int)<1000000000 ^ KK/\(y.natAbs:Int)<1000000000 ^ KK/\((-y).natAbs:Int)<1000000000 ^ KK/\((x+(if minus=true then -y else y)).natAbs:Int)<1000000000 ^ KK):=⟨fitK hxB (by omega),fitK hyB (by omega),by rw [Int.natAbs_neg];exact fitK hyB (by omega),fitK hSB (by omega)⟩;have AD:Hid (∀ (w2:World) (va vb:Value) (b:Int),ZV w2 va x->ZV w2 vb b->(b.natAbs:Int)<1000000000 ^ KK->Calls Tryz.prog 116 #[va,vb] w2 fun e w'=>∃ v',e=.returned v'/\ZV w' v' (x+b)/\Ext w2 w'):=fun w2 va vb b h1 h2 kb=>zMV w2 h1 h2 KK (by omega) KX.out.1 kb;have PU:Hid (∀ (w2:World) (v:Value),ZV w2 v (x+(if minus=true then -y else y))->Calls Tryz.prog 57 #[v,iQ mn,.bool false] w2 fun r w'=>r=.returned (resV R)/\Ext w2 w'):=fun w2 v hv=>by
  rw [<- HR.out];unfold sumZ;rw [hS,hmn];exact zFL _ _ w2 hv KK (by omega) KX.out.2.2.2 (by omega) (by omega) _ _ rfl (fun _=>rfl)
 have X0:=xa (xa (x1 w (.cells #[.bool na,iQ D,iQ ea] 31)) (.cells #[.bool nb,iQ E,iQ eb] 31)) (.cells #[.bool false,.bool false,iQ 0,iQ 0] 99);have Ba:=(Box3.made w (.bool na) (iQ D) (iQ ea) 31).l (xa (x1 _ (.cells #[.bool nb,iQ E,iQ eb] 31)) (.cells #[.bool false,.bool false,iQ 0,iQ 0] 99));have Bb:=(Box3.made (w.alloc (.cells #[.bool na,iQ D,iQ ea] 31)) (.bool nb) (iQ E) (iQ eb) 31).l (x1 _ (.cells #[.bool false,.bool false,iQ 0,iQ 0] 99));have Br:=Box4.made ((w.alloc (.cells #[.bool na,iQ D,iQ ea] 31)).alloc (.cells #[.bool nb,iQ E,iQ eb] 31)) (.bool false) (.bool false) (iQ 0) (iQ 0) 99;simp only [World.size_alloc] at Bb Br;have GA:Hid (∀ w2,Calls Tryz.prog 76 #[.agg #[.bool na,iQ D,iQ ea]] w2 fun e w'=>e=.returned (.bool true)/\Ext w2 w'):=fun w2=>zB5 true na D ea w2 ga;have GB:Hid (∀ w2,Calls Tryz.prog 76 #[.agg #[.bool nb,iQ E,iQ eb]] w2 fun e w'=>e=.returned (.bool true)/\Ext w2 w'):=fun w2=>zB5 true nb E eb w2 gb;have HX:Hid (sgn na D * 10 ^ (xa' - mn).toNat=x/\sgn nb E * 10 ^ (xb' - mn).toNat=y):=⟨hx,hy⟩;clear ga gb ga0 ga1 ga4 ga5 gb0 gb1 gb4 gb5 hxa hxb hR hmn hx hy hxB hyB hS hSB hK6 hKK HR;go_enter Tryz.func145,Tryz.ntmps145;go_wp2_with fail;refine (GA.out _).mono ?_;rintro rr w1 ⟨rfl,x1'⟩;have Bb1:=Bb.l x1';obtain ⟨⟨q0,q1,q2⟩,_⟩:=Bb1;go_wp2_with fail;refine (GB.out _).mono ?_;rintro rr w2 ⟨rfl,x2'⟩;have X2:=xt x1' x2';have Ca:=Ba.l X2;have Cb:=Bb.l X2;have Cr:=Br.l X2;replace X2:=xt X0 X2;clear q0 q1 q2 Ba Bb Br X0 x1' x2' GA GB;have Ca':=Ca;have Cb':=Cb;obtain ⟨⟨p0,p1,p2⟩,f0,f1,f2⟩:=Ca';obtain ⟨⟨p3,p4,p5⟩,f3,f4,f5⟩:=Cb';go_upto_region 3 with fail;go_cut [21] (fun v wc=>v=.bool (decide ((D:Int)=0))/\wc=w2)
 case first =>
  go_wp2_with fail;go_meet
  case rel=>exact ⟨by congr 1,rfl⟩
 case rest =>
  obtain ⟨rfl,hwc⟩:=hcut;rw [hwc];clear hwc;go_upto_if 21 with fail;go_cut [] (fun wc=>Box3 wc w.heap.size (.bool na) (iQ D) (iQ xa')/\Box3 wc (w.heap.size+1) (.bool nb) (iQ E) (iQ eb)/\Box4 wc (w.heap.size+1+1) (.bool false) (.bool false) (iQ 0) (iQ 0)/\Ext w wc)
  case first =>
   by_cases hd:(D:Int)=0
   ·have hx:=HA.out.1 hd;rw [decide_eq_true hd];have N1:Box3 (w2.setCell ⟨w.heap.size,2,none⟩ (iQ eb)) w.heap.size (.bool na) (iQ D) (iQ xa'):=by
     rw [hx];refine ⟨⟨?_,?_,World.cell?_setCell_same _ _ _ p2⟩,?_,?_,?_⟩
     ·rw [World.cell?_setCell_other _ _ _ _ (zBC (by decide))];exact p0
     ·rw [World.cell?_setCell_other _ _ _ _ (zBC (by decide))];exact p1
     ·rw [World.frozen?_setCell];exact f0
     ·rw [World.frozen?_setCell];exact f1
     ·rw [World.frozen?_setCell];exact f2
    have N2:=Cb.far (p:=⟨w.heap.size,2,none⟩) (by simp only;omega) (iQ eb);have N4:=Cr.far (p:=⟨w.heap.size,2,none⟩) (by simp only;omega) (iQ eb);have XN:=xset X2 (p:=⟨w.heap.size,2,none⟩) (Nat.le_refl _) (iQ eb);clear hx hd;go_wp2_with fail;go_meet
    case rel=>exact ⟨N1,N2,N4,XN⟩
   ·have hx:=HA.out.2 hd;rw [decide_eq_false hd];clear hd;go_wp2_with fail;go_meet
    case rel=>exact ⟨by rw [hx];exact Ca,Cb,Cr,X2⟩
  case rest =>
   clear p0 p1 p2 f0 f1 f2 p3 p4 p5 f3 f4 f5 Ca Cb Cr X2;obtain ⟨Ca,Cb,Cr,X3⟩:=hcut
   rename World=>w3
   have Ca':=Ca;have Cb':=Cb;obtain ⟨⟨p0,p1,p2⟩,f0,f1,f2⟩:=Ca';obtain ⟨⟨p3,p4,p5⟩,f3,f4,f5⟩:=Cb';go_upto_region 5 with fail;go_cut [27] (fun v wc=>v=.bool (decide ((E:Int)=0))/\wc=w3)
   case first =>
    go_wp2_with fail;go_meet
    case rel=>exact ⟨by congr 1,rfl⟩
   case rest =>
    obtain ⟨rfl,hwc⟩:=hcut;rw [hwc];clear hwc;go_upto_if 27 with fail;go_cut [] (fun wc=>Box3 wc w.heap.size (.bool na) (iQ D) (iQ xa')/\Box3 wc (w.heap.size+1) (.bool nb) (iQ E) (iQ xb')/\Box4 wc (w.heap.size+1+1) (.bool false) (.bool false) (iQ 0) (iQ 0)/\Ext w wc)
    case first =>
     by_cases hd:(E:Int)=0
     ·have hx:=HB.out.1 hd;rw [decide_eq_true hd];have N1:Box3 (w3.setCell ⟨w.heap.size+1,2,none⟩ (iQ xa')) (w.heap.size+1) (.bool nb) (iQ E) (iQ xb'):=by
       rw [hx];refine ⟨⟨?_,?_,World.cell?_setCell_same _ _ _ p5⟩,?_,?_,?_⟩
       ·rw [World.cell?_setCell_other _ _ _ _ (zBC (by decide))];exact p3
       ·rw [World.cell?_setCell_other _ _ _ _ (zBC (by decide))];exact p4
       ·rw [World.frozen?_setCell];exact f3
       ·rw [World.frozen?_setCell];exact f4
       ·rw [World.frozen?_setCell];exact f5
      have N2:=Ca.far (p:=⟨w.heap.size+1,2,none⟩) (by simp only;omega) (iQ xa');have N4:=Cr.far (p:=⟨w.heap.size+1,2,none⟩) (by simp only;omega) (iQ xa');have XN:=xset X3 (p:=⟨w.heap.size+1,2,none⟩) (by simp only;omega) (iQ xa');clear hx hd;go_wp2_with fail;go_meet
      case rel=>exact ⟨N2,N1,N4,XN⟩
     ·have hx:=HB.out.2 hd;rw [decide_eq_false hd];clear hd;go_wp2_with fail;go_meet
      case rel=>exact ⟨Ca,by rw [hx];exact Cb,Cr,X3⟩
    case rest =>
     clear p0 p1 p2 f0 f1 f2 p3 p4 p5 f3 f4 f5 Ca Cb Cr X3 HA HB;obtain ⟨Ca,Cb,Cr,X5⟩:=hcut
     rename World=>w5
     have Ca':=Ca;have Cb':=Cb;obtain ⟨⟨p0,p1,p2⟩,_⟩:=Ca';obtain ⟨⟨p3,p4,p5⟩,_⟩:=Cb';go_upto_region 8 with fail;go_cut [36] (fun v wc=>v=.bool (decide (xb'<xa'))/\wc=w5)
     case first =>
      go_wp2_with fail;go_meet
      case rel=>exact ⟨rfl,rfl⟩
     case rest =>
      obtain ⟨rfl,hwc⟩:=hcut;rw [hwc];clear hwc;go_upto_if 36 with fail;go_cut [7] (fun v wc=>v=iQ mn/\wc=w5)
      case first =>
       by_cases hlt:xb'<xa'
       ·have hm:=HM.out.1 hlt;rw [decide_eq_true hlt];clear hlt;go_wp2_with fail;go_meet
        case rel=>exact ⟨by rw [hm],rfl⟩
       ·have hm:=HM.out.2.1 (by omega);rw [decide_eq_false hlt];clear hlt;go_wp2_with fail;go_meet
        case rel=>exact ⟨by rw [hm],rfl⟩
      case rest =>
       obtain ⟨rfl,hwc⟩:=hcut;rw [hwc];clear hwc p0 p1 p2 p3 p4 p5;obtain ⟨_,_,mn1,mn2,mn3⟩:=HM.out;have wa:IntKind.i64.wrap (xa' - mn)=xa' - mn:=(by rw [IntKind.wrap_i64];omega);have wb:IntKind.i64.wrap (xb' - mn)=xb' - mn:=(by rw [IntKind.wrap_i64];omega);clear HM;go_upto_region 10 with fail;go_cut [8] (fun v wc=>∃ b,v=.pointer (some ⟨b,0,none⟩)/\w5.heap.size<=b/\ZIn wc b (sgn na D * 10 ^ (xa' - mn).toNat)/\Ext w5 wc)
       case first =>
        have K:=Ca;obtain ⟨⟨p0,p1,p2⟩,_⟩:=K;have neb:=World.new_ne w5 _ p0;go_region_held3 (fun w'=>w'.cell? ⟨w.heap.size,0,none⟩=some (.bool na)/\w'.cell? ⟨w.heap.size,1,none⟩=some (iQ D)/\w'.cell? ⟨w.heap.size,2,none⟩=some (iQ xa')) (go_keep) (first
         | (go_at_call 143;refine (OFa.out _).mono ?_;rintro rr w5o ⟨vo,rfl,zo,e1⟩;have Xw5o:Ext w5 w5o:=xt (by first | exact xd (xr _) | exact xd (xa (xr _) _)) e1;obtain ⟨⟨c10,c11,c12⟩,_⟩:=Ca.l Xw5o;have nn1:=World.new_ne w5o _ c10;(first | (have RB1:Box3 w5o w5.heap.size (iQ 0) (.bool false) (.slice none 0 0):=(by exact (Box3.made w5 (iQ 0) (.bool false) (.slice none 0 0) 103).l (xt (xd (xr _)) e1))) | skip))
         | (go_at_call 93;refine (TEa.out _).mono ?_;rintro rr w5t ⟨vt,rfl,zt,e2⟩;have Xw5t:Ext w5 w5t:=xt (by first | exact Xw5o | exact xa Xw5o _) e2;obtain ⟨⟨c20,c21,c22⟩,_⟩:=Ca.l Xw5t;have nn2:=World.new_ne w5t _ c20;(first | (have RB2:Box3 w5t w5.heap.size (iQ 0) (.bool false) (.slice none 0 0):=(by exact RB1.l e2)) | (have RB2:Box3 w5t w5o.heap.size (iQ 0) (.bool false) (.slice none 0 0):=(by exact (Box3.made w5o (iQ 0) (.bool false) (.slice none 0 0) 103).l e2)) | skip))
         | (go_at_call 92;refine (MUa.out _ _ _ (by first | exact zo.l e2 | exact (zo.l (xa (xr _) _)).l e2 | exact (zo.l e2).l (x1 _ _)) (by first | exact zt | exact zt.l (x1 _ _))).mono ?_;rintro rr w5m ⟨f0,f1,f2,f3,f4,rfl,hz,e3⟩;have Xw5m:Ext w5 w5m:=xt (by first | exact Xw5t | exact xa Xw5t _) e3;obtain ⟨⟨c30,c31,c32⟩,_⟩:=Ca.l Xw5m;have nn3:=World.new_ne w5m _ c30;(first | (have RB3:Box3 w5m w5.heap.size (iQ 0) (.bool false) (.slice none 0 0):=(by exact RB2.l e3)) | (have RB3:Box3 w5m w5o.heap.size (iQ 0) (.bool false) (.slice none 0 0):=(by exact RB2.l e3)) | (have RB3:Box3 w5m w5t.heap.size (iQ 0) (.bool false) (.slice none 0 0):=(by exact (Box3.made w5t (iQ 0) (.bool false) (.slice none 0 0) 103).l e3)) | skip);(try have RK:=RB3;try obtain ⟨⟨z0,z1,z2⟩,y0,y1,y2⟩:=RK)))
        all_goals
         have S1:=Xw5o.size;have S2:=Xw5t.size;go_wp2_with fail;go_meet
         case rel =>
          first
          | (refine ⟨w5m.heap.size,rfl,Xw5m.size,?_,?_⟩;exact ZIn.made _ hz;exact xa Xw5m _)
          | (refine ⟨w5.heap.size,rfl,(Nat.le_refl _),?_,?_⟩;exact ⟨_,_,_,_,_,RB3.put _ _ _,hz.set3 RB3 _ _ _⟩;exact Ext.set3 Xw5m (Nat.le_refl _) _ _ _)
          | (refine ⟨w5o.heap.size,rfl,S1,?_,?_⟩;exact ⟨_,_,_,_,_,RB3.put _ _ _,hz.set3 RB3 _ _ _⟩;exact Ext.set3 Xw5m S1 _ _ _)
          | (refine ⟨w5t.heap.size,rfl,S2,?_,?_⟩;exact ⟨_,_,_,_,_,RB3.put _ _ _,hz.set3 RB3 _ _ _⟩;exact Ext.set3 Xw5m S2 _ _ _)
       case rest =>
        obtain ⟨b8,rfl,l8,Z8,x6⟩:=hcut
        rename World=>w6
        rw [HX.out.1] at Z8;have lt5:w.heap.size+1+1<w5.heap.size:=World.block_lt_of_cell? _ _ Cr.1.1;replace Ca:=Ca.l x6;replace Cb:=Cb.l x6;replace Cr:=Cr.l x6;replace X5:=xt X5 x6;go_upto_region 11 with fail;go_cut [9] (fun v wc=>∃ b,v=.pointer (some ⟨b,0,none⟩)/\w6.heap.size<=b/\ZIn wc b (sgn nb E * 10 ^ (xb' - mn).toNat)/\Ext w6 wc)
        case first =>
         have K:=Cb;obtain ⟨⟨p0,p1,p2⟩,_⟩:=K;have neb:=World.new_ne w6 _ p0;go_region_held3 (fun w'=>w'.cell? ⟨w.heap.size+1,0,none⟩=some (.bool nb)/\w'.cell? ⟨w.heap.size+1,1,none⟩=some (iQ E)/\w'.cell? ⟨w.heap.size+1,2,none⟩=some (iQ xb')) (go_keep) (first
          | (go_at_call 143;refine (OFb.out _).mono ?_;rintro rr w6o ⟨vo,rfl,zo,e1⟩;have Xw6o:Ext w6 w6o:=xt (by first | exact xd (xr _) | exact xd (xa (xr _) _)) e1;obtain ⟨⟨c10,c11,c12⟩,_⟩:=Cb.l Xw6o;have nn1:=World.new_ne w6o _ c10;(first | (have RB1:Box3 w6o w6.heap.size (iQ 0) (.bool false) (.slice none 0 0):=(by exact (Box3.made w6 (iQ 0) (.bool false) (.slice none 0 0) 103).l (xt (xd (xr _)) e1))) | skip))
          | (go_at_call 93;refine (TEb.out _).mono ?_;rintro rr w6t ⟨vt,rfl,zt,e2⟩;have Xw6t:Ext w6 w6t:=xt (by first | exact Xw6o | exact xa Xw6o _) e2;obtain ⟨⟨c20,c21,c22⟩,_⟩:=Cb.l Xw6t;have nn2:=World.new_ne w6t _ c20;(first | (have RB2:Box3 w6t w6.heap.size (iQ 0) (.bool false) (.slice none 0 0):=(by exact RB1.l e2)) | (have RB2:Box3 w6t w6o.heap.size (iQ 0) (.bool false) (.slice none 0 0):=(by exact (Box3.made w6o (iQ 0) (.bool false) (.slice none 0 0) 103).l e2)) | skip))
          | (go_at_call 92;refine (MUb.out _ _ _ (by first | exact zo.l e2 | exact (zo.l (xa (xr _) _)).l e2 | exact (zo.l e2).l (x1 _ _)) (by first | exact zt | exact zt.l (x1 _ _))).mono ?_;rintro rr w6m ⟨f0,f1,f2,f3,f4,rfl,hz,e3⟩;have Xw6m:Ext w6 w6m:=xt (by first | exact Xw6t | exact xa Xw6t _) e3;obtain ⟨⟨c30,c31,c32⟩,_⟩:=Cb.l Xw6m;have nn3:=World.new_ne w6m _ c30;(first | (have RB3:Box3 w6m w6.heap.size (iQ 0) (.bool false) (.slice none 0 0):=(by exact RB2.l e3)) | (have RB3:Box3 w6m w6o.heap.size (iQ 0) (.bool false) (.slice none 0 0):=(by exact RB2.l e3)) | (have RB3:Box3 w6m w6t.heap.size (iQ 0) (.bool false) (.slice none 0 0):=(by exact (Box3.made w6t (iQ 0) (.bool false) (.slice none 0 0) 103).l e3)) | skip);(try have RK:=RB3;try obtain ⟨⟨z0,z1,z2⟩,y0,y1,y2⟩:=RK)))
         all_goals
          have S1:=Xw6o.size;have S2:=Xw6t.size;go_wp2_with fail;go_meet
          case rel =>
           first
           | (refine ⟨w6m.heap.size,rfl,Xw6m.size,?_,?_⟩;exact ZIn.made _ hz;exact xa Xw6m _)
           | (refine ⟨w6.heap.size,rfl,(Nat.le_refl _),?_,?_⟩;exact ⟨_,_,_,_,_,RB3.put _ _ _,hz.set3 RB3 _ _ _⟩;exact Ext.set3 Xw6m (Nat.le_refl _) _ _ _)
           | (refine ⟨w6o.heap.size,rfl,S1,?_,?_⟩;exact ⟨_,_,_,_,_,RB3.put _ _ _,hz.set3 RB3 _ _ _⟩;exact Ext.set3 Xw6m S1 _ _ _)
           | (refine ⟨w6t.heap.size,rfl,S2,?_,?_⟩;exact ⟨_,_,_,_,_,RB3.put _ _ _,hz.set3 RB3 _ _ _⟩;exact Ext.set3 Xw6m S2 _ _ _)
        case rest =>
         obtain ⟨b9,rfl,l9,Z9,x7⟩:=hcut
         rename World=>w7
         rw [HX.out.2] at Z9;have lt8:b8<w6.heap.size:=(by obtain ⟨_,_,_,_,_,h,_⟩:=Z8;exact h.lt);replace Cr:=Cr.l x7;replace X5:=xt X5 x7;replace Z8:=Z8.l x7;clear OFa OFb TEa TEb MUa MUb HX Ca Cb wa wb;cases minus
         ·simp only [Bool.false_eq_true,if_false] at PU KX;obtain ⟨y0,y1,y2,y3,y4,⟨⟨i0,i1,i2⟩,_⟩,hy8⟩:=Z8;obtain ⟨z0,z1,z2,z3,z4,⟨⟨j0,j1,j2⟩,_⟩,hy9⟩:=Z9;go_wp2_with fail;refine (AD.out _ _ _ _ hy8 hy9 KX.out.2.1).mono ?_;rintro rr w8 ⟨v8,rfl,hz8,x8⟩;go_wp2_with fail;refine (PU.out _ _ hz8).mono ?_;rintro rr w9 ⟨rfl,x9⟩;obtain ⟨⟨m0,m1,m2,m3⟩,n0,n1,n2,n3⟩:=Cr.l (xt x8 x9);clear i0 i1 i2 j0 j1 j2 hy8 hy9 hz8;go_wp2_with fail;exact bodyPost_ret (v:=resV R) (by simp [results,Tryz.results145,go_sem,m0,m1,m2,m3]) rfl ⟨rfl,xset (xset (xset (xset (xt X5 (xt x8 x9)) (by simp only;omega) _) (by simp only;omega) _) (by simp only;omega) _) (by simp only;omega) _⟩
         ·simp only [if_true] at PU KX;have Z9':=Z9;obtain ⟨z0,z1,z2,z3,z4,⟨⟨j0,j1,j2⟩,_⟩,hy9⟩:=Z9';go_wp2_with fail;refine (zEE _ hy9).mono ?_;rintro rr w8 ⟨v8,rfl,hz8,x8⟩;obtain ⟨f0,f1,f2,f3,f4,rfl⟩:=hz8.shape;replace Z8:=Z8.l x8;replace Z9:=Z9.l x8;replace Cr:=Cr.l x8;have ZN:=Z9.put hz8;have Z8N:=Z8.far Z9 (show b9 ≠ b8 by omega) (iQ f0) (.bool f1) (.slice f2 f3 f4);have CrN:Box4 (set3 w8 b9 (iQ f0) (.bool f1) (.slice f2 f3 f4)) (w.heap.size+1+1) (.bool false) (.bool false) (iQ 0) (iQ 0):=
           ((Cr.far (p:=⟨b9,0,none⟩) (by simp only;have:=x6.size;omega) _).far (p:=⟨b9,1,none⟩) (by simp only;have:=x6.size;omega) _).far (p:=⟨b9,2,none⟩) (by simp only;have:=x6.size;omega) _
          have XN:=Ext.set3 (xt X5 x8) (b:=b9) (by have:=x6.size;omega) (iQ f0) (.bool f1) (.slice f2 f3 f4);obtain ⟨_,_,_,_,_,⟨⟨g0,g1,g2⟩,k0,k1,k2⟩,_⟩:=Z9;obtain ⟨u8,hu8⟩:=nm (set3 w8 b9 (iQ f0) (.bool f1) (.slice f2 f3 f4));rw [hu8] at ZN Z8N CrN XN;unfold set3 at hu8;obtain ⟨y0,y1,y2,y3,y4,⟨⟨i0,i1,i2⟩,_⟩,hy8⟩:=Z8N;obtain ⟨t0,t1,t2,t3,t4,⟨⟨s0,s1,s2⟩,_⟩,hyN⟩:=ZN;clear j0 j1 j2 hy9 hz8 Z8 Cr;go_wp2_with fail;refine (AD.out _ _ _ _ hy8 hyN KX.out.2.2.1).mono ?_;rintro rr w9 ⟨v9,rfl,hz9,x9⟩;go_wp2_with fail;refine (PU.out _ _ hz9).mono ?_;rintro rr wz ⟨rfl,xz⟩;obtain ⟨⟨m0,m1,m2,m3⟩,n0,n1,n2,n3⟩:=CrN.l (xt x9 xz);clear i0 i1 i2 s0 s1 s2 hy8 hyN hz9 hu8 g0 g1 g2 k0 k1 k2;go_wp2_with fail;exact bodyPost_ret (v:=resV R) (by simp [results,Tryz.results145,go_sem,m0,m1,m2,m3]) rfl ⟨rfl,xset (xset (xset (xset (xt XN (xt x9 xz)) (by simp only;omega) _) (by simp only;omega) _) (by simp only;omega) _) (by simp only;omega) _⟩
theorem zT3 {n m:Bool} {d e:Int} (h:d ≠ 0):zA1 n d e=zA1 m d e:=by
 unfold zA1;rw [if_neg h,if_neg h]
theorem zQY {na:Bool} {da ea eb:Int} (n m:Bool):sumE na da ea n 0 eb=sumE na da ea m 0 eb:=by
 have h:∀ x y,sumI na da x n 0 y=sumI na da x m 0 y:=fun x y=>by unfold sumI;cases n <;> cases m <;> simp [sgn]
 unfold sumE sumZ;rw [h]
theorem subR_eq (na:Bool) (da ea:Int) (nb:Bool) (db eb:Int):subR na da ea nb db eb=if (zA1 na da ea && zA1 nb db eb)=true then sumE na da ea (nb != true) db eb else badR:=by
 unfold subR addR;by_cases h:db=0
 ·subst h;rw [if_pos rfl,zQY nb (nb != true)]
 ·rw [if_neg h,zT3 (n:=!nb) (m:=nb) h];have:(nb != true)=!nb:=by cases nb <;> rfl
  rw [this]
theorem addS_bad (na nb:Bool) (da ea db eb:Int) (minus:Bool) (w:World) (hg:(zA1 na da ea && zA1 nb db eb)=false) :
  Calls Tryz.prog 145 #[.agg #[.bool na,iQ da,iQ ea],.agg #[.bool nb,iQ db,iQ eb],.bool minus] w fun r w'=>r=.returned (.agg #[.bool false,.bool false,iQ 0,iQ 0])/\Ext w w':=by
 have X0:=xa (xa (x1 w (.cells #[.bool na,iQ da,iQ ea] 31)) (.cells #[.bool nb,iQ db,iQ eb] 31)) (.cells #[.bool false,.bool false,iQ 0,iQ 0] 99);have Bb:=(Box3.made (w.alloc (.cells #[.bool na,iQ da,iQ ea] 31)) (.bool nb) (iQ db) (iQ eb) 31).l (x1 _ (.cells #[.bool false,.bool false,iQ 0,iQ 0] 99));have Br:=Box4.made ((w.alloc (.cells #[.bool na,iQ da,iQ ea] 31)).alloc (.cells #[.bool nb,iQ db,iQ eb] 31)) (.bool false) (.bool false) (iQ 0) (iQ 0) 99;simp only [World.size_alloc] at Bb Br;go_enter Tryz.func145,Tryz.ntmps145;go_wp2_with fail;cases ga:zA1 na da ea
 ·refine (zB5 false na da ea _ ga).mono ?_;rintro r w1 ⟨rfl,x1'⟩;obtain ⟨⟨m0,m1,m2,m3⟩,n0,n1,n2,n3⟩:=Br.l x1';clear ga hg;go_wp2_with fail;exact bodyPost_ret (v:=.agg #[.bool false,.bool false,iQ 0,iQ 0]) (by simp [results,Tryz.results145,go_sem,m0,m1,m2,m3]) rfl ⟨rfl,xset (xset (xset (xset (xt X0 x1') (by simp only;omega) _) (by simp only;omega) _) (by simp only;omega) _) (by simp only;omega) _⟩
 ·have gb:zA1 nb db eb=false:=by rw [ga] at hg;exact hg
  refine (zB5 true na da ea _ ga).mono ?_;rintro r w1 ⟨rfl,x1'⟩;obtain ⟨⟨q0,q1,q2⟩,_⟩:=Bb.l x1';go_wp2_with fail;refine (zB5 false nb db eb _ gb).mono ?_;rintro r w2 ⟨rfl,x2'⟩;obtain ⟨⟨m0,m1,m2,m3⟩,n0,n1,n2,n3⟩:=(Br.l x1').l x2';clear ga gb hg q0 q1 q2;go_wp2_with fail;exact bodyPost_ret (v:=.agg #[.bool false,.bool false,iQ 0,iQ 0]) (by simp [results,Tryz.results145,go_sem,m0,m1,m2,m3]) rfl ⟨rfl,xset (xset (xset (xset (xt (xt X0 x1') x2') (by simp only;omega) _) (by simp only;omega) _) (by simp only;omega) _) (by simp only;omega) _⟩
theorem zPX (na nb:Bool) (da ea db eb:Int) (minus:Bool) (w:World) :
  Calls Tryz.prog 145 #[.agg #[.bool na,iQ da,iQ ea],.agg #[.bool nb,iQ db,iQ eb],.bool minus] w fun r w'=>r=.returned (resV (if (zA1 na da ea && zA1 nb db eb)=true then sumE na da ea (nb != minus) db eb else badR))/\Ext w w':=by
 cases hg:(zA1 na da ea && zA1 nb db eb)
 ·exact addS_bad na nb da ea db eb minus w hg
 ·rw [Bool.and_eq_true] at hg;exact addS na nb da ea db eb minus w hg.1 hg.2
theorem subSpec (na nb:Bool) (da ea db eb:Int) (w:World) :
  Calls Tryz.prog 83 #[.agg #[.bool na,iQ da,iQ ea],.agg #[.bool nb,iQ db,iQ eb]] w fun r w'=>r=.returned (resV (subR na da ea nb db eb))/\Ext w w':=by
 obtain ⟨R,hR⟩:=nm (subR na da ea nb db eb);rw [hR];have DA:Hid (∀ w2,Calls Tryz.prog 145 #[.agg #[.bool na,iQ da,iQ ea],.agg #[.bool nb,iQ db,iQ eb],.bool true] w2 fun r w'=>r=.returned (resV R)/\Ext w2 w'):=fun w2=>by
  have:=zPX na nb da ea db eb true w2;rw [<- subR_eq,hR] at this;exact this
 have X0:=xa (xa (x1 w (.cells #[.bool na,iQ da,iQ ea] 31)) (.cells #[.bool nb,iQ db,iQ eb] 31)) (.cells #[.bool false,.bool false,iQ 0,iQ 0] 99);have Br:=Box4.made ((w.alloc (.cells #[.bool na,iQ da,iQ ea] 31)).alloc (.cells #[.bool nb,iQ db,iQ eb] 31)) (.bool false) (.bool false) (iQ 0) (iQ 0) 99;simp only [World.size_alloc] at Br;clear hR;go_enter Tryz.func83,Tryz.ntmps83;go_wp2_with fail;refine (DA.out _).mono ?_;rintro r w1 ⟨rfl,x1'⟩;obtain ⟨⟨m0,m1,m2,m3⟩,n0,n1,n2,n3⟩:=Br.l x1';go_wp2_with fail;exact bodyPost_ret (v:=resV R) (by simp [results,Tryz.results83,go_sem,m0,m1,m2,m3]) rfl ⟨rfl,xset (xset (xset (xset (xt X0 x1') (by simp only;omega) _) (by simp only;omega) _) (by simp only;omega) _) (by simp only;omega) _⟩
end Go.Proofs.YtjlojlgdkfpcdaaGreatDoor

namespace Go.Proofs.YtjlojlgdkfpcdaaGreatDoor
theorem zMN (ds:List Int) (hi k:Nat) (h1:k<hi) (h2:hi<=ds.length):dv ((ds.take hi).drop k)=dv ((ds.take hi).drop (k+1)) * 10+ds.getD k 0:=by
 have hl:k<(ds.take hi).length:=by simp;omega
 rw [List.drop_eq_getElem_cons hl];simp only [dv,List.getElem_take];simp [show k<ds.length by omega];omega
theorem D10.drop {xs:List Int} (h:D10 xs) (n:Nat):D10 (xs.drop n):=fun y hy=>h y (List.mem_of_mem_drop hy)
theorem zMO {ds:List Int} (h:D10 ds) (hi k:Nat) (hk:hi<=k+9):0<=dv ((ds.take hi).drop k)/\dv ((ds.take hi).drop k)<1000000000:=by
 refine ⟨zCG ((h.take hi).drop k),?_⟩;have h1:=zVY ((h.take hi).drop k);have h2:((ds.take hi).drop k).length<=9:=by simp;omega
 have h3:(10:Int) ^ ((ds.take hi).drop k).length<=10 ^ 9:=by
  have:=Nat.pow_le_pow_right (n:=10) (by decide) h2;exact_mod_cast this
 have h4:(10:Int) ^ 9=1000000000:=by decide
 omega
theorem zO3 {ds:List Int} (h:D10 ds) (hi k:Nat) (hk:hi<=k+8):0<=dv ((ds.take hi).drop k)/\dv ((ds.take hi).drop k)<100000000:=by
 refine ⟨zCG ((h.take hi).drop k),?_⟩;have h1:=zVY ((h.take hi).drop k);have h2:((ds.take hi).drop k).length<=8:=by simp;omega
 have h3:(10:Int) ^ ((ds.take hi).drop k).length<=10 ^ 8:=by
  have:=Nat.pow_le_pow_right (n:=10) (by decide) h2;exact_mod_cast this
 have h4:(10:Int) ^ 8=100000000:=by decide
 omega
def zEL (ds xs:List Int) (m:Nat):Prop:=xs.length=m/\Lim xs/\lv xs=dv (ds.take (9 * m))
theorem zEL.start (ds:List Int):zEL ds [] 0:=⟨rfl,Lim.nil,by simp [dv,lv]⟩
theorem zEL.step {ds xs:List Int} {m hi:Nat} (h:zEL ds xs m) (hd:D10 ds) (hlo:9 * m<ds.length) (hhi:hi=min (9 * m+9) ds.length):zEL ds (xs++[dv ((ds.take hi).drop (9 * m))]) (m+1):=by
 obtain ⟨h1,h2,h3⟩:=h;have hp:=zMO hd hi (9 * m) (by omega);refine ⟨by simp [h1],h2.app (Lim.cons hp.1 hp.2 Lim.nil),?_⟩;rw [zL1,h3,h1];have e1:ds.take (9 * (m+1))=ds.take hi:=by
  rcases Nat.lt_or_ge (9 * m+9) ds.length with hl | hl
  ·rw [show hi=9 * (m+1) by omega]
  ·rw [show hi=ds.length by omega,List.take_length,List.take_of_length_le (by omega)]
 have e2:ds.take hi=ds.take (9 * m)++(ds.take hi).drop (9 * m):=by
  have:=List.take_append_drop (9 * m) (ds.take hi);rw [List.take_take,show min (9 * m) hi=9 * m by omega] at this;exact this.symm
 have e3:(ds.take (9 * m)).length=9 * m:=by simp;omega
 have e4:dv (ds.take hi)=dv (ds.take (9 * m))+10 ^ (9 * m) * dv ((ds.take hi).drop (9 * m)):=by
  conv=>lhs;rw [e2]
  rw [zO4,e3]
 rw [e1,e4,pow9];simp [lv]
theorem zEL.done {ds xs:List Int} {m:Nat} (h:zEL ds xs m) (hm:ds.length<=9 * m):Lim xs/\lv xs=dv ds:=⟨h.2.1,by rw [h.2.2,List.take_of_length_le hm]⟩
def zQC (s:ByteArray) (ds:List Int):Prop:=s=⟨(ds.reverse.map chr).toArray⟩
theorem zQC.size {s:ByteArray} {ds:List Int} (h:zQC s ds):s.size=ds.length:=by
 rw [h];simp [ByteArray.size]
theorem zQC.at {s:ByteArray} {ds:List Int} (h:zQC s ds) (hd:D10 ds) {p k:Nat} (hp:p+k+1=ds.length) (hs:p<s.size):((s[p]'hs).toNat:Int)=48+ds.getD k 0:=by
 have hk:k<ds.length:=by omega
 have:=hd.getD k;rw [<- zI3 (d:=ds.getD k 0) (by omega) (by omega)];subst h;have hk2:ds.length - 1 - p=k:=by omega
 simp [ByteArray.getElem_eq_getElem_data,hk,hk2]
end Go.Proofs.YtjlojlgdkfpcdaaGreatDoor

namespace Go.Proofs.YtjlojlgdkfpcdaaGreatDoor
def zCF (n:Bool) (d e:Int):Bool:=zA1 n d e && decide (0<=e/\e<=19/\d * 10 ^ e.toNat<=9223372036854775807)
def intR (n:Bool) (d e:Int):Int:=if zCF n d e then sgn n (d * 10 ^ e.toNat) else 0
theorem zL7 {n:Bool} {d e:Int} (h:zA1 n d e=false):zCF n d e=false:=by simp [zCF,h]
theorem zFU {n:Bool} {d e:Int} (h:¬ (0<=e/\e<=19/\d * 10 ^ e.toNat<=9223372036854775807)):zCF n d e=false:=by
 unfold zCF;rw [decide_eq_false h,Bool.and_false]
theorem zL6 {n:Bool} {d e:Int} (g:zA1 n d e=true) (h:0<=e/\e<=19/\d * 10 ^ e.toNat<=9223372036854775807):zCF n d e=true:=by
 unfold zCF;rw [decide_eq_true h,g];rfl
theorem zGF {n:Bool} {d e:Int} (h:zCF n d e=false):intR n d e=0:=by simp [intR,h]
theorem zNT {n:Bool} {d e:Int} (h:zCF n d e=true):intR n d e=sgn n (d * 10 ^ e.toNat):=by simp [intR,h]
theorem zBQ {n:Bool} {d e:Int} (h:zA1 n d e=true):0<=d/\d<1000000000000000/\(d=0->e=0/\n=false):=by
 unfold zA1 at h
 split at h
 ·rename_i h0;simp at h;exact ⟨by omega,by omega,fun _=>⟨h.2,h.1⟩⟩
 ·simp at h;exact ⟨by omega,by omega,fun hd=>absurd hd (by omega)⟩
theorem zPO {n:Bool} {d e:Int} (g:zA1 n d e=true) (he:e=20):9223372036854775807<d * 10 ^ e.toNat:=by
 subst he;obtain ⟨h0,h1,h2⟩:=zBQ g;have:d ≠ 0:=fun hd=>by have:=(h2 hd).1;omega
 have e1:((20:Int).toNat)=20:=rfl;rw [e1];have e2:(10:Int) ^ 20=100000000000000000000:=by decide
 rw [e2];omega
theorem zT1 {n:Bool} {d e:Int} (g:zA1 n d e=true):d * 10 ^ e.toNat ≠ 9223372036854775808:=by
 obtain ⟨d0,d1,_⟩:=zBQ g;intro he;cases hk:e.toNat with
 | zero =>
  rw [hk] at he;simp at he;omega
 | succ k =>
  rw [hk,Int.pow_succ,<- Int.mul_assoc] at he;generalize d * 10 ^ k=p at he;omega
theorem back_chr {ds:List Int} (h:D10 ds):(ds.map chr).map (fun c=>(c.toNat:Int) - 48)=ds:=by
 rw [List.map_map]
 conv=>rhs;rw [<- List.map_id ds]
 apply List.map_congr_left;intro d hd;have:=h d hd;have:=zI3 (d:=d) (by omega) (by omega);simp only [Function.comp,id];omega
theorem zOK {l:List UInt8} {z:Int} (h:zCO l z) (hz:z ≠ -9223372036854775808):l ≠ [45,57,50,50,51,51,55,50,48,51,54,56,53,52,55,55,53,56,48,56]:=by
 rintro rfl
 rcases h with ⟨_,h⟩ | ⟨ds,⟨h1,h2,_,_⟩,h3⟩
 ·cases h
 ·by_cases hn:z<0
  ·rw [if_pos hn] at h3;have h4:(ds.reverse.map chr)=[57,50,50,51,51,55,50,48,51,54,56,53,52,55,55,53,56,48,56]:=by
    simpa using h3.symm
   have h5:=congrArg (fun l=>(l.map (fun c:UInt8=>(c.toNat:Int) - 48)).reverse) h4;simp only [List.map_reverse,List.reverse_reverse] at h5;rw [back_chr h1] at h5;have h6:dv ds=9223372036854775808:=by rw [h5];decide
   omega
  ·rw [if_neg hn,List.nil_append] at h3;cases hr:ds.reverse with
   | nil=>rw [hr] at h3;cases h3
   | cons d rs =>
    rw [hr] at h3;have hd:d ∈ ds:=List.mem_reverse.1 (by rw [hr];simp);have h4:(45:UInt8)=chr d:=(by simp at h3;exact h3.1);have h5:=zI3 (d:=d) (by have:=h1 d hd;omega) (by have:=h1 d hd;omega);rw [<- h4] at h5;have:=h1 d hd;have:((45:UInt8).toNat:Int)=45:=(by decide);omega
def zI7 (s:ByteArray) (z:Int) (ds:List Int):Prop:=D10 ds/\dv ds=(z.natAbs:Int)/\s=⟨((if z<0 then [45] else [])++ds.reverse.map chr).toArray⟩
theorem Digs.len {ds:List Int} {u:Int} (h:Digs ds u) (hu:u<=9223372036854775807):ds.length<=19:=by
 by_cases hl:ds.length<=19
 ·exact hl
 ·have h1:=h.ge;have h2:(10:Int) ^ 19<=10 ^ (ds.length - 1):=by
   have:=Nat.pow_le_pow_right (n:=10) (by decide) (show 19<=ds.length - 1 by omega);exact_mod_cast this
  have h3:(10:Int) ^ 19=10000000000000000000:=by decide
  omega
theorem zCO.signed {l:List UInt8} {z:Int} (h:zCO l z) (hz:(z.natAbs:Int)<=9223372036854775807):∃ ds,zI7 ⟨l.toArray⟩ z ds/\ds.length<=19:=by
 rcases h with ⟨rfl,rfl⟩ | ⟨ds,h1,rfl⟩
 ·exact ⟨[0],⟨fun x hx=>by simp at hx;subst hx;decide,rfl,by decide⟩,by decide⟩
 ·exact ⟨ds,⟨h1.1,h1.2.1,rfl⟩,h1.len hz⟩
def sg (z:Int):Nat:=if z<0 then 1 else 0
theorem zI7.size {s:ByteArray} {z:Int} {ds:List Int} (h:zI7 s z ds):s.size=sg z+ds.length:=by
 rw [h.2.2];unfold sg
 split <;> simp [ByteArray.size]
 omega
theorem zI7.minus {s:ByteArray} {z:Int} {ds:List Int} (h:zI7 s z ds) (hz:z<0) (hs:0<s.size):((s[0]'hs).toNat:Int)=45:=by
 obtain ⟨_,_,rfl⟩:=h;simp [ByteArray.getElem_eq_getElem_data,hz]
theorem zI7.at {s:ByteArray} {z:Int} {ds:List Int} (h:zI7 s z ds) {p k:Nat} (hp:p+k+1=s.size) (hk:k<ds.length) (hs:p<s.size):((s[p]'hs).toNat:Int)=48+ds.getD k 0:=by
 have hsz:=h.size;have:=h.1.getD k;rw [<- zI3 (d:=ds.getD k 0) (by omega) (by omega)];by_cases hz:z<0
 ·have hsg:sg z=1:=if_pos hz;obtain ⟨q,rfl⟩:∃ q,p=q+1:=⟨p - 1,by omega⟩;have hk2:ds.length - 1 - q=k:=by omega
  obtain ⟨_,_,rfl⟩:=h;simp [ByteArray.getElem_eq_getElem_data,hk,hk2,hz]
 ·have hsg:sg z=0:=if_neg hz;have hk2:ds.length - 1 - p=k:=by omega
  obtain ⟨_,_,rfl⟩:=h;simp [ByteArray.getElem_eq_getElem_data,hk,hk2,hz]
theorem dv_drop (ds:List Int) (k:Nat) (h:k<ds.length):dv (ds.drop k)=dv (ds.drop (k+1)) * 10+ds.getD k 0:=by
 have:=zMN ds ds.length k h (Nat.le_refl _)
 rwa [List.take_length] at this
theorem zJ8 {ds:List Int} (h:D10 ds) (k:Nat):0<=dv (ds.drop k)/\dv (ds.drop k)<=dv ds:=by
 refine ⟨zCG (h.drop k),?_⟩;have h1:=zCG (h.take k);have h2:=zCG (h.drop k);have e:dv ds=dv (ds.take k)+10 ^ (ds.take k).length * dv (ds.drop k):=by
  conv=>lhs;rw [<- List.take_append_drop k ds]
  exact zO4 _ _
 have hp:(0:Int)<10 ^ (ds.take k).length:=Int.pow_pos (by decide);have:1 * dv (ds.drop k)<=10 ^ (ds.take k).length * dv (ds.drop k):=Int.mul_le_mul_of_nonneg_right (by omega) h2;omega
end Go.Proofs.YtjlojlgdkfpcdaaGreatDoor

namespace Go.Proofs.YtjlojlgdkfpcdaaGreatDoor
open Go.RowKit
theorem zM7 (d:Int) (t:Nat) (d0:0<=d) (d1:d<1000000000000000) (ht:t<18446744073709551616) (w:World) :
  Calls Tryz.prog 134 #[.int .u64 d,.int .u64 t] w fun e w'=>∃ h l:Nat,e=.returned (.agg #[.int .u64 h,.int .u64 l])/\h<18446744073709551616/\l<18446744073709551616/\Hid ((h:Int) * 18446744073709551616+l=d * t)/\Ext w w':=by
 obtain ⟨x,rfl⟩:=Int.eq_ofNat_of_zero_le d0;refine (zCX x t (by omega) ht w).mono ?_;rintro e w2 ⟨v,rfl,⟨h,l,rfl,h1,h2,h3⟩,e2⟩;exact ⟨h,l,rfl,h1,h2,by rw [<- Int.natCast_mul,<- h3];simp [Hid],e2⟩
theorem zC5 {a b:Int} {c d:Bool} (h:a=b) (k:c=d):Ending.returned (.tuple #[iQ a,.bool c])=.returned (.tuple #[iQ b,.bool d]):=by rw [h,k]
theorem intI (n:Bool) (d e:Int) (w:World) (d1 : -9223372036854775808<=d) (d2:d<=9223372036854775807) (hT:Tens w) :
  Calls Tryz.prog 127 #[.agg #[.bool n,iQ d,iQ e]] w fun r w'=>r=.returned (.tuple #[iQ (intR n d e),.bool (zCF n d e)])/\Ext w w':=by
 go_enter Tryz.func127,Tryz.ntmps127;go_wp2_with fail;refine (zVS n d e _ d1 d2 (hT.l (x1 _ _))).mono ?_;rintro r w1 ⟨rfl,e1⟩;have B:=(Box3.made w (.bool n) (iQ d) (iQ e) 31).l e1;have T1:=(hT.l (x1 _ _)).l e1;have X1:=xt (x1 _ _) e1;have hs:w.heap.size<w1.heap.size:=World.block_lt_of_cell? _ _ B.1.1;clear e1 hT;have B':=B;obtain ⟨⟨p0,p1,p2⟩,f0,f1,f2⟩:=B';cases hg:zA1 n d e
 ·have H:=zL7 hg;have H2:Hid (intR n d e=0):=zGF H;have H1:Hid (zCF n d e=false):=H;clear H hg;go_wp2_with fail
  go_ret2
  exact ⟨zC5 H2.out.symm H1.out.symm,X1⟩
 ·obtain ⟨g0,g1,g2⟩:=zBQ hg;clear g2;by_cases he:0<=e/\e<=19
  ·obtain ⟨i,rfl⟩:=Int.eq_ofNat_of_zero_le he.1;obtain ⟨t,et,t1,ct⟩:=T1.at (i:=i) (by omega);have i1:i<=19:=by omega
   have i2:(i:Int)<20:=by omega
   have HV:Hid (d * 10 ^ (i:Int).toNat=d * (t:Int)):=by rw [Int.toNat_natCast,<- et];simp [Hid]
   have HG:Hid (zA1 n d (i:Int)=true):=hg;have i0:(0:Int)<=(i:Int):=by omega
   have hwd:IntKind.u64.wrap d=d:=by rw [IntKind.wrap_u64];omega
   have ne0:=World.new_ne w1 _ p0;have ne1:=World.new_ne w1 _ p1;have ne2:=World.new_ne w1 _ p2;have ne3:=World.new_ne w1 _ ct;have CT:∀ {w2:World},Ext w1 w2->w2.cell? ⟨1,i,none⟩=some (.int .u64 t):=fun x=>cell_later x ct;clear hg he et T1 d1 d2;go_wp2_with fail;go_cut [4] (fun v wc=>∃ b h l:Nat,v=.pointer (some ⟨b,0,none⟩)/\Box2 wc b (.int .u64 h) (.int .u64 l)/\h<18446744073709551616/\l<18446744073709551616/\Hid ((h:Int) * 18446744073709551616+l=d * t)/\Ext w1 wc)
   case first =>
    go_region_held3 (fun w'=>(w'.cell? ⟨w.heap.size,0,none⟩=some (.bool n)/\w'.cell? ⟨w.heap.size,1,none⟩=some (iQ d)/\w'.cell? ⟨w.heap.size,2,none⟩=some (iQ i))/\w'.cell? ⟨1,i,none⟩=some (.int .u64 t)) (go_keep) (first
     | (go_at_call 134;refine (zM7 d t g0 g1 t1 _).mono ?_;rintro e w2 ⟨h,l,rfl,h1,h2,H3,e2⟩;have X2:Ext w1 w2:=xt (by first | exact xd (xr _) | exact xa (xd (xr _)) _ | exact xd (xa (xr _) _) | exact xa (xr _) _ | exact xr _) e2;obtain ⟨⟨k0,k1,k2⟩,_⟩:=B.l X2;have k3:=CT X2;(first | (have RB:Box2 w2 w1.heap.size (.int .u64 0) (.int .u64 0):=(by exact (Box2.made w1 (.int .u64 0) (.int .u64 0) 156).l (xt (xd (xr _)) e2));obtain ⟨⟨r0,r1⟩,s0,s1⟩:=RB) | skip)))
    ·go_wp2_with fail;go_meet
     case rel=>exact ⟨_,h,l,rfl,Box2.made w2 _ _ _,h1,h2,H3,xa X2 _⟩
    ·go_wp2_with fail;go_meet
     case rel =>
      refine ⟨_,h,l,rfl,?_,h1,h2,H3,xset (xset X2 (Nat.le_refl _) _) (Nat.le_refl _) _⟩;refine ⟨⟨?_,?_⟩,?_,?_⟩ <;> simp [go_sem,r0,r1,s0,s1]
   case rest =>
    obtain ⟨b,h,l,rfl,B2,h1,h2,h3,X2⟩:=hcut;obtain ⟨⟨q0,q1⟩,_⟩:=B2;obtain ⟨⟨k0,k1,k2⟩,_⟩:=B.l X2;by_cases hok:d * (t:Int)<=9223372036854775807
    ·obtain rfl:h=0:=(by have:=h3.out;omega);have hl:(l:Int)<=9223372036854775807:=(by have:=h3.out;omega);have H:=zL6 HG.out ⟨i0,by omega,by rw [HV.out];exact hok⟩;have H1:Hid (zCF n d i=true):=H;have H2:Hid (intR n d i=sgn n (l:Int)):=by
      rw [zNT H,HV.out];have e3:d * (t:Int)=l:=(by have:=h3.out;omega);rw [e3];rfl
     clear H hok h3 CT ne0 ne1 ne2 ne3 f0 f1 f2 p0 p1 p2 g0 g1 hwd ct;cases n
     ·go_wp2_with fail
      go_ret2
      exact ⟨zC5 H2.out.symm H1.out.symm,xt X1 X2⟩
     ·go_wp2_with fail
      go_ret2
      exact ⟨zC5 H2.out.symm H1.out.symm,xt X1 X2⟩
    ·have H:=zFU (n:=n) (d:=d) (e:=(i:Int)) (fun hh=>hok (by rw [<- HV.out];exact hh.2.2));have H1:Hid (zCF n d i=false):=H;have H2:Hid (intR n d i=0):=zGF H;by_cases hh:h=0
     ·subst hh;have hl:9223372036854775807<(l:Int):=(by have:=h3.out;omega);clear H hok h3 CT ne0 ne1 ne2 ne3 f0 f1 f2 p0 p1 p2 g0 g1 hwd ct;go_wp2_with fail
      go_ret2
      exact ⟨zC5 H2.out.symm H1.out.symm,xt X1 X2⟩
     ·have hh':((h:Int) == 0)=false:=(by rw [beq_eq_false_iff_ne];omega);clear H hok h3 CT ne0 ne1 ne2 ne3 f0 f1 f2 p0 p1 p2 g0 g1 hwd ct;go_wp2_with fail
      go_ret2
      exact ⟨zC5 H2.out.symm H1.out.symm,xt X1 X2⟩
  ·have H:=zFU (n:=n) (d:=d) (e:=e) (fun h=>he ⟨h.1,h.2.1⟩);have H2:Hid (intR n d e=0):=zGF H;have H1:Hid (zCF n d e=false):=H;clear H hg;by_cases h0:e<0
   ·clear he;go_wp2_with fail
    go_ret2
    exact ⟨zC5 H2.out.symm H1.out.symm,X1⟩
   ·have h19:19<e:=(by omega);clear he;go_wp2_with fail
    go_ret2
    exact ⟨zC5 H2.out.symm H1.out.symm,X1⟩
structure ExtW (w:World) where
 wld:World
 ext:Ext w wld
instance (w:World):Nonempty (ExtW w):=⟨⟨w,xr w⟩⟩
end Go.Proofs.YtjlojlgdkfpcdaaGreatDoor

