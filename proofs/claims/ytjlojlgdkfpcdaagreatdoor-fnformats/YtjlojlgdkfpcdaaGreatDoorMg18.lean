/-
  Several texts in one: MuS, DrA, Sb1.
-/
import Derived.Test.YtjlojlgdkfpcdaaGreatDoorMg16
import Derived.Test.YtjlojlgdkfpcdaaGreatDoorWideE
import Derived.Test.YtjlojlgdkfpcdaaGreatDoorMg9
set_option maxRecDepth 8000
set_option maxHeartbeats 8000000
namespace Go.Proofs.YtjlojlgdkfpcdaaGreatDoor
open Go.RowKit
theorem zCV (n:Bool) (d:Int):(sgn n d).natAbs=d.natAbs:=by cases n <;> simp [sgn]
theorem zKQ {na nb:Bool} {a b:Int} (ha:0<=a) (hb:0<=b) (h:sgn na a * sgn nb b ≠ 0):decide (sgn na a * sgn nb b<0)=(na != nb):=by
 have hab:0<a * b:=by
  have h1:a ≠ 0:=fun e=>h (by subst e;cases na <;> simp [sgn]);have h2:b ≠ 0:=fun e=>h (by subst e;cases nb <;> simp [sgn]);exact Int.mul_pos (by omega) (by omega)
 cases na <;> cases nb <;> simp [sgn,Int.neg_mul,Int.mul_neg] <;> omega
theorem mulS (na nb:Bool) (da ea db eb:Int) (w:World) :
  Calls Tryz.prog 85 #[.agg #[.bool na,iQ da,iQ ea],.agg #[.bool nb,iQ db,iQ eb]] w fun r w'=>r=.returned (resV (mulR na da ea nb db eb))/\Ext w w':=by
 obtain ⟨R,hR⟩:=nm (mulR na da ea nb db eb);rw [hR];have X0:=xa (xa (x1 w (.cells #[.bool na,iQ da,iQ ea] 31)) (.cells #[.bool nb,iQ db,iQ eb] 31)) (.cells #[.bool false,.bool false,iQ 0,iQ 0] 99);have Ba:=(Box3.made w (.bool na) (iQ da) (iQ ea) 31).l (xa (x1 _ (.cells #[.bool nb,iQ db,iQ eb] 31)) (.cells #[.bool false,.bool false,iQ 0,iQ 0] 99));have Bb:=(Box3.made (w.alloc (.cells #[.bool na,iQ da,iQ ea] 31)) (.bool nb) (iQ db) (iQ eb) 31).l (x1 _ (.cells #[.bool false,.bool false,iQ 0,iQ 0] 99));have Br:=Box4.made ((w.alloc (.cells #[.bool na,iQ da,iQ ea] 31)).alloc (.cells #[.bool nb,iQ db,iQ eb] 31)) (.bool false) (.bool false) (iQ 0) (iQ 0) 99;simp only [World.size_alloc] at Bb Br;go_enter Tryz.func85,Tryz.ntmps85;go_wp2_with fail;cases ga:zA1 na da ea
 ·have HR:Hid (R=⟨false,false,0,0⟩):=by rw [<- hR];unfold mulR;rw [ga];rfl
  refine (zB5 false na da ea _ ga).mono ?_;rintro r w1 ⟨rfl,x1'⟩;obtain ⟨⟨m0,m1,m2,m3⟩,n0,n1,n2,n3⟩:=Br.l x1';clear ga hR;go_wp2_with fail;exact bodyPost_ret (v:=.agg #[.bool false,.bool false,iQ 0,iQ 0]) (by simp [results,Tryz.results85,go_sem,m0,m1,m2,m3]) rfl ⟨by rw [HR.out],xset (xset (xset (xset (xt X0 x1') (by simp only;omega) _) (by simp only;omega) _) (by simp only;omega) _) (by simp only;omega) _⟩
 ·refine (zB5 true na da ea _ ga).mono ?_;rintro r w1 ⟨rfl,x1'⟩;have Bb1:=Bb.l x1';have Bb1':=Bb1;obtain ⟨⟨q0,q1,q2⟩,_⟩:=Bb1';go_wp2_with fail;cases gb:zA1 nb db eb
  ·have HR:Hid (R=⟨false,false,0,0⟩):=by rw [<- hR];unfold mulR;rw [ga,gb];rfl
   refine (zB5 false nb db eb _ gb).mono ?_;rintro r w2 ⟨rfl,x2'⟩;obtain ⟨⟨m0,m1,m2,m3⟩,n0,n1,n2,n3⟩:=(Br.l x1').l x2';clear ga gb hR q0 q1 q2;go_wp2_with fail;exact bodyPost_ret (v:=.agg #[.bool false,.bool false,iQ 0,iQ 0]) (by simp [results,Tryz.results85,go_sem,m0,m1,m2,m3]) rfl ⟨by rw [HR.out],xset (xset (xset (xset (xt (xt X0 x1') x2') (by simp only;omega) _) (by simp only;omega) _) (by simp only;omega) _) (by simp only;omega) _⟩
  ·refine (zB5 true nb db eb _ gb).mono ?_;rintro r w2 ⟨rfl,x2'⟩;obtain ⟨ga0,ga1,ga2,ga3⟩:=zCM ga;obtain ⟨gb0,gb1,gb2,gb3⟩:=zCM gb;have HR:Hid (putR (na != nb) (da.toNat * db.toNat) (ea+eb) false=R):=by rw [<- hR];unfold mulR;rw [ga,gb];rfl
   have OA:Hid (∀ w2,Calls Tryz.prog 143 #[.agg #[.bool na,iQ da,iQ ea]] w2 fun e w'=>∃ v',e=.returned v'/\ZV w' v' (sgn na da)/\Ext w2 w'):=fun w2=>zHO na da ea w2 (by omega) (by omega);have OB:Hid (∀ w2,Calls Tryz.prog 143 #[.agg #[.bool nb,iQ db,iQ eb]] w2 fun e w'=>∃ v',e=.returned v'/\ZV w' v' (sgn nb db)/\Ext w2 w'):=fun w2=>zHO nb db eb w2 (by omega) (by omega);have MU:Hid (∀ (w2:World) (va vb:Value),ZV w2 va (sgn na da)->ZV w2 vb (sgn nb db)->Calls Tryz.prog 92 #[va,vb] w2 fun e w'=>∃ v',e=.returned v'/\ZV w' v' (sgn na da * sgn nb db)/\Ext w2 w'):=fun w2 va vb h1 h2=>zED w2 h1 h2 2 (by decide) (by rw [zCV];omega) (by rw [zCV];omega);have PB:Hid (((sgn na da * sgn nb db).natAbs:Int)<1000000000 ^ 4/\(sgn na da * sgn nb db).natAbs=da.toNat * db.toNat):=by
    have e1:(sgn na da * sgn nb db).natAbs=da.toNat * db.toNat:=(by rw [Int.natAbs_mul,zCV,zCV];congr 1 <;> omega);refine ⟨?_,e1⟩;rw [e1];have h3:da.toNat * db.toNat<=1000000000000000 * 1000000000000000:=Nat.mul_le_mul (by omega) (by omega);have e4:(1000000000:Int) ^ 4=1000000000000000000000000000000000000:=(by decide);rw [e4];omega
   have SG:Hid (sgn na da * sgn nb db ≠ 0->decide (sgn na da * sgn nb db<0)=(na != nb)):=fun h=>zKQ ga0 gb0 h;have PU:Hid (∀ (w2:World) (v:Value),ZV w2 v (sgn na da * sgn nb db)->Calls Tryz.prog 57 #[v,iQ (ea+eb),.bool false] w2 fun r w'=>r=.returned (resV R)/\Ext w2 w'):=fun w2 v hv=>by
    rw [<- HR.out];exact zFL _ _ w2 hv 4 (by decide) PB.out.1 (by omega) (by omega) _ _ PB.out.2 SG.out
   have wE:IntKind.i64.wrap (ea+eb)=ea+eb:=by rw [IntKind.wrap_i64];omega
   have Ba2:=(Ba.l x1').l x2';have Bb2:=Bb1.l x2';have Br2:=(Br.l x1').l x2';have X2:=xt (xt X0 x1') x2';have Ba2':=Ba2;have Bb2':=Bb2;obtain ⟨⟨p0,p1,p2⟩,_⟩:=Ba2';obtain ⟨⟨p3,p4,p5⟩,_⟩:=Bb2';have nz0:w.heap.size+1+1 ≠ w.heap.size:=by omega
   have nz1:w.heap.size+1+1 ≠ w.heap.size+1:=by omega
   clear ga gb hR q0 q1 q2 Ba Bb Bb1 Br X0 x1' x2' ga0 ga1 gb0 gb1 HR PB SG;go_upto_region 3 with fail;go_region_held3 (fun w'=>(w'.cell? ⟨w.heap.size,0,none⟩=some (.bool na)/\w'.cell? ⟨w.heap.size,1,none⟩=some (iQ da)/\w'.cell? ⟨w.heap.size,2,none⟩=some (iQ ea))/\w'.cell? ⟨w.heap.size+1,0,none⟩=some (.bool nb)/\w'.cell? ⟨w.heap.size+1,1,none⟩=some (iQ db)/\w'.cell? ⟨w.heap.size+1,2,none⟩=some (iQ eb)) (go_keep) (first
    | (go_at_call_of 143 (Value.agg #[.bool na,iQ da,iQ ea]);refine (OA.out _).mono ?_;rintro r w3 ⟨v3,rfl,z3,e3⟩;have X3:Ext w2 w3:=xt (xd (xr _)) e3;obtain ⟨⟨a30,a31,a32⟩,_⟩:=Ba2.l X3;obtain ⟨⟨b30,b31,b32⟩,_⟩:=Bb2.l X3)
    | (go_at_call_of 143 (Value.agg #[.bool nb,iQ db,iQ eb]);refine (OB.out _).mono ?_;rintro r w4 ⟨v4,rfl,z4,e4⟩;have X4:Ext w2 w4:=xt X3 e4;obtain ⟨⟨a40,a41,a42⟩,_⟩:=Ba2.l X4;obtain ⟨⟨b40,b41,b42⟩,_⟩:=Bb2.l X4)
    | (go_at_call 92;refine (MU.out _ _ _ (z3.l e4) z4).mono ?_;rintro r w5 ⟨v5,rfl,z5,e5⟩;have X5:Ext w2 w5:=xt X4 e5;obtain ⟨⟨a50,a51,a52⟩,_⟩:=Ba2.l X5;obtain ⟨⟨b50,b51,b52⟩,_⟩:=Bb2.l X5)
    | (go_at_call 57;refine (PU.out _ _ z5).mono ?_;rintro r w6 ⟨rfl,e6⟩;have X6:Ext w2 w6:=xt X5 e6;obtain ⟨⟨a60,a61,a62⟩,_⟩:=Ba2.l X6;obtain ⟨⟨b60,b61,b62⟩,_⟩:=Bb2.l X6;obtain ⟨⟨m0,m1,m2,m3⟩,n0,n1,n2,n3⟩:=Br2.l X6))
   all_goals
    go_wp2_with fail;exact bodyPost_ret (v:=resV R) (by simp [results,Tryz.results85,go_sem,m0,m1,m2,m3]) rfl ⟨rfl,xset (xset (xset (xset (xt X2 X6) (by simp only;omega) _) (by simp only;omega) _) (by simp only;omega) _) (by simp only;omega) _⟩
def rndR (n:Bool) (d e p:Int) (k:Nat):DR:=if -p - e<=0 then ⟨true,n,d,e⟩ else putR n (rndM k d.toNat (-p - e).toNat false) (-p) false
def zAB (n:Bool) (d e p m:Int):DR:=if (zA1 n d e && decide (-300<=p/\p<=300) && decide (0<=m/\m<=3))=true then rndR n d e p m.toNat else badR
def zV7 (k:Nat):Value:=if k=0 then .func (Fn.func 188) #[] #[] else if k=1 then .func (Fn.func 190) #[] #[] else if k=2 then .func (Fn.func 191) #[] #[] else .func (Fn.func 192) #[] #[]
theorem zGV (k:Nat) (hk:k<=3) (w:World) :
  Calls Tryz.prog 135 #[iQ k] w fun e w'=>e=.returned (.tuple #[zV7 k,.bool true])/\Ext w w':=by
 obtain rfl | rfl | rfl | rfl:k=0\/k=1\/k=2\/k=3:=by omega
 all_goals
  go_enter Tryz.func135,Tryz.ntmps135
  go_wp2
  all_goals exact bodyPost_ret (v:=.tuple #[zV7 _,.bool true]) (by simp [results,Tryz.results135,go_sem];first | rfl | exact ⟨rfl,rfl⟩) rfl ⟨rfl,xr _⟩
theorem zHJ (m:Int) (hm:¬ (0<=m/\m<=3)) (w:World) :
  Calls Tryz.prog 135 #[iQ m] w fun e w'=>∃ v,e=.returned (.tuple #[v,.bool false])/\Ext w w':=by
 have h0:m ≠ 0:=by omega
 have h1:m ≠ 1:=by omega
 have h2:m ≠ 2:=by omega
 have h3:m ≠ 3:=by omega
 clear hm;go_enter Tryz.func135,Tryz.ntmps135
 go_wp2
 all_goals exact bodyPost_ret (by simp [results,Tryz.results135,go_sem];first | rfl | exact ⟨rfl,rfl⟩) rfl ⟨_,rfl,xr _⟩
theorem zR8 {v:Value} {P:Nat} (k:Nat) (hk:k<=3) (n:Nat) (more:Bool) (w:World) (hv:WV v P) (n1:1<=n) (hn:n<=100000) (hT:Tens w) :
  Calls Tryz.prog 137 #[v,iQ n,.bool more,zV7 k] w fun e w'=>∃ v',e=.returned v'/\WV v' (rndM k P n more)/\Ext w w':=by
 obtain rfl | rfl | rfl | rfl:k=0\/k=1\/k=2\/k=3:=by omega
 ·exact zGO n more w hv n1 hn hT
 ·exact zKP n more w hv n1 hn hT
 ·exact zKO n more w hv n1 hn hT
 ·exact zOS n more w hv n1 hn hT
theorem zRC (n:Bool) (d e p m:Int) (w:World) (a1 : -9223372036854775808<=d) (a2:d<=9223372036854775807) (hT:Tens w) :
  Calls Tryz.prog 74 #[.agg #[.bool n,iQ d,iQ e],iQ p,iQ m] w fun r w'=>r=.returned (resV (zAB n d e p m))/\Ext w w':=by
 obtain ⟨R,hR⟩:=nm (zAB n d e p m);rw [hR];have X0:=xa (x1 w (.cells #[.bool n,iQ d,iQ e] 31)) (.cells #[.bool false,.bool false,iQ 0,iQ 0] 99);have Ba:=(Box3.made w (.bool n) (iQ d) (iQ e) 31).l (x1 _ (.cells #[.bool false,.bool false,iQ 0,iQ 0] 99));have Br:=Box4.made (w.alloc (.cells #[.bool n,iQ d,iQ e] 31)) (.bool false) (.bool false) (iQ 0) (iQ 0) 99;simp only [World.size_alloc] at Br;have T:=hT.l X0;clear hT;by_cases hm:0<=m/\m<=3
 ·obtain ⟨k,rfl⟩:=Int.eq_ofNat_of_zero_le hm.1;have hk:k<=3:=by omega
  obtain ⟨F,hF⟩:=nm (zV7 k);have RO:Hid (∀ w2,Calls Tryz.prog 135 #[iQ k] w2 fun e w'=>e=.returned (.tuple #[F,.bool true])/\Ext w2 w'):=fun w2=>by rw [<- hF];exact zGV k hk w2
  cases ga:zA1 n d e
  ·have HR:Hid (R=⟨false,false,0,0⟩):=by rw [<- hR];unfold zAB;rw [ga];rfl
   have GA:Hid (∀ w2,Tens w2->Calls Tryz.prog 66 #[.agg #[.bool n,iQ d,iQ e]] w2 fun e w'=>e=.returned (.bool false)/\Ext w2 w'):=fun w2 hT=>zC9 false n d e w2 a1 a2 hT ga;clear ga hR a1 a2 hm hF hk;go_enter Tryz.func74,Tryz.ntmps74;go_wp2_with fail;refine (RO.out _).mono ?_;rintro r w1 ⟨rfl,x1'⟩;obtain ⟨⟨p0,p1,p2⟩,_⟩:=Ba.l x1';go_wp2_with fail;refine (GA.out _ (T.l x1')).mono ?_;rintro r w2 ⟨rfl,x2'⟩;obtain ⟨⟨m0,m1,m2,m3⟩,n0,n1,n2,n3⟩:=(Br.l x1').l x2';clear p0 p1 p2;go_wp2_with fail;exact bodyPost_ret (v:=.agg #[.bool false,.bool false,iQ 0,iQ 0]) (by simp [results,Tryz.results74,go_sem,m0,m1,m2,m3]) rfl ⟨by rw [HR.out],xset (xset (xset (xset (xt (xt X0 x1') x2') (by simp only;omega) _) (by simp only;omega) _) (by simp only;omega) _) (by simp only;omega) _⟩
  ·have GA:Hid (∀ w2,Tens w2->Calls Tryz.prog 66 #[.agg #[.bool n,iQ d,iQ e]] w2 fun e w'=>e=.returned (.bool true)/\Ext w2 w'):=fun w2 hT=>zC9 true n d e w2 a1 a2 hT ga;by_cases hp : -300<=p/\p<=300
   ·have WI:Hid (∀ w2,Calls Tryz.prog 120 #[iQ p,iQ 300] w2 fun r w'=>r=.returned (.bool true)/\w'=w2):=fun w2=>zEN p 300 true w2 (decide_eq_true hp) (by decide) (by decide);have HR0:rndR n d e p k=R:=(by rw [<- hR];unfold zAB;rw [ga,decide_eq_true hp,decide_eq_true hm];rfl);obtain ⟨ga0,ga1,ga2,ga3⟩:=zCM ga;obtain ⟨hp0,hp1⟩:=hp;by_cases hc : -p - e<=0
    ·have HR:Hid (R=⟨true,n,d,e⟩):=(by rw [<- HR0];unfold rndR;rw [if_pos hc];rfl);clear ga hR HR0 a1 a2 hm hF hk ga0 ga1;go_enter Tryz.func74,Tryz.ntmps74;go_wp2_with fail;refine (RO.out _).mono ?_;rintro r w1 ⟨rfl,x1'⟩;obtain ⟨⟨p0,p1,p2⟩,_⟩:=Ba.l x1';go_wp2_with fail;refine (GA.out _ (T.l x1')).mono ?_;rintro r w2 ⟨rfl,x2'⟩;clear p0 p1 p2;go_wp2_with fail;refine (WI.out _).mono ?_;rintro r w3 ⟨rfl,hw⟩;subst hw;obtain ⟨⟨p0,p1,p2⟩,_⟩:=Ba.l (xt x1' x2');obtain ⟨⟨m0,m1,m2,m3⟩,n0,n1,n2,n3⟩:=(Br.l x1').l x2';go_wp2_with fail;exact bodyPost_ret (v:=.agg #[.bool true,.bool n,iQ d,iQ e]) (by simp [results,Tryz.results74,go_sem,m0,m1,m2,m3]) rfl ⟨by rw [HR.out],xset (xset (xset (xset (xt (xt X0 x1') x2') (by simp only;omega) _) (by simp only;omega) _) (by simp only;omega) _) (by simp only;omega) _⟩
    ·obtain ⟨A,rfl⟩:=Int.eq_ofNat_of_zero_le ga0;obtain ⟨c,hcc⟩:∃ c:Nat,-p - e=(c:Int):=⟨(-p - e).toNat,by omega⟩;have HR:Hid (putR n (rndM k A c false) (-p) false=R):=(by rw [<- HR0];unfold rndR;rw [if_neg hc,hcc,Int.toNat_natCast,Int.toNat_natCast];rfl);have SZ:Hid (∀ w2,Calls Tryz.prog 136 #[.agg #[.bool n,iQ A,iQ e]] w2 fun e w'=>∃ v,e=.returned v/\WV v A/\Ext w2 w'):=fun w2=>zG5 n A e w2 (by omega);have SH:Hid (∀ w2 v,WV v A->Tens w2->Calls Tryz.prog 137 #[v,iQ c,.bool false,F] w2 fun e w'=>∃ v',e=.returned v'/\WV v' (rndM k A c false)/\Ext w2 w'):=fun w2 v hv hT=>(by rw [<- hF];exact zR8 k hk c false w2 hv (by omega) (by omega) hT);have PU:Hid (∀ w2 v,WV v (rndM k A c false)->Tens w2->Calls Tryz.prog 133 #[.bool n,v,iQ (-p),.bool false] w2 fun r w'=>r=.returned (resV R)/\Ext w2 w'):=fun w2 v hv hT=>by
      rw [<- HR.out];exact zF7 _ _ _ w2 hv (by omega) (by omega) hT
     have wP:IntKind.i64.wrap (-p) = -p:=(by rw [IntKind.wrap_i64];omega);have wC:IntKind.i64.wrap (-p - e)=(c:Int):=(by rw [IntKind.wrap_i64];omega);have c1:0<(c:Int):=(by omega);clear ga hR HR0 a1 a2 hm hF hk ga0 ga1 HR hc;go_enter Tryz.func74,Tryz.ntmps74;go_wp2_with fail;refine (RO.out _).mono ?_;rintro r w1 ⟨rfl,x1'⟩;obtain ⟨⟨p0,p1,p2⟩,_⟩:=Ba.l x1';go_wp2_with fail;refine (GA.out _ (T.l x1')).mono ?_;rintro r w2 ⟨rfl,x2'⟩;clear p0 p1 p2;go_wp2_with fail;refine (WI.out _).mono ?_;rintro r w3 ⟨rfl,hw⟩;subst hw;have X2:=xt x1' x2';replace Ba:=Ba.l X2;replace Br:=Br.l X2;replace T:=T.l X2;replace X0:=xt X0 X2;clear X2 x1' x2' RO GA WI;have Ba':=Ba;obtain ⟨⟨p0,p1,p2⟩,_⟩:=Ba';have nz0:w.heap.size+1 ≠ w.heap.size:=(by omega);go_upto_region 7 with fail;go_region_held3 (fun w'=>w'.cell? ⟨w.heap.size,0,none⟩=some (.bool n)/\w'.cell? ⟨w.heap.size,1,none⟩=some (iQ A)/\w'.cell? ⟨w.heap.size,2,none⟩=some (iQ e)) (go_keep) (first
      | (go_at_call 136;refine (SZ.out _).mono ?_;rintro rr w6a ⟨v6,rfl,hW6,e6⟩;have X6:Ext w3 w6a:=xt (xd (xr _)) e6;obtain ⟨⟨ga0,ga1,ga2⟩,_⟩:=Ba.l X6)
      | (go_at_call 137;refine (SH.out _ _ hW6 (T.l X6)).mono ?_;rintro rr w6b ⟨v7,rfl,hW7,e7⟩;have X7:Ext w3 w6b:=xt X6 e7;obtain ⟨⟨gb0,gb1,gb2⟩,_⟩:=Ba.l X7)
      | (go_at_call 133;refine (PU.out _ _ hW7 (T.l X7)).mono ?_;rintro rr w6c ⟨rfl,e8⟩;have X8:Ext w3 w6c:=xt X7 e8;obtain ⟨⟨gc0,gc1,gc2⟩,_⟩:=Ba.l X8;obtain ⟨⟨m0,m1,m2,m3⟩,k0,k1,k2,k3⟩:=Br.l X8))
     all_goals
      go_wp2_with fail;exact bodyPost_ret (v:=resV R) (by simp [results,Tryz.results74,go_sem,m0,m1,m2,m3]) rfl ⟨rfl,xset (xset (xset (xset (xt X0 X8) (by simp only;omega) _) (by simp only;omega) _) (by simp only;omega) _) (by simp only;omega) _⟩
   ·have WI:Hid (∀ w2,Calls Tryz.prog 120 #[iQ p,iQ 300] w2 fun r w'=>r=.returned (.bool false)/\w'=w2):=fun w2=>zEN p 300 false w2 (decide_eq_false hp) (by decide) (by decide);have HR:Hid (R=⟨false,false,0,0⟩):=(by rw [<- hR];unfold zAB;rw [ga,decide_eq_false hp];rfl);clear ga hR a1 a2 hm hF hk hp;go_enter Tryz.func74,Tryz.ntmps74;go_wp2_with fail;refine (RO.out _).mono ?_;rintro r w1 ⟨rfl,x1'⟩;obtain ⟨⟨p0,p1,p2⟩,_⟩:=Ba.l x1';go_wp2_with fail;refine (GA.out _ (T.l x1')).mono ?_;rintro r w2 ⟨rfl,x2'⟩;clear p0 p1 p2;go_wp2_with fail;refine (WI.out _).mono ?_;rintro r w3 ⟨rfl,hw⟩;subst hw;obtain ⟨⟨m0,m1,m2,m3⟩,n0,n1,n2,n3⟩:=(Br.l x1').l x2';go_wp2_with fail;exact bodyPost_ret (v:=.agg #[.bool false,.bool false,iQ 0,iQ 0]) (by simp [results,Tryz.results74,go_sem,m0,m1,m2,m3]) rfl ⟨by rw [HR.out],xset (xset (xset (xset (xt (xt X0 x1') x2') (by simp only;omega) _) (by simp only;omega) _) (by simp only;omega) _) (by simp only;omega) _⟩
 ·have RO:Hid (∀ w2,Calls Tryz.prog 135 #[iQ m] w2 fun e w'=>∃ v,e=.returned (.tuple #[v,.bool false])/\Ext w2 w'):=fun w2=>zHJ m hm w2;have HR:Hid (R=⟨false,false,0,0⟩):=by rw [<- hR];unfold zAB;rw [decide_eq_false hm,Bool.and_false];rfl
  clear hR hm a1 a2;go_enter Tryz.func74,Tryz.ntmps74;go_wp2_with fail;refine (RO.out _).mono ?_;rintro r w1 ⟨v,rfl,x1'⟩;obtain ⟨⟨m0,m1,m2,m3⟩,n0,n1,n2,n3⟩:=Br.l x1';go_wp2_with fail;exact bodyPost_ret (v:=.agg #[.bool false,.bool false,iQ 0,iQ 0]) (by simp [results,Tryz.results74,go_sem,m0,m1,m2,m3]) rfl ⟨by rw [HR.out],xset (xset (xset (xset (xt X0 x1') (by simp only;omega) _) (by simp only;omega) _) (by simp only;omega) _) (by simp only;omega) _⟩
theorem fitKr {P m k:Nat} (h:P<10 ^ m) (hm:m<=9 * k):(P:Int)<1000000000 ^ k:=by
 have h1:=zB3 hm;have h2:((10 ^ (9 * k):Nat):Int)=1000000000 ^ k:=by rw [Int.natCast_pow];exact pow9 k
 omega
theorem up_mode {P c:Nat} {T:Nat} (hT:10 ^ c=T) (m:Int) (u:Bool) (hu:zAV m.toNat (decide (P / T % 2=1)) (zCL P c false)=u) :
  (m=0->u=(decide (T<2 * (P % T)) || (decide (2 * (P % T)=T) && decide (P / T % 2=1))))/\(m=1->u=decide (T<=2 * (P % T)))/\(m=2->u=false)/\(m=3->u=decide (P % T ≠ 0)):=by
 have rn:zCL P c false=if T<2 * (P % T) then 3 else if 2 * (P % T)=T then 2 else if 0<P % T then 1 else 0:=by
  unfold zCL;rw [hT];simp
 have t0:0<T:=by rw [<- hT];exact zA7 _
 refine ⟨fun h=>?_,fun h=>?_,fun h=>?_,fun h=>?_⟩
 ·subst h;rw [<- hu,show (0:Int).toNat=0 from rfl,up_eq hT,Bool.false_or]
 ·subst h;rw [<- hu,rn];generalize P % T=r;show decide (2<=_)=_;by_cases h1:T<2 * r
  ·rw [if_pos h1,decide_eq_true (by omega),decide_eq_true (by omega)]
  ·rw [if_neg h1];by_cases h2:2 * r=T
   ·rw [if_pos h2,decide_eq_true (by omega),decide_eq_true (by omega)]
   ·rw [if_neg h2,decide_eq_false (by split <;> omega),decide_eq_false (by omega)]
 ·subst h;rw [<- hu];rfl
 ·subst h;rw [<- hu,rn];generalize P % T=r;show decide (_ ≠ 0)=_;by_cases h1:T<2 * r
  ·rw [if_pos h1,decide_eq_true (by omega),decide_eq_true (by omega)]
  ·rw [if_neg h1];by_cases h2:2 * r=T
   ·rw [if_pos h2,decide_eq_true (by omega),decide_eq_true (by omega)]
   ·rw [if_neg h2];by_cases h3:0<r
    ·rw [if_pos h3,decide_eq_true (by omega),decide_eq_true (by omega)]
    ·rw [if_neg h3,decide_eq_false (by omega),decide_eq_false (by omega)]
theorem zOW (n:Bool) (A:Nat) (e p m:Int) (c:Nat) (w:World) (ga:zA1 n A e=true) (hA:A ≠ 0) (hp0:¬ p < -300) (hp1:¬ p > 300) (hm0:¬ m<0) (hm1:¬ m > 3) (hc : -p - e=(c:Int)) (c0:1<=c) :
  Calls Tryz.prog 84 #[.agg #[.bool n,iQ A,iQ e],iQ p,iQ m] w fun r w'=>r=.returned (resV (putR n (rndM m.toNat A c false) (-p) false))/\Ext w w':=by
 obtain ⟨KK,hKK⟩:∃ K:Nat,K=100:=⟨_,rfl⟩;obtain ⟨R,hR⟩:=nm (putR n (rndM m.toNat A c false) (-p) false);rw [hR];obtain ⟨ga0,ga1,ga2,ga3⟩:=zCM ga;obtain ⟨T,hT⟩:∃ T:Nat,10 ^ c=T:=⟨_,rfl⟩;have T0:0<T:=by rw [<- hT];exact zA7 _
 have TK:Hid ((T:Int)<1000000000 ^ KK):=fitKr (m:=c+1) (by rw [<- hT,Nat.pow_succ];have:=zA7 c;omega) (by omega);have SK:Hid ((1000000000:Int) ^ 2<=1000000000 ^ KK):=zB8 (show 2<=KK by omega);have e2:(1000000000:Int) ^ 2=1000000000000000000:=by decide
 have AK:Hid ((A:Int)<1000000000 ^ KK):=by have:=SK.out;show _<_;omega
 have qA:A / T<=A:=Nat.div_le_self _ _;have rT:A % T<T:=Nat.mod_lt _ T0;obtain ⟨u,hu⟩:∃ u:Bool,zAV m.toNat (decide (A / T % 2=1)) (zCL A c false)=u:=⟨_,rfl⟩;have UM:=up_mode hT m u hu;have RU:rndM m.toNat A c false=A / T+if u=true then 1 else 0:=by unfold rndM;rw [hT,hu]
 have DVE:Hid ((A:Int) / (T:Int)=((A / T:Nat):Int)/\(A:Int) % (T:Int)=((A % T:Nat):Int)):=⟨(Int.natCast_ediv _ _).symm,(Int.natCast_emod _ _).symm⟩;obtain ⟨q,hq⟩:=nm (A / T);obtain ⟨r,hr⟩:=nm (A % T);rw [hq] at qA UM RU DVE;rw [hr] at rT UM DVE;obtain ⟨Q,hQ⟩:=nm (q+(if u=true then 1 else 0));have FQ:Hid (putR n Q (-p) false=R/\(u=true->(q:Int)+1=Q)/\(u=false->q=Q)/\Q<=1000000000000000):=by
  rw [hQ] at RU;refine ⟨by rw [<- hR,RU],fun h=>?_,fun h=>?_,?_⟩
  ·rw [<- hQ,if_pos h];omega
  ·rw [<- hQ,if_neg (by rw [h];decide)];omega
  ·rw [<- hQ];split <;> omega
 have HUM:Hid ((m=0->u=(decide (T<2 * r) || (decide (2 * r=T) && decide (q % 2=1))))/\(m=1->u=decide (T<=2 * r))/\(m=2->u=false)/\(m=3->u=decide (r ≠ 0))):=UM;have DV:Hid (∀ (w2:World) (va vb:Value) (a b:Int),ZV w2 va a->ZV w2 vb b->0<=a->0<b->a<1000000000 ^ KK->b<1000000000 ^ KK->Calls Tryz.prog 114 #[va,vb] w2 fun e w'=>∃ q0 q1 q2 q3 q4 r0 r1 r2 r3 r4,e=.returned (.tuple #[.agg #[iQ q0,.bool q1,.slice q2 q3 q4],.agg #[iQ r0,.bool r1,.slice r2 r3 r4]])/\ZV w' (.agg #[iQ q0,.bool q1,.slice q2 q3 q4]) (a / b)/\ZV w' (.agg #[iQ r0,.bool r1,.slice r2 r3 r4]) (a % b)/\Ext w2 w'):=fun w2 va vb a b ha hb a0 b0 ka kb=>by
  refine (zK9 w2 ha hb a0 b0 KK (by omega) ka kb).mono ?_;rintro e w' ⟨vq,vr,rfl,hq,hr,hx⟩;obtain ⟨q0,q1,q2,q3,q4,rfl⟩:=hq.shape;obtain ⟨r0,r1,r2,r3,r4,rfl⟩:=hr.shape;exact ⟨q0,q1,q2,q3,q4,r0,r1,r2,r3,r4,rfl,hq,hr,hx⟩
 have DV6:Hid (∀ (w2:World) (va vb:Value),ZV w2 va (A:Int)->ZV w2 vb (T:Int)->Calls Tryz.prog 114 #[va,vb] w2 fun e w'=>∃ q0 q1 q2 q3 q4 r0 r1 r2 r3 r4,e=.returned (.tuple #[.agg #[iQ q0,.bool q1,.slice q2 q3 q4],.agg #[iQ r0,.bool r1,.slice r2 r3 r4]])/\ZV w' (.agg #[iQ q0,.bool q1,.slice q2 q3 q4]) (q:Int)/\ZV w' (.agg #[iQ r0,.bool r1,.slice r2 r3 r4]) (r:Int)/\Ext w2 w'):=fun w2 va vb h1 h2=>by
  rw [<- DVE.out.1,<- DVE.out.2];exact DV.out w2 va vb A T h1 h2 (by omega) (by omega) AK.out TK.out
 have DV8:Hid (∀ (w2:World) (va vb:Value),ZV w2 va (q:Int)->ZV w2 vb (2:Int)->Calls Tryz.prog 114 #[va,vb] w2 fun e w'=>∃ q0 q1 q2 q3 q4 r0 r1 r2 r3 r4,e=.returned (.tuple #[.agg #[iQ q0,.bool q1,.slice q2 q3 q4],.agg #[iQ r0,.bool r1,.slice r2 r3 r4]])/\ZV w' (.agg #[iQ q0,.bool q1,.slice q2 q3 q4]) ((q / 2:Nat):Int)/\ZV w' (.agg #[iQ r0,.bool r1,.slice r2 r3 r4]) ((q % 2:Nat):Int)/\Ext w2 w'):=fun w2 va vb h1 h2=>by
  rw [Int.natCast_ediv q 2,Int.natCast_emod q 2];exact DV.out w2 va vb _ 2 h1 h2 (by omega) (by omega) (by have:=AK.out;omega) (by have:=SK.out;omega)
 have SM:Hid (∀ (w2:World) (n:Int),0<=n->n<=1000000000000000->Calls Tryz.prog 58 #[iQ n] w2 fun e w'=>∃ v',e=.returned v'/\ZV w' v' n/\Ext w2 w'):=fun w2 n n0 n1=>zBL n w2 (by omega) (by omega);have AD:Hid (∀ (w2:World) (va vb:Value) (a b:Int),ZV w2 va a->ZV w2 vb b->(a.natAbs:Int)<1000000000 ^ KK->(b.natAbs:Int)<1000000000 ^ KK->Calls Tryz.prog 116 #[va,vb] w2 fun e w'=>∃ z0 z1 p n c,e=.returned (.agg #[iQ z0,.bool z1,.slice p n c])/\ZV w' (.agg #[iQ z0,.bool z1,.slice p n c]) (a+b)/\Ext w2 w'):=fun w2 va vb a b ha hb ka kb=>by
  refine (zMV w2 ha hb KK (by omega) ka kb).mono ?_;rintro e w' ⟨v',rfl,hz,hx⟩;obtain ⟨z0,z1,p,n,c,rfl⟩:=hz.shape;exact ⟨z0,z1,p,n,c,rfl,hz,hx⟩
 have AR:Hid (((r:Int).natAbs:Int)<1000000000 ^ KK/\((q:Int).natAbs:Int)<1000000000 ^ KK/\((1:Int).natAbs:Int)<1000000000 ^ KK):=⟨by have:=TK.out;omega,by have:=AK.out;omega,by have:=SK.out;omega⟩;have ZR:Hid (∀ (w2:World) (v:Value) (z:Int) (c:Bool),ZV w2 v z->(z == 0)=c->Calls Tryz.prog 113 #[v] w2 fun e w'=>e=.returned (.bool c)/\Ext w2 w'):=fun w2 v z c hv hc=>by
  rw [<- hc];exact zH0 w2 hv
 have TN6:Hid (∀ (w2:World),Calls Tryz.prog 93 #[iQ c] w2 fun e w'=>∃ v',e=.returned v'/\ZV w' v' (T:Int)/\Ext w2 w'):=fun w2=>by
  have:=zHF c w2 (by omega);have e3:((10:Int) ^ c)=(T:Int):=by rw [<- hT,Int.natCast_pow];rfl
  rw [e3] at this;exact this
 have PU:Hid (∀ (w2:World) (v:Value),ZV w2 v (sgn n Q)->Calls Tryz.prog 57 #[v,iQ (-p),.bool false] w2 fun r w'=>r=.returned (resV R)/\Ext w2 w'):=fun w2 v hv=>by
  rw [<- FQ.out.1];refine zFL _ _ w2 hv 2 (by decide) (by have:=FQ.out.2.2.2;rw [zCV,e2];omega) (by omega) (by omega) _ _ (by rw [zCV,Int.natAbs_natCast]) (fun h=>?_);cases n <;> simp [sgn] at h ⊢ <;> omega
 have GA:Hid (∀ w2,Calls Tryz.prog 76 #[.agg #[.bool n,iQ A,iQ e]] w2 fun e w'=>e=.returned (.bool true)/\Ext w2 w'):=fun w2=>zB5 true n A e w2 ga;have hA':((A:Int) == 0)=false:=by rw [beq_eq_false_iff_ne];omega
 have wP:IntKind.i64.wrap (-p) = -p:=by rw [IntKind.wrap_i64];omega
 have wC:IntKind.i64.wrap (-p - e)=(c:Int):=by rw [IntKind.wrap_i64];omega
 have c1:¬ (c:Int)<=0:=by omega
 have AB:A<1000000000000000:=by omega
 have X0:=xa (x1 w (.cells #[.bool n,iQ A,iQ e] 31)) (.cells #[.bool false,.bool false,iQ 0,iQ 0] 99);have Ba:=(Box3.made w (.bool n) (iQ A) (iQ e) 31).l (x1 _ (.cells #[.bool false,.bool false,iQ 0,iQ 0] 99));have Br:=Box4.made (w.alloc (.cells #[.bool n,iQ A,iQ e] 31)) (.bool false) (.bool false) (iQ 0) (iQ 0) 99;simp only [World.size_alloc] at Br;clear ga ga0 ga1 ga2 ga3 hR hQ hq hr hu UM RU hT DV DVE hKK hc c0 hA qA e2;go_enter Tryz.func84,Tryz.ntmps84;go_wp2_with fail;refine (GA.out _).mono ?_;rintro rr w4 ⟨rfl,x1'⟩;replace Ba:=Ba.l x1';replace Br:=Br.l x1';replace X0:=xt X0 x1';clear x1' GA;have Ba':=Ba;obtain ⟨⟨p0,p1,p2⟩,_⟩:=Ba';go_upto_region 6 with fail;go_cut [8,9] (fun v x wc=>∃ bq br,v=.pointer (some ⟨bq,0,none⟩)/\x=.pointer (some ⟨br,0,none⟩)/\Two w4 wc bq br (q:Int) (r:Int))
 case first =>
  go_wp2_with fail;refine (SM.out _ A (by omega) (by omega)).mono ?_;rintro rr w5 ⟨v5,rfl,z5,x5⟩;go_wp2_with fail;refine (TN6.out _).mono ?_;rintro rr w6 ⟨v6,rfl,z6,x6⟩;go_wp2_with fail;refine (DV6.out _ _ _ (z5.l x6) z6).mono ?_;rintro rr w7 ⟨q0,q1,q2,q3,q4,r0,r1,r2,r3,r4,rfl,hqd,hrd,ed⟩;have Xd:=xt (xt x5 x6) ed;go_wp2_with fail;go_meet
  case rel =>
   first
   | (refine ⟨w7.heap.size,w7.heap.size+1,rfl,rfl,?_⟩;exact two1 (w:=w7) Xd hqd hrd)
   | (refine ⟨w7.heap.size+1,w7.heap.size,rfl,rfl,?_⟩;exact two2 (w:=w7) Xd hqd hrd)
 case rest =>
  obtain ⟨b10,b11,rfl,rfl,l10,l11,ne10,Z10,Z11,x7⟩:=hcut
  rename World=>w7
  clear p0 p1 p2 DV6;have Z11':=Z11;obtain ⟨y0,y1,y2,y3,y4,⟨⟨i0,i1,i2⟩,_⟩,hy⟩:=Z11';go_wp2_with fail;refine (AD.out _ _ _ _ _ hy hy AR.out.1 AR.out.1).mono ?_;rintro rr w8 ⟨z0,z1,z2,z3,z4,rfl,hz8,x8'⟩;go_wp2_with fail;refine (TN6.out _).mono ?_;rintro rr w8' ⟨vt,rfl,hzt,x8''⟩;go_wp2_with fail;refine (zMT _ (hz8.l x8'') hzt).mono ?_;rintro rr w9 ⟨rfl,x9'⟩;obtain ⟨hf,hhf⟩:=nm (cmpI ((r:Int)+(r:Int)) (T:Int));rw [hhf];have HF:Hid ((T<2 * r->hf=1)/\(2 * r=T->hf=0)/\(2 * r<T->hf = -1)):=⟨fun h=>by rw [<- hhf];exact zE2 (by omega),fun h=>by rw [<- hhf,show (r:Int)+(r:Int)=(T:Int) by omega];exact zMU _,fun h=>by rw [<- hhf];exact zEK (by omega)⟩;have X9:=xt (xt x8' x8'') x9';replace Z10:=Z10.l X9;replace Z11:=Z11.l X9;replace x7:=xt x7 X9;clear hhf hz8 hzt x8' x8'' x9' X9 i0 i1 i2 hy TN6;have Z10':=Z10;obtain ⟨y0,y1,y2,y3,y4,⟨⟨i0,i1,i2⟩,_⟩,hy⟩:=Z10';go_upto_region 8 with fail;go_cut [11,12] (fun v x wc=>∃ bq br,v=.pointer (some ⟨bq,0,none⟩)/\x=.pointer (some ⟨br,0,none⟩)/\Two w9 wc bq br ((q / 2:Nat):Int) ((q % 2:Nat):Int))
  case first =>
   have hltb:b10<w9.heap.size:=World.block_lt_of_cell? _ _ i0;have neb0:w9.heap.size ≠ b10:=by omega
   have neb1:w9.heap.size+1 ≠ b10:=by omega
   go_region_held3 (fun w'=>w'.cell? ⟨b10,0,none⟩=some (iQ y0)/\w'.cell? ⟨b10,1,none⟩=some (.bool y1)/\w'.cell? ⟨b10,2,none⟩=some (.slice y2 y3 y4)) (go_keep) (first
    | (go_at_call 58;refine (SM.out _ 2 (by decide) (by decide)).mono ?_;rintro rr w9s ⟨vs,rfl,hzs,es⟩;have Xs:Ext w9 w9s:=xt (by first | exact xd (xr _) | exact xd (xa (xr _) _) | exact xd (xa (xa (xr _) _) _)) es;have j0:=cell_later Xs i0;have j1:=cell_later Xs i1;have j2:=cell_later Xs i2;have m0:=World.new_ne w9s _ j0;have m0':w9s.heap.size+1 ≠ b10:=(by have:=Xs.size;omega);(try have na1:w9s.heap.size ≠ w9.heap.size:=(by have hes:=es.size;(try simp at hes);omega));(try have na2:w9s.heap.size ≠ w9.heap.size+1:=(by have hes:=es.size;(try simp at hes);omega));(try have na3:w9.heap.size ≠ w9s.heap.size:=(by have hes:=es.size;(try simp at hes);omega));(try have na4:w9.heap.size+1 ≠ w9s.heap.size:=(by have hes:=es.size;(try simp at hes);omega)))
    | (go_at_call 114;refine (DV8.out _ _ _ (hy.l (by first | exact Xs | exact xa Xs _ | exact xa (xa Xs _) _)) (by first | exact hzs | exact hzs.l (x1 _ _) | exact hzs.l (xa (x1 _ _) _))).mono ?_;rintro rr w9d ⟨q0,q1,q2,q3,q4,r0,r1,r2,r3,r4,rfl,hqd,hrd,ed⟩;have Xd:Ext w9 w9d:=xt (by first | exact Xs | exact xa Xs _ | exact xa (xa Xs _) _) ed;have k0:=cell_later Xd i0;have k1:=cell_later Xd i1;have k2:=cell_later Xd i2;have m1:=World.new_ne w9d _ k0;have m1':w9d.heap.size+1 ≠ b10:=(by have:=Xd.size;omega);(try have RA:Box3 w9d (w9.heap.size) (iQ 0) (.bool false) (.slice none 0 0):=(by exact ((Box3.made w9 (iQ 0) (.bool false) (.slice none 0 0) 103).l (xt (by first | exact xd (xr _) | exact xd (xa (xr _) _)) es)).l (xt (by first | exact xr _ | exact xa (xr _) _) ed)));(try have RB:Box3 w9d (w9.heap.size+1) (iQ 0) (.bool false) (.slice none 0 0):=(by have h:=((Box3.made (w9.alloc (.cells #[iQ 0,.bool false,.slice none 0 0] 103)) (iQ 0) (.bool false) (.slice none 0 0) 103).l (xt (xd (xr _)) es)).l ed;simp only [World.size_alloc] at h;exact h));(try have RC:Box3 w9d (w9s.heap.size) (iQ 0) (.bool false) (.slice none 0 0):=(by exact (Box3.made w9s (iQ 0) (.bool false) (.slice none 0 0) 103).l (xt (by first | exact xr _ | exact xa (xr _) _) ed)));(try have RD:Box3 w9d (w9s.heap.size+1) (iQ 0) (.bool false) (.slice none 0 0):=(by have h:=(Box3.made (w9s.alloc (.cells #[iQ 0,.bool false,.slice none 0 0] 103)) (iQ 0) (.bool false) (.slice none 0 0) 103).l ed;simp only [World.size_alloc] at h;exact h));(try have RA':=RA;try obtain ⟨⟨a00,a01,a02⟩,a03,a04,a05⟩:=RA');(try obtain ⟨⟨a10,a11,a12⟩,a13,a14,a15⟩:=RA.up);(try have RB':=RB;try obtain ⟨⟨b00,b01,b02⟩,b03,b04,b05⟩:=RB');(try obtain ⟨⟨b10,b11,b12⟩,b13,b14,b15⟩:=RB.up);(try have RC':=RC;try obtain ⟨⟨c00,c01,c02⟩,c03,c04,c05⟩:=RC');(try obtain ⟨⟨c10,c11,c12⟩,c13,c14,c15⟩:=RC.up);(try have RD':=RD;try obtain ⟨⟨d00,d01,d02⟩,d03,d04,d05⟩:=RD');(try obtain ⟨⟨d10,d11,d12⟩,d13,d14,d15⟩:=RD.up);(try have nb0:w9d.heap.size ≠ w9.heap.size:=(by have hes:=es.size;(try simp at hes);have hed:=ed.size;(try simp at hed);omega));(try have nc0:w9.heap.size ≠ w9d.heap.size:=(by have hes:=es.size;(try simp at hes);have hed:=ed.size;(try simp at hed);omega));(try have nb1:w9d.heap.size ≠ w9.heap.size+1:=(by have hes:=es.size;(try simp at hes);have hed:=ed.size;(try simp at hed);omega));(try have nc1:w9.heap.size+1 ≠ w9d.heap.size:=(by have hes:=es.size;(try simp at hes);have hed:=ed.size;(try simp at hed);omega));(try have nb2:w9d.heap.size ≠ w9s.heap.size:=(by have hed:=ed.size;(try simp at hed);omega));(try have nc2:w9s.heap.size ≠ w9d.heap.size:=(by have hed:=ed.size;(try simp at hed);omega));(try have nb3:w9d.heap.size ≠ w9s.heap.size+1:=(by have hed:=ed.size;(try simp at hed);omega));(try have nc3:w9s.heap.size+1 ≠ w9d.heap.size:=(by have hed:=ed.size;(try simp at hed);omega))))
   all_goals
    have Ss:=Xs.size;have esS:=es.size;have edS:=ed.size
    (try simp at esS)
    (try simp at edS)
    go_wp2_with fail;go_meet
    case rel =>
     first
     | (refine ⟨w9.heap.size,w9.heap.size+1,rfl,rfl,?_⟩;exact two5 (w:=w9d) Xd hqd hrd RA RB (Nat.le_refl _) (Nat.le_succ _) (by omega))
     | (refine ⟨w9.heap.size+1,w9.heap.size,rfl,rfl,?_⟩;exact two5 (w:=w9d) Xd hqd hrd RB RA (Nat.le_succ _) (Nat.le_refl _) (by omega))
     | (refine ⟨w9s.heap.size,w9s.heap.size+1,rfl,rfl,?_⟩;exact two5 (w:=w9d) Xd hqd hrd RC RD Ss (Nat.le_succ_of_le Ss) (by omega))
     | (refine ⟨w9s.heap.size+1,w9s.heap.size,rfl,rfl,?_⟩;exact two5 (w:=w9d) Xd hqd hrd RD RC (Nat.le_succ_of_le Ss) Ss (by omega))
     | (refine ⟨w9.heap.size,w9s.heap.size,rfl,rfl,?_⟩;exact two5 (w:=w9d) Xd hqd hrd RA RC (Nat.le_refl _) Ss (by omega))
     | (refine ⟨w9s.heap.size,w9.heap.size,rfl,rfl,?_⟩;exact two5 (w:=w9d) Xd hqd hrd RC RA Ss (Nat.le_refl _) (by omega))
     | (refine ⟨w9.heap.size,w9d.heap.size,rfl,rfl,?_⟩;exact two3 (w:=w9d) Xd hqd hrd RA (Nat.le_refl _))
     | (refine ⟨w9d.heap.size,w9.heap.size,rfl,rfl,?_⟩;exact two4 (w:=w9d) Xd hqd hrd RA (Nat.le_refl _))
     | (refine ⟨w9s.heap.size,w9d.heap.size,rfl,rfl,?_⟩;exact two3 (w:=w9d) Xd hqd hrd RC Ss)
     | (refine ⟨w9d.heap.size,w9s.heap.size,rfl,rfl,?_⟩;exact two4 (w:=w9d) Xd hqd hrd RC Ss)
     | (refine ⟨w9d.heap.size,w9d.heap.size+1,rfl,rfl,?_⟩;exact two1 (w:=w9d) Xd hqd hrd)
     | (refine ⟨w9d.heap.size+1,w9d.heap.size,rfl,rfl,?_⟩;exact two2 (w:=w9d) Xd hqd hrd)
  case rest =>
   obtain ⟨b13,b14,rfl,rfl,l13,l14,ne13,Z13,Z14,xa'⟩:=hcut
   rename World=>wa
   replace Z10:=Z10.l xa';replace Z11:=Z11.l xa';have lt10:b10<w9.heap.size:=World.block_lt_of_cell? _ _ i0;replace x7:=xt x7 xa';clear i0 i1 i2 hy DV8 Z13 l13 ne13 xa';go_upto_block 0 with fail;go_cut [13] (fun v wc=>v=.bool u/\Ext wa wc)
   case first =>
    have hm4:m=0\/m=1\/m=2\/m=3:=by omega
    rcases hm4 with rfl | rfl | rfl | rfl
    ·have HUP:=HUM.out.1 rfl;clear HUM hm0 hm1;obtain ⟨y0,y1,y2,y3,y4,⟨⟨i0,i1,i2⟩,_⟩,hy⟩:=Z14;by_cases g1:T<2 * r
     ·obtain rfl:=HF.out.1 g1;have U:u=true:=(by rw [HUP];simp [g1]);clear g1 HUP;go_wp2_with fail;go_meet
      case rel=>exact ⟨by rw [U],xr _⟩
     ·by_cases g2:2 * r=T
      ·obtain rfl:=HF.out.2.1 g2;have U:u=decide (q % 2=1):=(by rw [HUP];simp [g2]);clear g1 g2 HUP;go_wp2_with fail;refine (ZR.out _ _ _ (decide (q % 2=0)) hy (by rw [Bool.eq_iff_iff,beq_iff_eq,decide_eq_true_eq];omega)).mono ?_;rintro rr wb ⟨rfl,xb'⟩;go_wp2_with fail;go_meet
       case rel=>exact ⟨by rw [U];congr 1;rw [Bool.eq_iff_iff];simp,xb'⟩
      ·obtain rfl:=HF.out.2.2 (by omega);have U:u=false:=(by rw [HUP];simp [g1,g2]);clear g1 g2 HUP;go_wp2_with fail;go_meet
       case rel=>exact ⟨by rw [U],xr _⟩
    ·have HUP:=HUM.out.2.1 rfl;clear HUM hm0 hm1;by_cases g1:T<=2 * r
     ·have hf0:0<=hf:=by
       rcases Nat.lt_or_ge T (2 * r) with h | h
       ·have:=HF.out.1 h;omega
       ·have:=HF.out.2.1 (by omega);omega
      have U:u=true:=(by rw [HUP];simp [g1]);clear g1 HUP;go_wp2_with fail;go_meet
      case rel=>exact ⟨by rw [U],xr _⟩
     ·obtain rfl:=HF.out.2.2 (by omega);have U:u=false:=(by rw [HUP];simp [g1]);clear g1 HUP;go_wp2_with fail;go_meet
      case rel=>exact ⟨by rw [U],xr _⟩
    ·have U:=HUM.out.2.2.1 rfl;clear HUM hm0 hm1;go_wp2_with fail;go_meet
     case rel=>exact ⟨by rw [U],xr _⟩
    ·have U:=HUM.out.2.2.2 rfl;clear HUM hm0 hm1;obtain ⟨y0,y1,y2,y3,y4,⟨⟨i0,i1,i2⟩,_⟩,hy⟩:=Z11;go_wp2_with fail;refine (ZR.out _ _ _ (decide (r=0)) hy (by rw [Bool.eq_iff_iff,beq_iff_eq,decide_eq_true_eq];omega)).mono ?_;rintro rr wb ⟨rfl,xb'⟩;go_wp2_with fail;go_meet
     case rel=>exact ⟨by rw [U];congr 1;rw [Bool.eq_iff_iff];simp,xb'⟩
   case rest =>
    obtain ⟨rfl,xb'⟩:=hcut
    rename World=>wb
    replace Z10:=Z10.l xb';replace x7:=xt x7 xb';clear Z14 Z11 l14 HF HUM ZR xb' hm0 hm1;go_upto_if 92 with fail;go_cut [] (fun wc=>ZIn wc b10 (Q:Int)/\Ext w4 wc)
    case first =>
     have Z10':=Z10;obtain ⟨y0,y1,y2,y3,y4,⟨⟨i0,i1,i2⟩,j0,j1,j2⟩,hy⟩:=Z10';cases u
     ·have hq:=FQ.out.2.2.1 rfl;go_wp2_with fail;go_meet
      case rel=>exact ⟨by rw [<- hq];exact Z10,x7⟩
     ·have hq:=FQ.out.2.1 rfl;go_upto_region 18 with fail;go_region_with (first
       | (go_at_call 58;refine (SM.out _ 1 (by decide) (by decide)).mono ?_;rintro rr wc ⟨vs,rfl,hzs,es⟩;have Xs:Ext wb wc:=xt (xd (xr _)) es;have k0:=cell_later Xs i0;have k1:=cell_later Xs i1;have k2:=cell_later Xs i2)
       | (go_at_call 116;refine (AD.out _ _ _ _ _ (hy.l Xs) hzs AR.out.2.1 AR.out.2.2).mono ?_;rintro rr wd ⟨q0,q1,q2,q3,q4,rfl,hzd,ed⟩;have Xd:Ext wb wd:=xt Xs ed;have ZZ:=Z10.l Xd;have ZZ':=ZZ;obtain ⟨g0,g1,g2,g3,g4,⟨⟨k0',k1',k2'⟩,jj0,jj1,jj2⟩,_⟩:=ZZ'))
      all_goals
       rw [hq] at hzd;go_wp2_with fail;go_meet
       case rel=>exact ⟨ZZ.put hzd,Ext.set3 (xt x7 Xd) l10 _ _ _⟩
    case rest =>
     obtain ⟨Z10,x7⟩:=hcut
     rename World=>wc
     have lt4:w.heap.size+1<w4.heap.size:=World.block_lt_of_cell? _ _ Br.1.1;replace Ba:=Ba.l x7;replace Br:=Br.l x7;replace X0:=xt X0 x7;have Ba':=Ba;obtain ⟨⟨p0,p1,p2⟩,_⟩:=Ba';go_upto_if 97 with fail;go_cut [] (fun wc=>ZIn wc b10 (sgn n Q)/\Box4 wc (w.heap.size+1) (.bool false) (.bool false) (iQ 0) (iQ 0)/\Ext w wc)
     case first =>
      clear p0 p1 p2 PU;cases n
      ·go_wp2_with fail;go_meet
       case rel=>exact ⟨Z10,Br,X0⟩
      ·have Z5':=Z10;obtain ⟨z0,z1,z2,z3,z4,⟨⟨j0,j1,j2⟩,_⟩,hy5⟩:=Z5';go_wp2_with fail;refine (zEE _ hy5).mono ?_;rintro rr w8 ⟨v8,rfl,hz8,x8⟩;obtain ⟨f0,f1,f2,f3,f4,rfl⟩:=hz8.shape;replace Z10:=Z10.l x8;replace Br:=Br.l x8;have ZN:=Z10.put hz8;have BrN:Box4 (set3 w8 b10 (iQ f0) (.bool f1) (.slice f2 f3 f4)) (w.heap.size+1) (.bool false) (.bool false) (iQ 0) (iQ 0):=
        ((Br.far (p:=⟨b10,0,none⟩) (by simp only;omega) _).far (p:=⟨b10,1,none⟩) (by simp only;omega) _).far (p:=⟨b10,2,none⟩) (by simp only;omega) _
       have XN:=Ext.set3 (xt X0 x8) (b:=b10) (by omega) (iQ f0) (.bool f1) (.slice f2 f3 f4);obtain ⟨_,_,_,_,_,⟨⟨g0,g1,g2⟩,k0,k1,k2⟩,_⟩:=Z10;clear j0 j1 j2 hy5 hz8;go_wp2_with fail;go_meet
       case rel=>exact ⟨ZN,BrN,XN⟩
     case rest =>
      clear p0 p1 p2 Z10 Ba Br X0;obtain ⟨Z10,Br,X0⟩:=hcut
      rename World=>we
      obtain ⟨y0,y1,y2,y3,y4,⟨⟨i0,i1,i2⟩,_⟩,hy⟩:=Z10;go_wp2_with fail;refine (PU.out _ _ hy).mono ?_;rintro rr wf ⟨rfl,xf⟩;obtain ⟨⟨m0,m1,m2,m3⟩,k0,k1,k2,k3⟩:=Br.l xf;clear i0 i1 i2 hy;go_wp2_with fail;exact bodyPost_ret (v:=resV R) (by simp [results,Tryz.results84,go_sem,m0,m1,m2,m3]) rfl ⟨rfl,xset (xset (xset (xset (xt X0 xf) (by simp only;omega) _) (by simp only;omega) _) (by simp only;omega) _) (by simp only;omega) _⟩
theorem dec_ten (u:Nat) (h:u ≠ 0):Lib.decDigits (u * 10)=Lib.decDigits u++[48]:=by
 rw [Lib.decDigits,dif_neg (by omega)];have e1:u * 10 / 10=u:=by omega
 have e2:u * 10 % 10=0:=by omega
 rw [e1,e2];rfl
theorem zTM (u:Nat) (h:u ≠ 0):∀ k,Lib.decDigits (u * 10 ^ k)=Lib.decDigits u++List.replicate k 48
 | 0=>by simp
 | k+1=>by
  rw [Nat.pow_succ,<- Nat.mul_assoc,dec_ten _ (Nat.mul_ne_zero h (Nat.ne_of_gt (Nat.pow_pos (by decide)))),zTM u h k,List.append_assoc,<- List.replicate_succ']
theorem digZ_is (d k:Nat):Lib.decDigits (d * 10 ^ k)=digZ d k:=by
 unfold digZ;by_cases h:d=0
 ·rw [h,Nat.zero_mul,if_pos rfl,Lib.decDigits_one (by decide)];rfl
 ·rw [if_neg h,zTM d h k]
theorem zN7:∀ (n P:Nat) (e:Int),P<=n->e<=(zAK P e).2
 | 0,P,e,h=>by rw [zAK,dif_neg (by omega)];exact Int.le_refl _
 | n+1,P,e,h=>by
  rw [zAK];by_cases q:P ≠ 0/\P % 10=0
  ·rw [dif_pos q];have:=zN7 n (P / 10) (e+1) (by omega);omega
  ·rw [dif_neg q];exact Int.le_refl _
theorem fit_ge (neg:Bool) (P:Nat) (e:Int):e<=(fitR neg P e).e\/((fitR neg P e).d=0/\(fitR neg P e).e=0/\(fitR neg P e).neg=false):=by
 unfold fitR
 split
 ·exact .inr ⟨rfl,rfl,rfl⟩
 ·split
  ·exact .inr ⟨rfl,rfl,rfl⟩
  ·split
   ·exact .inr ⟨rfl,rfl,rfl⟩
   ·exact .inl (zN7 P P e (Nat.le_refl _))
theorem put_ge (neg:Bool) (P:Nat) (e:Int) (more:Bool):e<=(putR neg P e more).e\/((putR neg P e more).d=0/\(putR neg P e more).e=0/\(putR neg P e more).neg=false):=by
 unfold putR
 split
 ·rcases fit_ge neg (rndM 0 P (nd P - 15) more) (e+((nd P - 15:Nat):Int)) with h | h
  ·exact .inl (by omega)
  ·exact .inr h
 ·exact fit_ge neg P e
theorem zNB (n:Bool) (d e p m:Int) (hp:0<=p) (h:(zAB n d e p m).ok=true):0<=(zAB n d e p m).e+p:=by
 unfold zAB at h ⊢
 split at h
 ·next hc =>
  rw [if_pos hc];unfold rndR
  split
  ·show 0<=e+p;omega
  ·rcases put_ge n (rndM m.toNat d.toNat (-p - e).toNat false) (-p) false with h | ⟨_,h,_⟩
   ·omega
   ·rw [h];omega
 ·cases h
end Go.Proofs.YtjlojlgdkfpcdaaGreatDoor

