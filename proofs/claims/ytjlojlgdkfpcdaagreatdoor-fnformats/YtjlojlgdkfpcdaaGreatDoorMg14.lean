/-
  Several texts in one: ImE, Ten, TenB, Sized.
-/
import Derived.Test.YtjlojlgdkfpcdaaGreatDoorMg13
import Derived.Test.YtjlojlgdkfpcdaaGreatDoorMg11
import Derived.Test.YtjlojlgdkfpcdaaGreatDoorMg0
import Derived.Test.YtjlojlgdkfpcdaaGreatDoorMg9
set_option maxRecDepth 8000
set_option maxHeartbeats 2000000
namespace Go.Proofs.YtjlojlgdkfpcdaaGreatDoor
open Go.RowKit
theorem Dig.nd {a k:Nat} (h:Dig a k):nd a=k:=nd_eq h.1 h.2
theorem WV.val {v:Value} {n:Nat} (h:WV v n) (hn:n<18446744073709551616):v=.agg #[.int .u64 0,.int .u64 n]:=by
 obtain ⟨h,l,rfl,h1,h2,h3⟩:=h;obtain rfl:h=0:=by omega
 obtain rfl:l=n:=by omega
 rfl
theorem Box4.far {w:World} {b:Nat} {v0 v1 v2 v3:Value} (h:Box4 w b v0 v1 v2 v3) {p:Addr} (hp:p.block ≠ b) (u:Value):Box4 (w.setCell p u) b v0 v1 v2 v3:=by
 obtain ⟨⟨h0,h1,h2,h3⟩,f0,f1,f2,f3⟩:=h;have ne:∀ i,p ≠ ⟨b,i,none⟩:=fun i e=>hp (congrArg Addr.block e);refine ⟨⟨?_,?_,?_,?_⟩,?_,?_,?_,?_⟩
 ·rw [World.cell?_setCell_other _ _ _ _ (ne 0)];exact h0
 ·rw [World.cell?_setCell_other _ _ _ _ (ne 1)];exact h1
 ·rw [World.cell?_setCell_other _ _ _ _ (ne 2)];exact h2
 ·rw [World.cell?_setCell_other _ _ _ _ (ne 3)];exact h3
 ·rw [World.frozen?_setCell];exact f0
 ·rw [World.frozen?_setCell];exact f1
 ·rw [World.frozen?_setCell];exact f2
 ·rw [World.frozen?_setCell];exact f3
theorem zNC {P:Nat} {more:Bool} (h:15<nd P):rndM 0 P (nd P - 15) more<=1000000000000000:=by
 unfold rndM;have h1:P / 10 ^ (nd P - 15)<10 ^ 15:=by
  refine Nat.div_lt_of_lt_mul ?_;rw [<- Nat.pow_add,show nd P - 15+15=nd P by omega];exact (zE5 P).1
 have e:(10:Nat) ^ 15=1000000000000000:=by decide
 split <;> omega
theorem zF7 {v:Value} {P:Nat} (neg:Bool) (e:Int) (more:Bool) (w:World) (hv:WV v P) (e0 : -90000<=e) (e1:e<=90000) (hT:Tens w) :
  Calls Tryz.prog 133 #[.bool neg,v,iQ e,.bool more] w fun r w'=>r=.returned (resV (putR neg P e more))/\Ext w w':=by
 obtain ⟨R,hR⟩:=nm (putR neg P e more);rw [hR];have HPR:=hid hR;clear hR;obtain ⟨h,l,rfl,h1,h2,e2⟩:=hv;have HW:Hid (WV (.agg #[.int .u64 h,.int .u64 l]) P):=⟨h,l,rfl,h1,h2,e2⟩;have HP:=hid e2;have X0:Ext w ((w.alloc (.cells #[.int .u64 h,.int .u64 l] 156)).alloc (.cells #[.bool false,.bool false,iQ 0,iQ 0] 99)):=xa (x1 _ _) _;have B:=(Box2.made w (.int .u64 h) (.int .u64 l) 156).l (x1 _ (.cells #[.bool false,.bool false,iQ 0,iQ 0] 99));have Br:=Box4.made (w.alloc (.cells #[.int .u64 h,.int .u64 l] 156)) (.bool false) (.bool false) (iQ 0) (iQ 0) 99;simp only [World.size_alloc] at Br;clear e2;go_enter Tryz.func133,Tryz.ntmps133;go_wp2_with fail;refine (zIY _ HW.out (hT.l X0)).mono ?_;rintro r w1 ⟨k,rfl,hk,k39,x1'⟩;obtain rfl:=hk.nd;clear hk;have B1:=B.l x1';have Br1:=Br.l x1';have X1:=xt X0 x1';have B1':=B1;obtain ⟨⟨p0,p1⟩,f0,f1⟩:=B1';by_cases hk15:15<nd P
 ·have HR:Hid (R=fitR neg (rndM 0 P (nd P - 15) more) (e+((nd P - 15:Nat):Int))):=by rw [<- HPR.out];unfold putR;rw [if_pos hk15];rfl
  have RL:Hid (rndM 0 P (nd P - 15) more<=1000000000000000):=zNC hk15;have SH:Hid (∀ w,Tens w->Calls Tryz.prog 137 #[.agg #[.int .u64 h,.int .u64 l],iQ (((nd P):Int) - 15),.bool more,Value.func (Fn.func 188) #[] #[]] w fun e w'=>e=.returned (.agg #[.int .u64 0,.int .u64 ((rndM 0 P (nd P - 15) more:Nat):Int)])/\Ext w w'):=fun w hT=>by
   have e3:(((nd P):Int) - 15)=((nd P - 15:Nat):Int):=by omega
   rw [e3];refine (zGO (nd P - 15) more w HW.out (by omega) (by omega) hT).mono ?_;rintro e w' ⟨v',rfl,hW,hx⟩;exact ⟨by rw [hW.val (by have:=RL.out;omega)],hx⟩
  obtain ⟨Q,hQ⟩:=nm (rndM 0 P (nd P - 15) more);rw [hQ] at HR RL SH;have FI:Hid (∀ w,Calls Tryz.prog 189 #[.bool neg,.int .u64 Q,iQ (e+(((nd P):Int) - 15))] w fun r w'=>r=.returned (resV R)/\Ext w w'):=fun w=>by
   rw [HR.out];have e3:(((nd P):Int) - 15)=((nd P - 15:Nat):Int):=by omega
   rw [e3];exact zJ3 neg Q _ w (by have:=RL.out;omega) (by omega) (by omega)
  have k15':(15:Int)<((nd P):Int):=by omega
  clear hQ HR RL h1 h2 HP HPR;go_wp2_with fail;refine (SH.out _ (hT.l X1)).mono ?_;rintro r w2 ⟨rfl,x2'⟩;have B2:=(B1.l x2').put (.int .u64 0) (.int .u64 Q);have Br2:=Br1.l x2';have X2:=xset (xset (xt X1 x2') (p:=⟨w.heap.size,0,none⟩) (Nat.le_refl _) (.int .u64 0)) (p:=⟨w.heap.size,1,none⟩) (Nat.le_refl _) (.int .u64 Q);obtain ⟨⟨g0,g1⟩,j0,j1⟩:=B1.l x2';obtain ⟨u2,hu2⟩:=nm ((w2.setCell ⟨w.heap.size,0,none⟩ (.int .u64 0)).setCell ⟨w.heap.size,1,none⟩ (.int .u64 Q));have Br3:Box4 u2 (w.heap.size+1) (.bool false) (.bool false) (iQ 0) (iQ 0):=by
   rw [<- hu2];exact (Br2.far (p:=⟨w.heap.size,0,none⟩) (show w.heap.size ≠ w.heap.size+1 by omega) _).far (p:=⟨w.heap.size,1,none⟩) (show w.heap.size ≠ w.heap.size+1 by omega) _
  rw [hu2] at B2 X2;have B2':=B2;obtain ⟨⟨a0,a1⟩,c0,c1⟩:=B2';clear B Br B1 Br1 Br2 x1' x2' X0 X1 p0 p1 f0 f1;go_wp2_with fail;refine (FI.out _).mono ?_;rintro r w3 ⟨rfl,x3'⟩;obtain ⟨⟨q0,q1,q2,q3⟩,z0,z1,z2,z3⟩:=Br3.l x3';clear hu2 g0 g1 j0 j1 a0 a1 c0 c1;go_wp2_with fail;exact bodyPost_ret (v:=resV R) (by simp [results,Tryz.results133,go_sem,q0,q1,q2,q3]) rfl ⟨rfl,xset (xset (xset (xset (xt X2 x3') (Nat.le_succ _) _) (Nat.le_succ _) _) (Nat.le_succ _) _) (Nat.le_succ _) _⟩
 ·have HR:Hid (R=fitR neg P e):=by rw [<- HPR.out];unfold putR;rw [if_neg hk15];rfl
  have hP:P<1000000000000000:=by
   have:=(zE5 P).1;have:=zB3 (show nd P<=15 by omega);have e:(10:Nat) ^ 15=1000000000000000:=by decide
   omega
  obtain ⟨rfl,rfl⟩:h=0/\l=P:=by have:=HP.out;omega
  have FI:Hid (∀ w,Calls Tryz.prog 189 #[.bool neg,.int .u64 l,iQ e] w fun r w'=>r=.returned (resV R)/\Ext w w'):=fun w=>by
   rw [HR.out];exact zJ3 neg l _ w (by omega) (by omega) (by omega)
  have k15':¬ (15:Int)<((nd l):Int):=by omega
  clear HR h1 h2 HP HPR HW;go_wp2_with fail;refine (FI.out _).mono ?_;rintro r w3 ⟨rfl,x3'⟩;obtain ⟨⟨q0,q1,q2,q3⟩,z0,z1,z2,z3⟩:=Br1.l x3';go_wp2_with fail;exact bodyPost_ret (v:=resV R) (by simp [results,Tryz.results133,go_sem,q0,q1,q2,q3]) rfl ⟨rfl,xset (xset (xset (xset (xt X1 x3') (Nat.le_succ _) _) (Nat.le_succ _) _) (Nat.le_succ _) _) (Nat.le_succ _) _⟩
theorem Box3.set3_same {w:World} {b:Nat} {v0 v1 v2:Value} (h:Box3 w b v0 v1 v2) (c0 c1 c2:Value):Box3 (set3 w b c0 c1 c2) b c0 c1 c2:=by
 obtain ⟨⟨q0,q1,q2⟩,f0,f1,f2⟩:=h;have n01:(⟨b,0,none⟩:Addr) ≠ ⟨b,1,none⟩:=zBC (by decide);have n02:(⟨b,0,none⟩:Addr) ≠ ⟨b,2,none⟩:=zBC (by decide);have n12:(⟨b,1,none⟩:Addr) ≠ ⟨b,2,none⟩:=zBC (by decide);refine ⟨⟨?_,?_,?_⟩,?_,?_,?_⟩
 ·rw [World.cell?_setCell_other _ _ _ _ n02.symm,World.cell?_setCell_other _ _ _ _ n01.symm];exact World.cell?_setCell_same _ _ _ q0
 ·rw [World.cell?_setCell_other _ _ _ _ n12.symm];exact World.cell?_setCell_same _ _ _ (by rw [World.cell?_setCell_other _ _ _ _ n01];exact q1)
 ·exact World.cell?_setCell_same _ _ _ (by rw [World.cell?_setCell_other _ _ _ _ n12,World.cell?_setCell_other _ _ _ _ n02];exact q2)
 ·simp [World.frozen?_setCell,f0]
 ·simp [World.frozen?_setCell,f1]
 ·simp [World.frozen?_setCell,f2]
theorem zCS {b g i j:Nat} (h:b ≠ g):(⟨g,i,none⟩:Addr) ≠ ⟨b,j,none⟩:=fun e=>h (by cases e;rfl)
theorem Box3.set3_other {w:World} {b g:Nat} {v0 v1 v2:Value} (h:Box3 w b v0 v1 v2) (hb:b ≠ g) (c0 c1 c2:Value):Box3 (set3 w g c0 c1 c2) b v0 v1 v2:=by
 obtain ⟨⟨q0,q1,q2⟩,f0,f1,f2⟩:=h;refine ⟨⟨?_,?_,?_⟩,?_,?_,?_⟩
 ·rw [World.cell?_setCell_other _ _ _ _ (zCS hb),World.cell?_setCell_other _ _ _ _ (zCS hb),World.cell?_setCell_other _ _ _ _ (zCS hb)];exact q0
 ·rw [World.cell?_setCell_other _ _ _ _ (zCS hb),World.cell?_setCell_other _ _ _ _ (zCS hb),World.cell?_setCell_other _ _ _ _ (zCS hb)];exact q1
 ·rw [World.cell?_setCell_other _ _ _ _ (zCS hb),World.cell?_setCell_other _ _ _ _ (zCS hb),World.cell?_setCell_other _ _ _ _ (zCS hb)];exact q2
 ·simp [World.frozen?_setCell,f0]
 ·simp [World.frozen?_setCell,f1]
 ·simp [World.frozen?_setCell,f2]
theorem zRQ {va:Value} {a:Int} (n:Nat) (w:World) (ha:ZV w va a) (hn:n<=1000000) (k:Nat) (hk:k<=1000000000) (ka:(a.natAbs:Int)<1000000000 ^ k) (kp:∀ i,i<=n->((a ^ i).natAbs:Int)<1000000000 ^ k) :
  Calls Tryz.prog 156 #[va,iQ n] w fun e w'=>∃ v',e=.returned v'/\ZV w' v' (a ^ n)/\Ext w w':=by
 obtain ⟨a0,a1,pa,na,ca,rfl⟩:=ha.shape;go_enter Tryz.func156,Tryz.ntmps156;go_wp2_with fail;refine (zBL 1 _ (by decide) (by decide)).mono ?_;rintro e w1 ⟨v1,rfl,h1,e1⟩;obtain ⟨o0,o1,po,no,co,rfl⟩:=h1.shape;have Ba:=((Box3.made w (iQ a0) (.bool a1) (.slice pa na ca) 103).l (x1 _ _)).l e1;have Br:=(Box3.made (w.alloc (.cells #[iQ a0,.bool a1,.slice pa na ca] 103)) (iQ 0) (.bool false) (.slice none 0 0) 103).l e1;simp only [World.size_alloc] at Br;have X1:=xt (xa (x1 _ _) _) e1;have sz:=e1.size;simp only [World.size_alloc] at sz;have KH:Hid ((a.natAbs:Int)<1000000000 ^ k/\∀ i,i<=n->((a ^ i).natAbs:Int)<1000000000 ^ k):=⟨ka,kp⟩;clear e1 ka kp;go_wp2_with fail;go_loopw [6] (fun i wr=>∃ (m:Nat) (c0:Int) (c1:Bool) (pc:Option Addr) (nc cc:Nat),m<=n/\i=.int .i64 m/\Box3 wr w1.heap.size (.int .i64 c0) (.bool c1) (.slice pc nc cc)/\ZV wr (.agg #[.int .i64 c0,.bool c1,.slice pc nc cc]) (a ^ m) /\
   Box3 wr w.heap.size (iQ a0) (.bool a1) (.slice pa na ca)/\Box3 wr (w.heap.size+1) (iQ 0) (.bool false) (.slice none 0 0)/\Ext w wr) (fun i _=>n - (intOf i).toNat)
 case atStart=>exact ⟨0,o0,o1,po,no,co,Nat.zero_le _,rfl,Box3.made _ _ _ _ _,by rw [Int.pow_zero];exact h1.l (x1 _ _),Ba.l (x1 _ _),Br.l (x1 _ _),xa X1 _⟩
 case round =>
  obtain ⟨m,c0,c1,pc,nc,cc,hm,rfl,Bo,ho,Bar,Brr,X⟩:=hrel;by_cases hlt:m<n
  ·have Bo':=Bo;have Ba':=Bar;obtain ⟨⟨q0,q1,q2⟩,_⟩:=Bo';obtain ⟨⟨p0,p1,p2⟩,_⟩:=Ba';clear Ba Br;go_wp2_with fail;refine (zED _ ho (ha.l X) k hk (KH.out.2 m hm) KH.out.1).mono ?_;rintro e w2 ⟨v2,rfl,h2,e2⟩;obtain ⟨d0,d1,pd,nd,cd,rfl⟩:=h2.shape;have B2:=Bo.l e2;have R:Hid (Box3 (set3 w2 w1.heap.size (iQ d0) (.bool d1) (.slice pd nd cd)) w1.heap.size (iQ d0) (.bool d1) (.slice pd nd cd)/\ZV (set3 w2 w1.heap.size (iQ d0) (.bool d1) (.slice pd nd cd)) (.agg #[iQ d0,.bool d1,.slice pd nd cd]) (a ^ (m+1)) /\
     Box3 (set3 w2 w1.heap.size (iQ d0) (.bool d1) (.slice pd nd cd)) w.heap.size (iQ a0) (.bool a1) (.slice pa na ca)/\Box3 (set3 w2 w1.heap.size (iQ d0) (.bool d1) (.slice pd nd cd)) (w.heap.size+1) (iQ 0) (.bool false) (.slice none 0 0)/\Ext w (set3 w2 w1.heap.size (iQ d0) (.bool d1) (.slice pd nd cd))):=
    ⟨B2.set3_same _ _ _,by rw [Int.pow_succ];exact h2.set3 B2 _ _ _,(Bar.l e2).set3_other (by omega) _ _ _,(Brr.l e2).set3_other (by omega) _ _ _,Ext.set3 (xt X e2) (by omega) _ _ _⟩
   obtain ⟨⟨r0,r1,r2⟩,s0,s1,s2⟩:=B2;clear Bo ho Bar Brr X h2 e2
   go_wp2
   go_roundw
   case rel=>exact ⟨m+1,d0,d1,pd,nd,cd,by omega,by go_num,R.out.1,R.out.2.1,R.out.2.2.1,R.out.2.2.2.1,R.out.2.2.2.2⟩
   case measure=>simp [intOf];omega
  ·obtain rfl:m=n:=by omega
   have Hz:=ho.set3 Brr (iQ c0) (.bool c1) (.slice pc nc cc);have Hx:=Ext.set3 (b:=w.heap.size+1) X (by omega) (iQ c0) (.bool c1) (.slice pc nc cc);obtain ⟨⟨q0,q1,q2⟩,_⟩:=Bo;obtain ⟨⟨r0,r1,r2⟩,s0,s1,s2⟩:=Brr;clear Ba Br
   go_wp2
   exact bodyPost_ret (v:=.agg #[iQ c0,.bool c1,.slice pc nc cc]) (by simp [results,Tryz.results156,go_sem,r0,r1,r2]) rfl ⟨_,rfl,Hz,Hx⟩
theorem zLX (i:Nat):(((10:Int) ^ i).natAbs:Int)<1000000000 ^ (i+1):=by
 have e:(((10:Int) ^ i).natAbs:Int)=((10 ^ i:Nat):Int):=by rw [Int.natAbs_pow];rfl
 rw [e];have h1:10 ^ i<=1000000000 ^ i:=Nat.pow_le_pow_left (by decide) i;have h2:1000000000 ^ i<1000000000 ^ (i+1):=Nat.pow_lt_pow_right (by decide) (by omega);have h3:((10 ^ i:Nat):Int)<((1000000000 ^ (i+1):Nat):Int):=by exact_mod_cast Nat.lt_of_le_of_lt h1 h2
 simpa using h3
theorem zMZ (n i:Nat) (h:i<=n):(((10:Int) ^ i).natAbs:Int)<1000000000 ^ (n+1):=by
 have h1:=zLX i;have h2:(1000000000:Int) ^ (i+1)<=1000000000 ^ (n+1):=by
  have:=Nat.pow_le_pow_right (n:=1000000000) (by decide) (show i+1<=n+1 by omega);have h3:((1000000000 ^ (i+1):Nat):Int)<=((1000000000 ^ (n+1):Nat):Int):=by exact_mod_cast this
  simpa using h3
 omega
theorem Box3.up {w:World} {b:Nat} {v0 v1 v2:Value} (h:Box3 w b v0 v1 v2):((∀ o,(w.alloc o).cell? ⟨b,0,none⟩=some v0)/\(∀ o,(w.alloc o).cell? ⟨b,1,none⟩=some v1)/\∀ o,(w.alloc o).cell? ⟨b,2,none⟩=some v2)/\(∀ o,(w.alloc o).frozen? ⟨b,0,none⟩=false)/\(∀ o,(w.alloc o).frozen? ⟨b,1,none⟩=false)/\∀ o,(w.alloc o).frozen? ⟨b,2,none⟩=false:=
 ⟨⟨fun o=>(h.l (x1 w o)).1.1,fun o=>(h.l (x1 w o)).1.2.1,fun o=>(h.l (x1 w o)).1.2.2⟩,fun o=>(h.l (x1 w o)).2.1,fun o=>(h.l (x1 w o)).2.2.1,fun o=>(h.l (x1 w o)).2.2.2⟩
theorem zHF (n:Nat) (w:World) (hn:n<=1000000) :
  Calls Tryz.prog 93 #[iQ n] w fun e w'=>∃ v',e=.returned v'/\ZV w' v' (10 ^ n)/\Ext w w':=by
 go_enter Tryz.func93,Tryz.ntmps93;go_wp2_with fail;refine (zBL 10 _ (by decide) (by decide)).mono ?_;rintro e w1 ⟨v1,rfl,h1,e1⟩;go_wp2_with fail;refine (zRQ n _ h1 hn (n+1+1) (by omega) (by simpa using zMZ (n+1) 1 (by omega)) (fun i hi=>zMZ (n+1) i (by omega))).mono ?_;rintro e w2 ⟨v2,rfl,h2,e2⟩;obtain ⟨o0,o1,po,no,co,rfl⟩:=h2.shape;have Br:=((Box3.made w (iQ 0) (.bool false) (.slice none 0 0) 103).l e1).l e2;have Hz:=h2.set3 Br (iQ o0) (.bool o1) (.slice po no co);have Hx:=Ext.set3 (b:=w.heap.size) (xt (xt (x1 _ _) e1) e2) (Nat.le_refl _) (iQ o0) (.bool o1) (.slice po no co);obtain ⟨⟨r0,r1,r2⟩,s0,s1,s2⟩:=Br
 go_wp2
 exact bodyPost_ret (v:=.agg #[iQ o0,.bool o1,.slice po no co]) (by simp [results,Tryz.results93,go_sem,r0,r1,r2]) rfl ⟨_,rfl,Hz,Hx⟩
theorem zHO (neg:Bool) (d x:Int) (w:World) (h1 : -9000000000000000000<d) (h2:d<9000000000000000000) :
  Calls Tryz.prog 143 #[.agg #[.bool neg,iQ d,iQ x]] w fun e w'=>∃ v',e=.returned v'/\ZV w' v' (sgn neg d)/\Ext w w':=by
 go_enter Tryz.func143,Tryz.ntmps143;go_wp2_with fail;refine (zBL d _ h1 h2).mono ?_;rintro e w1 ⟨v1,rfl,hz1,e1⟩;obtain ⟨o0,o1,po,no,co,rfl⟩:=hz1.shape;have Ba:=((Box3.made w (.bool neg) (iQ d) (iQ x) 31).l (x1 _ _)).l e1;have Br:=(Box3.made (w.alloc (.cells #[.bool neg,iQ d,iQ x] 31)) (iQ 0) (.bool false) (.slice none 0 0) 103).l e1;simp only [World.size_alloc] at Br;have X1:=xt (xa (x1 _ _) _) e1;have sz:=e1.size;simp only [World.size_alloc] at sz;have n0:w.heap.size+1 ≠ w1.heap.size:=by omega
 cases neg
 ·have Br1:=Br.l (x1 w1 (.cells #[iQ o0,.bool o1,.slice po no co] 103));have Hz:=(hz1.l (x1 _ _)).set3 Br1 (iQ o0) (.bool o1) (.slice po no co);have Hx:=Ext.set3 (b:=w.heap.size+1) (xa X1 (.cells #[iQ o0,.bool o1,.slice po no co] 103)) (by omega) (iQ o0) (.bool o1) (.slice po no co);obtain ⟨⟨q0,q1,q2⟩,_⟩:=Ba.up;obtain ⟨⟨r0,r1,r2⟩,s0,s1,s2⟩:=Br.up;clear Ba Br Br1
  go_wp2
  exact bodyPost_ret (v:=.agg #[iQ o0,.bool o1,.slice po no co]) (by simp [results,Tryz.results143,go_sem,r0,r1,r2]) rfl ⟨_,rfl,Hz,Hx⟩
 ·obtain ⟨⟨q0,q1,q2⟩,_⟩:=Ba.up;go_wp2_with fail;refine (zEE _ (hz1.l (x1 _ _))).mono ?_;rintro e w2 ⟨v2,rfl,hz2,e2⟩;obtain ⟨m0,m1,pm,nm,cm,rfl⟩:=hz2.shape;have Br2:=(Br.l (x1 _ _)).l e2;have Hz:=hz2.set3 Br2 (iQ m0) (.bool m1) (.slice pm nm cm);have Hx:=Ext.set3 (b:=w.heap.size+1) (xt (xa X1 _) e2) (by omega) (iQ m0) (.bool m1) (.slice pm nm cm);obtain ⟨⟨r0,r1,r2⟩,s0,s1,s2⟩:=Br2;clear Ba Br
  go_wp2
  exact bodyPost_ret (v:=.agg #[iQ m0,.bool m1,.slice pm nm cm]) (by simp [results,Tryz.results143,go_sem,r0,r1,r2]) rfl ⟨_,rfl,Hz,Hx⟩
theorem zLW (n:Int) (w:World) (h0:0<=n) (hn:n<=1000000) :
  Calls Tryz.prog 93 #[iQ n] w fun e w'=>∃ v',e=.returned v'/\ZV w' v' (10 ^ n.toNat)/\Ext w w':=by
 obtain ⟨m,rfl⟩:=Int.eq_ofNat_of_zero_le h0;rw [Int.toNat_natCast];exact zHF m w (by omega)
theorem zK5 {neg:Bool} {d:Int} (k:Nat) (hk:2<=k) (h0:0<=d) (h1:d<1000000000000000000):((sgn neg d).natAbs:Int)<1000000000 ^ k:=by
 have h2:(1000000000:Int) ^ 2<=1000000000 ^ k:=zB8 hk;have e:(1000000000:Int) ^ 2=1000000000000000000:=by decide
 cases neg <;> simp [sgn] <;> omega
theorem zK4 {n:Int} (k:Nat) (hk:n.toNat+1<=k):(((10:Int) ^ n.toNat).natAbs:Int)<1000000000 ^ k:=by
 have:=zLX n.toNat;have:=zB8 hk;omega
theorem zCM {neg:Bool} {d x:Int} (h:zA1 neg d x=true):0<=d/\d<1000000000000000 /\ -300<=x/\x<=300:=by
 unfold zA1 at h;by_cases hd:d=0
 ·rw [if_pos hd] at h;simp at h;omega
 ·rw [if_neg hd] at h;simp at h;omega
theorem zB5 (c:Bool) (neg:Bool) (d x:Int) (w:World) (h:zA1 neg d x=c) :
  Calls Tryz.prog 76 #[.agg #[.bool neg,iQ d,iQ x]] w fun e w'=>e=.returned (.bool c)/\Ext w w':=by
 rw [<- h];exact zVR neg d x w
theorem zC9 (c:Bool) (neg:Bool) (d x:Int) (w:World) (h1 : -9223372036854775808<=d) (h2:d<=9223372036854775807) (hT:Tens w) (h:zA1 neg d x=c) :
  Calls Tryz.prog 66 #[.agg #[.bool neg,iQ d,iQ x]] w fun e w'=>e=.returned (.bool c)/\Ext w w':=by
 rw [<- h];exact zVS neg d x w h1 h2 hT
end Go.Proofs.YtjlojlgdkfpcdaaGreatDoor

