/-
  Several texts in one: ImD, ImE, Cmp.
-/
import Derived.Test.YtjlojlgdkfpcdaaGreatDoorMg7
import Derived.Deep.RegionHeld3
namespace Go.Proofs.YtjlojlgdkfpcdaaGreatDoor
open Go.RowKit
theorem odd_low {h l Q:Nat} (e:h * 18446744073709551616+l=Q):(((l:Int) % 2 == 1))=decide (Q % 2=1):=by
 rw [Bool.eq_iff_iff,beq_iff_eq,decide_eq_true_eq];omega
theorem rnd_one (mode P n:Nat) (more:Bool) (hn:1≤n):rndM mode P n more=P / 10 ^ n+if goesOn mode (decide (P / 10 ^ n % 2=1)) (rest1 (P / 10 ^ (n - 1) % 10) (more || decide (P % 10 ^ (n - 1) ≠ 0)))=true then 1 else 0:=by
 obtain ⟨m,rfl⟩:∃ m,n=m+1:=⟨n - 1,by omega⟩;unfold rndM;rw [rest_step,Nat.add_sub_cancel,rest1_eq]
theorem div_ten (P n:Nat) (hn:1≤n):P / 10 ^ (n - 1) / 10=P / 10 ^ n:=by
 obtain ⟨m,rfl⟩:∃ m,n=m+1:=⟨n - 1,by omega⟩;rw [Nat.add_sub_cancel,Nat.div_div_eq_div_mul,Nat.pow_succ]
theorem short_fit {P n:Nat} (h:P<340282366920938463463374607431768211456) (hn:1≤n):P / 10 ^ n+1<340282366920938463463374607431768211456:=by
 have h1:=div_ten P n hn;have h2:=Nat.div_le_self P (10 ^ (n - 1));rw [← h1];omega
set_option maxRecDepth 4000 in
set_option maxHeartbeats 2000000 in
theorem short_toEven {v:Value} {P:Nat} (n:Nat) (more:Bool) (w:World) (hv:WV v P) (n1:1≤n) (hn:n≤100000) (hT:Tens w) :
  Calls Tryz.prog 137 #[v,.int .i64 n,.bool more,Value.func (Fn.func 188) #[] #[]] w fun e w'=>∃ v',e=.returned v'∧WV v' (rndM 0 P n more)∧Ext w w':=by
 obtain ⟨h,l,rfl,h1,h2,e1⟩:=hv;have LO:Hid (∀ w,Tens w→Calls Tryz.prog 193 #[.agg #[.int .u64 h,.int .u64 l],.int .i64 ((n:Int) - 1)] w fun e w'=>∃ h' l':Nat,e=.returned (.tuple #[.agg #[.int .u64 h',.int .u64 l'],.bool (decide (P % 10 ^ (n - 1) ≠ 0))])∧Hid (WV (.agg #[.int .u64 h',.int .u64 l']) (P / 10 ^ (n - 1)))∧Ext w w'):=fun w hT=>by
  have e:((n:Int) - 1)=((n - 1:Nat):Int):=by omega
  rw [e];refine (lowered_any (n - 1) w ⟨h,l,rfl,h1,h2,e1⟩ (by omega) hT).mono ?_;rintro e w' ⟨v',rfl,hW,hx⟩;have hW':=hW;obtain ⟨h',l',rfl,_⟩:=hW;exact ⟨h',l',rfl,hW',hx⟩
 have PB:Hid (P<340282366920938463463374607431768211456):=by show P<_;omega
 have B:=(Box2.made w (.int .u64 h) (.int .u64 l) 156).later (x1 _ (.cells #[.int .u64 0,.int .u64 0] 156));have Br:=Box2.made (w.alloc (.cells #[.int .u64 h,.int .u64 l] 156)) (.int .u64 0) (.int .u64 0) 156;simp only [World.size_alloc] at Br;have T:=hT.later (xa (x1 w (.cells #[.int .u64 h,.int .u64 l] 156)) (.cells #[.int .u64 0,.int .u64 0] 156));have X0:Ext w ((w.alloc (.cells #[.int .u64 h,.int .u64 l] 156)).alloc (.cells #[.int .u64 0,.int .u64 0] 156)):=xa (x1 _ _) _;clear e1 hT h1 h2;go_enter Tryz.func137,Tryz.ntmps137;go_wp2_with fail;refine (LO.out _ T).mono ?_;rintro e w1 ⟨h',l',rfl,W1,x1'⟩;obtain ⟨lost,hlost⟩:∃ b:Bool,decide (P % 10 ^ (n - 1) ≠ 0)=b:=⟨_,rfl⟩;rw [hlost];have HLo:=hid hlost;have B1:=(B.later x1').put (.int .u64 h') (.int .u64 l');have Br1:=((Br.later x1').far (p:=⟨w.heap.size,0,none⟩) (show w.heap.size ≠ w.heap.size+1 by omega) (.int .u64 h')).far (p:=⟨w.heap.size,1,none⟩) (show w.heap.size ≠ w.heap.size+1 by omega) (.int .u64 l');have X1:=xset (xset (xt X0 x1') (p:=⟨w.heap.size,0,none⟩) (Nat.le_refl _) (.int .u64 h')) (p:=⟨w.heap.size,1,none⟩) (Nat.le_refl _) (.int .u64 l');obtain ⟨⟨g0,g1⟩,j0,j1⟩:=B.later x1';obtain ⟨u1,hu1⟩:∃ u,(w1.setCell ⟨w.heap.size,0,none⟩ (.int .u64 h')).setCell ⟨w.heap.size,1,none⟩ (.int .u64 l')=u:=⟨_,rfl⟩;rw [hu1] at B1 Br1 X1;have B1':=B1;obtain ⟨⟨a0,a1⟩,c0,c1⟩:=B1';clear hlost LO T X0;go_wp2_with fail;refine (over_any 10 _ W1.out (by decide) (by decide)).mono ?_;rintro e w2 ⟨v2,rfl,hW2,x2'⟩;rw [div_ten P n n1] at hW2;obtain ⟨h2,l2,rfl,k1,k2,k3⟩:=hW2;have W2:Hid (WV (.agg #[.int .u64 h2,.int .u64 l2]) (P / 10 ^ n)):=⟨h2,l2,rfl,k1,k2,k3⟩;have OD:=odd_low k3;obtain ⟨d,hd⟩:∃ d,P / 10 ^ (n - 1) % 10=d:=⟨_,rfl⟩;rw [hd];have RN:=rnd_one 0 P n more n1;rw [hd,HLo.out,← OD] at RN;obtain ⟨od,hod⟩:∃ b:Bool,((l2:Int) % 2 == 1)=b:=⟨_,rfl⟩;rw [hod] at RN;obtain ⟨g,hg⟩:∃ b:Bool,goesOn 0 od (rest1 d (more || lost))=b:=⟨_,rfl⟩;rw [hg] at RN;have MO:Hid (∀ w,Calls Tryz.prog 188 #[.bool od,.int .i64 (rest1 d (more || lost))] w fun e w'=>e=.returned (.bool g)∧w'=w):=fun w=>by rw [← hg];exact toEven_any _ _ _
 have HRN:=hid RN;have B2:=(B1.later x2').put (.int .u64 h2) (.int .u64 l2);have Br2:=((Br1.later x2').far (p:=⟨w.heap.size,0,none⟩) (show w.heap.size ≠ w.heap.size+1 by omega) (.int .u64 h2)).far (p:=⟨w.heap.size,1,none⟩) (show w.heap.size ≠ w.heap.size+1 by omega) (.int .u64 l2);have X2:=xset (xset (xt X1 x2') (p:=⟨w.heap.size,0,none⟩) (Nat.le_refl _) (.int .u64 h2)) (p:=⟨w.heap.size,1,none⟩) (Nat.le_refl _) (.int .u64 l2);obtain ⟨⟨g0',g1'⟩,j0',j1'⟩:=B1.later x2';obtain ⟨u2,hu2⟩:∃ u,(w2.setCell ⟨w.heap.size,0,none⟩ (.int .u64 h2)).setCell ⟨w.heap.size,1,none⟩ (.int .u64 l2)=u:=⟨_,rfl⟩;rw [hu2] at B2 Br2 X2;have B2':=B2;have Br2':=Br2;obtain ⟨⟨a0',a1'⟩,c0',c1'⟩:=B2';obtain ⟨⟨r0,r1⟩,s0,s1⟩:=Br2';clear RN hg OD hd k3 hu1 g0 g1 j0 j1 a0 a1 c0 c1 B B1 Br Br1 x1' x2' X1 W1;go_upto_region 3 with fail;clear hu2 g0' g1' j0' j1';go_cut [34] (fun v wc=>v=.bool g∧∃ nq,wc=u2.drewN nq)
 case first =>
  cases more
  ·simp only [Bool.false_or] at MO;go_quiet (first | (go_at_call 195;exact Calls.quiet_of_same (restOf_any _ _ _)) | (go_at_call 188;exact Calls.quiet_of_same (MO.out _)));go_wp2_with fail;go_meet
   case rel=>exact ⟨rfl,_,rfl⟩
  ·simp only [Bool.true_or] at MO;go_quiet (first | (go_at_call 195;exact Calls.quiet_of_same (restOf_any _ _ _)) | (go_at_call 188;exact Calls.quiet_of_same (MO.out _)));go_wp2_with fail;go_meet
   case rel=>exact ⟨rfl,_,rfl⟩
 case rest =>
  obtain ⟨rfl,nq,hwc⟩:=hcut;have X3:Ext u2 wc:=by rw [hwc];exact xdrewN (xr _) _
  clear hwc hod MO;have B3:=B2.later X3;have Br3:=Br2.later X3;have Br3':=Br3;have B3':=B3;obtain ⟨⟨a0,a1⟩,c0,c1⟩:=B3';obtain ⟨⟨r0',r1'⟩,s0',s1'⟩:=Br3';clear B2 Br2 a0' a1' c0' c1' r0 r1 s0 s1;cases g
  ·have HR:Hid (WV (.agg #[.int .u64 h2,.int .u64 l2]) (rndM 0 P n more)):=by rw [HRN.out];exact W2.out
   go_wp2_with fail;exact bodyPost_ret (v:=.agg #[.int .u64 h2,.int .u64 l2]) (by simp [results,Tryz.results137,go_sem,r0',r1']) rfl ⟨_,rfl,HR.out,xset (xset (xt X2 X3) (Nat.le_succ _) _) (Nat.le_succ _) _⟩
  ·go_wp2_with fail;refine (plus_any _ W2.out (b:=1) ⟨0,1,rfl,by decide,by decide,rfl⟩ (short_fit PB.out n1)).mono ?_;rintro e w3 ⟨v3,rfl,hW3,x3'⟩;have hW3':=hW3;obtain ⟨h3,l3,rfl,_⟩:=hW3';have HR:Hid (WV (.agg #[.int .u64 h3,.int .u64 l3]) (rndM 0 P n more)):=by rw [HRN.out];exact hW3
   have B4:=(B3.later x3').put (.int .u64 h3) (.int .u64 l3);have Br4:=((Br3.later x3').far (p:=⟨w.heap.size,0,none⟩) (show w.heap.size ≠ w.heap.size+1 by omega) (.int .u64 h3)).far (p:=⟨w.heap.size,1,none⟩) (show w.heap.size ≠ w.heap.size+1 by omega) (.int .u64 l3);have X4:=xset (xset (xt (xt X2 X3) x3') (p:=⟨w.heap.size,0,none⟩) (Nat.le_refl _) (.int .u64 h3)) (p:=⟨w.heap.size,1,none⟩) (Nat.le_refl _) (.int .u64 l3);obtain ⟨⟨g0,g1⟩,j0,j1⟩:=B3.later x3';obtain ⟨u4,hu4⟩:∃ u,(w3.setCell ⟨w.heap.size,0,none⟩ (.int .u64 h3)).setCell ⟨w.heap.size,1,none⟩ (.int .u64 l3)=u:=⟨_,rfl⟩;rw [hu4] at B4 Br4 X4;obtain ⟨⟨b0,b1⟩,_⟩:=B4;obtain ⟨⟨q0,q1⟩,z0,z1⟩:=Br4;clear hW3 a0 a1 c0 c1 r0' r1' s0' s1' B3 Br3 x3' X2 X3;go_wp2_with fail;exact bodyPost_ret (v:=.agg #[.int .u64 h3,.int .u64 l3]) (by simp [results,Tryz.results137,go_sem,q0,q1]) rfl ⟨_,rfl,HR.out,xset (xset X4 (Nat.le_succ _) _) (Nat.le_succ _) _⟩
set_option maxRecDepth 4000 in
set_option maxHeartbeats 2000000 in
theorem short_toAway {v:Value} {P:Nat} (n:Nat) (more:Bool) (w:World) (hv:WV v P) (n1:1≤n) (hn:n≤100000) (hT:Tens w) :
  Calls Tryz.prog 137 #[v,.int .i64 n,.bool more,Value.func (Fn.func 190) #[] #[]] w fun e w'=>∃ v',e=.returned v'∧WV v' (rndM 1 P n more)∧Ext w w':=by
 obtain ⟨h,l,rfl,h1,h2,e1⟩:=hv;have LO:Hid (∀ w,Tens w→Calls Tryz.prog 193 #[.agg #[.int .u64 h,.int .u64 l],.int .i64 ((n:Int) - 1)] w fun e w'=>∃ h' l':Nat,e=.returned (.tuple #[.agg #[.int .u64 h',.int .u64 l'],.bool (decide (P % 10 ^ (n - 1) ≠ 0))])∧Hid (WV (.agg #[.int .u64 h',.int .u64 l']) (P / 10 ^ (n - 1)))∧Ext w w'):=fun w hT=>by
  have e:((n:Int) - 1)=((n - 1:Nat):Int):=by omega
  rw [e];refine (lowered_any (n - 1) w ⟨h,l,rfl,h1,h2,e1⟩ (by omega) hT).mono ?_;rintro e w' ⟨v',rfl,hW,hx⟩;have hW':=hW;obtain ⟨h',l',rfl,_⟩:=hW;exact ⟨h',l',rfl,hW',hx⟩
 have PB:Hid (P<340282366920938463463374607431768211456):=by show P<_;omega
 have B:=(Box2.made w (.int .u64 h) (.int .u64 l) 156).later (x1 _ (.cells #[.int .u64 0,.int .u64 0] 156));have Br:=Box2.made (w.alloc (.cells #[.int .u64 h,.int .u64 l] 156)) (.int .u64 0) (.int .u64 0) 156;simp only [World.size_alloc] at Br;have T:=hT.later (xa (x1 w (.cells #[.int .u64 h,.int .u64 l] 156)) (.cells #[.int .u64 0,.int .u64 0] 156));have X0:Ext w ((w.alloc (.cells #[.int .u64 h,.int .u64 l] 156)).alloc (.cells #[.int .u64 0,.int .u64 0] 156)):=xa (x1 _ _) _;clear e1 hT h1 h2;go_enter Tryz.func137,Tryz.ntmps137;go_wp2_with fail;refine (LO.out _ T).mono ?_;rintro e w1 ⟨h',l',rfl,W1,x1'⟩;obtain ⟨lost,hlost⟩:∃ b:Bool,decide (P % 10 ^ (n - 1) ≠ 0)=b:=⟨_,rfl⟩;rw [hlost];have HLo:=hid hlost;have B1:=(B.later x1').put (.int .u64 h') (.int .u64 l');have Br1:=((Br.later x1').far (p:=⟨w.heap.size,0,none⟩) (show w.heap.size ≠ w.heap.size+1 by omega) (.int .u64 h')).far (p:=⟨w.heap.size,1,none⟩) (show w.heap.size ≠ w.heap.size+1 by omega) (.int .u64 l');have X1:=xset (xset (xt X0 x1') (p:=⟨w.heap.size,0,none⟩) (Nat.le_refl _) (.int .u64 h')) (p:=⟨w.heap.size,1,none⟩) (Nat.le_refl _) (.int .u64 l');obtain ⟨⟨g0,g1⟩,j0,j1⟩:=B.later x1';obtain ⟨u1,hu1⟩:∃ u,(w1.setCell ⟨w.heap.size,0,none⟩ (.int .u64 h')).setCell ⟨w.heap.size,1,none⟩ (.int .u64 l')=u:=⟨_,rfl⟩;rw [hu1] at B1 Br1 X1;have B1':=B1;obtain ⟨⟨a0,a1⟩,c0,c1⟩:=B1';clear hlost LO T X0;go_wp2_with fail;refine (over_any 10 _ W1.out (by decide) (by decide)).mono ?_;rintro e w2 ⟨v2,rfl,hW2,x2'⟩;rw [div_ten P n n1] at hW2;obtain ⟨h2,l2,rfl,k1,k2,k3⟩:=hW2;have W2:Hid (WV (.agg #[.int .u64 h2,.int .u64 l2]) (P / 10 ^ n)):=⟨h2,l2,rfl,k1,k2,k3⟩;have OD:=odd_low k3;obtain ⟨d,hd⟩:∃ d,P / 10 ^ (n - 1) % 10=d:=⟨_,rfl⟩;rw [hd];have RN:=rnd_one 1 P n more n1;rw [hd,HLo.out,← OD] at RN;obtain ⟨od,hod⟩:∃ b:Bool,((l2:Int) % 2 == 1)=b:=⟨_,rfl⟩;rw [hod] at RN;obtain ⟨g,hg⟩:∃ b:Bool,goesOn 1 od (rest1 d (more || lost))=b:=⟨_,rfl⟩;rw [hg] at RN;have MO:Hid (∀ w,Calls Tryz.prog 190 #[.bool od,.int .i64 (rest1 d (more || lost))] w fun e w'=>e=.returned (.bool g)∧w'=w):=fun w=>by rw [← hg];exact toAway_any _ _ _
 have HRN:=hid RN;have B2:=(B1.later x2').put (.int .u64 h2) (.int .u64 l2);have Br2:=((Br1.later x2').far (p:=⟨w.heap.size,0,none⟩) (show w.heap.size ≠ w.heap.size+1 by omega) (.int .u64 h2)).far (p:=⟨w.heap.size,1,none⟩) (show w.heap.size ≠ w.heap.size+1 by omega) (.int .u64 l2);have X2:=xset (xset (xt X1 x2') (p:=⟨w.heap.size,0,none⟩) (Nat.le_refl _) (.int .u64 h2)) (p:=⟨w.heap.size,1,none⟩) (Nat.le_refl _) (.int .u64 l2);obtain ⟨⟨g0',g1'⟩,j0',j1'⟩:=B1.later x2';obtain ⟨u2,hu2⟩:∃ u,(w2.setCell ⟨w.heap.size,0,none⟩ (.int .u64 h2)).setCell ⟨w.heap.size,1,none⟩ (.int .u64 l2)=u:=⟨_,rfl⟩;rw [hu2] at B2 Br2 X2;have B2':=B2;have Br2':=Br2;obtain ⟨⟨a0',a1'⟩,c0',c1'⟩:=B2';obtain ⟨⟨r0,r1⟩,s0,s1⟩:=Br2';clear RN hg OD hd k3 hu1 g0 g1 j0 j1 a0 a1 c0 c1 B B1 Br Br1 x1' x2' X1 W1;go_upto_region 3 with fail;clear hu2 g0' g1' j0' j1';go_cut [34] (fun v wc=>v=.bool g∧∃ nq,wc=u2.drewN nq)
 case first =>
  cases more
  ·simp only [Bool.false_or] at MO;go_quiet (first | (go_at_call 195;exact Calls.quiet_of_same (restOf_any _ _ _)) | (go_at_call 190;exact Calls.quiet_of_same (MO.out _)));go_wp2_with fail;go_meet
   case rel=>exact ⟨rfl,_,rfl⟩
  ·simp only [Bool.true_or] at MO;go_quiet (first | (go_at_call 195;exact Calls.quiet_of_same (restOf_any _ _ _)) | (go_at_call 190;exact Calls.quiet_of_same (MO.out _)));go_wp2_with fail;go_meet
   case rel=>exact ⟨rfl,_,rfl⟩
 case rest =>
  obtain ⟨rfl,nq,hwc⟩:=hcut;have X3:Ext u2 wc:=by rw [hwc];exact xdrewN (xr _) _
  clear hwc hod MO;have B3:=B2.later X3;have Br3:=Br2.later X3;have Br3':=Br3;have B3':=B3;obtain ⟨⟨a0,a1⟩,c0,c1⟩:=B3';obtain ⟨⟨r0',r1'⟩,s0',s1'⟩:=Br3';clear B2 Br2 a0' a1' c0' c1' r0 r1 s0 s1;cases g
  ·have HR:Hid (WV (.agg #[.int .u64 h2,.int .u64 l2]) (rndM 1 P n more)):=by rw [HRN.out];exact W2.out
   go_wp2_with fail;exact bodyPost_ret (v:=.agg #[.int .u64 h2,.int .u64 l2]) (by simp [results,Tryz.results137,go_sem,r0',r1']) rfl ⟨_,rfl,HR.out,xset (xset (xt X2 X3) (Nat.le_succ _) _) (Nat.le_succ _) _⟩
  ·go_wp2_with fail;refine (plus_any _ W2.out (b:=1) ⟨0,1,rfl,by decide,by decide,rfl⟩ (short_fit PB.out n1)).mono ?_;rintro e w3 ⟨v3,rfl,hW3,x3'⟩;have hW3':=hW3;obtain ⟨h3,l3,rfl,_⟩:=hW3';have HR:Hid (WV (.agg #[.int .u64 h3,.int .u64 l3]) (rndM 1 P n more)):=by rw [HRN.out];exact hW3
   have B4:=(B3.later x3').put (.int .u64 h3) (.int .u64 l3);have Br4:=((Br3.later x3').far (p:=⟨w.heap.size,0,none⟩) (show w.heap.size ≠ w.heap.size+1 by omega) (.int .u64 h3)).far (p:=⟨w.heap.size,1,none⟩) (show w.heap.size ≠ w.heap.size+1 by omega) (.int .u64 l3);have X4:=xset (xset (xt (xt X2 X3) x3') (p:=⟨w.heap.size,0,none⟩) (Nat.le_refl _) (.int .u64 h3)) (p:=⟨w.heap.size,1,none⟩) (Nat.le_refl _) (.int .u64 l3);obtain ⟨⟨g0,g1⟩,j0,j1⟩:=B3.later x3';obtain ⟨u4,hu4⟩:∃ u,(w3.setCell ⟨w.heap.size,0,none⟩ (.int .u64 h3)).setCell ⟨w.heap.size,1,none⟩ (.int .u64 l3)=u:=⟨_,rfl⟩;rw [hu4] at B4 Br4 X4;obtain ⟨⟨b0,b1⟩,_⟩:=B4;obtain ⟨⟨q0,q1⟩,z0,z1⟩:=Br4;clear hW3 a0 a1 c0 c1 r0' r1' s0' s1' B3 Br3 x3' X2 X3;go_wp2_with fail;exact bodyPost_ret (v:=.agg #[.int .u64 h3,.int .u64 l3]) (by simp [results,Tryz.results137,go_sem,q0,q1]) rfl ⟨_,rfl,HR.out,xset (xset X4 (Nat.le_succ _) _) (Nat.le_succ _) _⟩
set_option maxRecDepth 4000 in
set_option maxHeartbeats 2000000 in
theorem short_toDown {v:Value} {P:Nat} (n:Nat) (more:Bool) (w:World) (hv:WV v P) (n1:1≤n) (hn:n≤100000) (hT:Tens w) :
  Calls Tryz.prog 137 #[v,.int .i64 n,.bool more,Value.func (Fn.func 191) #[] #[]] w fun e w'=>∃ v',e=.returned v'∧WV v' (rndM 2 P n more)∧Ext w w':=by
 obtain ⟨h,l,rfl,h1,h2,e1⟩:=hv;have LO:Hid (∀ w,Tens w→Calls Tryz.prog 193 #[.agg #[.int .u64 h,.int .u64 l],.int .i64 ((n:Int) - 1)] w fun e w'=>∃ h' l':Nat,e=.returned (.tuple #[.agg #[.int .u64 h',.int .u64 l'],.bool (decide (P % 10 ^ (n - 1) ≠ 0))])∧Hid (WV (.agg #[.int .u64 h',.int .u64 l']) (P / 10 ^ (n - 1)))∧Ext w w'):=fun w hT=>by
  have e:((n:Int) - 1)=((n - 1:Nat):Int):=by omega
  rw [e];refine (lowered_any (n - 1) w ⟨h,l,rfl,h1,h2,e1⟩ (by omega) hT).mono ?_;rintro e w' ⟨v',rfl,hW,hx⟩;have hW':=hW;obtain ⟨h',l',rfl,_⟩:=hW;exact ⟨h',l',rfl,hW',hx⟩
 have PB:Hid (P<340282366920938463463374607431768211456):=by show P<_;omega
 have B:=(Box2.made w (.int .u64 h) (.int .u64 l) 156).later (x1 _ (.cells #[.int .u64 0,.int .u64 0] 156));have Br:=Box2.made (w.alloc (.cells #[.int .u64 h,.int .u64 l] 156)) (.int .u64 0) (.int .u64 0) 156;simp only [World.size_alloc] at Br;have T:=hT.later (xa (x1 w (.cells #[.int .u64 h,.int .u64 l] 156)) (.cells #[.int .u64 0,.int .u64 0] 156));have X0:Ext w ((w.alloc (.cells #[.int .u64 h,.int .u64 l] 156)).alloc (.cells #[.int .u64 0,.int .u64 0] 156)):=xa (x1 _ _) _;clear e1 hT h1 h2;go_enter Tryz.func137,Tryz.ntmps137;go_wp2_with fail;refine (LO.out _ T).mono ?_;rintro e w1 ⟨h',l',rfl,W1,x1'⟩;obtain ⟨lost,hlost⟩:∃ b:Bool,decide (P % 10 ^ (n - 1) ≠ 0)=b:=⟨_,rfl⟩;rw [hlost];have HLo:=hid hlost;have B1:=(B.later x1').put (.int .u64 h') (.int .u64 l');have Br1:=((Br.later x1').far (p:=⟨w.heap.size,0,none⟩) (show w.heap.size ≠ w.heap.size+1 by omega) (.int .u64 h')).far (p:=⟨w.heap.size,1,none⟩) (show w.heap.size ≠ w.heap.size+1 by omega) (.int .u64 l');have X1:=xset (xset (xt X0 x1') (p:=⟨w.heap.size,0,none⟩) (Nat.le_refl _) (.int .u64 h')) (p:=⟨w.heap.size,1,none⟩) (Nat.le_refl _) (.int .u64 l');obtain ⟨⟨g0,g1⟩,j0,j1⟩:=B.later x1';obtain ⟨u1,hu1⟩:∃ u,(w1.setCell ⟨w.heap.size,0,none⟩ (.int .u64 h')).setCell ⟨w.heap.size,1,none⟩ (.int .u64 l')=u:=⟨_,rfl⟩;rw [hu1] at B1 Br1 X1;have B1':=B1;obtain ⟨⟨a0,a1⟩,c0,c1⟩:=B1';clear hlost LO T X0;go_wp2_with fail;refine (over_any 10 _ W1.out (by decide) (by decide)).mono ?_;rintro e w2 ⟨v2,rfl,hW2,x2'⟩;rw [div_ten P n n1] at hW2;obtain ⟨h2,l2,rfl,k1,k2,k3⟩:=hW2;have W2:Hid (WV (.agg #[.int .u64 h2,.int .u64 l2]) (P / 10 ^ n)):=⟨h2,l2,rfl,k1,k2,k3⟩;have OD:=odd_low k3;obtain ⟨d,hd⟩:∃ d,P / 10 ^ (n - 1) % 10=d:=⟨_,rfl⟩;rw [hd];have RN:=rnd_one 2 P n more n1;rw [hd,HLo.out,← OD] at RN;obtain ⟨od,hod⟩:∃ b:Bool,((l2:Int) % 2 == 1)=b:=⟨_,rfl⟩;rw [hod] at RN;obtain ⟨g,hg⟩:∃ b:Bool,goesOn 2 od (rest1 d (more || lost))=b:=⟨_,rfl⟩;rw [hg] at RN;have MO:Hid (∀ w,Calls Tryz.prog 191 #[.bool od,.int .i64 (rest1 d (more || lost))] w fun e w'=>e=.returned (.bool g)∧w'=w):=fun w=>by rw [← hg];exact toDown_any _ _ _
 have HRN:=hid RN;have B2:=(B1.later x2').put (.int .u64 h2) (.int .u64 l2);have Br2:=((Br1.later x2').far (p:=⟨w.heap.size,0,none⟩) (show w.heap.size ≠ w.heap.size+1 by omega) (.int .u64 h2)).far (p:=⟨w.heap.size,1,none⟩) (show w.heap.size ≠ w.heap.size+1 by omega) (.int .u64 l2);have X2:=xset (xset (xt X1 x2') (p:=⟨w.heap.size,0,none⟩) (Nat.le_refl _) (.int .u64 h2)) (p:=⟨w.heap.size,1,none⟩) (Nat.le_refl _) (.int .u64 l2);obtain ⟨⟨g0',g1'⟩,j0',j1'⟩:=B1.later x2';obtain ⟨u2,hu2⟩:∃ u,(w2.setCell ⟨w.heap.size,0,none⟩ (.int .u64 h2)).setCell ⟨w.heap.size,1,none⟩ (.int .u64 l2)=u:=⟨_,rfl⟩;rw [hu2] at B2 Br2 X2;have B2':=B2;have Br2':=Br2;obtain ⟨⟨a0',a1'⟩,c0',c1'⟩:=B2';obtain ⟨⟨r0,r1⟩,s0,s1⟩:=Br2';clear RN hg OD hd k3 hu1 g0 g1 j0 j1 a0 a1 c0 c1 B B1 Br Br1 x1' x2' X1 W1;go_upto_region 3 with fail;clear hu2 g0' g1' j0' j1';go_cut [34] (fun v wc=>v=.bool g∧∃ nq,wc=u2.drewN nq)
 case first =>
  cases more
  ·simp only [Bool.false_or] at MO;go_quiet (first | (go_at_call 195;exact Calls.quiet_of_same (restOf_any _ _ _)) | (go_at_call 191;exact Calls.quiet_of_same (MO.out _)));go_wp2_with fail;go_meet
   case rel=>exact ⟨rfl,_,rfl⟩
  ·simp only [Bool.true_or] at MO;go_quiet (first | (go_at_call 195;exact Calls.quiet_of_same (restOf_any _ _ _)) | (go_at_call 191;exact Calls.quiet_of_same (MO.out _)));go_wp2_with fail;go_meet
   case rel=>exact ⟨rfl,_,rfl⟩
 case rest =>
  obtain ⟨rfl,nq,hwc⟩:=hcut;have X3:Ext u2 wc:=by rw [hwc];exact xdrewN (xr _) _
  clear hwc hod MO;have B3:=B2.later X3;have Br3:=Br2.later X3;have Br3':=Br3;have B3':=B3;obtain ⟨⟨a0,a1⟩,c0,c1⟩:=B3';obtain ⟨⟨r0',r1'⟩,s0',s1'⟩:=Br3';clear B2 Br2 a0' a1' c0' c1' r0 r1 s0 s1;cases g
  ·have HR:Hid (WV (.agg #[.int .u64 h2,.int .u64 l2]) (rndM 2 P n more)):=by rw [HRN.out];exact W2.out
   go_wp2_with fail;exact bodyPost_ret (v:=.agg #[.int .u64 h2,.int .u64 l2]) (by simp [results,Tryz.results137,go_sem,r0',r1']) rfl ⟨_,rfl,HR.out,xset (xset (xt X2 X3) (Nat.le_succ _) _) (Nat.le_succ _) _⟩
  ·go_wp2_with fail;refine (plus_any _ W2.out (b:=1) ⟨0,1,rfl,by decide,by decide,rfl⟩ (short_fit PB.out n1)).mono ?_;rintro e w3 ⟨v3,rfl,hW3,x3'⟩;have hW3':=hW3;obtain ⟨h3,l3,rfl,_⟩:=hW3';have HR:Hid (WV (.agg #[.int .u64 h3,.int .u64 l3]) (rndM 2 P n more)):=by rw [HRN.out];exact hW3
   have B4:=(B3.later x3').put (.int .u64 h3) (.int .u64 l3);have Br4:=((Br3.later x3').far (p:=⟨w.heap.size,0,none⟩) (show w.heap.size ≠ w.heap.size+1 by omega) (.int .u64 h3)).far (p:=⟨w.heap.size,1,none⟩) (show w.heap.size ≠ w.heap.size+1 by omega) (.int .u64 l3);have X4:=xset (xset (xt (xt X2 X3) x3') (p:=⟨w.heap.size,0,none⟩) (Nat.le_refl _) (.int .u64 h3)) (p:=⟨w.heap.size,1,none⟩) (Nat.le_refl _) (.int .u64 l3);obtain ⟨⟨g0,g1⟩,j0,j1⟩:=B3.later x3';obtain ⟨u4,hu4⟩:∃ u,(w3.setCell ⟨w.heap.size,0,none⟩ (.int .u64 h3)).setCell ⟨w.heap.size,1,none⟩ (.int .u64 l3)=u:=⟨_,rfl⟩;rw [hu4] at B4 Br4 X4;obtain ⟨⟨b0,b1⟩,_⟩:=B4;obtain ⟨⟨q0,q1⟩,z0,z1⟩:=Br4;clear hW3 a0 a1 c0 c1 r0' r1' s0' s1' B3 Br3 x3' X2 X3;go_wp2_with fail;exact bodyPost_ret (v:=.agg #[.int .u64 h3,.int .u64 l3]) (by simp [results,Tryz.results137,go_sem,q0,q1]) rfl ⟨_,rfl,HR.out,xset (xset X4 (Nat.le_succ _) _) (Nat.le_succ _) _⟩
set_option maxRecDepth 4000 in
set_option maxHeartbeats 2000000 in
theorem short_toUp {v:Value} {P:Nat} (n:Nat) (more:Bool) (w:World) (hv:WV v P) (n1:1≤n) (hn:n≤100000) (hT:Tens w) :
  Calls Tryz.prog 137 #[v,.int .i64 n,.bool more,Value.func (Fn.func 192) #[] #[]] w fun e w'=>∃ v',e=.returned v'∧WV v' (rndM 3 P n more)∧Ext w w':=by
 obtain ⟨h,l,rfl,h1,h2,e1⟩:=hv;have LO:Hid (∀ w,Tens w→Calls Tryz.prog 193 #[.agg #[.int .u64 h,.int .u64 l],.int .i64 ((n:Int) - 1)] w fun e w'=>∃ h' l':Nat,e=.returned (.tuple #[.agg #[.int .u64 h',.int .u64 l'],.bool (decide (P % 10 ^ (n - 1) ≠ 0))])∧Hid (WV (.agg #[.int .u64 h',.int .u64 l']) (P / 10 ^ (n - 1)))∧Ext w w'):=fun w hT=>by
  have e:((n:Int) - 1)=((n - 1:Nat):Int):=by omega
  rw [e];refine (lowered_any (n - 1) w ⟨h,l,rfl,h1,h2,e1⟩ (by omega) hT).mono ?_;rintro e w' ⟨v',rfl,hW,hx⟩;have hW':=hW;obtain ⟨h',l',rfl,_⟩:=hW;exact ⟨h',l',rfl,hW',hx⟩
 have PB:Hid (P<340282366920938463463374607431768211456):=by show P<_;omega
 have B:=(Box2.made w (.int .u64 h) (.int .u64 l) 156).later (x1 _ (.cells #[.int .u64 0,.int .u64 0] 156));have Br:=Box2.made (w.alloc (.cells #[.int .u64 h,.int .u64 l] 156)) (.int .u64 0) (.int .u64 0) 156;simp only [World.size_alloc] at Br;have T:=hT.later (xa (x1 w (.cells #[.int .u64 h,.int .u64 l] 156)) (.cells #[.int .u64 0,.int .u64 0] 156));have X0:Ext w ((w.alloc (.cells #[.int .u64 h,.int .u64 l] 156)).alloc (.cells #[.int .u64 0,.int .u64 0] 156)):=xa (x1 _ _) _;clear e1 hT h1 h2;go_enter Tryz.func137,Tryz.ntmps137;go_wp2_with fail;refine (LO.out _ T).mono ?_;rintro e w1 ⟨h',l',rfl,W1,x1'⟩;obtain ⟨lost,hlost⟩:∃ b:Bool,decide (P % 10 ^ (n - 1) ≠ 0)=b:=⟨_,rfl⟩;rw [hlost];have HLo:=hid hlost;have B1:=(B.later x1').put (.int .u64 h') (.int .u64 l');have Br1:=((Br.later x1').far (p:=⟨w.heap.size,0,none⟩) (show w.heap.size ≠ w.heap.size+1 by omega) (.int .u64 h')).far (p:=⟨w.heap.size,1,none⟩) (show w.heap.size ≠ w.heap.size+1 by omega) (.int .u64 l');have X1:=xset (xset (xt X0 x1') (p:=⟨w.heap.size,0,none⟩) (Nat.le_refl _) (.int .u64 h')) (p:=⟨w.heap.size,1,none⟩) (Nat.le_refl _) (.int .u64 l');obtain ⟨⟨g0,g1⟩,j0,j1⟩:=B.later x1';obtain ⟨u1,hu1⟩:∃ u,(w1.setCell ⟨w.heap.size,0,none⟩ (.int .u64 h')).setCell ⟨w.heap.size,1,none⟩ (.int .u64 l')=u:=⟨_,rfl⟩;rw [hu1] at B1 Br1 X1;have B1':=B1;obtain ⟨⟨a0,a1⟩,c0,c1⟩:=B1';clear hlost LO T X0;go_wp2_with fail;refine (over_any 10 _ W1.out (by decide) (by decide)).mono ?_;rintro e w2 ⟨v2,rfl,hW2,x2'⟩;rw [div_ten P n n1] at hW2;obtain ⟨h2,l2,rfl,k1,k2,k3⟩:=hW2;have W2:Hid (WV (.agg #[.int .u64 h2,.int .u64 l2]) (P / 10 ^ n)):=⟨h2,l2,rfl,k1,k2,k3⟩;have OD:=odd_low k3;obtain ⟨d,hd⟩:∃ d,P / 10 ^ (n - 1) % 10=d:=⟨_,rfl⟩;rw [hd];have RN:=rnd_one 3 P n more n1;rw [hd,HLo.out,← OD] at RN;obtain ⟨od,hod⟩:∃ b:Bool,((l2:Int) % 2 == 1)=b:=⟨_,rfl⟩;rw [hod] at RN;obtain ⟨g,hg⟩:∃ b:Bool,goesOn 3 od (rest1 d (more || lost))=b:=⟨_,rfl⟩;rw [hg] at RN;have MO:Hid (∀ w,Calls Tryz.prog 192 #[.bool od,.int .i64 (rest1 d (more || lost))] w fun e w'=>e=.returned (.bool g)∧w'=w):=fun w=>by rw [← hg];exact toUp_any _ _ _
 have HRN:=hid RN;have B2:=(B1.later x2').put (.int .u64 h2) (.int .u64 l2);have Br2:=((Br1.later x2').far (p:=⟨w.heap.size,0,none⟩) (show w.heap.size ≠ w.heap.size+1 by omega) (.int .u64 h2)).far (p:=⟨w.heap.size,1,none⟩) (show w.heap.size ≠ w.heap.size+1 by omega) (.int .u64 l2);have X2:=xset (xset (xt X1 x2') (p:=⟨w.heap.size,0,none⟩) (Nat.le_refl _) (.int .u64 h2)) (p:=⟨w.heap.size,1,none⟩) (Nat.le_refl _) (.int .u64 l2);obtain ⟨⟨g0',g1'⟩,j0',j1'⟩:=B1.later x2';obtain ⟨u2,hu2⟩:∃ u,(w2.setCell ⟨w.heap.size,0,none⟩ (.int .u64 h2)).setCell ⟨w.heap.size,1,none⟩ (.int .u64 l2)=u:=⟨_,rfl⟩;rw [hu2] at B2 Br2 X2;have B2':=B2;have Br2':=Br2;obtain ⟨⟨a0',a1'⟩,c0',c1'⟩:=B2';obtain ⟨⟨r0,r1⟩,s0,s1⟩:=Br2';clear RN hg OD hd k3 hu1 g0 g1 j0 j1 a0 a1 c0 c1 B B1 Br Br1 x1' x2' X1 W1;go_upto_region 3 with fail;clear hu2 g0' g1' j0' j1';go_cut [34] (fun v wc=>v=.bool g∧∃ nq,wc=u2.drewN nq)
 case first =>
  cases more
  ·simp only [Bool.false_or] at MO;go_quiet (first | (go_at_call 195;exact Calls.quiet_of_same (restOf_any _ _ _)) | (go_at_call 192;exact Calls.quiet_of_same (MO.out _)));go_wp2_with fail;go_meet
   case rel=>exact ⟨rfl,_,rfl⟩
  ·simp only [Bool.true_or] at MO;go_quiet (first | (go_at_call 195;exact Calls.quiet_of_same (restOf_any _ _ _)) | (go_at_call 192;exact Calls.quiet_of_same (MO.out _)));go_wp2_with fail;go_meet
   case rel=>exact ⟨rfl,_,rfl⟩
 case rest =>
  obtain ⟨rfl,nq,hwc⟩:=hcut;have X3:Ext u2 wc:=by rw [hwc];exact xdrewN (xr _) _
  clear hwc hod MO;have B3:=B2.later X3;have Br3:=Br2.later X3;have Br3':=Br3;have B3':=B3;obtain ⟨⟨a0,a1⟩,c0,c1⟩:=B3';obtain ⟨⟨r0',r1'⟩,s0',s1'⟩:=Br3';clear B2 Br2 a0' a1' c0' c1' r0 r1 s0 s1;cases g
  ·have HR:Hid (WV (.agg #[.int .u64 h2,.int .u64 l2]) (rndM 3 P n more)):=by rw [HRN.out];exact W2.out
   go_wp2_with fail;exact bodyPost_ret (v:=.agg #[.int .u64 h2,.int .u64 l2]) (by simp [results,Tryz.results137,go_sem,r0',r1']) rfl ⟨_,rfl,HR.out,xset (xset (xt X2 X3) (Nat.le_succ _) _) (Nat.le_succ _) _⟩
  ·go_wp2_with fail;refine (plus_any _ W2.out (b:=1) ⟨0,1,rfl,by decide,by decide,rfl⟩ (short_fit PB.out n1)).mono ?_;rintro e w3 ⟨v3,rfl,hW3,x3'⟩;have hW3':=hW3;obtain ⟨h3,l3,rfl,_⟩:=hW3';have HR:Hid (WV (.agg #[.int .u64 h3,.int .u64 l3]) (rndM 3 P n more)):=by rw [HRN.out];exact hW3
   have B4:=(B3.later x3').put (.int .u64 h3) (.int .u64 l3);have Br4:=((Br3.later x3').far (p:=⟨w.heap.size,0,none⟩) (show w.heap.size ≠ w.heap.size+1 by omega) (.int .u64 h3)).far (p:=⟨w.heap.size,1,none⟩) (show w.heap.size ≠ w.heap.size+1 by omega) (.int .u64 l3);have X4:=xset (xset (xt (xt X2 X3) x3') (p:=⟨w.heap.size,0,none⟩) (Nat.le_refl _) (.int .u64 h3)) (p:=⟨w.heap.size,1,none⟩) (Nat.le_refl _) (.int .u64 l3);obtain ⟨⟨g0,g1⟩,j0,j1⟩:=B3.later x3';obtain ⟨u4,hu4⟩:∃ u,(w3.setCell ⟨w.heap.size,0,none⟩ (.int .u64 h3)).setCell ⟨w.heap.size,1,none⟩ (.int .u64 l3)=u:=⟨_,rfl⟩;rw [hu4] at B4 Br4 X4;obtain ⟨⟨b0,b1⟩,_⟩:=B4;obtain ⟨⟨q0,q1⟩,z0,z1⟩:=Br4;clear hW3 a0 a1 c0 c1 r0' r1' s0' s1' B3 Br3 x3' X2 X3;go_wp2_with fail;exact bodyPost_ret (v:=.agg #[.int .u64 h3,.int .u64 l3]) (by simp [results,Tryz.results137,go_sem,q0,q1]) rfl ⟨_,rfl,HR.out,xset (xset X4 (Nat.le_succ _) _) (Nat.le_succ _) _⟩
theorem Dig.nd {a k:Nat} (h:Dig a k):nd a=k:=nd_eq h.1 h.2
theorem WV.val {v:Value} {n:Nat} (h:WV v n) (hn:n<18446744073709551616):v=.agg #[.int .u64 0,.int .u64 n]:=by
 obtain ⟨h,l,rfl,h1,h2,h3⟩:=h;obtain rfl:h=0:=by omega
 obtain rfl:l=n:=by omega
 rfl
theorem Box4.far {w:World} {b:Nat} {v0 v1 v2 v3:Value} (h:Box4 w b v0 v1 v2 v3) {p:Addr} (hp:p.block ≠ b) (u:Value):Box4 (w.setCell p u) b v0 v1 v2 v3:=by
 obtain ⟨⟨h0,h1,h2,h3⟩,f0,f1,f2,f3⟩:=h;have ne:∀ i,p ≠ ⟨b,i,none⟩:=fun i e=>hp (congrArg Addr.block e);refine ⟨⟨?_,?_,?_,?_⟩,?_,?_,?_,?_⟩
 ·rw [World.cell?_setCell_other _ _ _ _ (ne 0)];exact h0
 ·rw [World.cell?_setCell_other _ _ _ _ (ne 1)];exact h1
 ·rw [World.cell?_setCell_other _ _ _ _ (ne 2)];exact h2
 ·rw [World.cell?_setCell_other _ _ _ _ (ne 3)];exact h3
 ·rw [World.frozen?_setCell];exact f0
 ·rw [World.frozen?_setCell];exact f1
 ·rw [World.frozen?_setCell];exact f2
 ·rw [World.frozen?_setCell];exact f3
theorem rnd_lt {P:Nat} {more:Bool} (h:15<nd P):rndM 0 P (nd P - 15) more≤1000000000000000:=by
 unfold rndM;have h1:P / 10 ^ (nd P - 15)<10 ^ 15:=by
  refine Nat.div_lt_of_lt_mul ?_;rw [← Nat.pow_add,show nd P - 15+15=nd P by omega];exact (nd_dig P).1
 have e:(10:Nat) ^ 15=1000000000000000:=by decide
 split <;> omega
set_option maxRecDepth 4000 in
set_option maxHeartbeats 2000000 in
theorem put_any {v:Value} {P:Nat} (neg:Bool) (e:Int) (more:Bool) (w:World) (hv:WV v P) (e0 : -90000≤e) (e1:e≤90000) (hT:Tens w) :
  Calls Tryz.prog 133 #[.bool neg,v,.int .i64 e,.bool more] w fun r w'=>r=.returned (resV (putR neg P e more))∧Ext w w':=by
 obtain ⟨R,hR⟩:∃ R,putR neg P e more=R:=⟨_,rfl⟩;rw [hR];have HPR:=hid hR;clear hR;obtain ⟨h,l,rfl,h1,h2,e2⟩:=hv;have HW:Hid (WV (.agg #[.int .u64 h,.int .u64 l]) P):=⟨h,l,rfl,h1,h2,e2⟩;have HP:=hid e2;have X0:Ext w ((w.alloc (.cells #[.int .u64 h,.int .u64 l] 156)).alloc (.cells #[.bool false,.bool false,.int .i64 0,.int .i64 0] 99)):=xa (x1 _ _) _;have B:=(Box2.made w (.int .u64 h) (.int .u64 l) 156).later (x1 _ (.cells #[.bool false,.bool false,.int .i64 0,.int .i64 0] 99));have Br:=Box4.made (w.alloc (.cells #[.int .u64 h,.int .u64 l] 156)) (.bool false) (.bool false) (.int .i64 0) (.int .i64 0) 99;simp only [World.size_alloc] at Br;clear e2;go_enter Tryz.func133,Tryz.ntmps133;go_wp2_with fail;refine (length_any _ HW.out (hT.later X0)).mono ?_;rintro r w1 ⟨k,rfl,hk,k39,x1'⟩;obtain rfl:=hk.nd;clear hk;have B1:=B.later x1';have Br1:=Br.later x1';have X1:=xt X0 x1';have B1':=B1;obtain ⟨⟨p0,p1⟩,f0,f1⟩:=B1';by_cases hk15:15<nd P
 ·have HR:Hid (R=fitR neg (rndM 0 P (nd P - 15) more) (e+((nd P - 15:Nat):Int))):=by rw [← HPR.out];unfold putR;rw [if_pos hk15];rfl
  have RL:Hid (rndM 0 P (nd P - 15) more≤1000000000000000):=rnd_lt hk15;have SH:Hid (∀ w,Tens w→Calls Tryz.prog 137 #[.agg #[.int .u64 h,.int .u64 l],.int .i64 (((nd P):Int) - 15),.bool more,Value.func (Fn.func 188) #[] #[]] w fun e w'=>e=.returned (.agg #[.int .u64 0,.int .u64 ((rndM 0 P (nd P - 15) more:Nat):Int)])∧Ext w w'):=fun w hT=>by
   have e3:(((nd P):Int) - 15)=((nd P - 15:Nat):Int):=by omega
   rw [e3];refine (short_toEven (nd P - 15) more w HW.out (by omega) (by omega) hT).mono ?_;rintro e w' ⟨v',rfl,hW,hx⟩;exact ⟨by rw [hW.val (by have:=RL.out;omega)],hx⟩
  obtain ⟨Q,hQ⟩:∃ Q,rndM 0 P (nd P - 15) more=Q:=⟨_,rfl⟩;rw [hQ] at HR RL SH;have FI:Hid (∀ w,Calls Tryz.prog 189 #[.bool neg,.int .u64 Q,.int .i64 (e+(((nd P):Int) - 15))] w fun r w'=>r=.returned (resV R)∧Ext w w'):=fun w=>by
   rw [HR.out];have e3:(((nd P):Int) - 15)=((nd P - 15:Nat):Int):=by omega
   rw [e3];exact fitted_any neg Q _ w (by have:=RL.out;omega) (by omega) (by omega)
  have k15':(15:Int)<((nd P):Int):=by omega
  clear hQ HR RL h1 h2 HP HPR;go_wp2_with fail;refine (SH.out _ (hT.later X1)).mono ?_;rintro r w2 ⟨rfl,x2'⟩;have B2:=(B1.later x2').put (.int .u64 0) (.int .u64 Q);have Br2:=Br1.later x2';have X2:=xset (xset (xt X1 x2') (p:=⟨w.heap.size,0,none⟩) (Nat.le_refl _) (.int .u64 0)) (p:=⟨w.heap.size,1,none⟩) (Nat.le_refl _) (.int .u64 Q);obtain ⟨⟨g0,g1⟩,j0,j1⟩:=B1.later x2';obtain ⟨u2,hu2⟩:∃ u,(w2.setCell ⟨w.heap.size,0,none⟩ (.int .u64 0)).setCell ⟨w.heap.size,1,none⟩ (.int .u64 Q)=u:=⟨_,rfl⟩;have Br3:Box4 u2 (w.heap.size+1) (.bool false) (.bool false) (.int .i64 0) (.int .i64 0):=by
   rw [← hu2];exact (Br2.far (p:=⟨w.heap.size,0,none⟩) (show w.heap.size ≠ w.heap.size+1 by omega) _).far (p:=⟨w.heap.size,1,none⟩) (show w.heap.size ≠ w.heap.size+1 by omega) _
  rw [hu2] at B2 X2;have B2':=B2;obtain ⟨⟨a0,a1⟩,c0,c1⟩:=B2';clear B Br B1 Br1 Br2 x1' x2' X0 X1 p0 p1 f0 f1;go_wp2_with fail;refine (FI.out _).mono ?_;rintro r w3 ⟨rfl,x3'⟩;obtain ⟨⟨q0,q1,q2,q3⟩,z0,z1,z2,z3⟩:=Br3.later x3';clear hu2 g0 g1 j0 j1 a0 a1 c0 c1;go_wp2_with fail;exact bodyPost_ret (v:=resV R) (by simp [results,Tryz.results133,go_sem,q0,q1,q2,q3]) rfl ⟨rfl,xset (xset (xset (xset (xt X2 x3') (Nat.le_succ _) _) (Nat.le_succ _) _) (Nat.le_succ _) _) (Nat.le_succ _) _⟩
 ·have HR:Hid (R=fitR neg P e):=by rw [← HPR.out];unfold putR;rw [if_neg hk15];rfl
  have hP:P<1000000000000000:=by
   have:=(nd_dig P).1;have:=pow10_le (show nd P≤15 by omega);have e:(10:Nat) ^ 15=1000000000000000:=by decide
   omega
  obtain ⟨rfl,rfl⟩:h=0∧l=P:=by have:=HP.out;omega
  have FI:Hid (∀ w,Calls Tryz.prog 189 #[.bool neg,.int .u64 l,.int .i64 e] w fun r w'=>r=.returned (resV R)∧Ext w w'):=fun w=>by
   rw [HR.out];exact fitted_any neg l _ w (by omega) (by omega) (by omega)
  have k15':¬ (15:Int)<((nd l):Int):=by omega
  clear HR h1 h2 HP HPR HW;go_wp2_with fail;refine (FI.out _).mono ?_;rintro r w3 ⟨rfl,x3'⟩;obtain ⟨⟨q0,q1,q2,q3⟩,z0,z1,z2,z3⟩:=Br1.later x3';go_wp2_with fail;exact bodyPost_ret (v:=resV R) (by simp [results,Tryz.results133,go_sem,q0,q1,q2,q3]) rfl ⟨rfl,xset (xset (xset (xset (xt X1 x3') (Nat.le_succ _) _) (Nat.le_succ _) _) (Nat.le_succ _) _) (Nat.le_succ _) _⟩
theorem cmp_abs_neg {a b:Int} (ha:a<0) (hb:b<0) : -cmpI (a.natAbs:Int) (b.natAbs:Int)=cmpI a b:=by
 have e1:(a.natAbs:Int) = -a:=by omega
 have e2:(b.natAbs:Int) = -b:=by omega
 rw [e1,e2,cmpI_neg];simp
theorem cmp_abs_pos {a b:Int} (ha:¬ a<0) (hb:¬ b<0):cmpI (a.natAbs:Int) (b.natAbs:Int)=cmpI a b:=by
 have e1:(a.natAbs:Int)=a:=by omega
 have e2:(b.natAbs:Int)=b:=by omega
 rw [e1,e2]
set_option maxHeartbeats 2000000 in
theorem cmp_small {va vb:Value} {a b:Int} (w:World) (ha:ZV w va a) (hb:ZV w vb b) (sa:smallB a=true) (sb:smallB b=true) :
  Calls Tryz.prog 115 #[va,vb] w fun e w'=>e=.returned (.int .i64 (cmpI a b))∧Ext w w':=by
 obtain ⟨s1,s2,rfl⟩:=ha.small_of sa;obtain ⟨t1,t2,rfl⟩:=hb.small_of sb;have H:Hid (cmpI a b=if a<b then -1 else if b<a then 1 else 0):=rfl;go_enter Tryz.func115,Tryz.ntmps115
 go_wp2
 all_goals go_ret
 all_goals refine ⟨ret_int ?_,?_⟩
 all_goals first | (rw [H.out];split <;> (try split) <;> omega) | skip
 all_goals exact xa (xa (xa (x1 _ _) _) _) _
theorem neg_is {v:Value} {z:Int} (c:Bool) (w:World) (hc:decide (z<0)=c) (h:ZV w v z) :
  Calls Tryz.prog 110 #[v] w fun e w'=>e=.returned (.bool c)∧Ext w w':=by
 rw [← hc];exact neg_any w h
theorem cmpI_bd (a b:Int) : -1≤cmpI a b∧cmpI a b≤1:=by unfold cmpI;split <;> (try split) <;> omega
theorem cmpL_any {va vb:Value} {a b:Int} (w:World) (ha:Limbs w va a) (hb:Limbs w vb b) :
  Calls Tryz.prog 174 #[va,vb] w fun e w'=>e=.returned (.int .i64 (cmpI a b))∧Ext w w':=by
 obtain ⟨xs,h1,h2,h3,rfl⟩:=ha;obtain ⟨ys,k1,k2,k3,rfl⟩:=hb;exact cmpD_any w h1 k1 h2 k2 h3 k3
set_option maxHeartbeats 4000000 in
theorem cmp_bigA {va vb:Value} {a b:Int} (w:World) (ha:ZV w va a) (hb:ZV w vb b) (sa:smallB a=false) :
  Calls Tryz.prog 115 #[va,vb] w fun e w'=>e=.returned (.int .i64 (cmpI a b))∧Ext w w':=by
 obtain ⟨a0,a1,pa,na,ca,rfl⟩:=ha.shape;obtain ⟨b0,b1,pb,nb,cb,rfl⟩:=hb.shape;go_enter Tryz.func115,Tryz.ntmps115;go_wp2_with fail;refine (isSmall_any _ (ha.later (xa (x1 _ _) _))).mono ?_;rintro e w1 ⟨rfl,e1⟩;have Ba:=((Box3.made w (.int .i64 a0) (.bool a1) (.slice pa na ca) 103).later (x1 _ _)).later e1;have Bb:=(Box3.made (w.alloc (.cells #[.int .i64 a0,.bool a1,.slice pa na ca] 103)) (.int .i64 b0) (.bool b1) (.slice pb nb cb) 103).later e1;simp only [World.size_alloc] at Bb;have ha1:=(ha.later (xa (x1 _ _) _)).later e1;have hb1:=(hb.later (xa (x1 _ _) _)).later e1;have X1:=xt (xa (x1 _ _) _) e1;clear e1 ha hb;have Ba':=Ba;have Bb':=Bb;obtain ⟨⟨p0,p1,p2⟩,_⟩:=Ba';obtain ⟨⟨q0,q1,q2⟩,_⟩:=Bb';go_wp2_with fail;by_cases hn:a<0
 ·have hn':decide (a<0)=true:=by simpa using hn
  by_cases hm:b<0
  ·have hm':decide (b<0)=true:=by simpa using hm
   go_region_held3 (fun w'=>(w'.cell? ⟨w.heap.size,0,none⟩=some (.int .i64 a0)∧w'.cell? ⟨w.heap.size,1,none⟩=some (.bool a1)∧w'.cell? ⟨w.heap.size,2,none⟩=some (.slice pa na ca))∧w'.cell? ⟨w.heap.size+1,0,none⟩=some (.int .i64 b0)∧w'.cell? ⟨w.heap.size+1,1,none⟩=some (.bool b1)∧w'.cell? ⟨w.heap.size+1,2,none⟩=some (.slice pb nb cb)) (go_keep)
    (first
     | (go_at_call_of 110 (Value.agg #[.int .i64 a0,.bool a1,.slice pa na ca]);refine (neg_is (z:=a) true _ hn' ?_).mono ?_;(exact ha1.later (xd (xr _)));rintro e w4 ⟨rfl,e4⟩;have X4:=xt (xd (xr _)) e4;obtain ⟨⟨c0,c1,c2⟩,_⟩:=Ba.later X4;obtain ⟨⟨d0,d1,d2⟩,_⟩:=Bb.later X4)
     | (go_at_call_of 110 (Value.agg #[.int .i64 b0,.bool b1,.slice pb nb cb]);refine (neg_is (z:=b) true _ hm' ?_).mono ?_;(exact hb1.later X4);rintro e w5 ⟨rfl,e5⟩;have X5:=xt X4 e5;obtain ⟨⟨f0,f1,f2⟩,_⟩:=Ba.later X5;obtain ⟨⟨g0,g1,g2⟩,_⟩:=Bb.later X5))
   have HH:Hid (-cmpI (a.natAbs:Int) (b.natAbs:Int)=cmpI a b):=cmp_abs_neg (by omega) (by omega);go_wp2_with fail;go_region_held3 (fun w'=>(w'.cell? ⟨w.heap.size,0,none⟩=some (.int .i64 a0)∧w'.cell? ⟨w.heap.size,1,none⟩=some (.bool a1)∧w'.cell? ⟨w.heap.size,2,none⟩=some (.slice pa na ca))∧w'.cell? ⟨w.heap.size+1,0,none⟩=some (.int .i64 b0)∧w'.cell? ⟨w.heap.size+1,1,none⟩=some (.bool b1)∧w'.cell? ⟨w.heap.size+1,2,none⟩=some (.slice pb nb cb)) (go_keep)
    (first
     | (go_at_call_of 152 (Value.agg #[.int .i64 a0,.bool a1,.slice pa na ca]);refine (limbs_any (z:=a) _ ?_).mono ?_;(exact (ha1.later X5).later (xd (xr _)));rintro e w6 ⟨x6,rfl,l6,e6⟩;have X6:=xt (xt X5 (xd (xr _))) e6;obtain ⟨⟨i0,i1,i2⟩,_⟩:=Ba.later X6;obtain ⟨⟨j0,j1,j2⟩,_⟩:=Bb.later X6)
     | (go_at_call_of 152 (Value.agg #[.int .i64 b0,.bool b1,.slice pb nb cb]);refine (limbs_any (z:=b) _ ?_).mono ?_;(exact hb1.later X6);rintro e w7 ⟨x7,rfl,l7,e7⟩;have X7:=xt X6 e7;obtain ⟨⟨k0,k1,k2⟩,_⟩:=Ba.later X7;obtain ⟨⟨m0,m1,m2⟩,_⟩:=Bb.later X7)
     | (go_at_call 174;refine (cmpL_any _ (l6.later e7) l7).mono ?_;rintro e w8 ⟨rfl,e8⟩;have X8:=xt X7 e8;obtain ⟨⟨n0,n1,n2⟩,_⟩:=Ba.later X8;obtain ⟨⟨o0,o1,o2⟩,_⟩:=Bb.later X8))
   go_wp2_with fail;refine (neg_is _ _ hn' (ha1.later X8)).mono ?_;rintro e w9 ⟨rfl,e9⟩;have cb:=cmpI_bd (a.natAbs:Int) (b.natAbs:Int)
   go_wp2
   go_ret;exact ⟨ret_int HH.out,xt X1 (xt X8 e9)⟩
  ·have hm':decide (b<0)=false:=by simpa using hm
   go_region_held3 (fun w'=>(w'.cell? ⟨w.heap.size,0,none⟩=some (.int .i64 a0)∧w'.cell? ⟨w.heap.size,1,none⟩=some (.bool a1)∧w'.cell? ⟨w.heap.size,2,none⟩=some (.slice pa na ca))∧w'.cell? ⟨w.heap.size+1,0,none⟩=some (.int .i64 b0)∧w'.cell? ⟨w.heap.size+1,1,none⟩=some (.bool b1)∧w'.cell? ⟨w.heap.size+1,2,none⟩=some (.slice pb nb cb)) (go_keep)
    (first
     | (go_at_call_of 110 (Value.agg #[.int .i64 a0,.bool a1,.slice pa na ca]);refine (neg_is (z:=a) true _ hn' ?_).mono ?_;(exact ha1.later (xd (xr _)));rintro e w4 ⟨rfl,e4⟩;have X4:=xt (xd (xr _)) e4;obtain ⟨⟨c0,c1,c2⟩,_⟩:=Ba.later X4;obtain ⟨⟨d0,d1,d2⟩,_⟩:=Bb.later X4)
     | (go_at_call_of 110 (Value.agg #[.int .i64 b0,.bool b1,.slice pb nb cb]);refine (neg_is (z:=b) false _ hm' ?_).mono ?_;(exact hb1.later X4);rintro e w5 ⟨rfl,e5⟩;have X5:=xt X4 e5;obtain ⟨⟨f0,f1,f2⟩,_⟩:=Ba.later X5;obtain ⟨⟨g0,g1,g2⟩,_⟩:=Bb.later X5))
   have HH:Hid (cmpI a b = -1):=cmpI_lt (by omega);go_wp2_with fail;refine (neg_is _ _ hn' (ha1.later X5)).mono ?_;rintro e w9 ⟨rfl,e9⟩
   go_wp2
   go_ret;exact ⟨ret_int HH.out.symm,xt X1 (xt X5 e9)⟩
 ·have hn':decide (a<0)=false:=by simpa using hn
  by_cases hm:b<0
  ·have hm':decide (b<0)=true:=by simpa using hm
   go_region_held3 (fun w'=>(w'.cell? ⟨w.heap.size,0,none⟩=some (.int .i64 a0)∧w'.cell? ⟨w.heap.size,1,none⟩=some (.bool a1)∧w'.cell? ⟨w.heap.size,2,none⟩=some (.slice pa na ca))∧w'.cell? ⟨w.heap.size+1,0,none⟩=some (.int .i64 b0)∧w'.cell? ⟨w.heap.size+1,1,none⟩=some (.bool b1)∧w'.cell? ⟨w.heap.size+1,2,none⟩=some (.slice pb nb cb)) (go_keep)
    (first
     | (go_at_call_of 110 (Value.agg #[.int .i64 a0,.bool a1,.slice pa na ca]);refine (neg_is (z:=a) false _ hn' ?_).mono ?_;(exact ha1.later (xd (xr _)));rintro e w4 ⟨rfl,e4⟩;have X4:=xt (xd (xr _)) e4;obtain ⟨⟨c0,c1,c2⟩,_⟩:=Ba.later X4;obtain ⟨⟨d0,d1,d2⟩,_⟩:=Bb.later X4)
     | (go_at_call_of 110 (Value.agg #[.int .i64 b0,.bool b1,.slice pb nb cb]);refine (neg_is (z:=b) true _ hm' ?_).mono ?_;(exact hb1.later X4);rintro e w5 ⟨rfl,e5⟩;have X5:=xt X4 e5;obtain ⟨⟨f0,f1,f2⟩,_⟩:=Ba.later X5;obtain ⟨⟨g0,g1,g2⟩,_⟩:=Bb.later X5))
   have HH:Hid (cmpI a b=1):=cmpI_gt (by omega);go_wp2_with fail;refine (neg_is _ _ hn' (ha1.later X5)).mono ?_;rintro e w9 ⟨rfl,e9⟩
   go_wp2
   go_ret;exact ⟨ret_int HH.out.symm,xt X1 (xt X5 e9)⟩
  ·have hm':decide (b<0)=false:=by simpa using hm
   go_region_held3 (fun w'=>(w'.cell? ⟨w.heap.size,0,none⟩=some (.int .i64 a0)∧w'.cell? ⟨w.heap.size,1,none⟩=some (.bool a1)∧w'.cell? ⟨w.heap.size,2,none⟩=some (.slice pa na ca))∧w'.cell? ⟨w.heap.size+1,0,none⟩=some (.int .i64 b0)∧w'.cell? ⟨w.heap.size+1,1,none⟩=some (.bool b1)∧w'.cell? ⟨w.heap.size+1,2,none⟩=some (.slice pb nb cb)) (go_keep)
    (first
     | (go_at_call_of 110 (Value.agg #[.int .i64 a0,.bool a1,.slice pa na ca]);refine (neg_is (z:=a) false _ hn' ?_).mono ?_;(exact ha1.later (xd (xr _)));rintro e w4 ⟨rfl,e4⟩;have X4:=xt (xd (xr _)) e4;obtain ⟨⟨c0,c1,c2⟩,_⟩:=Ba.later X4;obtain ⟨⟨d0,d1,d2⟩,_⟩:=Bb.later X4)
     | (go_at_call_of 110 (Value.agg #[.int .i64 b0,.bool b1,.slice pb nb cb]);refine (neg_is (z:=b) false _ hm' ?_).mono ?_;(exact hb1.later X4);rintro e w5 ⟨rfl,e5⟩;have X5:=xt X4 e5;obtain ⟨⟨f0,f1,f2⟩,_⟩:=Ba.later X5;obtain ⟨⟨g0,g1,g2⟩,_⟩:=Bb.later X5))
   have HH:Hid (cmpI (a.natAbs:Int) (b.natAbs:Int)=cmpI a b):=cmp_abs_pos (by omega) (by omega);go_wp2_with fail;go_region_held3 (fun w'=>(w'.cell? ⟨w.heap.size,0,none⟩=some (.int .i64 a0)∧w'.cell? ⟨w.heap.size,1,none⟩=some (.bool a1)∧w'.cell? ⟨w.heap.size,2,none⟩=some (.slice pa na ca))∧w'.cell? ⟨w.heap.size+1,0,none⟩=some (.int .i64 b0)∧w'.cell? ⟨w.heap.size+1,1,none⟩=some (.bool b1)∧w'.cell? ⟨w.heap.size+1,2,none⟩=some (.slice pb nb cb)) (go_keep)
    (first
     | (go_at_call_of 152 (Value.agg #[.int .i64 a0,.bool a1,.slice pa na ca]);refine (limbs_any (z:=a) _ ?_).mono ?_;(exact (ha1.later X5).later (xd (xr _)));rintro e w6 ⟨x6,rfl,l6,e6⟩;have X6:=xt (xt X5 (xd (xr _))) e6;obtain ⟨⟨i0,i1,i2⟩,_⟩:=Ba.later X6;obtain ⟨⟨j0,j1,j2⟩,_⟩:=Bb.later X6)
     | (go_at_call_of 152 (Value.agg #[.int .i64 b0,.bool b1,.slice pb nb cb]);refine (limbs_any (z:=b) _ ?_).mono ?_;(exact hb1.later X6);rintro e w7 ⟨x7,rfl,l7,e7⟩;have X7:=xt X6 e7;obtain ⟨⟨k0,k1,k2⟩,_⟩:=Ba.later X7;obtain ⟨⟨m0,m1,m2⟩,_⟩:=Bb.later X7)
     | (go_at_call 174;refine (cmpL_any _ (l6.later e7) l7).mono ?_;rintro e w8 ⟨rfl,e8⟩;have X8:=xt X7 e8;obtain ⟨⟨n0,n1,n2⟩,_⟩:=Ba.later X8;obtain ⟨⟨o0,o1,o2⟩,_⟩:=Bb.later X8))
   go_wp2_with fail;refine (neg_is _ _ hn' (ha1.later X8)).mono ?_;rintro e w9 ⟨rfl,e9⟩
   go_wp2
   go_ret;exact ⟨ret_int HH.out,xt X1 (xt X8 e9)⟩
set_option maxHeartbeats 4000000 in
theorem cmp_bigB {va vb:Value} {a b:Int} (w:World) (ha:ZV w va a) (hb:ZV w vb b) (sa:smallB a=true) (sb:smallB b=false) :
  Calls Tryz.prog 115 #[va,vb] w fun e w'=>e=.returned (.int .i64 (cmpI a b))∧Ext w w':=by
 obtain ⟨a0,a1,pa,na,ca,rfl⟩:=ha.shape;obtain ⟨b0,b1,pb,nb,cb,rfl⟩:=hb.shape;go_enter Tryz.func115,Tryz.ntmps115;go_wp2_with fail;refine (isSmall_any _ (ha.later (xa (x1 _ _) _))).mono ?_;rintro e w1 ⟨rfl,e1⟩;have Ba:=((Box3.made w (.int .i64 a0) (.bool a1) (.slice pa na ca) 103).later (x1 _ _)).later e1;have Bb:=(Box3.made (w.alloc (.cells #[.int .i64 a0,.bool a1,.slice pa na ca] 103)) (.int .i64 b0) (.bool b1) (.slice pb nb cb) 103).later e1;simp only [World.size_alloc] at Bb;have ha1:=(ha.later (xa (x1 _ _) _)).later e1;have hb1:=(hb.later (xa (x1 _ _) _)).later e1;have X1:=xt (xa (x1 _ _) _) e1;clear e1 ha hb;have Bb':=Bb;obtain ⟨⟨p0,p1,p2⟩,_⟩:=Bb';go_wp2_with fail;clear p0 p1 p2;refine (isSmall_any _ hb1).mono ?_;rintro e w1b ⟨rfl,e1b⟩;replace Ba:=Ba.later e1b;replace Bb:=Bb.later e1b;replace ha1:=ha1.later e1b;replace hb1:=hb1.later e1b;replace X1:=xt X1 e1b;clear e1b;have Ba':=Ba;have Bb':=Bb;obtain ⟨⟨p0,p1,p2⟩,_⟩:=Ba';obtain ⟨⟨q0,q1,q2⟩,_⟩:=Bb';go_wp2_with fail;by_cases hn:a<0
 ·have hn':decide (a<0)=true:=by simpa using hn
  by_cases hm:b<0
  ·have hm':decide (b<0)=true:=by simpa using hm
   go_region_held3 (fun w'=>(w'.cell? ⟨w.heap.size,0,none⟩=some (.int .i64 a0)∧w'.cell? ⟨w.heap.size,1,none⟩=some (.bool a1)∧w'.cell? ⟨w.heap.size,2,none⟩=some (.slice pa na ca))∧w'.cell? ⟨w.heap.size+1,0,none⟩=some (.int .i64 b0)∧w'.cell? ⟨w.heap.size+1,1,none⟩=some (.bool b1)∧w'.cell? ⟨w.heap.size+1,2,none⟩=some (.slice pb nb cb)) (go_keep)
    (first
     | (go_at_call_of 110 (Value.agg #[.int .i64 a0,.bool a1,.slice pa na ca]);refine (neg_is (z:=a) true _ hn' ?_).mono ?_;(exact ha1.later (xd (xr _)));rintro e w4 ⟨rfl,e4⟩;have X4:=xt (xd (xr _)) e4;obtain ⟨⟨c0,c1,c2⟩,_⟩:=Ba.later X4;obtain ⟨⟨d0,d1,d2⟩,_⟩:=Bb.later X4)
     | (go_at_call_of 110 (Value.agg #[.int .i64 b0,.bool b1,.slice pb nb cb]);refine (neg_is (z:=b) true _ hm' ?_).mono ?_;(exact hb1.later X4);rintro e w5 ⟨rfl,e5⟩;have X5:=xt X4 e5;obtain ⟨⟨f0,f1,f2⟩,_⟩:=Ba.later X5;obtain ⟨⟨g0,g1,g2⟩,_⟩:=Bb.later X5))
   have HH:Hid (-cmpI (a.natAbs:Int) (b.natAbs:Int)=cmpI a b):=cmp_abs_neg (by omega) (by omega);go_wp2_with fail;go_region_held3 (fun w'=>(w'.cell? ⟨w.heap.size,0,none⟩=some (.int .i64 a0)∧w'.cell? ⟨w.heap.size,1,none⟩=some (.bool a1)∧w'.cell? ⟨w.heap.size,2,none⟩=some (.slice pa na ca))∧w'.cell? ⟨w.heap.size+1,0,none⟩=some (.int .i64 b0)∧w'.cell? ⟨w.heap.size+1,1,none⟩=some (.bool b1)∧w'.cell? ⟨w.heap.size+1,2,none⟩=some (.slice pb nb cb)) (go_keep)
    (first
     | (go_at_call_of 152 (Value.agg #[.int .i64 a0,.bool a1,.slice pa na ca]);refine (limbs_any (z:=a) _ ?_).mono ?_;(exact (ha1.later X5).later (xd (xr _)));rintro e w6 ⟨x6,rfl,l6,e6⟩;have X6:=xt (xt X5 (xd (xr _))) e6;obtain ⟨⟨i0,i1,i2⟩,_⟩:=Ba.later X6;obtain ⟨⟨j0,j1,j2⟩,_⟩:=Bb.later X6)
     | (go_at_call_of 152 (Value.agg #[.int .i64 b0,.bool b1,.slice pb nb cb]);refine (limbs_any (z:=b) _ ?_).mono ?_;(exact hb1.later X6);rintro e w7 ⟨x7,rfl,l7,e7⟩;have X7:=xt X6 e7;obtain ⟨⟨k0,k1,k2⟩,_⟩:=Ba.later X7;obtain ⟨⟨m0,m1,m2⟩,_⟩:=Bb.later X7)
     | (go_at_call 174;refine (cmpL_any _ (l6.later e7) l7).mono ?_;rintro e w8 ⟨rfl,e8⟩;have X8:=xt X7 e8;obtain ⟨⟨n0,n1,n2⟩,_⟩:=Ba.later X8;obtain ⟨⟨o0,o1,o2⟩,_⟩:=Bb.later X8))
   go_wp2_with fail;refine (neg_is _ _ hn' (ha1.later X8)).mono ?_;rintro e w9 ⟨rfl,e9⟩;have cb:=cmpI_bd (a.natAbs:Int) (b.natAbs:Int)
   go_wp2
   go_ret;exact ⟨ret_int HH.out,xt X1 (xt X8 e9)⟩
  ·have hm':decide (b<0)=false:=by simpa using hm
   go_region_held3 (fun w'=>(w'.cell? ⟨w.heap.size,0,none⟩=some (.int .i64 a0)∧w'.cell? ⟨w.heap.size,1,none⟩=some (.bool a1)∧w'.cell? ⟨w.heap.size,2,none⟩=some (.slice pa na ca))∧w'.cell? ⟨w.heap.size+1,0,none⟩=some (.int .i64 b0)∧w'.cell? ⟨w.heap.size+1,1,none⟩=some (.bool b1)∧w'.cell? ⟨w.heap.size+1,2,none⟩=some (.slice pb nb cb)) (go_keep)
    (first
     | (go_at_call_of 110 (Value.agg #[.int .i64 a0,.bool a1,.slice pa na ca]);refine (neg_is (z:=a) true _ hn' ?_).mono ?_;(exact ha1.later (xd (xr _)));rintro e w4 ⟨rfl,e4⟩;have X4:=xt (xd (xr _)) e4;obtain ⟨⟨c0,c1,c2⟩,_⟩:=Ba.later X4;obtain ⟨⟨d0,d1,d2⟩,_⟩:=Bb.later X4)
     | (go_at_call_of 110 (Value.agg #[.int .i64 b0,.bool b1,.slice pb nb cb]);refine (neg_is (z:=b) false _ hm' ?_).mono ?_;(exact hb1.later X4);rintro e w5 ⟨rfl,e5⟩;have X5:=xt X4 e5;obtain ⟨⟨f0,f1,f2⟩,_⟩:=Ba.later X5;obtain ⟨⟨g0,g1,g2⟩,_⟩:=Bb.later X5))
   have HH:Hid (cmpI a b = -1):=cmpI_lt (by omega);go_wp2_with fail;refine (neg_is _ _ hn' (ha1.later X5)).mono ?_;rintro e w9 ⟨rfl,e9⟩
   go_wp2
   go_ret;exact ⟨ret_int HH.out.symm,xt X1 (xt X5 e9)⟩
 ·have hn':decide (a<0)=false:=by simpa using hn
  by_cases hm:b<0
  ·have hm':decide (b<0)=true:=by simpa using hm
   go_region_held3 (fun w'=>(w'.cell? ⟨w.heap.size,0,none⟩=some (.int .i64 a0)∧w'.cell? ⟨w.heap.size,1,none⟩=some (.bool a1)∧w'.cell? ⟨w.heap.size,2,none⟩=some (.slice pa na ca))∧w'.cell? ⟨w.heap.size+1,0,none⟩=some (.int .i64 b0)∧w'.cell? ⟨w.heap.size+1,1,none⟩=some (.bool b1)∧w'.cell? ⟨w.heap.size+1,2,none⟩=some (.slice pb nb cb)) (go_keep)
    (first
     | (go_at_call_of 110 (Value.agg #[.int .i64 a0,.bool a1,.slice pa na ca]);refine (neg_is (z:=a) false _ hn' ?_).mono ?_;(exact ha1.later (xd (xr _)));rintro e w4 ⟨rfl,e4⟩;have X4:=xt (xd (xr _)) e4;obtain ⟨⟨c0,c1,c2⟩,_⟩:=Ba.later X4;obtain ⟨⟨d0,d1,d2⟩,_⟩:=Bb.later X4)
     | (go_at_call_of 110 (Value.agg #[.int .i64 b0,.bool b1,.slice pb nb cb]);refine (neg_is (z:=b) true _ hm' ?_).mono ?_;(exact hb1.later X4);rintro e w5 ⟨rfl,e5⟩;have X5:=xt X4 e5;obtain ⟨⟨f0,f1,f2⟩,_⟩:=Ba.later X5;obtain ⟨⟨g0,g1,g2⟩,_⟩:=Bb.later X5))
   have HH:Hid (cmpI a b=1):=cmpI_gt (by omega);go_wp2_with fail;refine (neg_is _ _ hn' (ha1.later X5)).mono ?_;rintro e w9 ⟨rfl,e9⟩
   go_wp2
   go_ret;exact ⟨ret_int HH.out.symm,xt X1 (xt X5 e9)⟩
  ·have hm':decide (b<0)=false:=by simpa using hm
   go_region_held3 (fun w'=>(w'.cell? ⟨w.heap.size,0,none⟩=some (.int .i64 a0)∧w'.cell? ⟨w.heap.size,1,none⟩=some (.bool a1)∧w'.cell? ⟨w.heap.size,2,none⟩=some (.slice pa na ca))∧w'.cell? ⟨w.heap.size+1,0,none⟩=some (.int .i64 b0)∧w'.cell? ⟨w.heap.size+1,1,none⟩=some (.bool b1)∧w'.cell? ⟨w.heap.size+1,2,none⟩=some (.slice pb nb cb)) (go_keep)
    (first
     | (go_at_call_of 110 (Value.agg #[.int .i64 a0,.bool a1,.slice pa na ca]);refine (neg_is (z:=a) false _ hn' ?_).mono ?_;(exact ha1.later (xd (xr _)));rintro e w4 ⟨rfl,e4⟩;have X4:=xt (xd (xr _)) e4;obtain ⟨⟨c0,c1,c2⟩,_⟩:=Ba.later X4;obtain ⟨⟨d0,d1,d2⟩,_⟩:=Bb.later X4)
     | (go_at_call_of 110 (Value.agg #[.int .i64 b0,.bool b1,.slice pb nb cb]);refine (neg_is (z:=b) false _ hm' ?_).mono ?_;(exact hb1.later X4);rintro e w5 ⟨rfl,e5⟩;have X5:=xt X4 e5;obtain ⟨⟨f0,f1,f2⟩,_⟩:=Ba.later X5;obtain ⟨⟨g0,g1,g2⟩,_⟩:=Bb.later X5))
   have HH:Hid (cmpI (a.natAbs:Int) (b.natAbs:Int)=cmpI a b):=cmp_abs_pos (by omega) (by omega);go_wp2_with fail;go_region_held3 (fun w'=>(w'.cell? ⟨w.heap.size,0,none⟩=some (.int .i64 a0)∧w'.cell? ⟨w.heap.size,1,none⟩=some (.bool a1)∧w'.cell? ⟨w.heap.size,2,none⟩=some (.slice pa na ca))∧w'.cell? ⟨w.heap.size+1,0,none⟩=some (.int .i64 b0)∧w'.cell? ⟨w.heap.size+1,1,none⟩=some (.bool b1)∧w'.cell? ⟨w.heap.size+1,2,none⟩=some (.slice pb nb cb)) (go_keep)
    (first
     | (go_at_call_of 152 (Value.agg #[.int .i64 a0,.bool a1,.slice pa na ca]);refine (limbs_any (z:=a) _ ?_).mono ?_;(exact (ha1.later X5).later (xd (xr _)));rintro e w6 ⟨x6,rfl,l6,e6⟩;have X6:=xt (xt X5 (xd (xr _))) e6;obtain ⟨⟨i0,i1,i2⟩,_⟩:=Ba.later X6;obtain ⟨⟨j0,j1,j2⟩,_⟩:=Bb.later X6)
     | (go_at_call_of 152 (Value.agg #[.int .i64 b0,.bool b1,.slice pb nb cb]);refine (limbs_any (z:=b) _ ?_).mono ?_;(exact hb1.later X6);rintro e w7 ⟨x7,rfl,l7,e7⟩;have X7:=xt X6 e7;obtain ⟨⟨k0,k1,k2⟩,_⟩:=Ba.later X7;obtain ⟨⟨m0,m1,m2⟩,_⟩:=Bb.later X7)
     | (go_at_call 174;refine (cmpL_any _ (l6.later e7) l7).mono ?_;rintro e w8 ⟨rfl,e8⟩;have X8:=xt X7 e8;obtain ⟨⟨n0,n1,n2⟩,_⟩:=Ba.later X8;obtain ⟨⟨o0,o1,o2⟩,_⟩:=Bb.later X8))
   go_wp2_with fail;refine (neg_is _ _ hn' (ha1.later X8)).mono ?_;rintro e w9 ⟨rfl,e9⟩
   go_wp2
   go_ret;exact ⟨ret_int HH.out,xt X1 (xt X8 e9)⟩
theorem cmp_any {va vb:Value} {a b:Int} (w:World) (ha:ZV w va a) (hb:ZV w vb b) :
  Calls Tryz.prog 115 #[va,vb] w fun e w'=>e=.returned (.int .i64 (cmpI a b))∧Ext w w':=by
 cases sa:smallB a
 ·exact cmp_bigA w ha hb sa
 ·cases sb:smallB b
  ·exact cmp_bigB w ha hb sa sb
  ·exact cmp_small w ha hb sa sb
end Go.Proofs.YtjlojlgdkfpcdaaGreatDoor

