/-
  Several texts in one: MulA, MulB, MulC, MulAll, Ten, TenB, Sized, MuI.
-/
import Derived.Test.YtjlojlgdkfpcdaaGreatDoorMg9
import Derived.Test.YtjlojlgdkfpcdaaGreatDoorMg0
import Derived.Test.YtjlojlgdkfpcdaaGreatDoorMg8
namespace Go.Proofs.YtjlojlgdkfpcdaaGreatDoor
open Go.RowKit
theorem mul_small (a b x y:Int) (hx:(a.natAbs:Int)=x) (hy:(b.natAbs:Int)=y) (hp:x=0∨y≤999999999999999999 / x) : -1000000000000000000<a * b∧a * b<1000000000000000000:=by
 have h:x * y≤999999999999999999:=by
  rcases hp with rfl | hp
  ·simp
  ·by_cases h0:x=0
   ·subst h0;simp
   ·have h1:x * y≤x * (999999999999999999 / x):=Int.mul_le_mul_of_nonneg_left hp (by omega);have h2:x * (999999999999999999 / x)≤999999999999999999:=Int.mul_ediv_self_le h0;omega
 have h3:(((a * b).natAbs:Nat):Int)=x * y:=by rw [Int.natAbs_mul,Int.natCast_mul,hx,hy]
 omega
set_option maxHeartbeats 2000000 in
theorem mul_fast {va vb:Value} {a b:Int} (w:World) (ha:ZV w va a) (hb:ZV w vb b) (sa':smallB a=true) (sb':smallB b=true) (hp:(a.natAbs:Int)=0∨(b.natAbs:Int)≤999999999999999999 / (a.natAbs:Int)) :
  Calls Tryz.prog 92 #[va,vb] w fun e w'=>∃ v',e=.returned v'∧ZV w' v' (a * b)∧Ext w w':=by
 obtain ⟨s1,s2,rfl⟩:=ha.small_of sa';obtain ⟨t1,t2,rfl⟩:=hb.small_of sb';obtain ⟨x,hx⟩:∃ x,(a.natAbs:Int)=x:=⟨_,rfl⟩;obtain ⟨y,hy⟩:∃ y,(b.natAbs:Int)=y:=⟨_,rfl⟩;have HX:=hid hx;have HY:=hid hy;rw [hx,hy] at hp;obtain ⟨m1,m2⟩:=mul_small a b x y hx hy hp;have x0:0≤x:=by omega
 have x1':x<1000000000000000000:=by omega
 have y0:0≤y:=by omega
 have y1':y<1000000000000000000:=by omega
 clear hx hy;go_enter Tryz.func92,Tryz.ntmps92;go_wp2_with fail;refine (isSmall_any _ (ha.later (xa (xa (x1 _ _) _) _))).mono ?_;rintro e w1 ⟨rfl,e1⟩;have Ba:=((Box3.made w (.int .i64 a) (.bool false) (.slice none 0 0) 103).later (xa (x1 _ _) _)).later e1;have Bb:=((Box3.made (w.alloc (.cells #[.int .i64 a,.bool false,.slice none 0 0] 103)) (.int .i64 b) (.bool false) (.slice none 0 0) 103).later (x1 _ _)).later e1;have Br:=(Box3.made ((w.alloc (.cells #[.int .i64 a,.bool false,.slice none 0 0] 103)).alloc (.cells #[.int .i64 b,.bool false,.slice none 0 0] 103)) (.int .i64 0) (.bool false) (.slice none 0 0) 103).later e1;simp only [World.size_alloc] at Ba Bb Br;have ha1:=(ha.later (xa (xa (x1 _ _) _) _)).later e1;have hb1:=(hb.later (xa (xa (x1 _ _) _) _)).later e1;have X1:=xt (xa (xa (x1 _ _) _) _) e1;clear e1 ha hb;have Bb':=Bb;obtain ⟨⟨p0,p1,p2⟩,_⟩:=Bb';go_wp2_with fail;clear p0 p1 p2;refine (isSmall_any _ hb1).mono ?_;rintro e w1b ⟨rfl,e1b⟩;replace Ba:=Ba.later e1b;replace Bb:=Bb.later e1b;replace Br:=Br.later e1b;replace ha1:=ha1.later e1b;replace hb1:=hb1.later e1b;replace X1:=xt X1 e1b;clear e1b;have Ba':=Ba;have Bb':=Bb;obtain ⟨⟨p0,p1,p2⟩,_⟩:=Ba';obtain ⟨⟨q0,q1,q2⟩,_⟩:=Bb';go_wp2_with fail;refine (abs64_eq a x _ s1 s2 HX.out).mono ?_;rintro e w' ⟨rfl,hw⟩;subst hw;go_wp2_with fail;refine (abs64_eq b y _ t1 t2 HY.out).mono ?_;rintro e w' ⟨rfl,hw⟩;subst hw;have Hz:=(ZV.small (w:=w') m1 m2).set3 Br (.int .i64 (a * b)) (.bool false) (.slice none 0 0);have Hx:=Ext.set3 (b:=w.heap.size+1+1) X1 (by omega) (.int .i64 (a * b)) (.bool false) (.slice none 0 0);obtain ⟨⟨r0,r1,r2⟩,f0,f1,f2⟩:=Br;by_cases hx0:x=0
 ·have hx0':(x == 0)=true:=by rw [hx0];rfl
  clear hx0
  go_wp2
  exact bodyPost_ret (v:=zS (a * b)) (by simp [results,Tryz.results92,go_sem,r0,r1,r2]) rfl ⟨_,rfl,Hz,Hx⟩
 ·have hx0':(x == 0)=false:=by rw [beq_eq_false_iff_ne];exact hx0
  have hx2:0<x:=by omega
  have hp':y≤999999999999999999 / x:=hp.resolve_left hx0;clear hx0 hp
  go_wp2
  exact bodyPost_ret (v:=zS (a * b)) (by simp [results,Tryz.results92,go_sem,r0,r1,r2]) rfl ⟨_,rfl,Hz,Hx⟩
set_option maxHeartbeats 2000000 in
theorem mul_bigB {va vb:Value} {a b:Int} (w:World) (ha:ZV w va a) (hb:ZV w vb b) (sa':smallB a=true) (sb':smallB b=false) (k:Nat) (hk:k≤1000000000) (ka:(a.natAbs:Int)<1000000000 ^ k) (kb:(b.natAbs:Int)<1000000000 ^ k) :
  Calls Tryz.prog 92 #[va,vb] w fun e w'=>∃ v',e=.returned v'∧ZV w' v' (a * b)∧Ext w w':=by
 obtain ⟨a0,a1,pa,na,ca,rfl⟩:=ha.shape;obtain ⟨b0,b1,pb,nb,cb,rfl⟩:=hb.shape;go_enter Tryz.func92,Tryz.ntmps92;go_wp2_with fail;refine (isSmall_any _ (ha.later (xa (xa (x1 _ _) _) _))).mono ?_;rintro e w1 ⟨rfl,e1⟩;have Ba:=((Box3.made w (.int .i64 a0) (.bool a1) (.slice pa na ca) 103).later (xa (x1 _ _) _)).later e1;have Bb:=((Box3.made (w.alloc (.cells #[.int .i64 a0,.bool a1,.slice pa na ca] 103)) (.int .i64 b0) (.bool b1) (.slice pb nb cb) 103).later (x1 _ _)).later e1;have Br:=(Box3.made ((w.alloc (.cells #[.int .i64 a0,.bool a1,.slice pa na ca] 103)).alloc (.cells #[.int .i64 b0,.bool b1,.slice pb nb cb] 103)) (.int .i64 0) (.bool false) (.slice none 0 0) 103).later e1;simp only [World.size_alloc] at Ba Bb Br;have ha1:=(ha.later (xa (xa (x1 _ _) _) _)).later e1;have hb1:=(hb.later (xa (xa (x1 _ _) _) _)).later e1;have X1:=xt (xa (xa (x1 _ _) _) _) e1;clear e1 ha hb;have Bb':=Bb;obtain ⟨⟨p0,p1,p2⟩,_⟩:=Bb';go_wp2_with fail;clear p0 p1 p2;refine (isSmall_any _ hb1).mono ?_;rintro e w1b ⟨rfl,e1b⟩;replace Ba:=Ba.later e1b;replace Bb:=Bb.later e1b;replace Br:=Br.later e1b;replace ha1:=ha1.later e1b;replace hb1:=hb1.later e1b;replace X1:=xt X1 e1b;clear e1b;have Ba':=Ba;obtain ⟨⟨p0,p1,p2⟩,_⟩:=Ba';go_wp2_with fail;clear p0 p1 p2 sa' sb';refine (limbs_any _ ha1).mono ?_;rintro e w2 ⟨x,rfl,hx2,e2⟩;obtain ⟨⟨q0,q1,q2⟩,_⟩:=Bb.later e2;go_wp2_with fail;refine (limbs_any _ (hb1.later e2)).mono ?_;rintro e w3 ⟨y,rfl,hy3,e3⟩;obtain ⟨xs,⟨px,cx,rfl,cx1,cx2,cx3⟩,lx,tx,vx⟩:=hx2.later e3;obtain ⟨ys,⟨py,cy,rfl,cy1,cy2,cy3⟩,ly,ty,vy⟩:=hy3;have nx:xs.length≤k:=len_le lx tx (by rw [vx];exact ka);have ny:ys.length≤k:=len_le ly ty (by rw [vy];exact kb);have Ba3:=(Ba.later e2).later e3;have Bb3:=(Bb.later e2).later e3;have Br3:=(Br.later e2).later e3;have ha3:=(ha1.later e2).later e3;have hb3:=(hb1.later e2).later e3;have X3:=xt (xt X1 e2) e3;have HV:Hid (lv xs=(a.natAbs:Int)∧lv ys=(b.natAbs:Int)):=⟨vx,vy⟩;clear hx2 vx vy ha1 hb1 e2 e3 Ba Bb Br X1 q0 q1 q2 ka kb;have hmk:=run_make_row' (P:=Tryz.prog) 101 146 (.int .u32 0) 4 Tryz.underlying101 info32 rfl .i64 .i64 (xs.length+ys.length+1) (by omega) (by omega);have ec:((xs.length+ys.length+1:Nat):Int)=(xs.length:Int)+(ys.length:Int)+1:=by omega
 rw [ec] at hmk;clear ec;go_wp2_with fail;go_loopw [53] (fun i wr=>∃ (n:Nat) (fs:List Int),n≤xs.length∧i=.int .i64 n∧Own32 wr w3.heap.size fs∧fs.length=xs.length+ys.length+1∧Lim fs∧(∀ j,n+ys.length≤j→fs.getD j 0=0)∧lv fs=lv (xs.take n) * lv ys∧Ext w3 wr) (fun i _=>xs.length - (intOf i).toNat)
 case atStart=>exact ⟨0,List.replicate (xs.length+ys.length+1) 0,Nat.zero_le _,rfl,Own32.zeros _ _,by simp,Lim.zeros _,fun j _=>getD_zeros _ j,by simp [lv_replicate,lv],x1 _ _⟩
 case round =>
  obtain ⟨n,fs,hn,rfl,ho,hfl,hlf,hz,hv,X4⟩:=hrel;by_cases hlt:n<xs.length
  ·obtain ⟨bx,ox,rfl,cx4⟩:∃ b o,px=some ⟨b,o,none⟩∧C32 w3 b o xs:=by
    rcases cx3 with ⟨_,h⟩ | h
    ·omega
    ·exact h
   have hst:=MulAt.start (xs:=xs) (i:=n) hfl hlf hz hv;have HS:=hid hst;clear hst hz hv hfl hlf;go_wp2_with fail;go_loopw [11,58] (fun c j wq=>∃ (m:Nat) (gs:List Int) (cc:Int),m≤ys.length∧j=.int .i64 m∧c=.int .u64 cc∧Own32 wq w3.heap.size gs∧MulAt xs ys gs n m cc∧Ext w3 wq) (fun _ j _=>ys.length - (intOf j).toNat)
   case atStart=>exact ⟨0,fs,0,Nat.zero_le _,rfl,rfl,ho,HS.out,X4⟩
   case round =>
    obtain ⟨m,gs,cc,hm,rfl,rfl,hq,hM,X5⟩:=hrel;clear ho HS X4;by_cases hmlt:m<ys.length
    ·obtain ⟨by1,oy,rfl,cy4⟩:∃ b o,py=some ⟨b,o,none⟩∧C32 w3 b o ys:=by
      rcases cy3 with ⟨_,h⟩ | h
      ·omega
      ·exact h
     have HM:=hM;obtain ⟨m1,m2,m3,m4,m5,_⟩:=hM;obtain ⟨x,ex⟩:∃ x,xs.getD n 0=x:=⟨_,rfl⟩;obtain ⟨y,ey⟩:∃ y,ys.getD m 0=y:=⟨_,rfl⟩;obtain ⟨f,ef⟩:∃ f,gs.getD (n+m) 0=f:=⟨_,rfl⟩;have kx:=(cx4.later X5) n hlt;have ky:=(cy4.later X5) m hmlt;have kf:=World.rowIs.cell hq (i:=n+m) (by omega);have kz:=World.rowIs.frozen hq (n+m);rw [ex] at kx;rw [ey] at ky;rw [ef] at kf;obtain ⟨x0,x1'⟩:=lx.getD n;obtain ⟨y0,y1⟩:=ly.getD m;obtain ⟨f0,f1⟩:=m2.getD (n+m);rw [ex] at x0 x1';rw [ey] at y0 y1;rw [ef] at f0 f1;obtain ⟨s0,s1,s2⟩:=mul_sum x0 x1' y0 y1 f0 f1 m4 m5;have HN:Hid (MulAt xs ys (gs.set (n+m) ((f+x * y+cc) % 1000000000)) n (m+1) ((f+x * y+cc) / 1000000000)):=HM.step hlt hmlt lx ly ex ey ef;have HQ:Hid (Own32 wr w3.heap.size gs∧n+m<gs.length):=⟨hq,by omega⟩;clear HM ex ey ef hq m1 m3 m2 cx3 cy3 cx4 cy4 lx ly tx ty hmk ha3 hb3 Ba3 Bb3 Br3;go_wp2_with fail;go_quiet (fail)
     go_wp2
     go_roundw
     case rel=>exact ⟨m+1,_,_,by omega,by go_num,rfl,(HQ.out.1.drewN _).set _ HQ.out.2 _,HN.out,xset (xdN X5 _) (Nat.le_refl _) _⟩
     case measure=>simp [intOf];omega
    ·obtain rfl:m=ys.length:=(by omega);have hM':=hM;obtain ⟨m1,m2,m3,m4,m5,_⟩:=hM';have kf:=World.rowIs.cell hq (i:=n+ys.length) (by omega);have kz:=World.rowIs.frozen hq (n+ys.length);have HN:=hM.close hlt;have HC:Hid (∃ fs',fs'=gs.set (n+ys.length) cc∧fs'.length=xs.length+ys.length+1∧Lim fs'∧(∀ j,(n+1)+ys.length≤j→fs'.getD j 0=0)∧lv fs'=lv (xs.take (n+1)) * lv ys):=⟨_,rfl,HN⟩;have HQ:Hid (Own32 wr w3.heap.size gs∧n+ys.length<gs.length):=⟨hq,by omega⟩;clear HN hM hq m3 m2 cx3 cy3 cx4 lx ly tx ty hmk ha3 hb3 Ba3 Bb3 Br3
     go_wp2
     go_roundw
     case rel =>
      obtain ⟨fs',ef,c1,c2,c3,c4⟩:=HC.out;exact ⟨n+1,fs',by omega,by go_num,by rw [ef];exact HQ.out.1.set _ HQ.out.2 _,c1,c2,c3,c4,xset X5 (Nat.le_refl _) _⟩
     case measure=>simp [intOf];omega
  ·obtain rfl:n=xs.length:=by omega
   have hv':lv fs=(a.natAbs:Int) * (b.natAbs:Int):=by
    rw [hv,List.take_length,HV.out.1,HV.out.2]
   have R4:=ho.row (by omega);rw [hfl] at R4;have HR:Hid (Row wr (.slice (some ⟨w3.heap.size,0,none⟩) (xs.length+ys.length+1) (xs.length+ys.length+1)) fs∧Lim fs):=⟨R4,hlf⟩;have Ba4:=Ba3.later X4;have Bb4:=Bb3.later X4;have Br4:=Br3.later X4;have ha4:=ha3.later X4;have hb4:=hb3.later X4;have X5:=xt X3 X4;have Ba5:=Ba4;have Bb5:=Bb4;obtain ⟨⟨p0,p1,p2⟩,_⟩:=Ba5;obtain ⟨⟨q0,q1,q2⟩,_⟩:=Bb5;have HP:Hid (sgn (!(decide (a<0) == decide (b<0))) (lv fs)=a * b):=by rw [hv'];exact sgn_mul a b
   clear R4 hv hv' hz ho hfl hlf cx3 cy3 lx ly tx ty hmk ha3 hb3 Ba3 Bb3 Br3 HV X3 X4;go_wp2_with fail;go_region_with (first
    | (go_at_call_of 110 (Value.agg #[.int .i64 a0,.bool a1,.slice pa na ca]);refine (neg_any (z:=a) _ ?_).mono ?_;(exact ha4.later (by first | exact xr _ | exact xd (xr _)));rintro e w4 ⟨rfl,e4⟩;obtain ⟨⟨q0',q1',q2'⟩,_⟩:=Bb4.later (xt (xd (xr _)) e4))
    | (go_at_call_of 110 (Value.agg #[.int .i64 b0,.bool b1,.slice pb nb cb]);refine (neg_any (z:=b) _ ?_).mono ?_;(exact hb4.later (xt (xd (xr _)) (by assumption)));rintro e w5 ⟨rfl,e5⟩)
    | (go_at_call 155;refine (make_any _ _ (HR.out.1.later (xt (xt (xd (xr _)) (by assumption)) (by assumption))) HR.out.2).mono ?_;rintro e w6 ⟨v',rfl,hz6,e6⟩;obtain ⟨a0',a1',p',n',cap',rfl⟩:=hz6.shape;have X6:=xt (xt (xt (xd (xr wr)) (by assumption)) (by assumption)) e6;have B6:=Br4.later X6;obtain ⟨⟨r0,r1,r2⟩,s0,s1,s2⟩:=B6))
   all_goals
    go_wp2
    exact bodyPost_ret (v:=.agg #[.int .i64 a0',.bool a1',.slice p' n' cap']) (by simp [results,Tryz.results92,go_sem,r0,r1,r2]) rfl ⟨_,rfl,by rw [← HP.out];exact hz6.set3 (Br4.later X6) _ _ _,Ext.set3 (xt X5 X6) (by omega) _ _ _⟩
set_option maxHeartbeats 2000000 in
theorem mul_bigAB {va vb:Value} {a b:Int} (w:World) (ha:ZV w va a) (hb:ZV w vb b) (sa':smallB a=true) (sb':smallB b=true) (hp0:(((a.natAbs:Int)) == 0)=false) (hp:999999999999999999 / (a.natAbs:Int)<(b.natAbs:Int)) (k:Nat) (hk:k≤1000000000) (ka:(a.natAbs:Int)<1000000000 ^ k) (kb:(b.natAbs:Int)<1000000000 ^ k) :
  Calls Tryz.prog 92 #[va,vb] w fun e w'=>∃ v',e=.returned v'∧ZV w' v' (a * b)∧Ext w w':=by
 obtain ⟨s1,s2,rfl⟩:=ha.small_of sa';obtain ⟨t1,t2,rfl⟩:=hb.small_of sb';obtain ⟨x,hx⟩:∃ x,(a.natAbs:Int)=x:=⟨_,rfl⟩;obtain ⟨y,hy⟩:∃ y,(b.natAbs:Int)=y:=⟨_,rfl⟩;have HX:=hid hx;have HY:=hid hy;have HK:Hid ((a.natAbs:Int)<1000000000 ^ k∧(b.natAbs:Int)<1000000000 ^ k):=⟨ka,kb⟩;rw [hx] at hp0 hp;rw [hy] at hp;have x0:0<x:=by rw [beq_eq_false_iff_ne] at hp0;omega
 have x1':x<1000000000000000000:=by omega
 have y0:0≤y:=by omega
 have y1':y<1000000000000000000:=by omega
 clear hx hy ka kb;go_enter Tryz.func92,Tryz.ntmps92;go_wp2_with fail;refine (isSmall_any _ (ha.later (xa (xa (x1 _ _) _) _))).mono ?_;rintro e w1 ⟨rfl,e1⟩;have Ba:=((Box3.made w (.int .i64 a) (.bool false) (.slice none 0 0) 103).later (xa (x1 _ _) _)).later e1;have Bb:=((Box3.made (w.alloc (.cells #[.int .i64 a,.bool false,.slice none 0 0] 103)) (.int .i64 b) (.bool false) (.slice none 0 0) 103).later (x1 _ _)).later e1;have Br:=(Box3.made ((w.alloc (.cells #[.int .i64 a,.bool false,.slice none 0 0] 103)).alloc (.cells #[.int .i64 b,.bool false,.slice none 0 0] 103)) (.int .i64 0) (.bool false) (.slice none 0 0) 103).later e1;simp only [World.size_alloc] at Ba Bb Br;have ha1:=(ha.later (xa (xa (x1 _ _) _) _)).later e1;have hb1:=(hb.later (xa (xa (x1 _ _) _) _)).later e1;have X1:=xt (xa (xa (x1 _ _) _) _) e1;clear e1 ha hb;have Bb':=Bb;obtain ⟨⟨p0,p1,p2⟩,_⟩:=Bb';go_wp2_with fail;clear p0 p1 p2;refine (isSmall_any _ hb1).mono ?_;rintro e w1b ⟨rfl,e1b⟩;replace Ba:=Ba.later e1b;replace Bb:=Bb.later e1b;replace Br:=Br.later e1b;replace ha1:=ha1.later e1b;replace hb1:=hb1.later e1b;replace X1:=xt X1 e1b;clear e1b;have Ba':=Ba;have Bb':=Bb;obtain ⟨⟨p0,p1,p2⟩,_⟩:=Ba';obtain ⟨⟨q0,q1,q2⟩,_⟩:=Bb';go_wp2_with fail;refine (abs64_eq a x _ s1 s2 HX.out).mono ?_;rintro e w' ⟨rfl,hw⟩;subst hw;go_wp2_with fail;refine (abs64_eq b y _ t1 t2 HY.out).mono ?_;rintro e w' ⟨rfl,hw⟩;subst hw;go_wp2_with fail;obtain ⟨ka,kb⟩:=HK.out;clear p0 p1 p2 q0 q1 q2 sa' sb' hp0 hp x0 x1' y0 y1' HX HY HK;refine (limbs_any _ ha1).mono ?_;rintro e w2 ⟨x,rfl,hx2,e2⟩;obtain ⟨⟨q0,q1,q2⟩,_⟩:=Bb.later e2;go_wp2_with fail;refine (limbs_any _ (hb1.later e2)).mono ?_;rintro e w3 ⟨y,rfl,hy3,e3⟩;obtain ⟨xs,⟨px,cx,rfl,cx1,cx2,cx3⟩,lx,tx,vx⟩:=hx2.later e3;obtain ⟨ys,⟨py,cy,rfl,cy1,cy2,cy3⟩,ly,ty,vy⟩:=hy3;have nx:xs.length≤k:=len_le lx tx (by rw [vx];exact ka);have ny:ys.length≤k:=len_le ly ty (by rw [vy];exact kb);have Ba3:=(Ba.later e2).later e3;have Bb3:=(Bb.later e2).later e3;have Br3:=(Br.later e2).later e3;have ha3:=(ha1.later e2).later e3;have hb3:=(hb1.later e2).later e3;have X3:=xt (xt X1 e2) e3;have HV:Hid (lv xs=(a.natAbs:Int)∧lv ys=(b.natAbs:Int)):=⟨vx,vy⟩;clear hx2 vx vy ha1 hb1 e2 e3 Ba Bb Br X1 q0 q1 q2 ka kb;have hmk:=run_make_row' (P:=Tryz.prog) 101 146 (.int .u32 0) 4 Tryz.underlying101 info32 rfl .i64 .i64 (xs.length+ys.length+1) (by omega) (by omega);have ec:((xs.length+ys.length+1:Nat):Int)=(xs.length:Int)+(ys.length:Int)+1:=by omega
 rw [ec] at hmk;clear ec;go_wp2_with fail;go_loopw [53] (fun i wr=>∃ (n:Nat) (fs:List Int),n≤xs.length∧i=.int .i64 n∧Own32 wr w3.heap.size fs∧fs.length=xs.length+ys.length+1∧Lim fs∧(∀ j,n+ys.length≤j→fs.getD j 0=0)∧lv fs=lv (xs.take n) * lv ys∧Ext w3 wr) (fun i _=>xs.length - (intOf i).toNat)
 case atStart=>exact ⟨0,List.replicate (xs.length+ys.length+1) 0,Nat.zero_le _,rfl,Own32.zeros _ _,by simp,Lim.zeros _,fun j _=>getD_zeros _ j,by simp [lv_replicate,lv],x1 _ _⟩
 case round =>
  obtain ⟨n,fs,hn,rfl,ho,hfl,hlf,hz,hv,X4⟩:=hrel;by_cases hlt:n<xs.length
  ·obtain ⟨bx,ox,rfl,cx4⟩:∃ b o,px=some ⟨b,o,none⟩∧C32 w3 b o xs:=by
    rcases cx3 with ⟨_,h⟩ | h
    ·omega
    ·exact h
   have hst:=MulAt.start (xs:=xs) (i:=n) hfl hlf hz hv;have HS:=hid hst;clear hst hz hv hfl hlf;go_wp2_with fail;go_loopw [11,58] (fun c j wq=>∃ (m:Nat) (gs:List Int) (cc:Int),m≤ys.length∧j=.int .i64 m∧c=.int .u64 cc∧Own32 wq w3.heap.size gs∧MulAt xs ys gs n m cc∧Ext w3 wq) (fun _ j _=>ys.length - (intOf j).toNat)
   case atStart=>exact ⟨0,fs,0,Nat.zero_le _,rfl,rfl,ho,HS.out,X4⟩
   case round =>
    obtain ⟨m,gs,cc,hm,rfl,rfl,hq,hM,X5⟩:=hrel;clear ho HS X4;by_cases hmlt:m<ys.length
    ·obtain ⟨by1,oy,rfl,cy4⟩:∃ b o,py=some ⟨b,o,none⟩∧C32 w3 b o ys:=by
      rcases cy3 with ⟨_,h⟩ | h
      ·omega
      ·exact h
     have HM:=hM;obtain ⟨m1,m2,m3,m4,m5,_⟩:=hM;obtain ⟨x,ex⟩:∃ x,xs.getD n 0=x:=⟨_,rfl⟩;obtain ⟨y,ey⟩:∃ y,ys.getD m 0=y:=⟨_,rfl⟩;obtain ⟨f,ef⟩:∃ f,gs.getD (n+m) 0=f:=⟨_,rfl⟩;have kx:=(cx4.later X5) n hlt;have ky:=(cy4.later X5) m hmlt;have kf:=World.rowIs.cell hq (i:=n+m) (by omega);have kz:=World.rowIs.frozen hq (n+m);rw [ex] at kx;rw [ey] at ky;rw [ef] at kf;obtain ⟨x0,x1'⟩:=lx.getD n;obtain ⟨y0,y1⟩:=ly.getD m;obtain ⟨f0,f1⟩:=m2.getD (n+m);rw [ex] at x0 x1';rw [ey] at y0 y1;rw [ef] at f0 f1;obtain ⟨s0,s1,s2⟩:=mul_sum x0 x1' y0 y1 f0 f1 m4 m5;have HN:Hid (MulAt xs ys (gs.set (n+m) ((f+x * y+cc) % 1000000000)) n (m+1) ((f+x * y+cc) / 1000000000)):=HM.step hlt hmlt lx ly ex ey ef;have HQ:Hid (Own32 wr w3.heap.size gs∧n+m<gs.length):=⟨hq,by omega⟩;clear HM ex ey ef hq m1 m3 m2 cx3 cy3 cx4 cy4 lx ly tx ty hmk ha3 hb3 Ba3 Bb3 Br3;go_wp2_with fail;go_quiet (fail)
     go_wp2
     go_roundw
     case rel=>exact ⟨m+1,_,_,by omega,by go_num,rfl,(HQ.out.1.drewN _).set _ HQ.out.2 _,HN.out,xset (xdN X5 _) (Nat.le_refl _) _⟩
     case measure=>simp [intOf];omega
    ·obtain rfl:m=ys.length:=(by omega);have hM':=hM;obtain ⟨m1,m2,m3,m4,m5,_⟩:=hM';have kf:=World.rowIs.cell hq (i:=n+ys.length) (by omega);have kz:=World.rowIs.frozen hq (n+ys.length);have HN:=hM.close hlt;have HC:Hid (∃ fs',fs'=gs.set (n+ys.length) cc∧fs'.length=xs.length+ys.length+1∧Lim fs'∧(∀ j,(n+1)+ys.length≤j→fs'.getD j 0=0)∧lv fs'=lv (xs.take (n+1)) * lv ys):=⟨_,rfl,HN⟩;have HQ:Hid (Own32 wr w3.heap.size gs∧n+ys.length<gs.length):=⟨hq,by omega⟩;clear HN hM hq m3 m2 cx3 cy3 cx4 lx ly tx ty hmk ha3 hb3 Ba3 Bb3 Br3
     go_wp2
     go_roundw
     case rel =>
      obtain ⟨fs',ef,c1,c2,c3,c4⟩:=HC.out;exact ⟨n+1,fs',by omega,by go_num,by rw [ef];exact HQ.out.1.set _ HQ.out.2 _,c1,c2,c3,c4,xset X5 (Nat.le_refl _) _⟩
     case measure=>simp [intOf];omega
  ·obtain rfl:n=xs.length:=by omega
   have hv':lv fs=(a.natAbs:Int) * (b.natAbs:Int):=by
    rw [hv,List.take_length,HV.out.1,HV.out.2]
   have R4:=ho.row (by omega);rw [hfl] at R4;have HR:Hid (Row wr (.slice (some ⟨w3.heap.size,0,none⟩) (xs.length+ys.length+1) (xs.length+ys.length+1)) fs∧Lim fs):=⟨R4,hlf⟩;have Ba4:=Ba3.later X4;have Bb4:=Bb3.later X4;have Br4:=Br3.later X4;have ha4:=ha3.later X4;have hb4:=hb3.later X4;have X5:=xt X3 X4;have Ba5:=Ba4;have Bb5:=Bb4;obtain ⟨⟨p0,p1,p2⟩,_⟩:=Ba5;obtain ⟨⟨q0,q1,q2⟩,_⟩:=Bb5;have HP:Hid (sgn (!(decide (a<0) == decide (b<0))) (lv fs)=a * b):=by rw [hv'];exact sgn_mul a b
   clear R4 hv hv' hz ho hfl hlf cx3 cy3 lx ly tx ty hmk ha3 hb3 Ba3 Bb3 Br3 HV X3 X4;go_wp2_with fail;go_region_with (first
    | (go_at_call_of 110 (Value.agg #[.int .i64 a,.bool false,.slice none 0 0]);refine (neg_any (z:=a) _ ?_).mono ?_;(exact ha4.later (by first | exact xr _ | exact xd (xr _)));rintro e w4 ⟨rfl,e4⟩;obtain ⟨⟨q0',q1',q2'⟩,_⟩:=Bb4.later (xt (xd (xr _)) e4))
    | (go_at_call_of 110 (Value.agg #[.int .i64 b,.bool false,.slice none 0 0]);refine (neg_any (z:=b) _ ?_).mono ?_;(exact hb4.later (xt (xd (xr _)) (by assumption)));rintro e w5 ⟨rfl,e5⟩)
    | (go_at_call 155;refine (make_any _ _ (HR.out.1.later (xt (xt (xd (xr _)) (by assumption)) (by assumption))) HR.out.2).mono ?_;rintro e w6 ⟨v',rfl,hz6,e6⟩;obtain ⟨a0',a1',p',n',cap',rfl⟩:=hz6.shape;have X6:=xt (xt (xt (xd (xr wr)) (by assumption)) (by assumption)) e6;have B6:=Br4.later X6;obtain ⟨⟨r0,r1,r2⟩,s0,s1,s2⟩:=B6))
   all_goals
    go_wp2
    exact bodyPost_ret (v:=.agg #[.int .i64 a0',.bool a1',.slice p' n' cap']) (by simp [results,Tryz.results92,go_sem,r0,r1,r2]) rfl ⟨_,rfl,by rw [← HP.out];exact hz6.set3 (Br4.later X6) _ _ _,Ext.set3 (xt X5 X6) (by omega) _ _ _⟩
theorem mul_any {va vb:Value} {a b:Int} (w:World) (ha:ZV w va a) (hb:ZV w vb b) (k:Nat) (hk:k≤1000000000) (ka:(a.natAbs:Int)<1000000000 ^ k) (kb:(b.natAbs:Int)<1000000000 ^ k) :
  Calls Tryz.prog 92 #[va,vb] w fun e w'=>∃ v',e=.returned v'∧ZV w' v' (a * b)∧Ext w w':=by
 cases sa:smallB a
 ·exact mul_bigA w ha hb sa k hk ka kb
 ·cases sb:smallB b
  ·exact mul_bigB w ha hb sa sb k hk ka kb
  ·by_cases hp:(a.natAbs:Int)=0∨(b.natAbs:Int)≤999999999999999999 / (a.natAbs:Int)
   ·exact mul_fast w ha hb sa sb hp
   ·have h1:¬ (a.natAbs:Int)=0:=fun h=>hp (.inl h);have h2:¬ (b.natAbs:Int)≤999999999999999999 / (a.natAbs:Int):=fun h=>hp (.inr h);exact mul_bigAB w ha hb sa sb (by rw [beq_eq_false_iff_ne];exact h1) (by omega) k hk ka kb
theorem Box3.set3_same {w:World} {b:Nat} {v0 v1 v2:Value} (h:Box3 w b v0 v1 v2) (c0 c1 c2:Value):Box3 (set3 w b c0 c1 c2) b c0 c1 c2:=by
 obtain ⟨⟨q0,q1,q2⟩,f0,f1,f2⟩:=h;have n01:(⟨b,0,none⟩:Addr) ≠ ⟨b,1,none⟩:=addr_ne (by decide);have n02:(⟨b,0,none⟩:Addr) ≠ ⟨b,2,none⟩:=addr_ne (by decide);have n12:(⟨b,1,none⟩:Addr) ≠ ⟨b,2,none⟩:=addr_ne (by decide);refine ⟨⟨?_,?_,?_⟩,?_,?_,?_⟩
 ·rw [World.cell?_setCell_other _ _ _ _ n02.symm,World.cell?_setCell_other _ _ _ _ n01.symm];exact World.cell?_setCell_same _ _ _ q0
 ·rw [World.cell?_setCell_other _ _ _ _ n12.symm];exact World.cell?_setCell_same _ _ _ (by rw [World.cell?_setCell_other _ _ _ _ n01];exact q1)
 ·exact World.cell?_setCell_same _ _ _ (by rw [World.cell?_setCell_other _ _ _ _ n12,World.cell?_setCell_other _ _ _ _ n02];exact q2)
 ·simp [World.frozen?_setCell,f0]
 ·simp [World.frozen?_setCell,f1]
 ·simp [World.frozen?_setCell,f2]
theorem addr_far {b g i j:Nat} (h:b ≠ g):(⟨g,i,none⟩:Addr) ≠ ⟨b,j,none⟩:=fun e=>h (by cases e;rfl)
theorem Box3.set3_other {w:World} {b g:Nat} {v0 v1 v2:Value} (h:Box3 w b v0 v1 v2) (hb:b ≠ g) (c0 c1 c2:Value):Box3 (set3 w g c0 c1 c2) b v0 v1 v2:=by
 obtain ⟨⟨q0,q1,q2⟩,f0,f1,f2⟩:=h;refine ⟨⟨?_,?_,?_⟩,?_,?_,?_⟩
 ·rw [World.cell?_setCell_other _ _ _ _ (addr_far hb),World.cell?_setCell_other _ _ _ _ (addr_far hb),World.cell?_setCell_other _ _ _ _ (addr_far hb)];exact q0
 ·rw [World.cell?_setCell_other _ _ _ _ (addr_far hb),World.cell?_setCell_other _ _ _ _ (addr_far hb),World.cell?_setCell_other _ _ _ _ (addr_far hb)];exact q1
 ·rw [World.cell?_setCell_other _ _ _ _ (addr_far hb),World.cell?_setCell_other _ _ _ _ (addr_far hb),World.cell?_setCell_other _ _ _ _ (addr_far hb)];exact q2
 ·simp [World.frozen?_setCell,f0]
 ·simp [World.frozen?_setCell,f1]
 ·simp [World.frozen?_setCell,f2]
set_option maxHeartbeats 2000000 in
theorem power_any {va:Value} {a:Int} (n:Nat) (w:World) (ha:ZV w va a) (hn:n≤1000000) (k:Nat) (hk:k≤1000000000) (ka:(a.natAbs:Int)<1000000000 ^ k) (kp:∀ i,i≤n→((a ^ i).natAbs:Int)<1000000000 ^ k) :
  Calls Tryz.prog 156 #[va,.int .i64 n] w fun e w'=>∃ v',e=.returned v'∧ZV w' v' (a ^ n)∧Ext w w':=by
 obtain ⟨a0,a1,pa,na,ca,rfl⟩:=ha.shape;go_enter Tryz.func156,Tryz.ntmps156;go_wp2_with fail;refine (small_any 1 _ (by decide) (by decide)).mono ?_;rintro e w1 ⟨v1,rfl,h1,e1⟩;obtain ⟨o0,o1,po,no,co,rfl⟩:=h1.shape;have Ba:=((Box3.made w (.int .i64 a0) (.bool a1) (.slice pa na ca) 103).later (x1 _ _)).later e1;have Br:=(Box3.made (w.alloc (.cells #[.int .i64 a0,.bool a1,.slice pa na ca] 103)) (.int .i64 0) (.bool false) (.slice none 0 0) 103).later e1;simp only [World.size_alloc] at Br;have X1:=xt (xa (x1 _ _) _) e1;have sz:=e1.size;simp only [World.size_alloc] at sz;have KH:Hid ((a.natAbs:Int)<1000000000 ^ k∧∀ i,i≤n→((a ^ i).natAbs:Int)<1000000000 ^ k):=⟨ka,kp⟩;clear e1 ka kp;go_wp2_with fail;go_loopw [6] (fun i wr=>∃ (m:Nat) (c0:Int) (c1:Bool) (pc:Option Addr) (nc cc:Nat),m≤n∧i=.int .i64 m∧Box3 wr w1.heap.size (.int .i64 c0) (.bool c1) (.slice pc nc cc)∧ZV wr (.agg #[.int .i64 c0,.bool c1,.slice pc nc cc]) (a ^ m) ∧
   Box3 wr w.heap.size (.int .i64 a0) (.bool a1) (.slice pa na ca)∧Box3 wr (w.heap.size+1) (.int .i64 0) (.bool false) (.slice none 0 0)∧Ext w wr) (fun i _=>n - (intOf i).toNat)
 case atStart=>exact ⟨0,o0,o1,po,no,co,Nat.zero_le _,rfl,Box3.made _ _ _ _ _,by rw [Int.pow_zero];exact h1.later (x1 _ _),Ba.later (x1 _ _),Br.later (x1 _ _),xa X1 _⟩
 case round =>
  obtain ⟨m,c0,c1,pc,nc,cc,hm,rfl,Bo,ho,Bar,Brr,X⟩:=hrel;by_cases hlt:m<n
  ·have Bo':=Bo;have Ba':=Bar;obtain ⟨⟨q0,q1,q2⟩,_⟩:=Bo';obtain ⟨⟨p0,p1,p2⟩,_⟩:=Ba';clear Ba Br;go_wp2_with fail;refine (mul_any _ ho (ha.later X) k hk (KH.out.2 m hm) KH.out.1).mono ?_;rintro e w2 ⟨v2,rfl,h2,e2⟩;obtain ⟨d0,d1,pd,nd,cd,rfl⟩:=h2.shape;have B2:=Bo.later e2;have R:Hid (Box3 (set3 w2 w1.heap.size (.int .i64 d0) (.bool d1) (.slice pd nd cd)) w1.heap.size (.int .i64 d0) (.bool d1) (.slice pd nd cd)∧ZV (set3 w2 w1.heap.size (.int .i64 d0) (.bool d1) (.slice pd nd cd)) (.agg #[.int .i64 d0,.bool d1,.slice pd nd cd]) (a ^ (m+1)) ∧
     Box3 (set3 w2 w1.heap.size (.int .i64 d0) (.bool d1) (.slice pd nd cd)) w.heap.size (.int .i64 a0) (.bool a1) (.slice pa na ca)∧Box3 (set3 w2 w1.heap.size (.int .i64 d0) (.bool d1) (.slice pd nd cd)) (w.heap.size+1) (.int .i64 0) (.bool false) (.slice none 0 0)∧Ext w (set3 w2 w1.heap.size (.int .i64 d0) (.bool d1) (.slice pd nd cd))):=
    ⟨B2.set3_same _ _ _,by rw [Int.pow_succ];exact h2.set3 B2 _ _ _,(Bar.later e2).set3_other (by omega) _ _ _,(Brr.later e2).set3_other (by omega) _ _ _,Ext.set3 (xt X e2) (by omega) _ _ _⟩
   obtain ⟨⟨r0,r1,r2⟩,s0,s1,s2⟩:=B2;clear Bo ho Bar Brr X h2 e2
   go_wp2
   go_roundw
   case rel=>exact ⟨m+1,d0,d1,pd,nd,cd,by omega,by go_num,R.out.1,R.out.2.1,R.out.2.2.1,R.out.2.2.2.1,R.out.2.2.2.2⟩
   case measure=>simp [intOf];omega
  ·obtain rfl:m=n:=by omega
   have Hz:=ho.set3 Brr (.int .i64 c0) (.bool c1) (.slice pc nc cc);have Hx:=Ext.set3 (b:=w.heap.size+1) X (by omega) (.int .i64 c0) (.bool c1) (.slice pc nc cc);obtain ⟨⟨q0,q1,q2⟩,_⟩:=Bo;obtain ⟨⟨r0,r1,r2⟩,s0,s1,s2⟩:=Brr;clear Ba Br
   go_wp2
   exact bodyPost_ret (v:=.agg #[.int .i64 c0,.bool c1,.slice pc nc cc]) (by simp [results,Tryz.results156,go_sem,r0,r1,r2]) rfl ⟨_,rfl,Hz,Hx⟩
theorem ten_fit (i:Nat):(((10:Int) ^ i).natAbs:Int)<1000000000 ^ (i+1):=by
 have e:(((10:Int) ^ i).natAbs:Int)=((10 ^ i:Nat):Int):=by rw [Int.natAbs_pow];rfl
 rw [e];have h1:10 ^ i≤1000000000 ^ i:=Nat.pow_le_pow_left (by decide) i;have h2:1000000000 ^ i<1000000000 ^ (i+1):=Nat.pow_lt_pow_right (by decide) (by omega);have h3:((10 ^ i:Nat):Int)<((1000000000 ^ (i+1):Nat):Int):=by exact_mod_cast Nat.lt_of_le_of_lt h1 h2
 simpa using h3
theorem ten_fits (n i:Nat) (h:i≤n):(((10:Int) ^ i).natAbs:Int)<1000000000 ^ (n+1):=by
 have h1:=ten_fit i;have h2:(1000000000:Int) ^ (i+1)≤1000000000 ^ (n+1):=by
  have:=Nat.pow_le_pow_right (n:=1000000000) (by decide) (show i+1≤n+1 by omega);have h3:((1000000000 ^ (i+1):Nat):Int)≤((1000000000 ^ (n+1):Nat):Int):=by exact_mod_cast this
  simpa using h3
 omega
theorem Box3.up {w:World} {b:Nat} {v0 v1 v2:Value} (h:Box3 w b v0 v1 v2):((∀ o,(w.alloc o).cell? ⟨b,0,none⟩=some v0)∧(∀ o,(w.alloc o).cell? ⟨b,1,none⟩=some v1)∧∀ o,(w.alloc o).cell? ⟨b,2,none⟩=some v2)∧(∀ o,(w.alloc o).frozen? ⟨b,0,none⟩=false)∧(∀ o,(w.alloc o).frozen? ⟨b,1,none⟩=false)∧∀ o,(w.alloc o).frozen? ⟨b,2,none⟩=false:=
 ⟨⟨fun o=>(h.later (x1 w o)).1.1,fun o=>(h.later (x1 w o)).1.2.1,fun o=>(h.later (x1 w o)).1.2.2⟩,fun o=>(h.later (x1 w o)).2.1,fun o=>(h.later (x1 w o)).2.2.1,fun o=>(h.later (x1 w o)).2.2.2⟩
set_option maxHeartbeats 1000000 in
theorem ten_any (n:Nat) (w:World) (hn:n≤1000000) :
  Calls Tryz.prog 93 #[.int .i64 n] w fun e w'=>∃ v',e=.returned v'∧ZV w' v' (10 ^ n)∧Ext w w':=by
 go_enter Tryz.func93,Tryz.ntmps93;go_wp2_with fail;refine (small_any 10 _ (by decide) (by decide)).mono ?_;rintro e w1 ⟨v1,rfl,h1,e1⟩;go_wp2_with fail;refine (power_any n _ h1 hn (n+1+1) (by omega) (by simpa using ten_fits (n+1) 1 (by omega)) (fun i hi=>ten_fits (n+1) i (by omega))).mono ?_;rintro e w2 ⟨v2,rfl,h2,e2⟩;obtain ⟨o0,o1,po,no,co,rfl⟩:=h2.shape;have Br:=((Box3.made w (.int .i64 0) (.bool false) (.slice none 0 0) 103).later e1).later e2;have Hz:=h2.set3 Br (.int .i64 o0) (.bool o1) (.slice po no co);have Hx:=Ext.set3 (b:=w.heap.size) (xt (xt (x1 _ _) e1) e2) (Nat.le_refl _) (.int .i64 o0) (.bool o1) (.slice po no co);obtain ⟨⟨r0,r1,r2⟩,s0,s1,s2⟩:=Br
 go_wp2
 exact bodyPost_ret (v:=.agg #[.int .i64 o0,.bool o1,.slice po no co]) (by simp [results,Tryz.results93,go_sem,r0,r1,r2]) rfl ⟨_,rfl,Hz,Hx⟩
set_option maxHeartbeats 1000000 in
theorem of_any (neg:Bool) (d x:Int) (w:World) (h1 : -9000000000000000000<d) (h2:d<9000000000000000000) :
  Calls Tryz.prog 143 #[.agg #[.bool neg,.int .i64 d,.int .i64 x]] w fun e w'=>∃ v',e=.returned v'∧ZV w' v' (sgn neg d)∧Ext w w':=by
 go_enter Tryz.func143,Tryz.ntmps143;go_wp2_with fail;refine (small_any d _ h1 h2).mono ?_;rintro e w1 ⟨v1,rfl,hz1,e1⟩;obtain ⟨o0,o1,po,no,co,rfl⟩:=hz1.shape;have Ba:=((Box3.made w (.bool neg) (.int .i64 d) (.int .i64 x) 31).later (x1 _ _)).later e1;have Br:=(Box3.made (w.alloc (.cells #[.bool neg,.int .i64 d,.int .i64 x] 31)) (.int .i64 0) (.bool false) (.slice none 0 0) 103).later e1;simp only [World.size_alloc] at Br;have X1:=xt (xa (x1 _ _) _) e1;have sz:=e1.size;simp only [World.size_alloc] at sz;have n0:w.heap.size+1 ≠ w1.heap.size:=by omega
 cases neg
 ·have Br1:=Br.later (x1 w1 (.cells #[.int .i64 o0,.bool o1,.slice po no co] 103));have Hz:=(hz1.later (x1 _ _)).set3 Br1 (.int .i64 o0) (.bool o1) (.slice po no co);have Hx:=Ext.set3 (b:=w.heap.size+1) (xa X1 (.cells #[.int .i64 o0,.bool o1,.slice po no co] 103)) (by omega) (.int .i64 o0) (.bool o1) (.slice po no co);obtain ⟨⟨q0,q1,q2⟩,_⟩:=Ba.up;obtain ⟨⟨r0,r1,r2⟩,s0,s1,s2⟩:=Br.up;clear Ba Br Br1
  go_wp2
  exact bodyPost_ret (v:=.agg #[.int .i64 o0,.bool o1,.slice po no co]) (by simp [results,Tryz.results143,go_sem,r0,r1,r2]) rfl ⟨_,rfl,Hz,Hx⟩
 ·obtain ⟨⟨q0,q1,q2⟩,_⟩:=Ba.up;go_wp2_with fail;refine (minus_any _ (hz1.later (x1 _ _))).mono ?_;rintro e w2 ⟨v2,rfl,hz2,e2⟩;obtain ⟨m0,m1,pm,nm,cm,rfl⟩:=hz2.shape;have Br2:=(Br.later (x1 _ _)).later e2;have Hz:=hz2.set3 Br2 (.int .i64 m0) (.bool m1) (.slice pm nm cm);have Hx:=Ext.set3 (b:=w.heap.size+1) (xt (xa X1 _) e2) (by omega) (.int .i64 m0) (.bool m1) (.slice pm nm cm);obtain ⟨⟨r0,r1,r2⟩,s0,s1,s2⟩:=Br2;clear Ba Br
  go_wp2
  exact bodyPost_ret (v:=.agg #[.int .i64 m0,.bool m1,.slice pm nm cm]) (by simp [results,Tryz.results143,go_sem,r0,r1,r2]) rfl ⟨_,rfl,Hz,Hx⟩
theorem ten_int (n:Int) (w:World) (h0:0≤n) (hn:n≤1000000) :
  Calls Tryz.prog 93 #[.int .i64 n] w fun e w'=>∃ v',e=.returned v'∧ZV w' v' (10 ^ n.toNat)∧Ext w w':=by
 obtain ⟨m,rfl⟩:=Int.eq_ofNat_of_zero_le h0;rw [Int.toNat_natCast];exact ten_any m w (by omega)
theorem fit_dec {neg:Bool} {d:Int} (k:Nat) (hk:2≤k) (h0:0≤d) (h1:d<1000000000000000000):((sgn neg d).natAbs:Int)<1000000000 ^ k:=by
 have h2:(1000000000:Int) ^ 2≤1000000000 ^ k:=pow_le_pow hk;have e:(1000000000:Int) ^ 2=1000000000000000000:=by decide
 cases neg <;> simp [sgn] <;> omega
theorem fit_ten {n:Int} (k:Nat) (hk:n.toNat+1≤k):(((10:Int) ^ n.toNat).natAbs:Int)<1000000000 ^ k:=by
 have:=ten_fit n.toNat;have:=pow_le_pow hk;omega
theorem good_bd {neg:Bool} {d x:Int} (h:goodB neg d x=true):0≤d∧d<1000000000000000 ∧ -300≤x∧x≤300:=by
 unfold goodB at h;by_cases hd:d=0
 ·rw [if_pos hd] at h;simp at h;omega
 ·rw [if_neg hd] at h;simp at h;omega
theorem good_is (c:Bool) (neg:Bool) (d x:Int) (w:World) (h:goodB neg d x=c) :
  Calls Tryz.prog 76 #[.agg #[.bool neg,.int .i64 d,.int .i64 x]] w fun e w'=>e=.returned (.bool c)∧Ext w w':=by
 rw [← h];exact goodS neg d x w
theorem goodI_is (c:Bool) (neg:Bool) (d x:Int) (w:World) (h1 : -9223372036854775808≤d) (h2:d≤9223372036854775807) (hT:Tens w) (h:goodB neg d x=c) :
  Calls Tryz.prog 66 #[.agg #[.bool neg,.int .i64 d,.int .i64 x]] w fun e w'=>e=.returned (.bool c)∧Ext w w':=by
 rw [← h];exact goodI neg d x w h1 h2 hT
def badR:DR:=⟨false,false,0,0⟩
def mulR (na:Bool) (da ea:Int) (nb:Bool) (db eb:Int):DR:=if (goodB na da ea && goodB nb db eb)=true then putR (na != nb) (da.toNat * db.toNat) (ea+eb) false else badR
def ofR (d e:Int):DR:=if -1000≤e∧e≤1000 then putR (decide (d<0)) d.natAbs e false else badR
set_option maxRecDepth 4000 in
set_option maxHeartbeats 2000000 in
theorem mulI (na nb:Bool) (da ea db eb:Int) (w:World) (a1 : -9223372036854775808≤da) (a2:da≤9223372036854775807) (b1 : -9223372036854775808≤db) (b2:db≤9223372036854775807) (hT:Tens w) :
  Calls Tryz.prog 72 #[.agg #[.bool na,.int .i64 da,.int .i64 ea],.agg #[.bool nb,.int .i64 db,.int .i64 eb]] w fun r w'=>r=.returned (resV (mulR na da ea nb db eb))∧Ext w w':=by
 obtain ⟨R,hR⟩:∃ R,mulR na da ea nb db eb=R:=⟨_,rfl⟩;rw [hR];have X0:=xa (xa (x1 w (.cells #[.bool na,.int .i64 da,.int .i64 ea] 31)) (.cells #[.bool nb,.int .i64 db,.int .i64 eb] 31)) (.cells #[.bool false,.bool false,.int .i64 0,.int .i64 0] 99);have Ba:=(Box3.made w (.bool na) (.int .i64 da) (.int .i64 ea) 31).later (xa (x1 _ (.cells #[.bool nb,.int .i64 db,.int .i64 eb] 31)) (.cells #[.bool false,.bool false,.int .i64 0,.int .i64 0] 99));have Bb:=(Box3.made (w.alloc (.cells #[.bool na,.int .i64 da,.int .i64 ea] 31)) (.bool nb) (.int .i64 db) (.int .i64 eb) 31).later (x1 _ (.cells #[.bool false,.bool false,.int .i64 0,.int .i64 0] 99));have Br:=Box4.made ((w.alloc (.cells #[.bool na,.int .i64 da,.int .i64 ea] 31)).alloc (.cells #[.bool nb,.int .i64 db,.int .i64 eb] 31)) (.bool false) (.bool false) (.int .i64 0) (.int .i64 0) 99;simp only [World.size_alloc] at Bb Br;have T:=hT.later X0;clear hT;go_enter Tryz.func72,Tryz.ntmps72;go_wp2_with fail;cases ga:goodB na da ea
 ·have HR:Hid (R=⟨false,false,0,0⟩):=by rw [← hR];unfold mulR;rw [ga];rfl
  refine (goodI_is false na da ea _ a1 a2 T ga).mono ?_;rintro r w1 ⟨rfl,x1'⟩;obtain ⟨⟨m0,m1,m2,m3⟩,n0,n1,n2,n3⟩:=Br.later x1';clear ga hR;go_wp2_with fail;exact bodyPost_ret (v:=.agg #[.bool false,.bool false,.int .i64 0,.int .i64 0]) (by simp [results,Tryz.results72,go_sem,m0,m1,m2,m3]) rfl ⟨by rw [HR.out],xset (xset (xset (xset (xt X0 x1') (by simp only;omega) _) (by simp only;omega) _) (by simp only;omega) _) (by simp only;omega) _⟩
 ·refine (goodI_is true na da ea _ a1 a2 T ga).mono ?_;rintro r w1 ⟨rfl,x1'⟩;have Bb1:=Bb.later x1';have Bb1':=Bb1;obtain ⟨⟨q0,q1,q2⟩,_⟩:=Bb1';go_wp2_with fail;cases gb:goodB nb db eb
  ·have HR:Hid (R=⟨false,false,0,0⟩):=by rw [← hR];unfold mulR;rw [ga,gb];rfl
   refine (goodI_is false nb db eb _ b1 b2 (T.later x1') gb).mono ?_;rintro r w2 ⟨rfl,x2'⟩;obtain ⟨⟨m0,m1,m2,m3⟩,n0,n1,n2,n3⟩:=(Br.later x1').later x2';clear ga gb hR q0 q1 q2;go_wp2_with fail;exact bodyPost_ret (v:=.agg #[.bool false,.bool false,.int .i64 0,.int .i64 0]) (by simp [results,Tryz.results72,go_sem,m0,m1,m2,m3]) rfl ⟨by rw [HR.out],xset (xset (xset (xset (xt (xt X0 x1') x2') (by simp only;omega) _) (by simp only;omega) _) (by simp only;omega) _) (by simp only;omega) _⟩
  ·refine (goodI_is true nb db eb _ b1 b2 (T.later x1') gb).mono ?_;rintro r w2 ⟨rfl,x2'⟩;obtain ⟨ga0,ga1,ga2,ga3⟩:=good_bd ga;obtain ⟨gb0,gb1,gb2,gb3⟩:=good_bd gb;have HR:Hid (putR (na != nb) (da.toNat * db.toNat) (ea+eb) false=R):=by rw [← hR];unfold mulR;rw [ga,gb];rfl
   obtain ⟨A,rfl⟩:=Int.eq_ofNat_of_zero_le ga0;obtain ⟨B,rfl⟩:=Int.eq_ofNat_of_zero_le gb0;simp only [Int.toNat_natCast] at HR;have PR:Hid (∀ w2,Calls Tryz.prog 134 #[.int .u64 A,.int .u64 B] w2 fun e w'=>∃ h l:Nat,e=.returned (.agg #[.int .u64 h,.int .u64 l])∧WV (.agg #[.int .u64 h,.int .u64 l]) (A * B)∧Ext w2 w'):=fun w2=>by
    refine (product_any A B (by omega) (by omega) w2).mono ?_;rintro e w' ⟨v,rfl,hv,hx⟩;have hv':=hv;obtain ⟨h,l,rfl,_⟩:=hv';exact ⟨h,l,rfl,hv,hx⟩
   have PU:Hid (∀ w2 h l,Tens w2→WV (.agg #[.int .u64 h,.int .u64 l]) (A * B)→Calls Tryz.prog 133 #[.bool (na != nb),.agg #[.int .u64 h,.int .u64 l],.int .i64 (ea+eb),.bool false] w2 fun r w'=>r=.returned (resV R)∧Ext w2 w'):=fun w2 h l hT hv=>by
    rw [← HR.out];exact put_any _ _ _ w2 hv (by omega) (by omega) hT
   have wA:IntKind.u64.wrap (A:Int)=(A:Int):=by rw [IntKind.wrap_u64];omega
   have wB:IntKind.u64.wrap (B:Int)=(B:Int):=by rw [IntKind.wrap_u64];omega
   have wE:IntKind.i64.wrap (ea+eb)=ea+eb:=by rw [IntKind.wrap_i64];omega
   have Ba2:=(Ba.later x1').later x2';have Bb2:=Bb1.later x2';have Br2:=(Br.later x1').later x2';have T2:=(T.later x1').later x2';have X2:=xt (xt X0 x1') x2';have Ba2':=Ba2;have Bb2':=Bb2;obtain ⟨⟨p0,p1,p2⟩,_⟩:=Ba2';obtain ⟨⟨p3,p4,p5⟩,_⟩:=Bb2';have xn:((na != nb))=!(na == nb):=rfl;clear ga gb hR q0 q1 q2 Ba Bb Bb1 Br T X0 x1' x2' a1 a2 b1 b2 ga0 gb0 HR xn;have nz0:w.heap.size+1+1 ≠ w.heap.size:=by omega
   have nz1:w.heap.size+1+1 ≠ w.heap.size+1:=by omega
   go_upto_region 3 with fail;go_region_held3 (fun w'=>(w'.cell? ⟨w.heap.size,0,none⟩=some (.bool na)∧w'.cell? ⟨w.heap.size,1,none⟩=some (.int .i64 A)∧w'.cell? ⟨w.heap.size,2,none⟩=some (.int .i64 ea))∧w'.cell? ⟨w.heap.size+1,0,none⟩=some (.bool nb)∧w'.cell? ⟨w.heap.size+1,1,none⟩=some (.int .i64 B)∧w'.cell? ⟨w.heap.size+1,2,none⟩=some (.int .i64 eb)) (go_keep) (first
    | (go_at_call 134;refine (PR.out _).mono ?_;rintro r w3 ⟨h,l,rfl,hW,e3⟩;have X3:Ext w2 w3:=xt (xd (xr _)) e3;obtain ⟨⟨a30,a31,a32⟩,_⟩:=Ba2.later X3;obtain ⟨⟨b30,b31,b32⟩,_⟩:=Bb2.later X3)
    | (go_at_call 133;refine (PU.out _ _ _ (T2.later X3) hW).mono ?_;rintro r w4 ⟨rfl,e4⟩;have X4:Ext w2 w4:=xt X3 e4;obtain ⟨⟨a40,a41,a42⟩,_⟩:=Ba2.later X4;obtain ⟨⟨b40,b41,b42⟩,_⟩:=Bb2.later X4;obtain ⟨⟨m0,m1,m2,m3⟩,n0,n1,n2,n3⟩:=Br2.later X4))
   all_goals
    go_wp2_with fail;exact bodyPost_ret (v:=resV R) (by simp [results,Tryz.results72,go_sem,m0,m1,m2,m3]) rfl ⟨rfl,xset (xset (xset (xset (xt X2 X4) (by simp only;omega) _) (by simp only;omega) _) (by simp only;omega) _) (by simp only;omega) _⟩
set_option maxRecDepth 4000 in
set_option maxHeartbeats 1000000 in
theorem within_any (n m:Int) (c:Bool) (w:World) (hc:decide (-m≤n∧n≤m)=c) (m0:0≤m) (m1:m≤100000) :
  Calls Tryz.prog 120 #[.int .i64 n,.int .i64 m] w fun r w'=>r=.returned (.bool c)∧w'=w:=by
 have H:Hid (∀ b:Bool,(b=true ↔ -m≤n∧n≤m)→b=c):=fun b hb=>by
  rw [← hc,Bool.eq_iff_iff,decide_eq_true_eq];exact hb
 clear hc;by_cases h1 : -m≤n
 ·go_enter Tryz.func120,Tryz.ntmps120
  go_wp2
  all_goals go_ret
  all_goals exact ⟨ret_bool (H.out _ (by simp [h1])),rfl⟩
 ·have h1':n < -m:=by omega
  go_enter Tryz.func120,Tryz.ntmps120
  go_wp2
  all_goals go_ret
  all_goals exact ⟨ret_bool (H.out _ (by simp;omega)),rfl⟩
set_option maxRecDepth 4000 in
set_option maxHeartbeats 1000000 in
theorem ofI (d e:Int) (w:World) (a1 : -9223372036854775808≤d) (a2:d≤9223372036854775807) (hT:Tens w) :
  Calls Tryz.prog 73 #[.int .i64 d,.int .i64 e] w fun r w'=>r=.returned (resV (ofR d e))∧Ext w w':=by
 obtain ⟨R,hR⟩:∃ R,ofR d e=R:=⟨_,rfl⟩;rw [hR];have X0:=x1 w (.cells #[.bool false,.bool false,.int .i64 0,.int .i64 0] 99);have Br:=Box4.made w (.bool false) (.bool false) (.int .i64 0) (.int .i64 0) 99;have T:=hT.later X0;clear hT;by_cases he : -1000≤e∧e≤1000
 ·have HR:Hid (putR (decide (d<0)) d.natAbs e false=R):=by rw [← hR];unfold ofR;rw [if_pos he];rfl
  have WI:Hid (∀ w2,Calls Tryz.prog 120 #[.int .i64 e,.int .i64 1000] w2 fun r w'=>r=.returned (.bool true)∧w'=w2):=fun w2=>within_any e 1000 true w2 (decide_eq_true he) (by decide) (by decide);obtain ⟨he0,he1⟩:=he;clear hR;by_cases hd:d<0
  ·obtain ⟨P,hP⟩:∃ P:Nat,d.natAbs=P:=⟨_,rfl⟩;have hdd:decide (d<0)=true:=decide_eq_true hd;rw [hP,hdd] at HR;have PU:Hid (∀ w2,Tens w2→Calls Tryz.prog 133 #[.bool true,.agg #[.int .u64 0,.int .u64 P],.int .i64 e,.bool false] w2 fun r w'=>r=.returned (resV R)∧Ext w2 w'):=fun w2 hT=>by
    rw [← HR.out];exact put_any _ _ _ w2 ⟨0,P,rfl,by decide,by omega,by omega⟩ (by omega) (by omega) hT
   have e1:IntKind.u64.wrap d=d+18446744073709551616:=by rw [IntKind.wrap_u64];omega
   have e2:IntKind.u64.wrap (-(d+18446744073709551616))=(P:Int):=by rw [IntKind.wrap_u64];omega
   clear HR hP hdd a1 a2;go_enter Tryz.func73,Tryz.ntmps73;go_wp2_with fail;refine (WI.out _).mono ?_;rintro r w1 ⟨rfl,hw⟩;subst hw;go_wp2_with fail;refine (PU.out _ T).mono ?_;rintro r w2 ⟨rfl,x2'⟩;obtain ⟨⟨m0,m1,m2,m3⟩,n0,n1,n2,n3⟩:=Br.later x2';go_wp2_with fail;exact bodyPost_ret (v:=resV R) (by simp [results,Tryz.results73,go_sem,m0,m1,m2,m3]) rfl ⟨rfl,xset (xset (xset (xset (xt X0 x2') (Nat.le_refl _) _) (Nat.le_refl _) _) (Nat.le_refl _) _) (Nat.le_refl _) _⟩
  ·obtain ⟨P,hP⟩:∃ P:Nat,d=P:=⟨d.toNat,by omega⟩;subst hP;have hdd:decide ((P:Int)<0)=false:=decide_eq_false hd;rw [hdd,Int.natAbs_natCast] at HR;have PU:Hid (∀ w2,Tens w2→Calls Tryz.prog 133 #[.bool false,.agg #[.int .u64 0,.int .u64 P],.int .i64 e,.bool false] w2 fun r w'=>r=.returned (resV R)∧Ext w2 w'):=fun w2 hT=>by
    rw [← HR.out];exact put_any _ _ _ w2 ⟨0,P,rfl,by decide,by omega,by omega⟩ (by omega) (by omega) hT
   have e1:IntKind.u64.wrap (P:Int)=(P:Int):=by rw [IntKind.wrap_u64];omega
   clear HR hdd a1 a2;go_enter Tryz.func73,Tryz.ntmps73;go_wp2_with fail;refine (WI.out _).mono ?_;rintro r w1 ⟨rfl,hw⟩;subst hw;go_wp2_with fail;refine (PU.out _ T).mono ?_;rintro r w2 ⟨rfl,x2'⟩;obtain ⟨⟨m0,m1,m2,m3⟩,n0,n1,n2,n3⟩:=Br.later x2';go_wp2_with fail;exact bodyPost_ret (v:=resV R) (by simp [results,Tryz.results73,go_sem,m0,m1,m2,m3]) rfl ⟨rfl,xset (xset (xset (xset (xt X0 x2') (Nat.le_refl _) _) (Nat.le_refl _) _) (Nat.le_refl _) _) (Nat.le_refl _) _⟩
 ·have HR:Hid (R=⟨false,false,0,0⟩):=by rw [← hR];unfold ofR;rw [if_neg he];rfl
  have WI:Hid (∀ w2,Calls Tryz.prog 120 #[.int .i64 e,.int .i64 1000] w2 fun r w'=>r=.returned (.bool false)∧w'=w2):=fun w2=>within_any e 1000 false w2 (decide_eq_false he) (by decide) (by decide);clear hR he;go_enter Tryz.func73,Tryz.ntmps73;go_wp2_with fail;refine (WI.out _).mono ?_;rintro r w1 ⟨rfl,hw⟩;subst hw;obtain ⟨⟨m0,m1,m2,m3⟩,n0,n1,n2,n3⟩:=Br;go_wp2_with fail;exact bodyPost_ret (v:=.agg #[.bool false,.bool false,.int .i64 0,.int .i64 0]) (by simp [results,Tryz.results73,go_sem]) rfl ⟨by rw [HR.out],X0⟩
end Go.Proofs.YtjlojlgdkfpcdaaGreatDoor

