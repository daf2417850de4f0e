/-
  Several texts in one: MulA, MulB, MulC, MulAll, NumT, PutN, PutM.
-/
import Derived.Test.YtjlojlgdkfpcdaaGreatDoorMg6
import Derived.Test.YtjlojlgdkfpcdaaGreatDoorText
set_option maxRecDepth 8000
set_option maxHeartbeats 2000000
namespace Go.Proofs.YtjlojlgdkfpcdaaGreatDoor
open Go.RowKit
theorem zSM (a b x y:Int) (hx:(a.natAbs:Int)=x) (hy:(b.natAbs:Int)=y) (hp:x=0\/y<=999999999999999999 / x) : -1000000000000000000<a * b/\a * b<1000000000000000000:=by
 have h:x * y<=999999999999999999:=by
  rcases hp with rfl | hp
  ·simp
  ·by_cases h0:x=0
   ·subst h0;simp
   ·have h1:x * y<=x * (999999999999999999 / x):=Int.mul_le_mul_of_nonneg_left hp (by omega);have h2:x * (999999999999999999 / x)<=999999999999999999:=Int.mul_ediv_self_le h0;omega
 have h3:(((a * b).natAbs:Nat):Int)=x * y:=by rw [Int.natAbs_mul,Int.natCast_mul,hx,hy]
 omega
theorem zV4 {va vb:Value} {a b:Int} (w:World) (ha:ZV w va a) (hb:ZV w vb b) (sa':zAF a=true) (sb':zAF b=true) (hp:(a.natAbs:Int)=0\/(b.natAbs:Int)<=999999999999999999 / (a.natAbs:Int)) :
  Calls Tryz.prog 92 #[va,vb] w fun e w'=>∃ v',e=.returned v'/\ZV w' v' (a * b)/\Ext w w':=by
 obtain ⟨s1,s2,rfl⟩:=ha.small_of sa';obtain ⟨t1,t2,rfl⟩:=hb.small_of sb';obtain ⟨x,hx⟩:=nm ((a.natAbs:Int));obtain ⟨y,hy⟩:=nm ((b.natAbs:Int));have HX:=hid hx;have HY:=hid hy;rw [hx,hy] at hp;obtain ⟨m1,m2⟩:=zSM a b x y hx hy hp;have x0:0<=x:=by omega
 have x1':x<1000000000000000000:=by omega
 have y0:0<=y:=by omega
 have y1':y<1000000000000000000:=by omega
 clear hx hy;go_enter Tryz.func92,Tryz.ntmps92;go_wp2_with fail;refine (zA9 _ (ha.l (xa (xa (x1 _ _) _) _))).mono ?_;rintro e w1 ⟨rfl,e1⟩;have Ba:=((Box3.made w (iQ a) (.bool false) (.slice none 0 0) 103).l (xa (x1 _ _) _)).l e1;have Bb:=((Box3.made (w.alloc (.cells #[iQ a,.bool false,.slice none 0 0] 103)) (iQ b) (.bool false) (.slice none 0 0) 103).l (x1 _ _)).l e1;have Br:=(Box3.made ((w.alloc (.cells #[iQ a,.bool false,.slice none 0 0] 103)).alloc (.cells #[iQ b,.bool false,.slice none 0 0] 103)) (iQ 0) (.bool false) (.slice none 0 0) 103).l e1;simp only [World.size_alloc] at Ba Bb Br;have ha1:=(ha.l (xa (xa (x1 _ _) _) _)).l e1;have hb1:=(hb.l (xa (xa (x1 _ _) _) _)).l e1;have X1:=xt (xa (xa (x1 _ _) _) _) e1;clear e1 ha hb;have Bb':=Bb;obtain ⟨⟨p0,p1,p2⟩,_⟩:=Bb';go_wp2_with fail;clear p0 p1 p2;refine (zA9 _ hb1).mono ?_;rintro e w1b ⟨rfl,e1b⟩;replace Ba:=Ba.l e1b;replace Bb:=Bb.l e1b;replace Br:=Br.l e1b;replace ha1:=ha1.l e1b;replace hb1:=hb1.l e1b;replace X1:=xt X1 e1b;clear e1b;have Ba':=Ba;have Bb':=Bb;obtain ⟨⟨p0,p1,p2⟩,_⟩:=Ba';obtain ⟨⟨q0,q1,q2⟩,_⟩:=Bb';go_wp2_with fail;refine (zHA a x _ s1 s2 HX.out).mono ?_;rintro e w' ⟨rfl,hw⟩;subst hw;go_wp2_with fail;refine (zHA b y _ t1 t2 HY.out).mono ?_;rintro e w' ⟨rfl,hw⟩;subst hw;have Hz:=(ZV.small (w:=w') m1 m2).set3 Br (iQ (a * b)) (.bool false) (.slice none 0 0);have Hx:=Ext.set3 (b:=w.heap.size+1+1) X1 (by omega) (iQ (a * b)) (.bool false) (.slice none 0 0);obtain ⟨⟨r0,r1,r2⟩,f0,f1,f2⟩:=Br;by_cases hx0:x=0
 ·have hx0':(x == 0)=true:=by rw [hx0];rfl
  clear hx0
  go_wp2
  exact bodyPost_ret (v:=zS (a * b)) (by simp [results,Tryz.results92,go_sem,r0,r1,r2]) rfl ⟨_,rfl,Hz,Hx⟩
 ·have hx0':(x == 0)=false:=by rw [beq_eq_false_iff_ne];exact hx0
  have hx2:0<x:=by omega
  have hp':y<=999999999999999999 / x:=hp.resolve_left hx0;clear hx0 hp
  go_wp2
  exact bodyPost_ret (v:=zS (a * b)) (by simp [results,Tryz.results92,go_sem,r0,r1,r2]) rfl ⟨_,rfl,Hz,Hx⟩
theorem zV5 {va vb:Value} {a b:Int} (w:World) (ha:ZV w va a) (hb:ZV w vb b) (sa':zAF a=true) (sb':zAF b=false) (k:Nat) (hk:k<=1000000000) (ka:(a.natAbs:Int)<1000000000 ^ k) (kb:(b.natAbs:Int)<1000000000 ^ k) :
  Calls Tryz.prog 92 #[va,vb] w fun e w'=>∃ v',e=.returned v'/\ZV w' v' (a * b)/\Ext w w':=by
 obtain ⟨a0,a1,pa,na,ca,rfl⟩:=ha.shape;obtain ⟨b0,b1,pb,nb,cb,rfl⟩:=hb.shape;go_enter Tryz.func92,Tryz.ntmps92;go_wp2_with fail;refine (zA9 _ (ha.l (xa (xa (x1 _ _) _) _))).mono ?_;rintro e w1 ⟨rfl,e1⟩;have Ba:=((Box3.made w (iQ a0) (.bool a1) (.slice pa na ca) 103).l (xa (x1 _ _) _)).l e1;have Bb:=((Box3.made (w.alloc (.cells #[iQ a0,.bool a1,.slice pa na ca] 103)) (iQ b0) (.bool b1) (.slice pb nb cb) 103).l (x1 _ _)).l e1;have Br:=(Box3.made ((w.alloc (.cells #[iQ a0,.bool a1,.slice pa na ca] 103)).alloc (.cells #[iQ b0,.bool b1,.slice pb nb cb] 103)) (iQ 0) (.bool false) (.slice none 0 0) 103).l e1;simp only [World.size_alloc] at Ba Bb Br;have ha1:=(ha.l (xa (xa (x1 _ _) _) _)).l e1;have hb1:=(hb.l (xa (xa (x1 _ _) _) _)).l e1;have X1:=xt (xa (xa (x1 _ _) _) _) e1;clear e1 ha hb;have Bb':=Bb;obtain ⟨⟨p0,p1,p2⟩,_⟩:=Bb';go_wp2_with fail;clear p0 p1 p2;refine (zA9 _ hb1).mono ?_;rintro e w1b ⟨rfl,e1b⟩;replace Ba:=Ba.l e1b;replace Bb:=Bb.l e1b;replace Br:=Br.l e1b;replace ha1:=ha1.l e1b;replace hb1:=hb1.l e1b;replace X1:=xt X1 e1b;clear e1b;have Ba':=Ba;obtain ⟨⟨p0,p1,p2⟩,_⟩:=Ba';go_wp2_with fail;clear p0 p1 p2 sa' sb';refine (zAD _ ha1).mono ?_;rintro e w2 ⟨x,rfl,hx2,e2⟩;obtain ⟨⟨q0,q1,q2⟩,_⟩:=Bb.l e2;go_wp2_with fail;refine (zAD _ (hb1.l e2)).mono ?_;rintro e w3 ⟨y,rfl,hy3,e3⟩;obtain ⟨xs,⟨px,cx,rfl,cx1,cx2,cx3⟩,lx,tx,vx⟩:=hx2.l e3;obtain ⟨ys,⟨py,cy,rfl,cy1,cy2,cy3⟩,ly,ty,vy⟩:=hy3;have nx:xs.length<=k:=zEF lx tx (by rw [vx];exact ka);have ny:ys.length<=k:=zEF ly ty (by rw [vy];exact kb);have Ba3:=(Ba.l e2).l e3;have Bb3:=(Bb.l e2).l e3;have Br3:=(Br.l e2).l e3;have ha3:=(ha1.l e2).l e3;have hb3:=(hb1.l e2).l e3;have X3:=xt (xt X1 e2) e3;have HV:Hid (lv xs=(a.natAbs:Int)/\lv ys=(b.natAbs:Int)):=⟨vx,vy⟩;clear hx2 vx vy ha1 hb1 e2 e3 Ba Bb Br X1 q0 q1 q2 ka kb;have hmk:=run_make_row' (P:=Tryz.prog) 101 146 (.int .u32 0) 4 Tryz.underlying101 zF0 rfl .i64 .i64 (xs.length+ys.length+1) (by omega) (by omega);have ec:((xs.length+ys.length+1:Nat):Int)=(xs.length:Int)+(ys.length:Int)+1:=by omega
 rw [ec] at hmk;clear ec;go_wp2_with fail;go_loopw [53] (fun i wr=>∃ (n:Nat) (fs:List Int),n<=xs.length/\i=.int .i64 n/\zAH wr w3.heap.size fs/\fs.length=xs.length+ys.length+1/\Lim fs/\(∀ j,n+ys.length<=j->fs.getD j 0=0)/\lv fs=lv (xs.take n) * lv ys/\Ext w3 wr) (fun i _=>xs.length - (intOf i).toNat)
 case atStart=>exact ⟨0,List.replicate (xs.length+ys.length+1) 0,Nat.zero_le _,rfl,zAH.zeros _ _,by simp,Lim.zeros _,fun j _=>zB9 _ j,by simp [zB2,lv],x1 _ _⟩
 case round =>
  obtain ⟨n,fs,hn,rfl,ho,hfl,hlf,hz,hv,X4⟩:=hrel;by_cases hlt:n<xs.length
  ·obtain ⟨bx,ox,rfl,cx4⟩:∃ b o,px=some ⟨b,o,none⟩/\C32 w3 b o xs:=by
    rcases cx3 with ⟨_,h⟩ | h
    ·omega
    ·exact h
   have hst:=zEX.start (xs:=xs) (i:=n) hfl hlf hz hv;have HS:=hid hst;clear hst hz hv hfl hlf;go_wp2_with fail;go_loopw [11,58] (fun c j wq=>∃ (m:Nat) (gs:List Int) (cc:Int),m<=ys.length/\j=.int .i64 m/\c=.int .u64 cc/\zAH wq w3.heap.size gs/\zEX xs ys gs n m cc/\Ext w3 wq) (fun _ j _=>ys.length - (intOf j).toNat)
   case atStart=>exact ⟨0,fs,0,Nat.zero_le _,rfl,rfl,ho,HS.out,X4⟩
   case round =>
    obtain ⟨m,gs,cc,hm,rfl,rfl,hq,hM,X5⟩:=hrel;clear ho HS X4;by_cases hmlt:m<ys.length
    ·obtain ⟨by1,oy,rfl,cy4⟩:∃ b o,py=some ⟨b,o,none⟩/\C32 w3 b o ys:=by
      rcases cy3 with ⟨_,h⟩ | h
      ·omega
      ·exact h
     have HM:=hM;obtain ⟨m1,m2,m3,m4,m5,_⟩:=hM;obtain ⟨x,ex⟩:=nm (xs.getD n 0);obtain ⟨y,ey⟩:=nm (ys.getD m 0);obtain ⟨f,ef⟩:=nm (gs.getD (n+m) 0);have kx:=(cx4.l X5) n hlt;have ky:=(cy4.l X5) m hmlt;have kf:=World.rowIs.cell hq (i:=n+m) (by omega);have kz:=World.rowIs.frozen hq (n+m);rw [ex] at kx;rw [ey] at ky;rw [ef] at kf;obtain ⟨x0,x1'⟩:=lx.getD n;obtain ⟨y0,y1⟩:=ly.getD m;obtain ⟨f0,f1⟩:=m2.getD (n+m);rw [ex] at x0 x1';rw [ey] at y0 y1;rw [ef] at f0 f1;obtain ⟨s0,s1,s2⟩:=zGD x0 x1' y0 y1 f0 f1 m4 m5;have HN:Hid (zEX xs ys (gs.set (n+m) ((f+x * y+cc) % 1000000000)) n (m+1) ((f+x * y+cc) / 1000000000)):=HM.step hlt hmlt lx ly ex ey ef;have HQ:Hid (zAH wr w3.heap.size gs/\n+m<gs.length):=⟨hq,by omega⟩;clear HM ex ey ef hq m1 m3 m2 cx3 cy3 cx4 cy4 lx ly tx ty hmk ha3 hb3 Ba3 Bb3 Br3;go_wp2_with fail;go_quiet (fail)
     go_wp2
     go_roundw
     case rel=>exact ⟨m+1,_,_,by omega,by go_num,rfl,(HQ.out.1.drewN _).set _ HQ.out.2 _,HN.out,xset (xdN X5 _) (Nat.le_refl _) _⟩
     case measure=>simp [intOf];omega
    ·obtain rfl:m=ys.length:=(by omega);have hM':=hM;obtain ⟨m1,m2,m3,m4,m5,_⟩:=hM';have kf:=World.rowIs.cell hq (i:=n+ys.length) (by omega);have kz:=World.rowIs.frozen hq (n+ys.length);have HN:=hM.close hlt;have HC:Hid (∃ fs',fs'=gs.set (n+ys.length) cc/\fs'.length=xs.length+ys.length+1/\Lim fs'/\(∀ j,(n+1)+ys.length<=j->fs'.getD j 0=0)/\lv fs'=lv (xs.take (n+1)) * lv ys):=⟨_,rfl,HN⟩;have HQ:Hid (zAH wr w3.heap.size gs/\n+ys.length<gs.length):=⟨hq,by omega⟩;clear HN hM hq m3 m2 cx3 cy3 cx4 lx ly tx ty hmk ha3 hb3 Ba3 Bb3 Br3
     go_wp2
     go_roundw
     case rel =>
      obtain ⟨fs',ef,c1,c2,c3,c4⟩:=HC.out;exact ⟨n+1,fs',by omega,by go_num,by rw [ef];exact HQ.out.1.set _ HQ.out.2 _,c1,c2,c3,c4,xset X5 (Nat.le_refl _) _⟩
     case measure=>simp [intOf];omega
  ·obtain rfl:n=xs.length:=by omega
   have hv':lv fs=(a.natAbs:Int) * (b.natAbs:Int):=by
    rw [hv,List.take_length,HV.out.1,HV.out.2]
   have R4:=ho.row (by omega);rw [hfl] at R4;have HR:Hid (Row wr (.slice (some ⟨w3.heap.size,0,none⟩) (xs.length+ys.length+1) (xs.length+ys.length+1)) fs/\Lim fs):=⟨R4,hlf⟩;have Ba4:=Ba3.l X4;have Bb4:=Bb3.l X4;have Br4:=Br3.l X4;have ha4:=ha3.l X4;have hb4:=hb3.l X4;have X5:=xt X3 X4;have Ba5:=Ba4;have Bb5:=Bb4;obtain ⟨⟨p0,p1,p2⟩,_⟩:=Ba5;obtain ⟨⟨q0,q1,q2⟩,_⟩:=Bb5;have HP:Hid (sgn (!(decide (a<0) == decide (b<0))) (lv fs)=a * b):=by rw [hv'];exact zM2 a b
   clear R4 hv hv' hz ho hfl hlf cx3 cy3 lx ly tx ty hmk ha3 hb3 Ba3 Bb3 Br3 HV X3 X4;go_wp2_with fail;go_region_with (first
    | (go_at_call_of 110 (Value.agg #[iQ a0,.bool a1,.slice pa na ca]);refine (zDG (z:=a) _ ?_).mono ?_;(exact ha4.l (by first | exact xr _ | exact xd (xr _)));rintro e w4 ⟨rfl,e4⟩;obtain ⟨⟨q0',q1',q2'⟩,_⟩:=Bb4.l (xt (xd (xr _)) e4))
    | (go_at_call_of 110 (Value.agg #[iQ b0,.bool b1,.slice pb nb cb]);refine (zDG (z:=b) _ ?_).mono ?_;(exact hb4.l (xt (xd (xr _)) (by assumption)));rintro e w5 ⟨rfl,e5⟩)
    | (go_at_call 155;refine (zES _ _ (HR.out.1.l (xt (xt (xd (xr _)) (by assumption)) (by assumption))) HR.out.2).mono ?_;rintro e w6 ⟨v',rfl,hz6,e6⟩;obtain ⟨a0',a1',p',n',cap',rfl⟩:=hz6.shape;have X6:=xt (xt (xt (xd (xr wr)) (by assumption)) (by assumption)) e6;have B6:=Br4.l X6;obtain ⟨⟨r0,r1,r2⟩,s0,s1,s2⟩:=B6))
   all_goals
    go_wp2
    exact bodyPost_ret (v:=.agg #[iQ a0',.bool a1',.slice p' n' cap']) (by simp [results,Tryz.results92,go_sem,r0,r1,r2]) rfl ⟨_,rfl,by rw [<- HP.out];exact hz6.set3 (Br4.l X6) _ _ _,Ext.set3 (xt X5 X6) (by omega) _ _ _⟩
theorem zSN {va vb:Value} {a b:Int} (w:World) (ha:ZV w va a) (hb:ZV w vb b) (sa':zAF a=true) (sb':zAF b=true) (hp0:(((a.natAbs:Int)) == 0)=false) (hp:999999999999999999 / (a.natAbs:Int)<(b.natAbs:Int)) (k:Nat) (hk:k<=1000000000) (ka:(a.natAbs:Int)<1000000000 ^ k) (kb:(b.natAbs:Int)<1000000000 ^ k) :
  Calls Tryz.prog 92 #[va,vb] w fun e w'=>∃ v',e=.returned v'/\ZV w' v' (a * b)/\Ext w w':=by
 obtain ⟨s1,s2,rfl⟩:=ha.small_of sa';obtain ⟨t1,t2,rfl⟩:=hb.small_of sb';obtain ⟨x,hx⟩:=nm ((a.natAbs:Int));obtain ⟨y,hy⟩:=nm ((b.natAbs:Int));have HX:=hid hx;have HY:=hid hy;have HK:Hid ((a.natAbs:Int)<1000000000 ^ k/\(b.natAbs:Int)<1000000000 ^ k):=⟨ka,kb⟩;rw [hx] at hp0 hp;rw [hy] at hp;have x0:0<x:=by rw [beq_eq_false_iff_ne] at hp0;omega
 have x1':x<1000000000000000000:=by omega
 have y0:0<=y:=by omega
 have y1':y<1000000000000000000:=by omega
 clear hx hy ka kb;go_enter Tryz.func92,Tryz.ntmps92;go_wp2_with fail;refine (zA9 _ (ha.l (xa (xa (x1 _ _) _) _))).mono ?_;rintro e w1 ⟨rfl,e1⟩;have Ba:=((Box3.made w (iQ a) (.bool false) (.slice none 0 0) 103).l (xa (x1 _ _) _)).l e1;have Bb:=((Box3.made (w.alloc (.cells #[iQ a,.bool false,.slice none 0 0] 103)) (iQ b) (.bool false) (.slice none 0 0) 103).l (x1 _ _)).l e1;have Br:=(Box3.made ((w.alloc (.cells #[iQ a,.bool false,.slice none 0 0] 103)).alloc (.cells #[iQ b,.bool false,.slice none 0 0] 103)) (iQ 0) (.bool false) (.slice none 0 0) 103).l e1;simp only [World.size_alloc] at Ba Bb Br;have ha1:=(ha.l (xa (xa (x1 _ _) _) _)).l e1;have hb1:=(hb.l (xa (xa (x1 _ _) _) _)).l e1;have X1:=xt (xa (xa (x1 _ _) _) _) e1;clear e1 ha hb;have Bb':=Bb;obtain ⟨⟨p0,p1,p2⟩,_⟩:=Bb';go_wp2_with fail;clear p0 p1 p2;refine (zA9 _ hb1).mono ?_;rintro e w1b ⟨rfl,e1b⟩;replace Ba:=Ba.l e1b;replace Bb:=Bb.l e1b;replace Br:=Br.l e1b;replace ha1:=ha1.l e1b;replace hb1:=hb1.l e1b;replace X1:=xt X1 e1b;clear e1b;have Ba':=Ba;have Bb':=Bb;obtain ⟨⟨p0,p1,p2⟩,_⟩:=Ba';obtain ⟨⟨q0,q1,q2⟩,_⟩:=Bb';go_wp2_with fail;refine (zHA a x _ s1 s2 HX.out).mono ?_;rintro e w' ⟨rfl,hw⟩;subst hw;go_wp2_with fail;refine (zHA b y _ t1 t2 HY.out).mono ?_;rintro e w' ⟨rfl,hw⟩;subst hw;go_wp2_with fail;obtain ⟨ka,kb⟩:=HK.out;clear p0 p1 p2 q0 q1 q2 sa' sb' hp0 hp x0 x1' y0 y1' HX HY HK;refine (zAD _ ha1).mono ?_;rintro e w2 ⟨x,rfl,hx2,e2⟩;obtain ⟨⟨q0,q1,q2⟩,_⟩:=Bb.l e2;go_wp2_with fail;refine (zAD _ (hb1.l e2)).mono ?_;rintro e w3 ⟨y,rfl,hy3,e3⟩;obtain ⟨xs,⟨px,cx,rfl,cx1,cx2,cx3⟩,lx,tx,vx⟩:=hx2.l e3;obtain ⟨ys,⟨py,cy,rfl,cy1,cy2,cy3⟩,ly,ty,vy⟩:=hy3;have nx:xs.length<=k:=zEF lx tx (by rw [vx];exact ka);have ny:ys.length<=k:=zEF ly ty (by rw [vy];exact kb);have Ba3:=(Ba.l e2).l e3;have Bb3:=(Bb.l e2).l e3;have Br3:=(Br.l e2).l e3;have ha3:=(ha1.l e2).l e3;have hb3:=(hb1.l e2).l e3;have X3:=xt (xt X1 e2) e3;have HV:Hid (lv xs=(a.natAbs:Int)/\lv ys=(b.natAbs:Int)):=⟨vx,vy⟩;clear hx2 vx vy ha1 hb1 e2 e3 Ba Bb Br X1 q0 q1 q2 ka kb;have hmk:=run_make_row' (P:=Tryz.prog) 101 146 (.int .u32 0) 4 Tryz.underlying101 zF0 rfl .i64 .i64 (xs.length+ys.length+1) (by omega) (by omega);have ec:((xs.length+ys.length+1:Nat):Int)=(xs.length:Int)+(ys.length:Int)+1:=by omega
 rw [ec] at hmk;clear ec;go_wp2_with fail;go_loopw [53] (fun i wr=>∃ (n:Nat) (fs:List Int),n<=xs.length/\i=.int .i64 n/\zAH wr w3.heap.size fs/\fs.length=xs.length+ys.length+1/\Lim fs/\(∀ j,n+ys.length<=j->fs.getD j 0=0)/\lv fs=lv (xs.take n) * lv ys/\Ext w3 wr) (fun i _=>xs.length - (intOf i).toNat)
 case atStart=>exact ⟨0,List.replicate (xs.length+ys.length+1) 0,Nat.zero_le _,rfl,zAH.zeros _ _,by simp,Lim.zeros _,fun j _=>zB9 _ j,by simp [zB2,lv],x1 _ _⟩
 case round =>
  obtain ⟨n,fs,hn,rfl,ho,hfl,hlf,hz,hv,X4⟩:=hrel;by_cases hlt:n<xs.length
  ·obtain ⟨bx,ox,rfl,cx4⟩:∃ b o,px=some ⟨b,o,none⟩/\C32 w3 b o xs:=by
    rcases cx3 with ⟨_,h⟩ | h
    ·omega
    ·exact h
   have hst:=zEX.start (xs:=xs) (i:=n) hfl hlf hz hv;have HS:=hid hst;clear hst hz hv hfl hlf;go_wp2_with fail;go_loopw [11,58] (fun c j wq=>∃ (m:Nat) (gs:List Int) (cc:Int),m<=ys.length/\j=.int .i64 m/\c=.int .u64 cc/\zAH wq w3.heap.size gs/\zEX xs ys gs n m cc/\Ext w3 wq) (fun _ j _=>ys.length - (intOf j).toNat)
   case atStart=>exact ⟨0,fs,0,Nat.zero_le _,rfl,rfl,ho,HS.out,X4⟩
   case round =>
    obtain ⟨m,gs,cc,hm,rfl,rfl,hq,hM,X5⟩:=hrel;clear ho HS X4;by_cases hmlt:m<ys.length
    ·obtain ⟨by1,oy,rfl,cy4⟩:∃ b o,py=some ⟨b,o,none⟩/\C32 w3 b o ys:=by
      rcases cy3 with ⟨_,h⟩ | h
      ·omega
      ·exact h
     have HM:=hM;obtain ⟨m1,m2,m3,m4,m5,_⟩:=hM;obtain ⟨x,ex⟩:=nm (xs.getD n 0);obtain ⟨y,ey⟩:=nm (ys.getD m 0);obtain ⟨f,ef⟩:=nm (gs.getD (n+m) 0);have kx:=(cx4.l X5) n hlt;have ky:=(cy4.l X5) m hmlt;have kf:=World.rowIs.cell hq (i:=n+m) (by omega);have kz:=World.rowIs.frozen hq (n+m);rw [ex] at kx;rw [ey] at ky;rw [ef] at kf;obtain ⟨x0,x1'⟩:=lx.getD n;obtain ⟨y0,y1⟩:=ly.getD m;obtain ⟨f0,f1⟩:=m2.getD (n+m);rw [ex] at x0 x1';rw [ey] at y0 y1;rw [ef] at f0 f1;obtain ⟨s0,s1,s2⟩:=zGD x0 x1' y0 y1 f0 f1 m4 m5;have HN:Hid (zEX xs ys (gs.set (n+m) ((f+x * y+cc) % 1000000000)) n (m+1) ((f+x * y+cc) / 1000000000)):=HM.step hlt hmlt lx ly ex ey ef;have HQ:Hid (zAH wr w3.heap.size gs/\n+m<gs.length):=⟨hq,by omega⟩;clear HM ex ey ef hq m1 m3 m2 cx3 cy3 cx4 cy4 lx ly tx ty hmk ha3 hb3 Ba3 Bb3 Br3;go_wp2_with fail;go_quiet (fail)
     go_wp2
     go_roundw
     case rel=>exact ⟨m+1,_,_,by omega,by go_num,rfl,(HQ.out.1.drewN _).set _ HQ.out.2 _,HN.out,xset (xdN X5 _) (Nat.le_refl _) _⟩
     case measure=>simp [intOf];omega
    ·obtain rfl:m=ys.length:=(by omega);have hM':=hM;obtain ⟨m1,m2,m3,m4,m5,_⟩:=hM';have kf:=World.rowIs.cell hq (i:=n+ys.length) (by omega);have kz:=World.rowIs.frozen hq (n+ys.length);have HN:=hM.close hlt;have HC:Hid (∃ fs',fs'=gs.set (n+ys.length) cc/\fs'.length=xs.length+ys.length+1/\Lim fs'/\(∀ j,(n+1)+ys.length<=j->fs'.getD j 0=0)/\lv fs'=lv (xs.take (n+1)) * lv ys):=⟨_,rfl,HN⟩;have HQ:Hid (zAH wr w3.heap.size gs/\n+ys.length<gs.length):=⟨hq,by omega⟩;clear HN hM hq m3 m2 cx3 cy3 cx4 lx ly tx ty hmk ha3 hb3 Ba3 Bb3 Br3
     go_wp2
     go_roundw
     case rel =>
      obtain ⟨fs',ef,c1,c2,c3,c4⟩:=HC.out;exact ⟨n+1,fs',by omega,by go_num,by rw [ef];exact HQ.out.1.set _ HQ.out.2 _,c1,c2,c3,c4,xset X5 (Nat.le_refl _) _⟩
     case measure=>simp [intOf];omega
  ·obtain rfl:n=xs.length:=by omega
   have hv':lv fs=(a.natAbs:Int) * (b.natAbs:Int):=by
    rw [hv,List.take_length,HV.out.1,HV.out.2]
   have R4:=ho.row (by omega);rw [hfl] at R4;have HR:Hid (Row wr (.slice (some ⟨w3.heap.size,0,none⟩) (xs.length+ys.length+1) (xs.length+ys.length+1)) fs/\Lim fs):=⟨R4,hlf⟩;have Ba4:=Ba3.l X4;have Bb4:=Bb3.l X4;have Br4:=Br3.l X4;have ha4:=ha3.l X4;have hb4:=hb3.l X4;have X5:=xt X3 X4;have Ba5:=Ba4;have Bb5:=Bb4;obtain ⟨⟨p0,p1,p2⟩,_⟩:=Ba5;obtain ⟨⟨q0,q1,q2⟩,_⟩:=Bb5;have HP:Hid (sgn (!(decide (a<0) == decide (b<0))) (lv fs)=a * b):=by rw [hv'];exact zM2 a b
   clear R4 hv hv' hz ho hfl hlf cx3 cy3 lx ly tx ty hmk ha3 hb3 Ba3 Bb3 Br3 HV X3 X4;go_wp2_with fail;go_region_with (first
    | (go_at_call_of 110 (Value.agg #[iQ a,.bool false,.slice none 0 0]);refine (zDG (z:=a) _ ?_).mono ?_;(exact ha4.l (by first | exact xr _ | exact xd (xr _)));rintro e w4 ⟨rfl,e4⟩;obtain ⟨⟨q0',q1',q2'⟩,_⟩:=Bb4.l (xt (xd (xr _)) e4))
    | (go_at_call_of 110 (Value.agg #[iQ b,.bool false,.slice none 0 0]);refine (zDG (z:=b) _ ?_).mono ?_;(exact hb4.l (xt (xd (xr _)) (by assumption)));rintro e w5 ⟨rfl,e5⟩)
    | (go_at_call 155;refine (zES _ _ (HR.out.1.l (xt (xt (xd (xr _)) (by assumption)) (by assumption))) HR.out.2).mono ?_;rintro e w6 ⟨v',rfl,hz6,e6⟩;obtain ⟨a0',a1',p',n',cap',rfl⟩:=hz6.shape;have X6:=xt (xt (xt (xd (xr wr)) (by assumption)) (by assumption)) e6;have B6:=Br4.l X6;obtain ⟨⟨r0,r1,r2⟩,s0,s1,s2⟩:=B6))
   all_goals
    go_wp2
    exact bodyPost_ret (v:=.agg #[iQ a0',.bool a1',.slice p' n' cap']) (by simp [results,Tryz.results92,go_sem,r0,r1,r2]) rfl ⟨_,rfl,by rw [<- HP.out];exact hz6.set3 (Br4.l X6) _ _ _,Ext.set3 (xt X5 X6) (by omega) _ _ _⟩
theorem zED {va vb:Value} {a b:Int} (w:World) (ha:ZV w va a) (hb:ZV w vb b) (k:Nat) (hk:k<=1000000000) (ka:(a.natAbs:Int)<1000000000 ^ k) (kb:(b.natAbs:Int)<1000000000 ^ k) :
  Calls Tryz.prog 92 #[va,vb] w fun e w'=>∃ v',e=.returned v'/\ZV w' v' (a * b)/\Ext w w':=by
 cases sa:zAF a
 ·exact zV6 w ha hb sa k hk ka kb
 ·cases sb:zAF b
  ·exact zV5 w ha hb sa sb k hk ka kb
  ·by_cases hp:(a.natAbs:Int)=0\/(b.natAbs:Int)<=999999999999999999 / (a.natAbs:Int)
   ·exact zV4 w ha hb sa sb hp
   ·have h1:¬ (a.natAbs:Int)=0:=fun h=>hp (.inl h);have h2:¬ (b.natAbs:Int)<=999999999999999999 / (a.natAbs:Int):=fun h=>hp (.inr h);exact zSN w ha hb sa sb (by rw [beq_eq_false_iff_ne];exact h1) (by omega) k hk ka kb
theorem zU3 (a b:Int) (w:World) (a1 : -1000000000000000000<a) (a2:a<1000000000000000000) (b1 : -1000000000000000000<b) (b2:b<1000000000000000000) :
  Calls Tryz.prog 116 #[zS a,zS b] w fun e w'=>∃ v',e=.returned v'/\ZV w' v' (a+b)/\Ext w w':=by
 have sa:Hid (∀ w2:World,Calls Tryz.prog 153 #[zS a] w2 fun e w'=>e=.returned (.bool true)/\Ext w2 w'):=fun w2=>by
  have:=zA9 w2 (ZV.small a1 a2)
  rwa [zBD a1 a2] at this
 have sb:Hid (∀ w2:World,Calls Tryz.prog 153 #[zS b] w2 fun e w'=>e=.returned (.bool true)/\Ext w2 w'):=fun w2=>by
  have:=zA9 w2 (ZV.small b1 b2)
  rwa [zBD b1 b2] at this
 have Ba:=(Box3.made w (iQ a) (.bool false) (.slice none 0 0) 103).l (xa (x1 _ (.cells #[iQ b,.bool false,.slice none 0 0] 103)) (.cells #[iQ 0,.bool false,.slice none 0 0] 103));have Bb:=(Box3.made (w.alloc (.cells #[iQ a,.bool false,.slice none 0 0] 103)) (iQ b) (.bool false) (.slice none 0 0) 103).l (x1 _ (.cells #[iQ 0,.bool false,.slice none 0 0] 103));have Br:=Box3.made ((w.alloc (.cells #[iQ a,.bool false,.slice none 0 0] 103)).alloc (.cells #[iQ b,.bool false,.slice none 0 0] 103)) (iQ 0) (.bool false) (.slice none 0 0) 103;simp only [World.size_alloc] at Bb Br;go_enter Tryz.func116,Tryz.ntmps116;go_wp2_with fail;refine (sa.out _).mono ?_;rintro e w1 ⟨rfl,e1⟩;obtain ⟨⟨q0,q1,q2⟩,_⟩:=Bb.l e1;go_wp2_with fail;refine (sb.out _).mono ?_;rintro e w2 ⟨rfl,e2⟩;clear q0 q1 q2;have X2:=xt e1 e2;obtain ⟨⟨q0,q1,q2⟩,_⟩:=Bb.l X2;obtain ⟨⟨p0,p1,p2⟩,_⟩:=Ba.l X2;go_wp2_with fail;refine (zBL (a+b) _ (by omega) (by omega)).mono ?_;rintro e w3 ⟨v',rfl,hz,e3⟩;obtain ⟨a0',a1',p',n',cap',rfl⟩:=hz.shape;have X3:=xt X2 e3;have B4:=Br.l X3;have Hz:=hz.set3 B4 (iQ a0') (.bool a1') (.slice p' n' cap');have Hx:=Ext.set3 (b:=w.heap.size+1+1) (xt (xa (xa (x1 _ _) _) _) X3) (by omega) (iQ a0') (.bool a1') (.slice p' n' cap');obtain ⟨⟨r0,r1,r2⟩,s0,s1,s2⟩:=B4;clear p0 p1 p2 q0 q1 q2
 go_wp2
 exact bodyPost_ret (v:=.agg #[iQ a0',.bool a1',.slice p' n' cap']) (by simp [results,Tryz.results116,go_sem,r0,r1,r2]) rfl ⟨_,rfl,Hz,Hx⟩
theorem zJC {va vb:Value} {a b:Int} (w:World) (ha:ZV w va a) (hb:ZV w vb b) (sa:zAF a=true) (sb:zAF b=true) :
  Calls Tryz.prog 116 #[va,vb] w fun e w'=>∃ v',e=.returned v'/\ZV w' v' (a+b)/\Ext w w':=by
 obtain ⟨a1,a2,rfl⟩:=ha.small_of sa;obtain ⟨b1,b2,rfl⟩:=hb.small_of sb;exact zU3 a b w a1 a2 b1 b2
theorem zJU (n:Int) (w:World) (n0:0<=n) (n1:n<1000000000000000) :
  Calls Tryz.prog 90 #[iQ n] w fun e w'=>∃ l,e=.returned (.string ⟨l.toArray⟩)/\zCO l n/\Ext w w':=by
 go_enter Tryz.func90,Tryz.ntmps90;go_wp2_with fail;refine (zBL (n / 10) _ (by omega) (by omega)).mono ?_;rintro e w1 ⟨v1,rfl,z1,e1⟩;go_wp2_with fail;refine (zBL 10 _ (by omega) (by omega)).mono ?_;rintro e w2 ⟨v2,rfl,z2,e2⟩;go_wp2_with fail;refine (zED _ (z1.l e2) z2 2 (by decide) (by omega) (by omega)).mono ?_;rintro e w3 ⟨v3,rfl,z3,e3⟩;go_wp2_with fail;refine (zBL (n % 10) _ (by omega) (by omega)).mono ?_;rintro e w4 ⟨v4,rfl,z4,e4⟩;go_wp2_with fail;refine (zJC _ (z3.l e4) z4 (zBD (by omega) (by omega)) (zBD (by omega) (by omega))).mono ?_;rintro e w5 ⟨v5,rfl,z5,e5⟩;have en:n / 10 * 10+n % 10=n:=by omega
 rw [en] at z5;go_wp2_with fail;refine (zH1 _ z5 2 (by decide) (by omega)).mono ?_;rintro e w6 ⟨l,rfl,ht,e6⟩
 go_wp2
 go_ret;exact ⟨l,rfl,ht,xt (xt (xt (xt (xt e1 e2) e3) e4) e5) e6⟩
end Go.Proofs.YtjlojlgdkfpcdaaGreatDoor

namespace Go.Proofs.YtjlojlgdkfpcdaaGreatDoor
theorem zA7 (n:Nat):0<10 ^ n:=Nat.pow_pos (by decide)
def nd (a:Nat):Nat:=if h:a=0 then 0 else nd (a / 10)+1
termination_by a
decreasing_by omega
theorem zDZ:nd 0=0:=by rw [nd];simp
theorem zIX {a:Nat} (h:a ≠ 0):nd a=nd (a / 10)+1:=by rw [nd];simp [h]
theorem zE5 (a:Nat):a<10 ^ nd a/\(nd a=0\/10 ^ (nd a - 1)<=a):=by
 induction a using Nat.strongRecOn with
 | ind a ih =>
  by_cases h:a=0
  ·subst h;rw [zDZ];simp
  ·rw [zIX h];obtain ⟨h1,h2⟩:=ih (a / 10) (by omega);refine ⟨by rw [Nat.pow_succ];omega,.inr ?_⟩;rw [Nat.add_sub_cancel];by_cases h3:a / 10=0
   ·rw [h3,zDZ];simp;omega
   ·have h4:nd (a / 10) ≠ 0:=(by rw [zIX h3];omega);have h5:=h2.resolve_left h4;obtain ⟨m,hm⟩:∃ m,nd (a / 10)=m+1:=⟨nd (a / 10) - 1,by omega⟩;rw [hm] at h5 ⊢;rw [Nat.pow_succ];simp at h5;omega
theorem zB3 {i j:Nat} (h:i<=j):10 ^ i<=10 ^ j:=Nat.pow_le_pow_right (by decide) h
theorem zCD {i j:Nat} (h:10 ^ i<10 ^ j):i<j:=by
 by_cases e:i<j
 ·exact e
 ·have:=zB3 (show j<=i by omega);omega
theorem nd_eq {a k:Nat} (h1:a<10 ^ k) (h2:k=0\/10 ^ (k - 1)<=a):nd a=k:=by
 obtain ⟨h3,h4⟩:=zE5 a;have e1:k<=nd a:=by
  rcases h2 with h2 | h2
  ·omega
  ·have:=zCD (i:=k - 1) (j:=nd a) (by omega);omega
 have e2:nd a<=k:=by
  rcases h4 with h4 | h4
  ·omega
  ·have:=zCD (i:=nd a - 1) (j:=k) (by omega);omega
 omega
theorem nd_ge {a k:Nat} (h:10 ^ k<=a):k<nd a:=zCD (Nat.lt_of_le_of_lt h (zE5 a).1)
theorem zIC {a k:Nat} (h:a<10 ^ k):nd a<=k:=by
 rcases (zE5 a).2 with h2 | h2
 ·omega
 ·have:=zCD (i:=nd a - 1) (j:=k) (by omega);omega
theorem zSJ {a k:Nat} (h:k<nd a):10 ^ k<=a:=by
 rcases (zE5 a).2 with h2 | h2
 ·omega
 ·exact Nat.le_trans (zB3 (by omega)) h2
def zCL (P cut:Nat) (more:Bool):Nat:=
 if 10 ^ cut<2 * (P % 10 ^ cut)\/(2 * (P % 10 ^ cut)=10 ^ cut/\more=true) then 3
 else if 2 * (P % 10 ^ cut)=10 ^ cut then 2
 else if 0<P % 10 ^ cut\/more=true then 1 else 0
def zAV (mode:Nat) (odd:Bool) (rest:Nat):Bool:=
 if mode=0 then decide (rest=3) || (decide (rest=2) && odd) else if mode=1 then decide (2<=rest) else if mode=2 then false else decide (rest ≠ 0)
def rndM (mode P cut:Nat) (more:Bool):Nat:=P / 10 ^ cut+if zAV mode (decide (P / 10 ^ cut % 2=1)) (zCL P cut more)=true then 1 else 0
def zAK (P:Nat) (e:Int):Nat × Int:=if h:P ≠ 0/\P % 10=0 then zAK (P / 10) (e+1) else (P,e)
termination_by P
decreasing_by omega
theorem zB1 {P:Nat} {e:Int} (h0:P ≠ 0) (h:P % 10=0):zAK P e=zAK (P / 10) (e+1):=by rw [zAK];simp [h0,h]
theorem zDL {P:Nat} {e:Int} (h:P % 10 ≠ 0):zAK P e=(P,e):=by rw [zAK];simp [h]
structure DR where
 ok:Bool
 neg:Bool
 d:Int
 e:Int
def fitR (neg:Bool) (P:Nat) (e:Int):DR:=
 if P=0 then ⟨true,false,0,0⟩
 else if 300<(zAK P e).2 then ⟨false,false,0,0⟩
 else if (zAK P e).2 < -300 then ⟨true,false,0,0⟩
 else ⟨true,neg,(zAK P e).1,(zAK P e).2⟩
def putR (neg:Bool) (P:Nat) (e:Int) (more:Bool):DR:=
 if 15<nd P then fitR neg (rndM 0 P (nd P - 15) more) (e+((nd P - 15:Nat):Int)) else fitR neg P e
theorem strip_pow (a:Nat) (ha:a % 10 ≠ 0) (m:Nat) (e:Int):zAK (a * 10 ^ m) e=(a,e+m):=by
 induction m generalizing e with
 | zero=>rw [Nat.pow_zero,Nat.mul_one,zDL ha];simp
 | succ m ih =>
  have h1:a * 10 ^ (m+1)=a * 10 ^ m * 10:=by rw [Nat.pow_succ,Nat.mul_assoc]
  have hp:0<a * 10 ^ m:=Nat.mul_pos (by omega) (zA7 m);rw [h1,zB1 (by omega) (by omega),Nat.mul_div_cancel _ (by decide),ih]
  congr 1
  omega
theorem zM0 (P:Nat) (m:Nat) (e:Int) (h0:P ≠ 0):zAK (P * 10 ^ m) e=zAK P (e+m):=by
 induction m generalizing e with
 | zero=>simp
 | succ m ih =>
  have h1:P * 10 ^ (m+1)=P * 10 ^ m * 10:=by rw [Nat.pow_succ,Nat.mul_assoc]
  have hp:0<P * 10 ^ m:=Nat.mul_pos (by omega) (zA7 m);rw [h1,zB1 (by omega) (by omega),Nat.mul_div_cancel _ (by decide),ih]
  congr 1
  omega
theorem zOQ (P:Nat) (e:Int) (h0:P ≠ 0):(zAK P e).1 % 10 ≠ 0:=by
 induction P using Nat.strongRecOn generalizing e with
 | ind P ih =>
  by_cases h:P % 10=0
  ·rw [zB1 h0 h];exact ih (P / 10) (by omega) (e+1) (by omega)
  ·rw [zDL h];exact h
theorem zRG (P n:Nat) (more:Bool) :
  zCL P (n+1) more=zCL (P / 10 ^ n) 1 (more || decide (P % 10 ^ n ≠ 0)):=by
 obtain ⟨T,hT⟩:=nm (10 ^ n);have hp:0<T:=by rw [<- hT];exact zA7 n
 have e1:P % 10 ^ (n+1)=P % T+T * (P / T % 10):=by
  rw [Nat.pow_succ,hT,Nat.mod_mul]
 have e2:(10:Nat) ^ (n+1)=T * 10:=by rw [Nat.pow_succ,hT]
 unfold zCL;rw [e1,e2,hT,Nat.pow_one];have hs:=Nat.mod_lt P hp;generalize P % T=s at *;have hl:P / T % 10<10:=Nat.mod_lt _ (by decide);generalize P / T % 10=l at *;have e3:l=0\/l=1\/l=2\/l=3\/l=4\/l=5\/l=6\/l=7\/l=8\/l=9:=by omega
 have e4:(more || decide (s ≠ 0))=true ↔ more=true\/s ≠ 0:=by simp
 simp only [e4];clear e4;clear e1 e2 hT hl;cases more
 all_goals simp only [Bool.false_eq_true,and_true,and_false,or_true,true_or,or_false,false_or]
 all_goals rcases e3 with h | h | h | h | h | h | h | h | h | h <;> subst h <;> (repeat' split) <;> omega
end Go.Proofs.YtjlojlgdkfpcdaaGreatDoor

namespace Go.Proofs.YtjlojlgdkfpcdaaGreatDoor
theorem zTJ (N i j:Nat):N / 10 ^ i / 10 ^ j=N / 10 ^ (i+j):=by rw [Nat.div_div_eq_div_mul,Nat.pow_add]
theorem mod_pow (N i j:Nat):N % 10 ^ (i+j)=N % 10 ^ i+10 ^ i * (N / 10 ^ i % 10 ^ j):=by rw [Nat.pow_add,Nat.mod_mul]
theorem zKZ (N i j:Nat):N % 10 ^ (i+j) ≠ 0 ↔ N % 10 ^ i ≠ 0\/N / 10 ^ i % 10 ^ j ≠ 0:=by
 rw [mod_pow];have hp:=zA7 i;by_cases h:N / 10 ^ i % 10 ^ j=0
 ·rw [h];simp
 ·have:0<10 ^ i * (N / 10 ^ i % 10 ^ j):=Nat.mul_pos hp (by omega);constructor
  ·intro _;exact .inr h
  ·intro _;omega
theorem nd_div (N j:Nat):nd (N / 10 ^ j)=nd N - j:=by
 induction j with
 | zero=>simp
 | succ j ih =>
  rw [<- zTJ N j 1,Nat.pow_one];by_cases h:N / 10 ^ j=0
  ·rw [h] at ih ⊢;simp only [Nat.zero_div,zDZ] at *;omega
  ·have:=zIX h;omega
theorem zSI (P j:Nat) (h:P ≠ 0):nd (P * 10 ^ j)=nd P+j:=by
 have:=nd_div (P * 10 ^ j) j;rw [Nat.mul_div_cancel _ (zA7 j)] at this;have h2:0<nd P:=by rw [zIX h];omega
 omega
theorem zRH {P c:Nat} (h:P % 10 ^ c=0):zCL P c false=0:=by
 have hp:=zA7 c;unfold zCL;rw [h,if_neg (by simp),if_neg (by omega),if_neg (by simp)]
theorem zOZ {P c:Nat} (h:2 * (P % 10 ^ c)<10 ^ c):zCL P c false<=1:=by
 unfold zCL;rw [if_neg (by simp;omega),if_neg (by omega)]
 split <;> omega
theorem zP0 {P c:Nat} {m:Bool} (h:10 ^ c<2 * (P % 10 ^ c)):zCL P c m=3:=by
 unfold zCL;rw [if_pos (.inl h)]
theorem zT5 (mode:Nat) (odd:Bool) (hm:mode<=3):zAV mode odd 0=false:=by
 unfold zAV;have:mode=0\/mode=1\/mode=2\/mode=3:=by omega
 rcases this with rfl | rfl | rfl | rfl <;> simp
theorem zPQ (odd:Bool) {r:Nat} (h:r<=1):zAV 0 odd r=false:=by
 unfold zAV;have:r=0\/r=1:=by omega
 rcases this with rfl | rfl <;> simp
theorem zRD (mode Q c:Nat) (hm:mode<=3):rndM mode (Q * 10 ^ c) c false=Q:=by
 unfold rndM;rw [zRH (Nat.mul_mod_left _ _),Nat.mul_div_cancel _ (zA7 c),zT5 _ _ hm];simp
theorem zTB (neg:Bool) (P m:Nat) (e:Int):fitR neg (P * 10 ^ m) e=fitR neg P (e+m):=by
 unfold fitR;by_cases h:P=0
 ·subst h;simp
 ·have:P * 10 ^ m ≠ 0:=by have:=Nat.mul_pos (show 0<P by omega) (zA7 m);omega
  rw [if_neg h,if_neg this,zM0 P m e h]
theorem zO2 (neg:Bool) (d:Nat) (e:Int) (h:d % 10 ≠ 0) (e0 : -300<=e) (e1:e<=300):fitR neg d e=⟨true,neg,d,e⟩:=by
 unfold fitR;rw [if_neg (by omega),zDL h];simp only;rw [if_neg (by omega),if_neg (by omega)]
theorem zUP (neg:Bool) (d:Nat) (e:Int) (h:d % 10 ≠ 0) (hd:d<1000000000000000) (e0 : -300<=e) (e1:e<=300):putR neg d e false=⟨true,neg,d,e⟩:=by
 unfold putR;rw [if_neg (by have:=zIC (a:=d) (k:=15) (by omega);omega),zO2 neg d e h e0 e1]
theorem zM4 (Q b c:Nat) (h:2 * b<10 ^ c):rndM 0 (Q * 10 ^ c+b) c false=Q:=by
 have hp:=zA7 c;have e1:(Q * 10 ^ c+b) / 10 ^ c=Q:=by rw [Nat.mul_comm,Nat.mul_add_div hp,Nat.div_eq_of_lt (by omega)];omega
 have e2:(Q * 10 ^ c+b) % 10 ^ c=b:=by rw [Nat.mul_comm,Nat.mul_add_mod,Nat.mod_eq_of_lt (by omega)]
 unfold rndM;rw [e1,zPQ _ (zOZ (by rw [e2];exact h))];simp
theorem zJK (Q b c:Nat) (hb:0<b) (h:2 * b<10 ^ c) (hQ:0<Q):rndM 0 (Q * 10 ^ c - b) c false=Q:=by
 have hp:=zA7 c;obtain ⟨q,rfl⟩:∃ q,Q=q+1:=⟨Q - 1,by omega⟩;have e0:(q+1) * 10 ^ c - b=q * 10 ^ c+(10 ^ c - b):=by rw [Nat.add_mul];omega
 rw [e0];have e1:(q * 10 ^ c+(10 ^ c - b)) / 10 ^ c=q:=by rw [Nat.mul_comm,Nat.mul_add_div hp,Nat.div_eq_of_lt (by omega)];omega
 have e2:(q * 10 ^ c+(10 ^ c - b)) % 10 ^ c=10 ^ c - b:=by rw [Nat.mul_comm,Nat.mul_add_mod,Nat.mod_eq_of_lt (by omega)]
 unfold rndM;rw [e1,zP0 (by rw [e2];omega)];simp [zAV]
theorem zML:(10:Nat) ^ 37=10000000000000000000000000000000000000/\(10:Nat) ^ 38=100000000000000000000000000000000000000/\(10:Nat) ^ 16=10000000000000000:=by decide
theorem zRP (neg minus:Bool) (a b m:Nat) (e:Int) (ha:a % 10 ≠ 0) (ha1:a<1000000000000000) (hb:0<b) (hb1:b<1000000000000000) (hm:38<nd a+m) (e0 : -300<=e+m) (e1:e+m<=300) :
  putR neg (if minus then a * 10 ^ m - b else a * 10 ^ m+b) e false=⟨true,neg,a,e+m⟩:=by
 have na:=zSI a m (by omega);have n15:=zIC (a:=a) (k:=15) (by omega);obtain ⟨A,hA⟩:=nm (a * 10 ^ m);obtain ⟨f1,f2,f3⟩:=zML;have A38:10 ^ 38<=A:=by rw [<- hA];exact zSJ (by omega)
 obtain ⟨X,hX⟩:=nm ((if minus then A - b else A+b));have Xlo:10 ^ 37<=X:=by rw [<- hX];split <;> omega
 have nlo:=nd_ge Xlo;have nhi:nd X<=nd a+m:=by
  apply zIC;have h1:(a+1) * 10 ^ m<=10 ^ nd a * 10 ^ m:=Nat.mul_le_mul_right _ (zE5 a).1;rw [<- Nat.pow_add,Nat.add_mul,hA] at h1;have h2:10 ^ 16<=10 ^ m:=zB3 (by omega);have:=zA7 m;rw [<- hX];split <;> omega
 obtain ⟨c,hc⟩:=nm (nd X - 15);obtain ⟨r,hr⟩:∃ r,m=r+c:=⟨m - c,by omega⟩;have c16:10 ^ 16<=10 ^ c:=zB3 (by omega);have hQ:A=a * 10 ^ r * 10 ^ c:=by rw [<- hA,hr,Nat.pow_add,Nat.mul_assoc]
 have Qp:0<a * 10 ^ r:=Nat.mul_pos (by omega) (zA7 r);have hR:rndM 0 X c false=a * 10 ^ r:=by
  rw [<- hX,hQ];cases minus
  ·exact zM4 _ _ _ (by omega)
  ·exact zJK _ _ _ hb (by omega) Qp
 rw [hA,hX];unfold putR;rw [if_pos (by omega),hc,hR,zTB,show e+(c:Int)+(r:Int)=e+(m:Int) by omega,zO2 neg a _ ha e0 e1]
end Go.Proofs.YtjlojlgdkfpcdaaGreatDoor

