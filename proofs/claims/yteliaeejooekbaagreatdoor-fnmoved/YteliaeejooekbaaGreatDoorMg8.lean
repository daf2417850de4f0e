import Derived.Test.YteliaeejooekbaaGreatDoorMg7
import Derived.Test.YteliaeejooekbaaGreatDoorTextNum
import Derived.Lib.ItoaNum
set_option maxRecDepth 8000
set_option maxHeartbeats 2000000
namespace Go.Proofs.YteliaeejooekbaaGreatDoor
open Go.RowKit
theorem zPZ {va vb:Value} {a b:Int} (w:World) (ha:ZV w va a) (hb:ZV w vb b) (sa':zAP a=true) (sb':zAP b=false) (k:Nat) (hk:k<=1000000000) (ka:(a.natAbs:Int)<1000000000 ^ k) (kb:(b.natAbs:Int)<1000000000 ^ k) :
  Calls Tryz.prog 99 #[va,vb] w fun e w'=>∃ v',e=.returned v'/\ZV w' v' (a * b)/\Ext w w':=by
 obtain ⟨a0,a1,pa,na,ca,rfl⟩:=ha.shape;obtain ⟨b0,b1,pb,nb,cb,rfl⟩:=hb.shape;go_enter Tryz.func99,Tryz.ntmps99;go_wp2_with fail;refine (zAH _ (ha.l (xa (xa (x1 _ _) _) _))).mono ?_;rintro e w1 ⟨rfl,e1⟩;have Ba:=((Box3.made w (iQ a0) (.bool a1) (.slice pa na ca) 137).l (xa (x1 _ _) _)).l e1;have Bb:=((Box3.made (w.alloc (.cells #[iQ a0,.bool a1,.slice pa na ca] 137)) (iQ b0) (.bool b1) (.slice pb nb cb) 137).l (x1 _ _)).l e1;have Br:=(Box3.made ((w.alloc (.cells #[iQ a0,.bool a1,.slice pa na ca] 137)).alloc (.cells #[iQ b0,.bool b1,.slice pb nb cb] 137)) (iQ 0) (.bool false) (.slice none 0 0) 137).l e1;simp only [World.size_alloc] at Ba Bb Br;have ha1:=(ha.l (xa (xa (x1 _ _) _) _)).l e1;have hb1:=(hb.l (xa (xa (x1 _ _) _) _)).l e1;have X1:=xt (xa (xa (x1 _ _) _) _) e1;clear e1 ha hb;have Bb':=Bb;obtain ⟨⟨p0,p1,p2⟩,_⟩:=Bb';go_wp2_with fail;clear p0 p1 p2;refine (zAH _ hb1).mono ?_;rintro e w1b ⟨rfl,e1b⟩;replace Ba:=Ba.l e1b;replace Bb:=Bb.l e1b;replace Br:=Br.l e1b;replace ha1:=ha1.l e1b;replace hb1:=hb1.l e1b;replace X1:=xt X1 e1b;clear e1b;have Ba':=Ba;obtain ⟨⟨p0,p1,p2⟩,_⟩:=Ba';go_wp2_with fail;clear p0 p1 p2 sa' sb';refine (zAO _ ha1).mono ?_;rintro e w2 ⟨x,rfl,hx2,e2⟩;obtain ⟨⟨q0,q1,q2⟩,_⟩:=Bb.l e2;go_wp2_with fail;refine (zAO _ (hb1.l e2)).mono ?_;rintro e w3 ⟨y,rfl,hy3,e3⟩;obtain ⟨xs,⟨px,cx,rfl,cx1,cx2,cx3⟩,lx,tx,vx⟩:=hx2.l e3;obtain ⟨ys,⟨py,cy,rfl,cy1,cy2,cy3⟩,ly,ty,vy⟩:=hy3;have nx:xs.length<=k:=zE0 lx tx (by rw [vx];exact ka);have ny:ys.length<=k:=zE0 ly ty (by rw [vy];exact kb);have Ba3:=(Ba.l e2).l e3;have Bb3:=(Bb.l e2).l e3;have Br3:=(Br.l e2).l e3;have ha3:=(ha1.l e2).l e3;have hb3:=(hb1.l e2).l e3;have X3:=xt (xt X1 e2) e3;have HV:Hid (lv xs=(a.natAbs:Int)/\lv ys=(b.natAbs:Int)):=⟨vx,vy⟩;clear hx2 vx vy ha1 hb1 e2 e3 Ba Bb Br X1 q0 q1 q2 ka kb;have hmk:=run_make_row' (P:=Tryz.prog) 135 150 (.int .u32 0) 4 Tryz.underlying135 zEH rfl .i64 .i64 (xs.length+ys.length+1) (by omega) (by omega);have ec:((xs.length+ys.length+1:Nat):Int)=(xs.length:Int)+(ys.length:Int)+1:=by omega
 rw [ec] at hmk;clear ec;go_wp2_with fail;go_loopw [53] (fun i wr=>∃ (n:Nat) (fs:List Int),n<=xs.length/\i=.int .i64 n/\zAS wr w3.heap.size fs/\fs.length=xs.length+ys.length+1/\Lim fs/\(∀ j,n+ys.length<=j->fs.getD j 0=0)/\lv fs=lv (xs.take n) * lv ys/\Ext w3 wr) (fun i _=>xs.length - (intOf i).toNat)
 case atStart=>exact ⟨0,List.replicate (xs.length+ys.length+1) 0,Nat.zero_le _,rfl,zAS.zeros _ _,by simp,Lim.zeros _,fun j _=>zBB _ j,by simp [zB3,lv],x1 _ _⟩
 case round =>
  obtain ⟨n,fs,hn,rfl,ho,hfl,hlf,hz,hv,X4⟩:=hrel;by_cases hlt:n<xs.length
  ·obtain ⟨bx,ox,rfl,cx4⟩:∃ b o,px=some ⟨b,o,none⟩/\C32 w3 b o xs:=by
    rcases cx3 with ⟨_,h⟩ | h
    ·omega
    ·exact h
   have hst:=zEE.start (xs:=xs) (i:=n) hfl hlf hz hv;have HS:Hid _:=hst;clear hst hz hv hfl hlf;go_wp2_with fail;go_loopw [11,58] (fun c j wq=>∃ (m:Nat) (gs:List Int) (cc:Int),m<=ys.length/\j=.int .i64 m/\c=.int .u64 cc/\zAS wq w3.heap.size gs/\zEE xs ys gs n m cc/\Ext w3 wq) (fun _ j _=>ys.length - (intOf j).toNat)
   case atStart=>exact ⟨0,fs,0,Nat.zero_le _,rfl,rfl,ho,HS.out,X4⟩
   case round =>
    obtain ⟨m,gs,cc,hm,rfl,rfl,hq,hM,X5⟩:=hrel;clear ho HS X4;by_cases hmlt:m<ys.length
    ·obtain ⟨by1,oy,rfl,cy4⟩:∃ b o,py=some ⟨b,o,none⟩/\C32 w3 b o ys:=by
      rcases cy3 with ⟨_,h⟩ | h
      ·omega
      ·exact h
     have HM:=hM;obtain ⟨m1,m2,m3,m4,m5,_⟩:=hM;obtain ⟨x,ex⟩:=nm (xs.getD n 0);obtain ⟨y,ey⟩:=nm (ys.getD m 0);obtain ⟨f,ef⟩:=nm (gs.getD (n+m) 0);have kx:=(cx4.l X5) n hlt;have ky:=(cy4.l X5) m hmlt;have kf:=World.rowIs.cell hq (i:=n+m) (by omega);have kz:=World.rowIs.frozen hq (n+m);rw [ex] at kx;rw [ey] at ky;rw [ef] at kf;obtain ⟨x0,x1'⟩:=lx.getD n;obtain ⟨y0,y1⟩:=ly.getD m;obtain ⟨f0,f1⟩:=m2.getD (n+m);rw [ex] at x0 x1';rw [ey] at y0 y1;rw [ef] at f0 f1;obtain ⟨s0,s1,s2⟩:=zFD x0 x1' y0 y1 f0 f1 m4 m5;have HN:Hid (zEE xs ys (gs.set (n+m) ((f+x * y+cc) % 1000000000)) n (m+1) ((f+x * y+cc) / 1000000000)):=HM.step hlt hmlt lx ly ex ey ef;have HQ:Hid (zAS wr w3.heap.size gs/\n+m<gs.length):=⟨hq,by omega⟩;clear HM ex ey ef hq m1 m3 m2 cx3 cy3 cx4 cy4 lx ly tx ty hmk ha3 hb3 Ba3 Bb3 Br3;go_wp2_with fail;go_quiet (fail)
     go_wp2
     go_roundw
     case rel=>exact ⟨m+1,_,_,by omega,by go_num,rfl,(HQ.out.1.drewN _).set _ HQ.out.2 _,HN.out,xset (xdN X5 _) (Nat.le_refl _) _⟩
     case measure=>simp [intOf];omega
    ·obtain rfl:m=ys.length:=(by omega);have hM':=hM;obtain ⟨m1,m2,m3,m4,m5,_⟩:=hM';have kf:=World.rowIs.cell hq (i:=n+ys.length) (by omega);have kz:=World.rowIs.frozen hq (n+ys.length);have HN:=hM.close hlt;have HC:Hid (∃ fs',fs'=gs.set (n+ys.length) cc/\fs'.length=xs.length+ys.length+1/\Lim fs'/\(∀ j,(n+1)+ys.length<=j->fs'.getD j 0=0)/\lv fs'=lv (xs.take (n+1)) * lv ys):=⟨_,rfl,HN⟩;have HQ:Hid (zAS wr w3.heap.size gs/\n+ys.length<gs.length):=⟨hq,by omega⟩;clear HN hM hq m3 m2 cx3 cy3 cx4 lx ly tx ty hmk ha3 hb3 Ba3 Bb3 Br3
     go_wp2
     go_roundw
     case rel =>
      obtain ⟨fs',ef,c1,c2,c3,c4⟩:=HC.out;exact ⟨n+1,fs',by omega,by go_num,by rw [ef];exact HQ.out.1.set _ HQ.out.2 _,c1,c2,c3,c4,xset X5 (Nat.le_refl _) _⟩
     case measure=>simp [intOf];omega
  ·obtain rfl:n=xs.length:=by omega
   have hv':lv fs=(a.natAbs:Int) * (b.natAbs:Int):=by
    rw [hv,List.take_length,HV.out.1,HV.out.2]
   have R4:=ho.row (by omega);rw [hfl] at R4;have HR:Hid (Row wr (.slice (some ⟨w3.heap.size,0,none⟩) (xs.length+ys.length+1) (xs.length+ys.length+1)) fs/\Lim fs):=⟨R4,hlf⟩;have Ba4:=Ba3.l X4;have Bb4:=Bb3.l X4;have Br4:=Br3.l X4;have ha4:=ha3.l X4;have hb4:=hb3.l X4;have X5:=xt X3 X4;have Ba5:=Ba4;have Bb5:=Bb4;obtain ⟨⟨p0,p1,p2⟩,_⟩:=Ba5;obtain ⟨⟨q0,q1,q2⟩,_⟩:=Bb5;have HP:Hid (sgn (!(decide (a<0) == decide (b<0))) (lv fs)=a * b):=by rw [hv'];exact zJG a b
   clear R4 hv hv' hz ho hfl hlf cx3 cy3 lx ly tx ty hmk ha3 hb3 Ba3 Bb3 Br3 HV X3 X4;go_wp2_with fail;go_region_with (first
    | (go_at_call_of 108 (Value.agg #[iQ a0,.bool a1,.slice pa na ca]);refine (zD2 (z:=a) _ ?_).mono ?_;(exact ha4.l (by first | exact xr _ | exact xd (xr _)));rintro e w4 ⟨rfl,e4⟩;obtain ⟨⟨q0',q1',q2'⟩,_⟩:=Bb4.l (xt (xd (xr _)) e4))
    | (go_at_call_of 108 (Value.agg #[iQ b0,.bool b1,.slice pb nb cb]);refine (zD2 (z:=b) _ ?_).mono ?_;(exact hb4.l (xt (xd (xr _)) (by assumption)));rintro e w5 ⟨rfl,e5⟩)
    | (go_at_call 110;refine (zEX _ _ (HR.out.1.l (xt (xt (xd (xr _)) (by assumption)) (by assumption))) HR.out.2).mono ?_;rintro e w6 ⟨v',rfl,hz6,e6⟩;obtain ⟨a0',a1',p',n',cap',rfl⟩:=hz6.shape;have X6:=xt (xt (xt (xd (xr wr)) (by assumption)) (by assumption)) e6;have B6:=Br4.l X6;obtain ⟨⟨r0,r1,r2⟩,s0,s1,s2⟩:=B6))
   all_goals
    go_wp2
    exact bodyPost_ret (v:=.agg #[iQ a0',.bool a1',.slice p' n' cap']) (by simp [results,Tryz.results99,go_sem,r0,r1,r2]) rfl ⟨_,rfl,by rw [<- HP.out];exact hz6.set3 (Br4.l X6) _ _ _,Ext.set3 (xt X5 X6) (by omega) _ _ _⟩
theorem zNB {va vb:Value} {a b:Int} (w:World) (ha:ZV w va a) (hb:ZV w vb b) (sa':zAP a=true) (sb':zAP b=true) (hp0:(((a.natAbs:Int)) == 0)=false) (hp:999999999999999999 / (a.natAbs:Int)<(b.natAbs:Int)) (k:Nat) (hk:k<=1000000000) (ka:(a.natAbs:Int)<1000000000 ^ k) (kb:(b.natAbs:Int)<1000000000 ^ k) :
  Calls Tryz.prog 99 #[va,vb] w fun e w'=>∃ v',e=.returned v'/\ZV w' v' (a * b)/\Ext w w':=by
 obtain ⟨s1,s2,rfl⟩:=ha.small_of sa';obtain ⟨t1,t2,rfl⟩:=hb.small_of sb';obtain ⟨x,hx⟩:=nm ((a.natAbs:Int));obtain ⟨y,hy⟩:=nm ((b.natAbs:Int));have HX:Hid _:=hx;have HY:Hid _:=hy;have HK:Hid ((a.natAbs:Int)<1000000000 ^ k/\(b.natAbs:Int)<1000000000 ^ k):=⟨ka,kb⟩;rw [hx] at hp0 hp;rw [hy] at hp;have x0:0<x:=by rw [beq_eq_false_iff_ne] at hp0;omega
 have x1':x<1000000000000000000:=by omega
 have y0:0<=y:=by omega
 have y1':y<1000000000000000000:=by omega
 clear hx hy ka kb;go_enter Tryz.func99,Tryz.ntmps99;go_wp2_with fail;refine (zAH _ (ha.l (xa (xa (x1 _ _) _) _))).mono ?_;rintro e w1 ⟨rfl,e1⟩;have Ba:=((Box3.made w (iQ a) (.bool false) (.slice none 0 0) 137).l (xa (x1 _ _) _)).l e1;have Bb:=((Box3.made (w.alloc (.cells #[iQ a,.bool false,.slice none 0 0] 137)) (iQ b) (.bool false) (.slice none 0 0) 137).l (x1 _ _)).l e1;have Br:=(Box3.made ((w.alloc (.cells #[iQ a,.bool false,.slice none 0 0] 137)).alloc (.cells #[iQ b,.bool false,.slice none 0 0] 137)) (iQ 0) (.bool false) (.slice none 0 0) 137).l e1;simp only [World.size_alloc] at Ba Bb Br;have ha1:=(ha.l (xa (xa (x1 _ _) _) _)).l e1;have hb1:=(hb.l (xa (xa (x1 _ _) _) _)).l e1;have X1:=xt (xa (xa (x1 _ _) _) _) e1;clear e1 ha hb;have Bb':=Bb;obtain ⟨⟨p0,p1,p2⟩,_⟩:=Bb';go_wp2_with fail;clear p0 p1 p2;refine (zAH _ hb1).mono ?_;rintro e w1b ⟨rfl,e1b⟩;replace Ba:=Ba.l e1b;replace Bb:=Bb.l e1b;replace Br:=Br.l e1b;replace ha1:=ha1.l e1b;replace hb1:=hb1.l e1b;replace X1:=xt X1 e1b;clear e1b;have Ba':=Ba;have Bb':=Bb;obtain ⟨⟨p0,p1,p2⟩,_⟩:=Ba';obtain ⟨⟨q0,q1,q2⟩,_⟩:=Bb';go_wp2_with fail;refine (zFX a x _ s1 s2 HX.out).mono ?_;rintro e w' ⟨rfl,hw⟩;subst hw;go_wp2_with fail;refine (zFX b y _ t1 t2 HY.out).mono ?_;rintro e w' ⟨rfl,hw⟩;subst hw;go_wp2_with fail;obtain ⟨ka,kb⟩:=HK.out;clear p0 p1 p2 q0 q1 q2 sa' sb' hp0 hp x0 x1' y0 y1' HX HY HK;refine (zAO _ ha1).mono ?_;rintro e w2 ⟨x,rfl,hx2,e2⟩;obtain ⟨⟨q0,q1,q2⟩,_⟩:=Bb.l e2;go_wp2_with fail;refine (zAO _ (hb1.l e2)).mono ?_;rintro e w3 ⟨y,rfl,hy3,e3⟩;obtain ⟨xs,⟨px,cx,rfl,cx1,cx2,cx3⟩,lx,tx,vx⟩:=hx2.l e3;obtain ⟨ys,⟨py,cy,rfl,cy1,cy2,cy3⟩,ly,ty,vy⟩:=hy3;have nx:xs.length<=k:=zE0 lx tx (by rw [vx];exact ka);have ny:ys.length<=k:=zE0 ly ty (by rw [vy];exact kb);have Ba3:=(Ba.l e2).l e3;have Bb3:=(Bb.l e2).l e3;have Br3:=(Br.l e2).l e3;have ha3:=(ha1.l e2).l e3;have hb3:=(hb1.l e2).l e3;have X3:=xt (xt X1 e2) e3;have HV:Hid (lv xs=(a.natAbs:Int)/\lv ys=(b.natAbs:Int)):=⟨vx,vy⟩;clear hx2 vx vy ha1 hb1 e2 e3 Ba Bb Br X1 q0 q1 q2 ka kb;have hmk:=run_make_row' (P:=Tryz.prog) 135 150 (.int .u32 0) 4 Tryz.underlying135 zEH rfl .i64 .i64 (xs.length+ys.length+1) (by omega) (by omega);have ec:((xs.length+ys.length+1:Nat):Int)=(xs.length:Int)+(ys.length:Int)+1:=by omega
 rw [ec] at hmk;clear ec;go_wp2_with fail;go_loopw [53] (fun i wr=>∃ (n:Nat) (fs:List Int),n<=xs.length/\i=.int .i64 n/\zAS wr w3.heap.size fs/\fs.length=xs.length+ys.length+1/\Lim fs/\(∀ j,n+ys.length<=j->fs.getD j 0=0)/\lv fs=lv (xs.take n) * lv ys/\Ext w3 wr) (fun i _=>xs.length - (intOf i).toNat)
 case atStart=>exact ⟨0,List.replicate (xs.length+ys.length+1) 0,Nat.zero_le _,rfl,zAS.zeros _ _,by simp,Lim.zeros _,fun j _=>zBB _ j,by simp [zB3,lv],x1 _ _⟩
 case round =>
  obtain ⟨n,fs,hn,rfl,ho,hfl,hlf,hz,hv,X4⟩:=hrel;by_cases hlt:n<xs.length
  ·obtain ⟨bx,ox,rfl,cx4⟩:∃ b o,px=some ⟨b,o,none⟩/\C32 w3 b o xs:=by
    rcases cx3 with ⟨_,h⟩ | h
    ·omega
    ·exact h
   have hst:=zEE.start (xs:=xs) (i:=n) hfl hlf hz hv;have HS:Hid _:=hst;clear hst hz hv hfl hlf;go_wp2_with fail;go_loopw [11,58] (fun c j wq=>∃ (m:Nat) (gs:List Int) (cc:Int),m<=ys.length/\j=.int .i64 m/\c=.int .u64 cc/\zAS wq w3.heap.size gs/\zEE xs ys gs n m cc/\Ext w3 wq) (fun _ j _=>ys.length - (intOf j).toNat)
   case atStart=>exact ⟨0,fs,0,Nat.zero_le _,rfl,rfl,ho,HS.out,X4⟩
   case round =>
    obtain ⟨m,gs,cc,hm,rfl,rfl,hq,hM,X5⟩:=hrel;clear ho HS X4;by_cases hmlt:m<ys.length
    ·obtain ⟨by1,oy,rfl,cy4⟩:∃ b o,py=some ⟨b,o,none⟩/\C32 w3 b o ys:=by
      rcases cy3 with ⟨_,h⟩ | h
      ·omega
      ·exact h
     have HM:=hM;obtain ⟨m1,m2,m3,m4,m5,_⟩:=hM;obtain ⟨x,ex⟩:=nm (xs.getD n 0);obtain ⟨y,ey⟩:=nm (ys.getD m 0);obtain ⟨f,ef⟩:=nm (gs.getD (n+m) 0);have kx:=(cx4.l X5) n hlt;have ky:=(cy4.l X5) m hmlt;have kf:=World.rowIs.cell hq (i:=n+m) (by omega);have kz:=World.rowIs.frozen hq (n+m);rw [ex] at kx;rw [ey] at ky;rw [ef] at kf;obtain ⟨x0,x1'⟩:=lx.getD n;obtain ⟨y0,y1⟩:=ly.getD m;obtain ⟨f0,f1⟩:=m2.getD (n+m);rw [ex] at x0 x1';rw [ey] at y0 y1;rw [ef] at f0 f1;obtain ⟨s0,s1,s2⟩:=zFD x0 x1' y0 y1 f0 f1 m4 m5;have HN:Hid (zEE xs ys (gs.set (n+m) ((f+x * y+cc) % 1000000000)) n (m+1) ((f+x * y+cc) / 1000000000)):=HM.step hlt hmlt lx ly ex ey ef;have HQ:Hid (zAS wr w3.heap.size gs/\n+m<gs.length):=⟨hq,by omega⟩;clear HM ex ey ef hq m1 m3 m2 cx3 cy3 cx4 cy4 lx ly tx ty hmk ha3 hb3 Ba3 Bb3 Br3;go_wp2_with fail;go_quiet (fail)
     go_wp2
     go_roundw
     case rel=>exact ⟨m+1,_,_,by omega,by go_num,rfl,(HQ.out.1.drewN _).set _ HQ.out.2 _,HN.out,xset (xdN X5 _) (Nat.le_refl _) _⟩
     case measure=>simp [intOf];omega
    ·obtain rfl:m=ys.length:=(by omega);have hM':=hM;obtain ⟨m1,m2,m3,m4,m5,_⟩:=hM';have kf:=World.rowIs.cell hq (i:=n+ys.length) (by omega);have kz:=World.rowIs.frozen hq (n+ys.length);have HN:=hM.close hlt;have HC:Hid (∃ fs',fs'=gs.set (n+ys.length) cc/\fs'.length=xs.length+ys.length+1/\Lim fs'/\(∀ j,(n+1)+ys.length<=j->fs'.getD j 0=0)/\lv fs'=lv (xs.take (n+1)) * lv ys):=⟨_,rfl,HN⟩;have HQ:Hid (zAS wr w3.heap.size gs/\n+ys.length<gs.length):=⟨hq,by omega⟩;clear HN hM hq m3 m2 cx3 cy3 cx4 lx ly tx ty hmk ha3 hb3 Ba3 Bb3 Br3
     go_wp2
     go_roundw
     case rel =>
      obtain ⟨fs',ef,c1,c2,c3,c4⟩:=HC.out;exact ⟨n+1,fs',by omega,by go_num,by rw [ef];exact HQ.out.1.set _ HQ.out.2 _,c1,c2,c3,c4,xset X5 (Nat.le_refl _) _⟩
     case measure=>simp [intOf];omega
  ·obtain rfl:n=xs.length:=by omega
   have hv':lv fs=(a.natAbs:Int) * (b.natAbs:Int):=by
    rw [hv,List.take_length,HV.out.1,HV.out.2]
   have R4:=ho.row (by omega);rw [hfl] at R4;have HR:Hid (Row wr (.slice (some ⟨w3.heap.size,0,none⟩) (xs.length+ys.length+1) (xs.length+ys.length+1)) fs/\Lim fs):=⟨R4,hlf⟩;have Ba4:=Ba3.l X4;have Bb4:=Bb3.l X4;have Br4:=Br3.l X4;have ha4:=ha3.l X4;have hb4:=hb3.l X4;have X5:=xt X3 X4;have Ba5:=Ba4;have Bb5:=Bb4;obtain ⟨⟨p0,p1,p2⟩,_⟩:=Ba5;obtain ⟨⟨q0,q1,q2⟩,_⟩:=Bb5;have HP:Hid (sgn (!(decide (a<0) == decide (b<0))) (lv fs)=a * b):=by rw [hv'];exact zJG a b
   clear R4 hv hv' hz ho hfl hlf cx3 cy3 lx ly tx ty hmk ha3 hb3 Ba3 Bb3 Br3 HV X3 X4;go_wp2_with fail;go_region_with (first
    | (go_at_call_of 108 (Value.agg #[iQ a,.bool false,.slice none 0 0]);refine (zD2 (z:=a) _ ?_).mono ?_;(exact ha4.l (by first | exact xr _ | exact xd (xr _)));rintro e w4 ⟨rfl,e4⟩;obtain ⟨⟨q0',q1',q2'⟩,_⟩:=Bb4.l (xt (xd (xr _)) e4))
    | (go_at_call_of 108 (Value.agg #[iQ b,.bool false,.slice none 0 0]);refine (zD2 (z:=b) _ ?_).mono ?_;(exact hb4.l (xt (xd (xr _)) (by assumption)));rintro e w5 ⟨rfl,e5⟩)
    | (go_at_call 110;refine (zEX _ _ (HR.out.1.l (xt (xt (xd (xr _)) (by assumption)) (by assumption))) HR.out.2).mono ?_;rintro e w6 ⟨v',rfl,hz6,e6⟩;obtain ⟨a0',a1',p',n',cap',rfl⟩:=hz6.shape;have X6:=xt (xt (xt (xd (xr wr)) (by assumption)) (by assumption)) e6;have B6:=Br4.l X6;obtain ⟨⟨r0,r1,r2⟩,s0,s1,s2⟩:=B6))
   all_goals
    go_wp2
    exact bodyPost_ret (v:=.agg #[iQ a0',.bool a1',.slice p' n' cap']) (by simp [results,Tryz.results99,go_sem,r0,r1,r2]) rfl ⟨_,rfl,by rw [<- HP.out];exact hz6.set3 (Br4.l X6) _ _ _,Ext.set3 (xt X5 X6) (by omega) _ _ _⟩
theorem zNC {va vb:Value} {a b:Int} (w:World) (ha:ZV w va a) (hb:ZV w vb b) (k:Nat) (hk:k<=1000000000) (ka:(a.natAbs:Int)<1000000000 ^ k) (kb:(b.natAbs:Int)<1000000000 ^ k) :
  Calls Tryz.prog 99 #[va,vb] w fun e w'=>∃ v',e=.returned v'/\ZV w' v' (a * b)/\Ext w w':=by
 cases sa:zAP a
 ·exact zQ0 w ha hb sa k hk ka kb
 ·cases sb:zAP b
  ·exact zPZ w ha hb sa sb k hk ka kb
  ·by_cases hp:(a.natAbs:Int)=0\/(b.natAbs:Int)<=999999999999999999 / (a.natAbs:Int)
   ·exact zPY w ha hb sa sb hp
   ·have h1:¬ (a.natAbs:Int)=0:=fun h=>hp (.inl h);have h2:¬ (b.natAbs:Int)<=999999999999999999 / (a.natAbs:Int):=fun h=>hp (.inr h);exact zNB w ha hb sa sb (by rw [beq_eq_false_iff_ne];exact h1) (by omega) k hk ka kb
theorem zP0 (a b:Int) (w:World) (a1 : -1000000000000000000<a) (a2:a<1000000000000000000) (b1 : -1000000000000000000<b) (b2:b<1000000000000000000) :
  Calls Tryz.prog 98 #[zS a,zS b] w fun e w'=>∃ v',e=.returned v'/\ZV w' v' (a+b)/\Ext w w':=by
 have sa:Hid (∀ w2:World,Calls Tryz.prog 109 #[zS a] w2 fun e w'=>e=.returned (.bool true)/\Ext w2 w'):=fun w2=>by
  have:=zAH w2 (ZV.small a1 a2)
  rwa [zBD a1 a2] at this
 have sb:Hid (∀ w2:World,Calls Tryz.prog 109 #[zS b] w2 fun e w'=>e=.returned (.bool true)/\Ext w2 w'):=fun w2=>by
  have:=zAH w2 (ZV.small b1 b2)
  rwa [zBD b1 b2] at this
 have Ba:=(Box3.made w (iQ a) (.bool false) (.slice none 0 0) 137).l (xa (x1 _ (.cells #[iQ b,.bool false,.slice none 0 0] 137)) (.cells #[iQ 0,.bool false,.slice none 0 0] 137));have Bb:=(Box3.made (w.alloc (.cells #[iQ a,.bool false,.slice none 0 0] 137)) (iQ b) (.bool false) (.slice none 0 0) 137).l (x1 _ (.cells #[iQ 0,.bool false,.slice none 0 0] 137));have Br:=Box3.made ((w.alloc (.cells #[iQ a,.bool false,.slice none 0 0] 137)).alloc (.cells #[iQ b,.bool false,.slice none 0 0] 137)) (iQ 0) (.bool false) (.slice none 0 0) 137;simp only [World.size_alloc] at Bb Br;go_enter Tryz.func98,Tryz.ntmps98;go_wp2_with fail;refine (sa.out _).mono ?_;rintro e w1 ⟨rfl,e1⟩;obtain ⟨⟨q0,q1,q2⟩,_⟩:=Bb.l e1;go_wp2_with fail;refine (sb.out _).mono ?_;rintro e w2 ⟨rfl,e2⟩;clear q0 q1 q2;have X2:=xt e1 e2;obtain ⟨⟨q0,q1,q2⟩,_⟩:=Bb.l X2;obtain ⟨⟨p0,p1,p2⟩,_⟩:=Ba.l X2;go_wp2_with fail;refine (zCR (a+b) _ (by omega) (by omega)).mono ?_;rintro e w3 ⟨v',rfl,hz,e3⟩;obtain ⟨a0',a1',p',n',cap',rfl⟩:=hz.shape;have X3:=xt X2 e3;have B4:=Br.l X3;have Hz:=hz.set3 B4 (iQ a0') (.bool a1') (.slice p' n' cap');have Hx:=Ext.set3 (b:=w.heap.size+1+1) (xt (xa (xa (x1 _ _) _) _) X3) (by omega) (iQ a0') (.bool a1') (.slice p' n' cap');obtain ⟨⟨r0,r1,r2⟩,s0,s1,s2⟩:=B4;clear p0 p1 p2 q0 q1 q2
 go_wp2
 exact bodyPost_ret (v:=.agg #[iQ a0',.bool a1',.slice p' n' cap']) (by simp [results,Tryz.results98,go_sem,r0,r1,r2]) rfl ⟨_,rfl,Hz,Hx⟩
theorem zHE {va vb:Value} {a b:Int} (w:World) (ha:ZV w va a) (hb:ZV w vb b) (sa:zAP a=true) (sb:zAP b=true) :
  Calls Tryz.prog 98 #[va,vb] w fun e w'=>∃ v',e=.returned v'/\ZV w' v' (a+b)/\Ext w w':=by
 obtain ⟨a1,a2,rfl⟩:=ha.small_of sa;obtain ⟨b1,b2,rfl⟩:=hb.small_of sb;exact zP0 a b w a1 a2 b1 b2
theorem zN2 (n:Int) (w:World) (n0:0<=n) (n1:n<1000000000000000) :
  Calls Tryz.prog 81 #[iQ n] w fun e w'=>∃ l,e=.returned (.string ⟨l.toArray⟩)/\zFO l n/\Ext w w':=by
 go_enter Tryz.func81,Tryz.ntmps81;go_wp2_with fail;refine (zCR (n / 10) _ (by omega) (by omega)).mono ?_;rintro e w1 ⟨v1,rfl,z1,e1⟩;go_wp2_with fail;refine (zCR 10 _ (by omega) (by omega)).mono ?_;rintro e w2 ⟨v2,rfl,z2,e2⟩;go_wp2_with fail;refine (zNC _ (z1.l e2) z2 2 (by decide) (by omega) (by omega)).mono ?_;rintro e w3 ⟨v3,rfl,z3,e3⟩;go_wp2_with fail;refine (zCR (n % 10) _ (by omega) (by omega)).mono ?_;rintro e w4 ⟨v4,rfl,z4,e4⟩;go_wp2_with fail;refine (zHE _ (z3.l e4) z4 (zBD (by omega) (by omega)) (zBD (by omega) (by omega))).mono ?_;rintro e w5 ⟨v5,rfl,z5,e5⟩;have en:n / 10 * 10+n % 10=n:=by omega
 rw [en] at z5;go_wp2_with fail;refine (zKA _ z5 2 (by decide) (by omega)).mono ?_;rintro e w6 ⟨l,rfl,ht,e6⟩
 go_wp2
 go_ret;exact ⟨l,rfl,ht,xt (xt (xt (xt (xt e1 e2) e3) e4) e5) e6⟩
end Go.Proofs.YteliaeejooekbaaGreatDoor
namespace Go.Proofs.YteliaeejooekbaaGreatDoor
theorem zL0:∀ (ds:List Int) (u:Int),Digs ds u->Lib.decDigits u.toNat=ds.reverse.map chr
 | [],_,h=>by have:=h.2.2.1;simp at this
 | [d],u,⟨h1,h2,_,_⟩=>by
  have hd:=h1 d (by simp);have hu:u=d:=by rw [<- h2];simp [dv]
  subst hu;rw [Lib.decDigits,dif_pos (by omega)];simp only [List.reverse_singleton,List.map_singleton,chr]
  congr 2
  omega
 | d :: d' :: ds,u,⟨h1,h2,h3,h4⟩=>by
  have hd:=h1 d (by simp);have hD:Digs (d' :: ds) (dv (d' :: ds)):=by
   refine ⟨fun x hx=>h1 x (by simp only [List.mem_cons] at hx ⊢;exact .inr hx),rfl,by simp,?_⟩;simpa using h4
  have hge:=hD.ge;have hp:(0:Int)<10 ^ ((d' :: ds).length - 1):=Int.pow_pos (by decide);have ih:=zL0 (d' :: ds) _ hD;have hu:u=d+10 * dv (d' :: ds):=by rw [<- h2];rfl
  generalize dv (d' :: ds)=v at *;subst hu;rw [Lib.decDigits,dif_neg (by omega),List.reverse_cons,List.map_append,<- ih];have e1:(d+10 * v).toNat / 10=v.toNat:=by omega
  have e2:(d+10 * v).toNat % 10=d.toNat:=by omega
  rw [e1,e2];simp only [List.map_singleton,chr]
  congr 2
  congr 1
  omega
theorem zFO.dec {l:List UInt8} {z:Int} (h:zFO l z) (h0:0<=z):l=Lib.decDigits z.toNat:=by
 rcases h with ⟨rfl,rfl⟩ | ⟨ds,h1,rfl⟩
 ·rw [Lib.decDigits,dif_pos (by decide)];rfl
 ·rw [if_neg (by omega),List.nil_append];have e:(z.natAbs:Int)=z:=by omega
  rw [e] at h1;exact (zL0 ds z h1).symm
end Go.Proofs.YteliaeejooekbaaGreatDoor
