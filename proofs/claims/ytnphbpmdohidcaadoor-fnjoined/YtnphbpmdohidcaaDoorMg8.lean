/-
  Several texts in one: MulB, MulC, MulAll, NumT, PutN, PutM, AddZ.
-/
import Derived.Test.YtnphbpmdohidcaaDoorMg3
import Derived.Test.YtnphbpmdohidcaaDoorMg7
import Derived.Test.YtnphbpmdohidcaaDoorMg6
namespace Go.Proofs.YtnphbpmdohidcaaDoor
open Go.RowKit
set_option maxHeartbeats 2000000 in
theorem mul_bigB {va vb:Value} {a b:Int} (w:World) (ha:ZV w va a) (hb:ZV w vb b) (sa':smallB a=true) (sb':smallB b=false) (k:Nat) (hk:k≤1000000000) (ka:(a.natAbs:Int)<1000000000 ^ k) (kb:(b.natAbs:Int)<1000000000 ^ k) :
  Calls Tryd.prog 62 #[va,vb] w fun e w'=>∃ v',e=.returned v'∧ZV w' v' (a * b)∧Ext w w':=by
 obtain ⟨a0,a1,pa,na,ca,rfl⟩:=ha.shape;obtain ⟨b0,b1,pb,nb,cb,rfl⟩:=hb.shape;go_enter Tryd.func62,Tryd.ntmps62;go_wp2_with fail;refine (isSmall_any _ (ha.later (xa (xa (x1 _ _) _) _))).mono ?_;rintro e w1 ⟨rfl,e1⟩;have Ba:=((Box3.made w (.int .i64 a0) (.bool a1) (.slice pa na ca) 69).later (xa (x1 _ _) _)).later e1;have Bb:=((Box3.made (w.alloc (.cells #[.int .i64 a0,.bool a1,.slice pa na ca] 69)) (.int .i64 b0) (.bool b1) (.slice pb nb cb) 69).later (x1 _ _)).later e1;have Br:=(Box3.made ((w.alloc (.cells #[.int .i64 a0,.bool a1,.slice pa na ca] 69)).alloc (.cells #[.int .i64 b0,.bool b1,.slice pb nb cb] 69)) (.int .i64 0) (.bool false) (.slice none 0 0) 69).later e1;simp only [World.size_alloc] at Ba Bb Br;have ha1:=(ha.later (xa (xa (x1 _ _) _) _)).later e1;have hb1:=(hb.later (xa (xa (x1 _ _) _) _)).later e1;have X1:=xt (xa (xa (x1 _ _) _) _) e1;clear e1 ha hb;have Bb':=Bb;obtain ⟨⟨p0,p1,p2⟩,_⟩:=Bb';go_wp2_with fail;clear p0 p1 p2;refine (isSmall_any _ hb1).mono ?_;rintro e w1b ⟨rfl,e1b⟩;replace Ba:=Ba.later e1b;replace Bb:=Bb.later e1b;replace Br:=Br.later e1b;replace ha1:=ha1.later e1b;replace hb1:=hb1.later e1b;replace X1:=xt X1 e1b;clear e1b;have Ba':=Ba;obtain ⟨⟨p0,p1,p2⟩,_⟩:=Ba';go_wp2_with fail;clear p0 p1 p2 sa' sb';refine (limbs_any _ ha1).mono ?_;rintro e w2 ⟨x,rfl,hx2,e2⟩;obtain ⟨⟨q0,q1,q2⟩,_⟩:=Bb.later e2;go_wp2_with fail;refine (limbs_any _ (hb1.later e2)).mono ?_;rintro e w3 ⟨y,rfl,hy3,e3⟩;obtain ⟨xs,⟨px,cx,rfl,cx1,cx2,cx3⟩,lx,tx,vx⟩:=hx2.later e3;obtain ⟨ys,⟨py,cy,rfl,cy1,cy2,cy3⟩,ly,ty,vy⟩:=hy3;have nx:xs.length≤k:=len_le lx tx (by rw [vx];exact ka);have ny:ys.length≤k:=len_le ly ty (by rw [vy];exact kb);have Ba3:=(Ba.later e2).later e3;have Bb3:=(Bb.later e2).later e3;have Br3:=(Br.later e2).later e3;have ha3:=(ha1.later e2).later e3;have hb3:=(hb1.later e2).later e3;have X3:=xt (xt X1 e2) e3;have HV:Hid (lv xs=(a.natAbs:Int)∧lv ys=(b.natAbs:Int)):=⟨vx,vy⟩;clear hx2 vx vy ha1 hb1 e2 e3 Ba Bb Br X1 q0 q1 q2 ka kb;have hmk:=run_make_row' (P:=Tryd.prog) 67 91 (.int .u32 0) 4 Tryd.underlying67 info32 rfl .i64 .i64 (xs.length+ys.length+1) (by omega) (by omega);have ec:((xs.length+ys.length+1:Nat):Int)=(xs.length:Int)+(ys.length:Int)+1:=by omega
 rw [ec] at hmk;clear ec;go_wp2_with fail;go_loopw [53] (fun i wr=>∃ (n:Nat) (fs:List Int),n≤xs.length∧i=.int .i64 n∧Own32 wr w3.heap.size fs∧fs.length=xs.length+ys.length+1∧Lim fs∧(∀ j,n+ys.length≤j→fs.getD j 0=0)∧lv fs=lv (xs.take n) * lv ys∧Ext w3 wr) (fun i _=>xs.length - (intOf i).toNat)
 case atStart=>exact ⟨0,List.replicate (xs.length+ys.length+1) 0,Nat.zero_le _,rfl,Own32.zeros _ _,by simp,Lim.zeros _,fun j _=>getD_zeros _ j,by simp [lv_replicate,lv],x1 _ _⟩
 case round =>
  obtain ⟨n,fs,hn,rfl,ho,hfl,hlf,hz,hv,X4⟩:=hrel;by_cases hlt:n<xs.length
  ·obtain ⟨bx,ox,rfl,cx4⟩:∃ b o,px=some ⟨b,o,none⟩∧C32 w3 b o xs:=by
    rcases cx3 with ⟨_,h⟩ | h
    ·omega
    ·exact h
   have hst:=MulAt.start (xs:=xs) (i:=n) hfl hlf hz hv;have HS:Hid (MulAt xs ys fs n 0 0):=hst;clear hst hz hv hfl hlf;go_wp2_with fail;go_loopw [11,58] (fun c j wq=>∃ (m:Nat) (gs:List Int) (cc:Int),m≤ys.length∧j=.int .i64 m∧c=.int .u64 cc∧Own32 wq w3.heap.size gs∧MulAt xs ys gs n m cc∧Ext w3 wq) (fun _ j _=>ys.length - (intOf j).toNat)
   case atStart=>exact ⟨0,fs,0,Nat.zero_le _,rfl,rfl,ho,HS.out,X4⟩
   case round =>
    obtain ⟨m,gs,cc,hm,rfl,rfl,hq,hM,X5⟩:=hrel;clear ho HS X4;by_cases hmlt:m<ys.length
    ·obtain ⟨by1,oy,rfl,cy4⟩:∃ b o,py=some ⟨b,o,none⟩∧C32 w3 b o ys:=by
      rcases cy3 with ⟨_,h⟩ | h
      ·omega
      ·exact h
     have HM:=hM;obtain ⟨m1,m2,m3,m4,m5,_⟩:=hM;obtain ⟨x,ex⟩:∃ x,xs.getD n 0=x:=⟨_,rfl⟩;obtain ⟨y,ey⟩:∃ y,ys.getD m 0=y:=⟨_,rfl⟩;obtain ⟨f,ef⟩:∃ f,gs.getD (n+m) 0=f:=⟨_,rfl⟩;have kx:=(cx4.later X5) n hlt;have ky:=(cy4.later X5) m hmlt;have kf:=World.rowIs.cell hq (i:=n+m) (by omega);have kz:=World.rowIs.frozen hq (n+m);rw [ex] at kx;rw [ey] at ky;rw [ef] at kf;obtain ⟨x0,x1'⟩:=lx.getD n;obtain ⟨y0,y1⟩:=ly.getD m;obtain ⟨f0,f1⟩:=m2.getD (n+m);rw [ex] at x0 x1';rw [ey] at y0 y1;rw [ef] at f0 f1;obtain ⟨s0,s1,s2⟩:=mul_sum x0 x1' y0 y1 f0 f1 m4 m5;have HN:Hid (MulAt xs ys (gs.set (n+m) ((f+x * y+cc) % 1000000000)) n (m+1) ((f+x * y+cc) / 1000000000)):=HM.step hlt hmlt lx ly ex ey ef;have HQ:Hid (Own32 wr w3.heap.size gs∧n+m<gs.length):=⟨hq,by omega⟩;clear HM ex ey ef hq m1 m3 m2 cx3 cy3 cx4 cy4 lx ly tx ty hmk ha3 hb3 Ba3 Bb3 Br3;go_wp2_with fail;go_quiet (fail)
     go_wp2
     go_roundw
     case rel=>exact ⟨m+1,_,_,by omega,by go_num,rfl,(HQ.out.1.drewN _).set _ HQ.out.2 _,HN.out,xset (xdN X5 _) (Nat.le_refl _) _⟩
     case measure=>simp [intOf];omega
    ·obtain rfl:m=ys.length:=(by omega);have hM':=hM;obtain ⟨m1,m2,m3,m4,m5,_⟩:=hM';have kf:=World.rowIs.cell hq (i:=n+ys.length) (by omega);have kz:=World.rowIs.frozen hq (n+ys.length);have HN:=hM.close hlt;have HC:Hid (∃ fs',fs'=gs.set (n+ys.length) cc∧fs'.length=xs.length+ys.length+1∧Lim fs'∧(∀ j,(n+1)+ys.length≤j→fs'.getD j 0=0)∧lv fs'=lv (xs.take (n+1)) * lv ys):=⟨_,rfl,HN⟩;have HQ:Hid (Own32 wr w3.heap.size gs∧n+ys.length<gs.length):=⟨hq,by omega⟩;clear HN hM hq m3 m2 cx3 cy3 cx4 lx ly tx ty hmk ha3 hb3 Ba3 Bb3 Br3
     go_wp2
     go_roundw
     case rel =>
      obtain ⟨fs',ef,c1,c2,c3,c4⟩:=HC.out;exact ⟨n+1,fs',by omega,by go_num,by rw [ef];exact HQ.out.1.set _ HQ.out.2 _,c1,c2,c3,c4,xset X5 (Nat.le_refl _) _⟩
     case measure=>simp [intOf];omega
  ·obtain rfl:n=xs.length:=by omega
   have hv':lv fs=(a.natAbs:Int) * (b.natAbs:Int):=by
    rw [hv,List.take_length,HV.out.1,HV.out.2]
   have R4:=ho.row (by omega);rw [hfl] at R4;have HR:Hid (Row wr (.slice (some ⟨w3.heap.size,0,none⟩) (xs.length+ys.length+1) (xs.length+ys.length+1)) fs∧Lim fs):=⟨R4,hlf⟩;have Ba4:=Ba3.later X4;have Bb4:=Bb3.later X4;have Br4:=Br3.later X4;have ha4:=ha3.later X4;have hb4:=hb3.later X4;have X5:=xt X3 X4;have Ba5:=Ba4;have Bb5:=Bb4;obtain ⟨⟨p0,p1,p2⟩,_⟩:=Ba5;obtain ⟨⟨q0,q1,q2⟩,_⟩:=Bb5;have HP:Hid (sgn (!(decide (a<0) == decide (b<0))) (lv fs)=a * b):=by rw [hv'];exact sgn_mul a b
   clear R4 hv hv' hz ho hfl hlf cx3 cy3 lx ly tx ty hmk ha3 hb3 Ba3 Bb3 Br3 HV X3 X4;go_wp2_with fail;go_region_with (first
    | (go_at_call_of 52 (Value.agg #[.int .i64 a0,.bool a1,.slice pa na ca]);refine (neg_any (z:=a) _ ?_).mono ?_;(exact ha4.later (by first | exact xr _ | exact xd (xr _)));rintro e w4 ⟨rfl,e4⟩;obtain ⟨⟨q0',q1',q2'⟩,_⟩:=Bb4.later (xt (xd (xr _)) e4))
    | (go_at_call_of 52 (Value.agg #[.int .i64 b0,.bool b1,.slice pb nb cb]);refine (neg_any (z:=b) _ ?_).mono ?_;(exact hb4.later (xt (xd (xr _)) (by assumption)));rintro e w5 ⟨rfl,e5⟩)
    | (go_at_call 69;refine (make_any _ _ (HR.out.1.later (xt (xt (xd (xr _)) (by assumption)) (by assumption))) HR.out.2).mono ?_;rintro e w6 ⟨v',rfl,hz6,e6⟩;obtain ⟨a0',a1',p',n',cap',rfl⟩:=hz6.shape;have X6:=xt (xt (xt (xd (xr wr)) (by assumption)) (by assumption)) e6;have B6:=Br4.later X6;obtain ⟨⟨r0,r1,r2⟩,s0,s1,s2⟩:=B6))
   all_goals
    go_wp2
    exact bodyPost_ret (v:=.agg #[.int .i64 a0',.bool a1',.slice p' n' cap']) (by simp [results,Tryd.results62,go_sem,r0,r1,r2]) rfl ⟨_,rfl,by rw [← HP.out];exact hz6.set3 (Br4.later X6) _ _ _,Ext.set3 (xt X5 X6) (by omega) _ _ _⟩
set_option maxHeartbeats 2000000 in
theorem mul_bigAB {va vb:Value} {a b:Int} (w:World) (ha:ZV w va a) (hb:ZV w vb b) (sa':smallB a=true) (sb':smallB b=true) (hp0:(((a.natAbs:Int)) == 0)=false) (hp:999999999999999999 / (a.natAbs:Int)<(b.natAbs:Int)) (k:Nat) (hk:k≤1000000000) (ka:(a.natAbs:Int)<1000000000 ^ k) (kb:(b.natAbs:Int)<1000000000 ^ k) :
  Calls Tryd.prog 62 #[va,vb] w fun e w'=>∃ v',e=.returned v'∧ZV w' v' (a * b)∧Ext w w':=by
 obtain ⟨s1,s2,rfl⟩:=ha.small_of sa';obtain ⟨t1,t2,rfl⟩:=hb.small_of sb';obtain ⟨x,hx⟩:∃ x,(a.natAbs:Int)=x:=⟨_,rfl⟩;obtain ⟨y,hy⟩:∃ y,(b.natAbs:Int)=y:=⟨_,rfl⟩;have HX:Hid ((a.natAbs:Int)=x):=hx;have HY:Hid ((b.natAbs:Int)=y):=hy;have HK:Hid ((a.natAbs:Int)<1000000000 ^ k∧(b.natAbs:Int)<1000000000 ^ k):=⟨ka,kb⟩;rw [hx] at hp0 hp;rw [hy] at hp;have x0:0<x:=by rw [beq_eq_false_iff_ne] at hp0;omega
 have x1':x<1000000000000000000:=by omega
 have y0:0≤y:=by omega
 have y1':y<1000000000000000000:=by omega
 clear hx hy ka kb;go_enter Tryd.func62,Tryd.ntmps62;go_wp2_with fail;refine (isSmall_any _ (ha.later (xa (xa (x1 _ _) _) _))).mono ?_;rintro e w1 ⟨rfl,e1⟩;have Ba:=((Box3.made w (.int .i64 a) (.bool false) (.slice none 0 0) 69).later (xa (x1 _ _) _)).later e1;have Bb:=((Box3.made (w.alloc (.cells #[.int .i64 a,.bool false,.slice none 0 0] 69)) (.int .i64 b) (.bool false) (.slice none 0 0) 69).later (x1 _ _)).later e1;have Br:=(Box3.made ((w.alloc (.cells #[.int .i64 a,.bool false,.slice none 0 0] 69)).alloc (.cells #[.int .i64 b,.bool false,.slice none 0 0] 69)) (.int .i64 0) (.bool false) (.slice none 0 0) 69).later e1;simp only [World.size_alloc] at Ba Bb Br;have ha1:=(ha.later (xa (xa (x1 _ _) _) _)).later e1;have hb1:=(hb.later (xa (xa (x1 _ _) _) _)).later e1;have X1:=xt (xa (xa (x1 _ _) _) _) e1;clear e1 ha hb;have Bb':=Bb;obtain ⟨⟨p0,p1,p2⟩,_⟩:=Bb';go_wp2_with fail;clear p0 p1 p2;refine (isSmall_any _ hb1).mono ?_;rintro e w1b ⟨rfl,e1b⟩;replace Ba:=Ba.later e1b;replace Bb:=Bb.later e1b;replace Br:=Br.later e1b;replace ha1:=ha1.later e1b;replace hb1:=hb1.later e1b;replace X1:=xt X1 e1b;clear e1b;have Ba':=Ba;have Bb':=Bb;obtain ⟨⟨p0,p1,p2⟩,_⟩:=Ba';obtain ⟨⟨q0,q1,q2⟩,_⟩:=Bb';go_wp2_with fail;refine (abs64_eq a x _ s1 s2 HX.out).mono ?_;rintro e w' ⟨rfl,hw⟩;subst hw;go_wp2_with fail;refine (abs64_eq b y _ t1 t2 HY.out).mono ?_;rintro e w' ⟨rfl,hw⟩;subst hw;go_wp2_with fail;obtain ⟨ka,kb⟩:=HK.out;clear p0 p1 p2 q0 q1 q2 sa' sb' hp0 hp x0 x1' y0 y1' HX HY HK;refine (limbs_any _ ha1).mono ?_;rintro e w2 ⟨x,rfl,hx2,e2⟩;obtain ⟨⟨q0,q1,q2⟩,_⟩:=Bb.later e2;go_wp2_with fail;refine (limbs_any _ (hb1.later e2)).mono ?_;rintro e w3 ⟨y,rfl,hy3,e3⟩;obtain ⟨xs,⟨px,cx,rfl,cx1,cx2,cx3⟩,lx,tx,vx⟩:=hx2.later e3;obtain ⟨ys,⟨py,cy,rfl,cy1,cy2,cy3⟩,ly,ty,vy⟩:=hy3;have nx:xs.length≤k:=len_le lx tx (by rw [vx];exact ka);have ny:ys.length≤k:=len_le ly ty (by rw [vy];exact kb);have Ba3:=(Ba.later e2).later e3;have Bb3:=(Bb.later e2).later e3;have Br3:=(Br.later e2).later e3;have ha3:=(ha1.later e2).later e3;have hb3:=(hb1.later e2).later e3;have X3:=xt (xt X1 e2) e3;have HV:Hid (lv xs=(a.natAbs:Int)∧lv ys=(b.natAbs:Int)):=⟨vx,vy⟩;clear hx2 vx vy ha1 hb1 e2 e3 Ba Bb Br X1 q0 q1 q2 ka kb;have hmk:=run_make_row' (P:=Tryd.prog) 67 91 (.int .u32 0) 4 Tryd.underlying67 info32 rfl .i64 .i64 (xs.length+ys.length+1) (by omega) (by omega);have ec:((xs.length+ys.length+1:Nat):Int)=(xs.length:Int)+(ys.length:Int)+1:=by omega
 rw [ec] at hmk;clear ec;go_wp2_with fail;go_loopw [53] (fun i wr=>∃ (n:Nat) (fs:List Int),n≤xs.length∧i=.int .i64 n∧Own32 wr w3.heap.size fs∧fs.length=xs.length+ys.length+1∧Lim fs∧(∀ j,n+ys.length≤j→fs.getD j 0=0)∧lv fs=lv (xs.take n) * lv ys∧Ext w3 wr) (fun i _=>xs.length - (intOf i).toNat)
 case atStart=>exact ⟨0,List.replicate (xs.length+ys.length+1) 0,Nat.zero_le _,rfl,Own32.zeros _ _,by simp,Lim.zeros _,fun j _=>getD_zeros _ j,by simp [lv_replicate,lv],x1 _ _⟩
 case round =>
  obtain ⟨n,fs,hn,rfl,ho,hfl,hlf,hz,hv,X4⟩:=hrel;by_cases hlt:n<xs.length
  ·obtain ⟨bx,ox,rfl,cx4⟩:∃ b o,px=some ⟨b,o,none⟩∧C32 w3 b o xs:=by
    rcases cx3 with ⟨_,h⟩ | h
    ·omega
    ·exact h
   have hst:=MulAt.start (xs:=xs) (i:=n) hfl hlf hz hv;have HS:Hid (MulAt xs ys fs n 0 0):=hst;clear hst hz hv hfl hlf;go_wp2_with fail;go_loopw [11,58] (fun c j wq=>∃ (m:Nat) (gs:List Int) (cc:Int),m≤ys.length∧j=.int .i64 m∧c=.int .u64 cc∧Own32 wq w3.heap.size gs∧MulAt xs ys gs n m cc∧Ext w3 wq) (fun _ j _=>ys.length - (intOf j).toNat)
   case atStart=>exact ⟨0,fs,0,Nat.zero_le _,rfl,rfl,ho,HS.out,X4⟩
   case round =>
    obtain ⟨m,gs,cc,hm,rfl,rfl,hq,hM,X5⟩:=hrel;clear ho HS X4;by_cases hmlt:m<ys.length
    ·obtain ⟨by1,oy,rfl,cy4⟩:∃ b o,py=some ⟨b,o,none⟩∧C32 w3 b o ys:=by
      rcases cy3 with ⟨_,h⟩ | h
      ·omega
      ·exact h
     have HM:=hM;obtain ⟨m1,m2,m3,m4,m5,_⟩:=hM;obtain ⟨x,ex⟩:∃ x,xs.getD n 0=x:=⟨_,rfl⟩;obtain ⟨y,ey⟩:∃ y,ys.getD m 0=y:=⟨_,rfl⟩;obtain ⟨f,ef⟩:∃ f,gs.getD (n+m) 0=f:=⟨_,rfl⟩;have kx:=(cx4.later X5) n hlt;have ky:=(cy4.later X5) m hmlt;have kf:=World.rowIs.cell hq (i:=n+m) (by omega);have kz:=World.rowIs.frozen hq (n+m);rw [ex] at kx;rw [ey] at ky;rw [ef] at kf;obtain ⟨x0,x1'⟩:=lx.getD n;obtain ⟨y0,y1⟩:=ly.getD m;obtain ⟨f0,f1⟩:=m2.getD (n+m);rw [ex] at x0 x1';rw [ey] at y0 y1;rw [ef] at f0 f1;obtain ⟨s0,s1,s2⟩:=mul_sum x0 x1' y0 y1 f0 f1 m4 m5;have HN:Hid (MulAt xs ys (gs.set (n+m) ((f+x * y+cc) % 1000000000)) n (m+1) ((f+x * y+cc) / 1000000000)):=HM.step hlt hmlt lx ly ex ey ef;have HQ:Hid (Own32 wr w3.heap.size gs∧n+m<gs.length):=⟨hq,by omega⟩;clear HM ex ey ef hq m1 m3 m2 cx3 cy3 cx4 cy4 lx ly tx ty hmk ha3 hb3 Ba3 Bb3 Br3;go_wp2_with fail;go_quiet (fail)
     go_wp2
     go_roundw
     case rel=>exact ⟨m+1,_,_,by omega,by go_num,rfl,(HQ.out.1.drewN _).set _ HQ.out.2 _,HN.out,xset (xdN X5 _) (Nat.le_refl _) _⟩
     case measure=>simp [intOf];omega
    ·obtain rfl:m=ys.length:=(by omega);have hM':=hM;obtain ⟨m1,m2,m3,m4,m5,_⟩:=hM';have kf:=World.rowIs.cell hq (i:=n+ys.length) (by omega);have kz:=World.rowIs.frozen hq (n+ys.length);have HN:=hM.close hlt;have HC:Hid (∃ fs',fs'=gs.set (n+ys.length) cc∧fs'.length=xs.length+ys.length+1∧Lim fs'∧(∀ j,(n+1)+ys.length≤j→fs'.getD j 0=0)∧lv fs'=lv (xs.take (n+1)) * lv ys):=⟨_,rfl,HN⟩;have HQ:Hid (Own32 wr w3.heap.size gs∧n+ys.length<gs.length):=⟨hq,by omega⟩;clear HN hM hq m3 m2 cx3 cy3 cx4 lx ly tx ty hmk ha3 hb3 Ba3 Bb3 Br3
     go_wp2
     go_roundw
     case rel =>
      obtain ⟨fs',ef,c1,c2,c3,c4⟩:=HC.out;exact ⟨n+1,fs',by omega,by go_num,by rw [ef];exact HQ.out.1.set _ HQ.out.2 _,c1,c2,c3,c4,xset X5 (Nat.le_refl _) _⟩
     case measure=>simp [intOf];omega
  ·obtain rfl:n=xs.length:=by omega
   have hv':lv fs=(a.natAbs:Int) * (b.natAbs:Int):=by
    rw [hv,List.take_length,HV.out.1,HV.out.2]
   have R4:=ho.row (by omega);rw [hfl] at R4;have HR:Hid (Row wr (.slice (some ⟨w3.heap.size,0,none⟩) (xs.length+ys.length+1) (xs.length+ys.length+1)) fs∧Lim fs):=⟨R4,hlf⟩;have Ba4:=Ba3.later X4;have Bb4:=Bb3.later X4;have Br4:=Br3.later X4;have ha4:=ha3.later X4;have hb4:=hb3.later X4;have X5:=xt X3 X4;have Ba5:=Ba4;have Bb5:=Bb4;obtain ⟨⟨p0,p1,p2⟩,_⟩:=Ba5;obtain ⟨⟨q0,q1,q2⟩,_⟩:=Bb5;have HP:Hid (sgn (!(decide (a<0) == decide (b<0))) (lv fs)=a * b):=by rw [hv'];exact sgn_mul a b
   clear R4 hv hv' hz ho hfl hlf cx3 cy3 lx ly tx ty hmk ha3 hb3 Ba3 Bb3 Br3 HV X3 X4;go_wp2_with fail;go_region_with (first
    | (go_at_call_of 52 (Value.agg #[.int .i64 a,.bool false,.slice none 0 0]);refine (neg_any (z:=a) _ ?_).mono ?_;(exact ha4.later (by first | exact xr _ | exact xd (xr _)));rintro e w4 ⟨rfl,e4⟩;obtain ⟨⟨q0',q1',q2'⟩,_⟩:=Bb4.later (xt (xd (xr _)) e4))
    | (go_at_call_of 52 (Value.agg #[.int .i64 b,.bool false,.slice none 0 0]);refine (neg_any (z:=b) _ ?_).mono ?_;(exact hb4.later (xt (xd (xr _)) (by assumption)));rintro e w5 ⟨rfl,e5⟩)
    | (go_at_call 69;refine (make_any _ _ (HR.out.1.later (xt (xt (xd (xr _)) (by assumption)) (by assumption))) HR.out.2).mono ?_;rintro e w6 ⟨v',rfl,hz6,e6⟩;obtain ⟨a0',a1',p',n',cap',rfl⟩:=hz6.shape;have X6:=xt (xt (xt (xd (xr wr)) (by assumption)) (by assumption)) e6;have B6:=Br4.later X6;obtain ⟨⟨r0,r1,r2⟩,s0,s1,s2⟩:=B6))
   all_goals
    go_wp2
    exact bodyPost_ret (v:=.agg #[.int .i64 a0',.bool a1',.slice p' n' cap']) (by simp [results,Tryd.results62,go_sem,r0,r1,r2]) rfl ⟨_,rfl,by rw [← HP.out];exact hz6.set3 (Br4.later X6) _ _ _,Ext.set3 (xt X5 X6) (by omega) _ _ _⟩
theorem mul_any {va vb:Value} {a b:Int} (w:World) (ha:ZV w va a) (hb:ZV w vb b) (k:Nat) (hk:k≤1000000000) (ka:(a.natAbs:Int)<1000000000 ^ k) (kb:(b.natAbs:Int)<1000000000 ^ k) :
  Calls Tryd.prog 62 #[va,vb] w fun e w'=>∃ v',e=.returned v'∧ZV w' v' (a * b)∧Ext w w':=by
 cases sa:smallB a
 ·exact mul_bigA w ha hb sa k hk ka kb
 ·cases sb:smallB b
  ·exact mul_bigB w ha hb sa sb k hk ka kb
  ·by_cases hp:(a.natAbs:Int)=0∨(b.natAbs:Int)≤999999999999999999 / (a.natAbs:Int)
   ·exact mul_fast w ha hb sa sb hp
   ·have h1:¬ (a.natAbs:Int)=0:=fun h=>hp (.inl h);have h2:¬ (b.natAbs:Int)≤999999999999999999 / (a.natAbs:Int):=fun h=>hp (.inr h);exact mul_bigAB w ha hb sa sb (by rw [beq_eq_false_iff_ne];exact h1) (by omega) k hk ka kb
set_option maxRecDepth 4000 in
set_option maxHeartbeats 1000000 in
theorem add_small (a b:Int) (w:World) (a1 : -1000000000000000000<a) (a2:a<1000000000000000000) (b1 : -1000000000000000000<b) (b2:b<1000000000000000000) :
  Calls Tryd.prog 59 #[zS a,zS b] w fun e w'=>∃ v',e=.returned v'∧ZV w' v' (a+b)∧Ext w w':=by
 have sa:Hid (∀ w2:World,Calls Tryd.prog 66 #[zS a] w2 fun e w'=>e=.returned (.bool true)∧Ext w2 w'):=fun w2=>by
  have:=isSmall_any w2 (ZV.small a1 a2)
  rwa [smallB_true a1 a2] at this
 have sb:Hid (∀ w2:World,Calls Tryd.prog 66 #[zS b] w2 fun e w'=>e=.returned (.bool true)∧Ext w2 w'):=fun w2=>by
  have:=isSmall_any w2 (ZV.small b1 b2)
  rwa [smallB_true b1 b2] at this
 have Ba:=(Box3.made w (.int .i64 a) (.bool false) (.slice none 0 0) 69).later (xa (x1 _ (.cells #[.int .i64 b,.bool false,.slice none 0 0] 69)) (.cells #[.int .i64 0,.bool false,.slice none 0 0] 69));have Bb:=(Box3.made (w.alloc (.cells #[.int .i64 a,.bool false,.slice none 0 0] 69)) (.int .i64 b) (.bool false) (.slice none 0 0) 69).later (x1 _ (.cells #[.int .i64 0,.bool false,.slice none 0 0] 69));have Br:=Box3.made ((w.alloc (.cells #[.int .i64 a,.bool false,.slice none 0 0] 69)).alloc (.cells #[.int .i64 b,.bool false,.slice none 0 0] 69)) (.int .i64 0) (.bool false) (.slice none 0 0) 69;simp only [World.size_alloc] at Bb Br;go_enter Tryd.func59,Tryd.ntmps59;go_wp2_with fail;refine (sa.out _).mono ?_;rintro e w1 ⟨rfl,e1⟩;obtain ⟨⟨q0,q1,q2⟩,_⟩:=Bb.later e1;go_wp2_with fail;refine (sb.out _).mono ?_;rintro e w2 ⟨rfl,e2⟩;clear q0 q1 q2;have X2:=xt e1 e2;obtain ⟨⟨q0,q1,q2⟩,_⟩:=Bb.later X2;obtain ⟨⟨p0,p1,p2⟩,_⟩:=Ba.later X2;go_wp2_with fail;refine (small_any (a+b) _ (by omega) (by omega)).mono ?_;rintro e w3 ⟨v',rfl,hz,e3⟩;obtain ⟨a0',a1',p',n',cap',rfl⟩:=hz.shape;have X3:=xt X2 e3;have B4:=Br.later X3;have Hz:=hz.set3 B4 (.int .i64 a0') (.bool a1') (.slice p' n' cap');have Hx:=Ext.set3 (b:=w.heap.size+1+1) (xt (xa (xa (x1 _ _) _) _) X3) (by omega) (.int .i64 a0') (.bool a1') (.slice p' n' cap');obtain ⟨⟨r0,r1,r2⟩,s0,s1,s2⟩:=B4;clear p0 p1 p2 q0 q1 q2
 go_wp2
 exact bodyPost_ret (v:=.agg #[.int .i64 a0',.bool a1',.slice p' n' cap']) (by simp [results,Tryd.results59,go_sem,r0,r1,r2]) rfl ⟨_,rfl,Hz,Hx⟩
theorem add_smallZ {va vb:Value} {a b:Int} (w:World) (ha:ZV w va a) (hb:ZV w vb b) (sa:smallB a=true) (sb:smallB b=true) :
  Calls Tryd.prog 59 #[va,vb] w fun e w'=>∃ v',e=.returned v'∧ZV w' v' (a+b)∧Ext w w':=by
 obtain ⟨a1,a2,rfl⟩:=ha.small_of sa;obtain ⟨b1,b2,rfl⟩:=hb.small_of sb;exact add_small a b w a1 a2 b1 b2
end Go.Proofs.YtnphbpmdohidcaaDoor

namespace Go.Proofs.YtnphbpmdohidcaaDoor
theorem ten_pow_pos (n:Nat):0<10 ^ n:=Nat.pow_pos (by decide)
def nd (a:Nat):Nat:=if h:a=0 then 0 else nd (a / 10)+1
termination_by a
decreasing_by omega
theorem nd_zero:nd 0=0:=by rw [nd];simp
theorem nd_pos {a:Nat} (h:a ≠ 0):nd a=nd (a / 10)+1:=by rw [nd];simp [h]
theorem nd_dig (a:Nat):a<10 ^ nd a∧(nd a=0∨10 ^ (nd a - 1)≤a):=by
 induction a using Nat.strongRecOn with
 | ind a ih =>
  by_cases h:a=0
  ·subst h;rw [nd_zero];simp
  ·rw [nd_pos h];obtain ⟨h1,h2⟩:=ih (a / 10) (by omega);refine ⟨by rw [Nat.pow_succ];omega,.inr ?_⟩;rw [Nat.add_sub_cancel];by_cases h3:a / 10=0
   ·rw [h3,nd_zero];simp;omega
   ·have h4:nd (a / 10) ≠ 0:=(by rw [nd_pos h3];omega);have h5:=h2.resolve_left h4;obtain ⟨m,hm⟩:∃ m,nd (a / 10)=m+1:=⟨nd (a / 10) - 1,by omega⟩;rw [hm] at h5 ⊢;rw [Nat.pow_succ];simp at h5;omega
theorem pow10_le {i j:Nat} (h:i≤j):10 ^ i≤10 ^ j:=Nat.pow_le_pow_right (by decide) h
theorem pow10_lt_iff {i j:Nat} (h:10 ^ i<10 ^ j):i<j:=by
 by_cases e:i<j
 ·exact e
 ·have:=pow10_le (show j≤i by omega);omega
theorem nd_eq {a k:Nat} (h1:a<10 ^ k) (h2:k=0∨10 ^ (k - 1)≤a):nd a=k:=by
 obtain ⟨h3,h4⟩:=nd_dig a;have e1:k≤nd a:=by
  rcases h2 with h2 | h2
  ·omega
  ·have:=pow10_lt_iff (i:=k - 1) (j:=nd a) (by omega);omega
 have e2:nd a≤k:=by
  rcases h4 with h4 | h4
  ·omega
  ·have:=pow10_lt_iff (i:=nd a - 1) (j:=k) (by omega);omega
 omega
theorem nd_le {a k:Nat} (h:a<10 ^ k):nd a≤k:=by
 rcases (nd_dig a).2 with h2 | h2
 ·omega
 ·have:=pow10_lt_iff (i:=nd a - 1) (j:=k) (by omega);omega
theorem nd_lt {a k:Nat} (h:k<nd a):10 ^ k≤a:=by
 rcases (nd_dig a).2 with h2 | h2
 ·omega
 ·exact Nat.le_trans (pow10_le (by omega)) h2
def restN (P cut:Nat) (more:Bool):Nat:=
 if 10 ^ cut<2 * (P % 10 ^ cut)∨(2 * (P % 10 ^ cut)=10 ^ cut∧more=true) then 3
 else if 2 * (P % 10 ^ cut)=10 ^ cut then 2
 else if 0<P % 10 ^ cut∨more=true then 1 else 0
def goesOn (mode:Nat) (odd:Bool) (rest:Nat):Bool:=
 if mode=0 then decide (rest=3) || (decide (rest=2) && odd) else if mode=1 then decide (2≤rest) else if mode=2 then false else decide (rest ≠ 0)
def rndM (mode P cut:Nat) (more:Bool):Nat:=P / 10 ^ cut+if goesOn mode (decide (P / 10 ^ cut % 2=1)) (restN P cut more)=true then 1 else 0
def strip (P:Nat) (e:Int):Nat × Int:=if h:P ≠ 0∧P % 10=0 then strip (P / 10) (e+1) else (P,e)
termination_by P
decreasing_by omega
theorem strip_ten {P:Nat} {e:Int} (h0:P ≠ 0) (h:P % 10=0):strip P e=strip (P / 10) (e+1):=by rw [strip];simp [h0,h]
theorem strip_stop {P:Nat} {e:Int} (h:P % 10 ≠ 0):strip P e=(P,e):=by rw [strip];simp [h]
structure DR where
 ok:Bool
 neg:Bool
 d:Int
 e:Int
def fitR (neg:Bool) (P:Nat) (e:Int):DR:=
 if P=0 then ⟨true,false,0,0⟩
 else if 300<(strip P e).2 then ⟨false,false,0,0⟩
 else if (strip P e).2 < -300 then ⟨true,false,0,0⟩
 else ⟨true,neg,(strip P e).1,(strip P e).2⟩
def putR (neg:Bool) (P:Nat) (e:Int) (more:Bool):DR:=
 if 15<nd P then fitR neg (rndM 0 P (nd P - 15) more) (e+((nd P - 15:Nat):Int)) else fitR neg P e
end Go.Proofs.YtnphbpmdohidcaaDoor

namespace Go.Proofs.YtnphbpmdohidcaaDoor
end Go.Proofs.YtnphbpmdohidcaaDoor

namespace Go.Proofs.YtnphbpmdohidcaaDoor
open Go.RowKit
theorem add_same {a b:Int} (h:decide (a<0)=decide (b<0)):sgn (decide (a<0)) ((a.natAbs:Int)+(b.natAbs:Int))=a+b:=by
 by_cases ha:a<0
 ·have hb:b<0:=by rw [decide_eq_true ha] at h;exact of_decide_eq_true h.symm
  simp [sgn,ha];omega
 ·have hb:¬ b<0:=by rw [decide_eq_false ha] at h;exact of_decide_eq_false h.symm
  simp [sgn,ha];omega
theorem add_left {a b:Int} (h:decide (a<0) ≠ decide (b<0)):sgn (decide (a<0)) ((a.natAbs:Int) - (b.natAbs:Int))=a+b:=by
 by_cases ha:a<0
 ·have hb:¬ b<0:=fun hb=>h (by rw [decide_eq_true ha,decide_eq_true hb]);simp [sgn,ha];omega
 ·have hb:b<0:=by
   by_cases hb:b<0
   ·exact hb
   ·exact absurd (by rw [decide_eq_false ha,decide_eq_false hb]) h
  simp [sgn,ha];omega
theorem add_right {a b:Int} (h:decide (a<0) ≠ decide (b<0)):sgn (decide (b<0)) ((b.natAbs:Int) - (a.natAbs:Int))=a+b:=by
 rw [add_left h.symm];omega
set_option maxRecDepth 4000 in
set_option maxHeartbeats 2000000 in
theorem add_big {va vb:Value} {a b:Int} (w:World) (ha:ZV w va a) (hb:ZV w vb b) (hbig:(smallB a && smallB b)=false) (k:Nat) (hk:k≤100000000) (ka:(a.natAbs:Int)<1000000000 ^ k) (kb:(b.natAbs:Int)<1000000000 ^ k) :
  Calls Tryd.prog 59 #[va,vb] w fun e w'=>∃ v',e=.returned v'∧ZV w' v' (a+b)∧Ext w w':=by
 obtain ⟨c0,c1,pa,na,ca,rfl⟩:=ha.shape;obtain ⟨d0,d1,pb,nb,cb,rfl⟩:=hb.shape;have IA:Hid (∀ w2,Ext w w2→Calls Tryd.prog 66 #[.agg #[.int .i64 c0,.bool c1,.slice pa na ca]] w2 fun e w'=>e=.returned (.bool (smallB a))∧Ext w2 w'):=fun w2 x=>isSmall_any w2 (ha.later x);have IB:Hid (∀ w2,Ext w w2→Calls Tryd.prog 66 #[.agg #[.int .i64 d0,.bool d1,.slice pb nb cb]] w2 fun e w'=>e=.returned (.bool (smallB b))∧Ext w2 w'):=fun w2 x=>isSmall_any w2 (hb.later x);obtain ⟨sa,hsa⟩:∃ s,decide (a<0)=s:=⟨_,rfl⟩;obtain ⟨sb,hsb⟩:∃ s,decide (b<0)=s:=⟨_,rfl⟩;have NA:Hid (∀ w2,Ext w w2→Calls Tryd.prog 52 #[.agg #[.int .i64 c0,.bool c1,.slice pa na ca]] w2 fun e w'=>e=.returned (.bool sa)∧Ext w2 w'):=fun w2 x=>neg_is sa w2 hsa (ha.later x);have NB:Hid (∀ w2,Ext w w2→Calls Tryd.prog 52 #[.agg #[.int .i64 d0,.bool d1,.slice pb nb cb]] w2 fun e w'=>e=.returned (.bool sb)∧Ext w2 w'):=fun w2 x=>neg_is sb w2 hsb (hb.later x);have LA:Hid (∀ w2,Ext w w2→Calls Tryd.prog 68 #[.agg #[.int .i64 c0,.bool c1,.slice pa na ca]] w2 fun e w'=>∃ v' xs,e=.returned v'∧Hid (Row w' v' xs∧Lim xs∧Top xs∧lv xs=(a.natAbs:Int)∧xs.length≤k)∧Ext w2 w'):=fun w2 x=>by
  refine (limbs_any w2 (ha.later x)).mono ?_;rintro e w' ⟨v',rfl,⟨xs,h1,h2,h3,h4⟩,hx⟩;exact ⟨v',xs,rfl,⟨h1,h2,h3,h4,len_le h2 h3 (by rw [h4];exact ka)⟩,hx⟩
 have LB:Hid (∀ w2,Ext w w2→Calls Tryd.prog 68 #[.agg #[.int .i64 d0,.bool d1,.slice pb nb cb]] w2 fun e w'=>∃ v' xs,e=.returned v'∧Hid (Row w' v' xs∧Lim xs∧Top xs∧lv xs=(b.natAbs:Int)∧xs.length≤k)∧Ext w2 w'):=fun w2 x=>by
  refine (limbs_any w2 (hb.later x)).mono ?_;rintro e w' ⟨v',rfl,⟨xs,h1,h2,h3,h4⟩,hx⟩;exact ⟨v',xs,rfl,⟨h1,h2,h3,h4,len_le h2 h3 (by rw [h4];exact kb)⟩,hx⟩
 have MK:Hid (∀ (w2:World) (s:Bool) (v:Value) (xs:List Int),Row w2 v xs→Lim xs→Calls Tryd.prog 69 #[.bool s,v] w2 fun e w'=>∃ z0 z1 p n c,e=.returned (.agg #[.int .i64 z0,.bool z1,.slice p n c])∧ZV w' (.agg #[.int .i64 z0,.bool z1,.slice p n c]) (sgn s (lv xs))∧Ext w2 w'):=fun w2 s v xs h1 h2=>by
  refine (make_any s w2 h1 h2).mono ?_;rintro e w' ⟨v',rfl,hz,hx⟩;obtain ⟨z0,z1,p,n,c,rfl⟩:=hz.shape;exact ⟨z0,z1,p,n,c,rfl,hz,hx⟩
 have SAME:Hid (sa=sb→sgn sa ((a.natAbs:Int)+(b.natAbs:Int))=a+b):=fun h=>by rw [← hsa,← hsb] at h;rw [← hsa];exact add_same h
 have LEFT:Hid (sa ≠ sb→sgn sa ((a.natAbs:Int) - (b.natAbs:Int))=a+b):=fun h=>by rw [← hsa,← hsb] at h;rw [← hsa];exact add_left h
 have RIGHT:Hid (sa ≠ sb→sgn sb ((b.natAbs:Int) - (a.natAbs:Int))=a+b):=fun h=>by rw [← hsa,← hsb] at h;rw [← hsb];exact add_right h
 have Ba:=(Box3.made w (.int .i64 c0) (.bool c1) (.slice pa na ca) 69).later (xa (x1 _ (.cells #[.int .i64 d0,.bool d1,.slice pb nb cb] 69)) (.cells #[.int .i64 0,.bool false,.slice none 0 0] 69));have Bb:=(Box3.made (w.alloc (.cells #[.int .i64 c0,.bool c1,.slice pa na ca] 69)) (.int .i64 d0) (.bool d1) (.slice pb nb cb) 69).later (x1 _ (.cells #[.int .i64 0,.bool false,.slice none 0 0] 69));have Br:=Box3.made ((w.alloc (.cells #[.int .i64 c0,.bool c1,.slice pa na ca] 69)).alloc (.cells #[.int .i64 d0,.bool d1,.slice pb nb cb] 69)) (.int .i64 0) (.bool false) (.slice none 0 0) 69;have X0:=xa (xa (x1 w (.cells #[.int .i64 c0,.bool c1,.slice pa na ca] 69)) (.cells #[.int .i64 d0,.bool d1,.slice pb nb cb] 69)) (.cells #[.int .i64 0,.bool false,.slice none 0 0] 69);simp only [World.size_alloc] at Bb Br;clear ha hb ka kb hsa hsb;go_enter Tryd.func59,Tryd.ntmps59;go_upto_region 1 with fail;obtain ⟨w0,hw0⟩:∃ u,((w.alloc (.cells #[.int .i64 c0,.bool c1,.slice pa na ca] 69)).alloc (.cells #[.int .i64 d0,.bool d1,.slice pb nb cb] 69)).alloc (.cells #[.int .i64 0,.bool false,.slice none 0 0] 69)=u:=⟨_,rfl⟩;rw [hw0] at Ba Bb Br X0 ⊢;clear hw0;go_cut [12] (fun v wc=>v=.bool false∧Ext w0 wc)
 case first =>
  have Ba':=Ba;obtain ⟨⟨p0,p1,p2⟩,_⟩:=Ba';go_wp2_with fail;refine (IA.out _ X0).mono ?_;rintro e w1 ⟨rfl,e1⟩;obtain ⟨⟨q0,q1,q2⟩,_⟩:=Bb.later e1;cases ea:smallB a
  ·go_wp2_with fail;go_meet
   case rel=>exact ⟨rfl,e1⟩
  ·have eb:smallB b=false:=by rw [ea] at hbig;exact hbig
   go_wp2_with fail;refine (IB.out _ (xt X0 e1)).mono ?_;rintro e w2 ⟨rfl,e2⟩;rw [eb];go_wp2_with fail;go_meet
   case rel=>exact ⟨rfl,xt e1 e2⟩
 case rest =>
  obtain ⟨rfl,X1⟩:=hcut
  rename World=>w1
  replace Ba:=Ba.later X1;replace Bb:=Bb.later X1;replace Br:=Br.later X1;replace X1:=xt X0 X1;have Ba':=Ba;obtain ⟨⟨p0,p1,p2⟩,_⟩:=Ba';clear X0 IA IB hbig;go_wp2_with fail;refine (LA.out _ X1).mono ?_;rintro e w2 ⟨vx,xs,rfl,HX,e2⟩;replace Ba:=Ba.later e2;replace Bb:=Bb.later e2;replace Br:=Br.later e2;replace X1:=xt X1 e2;have Bb':=Bb;obtain ⟨⟨p3,p4,p5⟩,_⟩:=Bb';clear p0 p1 p2;go_wp2_with fail;refine (LB.out _ X1).mono ?_;rintro e w3 ⟨vy,ys,rfl,HY,e3⟩;replace Ba:=Ba.later e3;replace Bb:=Bb.later e3;replace Br:=Br.later e3;replace X1:=xt X1 e3;have HX3:Hid (Row w3 vx xs∧Lim xs∧Top xs∧lv xs=(a.natAbs:Int)∧xs.length≤k):=⟨HX.out.1.later e3,HX.out.2⟩;clear p3 p4 p5 e2 HX LA LB;have Ba':=Ba;have Bb':=Bb;obtain ⟨⟨p0,p1,p2⟩,_⟩:=Ba';obtain ⟨⟨p3,p4,p5⟩,_⟩:=Bb';go_upto_region 5 with fail;go_cut [27] (fun v wc=>v=.bool (decide (sa=sb))∧Ext w3 wc)
  case first =>
   go_region_held3 (fun w'=>(w'.cell? ⟨w.heap.size,0,none⟩=some (.int .i64 c0)∧w'.cell? ⟨w.heap.size,1,none⟩=some (.bool c1)∧w'.cell? ⟨w.heap.size,2,none⟩=some (.slice pa na ca))∧w'.cell? ⟨w.heap.size+1,0,none⟩=some (.int .i64 d0)∧w'.cell? ⟨w.heap.size+1,1,none⟩=some (.bool d1)∧w'.cell? ⟨w.heap.size+1,2,none⟩=some (.slice pb nb cb)) (go_keep) (first
    | (go_at_call_of 52 (Value.agg #[.int .i64 c0,.bool c1,.slice pa na ca]);refine (NA.out _ (xt X1 (xd (xr _)))).mono ?_;rintro e w4 ⟨rfl,e4⟩;have X4:Ext w3 w4:=xt (xd (xr _)) e4;obtain ⟨⟨a40,a41,a42⟩,_⟩:=Ba.later X4;obtain ⟨⟨b40,b41,b42⟩,_⟩:=Bb.later X4)
    | (go_at_call_of 52 (Value.agg #[.int .i64 d0,.bool d1,.slice pb nb cb]);refine (NB.out _ (xt X1 X4)).mono ?_;rintro e w5 ⟨rfl,e5⟩;have X5:Ext w3 w5:=xt X4 e5;obtain ⟨⟨a50,a51,a52⟩,_⟩:=Ba.later X5;obtain ⟨⟨b50,b51,b52⟩,_⟩:=Bb.later X5))
   go_wp2_with fail;go_meet
   case rel=>exact ⟨by cases sa <;> cases sb <;> rfl,X5⟩
  case rest =>
   obtain ⟨rfl,X4⟩:=hcut
   rename World=>w4
   replace Ba:=Ba.later X4;replace Bb:=Bb.later X4;replace Br:=Br.later X4;replace X1:=xt X1 X4;have HX4:Hid (Row w4 vx xs∧Lim xs∧Top xs∧lv xs=(a.natAbs:Int)∧xs.length≤k):=⟨HX3.out.1.later X4,HX3.out.2⟩;have HY4:Hid (Row w4 vy ys∧Lim ys∧Top ys∧lv ys=(b.natAbs:Int)∧ys.length≤k):=⟨HY.out.1.later X4,HY.out.2⟩;obtain ⟨⟨p0',p1',p2'⟩,_⟩:=Ba;have Bb':=Bb;obtain ⟨⟨p3',p4',p5'⟩,_⟩:=Bb';clear p0 p1 p2 p3 p4 p5 HX3 HY X4;by_cases hs:sa=sb
   ·have hs':decide (sa=sb)=true:=decide_eq_true hs;have HS:Hid (sgn sa ((a.natAbs:Int)+(b.natAbs:Int))=a+b):=SAME.out hs;rw [hs'];clear hs hs' SAME LEFT RIGHT NB p3' p4' p5';go_wp2_with fail;refine (NA.out _ X1).mono ?_;rintro e w5 ⟨rfl,e5⟩;go_wp2_with fail;refine (addD_any _ (HX4.out.1.later e5) (HY4.out.1.later e5) HX4.out.2.1 HY4.out.2.1 (by have:=HX4.out.2.2.2.2;omega) (by have:=HY4.out.2.2.2.2;omega)).mono ?_;rintro e w6 ⟨v6,fs,rfl,F1,F2,F3,e6⟩;have FV:Hid (lv fs=lv xs+lv ys):=F3;clear F3;go_wp2_with fail;refine (MK.out _ _ _ _ F1 F2).mono ?_;rintro e w7 ⟨f0,f1,f2,f3,f4,rfl,hz7,e7⟩;rw [FV.out,HX4.out.2.2.2.1,HY4.out.2.2.2.1,HS.out] at hz7;have B7:=((Br.later e5).later e6).later e7;have HZ:Hid (ZV (set3 w7 (w.heap.size+1+1) (.int .i64 f0) (.bool f1) (.slice f2 f3 f4)) (.agg #[.int .i64 f0,.bool f1,.slice f2 f3 f4]) (a+b)∧Ext w (set3 w7 (w.heap.size+1+1) (.int .i64 f0) (.bool f1) (.slice f2 f3 f4))):=⟨hz7.set3 B7 _ _ _,Ext.set3 (xt (xt (xt X1 e5) e6) e7) (by omega) _ _ _⟩;obtain ⟨⟨r0,r1,r2⟩,s0,s1,s2⟩:=B7;clear hz7 F1 F2 p0' p1' p2';go_wp2_with fail;exact bodyPost_ret (v:=.agg #[.int .i64 f0,.bool f1,.slice f2 f3 f4]) (by simp [results,Tryd.results59,go_sem,r0,r1,r2]) rfl ⟨_,rfl,HZ.out.1,HZ.out.2⟩
   ·have hs':decide (sa=sb)=false:=decide_eq_false hs;have HSL:Hid (sgn sa ((a.natAbs:Int) - (b.natAbs:Int))=a+b):=LEFT.out hs;have HSR:Hid (sgn sb ((b.natAbs:Int) - (a.natAbs:Int))=a+b):=RIGHT.out hs;rw [hs'];clear hs hs' SAME LEFT RIGHT;go_wp2_with fail;by_cases hlt:lv xs<lv ys
    ·refine (cmp_is (-1) (cmpI_lt hlt) _ HX4.out.1 HY4.out.1 HX4.out.2.1 HY4.out.2.1 HX4.out.2.2.1 HY4.out.2.2.1).mono ?_;rintro e w5 ⟨rfl,e5⟩;have HL:Hid (lv xs≤lv ys∧xs.length≤ys.length):=⟨by omega,len_mono HX4.out.2.1 HY4.out.2.1 HX4.out.2.2.1 (by omega)⟩;obtain ⟨⟨q0,q1,q2⟩,_⟩:=Bb.later e5;clear hlt NA p0' p1' p2' p3' p4' p5' HSL;go_wp2_with fail;refine (NB.out _ (xt X1 e5)).mono ?_;rintro e w6 ⟨rfl,e6⟩;go_wp2_with fail;refine (subD_any _ ((HY4.out.1.later e5).later e6) ((HX4.out.1.later e5).later e6) HY4.out.2.1 HX4.out.2.1 (by have:=HY4.out.2.2.2.2;omega) HL.out.2 HL.out.1).mono ?_;rintro e w7 ⟨v7,fs,rfl,F1,F2,F3,_,e7,kq,cq,rfl⟩;have FV:Hid (lv fs=lv ys - lv xs):=F3;clear F3;go_wp2_with fail;refine (MK.out _ _ _ _ F1 F2).mono ?_;rintro e w8 ⟨f0,f1,f2,f3,f4,rfl,hz7,e8⟩;rw [FV.out,HX4.out.2.2.2.1,HY4.out.2.2.2.1,HSR.out] at hz7;have B7:=(((Br.later e5).later e6).later e7).later e8;have HZ:Hid (ZV (set3 w8 (w.heap.size+1+1) (.int .i64 f0) (.bool f1) (.slice f2 f3 f4)) (.agg #[.int .i64 f0,.bool f1,.slice f2 f3 f4]) (a+b)∧Ext w (set3 w8 (w.heap.size+1+1) (.int .i64 f0) (.bool f1) (.slice f2 f3 f4))):=⟨hz7.set3 B7 _ _ _,Ext.set3 (xt (xt (xt (xt X1 e5) e6) e7) e8) (by omega) _ _ _⟩;obtain ⟨⟨r0,r1,r2⟩,s0,s1,s2⟩:=B7;clear hz7 F1 F2 q0 q1 q2;go_wp2_with fail;exact bodyPost_ret (v:=.agg #[.int .i64 f0,.bool f1,.slice f2 f3 f4]) (by simp [results,Tryd.results59,go_sem,r0,r1,r2]) rfl ⟨_,rfl,HZ.out.1,HZ.out.2⟩
    ·refine (cmpD_any _ HX4.out.1 HY4.out.1 HX4.out.2.1 HY4.out.2.1 HX4.out.2.2.1 HY4.out.2.2.1).mono ?_;rintro e w5 ⟨rfl,e5⟩;obtain ⟨cc,hcc,cc0⟩:∃ c,cmpI (lv xs) (lv ys)=c∧0≤c:=⟨_,rfl,cmpI_pos hlt⟩;rw [hcc];have HL:Hid (lv ys≤lv xs∧ys.length≤xs.length):=⟨by omega,len_mono HY4.out.2.1 HX4.out.2.1 HY4.out.2.2.1 (by omega)⟩;have q0:=cell_later e5 p0';have q1:=cell_later e5 p1';have q2:=cell_later e5 p2';clear hlt NB p0' p1' p2' p3' p4' p5' HSR hcc;go_wp2_with fail;refine (NA.out _ (xt X1 e5)).mono ?_;rintro e w6 ⟨rfl,e6⟩;go_wp2_with fail;refine (subD_any _ ((HX4.out.1.later e5).later e6) ((HY4.out.1.later e5).later e6) HX4.out.2.1 HY4.out.2.1 (by have:=HX4.out.2.2.2.2;omega) HL.out.2 HL.out.1).mono ?_;rintro e w7 ⟨v7,fs,rfl,F1,F2,F3,_,e7,kq,cq,rfl⟩;have FV:Hid (lv fs=lv xs - lv ys):=F3;clear F3;go_wp2_with fail;refine (MK.out _ _ _ _ F1 F2).mono ?_;rintro e w8 ⟨f0,f1,f2,f3,f4,rfl,hz7,e8⟩;rw [FV.out,HX4.out.2.2.2.1,HY4.out.2.2.2.1,HSL.out] at hz7;have B7:=(((Br.later e5).later e6).later e7).later e8;have HZ:Hid (ZV (set3 w8 (w.heap.size+1+1) (.int .i64 f0) (.bool f1) (.slice f2 f3 f4)) (.agg #[.int .i64 f0,.bool f1,.slice f2 f3 f4]) (a+b)∧Ext w (set3 w8 (w.heap.size+1+1) (.int .i64 f0) (.bool f1) (.slice f2 f3 f4))):=⟨hz7.set3 B7 _ _ _,Ext.set3 (xt (xt (xt (xt X1 e5) e6) e7) e8) (by omega) _ _ _⟩;obtain ⟨⟨r0,r1,r2⟩,s0,s1,s2⟩:=B7;clear hz7 F1 F2 q0 q1 q2;go_wp2_with fail;exact bodyPost_ret (v:=.agg #[.int .i64 f0,.bool f1,.slice f2 f3 f4]) (by simp [results,Tryd.results59,go_sem,r0,r1,r2]) rfl ⟨_,rfl,HZ.out.1,HZ.out.2⟩
theorem add_any {va vb:Value} {a b:Int} (w:World) (ha:ZV w va a) (hb:ZV w vb b) (k:Nat) (hk:k≤100000000) (ka:(a.natAbs:Int)<1000000000 ^ k) (kb:(b.natAbs:Int)<1000000000 ^ k) :
  Calls Tryd.prog 59 #[va,vb] w fun e w'=>∃ v',e=.returned v'∧ZV w' v' (a+b)∧Ext w w':=by
 cases h:(smallB a && smallB b)
 ·exact add_big w ha hb h k hk ka kb
 ·rw [Bool.and_eq_true] at h;exact add_smallZ w ha hb h.1 h.2
def ndZ (a:Nat):Nat:=if a=0 then 1 else nd a
theorem TextOf.len {l:List UInt8} {z:Int} (h:TextOf l z) (z0:0≤z):l.length=ndZ z.toNat:=by
 unfold ndZ
 rcases h with ⟨rfl,rfl⟩ | ⟨ds,hd,rfl⟩
 ·rfl
 ·have hz:¬ z<0:=by omega
  rw [if_neg hz,List.nil_append,List.length_map,List.length_reverse];have h1:=hd.ge;have h2:=hd.lt;have hp:(0:Int)<10 ^ (ds.length - 1):=Int.pow_pos (by decide);rw [if_neg (by omega)];have e:((z.toNat:Nat):Int)=(z.natAbs:Int):=by omega
  refine (nd_eq ?_ (.inr ?_)).symm
  ·have:((z.toNat:Nat):Int)<((10 ^ ds.length:Nat):Int):=by rw [e,Int.natCast_pow];exact h2
   exact_mod_cast this
  ·have:((10 ^ (ds.length - 1):Nat):Int)≤((z.toNat:Nat):Int):=by rw [e,Int.natCast_pow];exact h1
   exact_mod_cast this
set_option maxRecDepth 4000 in
set_option maxHeartbeats 1000000 in
theorem digits_any {v:Value} {z:Int} (w:World) (h:ZV w v z) (z0:0≤z) (k:Nat) (hk:k≤1000000000) (kz:z<1000000000 ^ k) :
  Calls Tryd.prog 54 #[v] w fun e w'=>e=.returned (.int .i64 (ndZ z.toNat))∧Ext w w':=by
 obtain ⟨c0,c1,p,n,c,rfl⟩:=h.shape;have hn:decide (z<0)=false:=by simpa using z0
 have NA:Hid (∀ w2,Ext w w2→Calls Tryd.prog 52 #[.agg #[.int .i64 c0,.bool c1,.slice p n c]] w2 fun e w'=>e=.returned (.bool false)∧Ext w2 w'):=fun w2 x=>neg_is false w2 hn (h.later x);have TX:Hid (∀ w2,Ext w w2→Calls Tryd.prog 65 #[.agg #[.int .i64 c0,.bool c1,.slice p n c]] w2 fun e w'=>∃ l:List UInt8,e=.returned (.string ⟨l.toArray⟩)∧Hid (l.length=ndZ z.toNat)∧Ext w2 w'):=fun w2 x=>by
  refine (text_any w2 (h.later x) k hk (by rw [nat_ab z0];exact kz)).mono ?_;rintro e w' ⟨l,rfl,ht,hx⟩;exact ⟨l,rfl,ht.len z0,hx⟩
 have B:=Box3.made w (.int .i64 c0) (.bool c1) (.slice p n c) 69;clear h kz hn;go_enter Tryd.func54,Tryd.ntmps54;go_wp2_with fail;refine (TX.out _ (x1 _ _)).mono ?_;rintro e w1 ⟨l,rfl,hl,e1⟩;obtain ⟨⟨p0,p1,p2⟩,_⟩:=B.later e1;go_wp2_with fail;refine (NA.out _ (xt (x1 _ _) e1)).mono ?_;rintro e w2 ⟨rfl,e2⟩;clear p0 p1 p2;go_wp2_with fail;go_ret;refine ⟨ret_int ?_,xt (xt (x1 _ _) e1) e2⟩;have:=hl.out;omega
end Go.Proofs.YtnphbpmdohidcaaDoor

