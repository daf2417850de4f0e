/-
  Several texts in one: Mul, MulA, MulB, MulC, MulAll.
-/
import Derived.Test.YtogecaajnjcenaaGreatDoorMg7
import Derived.Deep.OwnRows
import Derived.Deep.QuietTactic
import Derived.BigQuiet
import Derived.Deep.RegionWith
namespace Go.Proofs.YtogecaajnjcenaaGreatDoor
open Go.RowKit
theorem info32:(Tryz.prog.info? 152).map (fun i=>(i.zero,i.size,i.bytes))=some (some (.int .u32 0),1,4):=by kernel_rfl
abbrev Own32 (w:World) (g:Nat) (fs:List Int):Prop:=w.rowIs g 152 fs.length (fun j=>.int .u32 (fs.getD j 0))
theorem Own32.zeros (w:World) (n:Nat):Own32 (w.alloc (.cells (madeCells #[.int .u32 0] n) 152)) w.heap.size (List.replicate n 0):=by
 have:=World.rowIs_made w (.int .u32 0) n 152;unfold Own32;rw [List.length_replicate];exact this.congr (fun i _=>by rw [getD_zeros])
theorem Own32.set {w:World} {g:Nat} {fs:List Int} (h:Own32 w g fs) (i:Nat) (hi:i<fs.length) (v:Int):Own32 (w.setCell ⟨g,i,none⟩ (.int .u32 v)) g (fs.set i v):=by
 have:=World.rowIs.set h i (.int .u32 v);unfold Own32;rw [List.length_set];refine this.congr (fun j _=>?_);rw [getD_set hi]
 split <;> rfl
theorem Own32.drewN {w:World} {g:Nat} {fs:List Int} (h:Own32 w g fs) (n:Nat):Own32 (w.drewN n) g fs:=World.rowIs.of_block h rfl
theorem xdN {a b:World} (h:Ext a b) (n:Nat):Ext a (b.drewN n):=⟨h.os,h.tape,h.output,h.size,h.block⟩
theorem Own32.row {w:World} {g:Nat} {fs:List Int} (h:Own32 w g fs) (hn:fs.length≤9223372036854775807):Row w (.slice (some ⟨g,0,none⟩) fs.length fs.length) fs:=
 ⟨_,fs.length,rfl,Nat.le_refl _,hn,.inr ⟨g,0,rfl,fun i hi=>by rw [Nat.zero_add];exact World.rowIs.cell h hi⟩⟩
theorem sgn_mul (a b:Int):sgn (!(decide (a<0) == decide (b<0))) ((a.natAbs:Int) * (b.natAbs:Int))=a * b:=by
 have h:∀ z:Int,((z.natAbs:Int)=z∧¬ z<0)∨((z.natAbs:Int) = -z∧z<0):=fun z=>by omega
 rcases h a with ⟨ea,ha⟩ | ⟨ea,ha⟩ <;> rcases h b with ⟨eb,hb⟩ | ⟨eb,hb⟩ <;> simp [ea,eb,ha,hb,sgn,Int.neg_mul,Int.mul_neg]
set_option maxHeartbeats 2000000 in
theorem mul_bigA {va vb:Value} {a b:Int} (w:World) (ha:ZV w va a) (hb:ZV w vb b) (sa':smallB a=false) (k:Nat) (hk:k≤1000000000) (ka:(a.natAbs:Int)<1000000000 ^ k) (kb:(b.natAbs:Int)<1000000000 ^ k) :
  Calls Tryz.prog 67 #[va,vb] w fun e w'=>∃ v',e=.returned v'∧ZV w' v' (a * b)∧Ext w w':=by
 obtain ⟨a0,a1,pa,na,ca,rfl⟩:=ha.shape;obtain ⟨b0,b1,pb,nb,cb,rfl⟩:=hb.shape;go_enter Tryz.func67,Tryz.ntmps67;go_wp2_with fail;refine (isSmall_any _ (ha.later (xa (xa (x1 _ _) _) _))).mono ?_;rintro e w1 ⟨rfl,e1⟩;have Ba:=((Box3.made w (.int .i64 a0) (.bool a1) (.slice pa na ca) 134).later (xa (x1 _ _) _)).later e1;have Bb:=((Box3.made (w.alloc (.cells #[.int .i64 a0,.bool a1,.slice pa na ca] 134)) (.int .i64 b0) (.bool b1) (.slice pb nb cb) 134).later (x1 _ _)).later e1;have Br:=(Box3.made ((w.alloc (.cells #[.int .i64 a0,.bool a1,.slice pa na ca] 134)).alloc (.cells #[.int .i64 b0,.bool b1,.slice pb nb cb] 134)) (.int .i64 0) (.bool false) (.slice none 0 0) 134).later e1;simp only [World.size_alloc] at Ba Bb Br;have ha1:=(ha.later (xa (xa (x1 _ _) _) _)).later e1;have hb1:=(hb.later (xa (xa (x1 _ _) _) _)).later e1;have X1:=xt (xa (xa (x1 _ _) _) _) e1;clear e1 ha hb;have Ba':=Ba;obtain ⟨⟨p0,p1,p2⟩,_⟩:=Ba';go_wp2_with fail;clear p0 p1 p2 sa';refine (limbs_any _ ha1).mono ?_;rintro e w2 ⟨x,rfl,hx2,e2⟩;obtain ⟨⟨q0,q1,q2⟩,_⟩:=Bb.later e2;go_wp2_with fail;refine (limbs_any _ (hb1.later e2)).mono ?_;rintro e w3 ⟨y,rfl,hy3,e3⟩;obtain ⟨xs,⟨px,cx,rfl,cx1,cx2,cx3⟩,lx,tx,vx⟩:=hx2.later e3;obtain ⟨ys,⟨py,cy,rfl,cy1,cy2,cy3⟩,ly,ty,vy⟩:=hy3;have nx:xs.length≤k:=len_le lx tx (by rw [vx];exact ka);have ny:ys.length≤k:=len_le ly ty (by rw [vy];exact kb);have Ba3:=(Ba.later e2).later e3;have Bb3:=(Bb.later e2).later e3;have Br3:=(Br.later e2).later e3;have ha3:=(ha1.later e2).later e3;have hb3:=(hb1.later e2).later e3;have X3:=xt (xt X1 e2) e3;have HV:Hid (lv xs=(a.natAbs:Int)∧lv ys=(b.natAbs:Int)):=⟨vx,vy⟩;clear hx2 vx vy ha1 hb1 e2 e3 Ba Bb Br X1 q0 q1 q2 ka kb;have hmk:=run_make_row' (P:=Tryz.prog) 132 152 (.int .u32 0) 4 Tryz.underlying132 info32 rfl .i64 .i64 (xs.length+ys.length+1) (by omega) (by omega);have ec:((xs.length+ys.length+1:Nat):Int)=(xs.length:Int)+(ys.length:Int)+1:=by omega
 rw [ec] at hmk;clear ec;go_wp2_with fail;go_loopw [53] (fun i wr=>∃ (n:Nat) (fs:List Int),n≤xs.length∧i=.int .i64 n∧Own32 wr w3.heap.size fs∧fs.length=xs.length+ys.length+1∧Lim fs∧(∀ j,n+ys.length≤j→fs.getD j 0=0)∧lv fs=lv (xs.take n) * lv ys∧Ext w3 wr) (fun i _=>xs.length - (intOf i).toNat)
 case atStart=>exact ⟨0,List.replicate (xs.length+ys.length+1) 0,Nat.zero_le _,rfl,Own32.zeros _ _,by simp,Lim.zeros _,fun j _=>getD_zeros _ j,by simp [lv_replicate,lv],x1 _ _⟩
 case round =>
  obtain ⟨n,fs,hn,rfl,ho,hfl,hlf,hz,hv,X4⟩:=hrel;by_cases hlt:n<xs.length
  ·obtain ⟨bx,ox,rfl,cx4⟩:∃ b o,px=some ⟨b,o,none⟩∧C32 w3 b o xs:=by
    rcases cx3 with ⟨_,h⟩ | h
    ·omega
    ·exact h
   have hst:=MulAt.start (xs:=xs) (i:=n) hfl hlf hz hv;have HS:Hid _:=hst;clear hst hz hv hfl hlf;go_wp2_with fail;go_loopw [11,58] (fun c j wq=>∃ (m:Nat) (gs:List Int) (cc:Int),m≤ys.length∧j=.int .i64 m∧c=.int .u64 cc∧Own32 wq w3.heap.size gs∧MulAt xs ys gs n m cc∧Ext w3 wq) (fun _ j _=>ys.length - (intOf j).toNat)
   case atStart=>exact ⟨0,fs,0,Nat.zero_le _,rfl,rfl,ho,HS.out,X4⟩
   case round =>
    obtain ⟨m,gs,cc,hm,rfl,rfl,hq,hM,X5⟩:=hrel;clear ho HS X4;by_cases hmlt:m<ys.length
    ·obtain ⟨by1,oy,rfl,cy4⟩:∃ b o,py=some ⟨b,o,none⟩∧C32 w3 b o ys:=by
      rcases cy3 with ⟨_,h⟩ | h
      ·omega
      ·exact h
     have HM:=hM;obtain ⟨m1,m2,m3,m4,m5,_⟩:=hM;obtain ⟨x,ex⟩:∃ x,xs.getD n 0=x:=⟨_,rfl⟩;obtain ⟨y,ey⟩:∃ y,ys.getD m 0=y:=⟨_,rfl⟩;obtain ⟨f,ef⟩:∃ f,gs.getD (n+m) 0=f:=⟨_,rfl⟩;have kx:=(cx4.later X5) n hlt;have ky:=(cy4.later X5) m hmlt;have kf:=World.rowIs.cell hq (i:=n+m) (by omega);have kz:=World.rowIs.frozen hq (n+m);rw [ex] at kx;rw [ey] at ky;rw [ef] at kf;obtain ⟨x0,x1'⟩:=lx.getD n;obtain ⟨y0,y1⟩:=ly.getD m;obtain ⟨f0,f1⟩:=m2.getD (n+m);rw [ex] at x0 x1';rw [ey] at y0 y1;rw [ef] at f0 f1;obtain ⟨s0,s1,s2⟩:=mul_sum x0 x1' y0 y1 f0 f1 m4 m5;have HN:Hid (MulAt xs ys (gs.set (n+m) ((f+x * y+cc) % 1000000000)) n (m+1) ((f+x * y+cc) / 1000000000)):=HM.step hlt hmlt lx ly ex ey ef;have HQ:Hid (Own32 wr w3.heap.size gs∧n+m<gs.length):=⟨hq,by omega⟩;clear HM ex ey ef hq m1 m3 m2 cx3 cy3 cx4 cy4 lx ly tx ty hmk ha3 hb3 Ba3 Bb3 Br3;go_wp2_with fail;go_quiet (fail)
     go_wp2
     go_roundw
     case rel=>exact ⟨m+1,_,_,by omega,by go_num,rfl,(HQ.out.1.drewN _).set _ HQ.out.2 _,HN.out,xset (xdN X5 _) (Nat.le_refl _) _⟩
     case measure=>simp [intOf];omega
    ·obtain rfl:m=ys.length:=(by omega);have hM':=hM;obtain ⟨m1,m2,m3,m4,m5,_⟩:=hM';have kf:=World.rowIs.cell hq (i:=n+ys.length) (by omega);have kz:=World.rowIs.frozen hq (n+ys.length);have HN:=hM.close hlt;have HC:Hid (∃ fs',fs'=gs.set (n+ys.length) cc∧fs'.length=xs.length+ys.length+1∧Lim fs'∧(∀ j,(n+1)+ys.length≤j→fs'.getD j 0=0)∧lv fs'=lv (xs.take (n+1)) * lv ys):=⟨_,rfl,HN⟩;have HQ:Hid (Own32 wr w3.heap.size gs∧n+ys.length<gs.length):=⟨hq,by omega⟩;clear HN hM hq m3 m2 cx3 cy3 cx4 lx ly tx ty hmk ha3 hb3 Ba3 Bb3 Br3
     go_wp2
     go_roundw
     case rel =>
      obtain ⟨fs',ef,c1,c2,c3,c4⟩:=HC.out;exact ⟨n+1,fs',by omega,by go_num,by rw [ef];exact HQ.out.1.set _ HQ.out.2 _,c1,c2,c3,c4,xset X5 (Nat.le_refl _) _⟩
     case measure=>simp [intOf];omega
  ·obtain rfl:n=xs.length:=by omega
   have hv':lv fs=(a.natAbs:Int) * (b.natAbs:Int):=by
    rw [hv,List.take_length,HV.out.1,HV.out.2]
   have R4:=ho.row (by omega);rw [hfl] at R4;have HR:Hid (Row wr (.slice (some ⟨w3.heap.size,0,none⟩) (xs.length+ys.length+1) (xs.length+ys.length+1)) fs∧Lim fs):=⟨R4,hlf⟩;have Ba4:=Ba3.later X4;have Bb4:=Bb3.later X4;have Br4:=Br3.later X4;have ha4:=ha3.later X4;have hb4:=hb3.later X4;have X5:=xt X3 X4;have Ba5:=Ba4;have Bb5:=Bb4;obtain ⟨⟨p0,p1,p2⟩,_⟩:=Ba5;obtain ⟨⟨q0,q1,q2⟩,_⟩:=Bb5;have HP:Hid (sgn (!(decide (a<0) == decide (b<0))) (lv fs)=a * b):=by rw [hv'];exact sgn_mul a b
   clear R4 hv hv' hz ho hfl hlf cx3 cy3 lx ly tx ty hmk ha3 hb3 Ba3 Bb3 Br3 HV X3 X4;go_wp2_with fail;go_region_with (first
    | (go_at_call_of 98 (Value.agg #[.int .i64 a0,.bool a1,.slice pa na ca]);refine (neg_any (z:=a) _ ?_).mono ?_;(exact ha4.later (by first | exact xr _ | exact xd (xr _)));rintro e w4 ⟨rfl,e4⟩;obtain ⟨⟨q0',q1',q2'⟩,_⟩:=Bb4.later (xt (xd (xr _)) e4))
    | (go_at_call_of 98 (Value.agg #[.int .i64 b0,.bool b1,.slice pb nb cb]);refine (neg_any (z:=b) _ ?_).mono ?_;(exact hb4.later (xt (xd (xr _)) (by assumption)));rintro e w5 ⟨rfl,e5⟩)
    | (go_at_call 100;refine (make_any _ _ (HR.out.1.later (xt (xt (xd (xr _)) (by assumption)) (by assumption))) HR.out.2).mono ?_;rintro e w6 ⟨v',rfl,hz6,e6⟩;obtain ⟨a0',a1',p',n',cap',rfl⟩:=hz6.shape;have X6:=xt (xt (xt (xd (xr wr)) (by assumption)) (by assumption)) e6;have B6:=Br4.later X6;obtain ⟨⟨r0,r1,r2⟩,s0,s1,s2⟩:=B6))
   all_goals
    go_wp2
    exact bodyPost_ret (v:=.agg #[.int .i64 a0',.bool a1',.slice p' n' cap']) (by simp [results,Tryz.results67,go_sem,r0,r1,r2]) rfl ⟨_,rfl,by rw [← HP.out];exact hz6.set3 (Br4.later X6) _ _ _,Ext.set3 (xt X5 X6) (by omega) _ _ _⟩
theorem mul_small (a b x y:Int) (hx:(a.natAbs:Int)=x) (hy:(b.natAbs:Int)=y) (hp:x=0∨y≤999999999999999999 / x) : -1000000000000000000<a * b∧a * b<1000000000000000000:=by
 have h:x * y≤999999999999999999:=by
  rcases hp with rfl | hp
  ·simp
  ·by_cases h0:x=0
   ·subst h0;simp
   ·have h1:x * y≤x * (999999999999999999 / x):=Int.mul_le_mul_of_nonneg_left hp (by omega);have h2:x * (999999999999999999 / x)≤999999999999999999:=Int.mul_ediv_self_le h0;omega
 have h3:(((a * b).natAbs:Nat):Int)=x * y:=by rw [Int.natAbs_mul,Int.natCast_mul,hx,hy]
 omega
set_option maxHeartbeats 2000000 in
theorem mul_fast {va vb:Value} {a b:Int} (w:World) (ha:ZV w va a) (hb:ZV w vb b) (sa':smallB a=true) (sb':smallB b=true) (hp:(a.natAbs:Int)=0∨(b.natAbs:Int)≤999999999999999999 / (a.natAbs:Int)) :
  Calls Tryz.prog 67 #[va,vb] w fun e w'=>∃ v',e=.returned v'∧ZV w' v' (a * b)∧Ext w w':=by
 obtain ⟨s1,s2,rfl⟩:=ha.small_of sa';obtain ⟨t1,t2,rfl⟩:=hb.small_of sb';obtain ⟨x,hx⟩:∃ x,(a.natAbs:Int)=x:=⟨_,rfl⟩;obtain ⟨y,hy⟩:∃ y,(b.natAbs:Int)=y:=⟨_,rfl⟩;have HX:Hid _:=hx;have HY:Hid _:=hy;rw [hx,hy] at hp;obtain ⟨m1,m2⟩:=mul_small a b x y hx hy hp;have x0:0≤x:=by omega
 have x1':x<1000000000000000000:=by omega
 have y0:0≤y:=by omega
 have y1':y<1000000000000000000:=by omega
 clear hx hy;go_enter Tryz.func67,Tryz.ntmps67;go_wp2_with fail;refine (isSmall_any _ (ha.later (xa (xa (x1 _ _) _) _))).mono ?_;rintro e w1 ⟨rfl,e1⟩;have Ba:=((Box3.made w (.int .i64 a) (.bool false) (.slice none 0 0) 134).later (xa (x1 _ _) _)).later e1;have Bb:=((Box3.made (w.alloc (.cells #[.int .i64 a,.bool false,.slice none 0 0] 134)) (.int .i64 b) (.bool false) (.slice none 0 0) 134).later (x1 _ _)).later e1;have Br:=(Box3.made ((w.alloc (.cells #[.int .i64 a,.bool false,.slice none 0 0] 134)).alloc (.cells #[.int .i64 b,.bool false,.slice none 0 0] 134)) (.int .i64 0) (.bool false) (.slice none 0 0) 134).later e1;simp only [World.size_alloc] at Ba Bb Br;have ha1:=(ha.later (xa (xa (x1 _ _) _) _)).later e1;have hb1:=(hb.later (xa (xa (x1 _ _) _) _)).later e1;have X1:=xt (xa (xa (x1 _ _) _) _) e1;clear e1 ha hb;have Bb':=Bb;obtain ⟨⟨p0,p1,p2⟩,_⟩:=Bb';go_wp2_with fail;clear p0 p1 p2;refine (isSmall_any _ hb1).mono ?_;rintro e w1b ⟨rfl,e1b⟩;replace Ba:=Ba.later e1b;replace Bb:=Bb.later e1b;replace Br:=Br.later e1b;replace ha1:=ha1.later e1b;replace hb1:=hb1.later e1b;replace X1:=xt X1 e1b;clear e1b;have Ba':=Ba;have Bb':=Bb;obtain ⟨⟨p0,p1,p2⟩,_⟩:=Ba';obtain ⟨⟨q0,q1,q2⟩,_⟩:=Bb';go_wp2_with fail;refine (abs64_eq a x _ s1 s2 HX.out).mono ?_;rintro e w' ⟨rfl,hw⟩;subst hw;go_wp2_with fail;refine (abs64_eq b y _ t1 t2 HY.out).mono ?_;rintro e w' ⟨rfl,hw⟩;subst hw;have Hz:=(ZV.small (w:=w') m1 m2).set3 Br (.int .i64 (a * b)) (.bool false) (.slice none 0 0);have Hx:=Ext.set3 (b:=w.heap.size+1+1) X1 (by omega) (.int .i64 (a * b)) (.bool false) (.slice none 0 0);obtain ⟨⟨r0,r1,r2⟩,f0,f1,f2⟩:=Br;by_cases hx0:x=0
 ·have hx0':(x == 0)=true:=by rw [hx0];rfl
  clear hx0
  go_wp2
  exact bodyPost_ret (v:=zS (a * b)) (by simp [results,Tryz.results67,go_sem,r0,r1,r2]) rfl ⟨_,rfl,Hz,Hx⟩
 ·have hx0':(x == 0)=false:=by rw [beq_eq_false_iff_ne];exact hx0
  have hx2:0<x:=by omega
  have hp':y≤999999999999999999 / x:=hp.resolve_left hx0;clear hx0 hp
  go_wp2
  exact bodyPost_ret (v:=zS (a * b)) (by simp [results,Tryz.results67,go_sem,r0,r1,r2]) rfl ⟨_,rfl,Hz,Hx⟩
set_option maxHeartbeats 2000000 in
theorem mul_bigB {va vb:Value} {a b:Int} (w:World) (ha:ZV w va a) (hb:ZV w vb b) (sa':smallB a=true) (sb':smallB b=false) (k:Nat) (hk:k≤1000000000) (ka:(a.natAbs:Int)<1000000000 ^ k) (kb:(b.natAbs:Int)<1000000000 ^ k) :
  Calls Tryz.prog 67 #[va,vb] w fun e w'=>∃ v',e=.returned v'∧ZV w' v' (a * b)∧Ext w w':=by
 obtain ⟨a0,a1,pa,na,ca,rfl⟩:=ha.shape;obtain ⟨b0,b1,pb,nb,cb,rfl⟩:=hb.shape;go_enter Tryz.func67,Tryz.ntmps67;go_wp2_with fail;refine (isSmall_any _ (ha.later (xa (xa (x1 _ _) _) _))).mono ?_;rintro e w1 ⟨rfl,e1⟩;have Ba:=((Box3.made w (.int .i64 a0) (.bool a1) (.slice pa na ca) 134).later (xa (x1 _ _) _)).later e1;have Bb:=((Box3.made (w.alloc (.cells #[.int .i64 a0,.bool a1,.slice pa na ca] 134)) (.int .i64 b0) (.bool b1) (.slice pb nb cb) 134).later (x1 _ _)).later e1;have Br:=(Box3.made ((w.alloc (.cells #[.int .i64 a0,.bool a1,.slice pa na ca] 134)).alloc (.cells #[.int .i64 b0,.bool b1,.slice pb nb cb] 134)) (.int .i64 0) (.bool false) (.slice none 0 0) 134).later e1;simp only [World.size_alloc] at Ba Bb Br;have ha1:=(ha.later (xa (xa (x1 _ _) _) _)).later e1;have hb1:=(hb.later (xa (xa (x1 _ _) _) _)).later e1;have X1:=xt (xa (xa (x1 _ _) _) _) e1;clear e1 ha hb;have Bb':=Bb;obtain ⟨⟨p0,p1,p2⟩,_⟩:=Bb';go_wp2_with fail;clear p0 p1 p2;refine (isSmall_any _ hb1).mono ?_;rintro e w1b ⟨rfl,e1b⟩;replace Ba:=Ba.later e1b;replace Bb:=Bb.later e1b;replace Br:=Br.later e1b;replace ha1:=ha1.later e1b;replace hb1:=hb1.later e1b;replace X1:=xt X1 e1b;clear e1b;have Ba':=Ba;obtain ⟨⟨p0,p1,p2⟩,_⟩:=Ba';go_wp2_with fail;clear p0 p1 p2 sa' sb';refine (limbs_any _ ha1).mono ?_;rintro e w2 ⟨x,rfl,hx2,e2⟩;obtain ⟨⟨q0,q1,q2⟩,_⟩:=Bb.later e2;go_wp2_with fail;refine (limbs_any _ (hb1.later e2)).mono ?_;rintro e w3 ⟨y,rfl,hy3,e3⟩;obtain ⟨xs,⟨px,cx,rfl,cx1,cx2,cx3⟩,lx,tx,vx⟩:=hx2.later e3;obtain ⟨ys,⟨py,cy,rfl,cy1,cy2,cy3⟩,ly,ty,vy⟩:=hy3;have nx:xs.length≤k:=len_le lx tx (by rw [vx];exact ka);have ny:ys.length≤k:=len_le ly ty (by rw [vy];exact kb);have Ba3:=(Ba.later e2).later e3;have Bb3:=(Bb.later e2).later e3;have Br3:=(Br.later e2).later e3;have ha3:=(ha1.later e2).later e3;have hb3:=(hb1.later e2).later e3;have X3:=xt (xt X1 e2) e3;have HV:Hid (lv xs=(a.natAbs:Int)∧lv ys=(b.natAbs:Int)):=⟨vx,vy⟩;clear hx2 vx vy ha1 hb1 e2 e3 Ba Bb Br X1 q0 q1 q2 ka kb;have hmk:=run_make_row' (P:=Tryz.prog) 132 152 (.int .u32 0) 4 Tryz.underlying132 info32 rfl .i64 .i64 (xs.length+ys.length+1) (by omega) (by omega);have ec:((xs.length+ys.length+1:Nat):Int)=(xs.length:Int)+(ys.length:Int)+1:=by omega
 rw [ec] at hmk;clear ec;go_wp2_with fail;go_loopw [53] (fun i wr=>∃ (n:Nat) (fs:List Int),n≤xs.length∧i=.int .i64 n∧Own32 wr w3.heap.size fs∧fs.length=xs.length+ys.length+1∧Lim fs∧(∀ j,n+ys.length≤j→fs.getD j 0=0)∧lv fs=lv (xs.take n) * lv ys∧Ext w3 wr) (fun i _=>xs.length - (intOf i).toNat)
 case atStart=>exact ⟨0,List.replicate (xs.length+ys.length+1) 0,Nat.zero_le _,rfl,Own32.zeros _ _,by simp,Lim.zeros _,fun j _=>getD_zeros _ j,by simp [lv_replicate,lv],x1 _ _⟩
 case round =>
  obtain ⟨n,fs,hn,rfl,ho,hfl,hlf,hz,hv,X4⟩:=hrel;by_cases hlt:n<xs.length
  ·obtain ⟨bx,ox,rfl,cx4⟩:∃ b o,px=some ⟨b,o,none⟩∧C32 w3 b o xs:=by
    rcases cx3 with ⟨_,h⟩ | h
    ·omega
    ·exact h
   have hst:=MulAt.start (xs:=xs) (i:=n) hfl hlf hz hv;have HS:Hid _:=hst;clear hst hz hv hfl hlf;go_wp2_with fail;go_loopw [11,58] (fun c j wq=>∃ (m:Nat) (gs:List Int) (cc:Int),m≤ys.length∧j=.int .i64 m∧c=.int .u64 cc∧Own32 wq w3.heap.size gs∧MulAt xs ys gs n m cc∧Ext w3 wq) (fun _ j _=>ys.length - (intOf j).toNat)
   case atStart=>exact ⟨0,fs,0,Nat.zero_le _,rfl,rfl,ho,HS.out,X4⟩
   case round =>
    obtain ⟨m,gs,cc,hm,rfl,rfl,hq,hM,X5⟩:=hrel;clear ho HS X4;by_cases hmlt:m<ys.length
    ·obtain ⟨by1,oy,rfl,cy4⟩:∃ b o,py=some ⟨b,o,none⟩∧C32 w3 b o ys:=by
      rcases cy3 with ⟨_,h⟩ | h
      ·omega
      ·exact h
     have HM:=hM;obtain ⟨m1,m2,m3,m4,m5,_⟩:=hM;obtain ⟨x,ex⟩:∃ x,xs.getD n 0=x:=⟨_,rfl⟩;obtain ⟨y,ey⟩:∃ y,ys.getD m 0=y:=⟨_,rfl⟩;obtain ⟨f,ef⟩:∃ f,gs.getD (n+m) 0=f:=⟨_,rfl⟩;have kx:=(cx4.later X5) n hlt;have ky:=(cy4.later X5) m hmlt;have kf:=World.rowIs.cell hq (i:=n+m) (by omega);have kz:=World.rowIs.frozen hq (n+m);rw [ex] at kx;rw [ey] at ky;rw [ef] at kf;obtain ⟨x0,x1'⟩:=lx.getD n;obtain ⟨y0,y1⟩:=ly.getD m;obtain ⟨f0,f1⟩:=m2.getD (n+m);rw [ex] at x0 x1';rw [ey] at y0 y1;rw [ef] at f0 f1;obtain ⟨s0,s1,s2⟩:=mul_sum x0 x1' y0 y1 f0 f1 m4 m5;have HN:Hid (MulAt xs ys (gs.set (n+m) ((f+x * y+cc) % 1000000000)) n (m+1) ((f+x * y+cc) / 1000000000)):=HM.step hlt hmlt lx ly ex ey ef;have HQ:Hid (Own32 wr w3.heap.size gs∧n+m<gs.length):=⟨hq,by omega⟩;clear HM ex ey ef hq m1 m3 m2 cx3 cy3 cx4 cy4 lx ly tx ty hmk ha3 hb3 Ba3 Bb3 Br3;go_wp2_with fail;go_quiet (fail)
     go_wp2
     go_roundw
     case rel=>exact ⟨m+1,_,_,by omega,by go_num,rfl,(HQ.out.1.drewN _).set _ HQ.out.2 _,HN.out,xset (xdN X5 _) (Nat.le_refl _) _⟩
     case measure=>simp [intOf];omega
    ·obtain rfl:m=ys.length:=(by omega);have hM':=hM;obtain ⟨m1,m2,m3,m4,m5,_⟩:=hM';have kf:=World.rowIs.cell hq (i:=n+ys.length) (by omega);have kz:=World.rowIs.frozen hq (n+ys.length);have HN:=hM.close hlt;have HC:Hid (∃ fs',fs'=gs.set (n+ys.length) cc∧fs'.length=xs.length+ys.length+1∧Lim fs'∧(∀ j,(n+1)+ys.length≤j→fs'.getD j 0=0)∧lv fs'=lv (xs.take (n+1)) * lv ys):=⟨_,rfl,HN⟩;have HQ:Hid (Own32 wr w3.heap.size gs∧n+ys.length<gs.length):=⟨hq,by omega⟩;clear HN hM hq m3 m2 cx3 cy3 cx4 lx ly tx ty hmk ha3 hb3 Ba3 Bb3 Br3
     go_wp2
     go_roundw
     case rel =>
      obtain ⟨fs',ef,c1,c2,c3,c4⟩:=HC.out;exact ⟨n+1,fs',by omega,by go_num,by rw [ef];exact HQ.out.1.set _ HQ.out.2 _,c1,c2,c3,c4,xset X5 (Nat.le_refl _) _⟩
     case measure=>simp [intOf];omega
  ·obtain rfl:n=xs.length:=by omega
   have hv':lv fs=(a.natAbs:Int) * (b.natAbs:Int):=by
    rw [hv,List.take_length,HV.out.1,HV.out.2]
   have R4:=ho.row (by omega);rw [hfl] at R4;have HR:Hid (Row wr (.slice (some ⟨w3.heap.size,0,none⟩) (xs.length+ys.length+1) (xs.length+ys.length+1)) fs∧Lim fs):=⟨R4,hlf⟩;have Ba4:=Ba3.later X4;have Bb4:=Bb3.later X4;have Br4:=Br3.later X4;have ha4:=ha3.later X4;have hb4:=hb3.later X4;have X5:=xt X3 X4;have Ba5:=Ba4;have Bb5:=Bb4;obtain ⟨⟨p0,p1,p2⟩,_⟩:=Ba5;obtain ⟨⟨q0,q1,q2⟩,_⟩:=Bb5;have HP:Hid (sgn (!(decide (a<0) == decide (b<0))) (lv fs)=a * b):=by rw [hv'];exact sgn_mul a b
   clear R4 hv hv' hz ho hfl hlf cx3 cy3 lx ly tx ty hmk ha3 hb3 Ba3 Bb3 Br3 HV X3 X4;go_wp2_with fail;go_region_with (first
    | (go_at_call_of 98 (Value.agg #[.int .i64 a0,.bool a1,.slice pa na ca]);refine (neg_any (z:=a) _ ?_).mono ?_;(exact ha4.later (by first | exact xr _ | exact xd (xr _)));rintro e w4 ⟨rfl,e4⟩;obtain ⟨⟨q0',q1',q2'⟩,_⟩:=Bb4.later (xt (xd (xr _)) e4))
    | (go_at_call_of 98 (Value.agg #[.int .i64 b0,.bool b1,.slice pb nb cb]);refine (neg_any (z:=b) _ ?_).mono ?_;(exact hb4.later (xt (xd (xr _)) (by assumption)));rintro e w5 ⟨rfl,e5⟩)
    | (go_at_call 100;refine (make_any _ _ (HR.out.1.later (xt (xt (xd (xr _)) (by assumption)) (by assumption))) HR.out.2).mono ?_;rintro e w6 ⟨v',rfl,hz6,e6⟩;obtain ⟨a0',a1',p',n',cap',rfl⟩:=hz6.shape;have X6:=xt (xt (xt (xd (xr wr)) (by assumption)) (by assumption)) e6;have B6:=Br4.later X6;obtain ⟨⟨r0,r1,r2⟩,s0,s1,s2⟩:=B6))
   all_goals
    go_wp2
    exact bodyPost_ret (v:=.agg #[.int .i64 a0',.bool a1',.slice p' n' cap']) (by simp [results,Tryz.results67,go_sem,r0,r1,r2]) rfl ⟨_,rfl,by rw [← HP.out];exact hz6.set3 (Br4.later X6) _ _ _,Ext.set3 (xt X5 X6) (by omega) _ _ _⟩
set_option maxHeartbeats 2000000 in
theorem mul_bigAB {va vb:Value} {a b:Int} (w:World) (ha:ZV w va a) (hb:ZV w vb b) (sa':smallB a=true) (sb':smallB b=true) (hp0:(((a.natAbs:Int)) == 0)=false) (hp:999999999999999999 / (a.natAbs:Int)<(b.natAbs:Int)) (k:Nat) (hk:k≤1000000000) (ka:(a.natAbs:Int)<1000000000 ^ k) (kb:(b.natAbs:Int)<1000000000 ^ k) :
  Calls Tryz.prog 67 #[va,vb] w fun e w'=>∃ v',e=.returned v'∧ZV w' v' (a * b)∧Ext w w':=by
 obtain ⟨s1,s2,rfl⟩:=ha.small_of sa';obtain ⟨t1,t2,rfl⟩:=hb.small_of sb';obtain ⟨x,hx⟩:∃ x,(a.natAbs:Int)=x:=⟨_,rfl⟩;obtain ⟨y,hy⟩:∃ y,(b.natAbs:Int)=y:=⟨_,rfl⟩;have HX:Hid _:=hx;have HY:Hid _:=hy;have HK:Hid ((a.natAbs:Int)<1000000000 ^ k∧(b.natAbs:Int)<1000000000 ^ k):=⟨ka,kb⟩;rw [hx] at hp0 hp;rw [hy] at hp;have x0:0<x:=by rw [beq_eq_false_iff_ne] at hp0;omega
 have x1':x<1000000000000000000:=by omega
 have y0:0≤y:=by omega
 have y1':y<1000000000000000000:=by omega
 clear hx hy ka kb;go_enter Tryz.func67,Tryz.ntmps67;go_wp2_with fail;refine (isSmall_any _ (ha.later (xa (xa (x1 _ _) _) _))).mono ?_;rintro e w1 ⟨rfl,e1⟩;have Ba:=((Box3.made w (.int .i64 a) (.bool false) (.slice none 0 0) 134).later (xa (x1 _ _) _)).later e1;have Bb:=((Box3.made (w.alloc (.cells #[.int .i64 a,.bool false,.slice none 0 0] 134)) (.int .i64 b) (.bool false) (.slice none 0 0) 134).later (x1 _ _)).later e1;have Br:=(Box3.made ((w.alloc (.cells #[.int .i64 a,.bool false,.slice none 0 0] 134)).alloc (.cells #[.int .i64 b,.bool false,.slice none 0 0] 134)) (.int .i64 0) (.bool false) (.slice none 0 0) 134).later e1;simp only [World.size_alloc] at Ba Bb Br;have ha1:=(ha.later (xa (xa (x1 _ _) _) _)).later e1;have hb1:=(hb.later (xa (xa (x1 _ _) _) _)).later e1;have X1:=xt (xa (xa (x1 _ _) _) _) e1;clear e1 ha hb;have Bb':=Bb;obtain ⟨⟨p0,p1,p2⟩,_⟩:=Bb';go_wp2_with fail;clear p0 p1 p2;refine (isSmall_any _ hb1).mono ?_;rintro e w1b ⟨rfl,e1b⟩;replace Ba:=Ba.later e1b;replace Bb:=Bb.later e1b;replace Br:=Br.later e1b;replace ha1:=ha1.later e1b;replace hb1:=hb1.later e1b;replace X1:=xt X1 e1b;clear e1b;have Ba':=Ba;have Bb':=Bb;obtain ⟨⟨p0,p1,p2⟩,_⟩:=Ba';obtain ⟨⟨q0,q1,q2⟩,_⟩:=Bb';go_wp2_with fail;refine (abs64_eq a x _ s1 s2 HX.out).mono ?_;rintro e w' ⟨rfl,hw⟩;subst hw;go_wp2_with fail;refine (abs64_eq b y _ t1 t2 HY.out).mono ?_;rintro e w' ⟨rfl,hw⟩;subst hw;go_wp2_with fail;obtain ⟨ka,kb⟩:=HK.out;clear p0 p1 p2 q0 q1 q2 sa' sb' hp0 hp x0 x1' y0 y1' HX HY HK;refine (limbs_any _ ha1).mono ?_;rintro e w2 ⟨x,rfl,hx2,e2⟩;obtain ⟨⟨q0,q1,q2⟩,_⟩:=Bb.later e2;go_wp2_with fail;refine (limbs_any _ (hb1.later e2)).mono ?_;rintro e w3 ⟨y,rfl,hy3,e3⟩;obtain ⟨xs,⟨px,cx,rfl,cx1,cx2,cx3⟩,lx,tx,vx⟩:=hx2.later e3;obtain ⟨ys,⟨py,cy,rfl,cy1,cy2,cy3⟩,ly,ty,vy⟩:=hy3;have nx:xs.length≤k:=len_le lx tx (by rw [vx];exact ka);have ny:ys.length≤k:=len_le ly ty (by rw [vy];exact kb);have Ba3:=(Ba.later e2).later e3;have Bb3:=(Bb.later e2).later e3;have Br3:=(Br.later e2).later e3;have ha3:=(ha1.later e2).later e3;have hb3:=(hb1.later e2).later e3;have X3:=xt (xt X1 e2) e3;have HV:Hid (lv xs=(a.natAbs:Int)∧lv ys=(b.natAbs:Int)):=⟨vx,vy⟩;clear hx2 vx vy ha1 hb1 e2 e3 Ba Bb Br X1 q0 q1 q2 ka kb;have hmk:=run_make_row' (P:=Tryz.prog) 132 152 (.int .u32 0) 4 Tryz.underlying132 info32 rfl .i64 .i64 (xs.length+ys.length+1) (by omega) (by omega);have ec:((xs.length+ys.length+1:Nat):Int)=(xs.length:Int)+(ys.length:Int)+1:=by omega
 rw [ec] at hmk;clear ec;go_wp2_with fail;go_loopw [53] (fun i wr=>∃ (n:Nat) (fs:List Int),n≤xs.length∧i=.int .i64 n∧Own32 wr w3.heap.size fs∧fs.length=xs.length+ys.length+1∧Lim fs∧(∀ j,n+ys.length≤j→fs.getD j 0=0)∧lv fs=lv (xs.take n) * lv ys∧Ext w3 wr) (fun i _=>xs.length - (intOf i).toNat)
 case atStart=>exact ⟨0,List.replicate (xs.length+ys.length+1) 0,Nat.zero_le _,rfl,Own32.zeros _ _,by simp,Lim.zeros _,fun j _=>getD_zeros _ j,by simp [lv_replicate,lv],x1 _ _⟩
 case round =>
  obtain ⟨n,fs,hn,rfl,ho,hfl,hlf,hz,hv,X4⟩:=hrel;by_cases hlt:n<xs.length
  ·obtain ⟨bx,ox,rfl,cx4⟩:∃ b o,px=some ⟨b,o,none⟩∧C32 w3 b o xs:=by
    rcases cx3 with ⟨_,h⟩ | h
    ·omega
    ·exact h
   have hst:=MulAt.start (xs:=xs) (i:=n) hfl hlf hz hv;have HS:Hid _:=hst;clear hst hz hv hfl hlf;go_wp2_with fail;go_loopw [11,58] (fun c j wq=>∃ (m:Nat) (gs:List Int) (cc:Int),m≤ys.length∧j=.int .i64 m∧c=.int .u64 cc∧Own32 wq w3.heap.size gs∧MulAt xs ys gs n m cc∧Ext w3 wq) (fun _ j _=>ys.length - (intOf j).toNat)
   case atStart=>exact ⟨0,fs,0,Nat.zero_le _,rfl,rfl,ho,HS.out,X4⟩
   case round =>
    obtain ⟨m,gs,cc,hm,rfl,rfl,hq,hM,X5⟩:=hrel;clear ho HS X4;by_cases hmlt:m<ys.length
    ·obtain ⟨by1,oy,rfl,cy4⟩:∃ b o,py=some ⟨b,o,none⟩∧C32 w3 b o ys:=by
      rcases cy3 with ⟨_,h⟩ | h
      ·omega
      ·exact h
     have HM:=hM;obtain ⟨m1,m2,m3,m4,m5,_⟩:=hM;obtain ⟨x,ex⟩:∃ x,xs.getD n 0=x:=⟨_,rfl⟩;obtain ⟨y,ey⟩:∃ y,ys.getD m 0=y:=⟨_,rfl⟩;obtain ⟨f,ef⟩:∃ f,gs.getD (n+m) 0=f:=⟨_,rfl⟩;have kx:=(cx4.later X5) n hlt;have ky:=(cy4.later X5) m hmlt;have kf:=World.rowIs.cell hq (i:=n+m) (by omega);have kz:=World.rowIs.frozen hq (n+m);rw [ex] at kx;rw [ey] at ky;rw [ef] at kf;obtain ⟨x0,x1'⟩:=lx.getD n;obtain ⟨y0,y1⟩:=ly.getD m;obtain ⟨f0,f1⟩:=m2.getD (n+m);rw [ex] at x0 x1';rw [ey] at y0 y1;rw [ef] at f0 f1;obtain ⟨s0,s1,s2⟩:=mul_sum x0 x1' y0 y1 f0 f1 m4 m5;have HN:Hid (MulAt xs ys (gs.set (n+m) ((f+x * y+cc) % 1000000000)) n (m+1) ((f+x * y+cc) / 1000000000)):=HM.step hlt hmlt lx ly ex ey ef;have HQ:Hid (Own32 wr w3.heap.size gs∧n+m<gs.length):=⟨hq,by omega⟩;clear HM ex ey ef hq m1 m3 m2 cx3 cy3 cx4 cy4 lx ly tx ty hmk ha3 hb3 Ba3 Bb3 Br3;go_wp2_with fail;go_quiet (fail)
     go_wp2
     go_roundw
     case rel=>exact ⟨m+1,_,_,by omega,by go_num,rfl,(HQ.out.1.drewN _).set _ HQ.out.2 _,HN.out,xset (xdN X5 _) (Nat.le_refl _) _⟩
     case measure=>simp [intOf];omega
    ·obtain rfl:m=ys.length:=(by omega);have hM':=hM;obtain ⟨m1,m2,m3,m4,m5,_⟩:=hM';have kf:=World.rowIs.cell hq (i:=n+ys.length) (by omega);have kz:=World.rowIs.frozen hq (n+ys.length);have HN:=hM.close hlt;have HC:Hid (∃ fs',fs'=gs.set (n+ys.length) cc∧fs'.length=xs.length+ys.length+1∧Lim fs'∧(∀ j,(n+1)+ys.length≤j→fs'.getD j 0=0)∧lv fs'=lv (xs.take (n+1)) * lv ys):=⟨_,rfl,HN⟩;have HQ:Hid (Own32 wr w3.heap.size gs∧n+ys.length<gs.length):=⟨hq,by omega⟩;clear HN hM hq m3 m2 cx3 cy3 cx4 lx ly tx ty hmk ha3 hb3 Ba3 Bb3 Br3
     go_wp2
     go_roundw
     case rel =>
      obtain ⟨fs',ef,c1,c2,c3,c4⟩:=HC.out;exact ⟨n+1,fs',by omega,by go_num,by rw [ef];exact HQ.out.1.set _ HQ.out.2 _,c1,c2,c3,c4,xset X5 (Nat.le_refl _) _⟩
     case measure=>simp [intOf];omega
  ·obtain rfl:n=xs.length:=by omega
   have hv':lv fs=(a.natAbs:Int) * (b.natAbs:Int):=by
    rw [hv,List.take_length,HV.out.1,HV.out.2]
   have R4:=ho.row (by omega);rw [hfl] at R4;have HR:Hid (Row wr (.slice (some ⟨w3.heap.size,0,none⟩) (xs.length+ys.length+1) (xs.length+ys.length+1)) fs∧Lim fs):=⟨R4,hlf⟩;have Ba4:=Ba3.later X4;have Bb4:=Bb3.later X4;have Br4:=Br3.later X4;have ha4:=ha3.later X4;have hb4:=hb3.later X4;have X5:=xt X3 X4;have Ba5:=Ba4;have Bb5:=Bb4;obtain ⟨⟨p0,p1,p2⟩,_⟩:=Ba5;obtain ⟨⟨q0,q1,q2⟩,_⟩:=Bb5;have HP:Hid (sgn (!(decide (a<0) == decide (b<0))) (lv fs)=a * b):=by rw [hv'];exact sgn_mul a b
   clear R4 hv hv' hz ho hfl hlf cx3 cy3 lx ly tx ty hmk ha3 hb3 Ba3 Bb3 Br3 HV X3 X4;go_wp2_with fail;go_region_with (first
    | (go_at_call_of 98 (Value.agg #[.int .i64 a,.bool false,.slice none 0 0]);refine (neg_any (z:=a) _ ?_).mono ?_;(exact ha4.later (by first | exact xr _ | exact xd (xr _)));rintro e w4 ⟨rfl,e4⟩;obtain ⟨⟨q0',q1',q2'⟩,_⟩:=Bb4.later (xt (xd (xr _)) e4))
    | (go_at_call_of 98 (Value.agg #[.int .i64 b,.bool false,.slice none 0 0]);refine (neg_any (z:=b) _ ?_).mono ?_;(exact hb4.later (xt (xd (xr _)) (by assumption)));rintro e w5 ⟨rfl,e5⟩)
    | (go_at_call 100;refine (make_any _ _ (HR.out.1.later (xt (xt (xd (xr _)) (by assumption)) (by assumption))) HR.out.2).mono ?_;rintro e w6 ⟨v',rfl,hz6,e6⟩;obtain ⟨a0',a1',p',n',cap',rfl⟩:=hz6.shape;have X6:=xt (xt (xt (xd (xr wr)) (by assumption)) (by assumption)) e6;have B6:=Br4.later X6;obtain ⟨⟨r0,r1,r2⟩,s0,s1,s2⟩:=B6))
   all_goals
    go_wp2
    exact bodyPost_ret (v:=.agg #[.int .i64 a0',.bool a1',.slice p' n' cap']) (by simp [results,Tryz.results67,go_sem,r0,r1,r2]) rfl ⟨_,rfl,by rw [← HP.out];exact hz6.set3 (Br4.later X6) _ _ _,Ext.set3 (xt X5 X6) (by omega) _ _ _⟩
theorem mul_any {va vb:Value} {a b:Int} (w:World) (ha:ZV w va a) (hb:ZV w vb b) (k:Nat) (hk:k≤1000000000) (ka:(a.natAbs:Int)<1000000000 ^ k) (kb:(b.natAbs:Int)<1000000000 ^ k) :
  Calls Tryz.prog 67 #[va,vb] w fun e w'=>∃ v',e=.returned v'∧ZV w' v' (a * b)∧Ext w w':=by
 cases sa:smallB a
 ·exact mul_bigA w ha hb sa k hk ka kb
 ·cases sb:smallB b
  ·exact mul_bigB w ha hb sa sb k hk ka kb
  ·by_cases hp:(a.natAbs:Int)=0∨(b.natAbs:Int)≤999999999999999999 / (a.natAbs:Int)
   ·exact mul_fast w ha hb sa sb hp
   ·have h1:¬ (a.natAbs:Int)=0:=fun h=>hp (.inl h);have h2:¬ (b.natAbs:Int)≤999999999999999999 / (a.natAbs:Int):=fun h=>hp (.inr h);exact mul_bigAB w ha hb sa sb (by rw [beq_eq_false_iff_ne];exact h1) (by omega) k hk ka kb
end Go.Proofs.YtogecaajnjcenaaGreatDoor

