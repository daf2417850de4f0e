/-
  Several texts in one: MulC, MulAll, NumT, PutN, PutM.
-/
import Derived.Test.YtkadkfmidlhedaaGreatDoorMg4
import Derived.Test.YtkadkfmidlhedaaGreatDoorMg8
set_option maxRecDepth 8000
set_option maxHeartbeats 2000000
namespace Go.Proofs.YtkadkfmidlhedaaGreatDoor
open Go.RowKit
theorem zOW {va vb:Value} {a b:Int} (w:World) (ha:ZV w va a) (hb:ZV w vb b) (sa':zAE a=true) (sb':zAE b=true) (hp0:(((a.natAbs:Int)) == 0)=false) (hp:999999999999999999 / (a.natAbs:Int)<(b.natAbs:Int)) (k:Nat) (hk:k<=1000000000) (ka:(a.natAbs:Int)<1000000000 ^ k) (kb:(b.natAbs:Int)<1000000000 ^ k) :
  Calls Tryz.prog 136 #[va,vb] w fun e w'=>∃ v',e=.returned v'/\ZV w' v' (a * b)/\Ext w w':=by
 obtain ⟨s1,s2,rfl⟩:=ha.small_of sa';obtain ⟨t1,t2,rfl⟩:=hb.small_of sb';obtain ⟨x,hx⟩:=nm ((a.natAbs:Int));obtain ⟨y,hy⟩:=nm ((b.natAbs:Int));have HX:Hid ((a.natAbs:Int)=x):=hx;have HY:Hid ((b.natAbs:Int)=y):=hy;have HK:Hid ((a.natAbs:Int)<1000000000 ^ k/\(b.natAbs:Int)<1000000000 ^ k):=⟨ka,kb⟩;rw [hx] at hp0 hp;rw [hy] at hp;have x0:0<x:=by rw [beq_eq_false_iff_ne] at hp0;omega
 have x1':x<1000000000000000000:=by omega
 have y0:0<=y:=by omega
 have y1':y<1000000000000000000:=by omega
 clear hx hy ka kb;go_enter Tryz.func136,Tryz.ntmps136;go_wp2_with fail;refine (zA8 _ (ha.l (xa (xa (x1 _ _) _) _))).mono ?_;rintro e w1 ⟨rfl,e1⟩;have Ba:=((Box3.made w (iQ a) (.bool false) (.slice none 0 0) 133).l (xa (x1 _ _) _)).l e1;have Bb:=((Box3.made (w.alloc (.cells #[iQ a,.bool false,.slice none 0 0] 133)) (iQ b) (.bool false) (.slice none 0 0) 133).l (x1 _ _)).l e1;have Br:=(Box3.made ((w.alloc (.cells #[iQ a,.bool false,.slice none 0 0] 133)).alloc (.cells #[iQ b,.bool false,.slice none 0 0] 133)) (iQ 0) (.bool false) (.slice none 0 0) 133).l e1;simp only [World.size_alloc] at Ba Bb Br;have ha1:=(ha.l (xa (xa (x1 _ _) _) _)).l e1;have hb1:=(hb.l (xa (xa (x1 _ _) _) _)).l e1;have X1:=xt (xa (xa (x1 _ _) _) _) e1;clear e1 ha hb;have Bb':=Bb;obtain ⟨⟨p0,p1,p2⟩,_⟩:=Bb';go_wp2_with fail;clear p0 p1 p2;refine (zA8 _ hb1).mono ?_;rintro e w1b ⟨rfl,e1b⟩;replace Ba:=Ba.l e1b;replace Bb:=Bb.l e1b;replace Br:=Br.l e1b;replace ha1:=ha1.l e1b;replace hb1:=hb1.l e1b;replace X1:=xt X1 e1b;clear e1b;have Ba':=Ba;have Bb':=Bb;obtain ⟨⟨p0,p1,p2⟩,_⟩:=Ba';obtain ⟨⟨q0,q1,q2⟩,_⟩:=Bb';go_wp2_with fail;refine (zGF a x _ s1 s2 HX.out).mono ?_;rintro e w' ⟨rfl,hw⟩;subst hw;go_wp2_with fail;refine (zGF b y _ t1 t2 HY.out).mono ?_;rintro e w' ⟨rfl,hw⟩;subst hw;go_wp2_with fail;obtain ⟨ka,kb⟩:=HK.out;clear p0 p1 p2 q0 q1 q2 sa' sb' hp0 hp x0 x1' y0 y1' HX HY HK;refine (zAD _ ha1).mono ?_;rintro e w2 ⟨x,rfl,hx2,e2⟩;obtain ⟨⟨q0,q1,q2⟩,_⟩:=Bb.l e2;go_wp2_with fail;refine (zAD _ (hb1.l e2)).mono ?_;rintro e w3 ⟨y,rfl,hy3,e3⟩;obtain ⟨xs,⟨px,cx,rfl,cx1,cx2,cx3⟩,lx,tx,vx⟩:=hx2.l e3;obtain ⟨ys,⟨py,cy,rfl,cy1,cy2,cy3⟩,ly,ty,vy⟩:=hy3;have nx:xs.length<=k:=zE3 lx tx (by rw [vx];exact ka);have ny:ys.length<=k:=zE3 ly ty (by rw [vy];exact kb);have Ba3:=(Ba.l e2).l e3;have Bb3:=(Bb.l e2).l e3;have Br3:=(Br.l e2).l e3;have ha3:=(ha1.l e2).l e3;have hb3:=(hb1.l e2).l e3;have X3:=xt (xt X1 e2) e3;have HV:Hid (lv xs=(a.natAbs:Int)/\lv ys=(b.natAbs:Int)):=⟨vx,vy⟩;clear hx2 vx vy ha1 hb1 e2 e3 Ba Bb Br X1 q0 q1 q2 ka kb;have hmk:=run_make_row' (P:=Tryz.prog) 131 163 (.int .u32 0) 4 Tryz.underlying131 zEP rfl .i64 .i64 (xs.length+ys.length+1) (by omega) (by omega);have ec:((xs.length+ys.length+1:Nat):Int)=(xs.length:Int)+(ys.length:Int)+1:=by omega
 rw [ec] at hmk;clear ec;go_wp2_with fail;go_loopw [53] (fun i wr=>∃ (n:Nat) (fs:List Int),n<=xs.length/\i=.int .i64 n/\zAG wr w3.heap.size fs/\fs.length=xs.length+ys.length+1/\Lim fs/\(∀ j,n+ys.length<=j->fs.getD j 0=0)/\lv fs=lv (xs.take n) * lv ys/\Ext w3 wr) (fun i _=>xs.length - (intOf i).toNat)
 case atStart=>exact ⟨0,List.replicate (xs.length+ys.length+1) 0,Nat.zero_le _,rfl,zAG.zeros _ _,by simp,Lim.zeros _,fun j _=>zAZ _ j,by simp [zAW,lv],x1 _ _⟩
 case round =>
  obtain ⟨n,fs,hn,rfl,ho,hfl,hlf,hz,hv,X4⟩:=hrel;by_cases hlt:n<xs.length
  ·obtain ⟨bx,ox,rfl,cx4⟩:∃ b o,px=some ⟨b,o,none⟩/\C32 w3 b o xs:=by
    rcases cx3 with ⟨_,h⟩ | h
    ·omega
    ·exact h
   have hst:=zDP.start (xs:=xs) (i:=n) hfl hlf hz hv;have HS:Hid (zDP xs ys fs n 0 0):=hst;clear hst hz hv hfl hlf;go_wp2_with fail;go_loopw [11,58] (fun c j wq=>∃ (m:Nat) (gs:List Int) (cc:Int),m<=ys.length/\j=.int .i64 m/\c=.int .u64 cc/\zAG wq w3.heap.size gs/\zDP xs ys gs n m cc/\Ext w3 wq) (fun _ j _=>ys.length - (intOf j).toNat)
   case atStart=>exact ⟨0,fs,0,Nat.zero_le _,rfl,rfl,ho,HS.out,X4⟩
   case round =>
    obtain ⟨m,gs,cc,hm,rfl,rfl,hq,hM,X5⟩:=hrel;clear ho HS X4;by_cases hmlt:m<ys.length
    ·obtain ⟨by1,oy,rfl,cy4⟩:∃ b o,py=some ⟨b,o,none⟩/\C32 w3 b o ys:=by
      rcases cy3 with ⟨_,h⟩ | h
      ·omega
      ·exact h
     have HM:=hM;obtain ⟨m1,m2,m3,m4,m5,_⟩:=hM;obtain ⟨x,ex⟩:=nm (xs.getD n 0);obtain ⟨y,ey⟩:=nm (ys.getD m 0);obtain ⟨f,ef⟩:=nm (gs.getD (n+m) 0);have kx:=(cx4.l X5) n hlt;have ky:=(cy4.l X5) m hmlt;have kf:=World.rowIs.cell hq (i:=n+m) (by omega);have kz:=World.rowIs.frozen hq (n+m);rw [ex] at kx;rw [ey] at ky;rw [ef] at kf;obtain ⟨x0,x1'⟩:=lx.getD n;obtain ⟨y0,y1⟩:=ly.getD m;obtain ⟨f0,f1⟩:=m2.getD (n+m);rw [ex] at x0 x1';rw [ey] at y0 y1;rw [ef] at f0 f1;obtain ⟨s0,s1,s2⟩:=zFM x0 x1' y0 y1 f0 f1 m4 m5;have HN:Hid (zDP xs ys (gs.set (n+m) ((f+x * y+cc) % 1000000000)) n (m+1) ((f+x * y+cc) / 1000000000)):=HM.step hlt hmlt lx ly ex ey ef;have HQ:Hid (zAG wr w3.heap.size gs/\n+m<gs.length):=⟨hq,by omega⟩;clear HM ex ey ef hq m1 m3 m2 cx3 cy3 cx4 cy4 lx ly tx ty hmk ha3 hb3 Ba3 Bb3 Br3;go_wp2_with fail;go_quiet (fail)
     go_wp2
     go_roundw
     case rel=>exact ⟨m+1,_,_,by omega,by go_num,rfl,(HQ.out.1.drewN _).set _ HQ.out.2 _,HN.out,xset (xdN X5 _) (Nat.le_refl _) _⟩
     case measure=>simp [intOf];omega
    ·obtain rfl:m=ys.length:=(by omega);have hM':=hM;obtain ⟨m1,m2,m3,m4,m5,_⟩:=hM';have kf:=World.rowIs.cell hq (i:=n+ys.length) (by omega);have kz:=World.rowIs.frozen hq (n+ys.length);have HN:=hM.close hlt;have HC:Hid (∃ fs',fs'=gs.set (n+ys.length) cc/\fs'.length=xs.length+ys.length+1/\Lim fs'/\(∀ j,(n+1)+ys.length<=j->fs'.getD j 0=0)/\lv fs'=lv (xs.take (n+1)) * lv ys):=⟨_,rfl,HN⟩;have HQ:Hid (zAG wr w3.heap.size gs/\n+ys.length<gs.length):=⟨hq,by omega⟩;clear HN hM hq m3 m2 cx3 cy3 cx4 lx ly tx ty hmk ha3 hb3 Ba3 Bb3 Br3
     go_wp2
     go_roundw
     case rel =>
      obtain ⟨fs',ef,c1,c2,c3,c4⟩:=HC.out;exact ⟨n+1,fs',by omega,by go_num,by rw [ef];exact HQ.out.1.set _ HQ.out.2 _,c1,c2,c3,c4,xset X5 (Nat.le_refl _) _⟩
     case measure=>simp [intOf];omega
  ·obtain rfl:n=xs.length:=by omega
   have hv':lv fs=(a.natAbs:Int) * (b.natAbs:Int):=by
    rw [hv,List.take_length,HV.out.1,HV.out.2]
   have R4:=ho.row (by omega);rw [hfl] at R4;have HR:Hid (Row wr (.slice (some ⟨w3.heap.size,0,none⟩) (xs.length+ys.length+1) (xs.length+ys.length+1)) fs/\Lim fs):=⟨R4,hlf⟩;have Ba4:=Ba3.l X4;have Bb4:=Bb3.l X4;have Br4:=Br3.l X4;have ha4:=ha3.l X4;have hb4:=hb3.l X4;have X5:=xt X3 X4;have Ba5:=Ba4;have Bb5:=Bb4;obtain ⟨⟨p0,p1,p2⟩,_⟩:=Ba5;obtain ⟨⟨q0,q1,q2⟩,_⟩:=Bb5;have HP:Hid (sgn (!(decide (a<0) == decide (b<0))) (lv fs)=a * b):=by rw [hv'];exact zK5 a b
   clear R4 hv hv' hz ho hfl hlf cx3 cy3 lx ly tx ty hmk ha3 hb3 Ba3 Bb3 Br3 HV X3 X4;go_wp2_with fail;go_region_with (first
    | (go_at_call_of 172 (Value.agg #[iQ a,.bool false,.slice none 0 0]);refine (zCZ (z:=a) _ ?_).mono ?_;(exact ha4.l (by first | exact xr _ | exact xd (xr _)));rintro e w4 ⟨rfl,e4⟩;obtain ⟨⟨q0',q1',q2'⟩,_⟩:=Bb4.l (xt (xd (xr _)) e4))
    | (go_at_call_of 172 (Value.agg #[iQ b,.bool false,.slice none 0 0]);refine (zCZ (z:=b) _ ?_).mono ?_;(exact hb4.l (xt (xd (xr _)) (by assumption)));rintro e w5 ⟨rfl,e5⟩)
    | (go_at_call 185;refine (zEJ _ _ (HR.out.1.l (xt (xt (xd (xr _)) (by assumption)) (by assumption))) HR.out.2).mono ?_;rintro e w6 ⟨v',rfl,hz6,e6⟩;obtain ⟨a0',a1',p',n',cap',rfl⟩:=hz6.shape;have X6:=xt (xt (xt (xd (xr wr)) (by assumption)) (by assumption)) e6;have B6:=Br4.l X6;obtain ⟨⟨r0,r1,r2⟩,s0,s1,s2⟩:=B6))
   all_goals
    go_wp2
    exact bodyPost_ret (v:=.agg #[iQ a0',.bool a1',.slice p' n' cap']) (by simp [results,Tryz.results136,go_sem,r0,r1,r2]) rfl ⟨_,rfl,by rw [<- HP.out];exact hz6.set3 (Br4.l X6) _ _ _,Ext.set3 (xt X5 X6) (by omega) _ _ _⟩
theorem zBR {va vb:Value} {a b:Int} (w:World) (ha:ZV w va a) (hb:ZV w vb b) (k:Nat) (hk:k<=1000000000) (ka:(a.natAbs:Int)<1000000000 ^ k) (kb:(b.natAbs:Int)<1000000000 ^ k) :
  Calls Tryz.prog 136 #[va,vb] w fun e w'=>∃ v',e=.returned v'/\ZV w' v' (a * b)/\Ext w w':=by
 cases sa:zAE a
 ·exact zQW w ha hb sa k hk ka kb
 ·cases sb:zAE b
  ·exact zQV w ha hb sa sb k hk ka kb
  ·by_cases hp:(a.natAbs:Int)=0\/(b.natAbs:Int)<=999999999999999999 / (a.natAbs:Int)
   ·exact zQU w ha hb sa sb hp
   ·have h1:¬ (a.natAbs:Int)=0:=fun h=>hp (.inl h);have h2:¬ (b.natAbs:Int)<=999999999999999999 / (a.natAbs:Int):=fun h=>hp (.inr h);exact zOW w ha hb sa sb (by rw [beq_eq_false_iff_ne];exact h1) (by omega) k hk ka kb
theorem zQ5 (a b:Int) (w:World) (a1 : -1000000000000000000<a) (a2:a<1000000000000000000) (b1 : -1000000000000000000<b) (b2:b<1000000000000000000) :
  Calls Tryz.prog 177 #[zS a,zS b] w fun e w'=>∃ v',e=.returned v'/\ZV w' v' (a+b)/\Ext w w':=by
 have sa:Hid (∀ w2:World,Calls Tryz.prog 181 #[zS a] w2 fun e w'=>e=.returned (.bool true)/\Ext w2 w'):=fun w2=>by
  have:=zA8 w2 (ZV.small a1 a2)
  rwa [zB3 a1 a2] at this
 have sb:Hid (∀ w2:World,Calls Tryz.prog 181 #[zS b] w2 fun e w'=>e=.returned (.bool true)/\Ext w2 w'):=fun w2=>by
  have:=zA8 w2 (ZV.small b1 b2)
  rwa [zB3 b1 b2] at this
 have Ba:=(Box3.made w (iQ a) (.bool false) (.slice none 0 0) 133).l (xa (x1 _ (.cells #[iQ b,.bool false,.slice none 0 0] 133)) (.cells #[iQ 0,.bool false,.slice none 0 0] 133));have Bb:=(Box3.made (w.alloc (.cells #[iQ a,.bool false,.slice none 0 0] 133)) (iQ b) (.bool false) (.slice none 0 0) 133).l (x1 _ (.cells #[iQ 0,.bool false,.slice none 0 0] 133));have Br:=Box3.made ((w.alloc (.cells #[iQ a,.bool false,.slice none 0 0] 133)).alloc (.cells #[iQ b,.bool false,.slice none 0 0] 133)) (iQ 0) (.bool false) (.slice none 0 0) 133;simp only [World.size_alloc] at Bb Br;go_enter Tryz.func177,Tryz.ntmps177;go_wp2_with fail;refine (sa.out _).mono ?_;rintro e w1 ⟨rfl,e1⟩;obtain ⟨⟨q0,q1,q2⟩,_⟩:=Bb.l e1;go_wp2_with fail;refine (sb.out _).mono ?_;rintro e w2 ⟨rfl,e2⟩;clear q0 q1 q2;have X2:=xt e1 e2;obtain ⟨⟨q0,q1,q2⟩,_⟩:=Bb.l X2;obtain ⟨⟨p0,p1,p2⟩,_⟩:=Ba.l X2;go_wp2_with fail;refine (zBB (a+b) _ (by omega) (by omega)).mono ?_;rintro e w3 ⟨v',rfl,hz,e3⟩;obtain ⟨a0',a1',p',n',cap',rfl⟩:=hz.shape;have X3:=xt X2 e3;have B4:=Br.l X3;have Hz:=hz.set3 B4 (iQ a0') (.bool a1') (.slice p' n' cap');have Hx:=Ext.set3 (b:=w.heap.size+1+1) (xt (xa (xa (x1 _ _) _) _) X3) (by omega) (iQ a0') (.bool a1') (.slice p' n' cap');obtain ⟨⟨r0,r1,r2⟩,s0,s1,s2⟩:=B4;clear p0 p1 p2 q0 q1 q2
 go_wp2
 exact bodyPost_ret (v:=.agg #[iQ a0',.bool a1',.slice p' n' cap']) (by simp [results,Tryz.results177,go_sem,r0,r1,r2]) rfl ⟨_,rfl,Hz,Hx⟩
theorem zI7 {va vb:Value} {a b:Int} (w:World) (ha:ZV w va a) (hb:ZV w vb b) (sa:zAE a=true) (sb:zAE b=true) :
  Calls Tryz.prog 177 #[va,vb] w fun e w'=>∃ v',e=.returned v'/\ZV w' v' (a+b)/\Ext w w':=by
 obtain ⟨a1,a2,rfl⟩:=ha.small_of sa;obtain ⟨b1,b2,rfl⟩:=hb.small_of sb;exact zQ5 a b w a1 a2 b1 b2
theorem zTK (n:Int) (w:World) (n0:0<=n) (n1:n<1000000000000000) :
  Calls Tryz.prog 208 #[iQ n] w fun e w'=>∃ l,e=.returned (.string ⟨l.toArray⟩)/\zDT l n/\Ext w w':=by
 go_enter Tryz.func208,Tryz.ntmps208;go_wp2_with fail;refine (zBB (n / 10) _ (by omega) (by omega)).mono ?_;rintro e w1 ⟨v1,rfl,z1,e1⟩;go_wp2_with fail;refine (zBB 10 _ (by omega) (by omega)).mono ?_;rintro e w2 ⟨v2,rfl,z2,e2⟩;go_wp2_with fail;refine (zBR _ (z1.l e2) z2 2 (by decide) (by omega) (by omega)).mono ?_;rintro e w3 ⟨v3,rfl,z3,e3⟩;go_wp2_with fail;refine (zBB (n % 10) _ (by omega) (by omega)).mono ?_;rintro e w4 ⟨v4,rfl,z4,e4⟩;go_wp2_with fail;refine (zI7 _ (z3.l e4) z4 (zB3 (by omega) (by omega)) (zB3 (by omega) (by omega))).mono ?_;rintro e w5 ⟨v5,rfl,z5,e5⟩;have en:n / 10 * 10+n % 10=n:=by omega
 rw [en] at z5;go_wp2_with fail;refine (zIB _ z5 2 (by decide) (by omega)).mono ?_;rintro e w6 ⟨l,rfl,ht,e6⟩
 go_wp2
 go_ret;exact ⟨l,rfl,ht,xt (xt (xt (xt (xt e1 e2) e3) e4) e5) e6⟩
end Go.Proofs.YtkadkfmidlhedaaGreatDoor

namespace Go.Proofs.YtkadkfmidlhedaaGreatDoor
theorem zA7 (n:Nat):0<10 ^ n:=Nat.pow_pos (by decide)
def nd (a:Nat):Nat:=if h:a=0 then 0 else nd (a / 10)+1
termination_by a
decreasing_by omega
theorem zD0:nd 0=0:=by rw [nd];simp
theorem zG2 {a:Nat} (h:a ≠ 0):nd a=nd (a / 10)+1:=by rw [nd];simp [h]
theorem zD4 (a:Nat):a<10 ^ nd a/\(nd a=0\/10 ^ (nd a - 1)<=a):=by
 induction a using Nat.strongRecOn with
 | ind a ih =>
  by_cases h:a=0
  ·subst h;rw [zD0];simp
  ·rw [zG2 h];obtain ⟨h1,h2⟩:=ih (a / 10) (by omega);refine ⟨by rw [Nat.pow_succ];omega,.inr ?_⟩;rw [Nat.add_sub_cancel];by_cases h3:a / 10=0
   ·rw [h3,zD0];simp;omega
   ·have h4:nd (a / 10) ≠ 0:=(by rw [zG2 h3];omega);have h5:=h2.resolve_left h4;obtain ⟨m,hm⟩:∃ m,nd (a / 10)=m+1:=⟨nd (a / 10) - 1,by omega⟩;rw [hm] at h5 ⊢;rw [Nat.pow_succ];simp at h5;omega
theorem zB8 {i j:Nat} (h:i<=j):10 ^ i<=10 ^ j:=Nat.pow_le_pow_right (by decide) h
theorem zCT {i j:Nat} (h:10 ^ i<10 ^ j):i<j:=by
 by_cases e:i<j
 ·exact e
 ·have:=zB8 (show j<=i by omega);omega
theorem zVZ {a k:Nat} (h1:a<10 ^ k) (h2:k=0\/10 ^ (k - 1)<=a):nd a=k:=by
 obtain ⟨h3,h4⟩:=zD4 a;have e1:k<=nd a:=by
  rcases h2 with h2 | h2
  ·omega
  ·have:=zCT (i:=k - 1) (j:=nd a) (by omega);omega
 have e2:nd a<=k:=by
  rcases h4 with h4 | h4
  ·omega
  ·have:=zCT (i:=nd a - 1) (j:=k) (by omega);omega
 omega
theorem zQT {a k:Nat} (h:10 ^ k<=a):k<nd a:=zCT (Nat.lt_of_le_of_lt h (zD4 a).1)
theorem zEW {a k:Nat} (h:a<10 ^ k):nd a<=k:=by
 rcases (zD4 a).2 with h2 | h2
 ·omega
 ·have:=zCT (i:=nd a - 1) (j:=k) (by omega);omega
theorem zML {a k:Nat} (h:k<nd a):10 ^ k<=a:=by
 rcases (zD4 a).2 with h2 | h2
 ·omega
 ·exact Nat.le_trans (zB8 (by omega)) h2
def zDU (P cut:Nat) (more:Bool):Nat:=
 if 10 ^ cut<2 * (P % 10 ^ cut)\/(2 * (P % 10 ^ cut)=10 ^ cut/\more=true) then 3
 else if 2 * (P % 10 ^ cut)=10 ^ cut then 2
 else if 0<P % 10 ^ cut\/more=true then 1 else 0
def zCM (mode:Nat) (odd:Bool) (rest:Nat):Bool:=
 if mode=0 then decide (rest=3) || (decide (rest=2) && odd) else if mode=1 then decide (2<=rest) else if mode=2 then false else decide (rest ≠ 0)
def rndM (mode P cut:Nat) (more:Bool):Nat:=P / 10 ^ cut+if zCM mode (decide (P / 10 ^ cut % 2=1)) (zDU P cut more)=true then 1 else 0
def zBP (P:Nat) (e:Int):Nat × Int:=if h:P ≠ 0/\P % 10=0 then zBP (P / 10) (e+1) else (P,e)
termination_by P
decreasing_by omega
theorem zDY {P:Nat} {e:Int} (h0:P ≠ 0) (h:P % 10=0):zBP P e=zBP (P / 10) (e+1):=by rw [zBP];simp [h0,h]
theorem zED {P:Nat} {e:Int} (h:P % 10 ≠ 0):zBP P e=(P,e):=by rw [zBP];simp [h]
structure DR where
 ok:Bool
 neg:Bool
 d:Int
 e:Int
def fitR (neg:Bool) (P:Nat) (e:Int):DR:=
 if P=0 then ⟨true,false,0,0⟩
 else if 300<(zBP P e).2 then ⟨false,false,0,0⟩
 else if (zBP P e).2 < -300 then ⟨true,false,0,0⟩
 else ⟨true,neg,(zBP P e).1,(zBP P e).2⟩
def putR (neg:Bool) (P:Nat) (e:Int) (more:Bool):DR:=
 if 15<nd P then fitR neg (rndM 0 P (nd P - 15) more) (e+((nd P - 15:Nat):Int)) else fitR neg P e
theorem strip_pow (a:Nat) (ha:a % 10 ≠ 0) (m:Nat) (e:Int):zBP (a * 10 ^ m) e=(a,e+m):=by
 induction m generalizing e with
 | zero=>rw [Nat.pow_zero,Nat.mul_one,zED ha];simp
 | succ m ih =>
  have h1:a * 10 ^ (m+1)=a * 10 ^ m * 10:=by rw [Nat.pow_succ,Nat.mul_assoc]
  have hp:0<a * 10 ^ m:=Nat.mul_pos (by omega) (zA7 m);rw [h1,zDY (by omega) (by omega),Nat.mul_div_cancel _ (by decide),ih]
  congr 1
  omega
theorem zK1 (P:Nat) (m:Nat) (e:Int) (h0:P ≠ 0):zBP (P * 10 ^ m) e=zBP P (e+m):=by
 induction m generalizing e with
 | zero=>simp
 | succ m ih =>
  have h1:P * 10 ^ (m+1)=P * 10 ^ m * 10:=by rw [Nat.pow_succ,Nat.mul_assoc]
  have hp:0<P * 10 ^ m:=Nat.mul_pos (by omega) (zA7 m);rw [h1,zDY (by omega) (by omega),Nat.mul_div_cancel _ (by decide),ih]
  congr 1
  omega
theorem zGT (P n:Nat) (more:Bool) :
  zDU P (n+1) more=zDU (P / 10 ^ n) 1 (more || decide (P % 10 ^ n ≠ 0)):=by
 obtain ⟨T,hT⟩:=nm (10 ^ n);have hp:0<T:=by rw [<- hT];exact zA7 n
 have e1:P % 10 ^ (n+1)=P % T+T * (P / T % 10):=by
  rw [Nat.pow_succ,hT,Nat.mod_mul]
 have e2:(10:Nat) ^ (n+1)=T * 10:=by rw [Nat.pow_succ,hT]
 unfold zDU;rw [e1,e2,hT,Nat.pow_one];have hs:=Nat.mod_lt P hp;generalize P % T=s at *;have hl:P / T % 10<10:=Nat.mod_lt _ (by decide);generalize P / T % 10=l at *;have e3:l=0\/l=1\/l=2\/l=3\/l=4\/l=5\/l=6\/l=7\/l=8\/l=9:=by omega
 have e4:(more || decide (s ≠ 0))=true ↔ more=true\/s ≠ 0:=by simp
 simp only [e4];clear e4;clear e1 e2 hT hl;cases more
 all_goals simp only [Bool.false_eq_true,and_true,and_false,or_true,true_or,or_false,false_or]
 all_goals rcases e3 with h | h | h | h | h | h | h | h | h | h <;> subst h <;> (repeat' split) <;> omega
end Go.Proofs.YtkadkfmidlhedaaGreatDoor

namespace Go.Proofs.YtkadkfmidlhedaaGreatDoor
theorem zIM (N i j:Nat):N / 10 ^ i / 10 ^ j=N / 10 ^ (i+j):=by rw [Nat.div_div_eq_div_mul,Nat.pow_add]
theorem zTL (N i j:Nat):N % 10 ^ (i+j)=N % 10 ^ i+10 ^ i * (N / 10 ^ i % 10 ^ j):=by rw [Nat.pow_add,Nat.mod_mul]
theorem zG4 (N i j:Nat):N % 10 ^ (i+j) ≠ 0 ↔ N % 10 ^ i ≠ 0\/N / 10 ^ i % 10 ^ j ≠ 0:=by
 rw [zTL];have hp:=zA7 i;by_cases h:N / 10 ^ i % 10 ^ j=0
 ·rw [h];simp
 ·have:0<10 ^ i * (N / 10 ^ i % 10 ^ j):=Nat.mul_pos hp (by omega);constructor
  ·intro _;exact .inr h
  ·intro _;omega
theorem zME (P j cut:Nat) (more:Bool) (hc:1<=cut):zDU P (j+cut) more=zDU (P / 10 ^ j) cut (more || decide (P % 10 ^ j ≠ 0)):=by
 obtain ⟨c,rfl⟩:∃ c,cut=c+1:=⟨cut - 1,by omega⟩;rw [show j+(c+1)=(j+c)+1 by omega,zGT P (j+c),zGT (P / 10 ^ j) c,zIM P j c]
 congr 1
 have e:=zG4 P j c;rw [Bool.or_assoc]
 congr 1
 rw [Bool.eq_iff_iff];simp only [Bool.or_eq_true,decide_eq_true_eq];exact e
theorem zO1 (mode P j cut:Nat) (more:Bool) (hc:1<=cut):rndM mode P (j+cut) more=rndM mode (P / 10 ^ j) cut (more || decide (P % 10 ^ j ≠ 0)):=by
 unfold rndM;rw [zME P j cut more hc,zIM]
theorem zSC (N j:Nat):nd (N / 10 ^ j)=nd N - j:=by
 induction j with
 | zero=>simp
 | succ j ih =>
  rw [<- zIM N j 1,Nat.pow_one];by_cases h:N / 10 ^ j=0
  ·rw [h] at ih ⊢;simp only [Nat.zero_div,zD0] at *;omega
  ·have:=zG2 h;omega
theorem zEG (neg:Bool) (N j:Nat) (e:Int) (m:Bool) (h:15<nd (N / 10 ^ j)):putR neg N e m=putR neg (N / 10 ^ j) (e+j) (m || decide (N % 10 ^ j ≠ 0)):=by
 have hn:=zSC N j;unfold putR;rw [if_pos h,if_pos (by omega),show nd N - 15=j+(nd (N / 10 ^ j) - 15) by omega,zO1 _ _ _ _ _ (by omega)]
 congr 1
 omega
theorem zF4 (P j:Nat) (h:P ≠ 0):nd (P * 10 ^ j)=nd P+j:=by
 have:=zSC (P * 10 ^ j) j;rw [Nat.mul_div_cancel _ (zA7 j)] at this;have h2:0<nd P:=by rw [zG2 h];omega
 omega
theorem zO5 {P c:Nat} (h:P % 10 ^ c=0):zDU P c false=0:=by
 have hp:=zA7 c;unfold zDU;rw [h,if_neg (by simp),if_neg (by omega),if_neg (by simp)]
theorem zMF {P c:Nat} (h:2 * (P % 10 ^ c)<10 ^ c):zDU P c false<=1:=by
 unfold zDU;rw [if_neg (by simp;omega),if_neg (by omega)]
 split <;> omega
theorem zMG {P c:Nat} {m:Bool} (h:10 ^ c<2 * (P % 10 ^ c)):zDU P c m=3:=by
 unfold zDU;rw [if_pos (.inl h)]
theorem zP9 (mode:Nat) (odd:Bool) (hm:mode<=3):zCM mode odd 0=false:=by
 unfold zCM;have:mode=0\/mode=1\/mode=2\/mode=3:=by omega
 rcases this with rfl | rfl | rfl | rfl <;> simp
theorem zMP (odd:Bool) {r:Nat} (h:r<=1):zCM 0 odd r=false:=by
 unfold zCM;have:r=0\/r=1:=by omega
 rcases this with rfl | rfl <;> simp
theorem zO3 (mode Q c:Nat) (hm:mode<=3):rndM mode (Q * 10 ^ c) c false=Q:=by
 unfold rndM;rw [zO5 (Nat.mul_mod_left _ _),Nat.mul_div_cancel _ (zA7 c),zP9 _ _ hm];simp
theorem zH4 (neg:Bool) (P m:Nat) (e:Int):fitR neg (P * 10 ^ m) e=fitR neg P (e+m):=by
 unfold fitR;by_cases h:P=0
 ·subst h;simp
 ·have:P * 10 ^ m ≠ 0:=by have:=Nat.mul_pos (show 0<P by omega) (zA7 m);omega
  rw [if_neg h,if_neg this,zK1 P m e h]
theorem zOC (neg:Bool) (P j:Nat) (e:Int):putR neg (P * 10 ^ j) e false=putR neg P (e+j) false:=by
 by_cases h0:P=0
 ·subst h0;simp [putR,zD0,fitR]
 ·by_cases h:15<nd P
  ·have:=zEG neg (P * 10 ^ j) j e false (by rw [Nat.mul_div_cancel _ (zA7 j)];exact h);rw [this,Nat.mul_div_cancel _ (zA7 j),Nat.mul_mod_left];rfl
  ·have hn:=zF4 P j h0;unfold putR;rw [if_neg h];by_cases h2:15<nd (P * 10 ^ j)
   ·rw [if_pos h2];obtain ⟨c,hc⟩:=nm (nd (P * 10 ^ j) - 15);obtain ⟨r,hr⟩:∃ r,j=r+c:=⟨j - c,by omega⟩;have e1:P * 10 ^ j=P * 10 ^ r * 10 ^ c:=(by rw [hr,Nat.pow_add,Nat.mul_assoc]);rw [hc,e1,zO3 0 _ _ (by decide),zH4]
    congr 1
    omega
   ·rw [if_neg h2,zH4]
theorem zLO (neg:Bool) (d:Nat) (e:Int) (h:d % 10 ≠ 0) (e0 : -300<=e) (e1:e<=300):fitR neg d e=⟨true,neg,d,e⟩:=by
 unfold fitR;rw [if_neg (by omega),zED h];simp only;rw [if_neg (by omega),if_neg (by omega)]
theorem zIE (neg:Bool) (d:Nat) (e:Int) (h:d % 10 ≠ 0) (hd:d<1000000000000000) (e0 : -300<=e) (e1:e<=300):putR neg d e false=⟨true,neg,d,e⟩:=by
 unfold putR;rw [if_neg (by have:=zEW (a:=d) (k:=15) (by omega);omega),zLO neg d e h e0 e1]
theorem zK6 (Q b c:Nat) (h:2 * b<10 ^ c):rndM 0 (Q * 10 ^ c+b) c false=Q:=by
 have hp:=zA7 c;have e1:(Q * 10 ^ c+b) / 10 ^ c=Q:=by rw [Nat.mul_comm,Nat.mul_add_div hp,Nat.div_eq_of_lt (by omega)];omega
 have e2:(Q * 10 ^ c+b) % 10 ^ c=b:=by rw [Nat.mul_comm,Nat.mul_add_mod,Nat.mod_eq_of_lt (by omega)]
 unfold rndM;rw [e1,zMP _ (zMF (by rw [e2];exact h))];simp
theorem zID (Q b c:Nat) (hb:0<b) (h:2 * b<10 ^ c) (hQ:0<Q):rndM 0 (Q * 10 ^ c - b) c false=Q:=by
 have hp:=zA7 c;obtain ⟨q,rfl⟩:∃ q,Q=q+1:=⟨Q - 1,by omega⟩;have e0:(q+1) * 10 ^ c - b=q * 10 ^ c+(10 ^ c - b):=by rw [Nat.add_mul];omega
 rw [e0];have e1:(q * 10 ^ c+(10 ^ c - b)) / 10 ^ c=q:=by rw [Nat.mul_comm,Nat.mul_add_div hp,Nat.div_eq_of_lt (by omega)];omega
 have e2:(q * 10 ^ c+(10 ^ c - b)) % 10 ^ c=10 ^ c - b:=by rw [Nat.mul_comm,Nat.mul_add_mod,Nat.mod_eq_of_lt (by omega)]
 unfold rndM;rw [e1,zMG (by rw [e2];omega)];simp [zCM]
theorem zH5:(10:Nat) ^ 37=10000000000000000000000000000000000000/\(10:Nat) ^ 38=100000000000000000000000000000000000000/\(10:Nat) ^ 16=10000000000000000:=by decide
theorem zOE (neg minus:Bool) (a b m:Nat) (e:Int) (ha:a % 10 ≠ 0) (ha1:a<1000000000000000) (hb:0<b) (hb1:b<1000000000000000) (hm:38<nd a+m) (e0 : -300<=e+m) (e1:e+m<=300) :
  putR neg (if minus then a * 10 ^ m - b else a * 10 ^ m+b) e false=⟨true,neg,a,e+m⟩:=by
 have na:=zF4 a m (by omega);have n15:=zEW (a:=a) (k:=15) (by omega);obtain ⟨A,hA⟩:=nm (a * 10 ^ m);obtain ⟨f1,f2,f3⟩:=zH5;have A38:10 ^ 38<=A:=by rw [<- hA];exact zML (by omega)
 obtain ⟨X,hX⟩:=nm ((if minus then A - b else A+b));have Xlo:10 ^ 37<=X:=by rw [<- hX];split <;> omega
 have nlo:=zQT Xlo;have nhi:nd X<=nd a+m:=by
  apply zEW;have h1:(a+1) * 10 ^ m<=10 ^ nd a * 10 ^ m:=Nat.mul_le_mul_right _ (zD4 a).1;rw [<- Nat.pow_add,Nat.add_mul,hA] at h1;have h2:10 ^ 16<=10 ^ m:=zB8 (by omega);have:=zA7 m;rw [<- hX];split <;> omega
 obtain ⟨c,hc⟩:=nm (nd X - 15);obtain ⟨r,hr⟩:∃ r,m=r+c:=⟨m - c,by omega⟩;have c16:10 ^ 16<=10 ^ c:=zB8 (by omega);have hQ:A=a * 10 ^ r * 10 ^ c:=by rw [<- hA,hr,Nat.pow_add,Nat.mul_assoc]
 have Qp:0<a * 10 ^ r:=Nat.mul_pos (by omega) (zA7 r);have hR:rndM 0 X c false=a * 10 ^ r:=by
  rw [<- hX,hQ];cases minus
  ·exact zK6 _ _ _ (by omega)
  ·exact zID _ _ _ hb (by omega) Qp
 rw [hA,hX];unfold putR;rw [if_pos (by omega),hc,hR,zH4,show e+(c:Int)+(r:Int)=e+(m:Int) by omega,zLO neg a _ ha e0 e1]
theorem zMU (y T B:Nat) (hT:0<T):y * T / B / T=y / B/\((y * T % B ≠ 0\/y * T / B % T ≠ 0) ↔ y % B ≠ 0):=by
 refine ⟨by rw [Nat.div_div_eq_div_mul,Nat.mul_div_mul_right _ _ hT],?_⟩;have h1:y * T % (B * T)=y % B * T:=Nat.mul_mod_mul_right _ _ _;rw [Nat.mod_mul] at h1;by_cases h:y % B=0
 ·rw [h,Nat.zero_mul] at h1;constructor
  ·intro h2;by_cases hB:B=0
   ·subst hB;simp at h;subst h;simp at h2
   ·rcases h2 with h2 | h2
    ·omega
    ·have:0<B * (y * T / B % T):=Nat.mul_pos (by omega) (by omega);omega
  ·intro h2;exact absurd h h2
 ·have h3:0<y % B * T:=Nat.mul_pos (by omega) hT;constructor
  ·intro _;exact h
  ·intro _;by_cases h4:y * T % B=0
   ·right;intro h5;rw [h4,h5] at h1;simp at h1;omega
   ·exact .inl h4
theorem zOF (neg:Bool) (A B u v:Nat) (e:Int) (h:15<nd (A * 10 ^ u / B)) (huv:u<=v) :
  putR neg (A * 10 ^ v / B) (e - v) (decide (A * 10 ^ v % B ≠ 0))=putR neg (A * 10 ^ u / B) (e - u) (decide (A * 10 ^ u % B ≠ 0)):=by
 obtain ⟨j,rfl⟩:∃ j,v=u+j:=⟨v - u,by omega⟩;have e1:A * 10 ^ (u+j)=A * 10 ^ u * 10 ^ j:=by rw [Nat.pow_add,Nat.mul_assoc]
 obtain ⟨d1,d2⟩:=zMU (A * 10 ^ u) (10 ^ j) B (zA7 j);rw [e1,zEG neg _ j _ _ (by rw [d1];exact h),d1]
 congr 1
 ·omega
 ·rw [Bool.eq_iff_iff];simp only [Bool.or_eq_true,decide_eq_true_eq];exact d2
def zB7 (r x:Nat):Prop:=r * r<=x/\x<(r+1) * (r+1)
theorem zIY {a b:Nat} (h:a * a<b * b):a<b:=by
 by_cases e:a<b
 ·exact e
 ·have:=Nat.mul_le_mul (show b<=a by omega) (show b<=a by omega);omega
theorem zB7.uniq {r s x:Nat} (h:zB7 r x) (k:zB7 s x):r=s:=by
 have h1:=zIY (show r * r<(s+1) * (s+1) from Nat.lt_of_le_of_lt h.1 k.2);have h2:=zIY (show s * s<(r+1) * (r+1) from Nat.lt_of_le_of_lt k.1 h.2);omega
theorem zK2 {R N X T:Nat} (hT:0<T) (hR:zB7 R X) (hN:zB7 N (X * (T * T))):N / T=R/\((N * N ≠ X * (T * T)\/N % T ≠ 0) ↔ R * R ≠ X):=by
 have e1:N / T=R:=by
  apply zB7.uniq (x:=X) _ hR;obtain ⟨n1,n2⟩:=hN;obtain ⟨q,hq⟩:=nm (N / T);have h1:q * T<=N:=by rw [<- hq];exact Nat.div_mul_le_self _ _
  have h2:N<(q+1) * T:=by rw [<- hq,Nat.mul_comm];exact Nat.lt_mul_div_succ N hT
  rw [hq];constructor
  ·have:=Nat.mul_le_mul h1 h1;have h3:q * q * (T * T)<=X * (T * T):=by
    rw [show q * q * (T * T)=q * T * (q * T) by rw [Nat.mul_mul_mul_comm]];omega
   exact Nat.le_of_mul_le_mul_right h3 (Nat.mul_pos hT hT)
  ·have:=Nat.mul_le_mul (show N+1<=(q+1) * T from h2) (show N+1<=(q+1) * T from h2);have h3:X * (T * T)<(q+1) * (q+1) * (T * T):=by
    rw [show (q+1) * (q+1) * (T * T)=(q+1) * T * ((q+1) * T) by rw [Nat.mul_mul_mul_comm]];omega
   exact Nat.lt_of_mul_lt_mul_right h3
 refine ⟨e1,?_⟩;have e2:=Nat.div_add_mod N T;rw [e1] at e2;by_cases hx:R * R=X
 ·have hN':zB7 (T * R) (X * (T * T)):=by
   rw [<- hx,show R * R * (T * T)=T * R * (T * R) by rw [Nat.mul_mul_mul_comm,Nat.mul_comm R T]];exact ⟨Nat.le_refl _,by rw [Nat.mul_add,Nat.add_mul];omega⟩
  have:=hN.uniq hN';constructor
  ·intro h
   rcases h with h | h
   ·exfalso;apply h;rw [this,<- hx,show R * R * (T * T)=T * R * (T * R) by rw [Nat.mul_mul_mul_comm,Nat.mul_comm R T]]
   ·omega
  ·intro h;exact absurd hx h
 ·constructor
  ·intro _;exact hx
  ·intro _;by_cases hm:N % T=0
   ·left;intro h;rw [hm,Nat.add_zero] at e2;rw [<- e2,show T * R * (T * R)=R * R * (T * T) by rw [Nat.mul_comm T R,Nat.mul_mul_mul_comm]] at h;exact hx (Nat.eq_of_mul_eq_mul_right (Nat.mul_pos hT hT) h)
   ·exact .inr hm
theorem zL5 {R N X j:Nat} (neg:Bool) (e:Int) (hR:zB7 R X) (hN:zB7 N (X * (10 ^ j * 10 ^ j))) (h:15<nd R) :
  putR neg N (e - j) (decide (N * N ≠ X * (10 ^ j * 10 ^ j)))=putR neg R e (decide (R * R ≠ X)):=by
 obtain ⟨d1,d2⟩:=zK2 (zA7 j) hR hN;rw [zEG neg N j _ _ (by rw [d1];exact h),d1]
 congr 1
 ·omega
 ·rw [Bool.eq_iff_iff];simp only [Bool.or_eq_true,decide_eq_true_eq];exact d2
end Go.Proofs.YtkadkfmidlhedaaGreatDoor

