/-
  Several texts in one: Sb8, Sd6, Sb5, Dd0, Sc0, Ky, Kz.
-/
import Derived.Test.YtjlojlgdkfpcdaaGreatDoorMg20
import Derived.Test.YtjlojlgdkfpcdaaGreatDoorMg22
import Derived.Test.YtjlojlgdkfpcdaaGreatDoorMg16
import Derived.Test.YtjlojlgdkfpcdaaGreatDoorMg1
import Derived.Deep.RegionWith
import Derived.Deep.DeepCutAuto
import Derived.Test.YtjlojlgdkfpcdaaGreatDoorDrM
import Derived.Test.YtjlojlgdkfpcdaaGreatDoorMg5
set_option maxRecDepth 8000
set_option maxHeartbeats 2000000
namespace Go.Proofs.YtjlojlgdkfpcdaaGreatDoor
open Go.RowKit
def FitD (r:DR):Prop:=0<=r.d/\r.d<1000000000000000
theorem zO0 {neg:Bool} {P:Nat} {e:Int} (h:(fitR neg P e).ok=false):(fitR neg P e).d=0:=by
 unfold fitR at h ⊢
 split
 ·rfl
 ·next h0 =>
  rw [if_neg h0] at h
  split
  ·rfl
  ·next h1 =>
   rw [if_neg h1] at h
   split
   ·rfl
   ·next h2=>rw [if_neg h2] at h;cases h
theorem zJP (neg:Bool) (P:Nat) (e:Int) (more:Bool):FitD (putR neg P e more):=by
 cases h:(putR neg P e more).ok
 ·have hd:(putR neg P e more).d=0:=by
   unfold putR at h ⊢
   split
   ·next h15=>rw [if_pos h15] at h;exact zO0 h
   ·next h15=>rw [if_neg h15] at h;exact zO0 h
  exact ⟨by omega,by omega⟩
 ·have g:=zAN (zKV h);exact ⟨g.1,g.2.1⟩
theorem zKF:FitD badR:=⟨by decide,by decide⟩
theorem zNP (na:Bool) (da ea:Int) (nb:Bool) (db eb:Int):FitD (mulR na da ea nb db eb):=by
 unfold mulR
 split
 ·exact zJP _ _ _ _
 ·exact zKF
theorem zUD (na:Bool) (da ea:Int) (nb:Bool) (db eb:Int):FitD (subR na da ea nb db eb):=by
 unfold subR;generalize (if db=0 then nb else !nb)=x;unfold addR
 split
 ·unfold sumE sumZ;exact zJP _ _ _ _
 ·exact zKF
theorem zIP (n:Bool) (d e p m:Int):FitD (zAB n d e p m):=by
 unfold zAB
 split
 ·next hc =>
  unfold rndR
  split
  ·simp only [Bool.and_eq_true] at hc;have g:=zAN hc.1.1;exact ⟨g.1,g.2.1⟩
  ·exact zJP _ _ _ _
 ·exact zKF
theorem of_day:ofR 86400 0=⟨true,false,864,2⟩:=by
 have hs:zAK 86400 0=(864,2):=by
  rw [zB1 (by decide) (by decide),zB1 (by decide) (by decide),zAK];rfl
 have hn:¬ 15<nd 86400:=by
  simp [nd]
 show (if -1000<=(0:Int)/\(0:Int)<=1000 then putR false 86400 0 false else badR)=_;rw [if_pos (by decide)];unfold putR;rw [if_neg hn];unfold fitR;rw [hs];rfl
def secR (n:Bool) (d e:Int) (n':Bool) (d' e':Int):DR:=
 let s:=subR n d e n' d' e'
 let p:=mulR s.neg s.d s.e false 864 2
 zAB p.neg p.d p.e 0 2
end Go.Proofs.YtjlojlgdkfpcdaaGreatDoor

namespace Go.Proofs.YtjlojlgdkfpcdaaGreatDoor
def zG4 (n:Bool) (r:DR):DR:=⟨r.ok,n && decide (r.d ≠ 0),r.d,r.e⟩
theorem zIJ (n:Bool) {r:DR} (h:r.d=0):zG4 false r=zG4 n r:=by
 unfold zG4;rw [h];cases n <;> rfl
theorem zO1 (n:Bool) (P:Nat) (e:Int):fitR n P e=zG4 n (fitR false P e):=by
 unfold fitR zG4
 split
 ·simp
 ·next h0 =>
  split
  ·simp
  ·split
   ·simp
   ·have h:=zOQ P e h0;have h2:(((zAK P e).1:Nat):Int) ≠ 0:=(by omega);simp only [decide_eq_true h2,Bool.and_true]
theorem zJO (n:Bool) (P:Nat) (e:Int) (m:Bool):putR n P e m=zG4 n (putR false P e m):=by
 unfold putR
 split
 ·exact zO1 n _ _
 ·exact zO1 n _ _
theorem zNH (P:Nat) (e:Int) (m:Bool):(putR false P e m).neg=false:=by
 have h:=zJO false P e m;rw [h];rfl
theorem zCZ {n:Bool} {d e:Int} (g:zA1 n d e=true):zA1 false d e=true:=by
 unfold zA1 at g ⊢
 split at g
 ·next h=>rw [if_pos h];simp at g;simp [g.2]
 ·next h=>rw [if_neg h];exact g
theorem zJ0 (n:Bool) {d e:Int} (g:zA1 false d e=true):zA1 (n && decide (d ≠ 0)) d e=true:=by
 unfold zA1 at g ⊢
 split at g
 ·next h=>rw [if_pos h,h];simp at g;simp [g]
 ·next h=>rw [if_neg h];exact g
theorem zNX:zA1 false 1 2=true:=by decide
theorem zV3 (n:Bool) {d e:Int} (g:zA1 false d e=true):mulR (n && decide (d ≠ 0)) d e false 1 2=zG4 n (mulR false d e false 1 2):=by
 unfold mulR;rw [zJ0 n g,g,zNX,if_pos (show (true && true)=true from rfl),if_pos (show (true && true)=true from rfl)];have e1:((n && decide (d ≠ 0)) != false)=(n && decide (d ≠ 0)):=by cases (n && decide (d ≠ 0)) <;> rfl
 rw [e1,zJO];by_cases h:d=0
 ·subst h;have e2:(n && decide ((0:Int) ≠ 0))=false:=by simp
  rw [e2];refine zIJ n ?_;unfold putR fitR;have:((0:Int).toNat * (1:Int).toNat)=0:=rfl;rw [this,zDZ];rfl
 ·rw [decide_eq_true h,Bool.and_true];rfl
theorem zNO {d e:Int} (g:zA1 false d e=true):(mulR false d e false 1 2).neg=false/\((mulR false d e false 1 2).ok=true->zA1 false (mulR false d e false 1 2).d (mulR false d e false 1 2).e=true):=by
 unfold mulR;rw [g,zNX,if_pos (show (true && true)=true from rfl)];have e1:(false != false)=false:=rfl;rw [e1];refine ⟨zNH _ _ _,fun h=>?_⟩;have hk:=zKV h;rw [zNH] at hk;exact hk
theorem zHT (n:Bool):∀ (k:Nat) (ok:Bool) (d e:Int),(ok=true->zA1 false d e=true)->zAM k ⟨ok,n && decide (d ≠ 0),d,e⟩=zG4 n (zAM k ⟨ok,false,d,e⟩)
 | 0,_,_,_,_=>rfl
 | k+1,false,d,e,h=>by
  rw [zAM,zAM,if_neg (fun h=>Bool.noConfusion h),if_neg (fun h=>Bool.noConfusion h)];exact zHT n k false d e h
 | k+1,true,d,e,h=>by
  have g:=h rfl;obtain ⟨h1,h2⟩:=zNO g;rw [zAM,zAM,if_pos rfl,if_pos rfl,zV3 n g];obtain ⟨R,hR⟩:=nm (mulR false d e false 1 2);rw [hR] at h1 h2 ⊢;obtain ⟨ok,neg,d',e'⟩:=R;have h1:neg=false:=h1;subst h1;exact zHT n k ok d' e' h2
theorem zOV (n:Bool) {d e p:Int} (g:zA1 false d e=true):zAB (n && decide (d ≠ 0)) d e p 1=zG4 n (zAB false d e p 1):=by
 unfold zAB;rw [zJ0 n g,g]
 split
 ·unfold rndR
  split
  ·rfl
  ·rw [zJO];by_cases h:d=0
   ·subst h;have e2:(n && decide ((0:Int) ≠ 0))=false:=(by simp);rw [e2];refine zIJ n ?_;have:rndM (1:Int).toNat (0:Int).toNat (-p - e).toNat false=0:=by
     have:=zRD 1 0 (-p - e).toNat (by decide);rw [Nat.zero_mul] at this;exact this
    rw [this];unfold putR fitR;rw [zDZ];rfl
   ·rw [decide_eq_true h,Bool.and_true]
 ·simp [zG4,badR]
theorem zHU:∀ (k:Nat) (ok:Bool) (d e:Int),(ok=true->zA1 false d e=true)->(zAM k ⟨ok,false,d,e⟩).neg=false/\((zAM k ⟨ok,false,d,e⟩).ok=true->zA1 false (zAM k ⟨ok,false,d,e⟩).d (zAM k ⟨ok,false,d,e⟩).e=true)
 | 0,_,_,_,h=>⟨rfl,h⟩
 | k+1,false,d,e,h=>by
  rw [zAM,if_neg (fun h=>Bool.noConfusion h)];exact zHU k false d e h
 | k+1,true,d,e,h=>by
  have g:=h rfl;obtain ⟨h1,h2⟩:=zNO g;rw [zAM,if_pos rfl];obtain ⟨R,hR⟩:=nm (mulR false d e false 1 2);rw [hR] at h1 h2 ⊢;obtain ⟨ok,neg,d',e'⟩:=R;have h1:neg=false:=h1;subst h1;exact zHU k ok d' e' h2
theorem zPG (wh pl mb tm:Nat) (gr n:Bool) (d e:Int) (g:zA1 n d e=true) :
  numT wh pl mb gr tm true n d e =
   if (zAM tm ⟨true,n,d,e⟩).ok=true then
    if (zAB (zAM tm ⟨true,n,d,e⟩).neg (zAM tm ⟨true,n,d,e⟩).d (zAM tm ⟨true,n,d,e⟩).e ((pl+mb:Nat):Int) 1).ok=true then
     if (zAB (zAM tm ⟨true,n,d,e⟩).neg (zAM tm ⟨true,n,d,e⟩).d (zAM tm ⟨true,n,d,e⟩).e ((pl+mb:Nat):Int) 1).neg=true then
      45 :: zBN wh pl mb gr tm (zAB (zAM tm ⟨true,n,d,e⟩).neg (zAM tm ⟨true,n,d,e⟩).d (zAM tm ⟨true,n,d,e⟩).e ((pl+mb:Nat):Int) 1).d (zAB (zAM tm ⟨true,n,d,e⟩).neg (zAM tm ⟨true,n,d,e⟩).d (zAM tm ⟨true,n,d,e⟩).e ((pl+mb:Nat):Int) 1).e
     else zBN wh pl mb gr tm (zAB (zAM tm ⟨true,n,d,e⟩).neg (zAM tm ⟨true,n,d,e⟩).d (zAM tm ⟨true,n,d,e⟩).e ((pl+mb:Nat):Int) 1).d (zAB (zAM tm ⟨true,n,d,e⟩).neg (zAM tm ⟨true,n,d,e⟩).d (zAM tm ⟨true,n,d,e⟩).e ((pl+mb:Nat):Int) 1).e
    else [35]
   else [35]:=by
 have hn:n=(n && decide (d ≠ 0)):=by
  by_cases h:d=0
  ·have:=((zAN g).2.2.2.2.1 h).2;rw [this];rfl
  ·rw [decide_eq_true h,Bool.and_true]
 have hh:=zHT n tm true d e (fun _=>zCZ g);rw [<- hn] at hh;rw [hh];obtain ⟨k1,k2⟩:=zHU tm true d e (fun _=>zCZ g);unfold numT;obtain ⟨R,hR⟩:=nm (zAM tm ⟨true,false,d,e⟩);rw [hR] at k1 k2 ⊢;obtain ⟨ok,neg,d',e'⟩:=R;have k1:neg=false:=k1;subst k1;show (if ok=true then _ else _)=if ok=true then _ else _;cases ok
 ·rfl
 ·have g':=k2 rfl;rw [if_pos rfl,if_pos rfl];have hs:=zOV n (p:=((pl+mb:Nat):Int)) g';have e1:(zG4 n ⟨true,false,d',e'⟩).neg=(n && decide (d' ≠ 0)):=rfl;have e2:(zG4 n ⟨true,false,d',e'⟩).d=d':=rfl;have e3:(zG4 n ⟨true,false,d',e'⟩).e=e':=rfl;rw [e1,e2,e3,hs];obtain ⟨S,hS⟩:=nm (zAB false d' e' ((pl+mb:Nat):Int) 1);rw [hS];show (if S.ok=true then (if (n && true && decide (S.d ≠ 0))=true then _ else _) else _)=if S.ok=true then (if (n && decide (S.d ≠ 0))=true then _ else _) else _;rw [Bool.and_true];rfl
theorem of_hun:ofR 100 0=⟨true,false,1,2⟩:=by
 have hs:zAK 100 0=(1,2):=by
  rw [zB1 (by decide) (by decide),zB1 (by decide) (by decide),zAK];rfl
 have hn:¬ 15<nd 100:=by
  simp [nd]
 show (if -1000<=(0:Int)/\(0:Int)<=1000 then putR false 100 0 false else badR)=_;rw [if_pos (by decide)];unfold putR;rw [if_neg hn];unfold fitR;rw [hs];rfl
end Go.Proofs.YtjlojlgdkfpcdaaGreatDoor

namespace Go.Proofs.YtjlojlgdkfpcdaaGreatDoor
open Go.RowKit
def resW (R:DR):Value:=if R.ok=true then valV 1 R.neg R.d R.e [] else valV 4 false 0 0 [35,78,85,77,33]
theorem l7DecS (R:DR) (w:World):Calls Tryz.prog 142 #[resV R] w fun r w'=>r=.returned (resW R)/\Ext w w':=by
 obtain ⟨ok,n,d,e⟩:=R;obtain ⟨u0,u1,h0,h1,s0,s1,B0,B1,X⟩:=mkB2 w [.bool ok,.bool n,iQ d,iQ e] [iQ 0,.bool false,iQ 0,iQ 0,sV []] 99 33;have a0:=vC4 B0;show Calls _ _ #[.agg #[.bool ok,.bool n,iQ d,iQ e]] _ _;cases ok
 ·show Calls _ _ _ _ fun r w'=>r=.returned (valV 4 false 0 0 [35,78,85,77,33])/\Ext w w';go_enter Tryz.func142,Tryz.ntmps142;go_wp2_with fail;clear h0 s0 h1 s1 a0;refine (zVX [35,78,85,77,33] u1).mono ?_;rintro rr w2 ⟨rfl,e2⟩;obtain ⟨wy,hy,FX,⟨b0,b1,b2,b3,b4⟩,⟨fb0,fb1,fb2,fb3,fb4⟩,fd0,fd1,fd2,fd3,fd4⟩:=fin5 (B1.l e2) (xt X e2) (by omega) 4 false 0 0 [35,78,85,77,33];go_wp2_with fail;exact bodyPost_ret (v:=valV 4 false 0 0 [35,78,85,77,33]) (by simp [results,Tryz.results142,go_sem,fd0,fd1,fd2,fd3,fd4]) rfl ⟨rfl,FX⟩
 ·show Calls _ _ _ _ fun r w'=>r=.returned (valV 1 n d e [])/\Ext w w';go_enter Tryz.func142,Tryz.ntmps142;go_wp2_with fail;clear h0 s0 h1 s1 a0;refine (zSC n d e u1).mono ?_;rintro rr w2 ⟨rfl,e2⟩;obtain ⟨wy,hy,FX,⟨b0,b1,b2,b3,b4⟩,⟨fb0,fb1,fb2,fb3,fb4⟩,fd0,fd1,fd2,fd3,fd4⟩:=fin5 (B1.l e2) (xt X e2) (by omega) 1 n d e [];go_wp2_with fail;exact bodyPost_ret (v:=valV 1 n d e []) (by simp [results,Tryz.results142,go_sem,fd0,fd1,fd2,fd3,fd4]) rfl ⟨rfl,FX⟩
def zAL (n:Bool) (d e:Int):DR:=zAB n d e 0 (if n=true then 3 else 2)
theorem l7IntS (n:Bool) (d e:Int) (w:World):Calls Tryz.prog 80 #[decV n d e] w fun r w'=>r=.returned (resW (zAL n d e))/\Ext w w':=by
 obtain ⟨R,hR⟩:=nm (zAL n d e);have CR:Hid (∀ W,Calls Tryz.prog 84 #[decV n d e,iQ 0,iQ (if n=true then 3 else 2)] W fun r w'=>r=.returned (resV R)/\Ext W w'):=fun W=>by rw [<- hR];exact zRB n d e 0 _ W
 have CL:Hid (∀ W,Calls Tryz.prog 142 #[resV R] W fun r w'=>r=.returned (resW R)/\Ext W w'):=fun W=>l7DecS R W;rw [hR];have HRW:∃ k n' d' e' t,resW R=valV k n' d' e' t:=by
  unfold resW
  split
  ·exact ⟨_,_,_,_,_,rfl⟩
  ·exact ⟨_,_,_,_,_,rfl⟩
 obtain ⟨k,n',d',e',t,hV⟩:=HRW;rw [hV] at CL ⊢;obtain ⟨u0,u1,h0,h1,s0,s1,B0,B1,X⟩:=mkB2 w [.bool n,iQ d,iQ e] [iQ 0,.bool false,iQ 0,iQ 0,sV []] 31 33;have a0:=vC3 B0;clear hR hV;cases n
 all_goals
  go_enter Tryz.func80,Tryz.ntmps80;go_wp2_with fail;refine (CR.out _).mono ?_;rintro rr w2 ⟨rfl,e2⟩;go_wp2_with fail;refine (CL.out _).mono ?_;rintro rr w3 ⟨rfl,e3⟩;obtain ⟨wy,hy,FX,⟨b0,b1,b2,b3,b4⟩,⟨fb0,fb1,fb2,fb3,fb4⟩,fd0,fd1,fd2,fd3,fd4⟩:=fin5 (B1.l (xt e2 e3)) (xt X (xt e2 e3)) (by omega) k n' d' e' t;clear h0 s0 h1 s1 a0;go_wp2_with fail;exact bodyPost_ret (v:=valV k n' d' e' t) (by simp [results,Tryz.results80,go_sem,fd0,fd1,fd2,fd3,fd4]) rfl ⟨rfl,FX⟩
end Go.Proofs.YtjlojlgdkfpcdaaGreatDoor

namespace Go.Proofs.YtjlojlgdkfpcdaaGreatDoor
theorem zIS (n:Bool) (e:Int) (m:Bool):putR n 0 e m=⟨true,false,0,0⟩:=by
 unfold putR;rw [zDZ,if_neg (by decide)];unfold fitR;rfl
theorem zR1 (n:Bool) (d e:Int):subR n d e n d e=⟨zA1 n d e,false,0,0⟩:=by
 unfold subR addR;by_cases h:d=0
 ·subst h;simp only [if_true,Bool.and_self]
  split
  ·rename_i hg;rw [hg];unfold sumE sumZ;have z:∀ (x y:Int),sumI n 0 x n 0 y=0:=fun x y=>by unfold sumI sgn;simp
   rw [z];simp only [Int.natAbs_zero];rw [zIS]
  ·rename_i hg;have:zA1 n 0 e=false:=by simpa using hg
   rw [this];rfl
 ·simp only [h,if_false];have hn:zA1 (!n) d e=zA1 n d e:=by unfold zA1;simp only [h,if_false]
  rw [hn,Bool.and_self]
  split
  ·rename_i hg;rw [hg];unfold sumE sumZ;simp only [h,if_false];have z:sumI n d e (!n) d e=0:=by
    unfold sumI sgn;cases n <;> simp <;> omega
   rw [z];simp only [Int.natAbs_zero];rw [zIS]
  ·rename_i hg;have:zA1 n d e=false:=by simpa using hg
   rw [this];rfl
end Go.Proofs.YtjlojlgdkfpcdaaGreatDoor

namespace Go.Proofs.YtjlojlgdkfpcdaaGreatDoor
def LeZ (P:Nat) (e:Int) (B:Nat):Prop:=P * 10 ^ e.toNat<=B * 10 ^ (-e).toNat
theorem zFS (e:Int) (B:Nat):LeZ 0 e B:=by unfold LeZ;omega
theorem zH5 {Q:Nat} {e:Int} {B:Nat}:LeZ (10 * Q) e B ↔ LeZ Q (e+1) B:=by
 unfold LeZ;by_cases h:0<=e
 ·have e1:(e+1).toNat=e.toNat+1:=by omega
  have e2:(-(e+1)).toNat=0:=by omega
  have e3:(-e).toNat=0:=by omega
  rw [e1,e2,e3,Nat.pow_succ];have:10 * Q * 10 ^ e.toNat=Q * (10 ^ e.toNat * 10):=by
   rw [Nat.mul_comm 10 Q,Nat.mul_assoc,Nat.mul_comm 10]
  rw [this]
 ·have e1:(e+1).toNat=0:=by omega
  have e2:(-e).toNat=(-(e+1)).toNat+1:=by omega
  have e3:e.toNat=0:=by omega
  rw [e1,e2,e3,Nat.pow_succ,<- Nat.mul_assoc];obtain ⟨X,hX⟩:=nm (B * 10 ^ (-(e+1)).toNat);rw [hX];omega
theorem zH6 {P Q:Nat} {e:Int} {B C:Nat} (h:LeZ P e B) (hQ:Q<=P) (hB:B<=C):LeZ Q e C:=by
 unfold LeZ at h ⊢;exact Nat.le_trans (Nat.mul_le_mul_right _ hQ) (Nat.le_trans h (Nat.mul_le_mul_right _ hB))
theorem zL3 {P:Nat} {e:Int} {B:Nat} (k:Nat) (h:LeZ P e B):LeZ (P * k) e (B * k):=by
 unfold LeZ at h ⊢;rw [Nat.mul_right_comm,Nat.mul_right_comm B];exact Nat.mul_le_mul_right _ h
theorem zMC:∀ (c:Nat) {P:Nat} {e:Int} {B:Nat},LeZ P e B->LeZ (P / 10 ^ c) (e+c) B
 | 0,P,e,B,h=>by simpa using h
 | c+1,P,e,B,h=>by
  have h1:=zMC c h;have h2:LeZ (10 * (P / 10 ^ c / 10)) (e+c) B:=zH6 h1 (by omega) (Nat.le_refl _);have h3:=zH5.1 h2;rw [Nat.div_div_eq_div_mul,<- Nat.pow_succ] at h3;have e1:e+((c+1:Nat):Int)=e+c+1:=by omega
  rw [e1];exact h3
theorem zSV (P:Nat) (e:Int) (B:Nat) (h:LeZ P e B):LeZ (zAK P e).1 (zAK P e).2 B:=by
 induction P using Nat.strongRecOn generalizing e with
 | ind P ih =>
  by_cases q:P ≠ 0/\P % 10=0
  ·rw [zB1 q.1 q.2];refine ih (P / 10) (by omega) (e+1) (zH5.1 ?_);have:10 * (P / 10)=P:=by omega
   rw [this];exact h
  ·rw [zAK,dif_neg q];exact h
def LeD (r:DR) (B:Nat):Prop:=r.neg=false/\0<=r.d/\LeZ r.d.toNat r.e B
theorem zJW (B:Nat):LeD badR B:=⟨rfl,Int.le_refl _,zFS _ _⟩
theorem zSW {P:Nat} {e:Int} {B:Nat} (h:LeZ P e B):LeD (fitR false P e) B:=by
 unfold fitR
 split
 ·exact ⟨rfl,Int.le_refl _,zFS _ _⟩
 ·split
  ·exact ⟨rfl,Int.le_refl _,zFS _ _⟩
  ·split
   ·exact ⟨rfl,Int.le_refl _,zFS _ _⟩
   ·exact ⟨rfl,by simp,by simpa using zSV P e B h⟩
theorem zMD {P:Nat} {e:Int} {B:Nat} (h:LeZ P e B):LeD (putR false P e false) (B * 2):=by
 unfold putR
 split
 ·next h15 =>
  apply zSW;have hc:=zL3 2 (zMC (nd P - 15) h);have h1:10 ^ (nd P - 15)<=P:=zSJ (by omega);have h2:0<P / 10 ^ (nd P - 15):=Nat.div_pos h1 (zA7 _);refine zH6 hc ?_ (Nat.le_refl _);unfold rndM;obtain ⟨X,hX⟩:=nm (P / 10 ^ (nd P - 15));rw [hX] at h2 ⊢
  split <;> omega
 ·exact zSW (zH6 h (Nat.le_refl _) (by omega))
theorem leD_mul {d e:Int} {B:Nat} (h:LeZ d.toNat e B):LeD (mulR false d e false 864 2) (B * 86400 * 2):=by
 unfold mulR
 split
 ·refine zMD ?_;have h1:=zL3 86400 h;have e1:d.toNat * 86400=10 * (10 * (d.toNat * 864)):=by omega
  rw [e1] at h1;have h2:=zH5.1 (zH5.1 h1);have e2:e+1+1=e+2:=by omega
  rw [e2] at h2;exact h2
 ·exact zJW _
theorem zND (P c:Nat):rndM 2 P c false=P / 10 ^ c:=by
 unfold rndM zAV;simp
theorem zVF {d e:Int} {B:Nat} (h0:0<=d) (h:LeZ d.toNat e B):LeD (zAB false d e 0 2) (B * 2):=by
 unfold zAB
 split
 ·unfold rndR
  split
  ·exact ⟨rfl,h0,zH6 h (Nat.le_refl _) (by omega)⟩
  ·next hc =>
   have e2:(2:Int).toNat=2:=rfl;rw [e2,zND];refine zMD ?_;have h1:=zMC (-0 - e).toNat h;have e3:e+(((-0 - e).toNat:Nat):Int) = -0:=by omega
   rw [e3] at h1;exact h1
 ·exact zJW _
theorem int_le {r:DR} {B:Nat} (h:LeD r B):0<=intR r.neg r.d r.e/\intR r.neg r.d r.e<=B:=by
 obtain ⟨h1,h2,h3⟩:=h;unfold intR
 split
 ·next hk =>
  unfold zCF at hk;simp only [Bool.and_eq_true,decide_eq_true_eq] at hk;obtain ⟨_,he,_,_⟩:=hk;rw [h1];unfold sgn;rw [if_neg (by decide)];unfold LeZ at h3;have e1:(-r.e).toNat=0:=by omega
  rw [e1,Nat.pow_zero,Nat.mul_one] at h3;obtain ⟨k,hk⟩:∃ k:Nat,r.d=k:=⟨r.d.toNat,by omega⟩;rw [hk] at h3 ⊢;have e2:(k:Int).toNat=k:=rfl;rw [e2] at h3;have e3:(k:Int) * 10 ^ r.e.toNat=((k * 10 ^ r.e.toNat:Nat):Int):=by rw [Int.natCast_mul,Int.natCast_pow];rfl
  rw [e3];omega
 ·omega
theorem nd_good {d:Int} (h0:0<=d) (h1:d<1000000000000000) (c:Nat) (hc:1<=c):nd (d.toNat / 10 ^ c+1)<=15:=by
 apply zIC;have e15:(10:Nat) ^ 15=1000000000000000:=by decide
 have h2:d.toNat / 10 ^ c<=d.toNat / 10:=Nat.div_le_div_left (by have:=zB3 hc;omega) (by decide);omega
theorem zOR (P:Nat) (e:Int):∃ j:Nat,(zAK P e).2=e+j/\P=(zAK P e).1 * 10 ^ j:=by
 induction P using Nat.strongRecOn generalizing e with
 | ind P ih =>
  by_cases q:P ≠ 0/\P % 10=0
  ·rw [zB1 q.1 q.2];obtain ⟨j,hj,hP⟩:=ih (P / 10) (by omega) (e+1);refine ⟨j+1,by omega,?_⟩;rw [Nat.pow_succ,<- Nat.mul_assoc,<- hP];omega
  ·rw [zAK,dif_neg q];exact ⟨0,by simp,by simp⟩
theorem zHX (n:Bool) (P:Nat) (hP:P<1000000000000000):(P=0/\fitR n P 0=⟨true,false,0,0⟩)\/(P ≠ 0/\∃ (Q j:Nat),fitR n P 0=⟨true,n,Q,j⟩/\P=Q * 10 ^ j/\Q ≠ 0):=by
 unfold fitR;by_cases h:P=0
 ·exact .inl ⟨h,by rw [if_pos h]⟩
 ·refine .inr ⟨h,?_⟩;obtain ⟨j,hj,hPj⟩:=zOR P 0;have hq:(zAK P 0).1 ≠ 0:=by
   intro e;rw [e,Nat.zero_mul] at hPj;exact h hPj
  have hj15:j<15:=by
   apply zCD;have e15:(10:Nat) ^ 15=1000000000000000:=by decide
   rw [e15];have:10 ^ j<=(zAK P 0).1 * 10 ^ j:=Nat.le_mul_of_pos_left _ (by omega);omega
  rw [if_neg h,if_neg (by omega),if_neg (by omega)];refine ⟨(zAK P 0).1,j,?_,hPj,hq⟩;rw [hj];simp
theorem zN6 (n:Bool) (d e:Int) (P:Nat) (he:e<0) (hd:d ≠ 0) (_h0:0<=d) (hP:P<1000000000000000) (D:Nat) (hD:sgn n d+sgn (!n) ((P * 10 ^ (-e).toNat:Nat):Int)=D) (hl:D<=10 ^ (-e).toNat) :
  LeD (subR n d e (fitR n P 0).neg (fitR n P 0).d (fitR n P 0).e) 2:=by
 have hz:LeZ D e 1:=by
  unfold LeZ;have:e.toNat=0:=by omega
  rw [this];omega
 have HP:=zMD hz
 rcases zHX n P hP with ⟨h,hf⟩ | ⟨h,Q,j,hf,hQ,hq⟩
 ·rw [hf];subst h;have hDn:(D:Int)=sgn n d:=by rw [<- hD];cases n <;> simp [sgn]
  have hS:sumE n d e false 0 0=putR false D e false:=by
   unfold sumE;rw [if_neg hd,if_pos rfl];unfold sumZ sumI;have e1:(e - min e e).toNat=0:=by omega
   have e2:min e e=e:=by omega
   rw [e1,e2];have e3:sgn n d * 10 ^ 0+sgn false 0 * 10 ^ 0=(D:Int):=by rw [hDn];simp [sgn]
   rw [e3,decide_eq_false (by omega)];rfl
  show LeD (subR n d e false 0 0) 2;unfold subR addR;rw [if_pos rfl,hS]
  split
  ·exact HP
  ·exact zJW _
 ·rw [hf];have hq':((Q:Nat):Int) ≠ 0:=by omega
  have hS:sumE n d e (!n) Q j=putR false D e false:=by
   unfold sumE;rw [if_neg hd,if_neg hq'];unfold sumZ sumI;have e2:min e (j:Int)=e:=by omega
   have e1:(e - e).toNat=0:=by omega
   have e4:((j:Int) - e).toNat=j+(-e).toNat:=by omega
   rw [e2,e1,e4];have e3:sgn n d * 10 ^ 0+sgn (!n) (Q:Int) * 10 ^ (j+(-e).toNat)=(D:Int):=by
    rw [<- hD,hQ];have:((Q * 10 ^ j * 10 ^ (-e).toNat:Nat):Int)=(Q:Int) * 10 ^ (j+(-e).toNat):=by
     rw [Nat.mul_assoc,<- Nat.pow_add,Int.natCast_mul,Int.natCast_pow];rfl
    rw [this];cases n <;> simp [sgn,Int.neg_mul]
   rw [e3,decide_eq_false (by omega)];rfl
  show LeD (subR n d e n Q j) 2;unfold subR addR;rw [if_neg hq',hS]
  split
  ·exact HP
  ·exact zJW _
theorem zPS (n:Bool) (d e:Int) (g:zA1 n d e=true):(zAL n d e).ok=true/\LeD (subR n d e (zAL n d e).neg (zAL n d e).d (zAL n d e).e) 2:=by
 obtain ⟨g0,g1,g2,g3,g4,g5⟩:=zAN g;have hF:zAL n d e=rndR n d e 0 (if n=true then 3 else 2):=by
  unfold zAL zAB;have hm:decide (0<=(if n=true then (3:Int) else 2)/\(if n=true then (3:Int) else 2)<=3)=true:=by cases n <;> decide
  rw [g,hm,if_pos (by decide)];cases n <;> rfl
 rw [hF];by_cases he:0<=e
 ·have h1:rndR n d e 0 (if n=true then 3 else 2)=⟨true,n,d,e⟩:=by unfold rndR;rw [if_pos (by omega)]
  rw [h1];refine ⟨rfl,?_⟩;show LeD (subR n d e n d e) 2;rw [zR1];exact ⟨rfl,Int.le_refl _,zFS _ _⟩
 ·have hd:d ≠ 0:=fun h=>by have:=(g4 h).1;omega
  have hm:=g5 hd;obtain ⟨c,hc⟩:∃ c:Nat,(-e).toNat=c:=⟨_,rfl⟩;have hc1:1<=c:=by omega
  have hnd:=nd_good g0 g1 c hc1;obtain ⟨k,hk⟩:∃ k:Nat,d=k:=⟨d.toNat,by omega⟩;subst hk;have ek:((k:Nat):Int).toNat=k:=rfl;rw [ek] at hnd;have hT:0<10 ^ c:=zA7 c;have hdm:=Nat.div_add_mod k (10 ^ c);have hml:=Nat.mod_lt k hT;have hdl:k / 10 ^ c+1<1000000000000000:=by
   have h2:k / 10 ^ c<=k / 10:=Nat.div_le_div_left (by have:=zB3 hc1;omega) (by decide);omega
  have hmz:k % 10 ^ c ≠ 0:=by
   intro h;obtain ⟨c',rfl⟩:∃ c',c=c'+1:=⟨c - 1,by omega⟩;rw [h,Nat.pow_succ] at hdm;have:k % 10=0:=by
    rw [<- hdm,Nat.add_zero,Nat.mul_comm (10 ^ c') 10,Nat.mul_assoc];exact Nat.mul_mod_right 10 _
   omega
  have hec:(-0 - e).toNat=c:=by omega
  obtain ⟨T,hTT⟩:=nm (10 ^ c);obtain ⟨X,hX⟩:=nm (k / 10 ^ c);obtain ⟨Y,hY⟩:=nm (k % 10 ^ c);cases n
  ·have h1:rndR false k e 0 (if false=true then 3 else 2)=fitR false (k / 10 ^ c) 0:=by
    unfold rndR;rw [if_neg (by omega),if_neg (by decide),hec,ek,zND];unfold putR;rw [if_neg (by
     intro h;have:=zSJ h;have:=(zE5 (k / 10 ^ c+1)).1;have h15:=zB3 hnd;omega)]
    rfl
   rw [h1];refine ⟨?_,zN6 false k e (k / 10 ^ c) (by omega) hd g0 (by omega) (k % 10 ^ c) ?_ (by rw [hc];omega)⟩
   ·rcases zHX false (k / 10 ^ c) (by omega) with ⟨_,hf⟩ | ⟨_,Q,j,hf,_⟩ <;> rw [hf]
   ·rw [hc];unfold sgn;simp only [Bool.not_false,if_true];rw [if_neg (by decide)];have e5:k / 10 ^ c * 10 ^ c=10 ^ c * (k / 10 ^ c):=Nat.mul_comm _ _;rw [e5];omega
  ·have h1:rndR true k e 0 (if true=true then 3 else 2)=fitR true (k / 10 ^ c+1) 0:=by
    unfold rndR;rw [if_neg (by omega),if_pos rfl,hec,ek];have hr:rndM 3 k c false=k / 10 ^ c+1:=by
     unfold rndM;have hne:zCL k c false ≠ 0:=by
      unfold zCL
      split
      ·decide
      ·split
       ·decide
       ·rw [if_pos (.inl (by omega))];decide
     have hg:zAV 3 (decide (k / 10 ^ c % 2=1)) (zCL k c false)=true:=by
      unfold zAV;simp [hne]
     rw [if_pos hg]
    rw [hr];unfold putR;rw [if_neg (by omega)];rfl
   rw [h1];refine ⟨?_,zN6 true k e (k / 10 ^ c+1) (by omega) hd g0 (by omega) (10 ^ c - k % 10 ^ c) ?_ (by rw [hc];omega)⟩
   ·rcases zHX true (k / 10 ^ c+1) (by omega) with ⟨_,hf⟩ | ⟨_,Q,j,hf,_⟩ <;> rw [hf]
   ·rw [hc];unfold sgn;simp only [Bool.not_true,if_true];rw [if_neg (by decide)];have e5:(k / 10 ^ c+1) * 10 ^ c=10 ^ c * (k / 10 ^ c)+10 ^ c:=(by rw [Nat.add_mul,Nat.mul_comm,Nat.one_mul]);rw [e5];omega
theorem zHI (n:Bool) (d e:Int) (g:zA1 n d e=true) :
  (zAL n d e).ok=true/\0<=intR (secR n d e (zAL n d e).neg (zAL n d e).d (zAL n d e).e).neg (secR n d e (zAL n d e).neg (zAL n d e).d (zAL n d e).e).d (secR n d e (zAL n d e).neg (zAL n d e).d (zAL n d e).e).e
   /\ intR (secR n d e (zAL n d e).neg (zAL n d e).d (zAL n d e).e).neg (secR n d e (zAL n d e).neg (zAL n d e).d (zAL n d e).e).d (secR n d e (zAL n d e).neg (zAL n d e).d (zAL n d e).e).e<=1000000:=by
 obtain ⟨h1,h2⟩:=zPS n d e g;refine ⟨h1,?_⟩;obtain ⟨F,hF⟩:=nm (zAL n d e);rw [hF] at h2 ⊢;unfold secR;obtain ⟨S,hS⟩:=nm (subR n d e F.neg F.d F.e);rw [hS] at h2;simp only [hS];obtain ⟨s1,s2,s3⟩:=h2;rw [s1];have hm:=leD_mul s3;obtain ⟨M,hM⟩:=nm (mulR false S.d S.e false 864 2);rw [hM] at hm ⊢;obtain ⟨m1,m2,m3⟩:=hm;rw [m1];have hr:=int_le (zVF m2 m3);exact ⟨hr.1,by have:=hr.2;omega⟩
end Go.Proofs.YtjlojlgdkfpcdaaGreatDoor

namespace Go.Proofs.YtjlojlgdkfpcdaaGreatDoor
open Go.RowKit
theorem zBK (P:UInt8->Bool) (l:BL):(l.takeWhile P).length+(l.dropWhile P).length=l.length:=by
 have:=congrArg List.length (List.takeWhile_append_dropWhile (p:=P) (l:=l));rw [List.length_append] at this;exact this
theorem zKI (l:BL) (c:UInt8):l.length - (Lib.trimLeftS l [c]).length=(l.takeWhile (· == c)).length:=by
 have h:=zBK (· == c) l;have e:Lib.trimLeftS l [c]=l.dropWhile (· == c):=by rw [Lib.trimLeftS_one];rfl
 rw [e];omega
theorem runI (l:BL) (c:UInt8) (m:Nat) (hc:c=48\/c=46\/c=35\/c=37) (hl:l.length<=1000) (w:World) :
  Calls Tryz.prog 106 #[sV l,sV [c],iQ (m:Int)] w fun e w'=>e=.returned (iQ (runF c m l:Nat))/\Ext w w':=by
 have TL:=zQO l c hc w;have hlen:=zKI l c;have hle:(Lib.trimLeftS l [c]).length<=l.length:=by
  have h:=zBK (· == c) l;have e:Lib.trimLeftS l [c]=l.dropWhile (· == c):=by rw [Lib.trimLeftS_one];rfl
  rw [e];omega
 obtain ⟨R,hR⟩:=nm (runF c m l);have HR:Hid (min (l.length - (Lib.trimLeftS l [c]).length) m=R):=by show _=_;rw [hlen,<- hR];rfl
 rw [hR];obtain ⟨t,ht⟩:=nm (Lib.trimLeftS l [c]);rw [ht] at TL HR hle;have z1:(⟨l.toArray⟩:ByteArray).size=l.length:=rfl;have z2:(⟨t.toArray⟩:ByteArray).size=t.length:=rfl;obtain ⟨n,hn⟩:=nm (l.length);obtain ⟨q,hq⟩:=nm (t.length);rw [hn] at z1 HR hle hl;rw [hq] at z2 HR hle;clear hR ht hn hq hlen hc;go_enter Tryz.func106,Tryz.ntmps106;go_wp2_with fail;refine TL.mono ?_;rintro e w1 ⟨rfl,e1⟩;go_wp2_with fail
 all_goals go_ret
 all_goals exact ⟨zA8 (by have:=HR.out;omega),e1⟩
theorem index34 (r:BL):Lib.index r [34]=if r.dropWhile nq=[] then -1 else ((r.takeWhile nq).length:Int):=by
 induction r with
 | nil=>rfl
 | cons b l ih =>
  by_cases hb:b=34
  ·subst hb;have h0:([34]:List UInt8).isPrefixOf (34 :: l)=true:=by simp [List.isPrefixOf]
   unfold Lib.index;rw [if_pos h0];simp [List.dropWhile,List.takeWhile,nq]
  ·have hq:nq b=true:=by simpa [nq] using hb
   have h0:([34]:List UInt8).isPrefixOf (b :: l)=false:=by
    simp [List.isPrefixOf];exact fun e=>hb e.symm
   unfold Lib.index;rw [h0,ih];simp only [List.dropWhile,List.takeWhile,hq];by_cases hd:l.dropWhile nq=[]
   ·rw [if_pos hd,if_pos hd];rfl
   ·rw [if_neg hd,if_neg hd];have:(((l.takeWhile nq).length:Int) == -1)=false:=(by rw [beq_eq_false_iff_ne];omega);simp [this]
theorem zEZ (P:UInt8->Bool) (l:BL):l.take (l.takeWhile P).length=l.takeWhile P:=by
 conv=>lhs;arg 2;rw [<- List.takeWhile_append_dropWhile (p:=P) (l:=l)]
 exact List.take_left
theorem zIE (P:UInt8->Bool) (l:BL):l.drop (l.takeWhile P).length=l.dropWhile P:=by
 conv=>lhs;arg 2;rw [<- List.takeWhile_append_dropWhile (p:=P) (l:=l)]
 exact List.drop_left
theorem cut34 (r:BL):(Lib.cut r [34]).2.2=decide (r.dropWhile nq ≠ [])/\(r.dropWhile nq ≠ []->(Lib.cut r [34]).1=r.takeWhile nq)/\(Lib.cut r [34]).1.length<=r.length:=by
 unfold Lib.cut;rw [index34];by_cases h:r.dropWhile nq=[]
 ·rw [if_pos h];simp [h]
 ·rw [if_neg h,if_pos (by omega)];refine ⟨by simp [h],fun _=>?_,?_⟩
  ·show r.take _=_;rw [Int.toNat_natCast,zEZ]
  ·show (r.take _).length<=_;rw [List.length_take];omega
theorem zEA {l:BL} (h:Lib.hasPrefix l [34]=false):zCC l=0:=by
 unfold zCC;cases l with
 | nil=>rfl
 | cons c r =>
  have:(c == 34)=false:=by
   simp [Lib.hasPrefix,List.isPrefixOf] at h;rw [beq_eq_false_iff_ne];exact fun e=>h e.symm
  have e:qT (c :: r)=none:=by
   show (if (c == 34)=true then _ else none)=none;rw [this];rfl
  rw [e]
theorem zKU {l:BL} (h:Lib.hasPrefix l [34]=true):zCC l=if ((l.drop 1).dropWhile nq ≠ [])/\((l.drop 1).takeWhile nq ≠ [])/\((l.drop 1).takeWhile nq).length<=20/\zBW ((l.drop 1).takeWhile nq)=true then ((l.drop 1).takeWhile nq).length+2 else 0:=by
 have e:=qT_eq h;unfold quoS at e;rw [if_pos h] at e;unfold zCC;rw [e]
 split
 ·rename_i x hx
  split at hx
  ·cases hx;rename_i hc;rw [if_pos hc]
  ·cases hx
 ·rename_i hx
  split at hx
  ·cases hx
  ·rename_i hc;rw [if_neg hc]
theorem zRO (l:BL) (hl:l.length<=1000) (w:World) (T:TabK w) :
  Calls Tryz.prog 104 #[sV l] w fun e w'=>e=.returned (iQ (zCC l:Nat))/\Ext w w':=by
 have CP:=zJB l 34 w;obtain ⟨rest,hrest⟩:=nm (Lib.trimPrefix l [34]);have hrl:rest.length<=1000:=by
  rw [<- hrest];unfold Lib.trimPrefix;split
  ·rw [List.length_drop];omega
  ·exact hl
 have CU:=cutK rest w hrl T;obtain ⟨c1,c2,c3⟩:=cut34 rest;obtain ⟨b1,hb1⟩:=nm (Lib.hasPrefix l [34]);obtain ⟨t,ht⟩:=nm ((Lib.cut rest [34]).1);obtain ⟨t2,ht2⟩:=nm ((Lib.cut rest [34]).2.1);obtain ⟨b2,hb2⟩:=nm ((Lib.cut rest [34]).2.2);have PL:=fun W=>plainI t W (by rw [<- ht];omega);have HR:Hid (zCC l=if b1=true/\b2=true/\t ≠ []/\t.length<=20/\zBW t=true then t.length+2 else 0):=by
  show _=_;cases b1 with
  | false=>rw [zEA hb1];simp
  | true =>
   have hr:l.drop 1=rest:=by rw [<- hrest];unfold Lib.trimPrefix;rw [if_pos hb1];rfl
   rw [zKU hb1,hr];rw [hb2] at c1;by_cases hD:rest.dropWhile nq=[]
   ·have:b2=false:=(by rw [c1];simp [hD]);rw [this,if_neg (fun h=>h.1 hD)];simp
   ·have:b2=true:=(by rw [c1];simp [hD]);have hT:rest.takeWhile nq=t:=(by rw [<- ht];exact (c2 hD).symm);rw [this,hT];by_cases hh:t ≠ []/\t.length<=20/\zBW t=true
    ·rw [if_pos ⟨hD,hh⟩,if_pos ⟨rfl,rfl,hh⟩]
    ·rw [if_neg (fun h=>hh h.2),if_neg (fun h=>hh h.2.2)]
 rw [hrest,hb1] at CP;rw [ht,ht2,hb2] at CU;obtain ⟨R,hR⟩:=nm (zCC l);rw [hR] at HR ⊢;have z2:(⟨t.toArray⟩:ByteArray).size=t.length:=rfl;have htl:t.length<=1000:=by rw [<- ht];omega
 obtain ⟨q,hq⟩:=nm (t.length);have HQ:Hid (t.length=q):=hq;rw [hq] at HR z2 htl;clear hrest hb1 ht ht2 hb2 hR c1 c2 c3 hq T;cases b1
 ·have HE:Hid (R=0):=by show _=_;rw [HR.out];simp
  clear HR PL;go_enter Tryz.func104,Tryz.ntmps104;go_wp2_with fail;refine CP.mono ?_;rintro e w1 ⟨rfl,rfl⟩;go_wp2_with fail;refine CU.mono ?_;rintro e w2 ⟨rfl,e2⟩;go_wp2_with fail;go_ret;exact ⟨zA8 (by rw [HE.out];rfl),e2⟩
 cases b2
 ·have HE:Hid (R=0):=by show _=_;rw [HR.out];simp
  clear HR PL;go_enter Tryz.func104,Tryz.ntmps104;go_wp2_with fail;refine CP.mono ?_;rintro e w1 ⟨rfl,rfl⟩;go_wp2_with fail;refine CU.mono ?_;rintro e w2 ⟨rfl,e2⟩;go_wp2_with fail;go_ret;exact ⟨zA8 (by rw [HE.out];rfl),e2⟩
 by_cases hte:t=[]
 ·have HE:Hid (R=0):=by show _=_;rw [HR.out];simp [hte]
  subst hte;clear HR PL;go_enter Tryz.func104,Tryz.ntmps104;go_wp2_with fail;refine CP.mono ?_;rintro e w1 ⟨rfl,rfl⟩;go_wp2_with fail;refine CU.mono ?_;rintro e w2 ⟨rfl,e2⟩;go_wp2_with fail;go_ret;exact ⟨zA8 (by rw [HE.out];rfl),e2⟩
 have he:(t == [])=false:=by rw [beq_eq_false_iff_ne];exact hte
 by_cases h20:q<=20
 ·have i20:(q:Int)<=20:=by omega
  obtain ⟨pb,hpb⟩:=nm (zBW t);rw [hpb] at HR;simp only [hpb] at PL;cases pb
  ·have HE:Hid (R=0):=by show _=_;rw [HR.out];simp
   clear HR hpb;go_enter Tryz.func104,Tryz.ntmps104;go_wp2_with fail;refine CP.mono ?_;rintro e w1 ⟨rfl,rfl⟩;go_wp2_with fail;refine CU.mono ?_;rintro e w2 ⟨rfl,e2⟩;go_wp2_with fail;refine (PL _).mono ?_;rintro e w3 ⟨rfl,rfl⟩;go_wp2_with fail;go_ret;exact ⟨zA8 (by rw [HE.out];rfl),e2⟩
  ·have HE:Hid (R=q+2):=by show _=_;rw [HR.out,if_pos ⟨rfl,rfl,hte,h20,rfl⟩]
   clear HR hpb;go_enter Tryz.func104,Tryz.ntmps104;go_wp2_with fail;refine CP.mono ?_;rintro e w1 ⟨rfl,rfl⟩;go_wp2_with fail;refine CU.mono ?_;rintro e w2 ⟨rfl,e2⟩;go_wp2_with fail;refine (PL _).mono ?_;rintro e w3 ⟨rfl,rfl⟩;go_wp2_with fail;go_ret;exact ⟨zA8 (by rw [HE.out];omega),e2⟩
 ·have i20:20<(q:Int):=by omega
  have HE:Hid (R=0):=by show _=_;rw [HR.out,if_neg (fun h=>h20 h.2.2.2.1)]
  clear HR PL;go_enter Tryz.func104,Tryz.ntmps104;go_wp2_with fail;refine CP.mono ?_;rintro e w1 ⟨rfl,rfl⟩;go_wp2_with fail;refine CU.mono ?_;rintro e w2 ⟨rfl,e2⟩;go_wp2_with fail;go_ret;exact ⟨zA8 (by rw [HE.out];rfl),e2⟩
abbrev wordsV:Value:=.agg zD5.toArray
theorem word_at (k:Nat) (hk:k<14):∃ o,zAG[k]?=some o/\∀ W:World,(Instr.index 197 wordsV (iQ k)).run Tryz.prog W=.ok (sV o) W:=by
 match k,hk with
 | 0,_=>exact ⟨_,rfl,fun W=>by kernel_rfl⟩
 | 1,_=>exact ⟨_,rfl,fun W=>by kernel_rfl⟩
 | 2,_=>exact ⟨_,rfl,fun W=>by kernel_rfl⟩
 | 3,_=>exact ⟨_,rfl,fun W=>by kernel_rfl⟩
 | 4,_=>exact ⟨_,rfl,fun W=>by kernel_rfl⟩
 | 5,_=>exact ⟨_,rfl,fun W=>by kernel_rfl⟩
 | 6,_=>exact ⟨_,rfl,fun W=>by kernel_rfl⟩
 | 7,_=>exact ⟨_,rfl,fun W=>by kernel_rfl⟩
 | 8,_=>exact ⟨_,rfl,fun W=>by kernel_rfl⟩
 | 9,_=>exact ⟨_,rfl,fun W=>by kernel_rfl⟩
 | 10,_=>exact ⟨_,rfl,fun W=>by kernel_rfl⟩
 | 11,_=>exact ⟨_,rfl,fun W=>by kernel_rfl⟩
 | 12,_=>exact ⟨_,rfl,fun W=>by kernel_rfl⟩
 | 13,_=>exact ⟨_,rfl,fun W=>by kernel_rfl⟩
theorem wordI (l:BL) (w:World) (T:TabK w):Calls Tryz.prog 131 #[sV l] w fun e w'=>e=.returned (sV (zAC l))/\w'=w:=by
 have HF:Hid (∀ (k:Nat) o,zAG[k]?=some o->Lib.hasPrefix l o=true->(∀ (j:Nat) o,j<k->zAG[j]?=some o->Lib.hasPrefix l o=false)->zAC l=o):=fun k o h1 h2 h3=>zMX h1 h2 h3;have HX:Hid ((∀ (j:Nat) o,zAG[j]?=some o->Lib.hasPrefix l o=false)->zAC l=[]):=fun h=>zG3 h;obtain ⟨R,hR⟩:=nm (zAC l);rw [hR] at HF HX ⊢;clear hR;have hr':w.rangeAt 3 0 zD5:=T.2.2;clear T;go_enter Tryz.func131,Tryz.ntmps131;go_wp2_with (refine wpList_load_mid rfl _ _ rfl 3 0 rfl zD5 _ hr' Tryz.underlying197 rfl (by kernel_rfl) ?_);clear hr';go_loopw [6] (fun i wr=>∃ k:Nat,k<=14/\i=.int .i64 k/\Hid (∀ (j:Nat) o,j<k->zAG[j]?=some o->Lib.hasPrefix l o=false)/\wr=w) (fun i _=>14 - (intOf i).toNat)
 case atStart=>exact ⟨0,by omega,rfl,(fun j o hj=>by omega),rfl⟩
 case round =>
  obtain ⟨k,hk,rfl,HA,rfl⟩:=hrel;by_cases hlt:k<14
  ·obtain ⟨t,ho,hix⟩:=word_at k hlt;have i2:(k:Int)<14:=by omega
   have P:=fun w=>zVN l t w;obtain ⟨p,hp⟩:=nm (Lib.hasPrefix l t);rw [hp] at P;cases p
   ·have HA2:Hid (∀ (j:Nat) o,j<k+1->zAG[j]?=some o->Lib.hasPrefix l o=false):=fun j o hj h=>by
     rcases Nat.lt_or_ge j k with hjk | hjk
     ·exact HA.out j o hjk h
     ·obtain rfl:j=k:=(by omega);rw [ho] at h;cases h;exact hp
    clear HA ho hp;go_wp2_with fail;refine (P _).mono ?_;rintro e w2 ⟨rfl,h2⟩;rw [h2];clear h2;go_wp2_with fail;go_roundw
    case rel=>exact ⟨k+1,by omega,by go_num,HA2,trivial⟩
    case measure=>simp [intOf];omega
   ·have hr:=HF.out k t ho hp HA.out;subst hr;clear HA ho hp HF HX;go_wp2_with fail;refine (P _).mono ?_;rintro e w2 ⟨rfl,h2⟩;rw [h2];clear h2;go_wp2_with fail;go_ret;exact ⟨rfl,rfl⟩
  ·obtain rfl:k=14:=by omega
   have hr:=HX.out (fun j o h=>HA.out j o (by have:=(List.getElem?_eq_some_iff.1 h).1;simpa [zAG] using this) h);subst hr;clear HA HF HX;go_wp2_with fail;go_ret;exact ⟨rfl,rfl⟩
theorem zW6:∀ (k:Nat) (l:BL),zD1 k l<=l.length:=by
 intro k
 induction k with
 | zero=>intro l;simp [zD1]
 | succ k ih =>
  intro l;have h1:=zFF l;have h2:=ih (l.drop (zAC l).length);rw [List.length_drop] at h2;simp only [zD1];omega
theorem zW7 (l:BL) (hl:l.length<=1000) (w:World) (T:TabK w) :
  Calls Tryz.prog 107 #[sV l] w fun e w'=>e=.returned (iQ (zAO l:Nat))/\w'=w:=by
 cases l with
 | nil =>
  clear T;go_enter Tryz.func107,Tryz.ntmps107;go_wp2_with fail;go_ret;exact ⟨rfl,rfl⟩
 | cons c r =>
  have he:(c :: r == ([]:BL))=false:=rfl;obtain ⟨l,hL⟩:=nm (c :: r);have hd0:zAO (c :: r)=if letF c then zD1 12 (c :: r) else 0:=rfl;have hc0:l.getD 0 0=c:=by rw [<- hL];rfl
  have hn0:0<l.length:=by rw [<- hL];simp
  rw [hL] at he hd0 hl ⊢;clear hL;obtain ⟨s,hs⟩:∃ s:ByteArray,(⟨l.toArray⟩:ByteArray)=s:=⟨_,rfl⟩;have hsl:s.data.toList=l:=by rw [<- hs]
  have hsz:=zDM hsl;have hk0:0<s.size:=by omega
  have hb0:=zD9 hsl hk0;rw [hc0] at hb0;have hb:((s[0]'hk0).toNat:Int)=(c.toNat:Int):=by rw [hb0]
  have EX:∀ q,s.extract q s.size=⟨(l.drop q).toArray⟩:=fun q=>by
   rw [<- hs,zF9]
   congr 2
   rw [List.take_of_length_le];rw [List.length_drop];exact Nat.le_refl _
  have LC:=fun W=>letterI c W;obtain ⟨N,hN⟩:∃ N:Int,(c.toNat:Int)=N:=⟨_,rfl⟩;rw [hN] at hb;simp only [hN] at LC;have hse:(s.toList == [])=false:=by
   rw [ByteArray.toList_eq,hsl];exact he
  show Calls Tryz.prog 107 #[.string ⟨l.toArray⟩] w _;rw [hs];obtain ⟨n,hn⟩:=nm (l.length);have HN:Hid (l.length=n):=hn;rw [hn] at hl hsz hn0;obtain ⟨R,hR⟩:=nm (zAO l);have HD:Hid (R=if letF c then zD1 12 l else 0):=by show _=_;rw [<- hR];exact hd0
  rw [hR];clear hR hd0 hN hb0 hs hn hc0 he;obtain ⟨lb,hlb⟩:=nm (letF c);rw [hlb] at HD;simp only [hlb] at LC;clear hlb;cases lb
  ·have HE:Hid (R=0):=HD.out;clear HD EX hsl;go_enter Tryz.func107,Tryz.ntmps107;go_wp2_with fail;refine (LC _).mono ?_;rintro e w1 ⟨rfl,rfl⟩;go_wp2_with fail;go_ret;exact ⟨zA8 (by rw [HE.out];rfl),rfl⟩
  ·have HE:Hid (0+zD1 (12 - 0) (l.drop 0)=R):=by show _=_;rw [HD.out];simp
   have HT:Hid (TabK w):=T;have HX:Hid (∀ q,s.extract q s.size=⟨(l.drop q).toArray⟩):=EX;clear HD EX hsl T;go_enter Tryz.func107,Tryz.ntmps107;go_wp2_with fail;refine (LC _).mono ?_;rintro e w1 ⟨rfl,rfl⟩;go_wp2_with fail;go_loopw [13,3] (fun i v wr=>∃ (k q:Nat),k<=12/\i=.int .i64 k/\q<=n/\v=.int .i64 q/\Hid (q+zD1 (12 - k) (l.drop q)=R)/\wr=w1) (fun i _ _=>12 - (intOf i).toNat)
   case atStart=>exact ⟨0,0,by omega,rfl,by omega,rfl,HE,rfl⟩
   case round =>
    obtain ⟨k,q,hk,rfl,hq,rfl,HQ,rfl⟩:=hrel;by_cases hlt:k<12
    ·have i2:(k:Int)<12:=(by omega);have i3:(q:Int)<=(n:Int):=(by omega);have WI:∀ W,TabK W->Calls Tryz.prog 131 #[.string (s.extract q n)] W fun e w'=>e=.returned (sV (zAC (l.drop q)))/\w'=W:=fun W hW=>by
      have:=HX.out q;rw [hsz] at this;rw [this];exact wordI (l.drop q) W hW
     have hle:=zFF (l.drop q);rw [List.length_drop,HN.out] at hle;have HQ2:Hid ((q+(zAC (l.drop q)).length)+zD1 (12 - (k+1)) (l.drop (q+(zAC (l.drop q)).length))=R):=by
      show _=_;have:=HQ.out;rw [show 12 - k=(12 - (k+1))+1 by omega] at this;simp only [zD1,List.drop_drop] at this;omega
     obtain ⟨t,ht⟩:=nm (zAC (l.drop q));rw [ht] at HQ2 hle;simp only [ht] at WI;have zt:(⟨t.toArray⟩:ByteArray).size=t.length:=rfl;obtain ⟨m,hm⟩:=nm (t.length);rw [hm] at HQ2 hle zt;clear HQ ht hm;go_wp2_with fail;refine (WI _ HT.out).mono ?_;rintro e w2 ⟨rfl,h2⟩;rw [h2];clear h2;go_wp2_with fail;go_roundw
     case rel=>exact ⟨k+1,q+m,by omega,by go_num,by omega,by go_num,HQ2,trivial⟩
     case measure=>simp [intOf];omega
    ·obtain rfl:k=12:=(by omega);have HE2:Hid (q=R):=(by show _=_;have:=HQ.out;simp [zD1] at this;exact this);clear HQ;go_wp2_with fail;go_ret;exact ⟨zA8 (by rw [HE2.out]),rfl⟩
theorem zPC (p:Nat) (l:BL):zA0 p l<=l.length:=by
 have hq:zCC l<=l.length:=by
  by_cases h:Lib.hasPrefix l [34]=true
  ·rw [zKU h]
   split
   ·rename_i hc;have h1:=zBK nq (l.drop 1);have h2:1<=((l.drop 1).dropWhile nq).length:=by
     rcases Nat.eq_zero_or_pos ((l.drop 1).dropWhile nq).length with h0 | h0
     ·exact absurd (List.length_eq_zero_iff.1 h0) hc.1
     ·exact h0
    rw [List.length_drop] at h1;omega
   ·omega
  ·rw [zEA (by simpa using h)];omega
 have hd:zAO l<=l.length:=by
  cases l with
  | nil=>simp [zAO]
  | cons c r =>
   show (if letF c then zD1 12 (c :: r) else 0)<=_
   split
   ·exact zW6 _ _
   ·omega
 unfold zA0
 split
 ·exact hq
 ·split
  ·rename_i h;rw [zDN,Bool.and_eq_true] at h;exact of_decide_eq_true h.1
  ·omega
 ·exact zDF _ _ _
 ·exact zDF _ _ _
 ·exact zDF _ _ _
 ·exact zDF _ _ _
 ·exact zDF _ _ _
 ·exact hd
 ·exact hq
 ·omega
theorem zLV (l:BL):l.length - (Lib.trimPrefix l [35,44]).length=(if Lib.hasPrefix l [35,44] then 2 else 0)/\(Lib.trimPrefix l [35,44]).length<=l.length:=by
 unfold Lib.trimPrefix;cases h:Lib.hasPrefix l [35,44] with
 | false=>simp
 | true =>
  rw [zDN,Bool.and_eq_true] at h;have:2<=l.length:=of_decide_eq_true h.1;simp;omega
theorem zS3 (l:BL) (hl:l.length<=1000) (w:World) (T:TabK w):Calls Tryz.prog 54 #[iQ 1,sV l] w fun e w'=>e=.returned (iQ (zA0 1 l:Nat))/\Ext w w':=by
 have C:Calls Tryz.prog 104 #[sV l] w fun e w'=>e=.returned (iQ (zA0 1 l:Nat))/\Ext w w':=zRO l hl w T;obtain ⟨R,hR⟩:=nm (zA0 1 l);rw [hR] at C ⊢;clear hR hl T;go_enter Tryz.func54,Tryz.ntmps54;go_wp2_with fail;refine C.mono ?_;rintro e w1 ⟨rfl,e1⟩;go_wp2_with fail;go_ret;exact ⟨rfl,e1⟩
theorem zRV (l:BL) (hl:l.length<=1000) (w:World) (T:TabK w):Calls Tryz.prog 54 #[iQ 9,sV l] w fun e w'=>e=.returned (iQ (zA0 9 l:Nat))/\Ext w w':=by
 have C:Calls Tryz.prog 104 #[sV l] w fun e w'=>e=.returned (iQ (zA0 9 l:Nat))/\Ext w w':=zRO l hl w T;obtain ⟨R,hR⟩:=nm (zA0 9 l);rw [hR] at C ⊢;clear hR hl T;go_enter Tryz.func54,Tryz.ntmps54;go_wp2_with fail;refine C.mono ?_;rintro e w1 ⟨rfl,e1⟩;go_wp2_with fail;go_ret;exact ⟨rfl,e1⟩
theorem zS1 (l:BL) (hl:l.length<=1000) (w:World):Calls Tryz.prog 54 #[iQ 3,sV l] w fun e w'=>e=.returned (iQ (zA0 3 l:Nat))/\Ext w w':=by
 have C:Calls Tryz.prog 106 #[sV l,sV [48],iQ 9] w fun e w'=>e=.returned (iQ (zA0 3 l:Nat))/\Ext w w':=runI l 48 9 (by decide) hl w;obtain ⟨R,hR⟩:=nm (zA0 3 l);rw [hR] at C ⊢;clear hR hl;go_enter Tryz.func54,Tryz.ntmps54;go_wp2_with fail;refine C.mono ?_;rintro e w1 ⟨rfl,e1⟩;go_wp2_with fail;go_ret;exact ⟨rfl,e1⟩
theorem zS0 (l:BL) (hl:l.length<=1000) (w:World):Calls Tryz.prog 54 #[iQ 4,sV l] w fun e w'=>e=.returned (iQ (zA0 4 l:Nat))/\Ext w w':=by
 have C:Calls Tryz.prog 106 #[sV l,sV [46],iQ 1] w fun e w'=>e=.returned (iQ (zA0 4 l:Nat))/\Ext w w':=runI l 46 1 (by decide) hl w;obtain ⟨R,hR⟩:=nm (zA0 4 l);rw [hR] at C ⊢;clear hR hl;go_enter Tryz.func54,Tryz.ntmps54;go_wp2_with fail;refine C.mono ?_;rintro e w1 ⟨rfl,e1⟩;go_wp2_with fail;go_ret;exact ⟨rfl,e1⟩
theorem zRZ (l:BL) (hl:l.length<=1000) (w:World):Calls Tryz.prog 54 #[iQ 5,sV l] w fun e w'=>e=.returned (iQ (zA0 5 l:Nat))/\Ext w w':=by
 have C:Calls Tryz.prog 106 #[sV l,sV [48],iQ 9] w fun e w'=>e=.returned (iQ (zA0 5 l:Nat))/\Ext w w':=runI l 48 9 (by decide) hl w;obtain ⟨R,hR⟩:=nm (zA0 5 l);rw [hR] at C ⊢;clear hR hl;go_enter Tryz.func54,Tryz.ntmps54;go_wp2_with fail;refine C.mono ?_;rintro e w1 ⟨rfl,e1⟩;go_wp2_with fail;go_ret;exact ⟨rfl,e1⟩
theorem zRY (l:BL) (hl:l.length<=1000) (w:World):Calls Tryz.prog 54 #[iQ 6,sV l] w fun e w'=>e=.returned (iQ (zA0 6 l:Nat))/\Ext w w':=by
 have C:Calls Tryz.prog 106 #[sV l,sV [35],iQ 9] w fun e w'=>e=.returned (iQ (zA0 6 l:Nat))/\Ext w w':=runI l 35 9 (by decide) hl w;obtain ⟨R,hR⟩:=nm (zA0 6 l);rw [hR] at C ⊢;clear hR hl;go_enter Tryz.func54,Tryz.ntmps54;go_wp2_with fail;refine C.mono ?_;rintro e w1 ⟨rfl,e1⟩;go_wp2_with fail;go_ret;exact ⟨rfl,e1⟩
theorem zRX (l:BL) (hl:l.length<=1000) (w:World):Calls Tryz.prog 54 #[iQ 7,sV l] w fun e w'=>e=.returned (iQ (zA0 7 l:Nat))/\Ext w w':=by
 have C:Calls Tryz.prog 106 #[sV l,sV [37],iQ 3] w fun e w'=>e=.returned (iQ (zA0 7 l:Nat))/\Ext w w':=runI l 37 3 (by decide) hl w;obtain ⟨R,hR⟩:=nm (zA0 7 l);rw [hR] at C ⊢;clear hR hl;go_enter Tryz.func54,Tryz.ntmps54;go_wp2_with fail;refine C.mono ?_;rintro e w1 ⟨rfl,e1⟩;go_wp2_with fail;go_ret;exact ⟨rfl,e1⟩
theorem zRW (l:BL) (hl:l.length<=1000) (w:World) (T:TabK w):Calls Tryz.prog 54 #[iQ 8,sV l] w fun e w'=>e=.returned (iQ (zA0 8 l:Nat))/\Ext w w':=by
 have C:Calls Tryz.prog 107 #[sV l] w fun e w'=>e=.returned (iQ (zA0 8 l:Nat))/\Ext w w':=(zW7 l hl w T).mono fun _ _ ⟨h1,h2⟩=>⟨h1,by rw [h2];exact xr _⟩;obtain ⟨R,hR⟩:=nm (zA0 8 l);rw [hR] at C ⊢;clear hR hl T;go_enter Tryz.func54,Tryz.ntmps54;go_wp2_with fail;refine C.mono ?_;rintro e w1 ⟨rfl,e1⟩;go_wp2_with fail;go_ret;exact ⟨rfl,e1⟩
theorem zS2 (l:BL) (hl:l.length<=1000) (w:World):Calls Tryz.prog 54 #[iQ 2,sV l] w fun e w'=>e=.returned (iQ (zA0 2 l:Nat))/\Ext w w':=by
 have C:=zLU l w;obtain ⟨h1,h2⟩:=zLV l;obtain ⟨R,hR⟩:=nm (zA0 2 l);have HR:Hid (l.length - (Lib.trimPrefix l [35,44]).length=R):=by show _=_;rw [h1,<- hR];rfl
 rw [hR];obtain ⟨t,ht⟩:=nm (Lib.trimPrefix l [35,44]);rw [ht] at C HR h2;have z1:(⟨l.toArray⟩:ByteArray).size=l.length:=rfl;have z2:(⟨t.toArray⟩:ByteArray).size=t.length:=rfl;obtain ⟨n,hn⟩:=nm (l.length);obtain ⟨q,hq⟩:=nm (t.length);rw [hn] at z1 HR h2 hl;rw [hq] at z2 HR h2;clear hR ht hn hq h1;go_enter Tryz.func54,Tryz.ntmps54;go_wp2_with fail;refine C.mono ?_;rintro e w1 ⟨rfl,rfl⟩;go_wp2_with fail;go_ret;exact ⟨zA8 (by have:=HR.out;omega),xr _⟩
theorem zUU (p:Nat) (hp:1<=p) (hp9:p<=9) (l:BL) (hl:l.length<=1000) (w:World) (T:TabK w):Calls Tryz.prog 54 #[iQ (p:Int),sV l] w fun e w'=>e=.returned (iQ (zA0 p l:Nat))/\Ext w w':=by
 match p,hp,hp9 with
 | 1,_,_=>exact zS3 l hl w T
 | 2,_,_=>exact zS2 l hl w
 | 3,_,_=>exact zS1 l hl w
 | 4,_,_=>exact zS0 l hl w
 | 5,_,_=>exact zRZ l hl w
 | 6,_,_=>exact zRY l hl w
 | 7,_,_=>exact zRX l hl w
 | 8,_,_=>exact zRW l hl w T
 | 9,_,_=>exact zRV l hl w T
end Go.Proofs.YtjlojlgdkfpcdaaGreatDoor

