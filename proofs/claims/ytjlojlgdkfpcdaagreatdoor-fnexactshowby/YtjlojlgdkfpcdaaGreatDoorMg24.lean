/-
  Several texts in one: Sb8, Sd6, V6a, V6b, V6c, V6d, Bx, V9e, Sb5, Dd0, Sc0, Ky.
-/
import Derived.Test.YtjlojlgdkfpcdaaGreatDoorMg21
import Derived.Test.YtjlojlgdkfpcdaaGreatDoorMg23
import Derived.Test.YtjlojlgdkfpcdaaGreatDoorMg10
import Derived.Test.YtjlojlgdkfpcdaaGreatDoorMg1
import Derived.Deep.RegionWith
import Derived.Deep.DeepCutAuto
import Derived.Test.YtjlojlgdkfpcdaaGreatDoorMg0
import Derived.Test.YtjlojlgdkfpcdaaGreatDoorDrM
import Derived.Test.YtjlojlgdkfpcdaaGreatDoorMg5
namespace Go.Proofs.YtjlojlgdkfpcdaaGreatDoor
open Go.RowKit
def FitD (r:DR):Prop:=0≤r.d∧r.d<1000000000000000
theorem fit_zero {neg:Bool} {P:Nat} {e:Int} (h:(fitR neg P e).ok=false):(fitR neg P e).d=0:=by
 unfold fitR at h ⊢
 split
 ·rfl
 ·next h0 =>
  rw [if_neg h0] at h
  split
  ·rfl
  ·next h1 =>
   rw [if_neg h1] at h
   split
   ·rfl
   ·next h2=>rw [if_neg h2] at h;cases h
theorem put_fitD (neg:Bool) (P:Nat) (e:Int) (more:Bool):FitD (putR neg P e more):=by
 cases h:(putR neg P e more).ok
 ·have hd:(putR neg P e more).d=0:=by
   unfold putR at h ⊢
   split
   ·next h15=>rw [if_pos h15] at h;exact fit_zero h
   ·next h15=>rw [if_neg h15] at h;exact fit_zero h
  exact ⟨by omega,by omega⟩
 ·have g:=good_all (put_ok h);exact ⟨g.1,g.2.1⟩
theorem bad_fitD:FitD badR:=⟨by decide,by decide⟩
theorem mul_fitD (na:Bool) (da ea:Int) (nb:Bool) (db eb:Int):FitD (mulR na da ea nb db eb):=by
 unfold mulR
 split
 ·exact put_fitD _ _ _ _
 ·exact bad_fitD
theorem sub_fitD (na:Bool) (da ea:Int) (nb:Bool) (db eb:Int):FitD (subR na da ea nb db eb):=by
 unfold subR;generalize (if db=0 then nb else !nb)=x;unfold addR
 split
 ·unfold sumE sumZ;exact put_fitD _ _ _ _
 ·exact bad_fitD
theorem round_fitD (n:Bool) (d e p m:Int):FitD (roundR n d e p m):=by
 unfold roundR
 split
 ·next hc =>
  unfold rndR
  split
  ·simp only [Bool.and_eq_true] at hc;have g:=good_all hc.1.1;exact ⟨g.1,g.2.1⟩
  ·exact put_fitD _ _ _ _
 ·exact bad_fitD
theorem of_day:ofR 86400 0=⟨true,false,864,2⟩:=by
 have hs:strip 86400 0=(864,2):=by
  rw [strip_ten (by decide) (by decide),strip_ten (by decide) (by decide),strip];rfl
 have hn:¬ 15<nd 86400:=by
  simp [nd]
 show (if -1000≤(0:Int)∧(0:Int)≤1000 then putR false 86400 0 false else badR)=_;rw [if_pos (by decide)];unfold putR;rw [if_neg hn];unfold fitR;rw [hs];rfl
def secR (n:Bool) (d e:Int) (n':Bool) (d' e':Int):DR:=
 let s:=subR n d e n' d' e'
 let p:=mulR s.neg s.d s.e false 864 2
 roundR p.neg p.d p.e 0 2
end Go.Proofs.YtjlojlgdkfpcdaaGreatDoor

namespace Go.Proofs.YtjlojlgdkfpcdaaGreatDoor
def withN (n:Bool) (r:DR):DR:=⟨r.ok,n && decide (r.d ≠ 0),r.d,r.e⟩
theorem withN_zero (n:Bool) {r:DR} (h:r.d=0):withN false r=withN n r:=by
 unfold withN;rw [h];cases n <;> rfl
theorem fit_sign (n:Bool) (P:Nat) (e:Int):fitR n P e=withN n (fitR false P e):=by
 unfold fitR withN
 split
 ·simp
 ·next h0 =>
  split
  ·simp
  ·split
   ·simp
   ·have h:=strip_good P e h0;have h2:(((strip P e).1:Nat):Int) ≠ 0:=(by omega);simp only [decide_eq_true h2,Bool.and_true]
theorem put_sign (n:Bool) (P:Nat) (e:Int) (m:Bool):putR n P e m=withN n (putR false P e m):=by
 unfold putR
 split
 ·exact fit_sign n _ _
 ·exact fit_sign n _ _
theorem put_plus (P:Nat) (e:Int) (m:Bool):(putR false P e m).neg=false:=by
 have h:=put_sign false P e m;rw [h];rfl
theorem good_plus {n:Bool} {d e:Int} (g:goodB n d e=true):goodB false d e=true:=by
 unfold goodB at g ⊢
 split at g
 ·next h=>rw [if_pos h];simp at g;simp [g.2]
 ·next h=>rw [if_neg h];exact g
theorem good_minus (n:Bool) {d e:Int} (g:goodB false d e=true):goodB (n && decide (d ≠ 0)) d e=true:=by
 unfold goodB at g ⊢
 split at g
 ·next h=>rw [if_pos h,h];simp at g;simp [g]
 ·next h=>rw [if_neg h];exact g
theorem good_hun:goodB false 1 2=true:=by decide
theorem mul_sign (n:Bool) {d e:Int} (g:goodB false d e=true):mulR (n && decide (d ≠ 0)) d e false 1 2=withN n (mulR false d e false 1 2):=by
 unfold mulR;rw [good_minus n g,g,good_hun,if_pos (show (true && true)=true from rfl),if_pos (show (true && true)=true from rfl)];have e1:((n && decide (d ≠ 0)) != false)=(n && decide (d ≠ 0)):=by cases (n && decide (d ≠ 0)) <;> rfl
 rw [e1,put_sign];by_cases h:d=0
 ·subst h;have e2:(n && decide ((0:Int) ≠ 0))=false:=by simp
  rw [e2];refine withN_zero n ?_;unfold putR fitR;have:((0:Int).toNat * (1:Int).toNat)=0:=rfl;rw [this,nd_zero];rfl
 ·rw [decide_eq_true h,Bool.and_true];rfl
theorem mul_plus {d e:Int} (g:goodB false d e=true):(mulR false d e false 1 2).neg=false∧((mulR false d e false 1 2).ok=true→goodB false (mulR false d e false 1 2).d (mulR false d e false 1 2).e=true):=by
 unfold mulR;rw [g,good_hun,if_pos (show (true && true)=true from rfl)];have e1:(false != false)=false:=rfl;rw [e1];refine ⟨put_plus _ _ _,fun h=>?_⟩;have hk:=put_ok h;rw [put_plus] at hk;exact hk
theorem huns_sign (n:Bool):∀ (k:Nat) (ok:Bool) (d e:Int),(ok=true→goodB false d e=true)→hunsR k ⟨ok,n && decide (d ≠ 0),d,e⟩=withN n (hunsR k ⟨ok,false,d,e⟩)
 | 0,_,_,_,_=>rfl
 | k+1,false,d,e,h=>by
  rw [hunsR,hunsR,if_neg (fun h=>Bool.noConfusion h),if_neg (fun h=>Bool.noConfusion h)];exact huns_sign n k false d e h
 | k+1,true,d,e,h=>by
  have g:=h rfl;obtain ⟨h1,h2⟩:=mul_plus g;rw [hunsR,hunsR,if_pos rfl,if_pos rfl,mul_sign n g];obtain ⟨R,hR⟩:∃ R,mulR false d e false 1 2=R:=⟨_,rfl⟩;rw [hR] at h1 h2 ⊢;obtain ⟨ok,neg,d',e'⟩:=R;have h1:neg=false:=h1;subst h1;exact huns_sign n k ok d' e' h2
theorem round_sign (n:Bool) {d e p:Int} (g:goodB false d e=true):roundR (n && decide (d ≠ 0)) d e p 1=withN n (roundR false d e p 1):=by
 unfold roundR;rw [good_minus n g,g]
 split
 ·unfold rndR
  split
  ·rfl
  ·rw [put_sign];by_cases h:d=0
   ·subst h;have e2:(n && decide ((0:Int) ≠ 0))=false:=(by simp);rw [e2];refine withN_zero n ?_;have:rndM (1:Int).toNat (0:Int).toNat (-p - e).toNat false=0:=by
     have:=rnd_exact 1 0 (-p - e).toNat (by decide);rw [Nat.zero_mul] at this;exact this
    rw [this];unfold putR fitR;rw [nd_zero];rfl
   ·rw [decide_eq_true h,Bool.and_true]
 ·simp [withN,badR]
theorem huns_good:∀ (k:Nat) (ok:Bool) (d e:Int),(ok=true→goodB false d e=true)→(hunsR k ⟨ok,false,d,e⟩).neg=false∧((hunsR k ⟨ok,false,d,e⟩).ok=true→goodB false (hunsR k ⟨ok,false,d,e⟩).d (hunsR k ⟨ok,false,d,e⟩).e=true)
 | 0,_,_,_,h=>⟨rfl,h⟩
 | k+1,false,d,e,h=>by
  rw [hunsR,if_neg (fun h=>Bool.noConfusion h)];exact huns_good k false d e h
 | k+1,true,d,e,h=>by
  have g:=h rfl;obtain ⟨h1,h2⟩:=mul_plus g;rw [hunsR,if_pos rfl];obtain ⟨R,hR⟩:∃ R,mulR false d e false 1 2=R:=⟨_,rfl⟩;rw [hR] at h1 h2 ⊢;obtain ⟨ok,neg,d',e'⟩:=R;have h1:neg=false:=h1;subst h1;exact huns_good k ok d' e' h2
theorem num_signed (wh pl mb tm:Nat) (gr n:Bool) (d e:Int) (g:goodB n d e=true) :
  numT wh pl mb gr tm true n d e =
   if (hunsR tm ⟨true,n,d,e⟩).ok=true then
    if (roundR (hunsR tm ⟨true,n,d,e⟩).neg (hunsR tm ⟨true,n,d,e⟩).d (hunsR tm ⟨true,n,d,e⟩).e ((pl+mb:Nat):Int) 1).ok=true then
     if (roundR (hunsR tm ⟨true,n,d,e⟩).neg (hunsR tm ⟨true,n,d,e⟩).d (hunsR tm ⟨true,n,d,e⟩).e ((pl+mb:Nat):Int) 1).neg=true then
      45 :: shownZ wh pl mb gr tm (roundR (hunsR tm ⟨true,n,d,e⟩).neg (hunsR tm ⟨true,n,d,e⟩).d (hunsR tm ⟨true,n,d,e⟩).e ((pl+mb:Nat):Int) 1).d (roundR (hunsR tm ⟨true,n,d,e⟩).neg (hunsR tm ⟨true,n,d,e⟩).d (hunsR tm ⟨true,n,d,e⟩).e ((pl+mb:Nat):Int) 1).e
     else shownZ wh pl mb gr tm (roundR (hunsR tm ⟨true,n,d,e⟩).neg (hunsR tm ⟨true,n,d,e⟩).d (hunsR tm ⟨true,n,d,e⟩).e ((pl+mb:Nat):Int) 1).d (roundR (hunsR tm ⟨true,n,d,e⟩).neg (hunsR tm ⟨true,n,d,e⟩).d (hunsR tm ⟨true,n,d,e⟩).e ((pl+mb:Nat):Int) 1).e
    else [35]
   else [35]:=by
 have hn:n=(n && decide (d ≠ 0)):=by
  by_cases h:d=0
  ·have:=((good_all g).2.2.2.2.1 h).2;rw [this];rfl
  ·rw [decide_eq_true h,Bool.and_true]
 have hh:=huns_sign n tm true d e (fun _=>good_plus g);rw [← hn] at hh;rw [hh];obtain ⟨k1,k2⟩:=huns_good tm true d e (fun _=>good_plus g);unfold numT;obtain ⟨R,hR⟩:∃ R,hunsR tm ⟨true,false,d,e⟩=R:=⟨_,rfl⟩;rw [hR] at k1 k2 ⊢;obtain ⟨ok,neg,d',e'⟩:=R;have k1:neg=false:=k1;subst k1;show (if ok=true then _ else _)=if ok=true then _ else _;cases ok
 ·rfl
 ·have g':=k2 rfl;rw [if_pos rfl,if_pos rfl];have hs:=round_sign n (p:=((pl+mb:Nat):Int)) g';have e1:(withN n ⟨true,false,d',e'⟩).neg=(n && decide (d' ≠ 0)):=rfl;have e2:(withN n ⟨true,false,d',e'⟩).d=d':=rfl;have e3:(withN n ⟨true,false,d',e'⟩).e=e':=rfl;rw [e1,e2,e3,hs];obtain ⟨S,hS⟩:∃ S,roundR false d' e' ((pl+mb:Nat):Int) 1=S:=⟨_,rfl⟩;rw [hS];show (if S.ok=true then (if (n && true && decide (S.d ≠ 0))=true then _ else _) else _)=if S.ok=true then (if (n && decide (S.d ≠ 0))=true then _ else _) else _;rw [Bool.and_true];rfl
theorem of_hun:ofR 100 0=⟨true,false,1,2⟩:=by
 have hs:strip 100 0=(1,2):=by
  rw [strip_ten (by decide) (by decide),strip_ten (by decide) (by decide),strip];rfl
 have hn:¬ 15<nd 100:=by
  simp [nd]
 show (if -1000≤(0:Int)∧(0:Int)≤1000 then putR false 100 0 false else badR)=_;rw [if_pos (by decide)];unfold putR;rw [if_neg hn];unfold fitR;rw [hs];rfl
end Go.Proofs.YtjlojlgdkfpcdaaGreatDoor

namespace Go.Proofs.YtjlojlgdkfpcdaaGreatDoor
open Go.RowKit
abbrev valV (k:Int) (n:Bool) (d x:Int) (t:List UInt8):Value:=.agg #[.int .i64 k,.bool n,.int .i64 d,.int .i64 x,sV t]
abbrev valL (k:Int) (n:Bool) (d x:Int) (t:List UInt8):List Value:=[.int .i64 k,.bool n,.int .i64 d,.int .i64 x,sV t]
def zeroD (n:Bool) (d x:Int):Bool:=!n && decide (d=0) && decide (x=0)
def goodV (k:Int) (n:Bool) (d x:Int) (t:List UInt8):Bool:=
 if k=1 then goodB n d x && (t == []) else
 zeroD n d x && (if k=0 then t == [] else if k=2 then printN 1000 t else if k=3 then boolB t else if k=4 then memB errL t else false)
set_option maxRecDepth 8000 in
set_option maxHeartbeats 2000000 in
theorem goodVI (k:Int) (n:Bool) (d x:Int) (t:List UInt8) (w:World) (hl:t.length≤2000000) (d1 : -9223372036854775808≤d) (d2:d≤9223372036854775807) (hT:Tens w) (hE:ErrTab w) :
  Calls Tryz.prog 34 #[valV k n d x t] w fun e w'=>e=.returned (.bool (goodV k n d x t))∧Ext w w':=by
 have X0:=x1 w (.cells #[.int .i64 k,.bool n,.int .i64 d,.int .i64 x,sV t] 33);have B:=vec_made w (valL k n d x t) 33;have T1:=hT.later X0;have E1:=hE.later X0;obtain ⟨p,hp⟩:∃ p,(t == [])=p:=⟨_,rfl⟩;clear hT hE;by_cases h1:k=1
 ·subst h1;have C:=fun W (X:Ext (w.alloc (.cells #[.int .i64 1,.bool n,.int .i64 d,.int .i64 x,sV t] 33)) W)=>goodI n d x W d1 d2 (T1.later X);have e:goodV 1 n d x t=(goodB n d x && p):=by simp [goodV,hp]
  rw [e];obtain ⟨q,hq⟩:∃ q,goodB n d x=q:=⟨_,rfl⟩;rw [hq] at C ⊢;clear e hq d1 d2;cases q
  ·go_enter Tryz.func34,Tryz.ntmps34;go_wp2_with (go_at_call 66;refine (C _ (xr _)).mono ?_;rintro e w1 ⟨rfl,e1⟩);go_ret;exact ⟨rfl,xt X0 e1⟩
  ·cases p
   all_goals
    go_enter Tryz.func34,Tryz.ntmps34;go_wp2_with (go_at_call 66;refine (C _ (xr _)).mono ?_;rintro e w1 ⟨rfl,e1⟩;have a4:=((B.later e1) 4 _ rfl).1);go_ret;exact ⟨rfl,xt X0 e1⟩
 ·by_cases hz:zeroD n d x=true
  ·obtain ⟨rfl,rfl,rfl⟩:n=false∧d=0∧x=0:=by simpa [zeroD,and_assoc] using hz
   clear hz d1 d2 T1;by_cases h0:k=0
   ·subst h0;have e:goodV 0 false 0 0 t=p:=(by simp [goodV,zeroD,hp]);rw [e];clear e;cases p
    all_goals
     go_enter Tryz.func34,Tryz.ntmps34;go_wp2_with fail;go_ret;exact ⟨rfl,X0⟩
   ·clear hp;by_cases h2:k=2
    ·subst h2;have C:=fun W=>plainI t W hl;have e:goodV 2 false 0 0 t=(plainB t && decide ((t.length:Int)≤1000)):=by
      have e2:decide (t.length≤1000)=decide ((t.length:Int)≤1000):=decide_eq_decide.2 (by omega);simp [goodV,zeroD,printN,plainB,e2]
     rw [e];obtain ⟨m,hm⟩:∃ m,t.length=m:=⟨_,rfl⟩;have hs:(⟨t.toArray⟩:ByteArray).size=m:=hm;rw [hm] at hl ⊢;obtain ⟨q,hq⟩:∃ q,plainB t=q:=⟨_,rfl⟩;rw [hq] at C ⊢;clear e hq hm h0 h1;cases q
     all_goals
      go_enter Tryz.func34,Tryz.ntmps34;go_wp2_with (go_at_call 67;refine (C _).mono ?_;rintro e w1 ⟨rfl,rfl⟩);go_ret;exact ⟨ret_bool (by simp),X0⟩
    ·by_cases h3:k=3
     ·subst h3;have C:=fun W=>boolI t W;have e:goodV 3 false 0 0 t=boolB t:=(by simp [goodV,zeroD]);rw [e];clear e h0 h1 h2;go_enter Tryz.func34,Tryz.ntmps34;go_wp2_with (go_at_call 68;refine (C _).mono ?_;rintro e w1 ⟨rfl,rfl⟩);go_ret;exact ⟨rfl,X0⟩
     ·by_cases h4:k=4
      ·subst h4;have C:=errI t _ E1;have e:goodV 4 false 0 0 t=memB errL t:=(by simp [goodV,zeroD]);rw [e];clear e h0 h1 h2 h3;go_enter Tryz.func34,Tryz.ntmps34;go_wp2_with (go_at_call 69;refine C.mono ?_;rintro e w1 ⟨rfl,rfl⟩);go_ret;exact ⟨rfl,X0⟩
      ·have e:goodV k false 0 0 t=false:=(by simp [goodV,zeroD,h0,h1,h2,h3,h4]);rw [e];clear e;go_enter Tryz.func34,Tryz.ntmps34;go_wp2_with fail;go_ret;exact ⟨rfl,X0⟩
  ·have e:goodV k n d x t=false:=by simp only [Bool.not_eq_true] at hz;simp [goodV,hz,h1]
   rw [e];clear e hp B T1 E1 hl;have hz':n=true∨(n=false∧(d ≠ 0∨(d=0∧x ≠ 0))):=by
    cases n
    ·right;refine ⟨rfl,?_⟩;by_cases hd:d=0
     ·right;refine ⟨hd,fun hx=>hz ?_⟩;simp [zeroD,hd,hx]
     ·exact Or.inl hd
    ·exact Or.inl rfl
   clear hz
   rcases hz' with rfl | ⟨rfl,hd | ⟨rfl,hx⟩⟩
   all_goals
    go_enter Tryz.func34,Tryz.ntmps34;go_wp2_with fail;go_ret;exact ⟨rfl,X0⟩
set_option maxRecDepth 8000 in
set_option maxHeartbeats 2000000 in
theorem goodVS (k:Int) (n:Bool) (d x:Int) (t:List UInt8) (w:World) (hl:t.length≤2000000) :
  Calls Tryz.prog 37 #[valV k n d x t] w fun e w'=>e=.returned (.bool (goodV k n d x t))∧Ext w w':=by
 have X0:=x1 w (.cells #[.int .i64 k,.bool n,.int .i64 d,.int .i64 x,sV t] 33);have B:=vec_made w (valL k n d x t) 33;obtain ⟨p,hp⟩:∃ p,(t == [])=p:=⟨_,rfl⟩;by_cases h1:k=1
 ·subst h1;have C:=fun W=>goodS n d x W;have e:goodV 1 n d x t=(goodB n d x && p):=by simp [goodV,hp]
  rw [e];obtain ⟨q,hq⟩:∃ q,goodB n d x=q:=⟨_,rfl⟩;rw [hq] at C ⊢;clear e hq;cases p
  ·go_enter Tryz.func37,Tryz.ntmps37;go_wp2_with fail;go_ret;exact ⟨ret_bool (by simp),X0⟩
  ·go_enter Tryz.func37,Tryz.ntmps37;go_wp2_with (go_at_call 76;refine (C _).mono ?_;rintro e w1 ⟨rfl,e1⟩);go_ret;exact ⟨ret_bool (by simp),xt X0 e1⟩
 ·by_cases hz:zeroD n d x=true
  ·obtain ⟨rfl,rfl,rfl⟩:n=false∧d=0∧x=0:=by simpa [zeroD,and_assoc] using hz
   clear hz;by_cases h0:k=0
   ·subst h0;have e:goodV 0 false 0 0 t=p:=(by simp [goodV,zeroD,hp]);rw [e];clear e;cases p
    all_goals
     go_enter Tryz.func37,Tryz.ntmps37;go_wp2_with fail;go_ret;exact ⟨rfl,X0⟩
   ·clear hp;by_cases h2:k=2
    ·subst h2;have C:=fun W=>printS 1000 t W hl;have e:goodV 2 false 0 0 t=printN 1000 t:=(by simp [goodV,zeroD]);rw [e];clear e h0 h1;go_enter Tryz.func37,Tryz.ntmps37;go_wp2_with (go_at_call 77;refine (C _).mono ?_;rintro e w1 ⟨rfl,rfl⟩);go_ret;exact ⟨rfl,X0⟩
    ·by_cases h3:k=3
     ·subst h3;obtain ⟨p,hp⟩:∃ p,(t == [84,82,85,69])=p:=⟨_,rfl⟩;obtain ⟨q,hq⟩:∃ q,(t == [70,65,76,83,69])=q:=⟨_,rfl⟩;have e:goodV 3 false 0 0 t=(p || q):=(by simp only [goodV,zeroD,boolB,hp,hq];rfl);rw [e];clear e h0 h1 h2;cases p <;> cases q
      all_goals
       go_enter Tryz.func37,Tryz.ntmps37;go_wp2_with fail;go_ret;exact ⟨rfl,X0⟩
     ·by_cases h4:k=4
      ·subst h4;have C:=fun W=>errorsS W;have D:=fun g W V=>inS errL t g 9 W (by decide) V;have e:goodV 4 false 0 0 t=memB errL t:=(by simp [goodV,zeroD]);rw [e];clear e h0 h1 h2 h3;go_enter Tryz.func37,Tryz.ntmps37;go_wp2_with fail;go_region_with (first
        | (go_at_call 63;refine (C _).mono ?_;rintro e w1 ⟨g,rfl,V,e1⟩;have a4:=((B.later (xt (xd (xr _)) e1)) 4 _ rfl).1)
        | (go_at_call 78;refine (D g _ V).mono ?_;rintro e w2 ⟨rfl,rfl⟩))
       all_goals
        go_wp2_with fail;go_ret;exact ⟨rfl,xt (xd X0) e1⟩
      ·have e:goodV k false 0 0 t=false:=(by simp [goodV,zeroD,h0,h1,h2,h3,h4]);rw [e];clear e;go_enter Tryz.func37,Tryz.ntmps37;go_wp2_with fail;go_ret;exact ⟨rfl,X0⟩
  ·have e:goodV k n d x t=false:=by simp only [Bool.not_eq_true] at hz;simp [goodV,hz,h1]
   rw [e];clear e B hl;have hz':n=true∨(n=false∧(d ≠ 0∨(d=0∧x ≠ 0))):=by
    cases n
    ·right;refine ⟨rfl,?_⟩;by_cases hd:d=0
     ·right;refine ⟨hd,fun hx=>hz ?_⟩;simp [zeroD,hd,hx]
     ·exact Or.inl hd
    ·exact Or.inl rfl
   clear hz;by_cases h0:k=0
   ·subst h0;cases p
    all_goals rcases hz' with rfl | ⟨rfl,hd | ⟨rfl,hx⟩⟩
    all_goals
     go_enter Tryz.func37,Tryz.ntmps37;go_wp2_with fail;go_ret;exact ⟨rfl,X0⟩
   ·clear hp
    rcases hz' with rfl | ⟨rfl,hd | ⟨rfl,hx⟩⟩
    all_goals
     go_enter Tryz.func37,Tryz.ntmps37;go_wp2_with fail;go_ret;exact ⟨rfl,X0⟩
def setL (w:World) (b:Nat):Nat→List Value→World
 | _,[]=>w
 | o,v :: vs=>setL (w.setCell ⟨b,o,none⟩ v) b (o+1) vs
theorem Vec.farL {b k:Nat} {l:List Value} (hk:k ≠ b):∀ (us:List Value) (o:Nat) {w:World},Vec w b l→Vec (setL w k o us) b l
 | [],_,_,h=>h
 | u :: us,o,_,h=>Vec.farL hk us (o+1) (h.far hk u)
theorem Ext.setL {a:World} {b:Nat} (hb:a.heap.size≤b):∀ (us:List Value) (o:Nat) {w:World},Ext a w→Ext a (setL w b o us)
 | [],_,_,h=>h
 | u :: us,o,_,h=>Ext.setL hb us (o+1) (xset h hb u)
theorem Vec.put5 {w:World} {b:Nat} {v0 v1 v2 v3 v4:Value} (h:Vec w b [v0,v1,v2,v3,v4]) (u0 u1 u2 u3 u4:Value):Vec (setL w b 0 [u0,u1,u2,u3,u4]) b [u0,u1,u2,u3,u4]:=
 ((((h.put 0 (by simp) u0).put 1 (by simp) u1).put 2 (by simp) u2).put 3 (by simp) u3).put 4 (by simp) u4
set_option maxRecDepth 8000 in
set_option maxHeartbeats 1000000 in
theorem toValue (k:Int) (n:Bool) (d x:Int) (t:List UInt8) (w:World) :
  Calls Tryz.prog 15 #[valV k n d x t] w fun e w'=>e=.returned (valV k n d x t)∧Ext w w':=by
 have X1:=x1 w (.cells #[.int .i64 k,.bool n,.int .i64 d,.int .i64 x,sV t] 40);have B1:=vec_made w (valL k n d x t) 40;obtain ⟨wa,ha⟩:∃ wa,w.alloc (.cells #[.int .i64 k,.bool n,.int .i64 d,.int .i64 x,sV t] 40)=wa:=⟨_,rfl⟩;have B2:=vec_made wa (valL 0 false 0 0 []) 33;have X2:=x1 wa (.cells #[.int .i64 0,.bool false,.int .i64 0,.int .i64 0,sV []] 33);obtain ⟨wb,hb⟩:∃ wb,wa.alloc (.cells #[.int .i64 0,.bool false,.int .i64 0,.int .i64 0,sV []] 33)=wb:=⟨_,rfl⟩;have B3:=vec_made wb (valL 0 false 0 0 []) 33;have X3:=x1 wb (.cells #[.int .i64 0,.bool false,.int .i64 0,.int .i64 0,sV []] 33);have sa:wa.heap.size=w.heap.size+1:=by rw [← ha,World.size_alloc]
 have sb:wb.heap.size=w.heap.size+1+1:=by rw [← hb,World.size_alloc,sa]
 change Vec (w.alloc (.cells #[.int .i64 k,.bool n,.int .i64 d,.int .i64 x,sV t] 40)) _ _ at B1;change Vec (wa.alloc (.cells #[.int .i64 0,.bool false,.int .i64 0,.int .i64 0,sV []] 33)) _ _ at B2;change Vec (wb.alloc (.cells #[.int .i64 0,.bool false,.int .i64 0,.int .i64 0,sV []] 33)) _ _ at B3;rw [ha] at X1 B1;rw [hb] at X2 B2;rw [sa] at B2;rw [sb] at B3;have X:=xt (xt X1 X2) X3;have B1:=(B1.later X2).later X3;have B2:=B2.later X3;clear X1 X2 X3;obtain ⟨wc,hc⟩:∃ wc,wb.alloc (.cells #[.int .i64 0,.bool false,.int .i64 0,.int .i64 0,sV []] 33)=wc:=⟨_,rfl⟩;rw [hc] at B1 B2 B3 X;have a0:=(B1 0 _ rfl).1;have a1:=(B1 1 _ rfl).1;have a2:=(B1 2 _ rfl).1;have a3:=(B1 3 _ rfl).1;have c0:=(B3 0 _ rfl).1;have f0:=(B3 0 _ rfl).2;go_enter Tryz.func15,Tryz.ntmps15;go_wp2_with fail;clear ha hb hc sa sb a0 a1 a2 a3 c0 f0;refine (toDec n d x _).mono ?_;rintro e w1 ⟨rfl,e1⟩;have C1:=(B1.far (p:=⟨w.heap.size+1+1,0,none⟩) (by show w.heap.size+1+1 ≠ _;omega) (.int .i64 k)).later e1;have C2:=(B2.far (p:=⟨w.heap.size+1+1,0,none⟩) (by show w.heap.size+1+1 ≠ _;omega) (.int .i64 k)).later e1;have C3:Vec w1 (w.heap.size+1+1) (valL k false 0 0 []):=(B3.put 0 (by simp) (.int .i64 k)).later e1;have X1:=xt (xset X (p:=⟨w.heap.size+1+1,0,none⟩) (by show _≤w.heap.size+1+1;omega) (.int .i64 k)) e1;clear B1 B2 B3 X e1;obtain ⟨wd,hd⟩:∃ wd,setL w1 (w.heap.size+1+1) 1 [.bool n,.int .i64 d,.int .i64 x,sV t]=wd:=⟨_,rfl⟩;have D2:=C2.farL (k:=w.heap.size+1+1) (by omega) [.bool n,.int .i64 d,.int .i64 x,sV t] 1;have D3:Vec (setL w1 (w.heap.size+1+1) 1 [.bool n,.int .i64 d,.int .i64 x,sV t]) (w.heap.size+1+1) (valL k n d x t):=(((C3.put 1 (by simp) (.bool n)).put 2 (by simp) (.int .i64 d)).put 3 (by simp) (.int .i64 x)).put 4 (by simp) (sV t);have Y:=Ext.setL (b:=w.heap.size+1+1) (by omega) [.bool n,.int .i64 d,.int .i64 x,sV t] 1 X1;rw [hd] at D2 D3 Y;have hd:(((w1.setCell ⟨w.heap.size+1+1,1,none⟩ (.bool n)).setCell ⟨w.heap.size+1+1,2,none⟩ (.int .i64 d)).setCell ⟨w.heap.size+1+1,3,none⟩ (.int .i64 x)).setCell ⟨w.heap.size+1+1,4,none⟩ (sV t)=wd:=hd;have G2:=D2.put5 (.int .i64 k) (.bool n) (.int .i64 d) (.int .i64 x) (sV t);have Z:=Ext.setL (b:=w.heap.size+1) (by omega) [.int .i64 k,.bool n,.int .i64 d,.int .i64 x,sV t] 0 Y;obtain ⟨wy,hy⟩:∃ wy,setL wd (w.heap.size+1) 0 [.int .i64 k,.bool n,.int .i64 d,.int .i64 x,sV t]=wy:=⟨_,rfl⟩;rw [hy] at G2 Z;have hy:((((wd.setCell ⟨w.heap.size+1,0,none⟩ (.int .i64 k)).setCell ⟨w.heap.size+1,1,none⟩ (.bool n)).setCell ⟨w.heap.size+1,2,none⟩ (.int .i64 d)).setCell ⟨w.heap.size+1,3,none⟩ (.int .i64 x)).setCell ⟨w.heap.size+1,4,none⟩ (sV t)=wy:=hy;have a4:=(C1 4 _ rfl).1;have k0:=(C3 0 _ rfl).1;have k1:=(C3 1 _ rfl).1;have k2:=(C3 2 _ rfl).1;have k3:=(C3 3 _ rfl).1;have k4:=(C3 4 _ rfl).1;have f1:=(C3 1 _ rfl).2;have f2:=(C3 2 _ rfl).2;have f3:=(C3 3 _ rfl).2;have f4:=(C3 4 _ rfl).2;have m0:=(D3 0 _ rfl).1;have m1:=(D3 1 _ rfl).1;have m2:=(D3 2 _ rfl).1;have m3:=(D3 3 _ rfl).1;have m4:=(D3 4 _ rfl).1;have b0:=(D2 0 _ rfl).1;have b1:=(D2 1 _ rfl).1;have b2:=(D2 2 _ rfl).1;have b3:=(D2 3 _ rfl).1;have b4:=(D2 4 _ rfl).1;have g0:=(D2 0 _ rfl).2;have g1:=(D2 1 _ rfl).2;have g2:=(D2 2 _ rfl).2;have g3:=(D2 3 _ rfl).2;have g4:=(D2 4 _ rfl).2;have d0:=(G2 0 _ rfl).1;have d1:=(G2 1 _ rfl).1;have d2:=(G2 2 _ rfl).1;have d3:=(G2 3 _ rfl).1;have d4:=(G2 4 _ rfl).1;clear C1 C2 C3 D2 D3 G2 X1 Y;go_wp2_with fail;exact bodyPost_ret (v:=valV k n d x t) (by simp [results,Tryz.results15,go_sem,d0,d1,d2,d3,d4]) rfl ⟨rfl,Z⟩
set_option maxHeartbeats 1000000 in
theorem szValue (k:Int) (n:Bool) (d x:Int) (t:List UInt8) (m:Int) (w:World) (h0:0≤m) (h1:m≤1048576) (hl:(t.length:Int)≤9223372036854775807) :
  Calls Tryz.prog 14 #[valV k n d x t,.int .i64 m] w fun e w'=>e=.returned (.int .i64 (if m<t.length then -1 else m - t.length))∧Ext w w':=by
 have X0:=x1 w (.cells #[.int .i64 k,.bool n,.int .i64 d,.int .i64 x,sV t] 40);obtain ⟨L,hL⟩:∃ L,t.length=L:=⟨_,rfl⟩;have hs:(⟨t.toArray⟩:ByteArray).size=L:=hL;rw [hL] at hl ⊢;clear hL;by_cases hm:m<L
 ·rw [if_pos hm];go_enter Tryz.func14,Tryz.ntmps14;go_wp2_with fail;go_ret;exact ⟨rfl,X0⟩
 ·rw [if_neg hm];go_enter Tryz.func14,Tryz.ntmps14;go_wp2_with fail;go_ret;exact ⟨ret_int (by first | rfl | omega),X0⟩
abbrev errT:List UInt8:=[35,86,65,76,85,69,33]
abbrev trueT:List UInt8:=[84,82,85,69]
abbrev falseT:List UInt8:=[70,65,76,83,69]
abbrev boolW (b:Bool):Value:=valV 3 false 0 0 (if b then trueT else falseT)
abbrev errW:Value:=valV 4 false 0 0 errT
set_option maxHeartbeats 1000000 in
theorem textVI (l:List UInt8) (w:World):Calls Tryz.prog 123 #[sV l] w fun e w'=>e=.returned (valV 2 false 0 0 l)∧Ext w w':=by
 go_enter Tryz.func123,Tryz.ntmps123
 go_wp2
 exact bodyPost_ret (v:=valV 2 false 0 0 l) (by simp [results,Tryz.results123,go_sem]) rfl ⟨rfl,by first | exact x1 _ _ | exact xa (x1 _ _) _⟩
set_option maxHeartbeats 1000000 in
theorem textVS (l:List UInt8) (w:World):Calls Tryz.prog 60 #[sV l] w fun e w'=>e=.returned (valV 2 false 0 0 l)∧Ext w w':=by
 go_enter Tryz.func60,Tryz.ntmps60
 go_wp2
 exact bodyPost_ret (v:=valV 2 false 0 0 l) (by simp [results,Tryz.results60,go_sem]) rfl ⟨rfl,by first | exact x1 _ _ | exact xa (x1 _ _) _⟩
set_option maxHeartbeats 1000000 in
theorem errVI (l:List UInt8) (w:World):Calls Tryz.prog 122 #[sV l] w fun e w'=>e=.returned (valV 4 false 0 0 l)∧Ext w w':=by
 go_enter Tryz.func122,Tryz.ntmps122
 go_wp2
 exact bodyPost_ret (v:=valV 4 false 0 0 l) (by simp [results,Tryz.results122,go_sem]) rfl ⟨rfl,by first | exact x1 _ _ | exact xa (x1 _ _) _⟩
set_option maxHeartbeats 1000000 in
theorem errVS (l:List UInt8) (w:World):Calls Tryz.prog 62 #[sV l] w fun e w'=>e=.returned (valV 4 false 0 0 l)∧Ext w w':=by
 go_enter Tryz.func62,Tryz.ntmps62
 go_wp2
 exact bodyPost_ret (v:=valV 4 false 0 0 l) (by simp [results,Tryz.results62,go_sem]) rfl ⟨rfl,by first | exact x1 _ _ | exact xa (x1 _ _) _⟩
set_option maxHeartbeats 1000000 in
theorem numVI (n:Bool) (d x:Int) (w:World):Calls Tryz.prog 126 #[decV n d x] w fun e w'=>e=.returned (valV 1 n d x [])∧Ext w w':=by
 go_enter Tryz.func126,Tryz.ntmps126
 go_wp2
 exact bodyPost_ret (v:=valV 1 n d x []) (by simp [results,Tryz.results126,go_sem]) rfl ⟨rfl,by first | exact x1 _ _ | exact xa (x1 _ _) _⟩
set_option maxHeartbeats 1000000 in
theorem numVS (n:Bool) (d x:Int) (w:World):Calls Tryz.prog 28 #[decV n d x] w fun e w'=>e=.returned (valV 1 n d x [])∧Ext w w':=by
 go_enter Tryz.func28,Tryz.ntmps28
 go_wp2
 exact bodyPost_ret (v:=valV 1 n d x []) (by simp [results,Tryz.results28,go_sem]) rfl ⟨rfl,by first | exact x1 _ _ | exact xa (x1 _ _) _⟩
theorem goodV_zero {k:Int} {n:Bool} {d x:Int} {t:List UInt8} (h:goodV k n d x t=true) (h1:k ≠ 1):n=false∧d=0∧x=0:=by
 simp only [goodV,h1,if_false,Bool.and_eq_true] at h;have:=h.1;simpa [zeroD,and_assoc] using this
theorem goodV_empty {n:Bool} {d x:Int} {t:List UInt8} (h:goodV 0 n d x t=true):t=[]:=by simpa [goodV] using (show _∧_ by simpa [goodV] using h).2
theorem Vec.five {w:World} {b:Nat} {v0 v1 v2 v3 v4:Value} (h:Vec w b [v0,v1,v2,v3,v4]):w.cell? ⟨b,0,none⟩=some v0∧w.cell? ⟨b,1,none⟩=some v1∧w.cell? ⟨b,2,none⟩=some v2∧w.cell? ⟨b,3,none⟩=some v3∧w.cell? ⟨b,4,none⟩=some v4:=
 ⟨(h 0 _ rfl).1,(h 1 _ rfl).1,(h 2 _ rfl).1,(h 3 _ rfl).1,(h 4 _ rfl).1⟩
theorem Vec.fiveF {w:World} {b:Nat} {v0 v1 v2 v3 v4:Value} (h:Vec w b [v0,v1,v2,v3,v4]):w.frozen? ⟨b,0,none⟩=false∧w.frozen? ⟨b,1,none⟩=false∧w.frozen? ⟨b,2,none⟩=false∧w.frozen? ⟨b,3,none⟩=false∧w.frozen? ⟨b,4,none⟩=false:=
 ⟨(h 0 _ rfl).2,(h 1 _ rfl).2,(h 2 _ rfl).2,(h 3 _ rfl).2,(h 4 _ rfl).2⟩
theorem mkB2 (w:World) (l0 l1:List Value) (T0 T1:TypeId):∃ u0 u1,w.alloc (.cells l0.toArray T0)=u0∧u0.alloc (.cells l1.toArray T1)=u1∧u0.heap.size=w.heap.size+1∧u1.heap.size=w.heap.size+1+1∧Vec u1 (w.heap.size) l0∧Vec u1 (w.heap.size+1) l1∧Ext w u1:=by
 have X0:=x1 w (.cells l0.toArray T0);have B0:=vec_made w l0 T0;obtain ⟨u0,h0⟩:∃ u,w.alloc (.cells l0.toArray T0)=u:=⟨_,rfl⟩;rw [h0] at X0 B0;have s0:u0.heap.size=w.heap.size+1:=by rw [← h0,World.size_alloc]
 have X:=X0;have X1:=x1 u0 (.cells l1.toArray T1);have B1:=vec_made u0 l1 T1;obtain ⟨u1,h1⟩:∃ u,u0.alloc (.cells l1.toArray T1)=u:=⟨_,rfl⟩;rw [h1] at X1 B1;rw [s0] at B1;have s1:u1.heap.size=w.heap.size+1+1:=by rw [← h1,World.size_alloc,s0]
 have B0:=B0.later X1;have X:=xt X X1;exact ⟨u0,u1,h0,h1,s0,s1,B0,B1,X⟩
theorem fin5 {a w:World} {b:Nat} (V:Vec w b (valL 0 false 0 0 [])) (X:Ext a w) (hb:a.heap.size≤b) (k:Int) (n:Bool) (d x:Int) (t:List UInt8) :
  ∃ wy,(((((w.setCell ⟨b,0,none⟩ (.int .i64 k)).setCell ⟨b,1,none⟩ (.bool n)).setCell ⟨b,2,none⟩ (.int .i64 d)).setCell ⟨b,3,none⟩ (.int .i64 x)).setCell ⟨b,4,none⟩ (sV t))=wy∧Ext a wy∧(w.cell? ⟨b,0,none⟩=some (.int .i64 0)∧w.cell? ⟨b,1,none⟩=some (.bool false)∧w.cell? ⟨b,2,none⟩=some (.int .i64 0)∧w.cell? ⟨b,3,none⟩=some (.int .i64 0)∧w.cell? ⟨b,4,none⟩=some (sV []))∧(w.frozen? ⟨b,0,none⟩=false∧w.frozen? ⟨b,1,none⟩=false∧w.frozen? ⟨b,2,none⟩=false∧w.frozen? ⟨b,3,none⟩=false∧w.frozen? ⟨b,4,none⟩=false)∧wy.cell? ⟨b,0,none⟩=some (.int .i64 k)∧wy.cell? ⟨b,1,none⟩=some (.bool n)∧wy.cell? ⟨b,2,none⟩=some (.int .i64 d)∧wy.cell? ⟨b,3,none⟩=some (.int .i64 x)∧wy.cell? ⟨b,4,none⟩=some (sV t):=by
 have FG:=V.put5 (.int .i64 k) (.bool n) (.int .i64 d) (.int .i64 x) (sV t);have FX:=Ext.setL (b:=b) hb [.int .i64 k,.bool n,.int .i64 d,.int .i64 x,sV t] 0 X;exact ⟨_,rfl,FX,V.five,V.fiveF,FG.five⟩
def resW (R:DR):Value:=if R.ok=true then valV 1 R.neg R.d R.e [] else valV 4 false 0 0 [35,78,85,77,33]
set_option maxRecDepth 8000 in
set_option maxHeartbeats 2000000 in
theorem l7DecS (R:DR) (w:World):Calls Tryz.prog 142 #[resV R] w fun r w'=>r=.returned (resW R)∧Ext w w':=by
 obtain ⟨ok,n,d,e⟩:=R;obtain ⟨u0,u1,h0,h1,s0,s1,B0,B1,X⟩:=mkB2 w [.bool ok,.bool n,.int .i64 d,.int .i64 e] [.int .i64 0,.bool false,.int .i64 0,.int .i64 0,sV []] 99 33;have a0:=vC4 B0;show Calls _ _ #[.agg #[.bool ok,.bool n,.int .i64 d,.int .i64 e]] _ _;cases ok
 ·show Calls _ _ _ _ fun r w'=>r=.returned (valV 4 false 0 0 [35,78,85,77,33])∧Ext w w';go_enter Tryz.func142,Tryz.ntmps142;go_wp2_with fail;clear h0 s0 h1 s1 a0;refine (errVS [35,78,85,77,33] u1).mono ?_;rintro rr w2 ⟨rfl,e2⟩;obtain ⟨wy,hy,FX,⟨b0,b1,b2,b3,b4⟩,⟨fb0,fb1,fb2,fb3,fb4⟩,fd0,fd1,fd2,fd3,fd4⟩:=fin5 (B1.later e2) (xt X e2) (by omega) 4 false 0 0 [35,78,85,77,33];go_wp2_with fail;exact bodyPost_ret (v:=valV 4 false 0 0 [35,78,85,77,33]) (by simp [results,Tryz.results142,go_sem,fd0,fd1,fd2,fd3,fd4]) rfl ⟨rfl,FX⟩
 ·show Calls _ _ _ _ fun r w'=>r=.returned (valV 1 n d e [])∧Ext w w';go_enter Tryz.func142,Tryz.ntmps142;go_wp2_with fail;clear h0 s0 h1 s1 a0;refine (numVS n d e u1).mono ?_;rintro rr w2 ⟨rfl,e2⟩;obtain ⟨wy,hy,FX,⟨b0,b1,b2,b3,b4⟩,⟨fb0,fb1,fb2,fb3,fb4⟩,fd0,fd1,fd2,fd3,fd4⟩:=fin5 (B1.later e2) (xt X e2) (by omega) 1 n d e [];go_wp2_with fail;exact bodyPost_ret (v:=valV 1 n d e []) (by simp [results,Tryz.results142,go_sem,fd0,fd1,fd2,fd3,fd4]) rfl ⟨rfl,FX⟩
def floorZ (n:Bool) (d e:Int):DR:=roundR n d e 0 (if n=true then 3 else 2)
set_option maxRecDepth 8000 in
set_option maxHeartbeats 2000000 in
theorem l7IntS (n:Bool) (d e:Int) (w:World):Calls Tryz.prog 80 #[decV n d e] w fun r w'=>r=.returned (resW (floorZ n d e))∧Ext w w':=by
 obtain ⟨R,hR⟩:∃ R,floorZ n d e=R:=⟨_,rfl⟩;have CR:Hid (∀ W,Calls Tryz.prog 84 #[decV n d e,.int .i64 0,.int .i64 (if n=true then 3 else 2)] W fun r w'=>r=.returned (resV R)∧Ext W w'):=fun W=>by rw [← hR];exact roundS n d e 0 _ W
 have CL:Hid (∀ W,Calls Tryz.prog 142 #[resV R] W fun r w'=>r=.returned (resW R)∧Ext W w'):=fun W=>l7DecS R W;rw [hR];have HRW:∃ k n' d' e' t,resW R=valV k n' d' e' t:=by
  unfold resW
  split
  ·exact ⟨_,_,_,_,_,rfl⟩
  ·exact ⟨_,_,_,_,_,rfl⟩
 obtain ⟨k,n',d',e',t,hV⟩:=HRW;rw [hV] at CL ⊢;obtain ⟨u0,u1,h0,h1,s0,s1,B0,B1,X⟩:=mkB2 w [.bool n,.int .i64 d,.int .i64 e] [.int .i64 0,.bool false,.int .i64 0,.int .i64 0,sV []] 31 33;have a0:=vC3 B0;clear hR hV;cases n
 all_goals
  go_enter Tryz.func80,Tryz.ntmps80;go_wp2_with fail;refine (CR.out _).mono ?_;rintro rr w2 ⟨rfl,e2⟩;go_wp2_with fail;refine (CL.out _).mono ?_;rintro rr w3 ⟨rfl,e3⟩;obtain ⟨wy,hy,FX,⟨b0,b1,b2,b3,b4⟩,⟨fb0,fb1,fb2,fb3,fb4⟩,fd0,fd1,fd2,fd3,fd4⟩:=fin5 (B1.later (xt e2 e3)) (xt X (xt e2 e3)) (by omega) k n' d' e' t;clear h0 s0 h1 s1 a0;go_wp2_with fail;exact bodyPost_ret (v:=valV k n' d' e' t) (by simp [results,Tryz.results80,go_sem,fd0,fd1,fd2,fd3,fd4]) rfl ⟨rfl,FX⟩
end Go.Proofs.YtjlojlgdkfpcdaaGreatDoor

namespace Go.Proofs.YtjlojlgdkfpcdaaGreatDoor
theorem put_nought (n:Bool) (e:Int) (m:Bool):putR n 0 e m=⟨true,false,0,0⟩:=by
 unfold putR;rw [nd_zero,if_neg (by decide)];unfold fitR;rfl
theorem subR_self (n:Bool) (d e:Int):subR n d e n d e=⟨goodB n d e,false,0,0⟩:=by
 unfold subR addR;by_cases h:d=0
 ·subst h;simp only [if_true,Bool.and_self]
  split
  ·rename_i hg;rw [hg];unfold sumE sumZ;have z:∀ (x y:Int),sumI n 0 x n 0 y=0:=fun x y=>by unfold sumI sgn;simp
   rw [z];simp only [Int.natAbs_zero];rw [put_nought]
  ·rename_i hg;have:goodB n 0 e=false:=by simpa using hg
   rw [this];rfl
 ·simp only [h,if_false];have hn:goodB (!n) d e=goodB n d e:=by unfold goodB;simp only [h,if_false]
  rw [hn,Bool.and_self]
  split
  ·rename_i hg;rw [hg];unfold sumE sumZ;simp only [h,if_false];have z:sumI n d e (!n) d e=0:=by
    unfold sumI sgn;cases n <;> simp <;> omega
   rw [z];simp only [Int.natAbs_zero];rw [put_nought]
  ·rename_i hg;have:goodB n d e=false:=by simpa using hg
   rw [this];rfl
end Go.Proofs.YtjlojlgdkfpcdaaGreatDoor

namespace Go.Proofs.YtjlojlgdkfpcdaaGreatDoor
def LeZ (P:Nat) (e:Int) (B:Nat):Prop:=P * 10 ^ e.toNat≤B * 10 ^ (-e).toNat
theorem leZ_zero (e:Int) (B:Nat):LeZ 0 e B:=by unfold LeZ;omega
theorem leZ_step {Q:Nat} {e:Int} {B:Nat}:LeZ (10 * Q) e B ↔ LeZ Q (e+1) B:=by
 unfold LeZ;by_cases h:0≤e
 ·have e1:(e+1).toNat=e.toNat+1:=by omega
  have e2:(-(e+1)).toNat=0:=by omega
  have e3:(-e).toNat=0:=by omega
  rw [e1,e2,e3,Nat.pow_succ];have:10 * Q * 10 ^ e.toNat=Q * (10 ^ e.toNat * 10):=by
   rw [Nat.mul_comm 10 Q,Nat.mul_assoc,Nat.mul_comm 10]
  rw [this]
 ·have e1:(e+1).toNat=0:=by omega
  have e2:(-e).toNat=(-(e+1)).toNat+1:=by omega
  have e3:e.toNat=0:=by omega
  rw [e1,e2,e3,Nat.pow_succ,← Nat.mul_assoc];obtain ⟨X,hX⟩:∃ X,B * 10 ^ (-(e+1)).toNat=X:=⟨_,rfl⟩;rw [hX];omega
theorem leZ_mono {P Q:Nat} {e:Int} {B C:Nat} (h:LeZ P e B) (hQ:Q≤P) (hB:B≤C):LeZ Q e C:=by
 unfold LeZ at h ⊢;exact Nat.le_trans (Nat.mul_le_mul_right _ hQ) (Nat.le_trans h (Nat.mul_le_mul_right _ hB))
theorem leZ_times {P:Nat} {e:Int} {B:Nat} (k:Nat) (h:LeZ P e B):LeZ (P * k) e (B * k):=by
 unfold LeZ at h ⊢;rw [Nat.mul_right_comm,Nat.mul_right_comm B];exact Nat.mul_le_mul_right _ h
theorem leZ_cut:∀ (c:Nat) {P:Nat} {e:Int} {B:Nat},LeZ P e B→LeZ (P / 10 ^ c) (e+c) B
 | 0,P,e,B,h=>by simpa using h
 | c+1,P,e,B,h=>by
  have h1:=leZ_cut c h;have h2:LeZ (10 * (P / 10 ^ c / 10)) (e+c) B:=leZ_mono h1 (by omega) (Nat.le_refl _);have h3:=leZ_step.1 h2;rw [Nat.div_div_eq_div_mul,← Nat.pow_succ] at h3;have e1:e+((c+1:Nat):Int)=e+c+1:=by omega
  rw [e1];exact h3
theorem leZ_strip (P:Nat) (e:Int) (B:Nat) (h:LeZ P e B):LeZ (strip P e).1 (strip P e).2 B:=by
 induction P using Nat.strongRecOn generalizing e with
 | ind P ih =>
  by_cases q:P ≠ 0∧P % 10=0
  ·rw [strip_ten q.1 q.2];refine ih (P / 10) (by omega) (e+1) (leZ_step.1 ?_);have:10 * (P / 10)=P:=by omega
   rw [this];exact h
  ·rw [strip,dif_neg q];exact h
def LeD (r:DR) (B:Nat):Prop:=r.neg=false∧0≤r.d∧LeZ r.d.toNat r.e B
theorem leD_bad (B:Nat):LeD badR B:=⟨rfl,Int.le_refl _,leZ_zero _ _⟩
theorem leD_fit {P:Nat} {e:Int} {B:Nat} (h:LeZ P e B):LeD (fitR false P e) B:=by
 unfold fitR
 split
 ·exact ⟨rfl,Int.le_refl _,leZ_zero _ _⟩
 ·split
  ·exact ⟨rfl,Int.le_refl _,leZ_zero _ _⟩
  ·split
   ·exact ⟨rfl,Int.le_refl _,leZ_zero _ _⟩
   ·exact ⟨rfl,by simp,by simpa using leZ_strip P e B h⟩
theorem leD_put {P:Nat} {e:Int} {B:Nat} (h:LeZ P e B):LeD (putR false P e false) (B * 2):=by
 unfold putR
 split
 ·next h15 =>
  apply leD_fit;have hc:=leZ_times 2 (leZ_cut (nd P - 15) h);have h1:10 ^ (nd P - 15)≤P:=nd_lt (by omega);have h2:0<P / 10 ^ (nd P - 15):=Nat.div_pos h1 (ten_pow_pos _);refine leZ_mono hc ?_ (Nat.le_refl _);unfold rndM;obtain ⟨X,hX⟩:∃ X,P / 10 ^ (nd P - 15)=X:=⟨_,rfl⟩;rw [hX] at h2 ⊢
  split <;> omega
 ·exact leD_fit (leZ_mono h (Nat.le_refl _) (by omega))
theorem leD_mul {d e:Int} {B:Nat} (h:LeZ d.toNat e B):LeD (mulR false d e false 864 2) (B * 86400 * 2):=by
 unfold mulR
 split
 ·refine leD_put ?_;have h1:=leZ_times 86400 h;have e1:d.toNat * 86400=10 * (10 * (d.toNat * 864)):=by omega
  rw [e1] at h1;have h2:=leZ_step.1 (leZ_step.1 h1);have e2:e+1+1=e+2:=by omega
  rw [e2] at h2;exact h2
 ·exact leD_bad _
theorem rnd_down (P c:Nat):rndM 2 P c false=P / 10 ^ c:=by
 unfold rndM goesOn;simp
theorem leD_down {d e:Int} {B:Nat} (h0:0≤d) (h:LeZ d.toNat e B):LeD (roundR false d e 0 2) (B * 2):=by
 unfold roundR
 split
 ·unfold rndR
  split
  ·exact ⟨rfl,h0,leZ_mono h (Nat.le_refl _) (by omega)⟩
  ·next hc =>
   have e2:(2:Int).toNat=2:=rfl;rw [e2,rnd_down];refine leD_put ?_;have h1:=leZ_cut (-0 - e).toNat h;have e3:e+(((-0 - e).toNat:Nat):Int) = -0:=by omega
   rw [e3] at h1;exact h1
 ·exact leD_bad _
theorem int_le {r:DR} {B:Nat} (h:LeD r B):0≤intR r.neg r.d r.e∧intR r.neg r.d r.e≤B:=by
 obtain ⟨h1,h2,h3⟩:=h;unfold intR
 split
 ·next hk =>
  unfold intOk at hk;simp only [Bool.and_eq_true,decide_eq_true_eq] at hk;obtain ⟨_,he,_,_⟩:=hk;rw [h1];unfold sgn;rw [if_neg (by decide)];unfold LeZ at h3;have e1:(-r.e).toNat=0:=by omega
  rw [e1,Nat.pow_zero,Nat.mul_one] at h3;obtain ⟨k,hk⟩:∃ k:Nat,r.d=k:=⟨r.d.toNat,by omega⟩;rw [hk] at h3 ⊢;have e2:(k:Int).toNat=k:=rfl;rw [e2] at h3;have e3:(k:Int) * 10 ^ r.e.toNat=((k * 10 ^ r.e.toNat:Nat):Int):=by rw [Int.natCast_mul,Int.natCast_pow];rfl
  rw [e3];omega
 ·omega
theorem nd_good {d:Int} (h0:0≤d) (h1:d<1000000000000000) (c:Nat) (hc:1≤c):nd (d.toNat / 10 ^ c+1)≤15:=by
 apply nd_le;have e15:(10:Nat) ^ 15=1000000000000000:=by decide
 have h2:d.toNat / 10 ^ c≤d.toNat / 10:=Nat.div_le_div_left (by have:=pow10_le hc;omega) (by decide);omega
theorem strip_back (P:Nat) (e:Int):∃ j:Nat,(strip P e).2=e+j∧P=(strip P e).1 * 10 ^ j:=by
 induction P using Nat.strongRecOn generalizing e with
 | ind P ih =>
  by_cases q:P ≠ 0∧P % 10=0
  ·rw [strip_ten q.1 q.2];obtain ⟨j,hj,hP⟩:=ih (P / 10) (by omega) (e+1);refine ⟨j+1,by omega,?_⟩;rw [Nat.pow_succ,← Nat.mul_assoc,← hP];omega
  ·rw [strip,dif_neg q];exact ⟨0,by simp,by simp⟩
theorem fit_whole (n:Bool) (P:Nat) (hP:P<1000000000000000):(P=0∧fitR n P 0=⟨true,false,0,0⟩)∨(P ≠ 0∧∃ (Q j:Nat),fitR n P 0=⟨true,n,Q,j⟩∧P=Q * 10 ^ j∧Q ≠ 0):=by
 unfold fitR;by_cases h:P=0
 ·exact .inl ⟨h,by rw [if_pos h]⟩
 ·refine .inr ⟨h,?_⟩;obtain ⟨j,hj,hPj⟩:=strip_back P 0;have hq:(strip P 0).1 ≠ 0:=by
   intro e;rw [e,Nat.zero_mul] at hPj;exact h hPj
  have hj15:j<15:=by
   apply pow10_lt_iff;have e15:(10:Nat) ^ 15=1000000000000000:=by decide
   rw [e15];have:10 ^ j≤(strip P 0).1 * 10 ^ j:=Nat.le_mul_of_pos_left _ (by omega);omega
  rw [if_neg h,if_neg (by omega),if_neg (by omega)];refine ⟨(strip P 0).1,j,?_,hPj,hq⟩;rw [hj];simp
theorem sub_left (n:Bool) (d e:Int) (P:Nat) (he:e<0) (hd:d ≠ 0) (_h0:0≤d) (hP:P<1000000000000000) (D:Nat) (hD:sgn n d+sgn (!n) ((P * 10 ^ (-e).toNat:Nat):Int)=D) (hl:D≤10 ^ (-e).toNat) :
  LeD (subR n d e (fitR n P 0).neg (fitR n P 0).d (fitR n P 0).e) 2:=by
 have hz:LeZ D e 1:=by
  unfold LeZ;have:e.toNat=0:=by omega
  rw [this];omega
 have HP:=leD_put hz
 rcases fit_whole n P hP with ⟨h,hf⟩ | ⟨h,Q,j,hf,hQ,hq⟩
 ·rw [hf];subst h;have hDn:(D:Int)=sgn n d:=by rw [← hD];cases n <;> simp [sgn]
  have hS:sumE n d e false 0 0=putR false D e false:=by
   unfold sumE;rw [if_neg hd,if_pos rfl];unfold sumZ sumI;have e1:(e - min e e).toNat=0:=by omega
   have e2:min e e=e:=by omega
   rw [e1,e2];have e3:sgn n d * 10 ^ 0+sgn false 0 * 10 ^ 0=(D:Int):=by rw [hDn];simp [sgn]
   rw [e3,decide_eq_false (by omega)];rfl
  show LeD (subR n d e false 0 0) 2;unfold subR addR;rw [if_pos rfl,hS]
  split
  ·exact HP
  ·exact leD_bad _
 ·rw [hf];have hq':((Q:Nat):Int) ≠ 0:=by omega
  have hS:sumE n d e (!n) Q j=putR false D e false:=by
   unfold sumE;rw [if_neg hd,if_neg hq'];unfold sumZ sumI;have e2:min e (j:Int)=e:=by omega
   have e1:(e - e).toNat=0:=by omega
   have e4:((j:Int) - e).toNat=j+(-e).toNat:=by omega
   rw [e2,e1,e4];have e3:sgn n d * 10 ^ 0+sgn (!n) (Q:Int) * 10 ^ (j+(-e).toNat)=(D:Int):=by
    rw [← hD,hQ];have:((Q * 10 ^ j * 10 ^ (-e).toNat:Nat):Int)=(Q:Int) * 10 ^ (j+(-e).toNat):=by
     rw [Nat.mul_assoc,← Nat.pow_add,Int.natCast_mul,Int.natCast_pow];rfl
    rw [this];cases n <;> simp [sgn,Int.neg_mul]
   rw [e3,decide_eq_false (by omega)];rfl
  show LeD (subR n d e n Q j) 2;unfold subR addR;rw [if_neg hq',hS]
  split
  ·exact HP
  ·exact leD_bad _
theorem floor_left (n:Bool) (d e:Int) (g:goodB n d e=true):(floorZ n d e).ok=true∧LeD (subR n d e (floorZ n d e).neg (floorZ n d e).d (floorZ n d e).e) 2:=by
 obtain ⟨g0,g1,g2,g3,g4,g5⟩:=good_all g;have hF:floorZ n d e=rndR n d e 0 (if n=true then 3 else 2):=by
  unfold floorZ roundR;have hm:decide (0≤(if n=true then (3:Int) else 2)∧(if n=true then (3:Int) else 2)≤3)=true:=by cases n <;> decide
  rw [g,hm,if_pos (by decide)];cases n <;> rfl
 rw [hF];by_cases he:0≤e
 ·have h1:rndR n d e 0 (if n=true then 3 else 2)=⟨true,n,d,e⟩:=by unfold rndR;rw [if_pos (by omega)]
  rw [h1];refine ⟨rfl,?_⟩;show LeD (subR n d e n d e) 2;rw [subR_self];exact ⟨rfl,Int.le_refl _,leZ_zero _ _⟩
 ·have hd:d ≠ 0:=fun h=>by have:=(g4 h).1;omega
  have hm:=g5 hd;obtain ⟨c,hc⟩:∃ c:Nat,(-e).toNat=c:=⟨_,rfl⟩;have hc1:1≤c:=by omega
  have hnd:=nd_good g0 g1 c hc1;obtain ⟨k,hk⟩:∃ k:Nat,d=k:=⟨d.toNat,by omega⟩;subst hk;have ek:((k:Nat):Int).toNat=k:=rfl;rw [ek] at hnd;have hT:0<10 ^ c:=ten_pow_pos c;have hdm:=Nat.div_add_mod k (10 ^ c);have hml:=Nat.mod_lt k hT;have hdl:k / 10 ^ c+1<1000000000000000:=by
   have h2:k / 10 ^ c≤k / 10:=Nat.div_le_div_left (by have:=pow10_le hc1;omega) (by decide);omega
  have hmz:k % 10 ^ c ≠ 0:=by
   intro h;obtain ⟨c',rfl⟩:∃ c',c=c'+1:=⟨c - 1,by omega⟩;rw [h,Nat.pow_succ] at hdm;have:k % 10=0:=by
    rw [← hdm,Nat.add_zero,Nat.mul_comm (10 ^ c') 10,Nat.mul_assoc];exact Nat.mul_mod_right 10 _
   omega
  have hec:(-0 - e).toNat=c:=by omega
  obtain ⟨T,hTT⟩:∃ T,10 ^ c=T:=⟨_,rfl⟩;obtain ⟨X,hX⟩:∃ X,k / 10 ^ c=X:=⟨_,rfl⟩;obtain ⟨Y,hY⟩:∃ Y,k % 10 ^ c=Y:=⟨_,rfl⟩;cases n
  ·have h1:rndR false k e 0 (if false=true then 3 else 2)=fitR false (k / 10 ^ c) 0:=by
    unfold rndR;rw [if_neg (by omega),if_neg (by decide),hec,ek,rnd_down];unfold putR;rw [if_neg (by
     intro h;have:=nd_lt h;have:=(nd_dig (k / 10 ^ c+1)).1;have h15:=pow10_le hnd;omega)]
    rfl
   rw [h1];refine ⟨?_,sub_left false k e (k / 10 ^ c) (by omega) hd g0 (by omega) (k % 10 ^ c) ?_ (by rw [hc];omega)⟩
   ·rcases fit_whole false (k / 10 ^ c) (by omega) with ⟨_,hf⟩ | ⟨_,Q,j,hf,_⟩ <;> rw [hf]
   ·rw [hc];unfold sgn;simp only [Bool.not_false,if_true];rw [if_neg (by decide)];have e5:k / 10 ^ c * 10 ^ c=10 ^ c * (k / 10 ^ c):=Nat.mul_comm _ _;rw [e5];omega
  ·have h1:rndR true k e 0 (if true=true then 3 else 2)=fitR true (k / 10 ^ c+1) 0:=by
    unfold rndR;rw [if_neg (by omega),if_pos rfl,hec,ek];have hr:rndM 3 k c false=k / 10 ^ c+1:=by
     unfold rndM;have hne:restN k c false ≠ 0:=by
      unfold restN
      split
      ·decide
      ·split
       ·decide
       ·rw [if_pos (.inl (by omega))];decide
     have hg:goesOn 3 (decide (k / 10 ^ c % 2=1)) (restN k c false)=true:=by
      unfold goesOn;simp [hne]
     rw [if_pos hg]
    rw [hr];unfold putR;rw [if_neg (by omega)];rfl
   rw [h1];refine ⟨?_,sub_left true k e (k / 10 ^ c+1) (by omega) hd g0 (by omega) (10 ^ c - k % 10 ^ c) ?_ (by rw [hc];omega)⟩
   ·rcases fit_whole true (k / 10 ^ c+1) (by omega) with ⟨_,hf⟩ | ⟨_,Q,j,hf,_⟩ <;> rw [hf]
   ·rw [hc];unfold sgn;simp only [Bool.not_true,if_true];rw [if_neg (by decide)];have e5:(k / 10 ^ c+1) * 10 ^ c=10 ^ c * (k / 10 ^ c)+10 ^ c:=(by rw [Nat.add_mul,Nat.mul_comm,Nat.one_mul]);rw [e5];omega
theorem sec_range (n:Bool) (d e:Int) (g:goodB n d e=true) :
  (floorZ n d e).ok=true∧0≤intR (secR n d e (floorZ n d e).neg (floorZ n d e).d (floorZ n d e).e).neg (secR n d e (floorZ n d e).neg (floorZ n d e).d (floorZ n d e).e).d (secR n d e (floorZ n d e).neg (floorZ n d e).d (floorZ n d e).e).e
   ∧ intR (secR n d e (floorZ n d e).neg (floorZ n d e).d (floorZ n d e).e).neg (secR n d e (floorZ n d e).neg (floorZ n d e).d (floorZ n d e).e).d (secR n d e (floorZ n d e).neg (floorZ n d e).d (floorZ n d e).e).e≤1000000:=by
 obtain ⟨h1,h2⟩:=floor_left n d e g;refine ⟨h1,?_⟩;obtain ⟨F,hF⟩:∃ F,floorZ n d e=F:=⟨_,rfl⟩;rw [hF] at h2 ⊢;unfold secR;obtain ⟨S,hS⟩:∃ S,subR n d e F.neg F.d F.e=S:=⟨_,rfl⟩;rw [hS] at h2;simp only [hS];obtain ⟨s1,s2,s3⟩:=h2;rw [s1];have hm:=leD_mul s3;obtain ⟨M,hM⟩:∃ M,mulR false S.d S.e false 864 2=M:=⟨_,rfl⟩;rw [hM] at hm ⊢;obtain ⟨m1,m2,m3⟩:=hm;rw [m1];have hr:=int_le (leD_down m2 m3);exact ⟨hr.1,by have:=hr.2;omega⟩
end Go.Proofs.YtjlojlgdkfpcdaaGreatDoor

namespace Go.Proofs.YtjlojlgdkfpcdaaGreatDoor
open Go.RowKit
theorem takeWhile_drop (P:UInt8→Bool) (l:BL):(l.takeWhile P).length+(l.dropWhile P).length=l.length:=by
 have:=congrArg List.length (List.takeWhile_append_dropWhile (p:=P) (l:=l));rw [List.length_append] at this;exact this
theorem trimLeft_len (l:BL) (c:UInt8):l.length - (Lib.trimLeftS l [c]).length=(l.takeWhile (· == c)).length:=by
 have h:=takeWhile_drop (· == c) l;have e:Lib.trimLeftS l [c]=l.dropWhile (· == c):=by rw [Lib.trimLeftS_one];rfl
 rw [e];omega
set_option maxHeartbeats 1000000 in
theorem runI (l:BL) (c:UInt8) (m:Nat) (hc:c=48∨c=46∨c=35∨c=37) (hl:l.length≤1000) (w:World) :
  Calls Tryz.prog 106 #[sV l,sV [c],.int .i64 (m:Int)] w fun e w'=>e=.returned (.int .i64 (runF c m l:Nat))∧Ext w w':=by
 have TL:=trimLeftK l c hc w;have hlen:=trimLeft_len l c;have hle:(Lib.trimLeftS l [c]).length≤l.length:=by
  have h:=takeWhile_drop (· == c) l;have e:Lib.trimLeftS l [c]=l.dropWhile (· == c):=by rw [Lib.trimLeftS_one];rfl
  rw [e];omega
 obtain ⟨R,hR⟩:∃ R,runF c m l=R:=⟨_,rfl⟩;have HR:Hid (min (l.length - (Lib.trimLeftS l [c]).length) m=R):=by show _=_;rw [hlen,← hR];rfl
 rw [hR];obtain ⟨t,ht⟩:∃ t,Lib.trimLeftS l [c]=t:=⟨_,rfl⟩;rw [ht] at TL HR hle;have z1:(⟨l.toArray⟩:ByteArray).size=l.length:=rfl;have z2:(⟨t.toArray⟩:ByteArray).size=t.length:=rfl;obtain ⟨n,hn⟩:∃ n,l.length=n:=⟨_,rfl⟩;obtain ⟨q,hq⟩:∃ n,t.length=n:=⟨_,rfl⟩;rw [hn] at z1 HR hle hl;rw [hq] at z2 HR hle;clear hR ht hn hq hlen hc;go_enter Tryz.func106,Tryz.ntmps106;go_wp2_with fail;refine TL.mono ?_;rintro e w1 ⟨rfl,e1⟩;go_wp2_with fail
 all_goals go_ret
 all_goals exact ⟨ret_int (by have:=HR.out;omega),e1⟩
theorem index34 (r:BL):Lib.index r [34]=if r.dropWhile nq=[] then -1 else ((r.takeWhile nq).length:Int):=by
 induction r with
 | nil=>rfl
 | cons b l ih =>
  by_cases hb:b=34
  ·subst hb;have h0:([34]:List UInt8).isPrefixOf (34 :: l)=true:=by simp [List.isPrefixOf]
   unfold Lib.index;rw [if_pos h0];simp [List.dropWhile,List.takeWhile,nq]
  ·have hq:nq b=true:=by simpa [nq] using hb
   have h0:([34]:List UInt8).isPrefixOf (b :: l)=false:=by
    simp [List.isPrefixOf];exact fun e=>hb e.symm
   unfold Lib.index;rw [h0,ih];simp only [List.dropWhile,List.takeWhile,hq];by_cases hd:l.dropWhile nq=[]
   ·rw [if_pos hd,if_pos hd];rfl
   ·rw [if_neg hd,if_neg hd];have:(((l.takeWhile nq).length:Int) == -1)=false:=(by rw [beq_eq_false_iff_ne];omega);simp [this]
theorem take_while_len (P:UInt8→Bool) (l:BL):l.take (l.takeWhile P).length=l.takeWhile P:=by
 conv=>lhs;arg 2;rw [← List.takeWhile_append_dropWhile (p:=P) (l:=l)]
 exact List.take_left
theorem drop_while_len (P:UInt8→Bool) (l:BL):l.drop (l.takeWhile P).length=l.dropWhile P:=by
 conv=>lhs;arg 2;rw [← List.takeWhile_append_dropWhile (p:=P) (l:=l)]
 exact List.drop_left
theorem cut34 (r:BL):(Lib.cut r [34]).2.2=decide (r.dropWhile nq ≠ [])∧(r.dropWhile nq ≠ []→(Lib.cut r [34]).1=r.takeWhile nq)∧(Lib.cut r [34]).1.length≤r.length:=by
 unfold Lib.cut;rw [index34];by_cases h:r.dropWhile nq=[]
 ·rw [if_pos h];simp [h]
 ·rw [if_neg h,if_pos (by omega)];refine ⟨by simp [h],fun _=>?_,?_⟩
  ·show r.take _=_;rw [Int.toNat_natCast,take_while_len]
  ·show (r.take _).length≤_;rw [List.length_take];omega
theorem quoLen_no {l:BL} (h:Lib.hasPrefix l [34]=false):quoLen l=0:=by
 unfold quoLen;cases l with
 | nil=>rfl
 | cons c r =>
  have:(c == 34)=false:=by
   simp [Lib.hasPrefix,List.isPrefixOf] at h;rw [beq_eq_false_iff_ne];exact fun e=>h e.symm
  have e:qT (c :: r)=none:=by
   show (if (c == 34)=true then _ else none)=none;rw [this];rfl
  rw [e]
theorem quoLen_is {l:BL} (h:Lib.hasPrefix l [34]=true):quoLen l=if ((l.drop 1).dropWhile nq ≠ [])∧((l.drop 1).takeWhile nq ≠ [])∧((l.drop 1).takeWhile nq).length≤20∧plainB ((l.drop 1).takeWhile nq)=true then ((l.drop 1).takeWhile nq).length+2 else 0:=by
 have e:=qT_eq h;unfold quoS at e;rw [if_pos h] at e;unfold quoLen;rw [e]
 split
 ·rename_i x hx
  split at hx
  ·cases hx;rename_i hc;rw [if_pos hc]
  ·cases hx
 ·rename_i hx
  split at hx
  ·cases hx
  ·rename_i hc;rw [if_neg hc]
set_option maxRecDepth 8000 in
set_option maxHeartbeats 2000000 in
theorem quoLenI (l:BL) (hl:l.length≤1000) (w:World) (T:TabK w) :
  Calls Tryz.prog 104 #[sV l] w fun e w'=>e=.returned (.int .i64 (quoLen l:Nat))∧Ext w w':=by
 have CP:=cutPrefixK l 34 w;obtain ⟨rest,hrest⟩:∃ rest,Lib.trimPrefix l [34]=rest:=⟨_,rfl⟩;have hrl:rest.length≤1000:=by
  rw [← hrest];unfold Lib.trimPrefix;split
  ·rw [List.length_drop];omega
  ·exact hl
 have CU:=cutK rest w hrl T;obtain ⟨c1,c2,c3⟩:=cut34 rest;obtain ⟨b1,hb1⟩:∃ b,Lib.hasPrefix l [34]=b:=⟨_,rfl⟩;obtain ⟨t,ht⟩:∃ t,(Lib.cut rest [34]).1=t:=⟨_,rfl⟩;obtain ⟨t2,ht2⟩:∃ t,(Lib.cut rest [34]).2.1=t:=⟨_,rfl⟩;obtain ⟨b2,hb2⟩:∃ b,(Lib.cut rest [34]).2.2=b:=⟨_,rfl⟩;have PL:=fun W=>plainI t W (by rw [← ht];omega);have HR:Hid (quoLen l=if b1=true∧b2=true∧t ≠ []∧t.length≤20∧plainB t=true then t.length+2 else 0):=by
  show _=_;cases b1 with
  | false=>rw [quoLen_no hb1];simp
  | true =>
   have hr:l.drop 1=rest:=by rw [← hrest];unfold Lib.trimPrefix;rw [if_pos hb1];rfl
   rw [quoLen_is hb1,hr];rw [hb2] at c1;by_cases hD:rest.dropWhile nq=[]
   ·have:b2=false:=(by rw [c1];simp [hD]);rw [this,if_neg (fun h=>h.1 hD)];simp
   ·have:b2=true:=(by rw [c1];simp [hD]);have hT:rest.takeWhile nq=t:=(by rw [← ht];exact (c2 hD).symm);rw [this,hT];by_cases hh:t ≠ []∧t.length≤20∧plainB t=true
    ·rw [if_pos ⟨hD,hh⟩,if_pos ⟨rfl,rfl,hh⟩]
    ·rw [if_neg (fun h=>hh h.2),if_neg (fun h=>hh h.2.2)]
 rw [hrest,hb1] at CP;rw [ht,ht2,hb2] at CU;obtain ⟨R,hR⟩:∃ R,quoLen l=R:=⟨_,rfl⟩;rw [hR] at HR ⊢;have z2:(⟨t.toArray⟩:ByteArray).size=t.length:=rfl;have htl:t.length≤1000:=by rw [← ht];omega
 obtain ⟨q,hq⟩:∃ q,t.length=q:=⟨_,rfl⟩;have HQ:Hid (t.length=q):=hq;rw [hq] at HR z2 htl;clear hrest hb1 ht ht2 hb2 hR c1 c2 c3 hq T;cases b1
 ·have HE:Hid (R=0):=by show _=_;rw [HR.out];simp
  clear HR PL;go_enter Tryz.func104,Tryz.ntmps104;go_wp2_with fail;refine CP.mono ?_;rintro e w1 ⟨rfl,rfl⟩;go_wp2_with fail;refine CU.mono ?_;rintro e w2 ⟨rfl,e2⟩;go_wp2_with fail;go_ret;exact ⟨ret_int (by rw [HE.out];rfl),e2⟩
 cases b2
 ·have HE:Hid (R=0):=by show _=_;rw [HR.out];simp
  clear HR PL;go_enter Tryz.func104,Tryz.ntmps104;go_wp2_with fail;refine CP.mono ?_;rintro e w1 ⟨rfl,rfl⟩;go_wp2_with fail;refine CU.mono ?_;rintro e w2 ⟨rfl,e2⟩;go_wp2_with fail;go_ret;exact ⟨ret_int (by rw [HE.out];rfl),e2⟩
 by_cases hte:t=[]
 ·have HE:Hid (R=0):=by show _=_;rw [HR.out];simp [hte]
  subst hte;clear HR PL;go_enter Tryz.func104,Tryz.ntmps104;go_wp2_with fail;refine CP.mono ?_;rintro e w1 ⟨rfl,rfl⟩;go_wp2_with fail;refine CU.mono ?_;rintro e w2 ⟨rfl,e2⟩;go_wp2_with fail;go_ret;exact ⟨ret_int (by rw [HE.out];rfl),e2⟩
 have he:(t == [])=false:=by rw [beq_eq_false_iff_ne];exact hte
 by_cases h20:q≤20
 ·have i20:(q:Int)≤20:=by omega
  obtain ⟨pb,hpb⟩:∃ pb,plainB t=pb:=⟨_,rfl⟩;rw [hpb] at HR;simp only [hpb] at PL;cases pb
  ·have HE:Hid (R=0):=by show _=_;rw [HR.out];simp
   clear HR hpb;go_enter Tryz.func104,Tryz.ntmps104;go_wp2_with fail;refine CP.mono ?_;rintro e w1 ⟨rfl,rfl⟩;go_wp2_with fail;refine CU.mono ?_;rintro e w2 ⟨rfl,e2⟩;go_wp2_with fail;refine (PL _).mono ?_;rintro e w3 ⟨rfl,rfl⟩;go_wp2_with fail;go_ret;exact ⟨ret_int (by rw [HE.out];rfl),e2⟩
  ·have HE:Hid (R=q+2):=by show _=_;rw [HR.out,if_pos ⟨rfl,rfl,hte,h20,rfl⟩]
   clear HR hpb;go_enter Tryz.func104,Tryz.ntmps104;go_wp2_with fail;refine CP.mono ?_;rintro e w1 ⟨rfl,rfl⟩;go_wp2_with fail;refine CU.mono ?_;rintro e w2 ⟨rfl,e2⟩;go_wp2_with fail;refine (PL _).mono ?_;rintro e w3 ⟨rfl,rfl⟩;go_wp2_with fail;go_ret;exact ⟨ret_int (by rw [HE.out];omega),e2⟩
 ·have i20:20<(q:Int):=by omega
  have HE:Hid (R=0):=by show _=_;rw [HR.out,if_neg (fun h=>h20 h.2.2.2.1)]
  clear HR PL;go_enter Tryz.func104,Tryz.ntmps104;go_wp2_with fail;refine CP.mono ?_;rintro e w1 ⟨rfl,rfl⟩;go_wp2_with fail;refine CU.mono ?_;rintro e w2 ⟨rfl,e2⟩;go_wp2_with fail;go_ret;exact ⟨ret_int (by rw [HE.out];rfl),e2⟩
end Go.Proofs.YtjlojlgdkfpcdaaGreatDoor

