/-
  Several texts in one: ImB, ImC, ImD.
-/
import Derived.Test.YtjlojlgdkfpcdaaGreatDoorMg0
import Derived.Test.YtjlojlgdkfpcdaaGreatDoorMg12
import Derived.Test.YtjlojlgdkfpcdaaGreatDoorShelb
import Derived.Shelf.Small.Bits
import Derived.Deep.DeepCutAuto
import Derived.Deep.CutBlock
import Derived.Test.YtjlojlgdkfpcdaaGreatDoorMg7
import Derived.Deep.RegionHeld3
set_option maxRecDepth 8000
set_option maxHeartbeats 4000000
namespace Go.Proofs.YtjlojlgdkfpcdaaGreatDoor
open Go.RowKit
theorem zLQ (x k:Nat) (h:2 ^ k<=x) (hx:x<2 ^ 64):k<Lib.bitLen x:=by
 have:=Lib.bitLen_shift k x h hx;have h2:x / 2 ^ k ≠ 0:=by
  have:=Nat.div_pos h (Nat.pow_pos (by decide));omega
 have h3:=Lib.bitLen_half (x / 2 ^ k) h2 (Nat.lt_of_le_of_lt (Nat.div_le_self _ _) hx);omega
theorem zVC (y:Int) (w:World) (h0:0<=y) (h1:y<=18446744073709551615) :
  Calls Tryz.prog 232 #[.int .u64 y] w fun e w'=>e=.returned (iQ (64 - Lib.bitLen y.toNat))/\w'=w:=
 Any.bits_LeadingZeros64 layLz64 y w h0 h1
def In64 (hi lo y:Nat) (s:Nat) (Y u L a b n1 n0:Int):Prop:=
 IntKind.u64.wrap ((y:Int) * 2 ^ s)=Y/\bits .or .u64 (IntKind.u64.wrap ((hi:Int) * 2 ^ s)) ((lo:Int) / 2 ^ (64 - s))=u/\IntKind.u64.wrap ((lo:Int) * 2 ^ s)=L /\
 Y / 4294967296=a/\bits .and .u64 Y 4294967295=b/\L / 4294967296=n1/\bits .and .u64 L 4294967295=n0 /\
 Y=a * 4294967296+b/\L=n1 * 4294967296+n0/\0<=n0/\n0<4294967296/\zDB a b u n1/\(y:Int) * 2 ^ s=Y /\
 ((hi:Int) * 18446744073709551616+lo) * 2 ^ s=u * 18446744073709551616+L
theorem in64 {hi lo y s:Nat} (h0:0<hi) (h1:hi<y) (y1:y<18446744073709551616) (l1:lo<18446744073709551616) (hs:64 - Lib.bitLen y=s) :
  s<=63/\∃ Y u L a b n1 n0:Int,In64 hi lo y s Y u L a b n1 n0:=by
 have b1:=Lib.bitLen_le y 64 (by decide) y1;have b2:=zLQ y 0 (by simp;omega) y1;obtain ⟨n,hn⟩:=nm (Lib.bitLen y);rw [hn] at b1 b2 hs;have hns:n+s=64:=by omega
 have yl:2 ^ (n - 1)<=y:=by
  by_cases h:2 ^ (n - 1)<=y
  ·exact h
  ·have:=Lib.bitLen_le y (n - 1) (by omega) (by omega);omega
 have yu:y<2 ^ n:=by
  by_cases h:y<2 ^ n
  ·exact h
  ·have:=zLQ y n (by omega) y1;omega
 obtain ⟨d1,d2,d3,d4,d5,d6⟩:=zW3 hns (by omega) h1 yl yu l1;have e64:64 - s=n:=by omega
 refine ⟨by omega,(y * 2 ^ s:Nat),(hi * 2 ^ s+lo / 2 ^ n:Nat),(lo * 2 ^ s % 18446744073709551616:Nat),(y * 2 ^ s / 4294967296:Nat),(y * 2 ^ s % 4294967296:Nat),(lo * 2 ^ s % 18446744073709551616 / 4294967296:Nat),(lo * 2 ^ s % 18446744073709551616 % 4294967296:Nat),?_⟩;have c1:∀ x:Nat,(x:Int) * 2 ^ s=((x * 2 ^ s:Nat):Int):=fun x=>by rw [Int.natCast_mul,Int.natCast_pow];rfl
 have c2:(lo:Int) / 2 ^ n=((lo / 2 ^ n:Nat):Int):=by rw [Int.natCast_ediv,Int.natCast_pow];rfl
 have m1:lo * 2 ^ s % 18446744073709551616<18446744073709551616:=Nat.mod_lt _ (by decide);have e0:((hi:Int) * 18446744073709551616+lo) * 2 ^ s=(((hi * 18446744073709551616+lo) * 2 ^ s:Nat):Int):=by
  rw [<- c1];rfl
 unfold In64;rw [c1,c1,c1,e64,c2,e0,d6];have w1:∀ x:Nat,x<18446744073709551616->IntKind.u64.wrap (x:Int)=(x:Int):=fun x hx=>by rw [IntKind.wrap_u64];omega
 have w2:∀ x:Nat,x<18446744073709551616->bits .and .u64 (x:Int) 4294967295=((x % 4294967296:Nat):Int):=fun x hx=>by
  have h:=bits_and_u64_nat x 4294967295 hx (by omega);have e:x &&& 4294967295=x % 4294967296:=Nat.and_two_pow_sub_one_eq_mod x 32;rw [e] at h;exact h
 rw [w1 _ d2,w1 _ d3,w2 _ d2,w2 _ m1,bits_or_u64_nat _ _ d3 (Nat.lt_of_le_of_lt (Nat.div_le_self _ _) l1),d4];generalize y * 2 ^ s=YY at *;generalize hi * 2 ^ s+lo / 2 ^ n=uu at *;have w3:IntKind.u64.wrap ((lo * 2 ^ s:Nat):Int)=((lo * 2 ^ s % 18446744073709551616:Nat):Int):=by rw [IntKind.wrap_u64];omega
 rw [w3];generalize lo * 2 ^ s % 18446744073709551616=LL at *;refine ⟨rfl,rfl,rfl,by omega,rfl,by omega,rfl,by omega,by omega,by omega,by omega,⟨by omega,by omega,by omega,by omega,by omega,by omega,by omega,by omega⟩,rfl,by omega⟩
theorem zL9 {a b u n q r:Int} (h:zC3 a b u n q r) (hi:zDB a b u n) (hq:q<4294967296):0<=q * b/\q * b<18446744073709551616:=by
 obtain ⟨_,_,h3,_⟩:=h;have b0:=hi.2.2.1;have b1:=hi.2.2.2.1;refine ⟨Int.mul_nonneg h3 b0,?_⟩;have h1:q * b<=4294967295 * b:=Int.mul_le_mul_of_nonneg_right (by omega) b0;omega
theorem zW4 (hi lo y:Nat) (w:World) (h0:0<hi) (h1:hi<y) (y1:y<18446744073709551616) (l1:lo<18446744073709551616) :
  Calls Tryz.prog 221 #[.int .u64 hi,.int .u64 lo,.int .u64 y] w fun e w'=>∃ q r:Int,e=.returned (.tuple #[.int .u64 q,.int .u64 r])/\w'=w/\q=((hi:Int) * 18446744073709551616+lo) / y/\r=((hi:Int) * 18446744073709551616+lo) % y:=by
 obtain ⟨s,hs⟩:∃ s:Nat,64 - Lib.bitLen y=s:=⟨_,rfl⟩;obtain ⟨s63,Y,u,L,a,b,n1,n0,i1,i2,i3,i4,i5,i6,i7,i8,i9,n00,n01,HI,iY,iV⟩:=in64 h0 h1 y1 l1 hs;have LZ:Hid (∀ w,Calls Tryz.prog 232 #[.int .u64 y] w fun e w'=>e=.returned (iQ s)/\w'=w):=fun w=>by
  have:=zVC y w (by omega) (by omega);rw [Int.toNat_natCast] at this;have b1:=Lib.bitLen_le y 64 (by decide) y1;rw [show (64:Int) - Lib.bitLen y=s by omega] at this;exact this
 have hy0:(((y:Int) == 0))=false:=by rw [beq_eq_false_iff_ne];omega
 have hh0:(((hi:Int) == 0))=false:=by rw [beq_eq_false_iff_ne];omega
 have hyh:¬ (y:Int)<=(hi:Int):=by omega
 have HI':=HI;obtain ⟨a0,a1,b0,b1,u0,u1,n10,n11⟩:=HI';have u2:u<18446744073709551616:=by omega
 have YB:Hid (Y=a * 4294967296+b/\0<=Y/\Y<18446744073709551616):=⟨i8,by omega,by omega⟩;have hst:=zC3.start HI;obtain ⟨r0,hr0⟩:=nm (u % a);rw [hr0] at hst;obtain ⟨P0,hP0⟩:=nm (u / a * a);have hqr:=hst.1;have q00:=hst.2.2.1;have p00:0<=P0:=by rw [<- hP0];exact Int.mul_nonneg q00 (by omega)
 have r00:=hst.2.2.2.2.1;have p01:P0<18446744073709551616:=by omega
 have e0:u - P0=r0:=by omega
 have HST:=hid hst;have DONE:Hid (∀ q1 q0 u':Int,u'=u * 4294967296+n1 - q1 * Y->zDB a b u' n0->zCT a b u' n0 q0->q1 * 4294967296+q0=((hi:Int) * 18446744073709551616+lo) / y/\(u' * 4294967296+n0 - q0 * Y) / 2 ^ s=((hi:Int) * 18446744073709551616+lo) % y):=fun q1 q0 u' h2 h3 h4=>by
  rw [i8] at h2 ⊢;exact zPV (S:=2 ^ s) (Int.pow_pos (by decide)) (by omega) (by rw [iY,i8]) (by rw [iV,i9];omega) h2 h3 h4
 have HIN:=hid HI;clear hst hqr hr0 i8 i9 iY iV HI hs u1;go_enter Tryz.func221,Tryz.ntmps221;go_wp2_with fail;refine (LZ.out _).mono ?_;rintro e w1 ⟨rfl,rfl⟩;go_upto_block 0 with fail;clear hP0 e0 p00 p01;go_cut [15] (fun v wc=>∃ q:Int,v=.int .u64 q/\zCT a b u n1 q/\wc=w1)
 case first =>
  go_wp2_with fail
  go_loop [15,16] (fun v x=>∃ q r:Int,v=.int .u64 q/\x=.int .u64 r/\zC3 a b u n1 q r) (fun v _=>(intOf v).toNat)
  case atStart=>exact ⟨u / a,r0,rfl,rfl,HST.out⟩
  case round =>
   obtain ⟨q,r,rfl,rfl,hA⟩:=hrel;have HA:=hid hA;have q2:=hA.2.2.1;have q3:=hA.2.2.2.1;have r2:=hA.2.2.2.2.1;have r3:=hA.2.2.2.2.2;by_cases hq:4294967296<=q
   ·clear hA;by_cases hr:r+a<4294967296
    ·go_wp2_with fail
     go_round
     case rel=>exact ⟨q - 1,r+a,rfl,rfl,HA.out.next HIN.out (.inl hq) hr⟩
     case measure=>simp [intOf];omega
    ·have hr':4294967296<=r+a:=(by omega);go_wp2_with fail;go_meet
     case rel=>exact ⟨q - 1,rfl,HA.out.last HIN.out (.inl hq) hr',rfl⟩
   ·obtain ⟨p0,p1⟩:=zL9 hA HIN.out (by omega);have hq':q<4294967296:=(by omega);clear hA;obtain ⟨p,hp⟩:=nm (q * b);rw [hp] at p0 p1;by_cases hc:4294967296 * r+n1<p
    ·have HC:Hid (4294967296<=q\/r * 4294967296+n1<q * b):=.inr (by omega);have qp:1<=q:=HA.out.pos HIN.out HC.out;by_cases hr:r+a<4294967296
     ·go_wp2_with fail
      go_round
      case rel=>exact ⟨q - 1,r+a,rfl,rfl,HA.out.next HIN.out HC.out hr⟩
      case measure=>simp [intOf];omega
     ·have hr':4294967296<=r+a:=(by omega);go_wp2_with fail;go_meet
      case rel=>exact ⟨q - 1,rfl,HA.out.last HIN.out HC.out hr',rfl⟩
    ·have HC:Hid (q * b<=r * 4294967296+n1):=(by show _<=_;omega);go_wp2_with fail;go_meet
     case rel=>exact ⟨q,rfl,HA.out.stop HIN.out (Int.not_lt.2 HC.out),rfl⟩
 case rest =>
  obtain ⟨q1,rfl,hD,rfl⟩:=hcut;obtain ⟨d1,d2⟩:=hD.rest HIN.out;obtain ⟨hq1e,q10,q11⟩:=hD;clear hq1e;rw [<- YB.out.1] at d1 d2;have y00:=YB.out.2.1;have y01:=YB.out.2.2;obtain ⟨P1,hP1⟩:=nm (q1 * Y);rw [hP1] at d1 d2;obtain ⟨u',hu'⟩:=nm (u * 4294967296+n1 - P1);rw [hu'] at d1 d2;have W1:IntKind.u64.wrap (IntKind.u64.wrap (IntKind.u64.wrap (u * 4294967296)+n1) - IntKind.u64.wrap P1)=u':=by
   simp only [IntKind.wrap_u64];omega
  have HI2:zDB a b u' n0:=⟨a0,a1,b0,b1,d1,by rw [<- YB.out.1];exact d2,n00,n01⟩;have HU:Hid (u'=u * 4294967296+n1 - q1 * Y):=by show _=_;rw [hP1];exact hu'.symm
  have hst2:=zC3.start HI2;obtain ⟨r2,hr2⟩:=nm (u' % a);rw [hr2] at hst2;obtain ⟨P2,hP2⟩:=nm (u' / a * a);have hqr2:=hst2.1;have q20:=hst2.2.2.1;have p20:0<=P2:=by rw [<- hP2];exact Int.mul_nonneg q20 (by omega)
  have r20:=hst2.2.2.2.2.1;have p21:P2<18446744073709551616:=by omega
  have u21:u'<18446744073709551616:=by omega
  have e2:u' - P2=r2:=by omega
  have HST2:=hid hst2;have HIN2:=hid HI2;clear hst2 hqr2 hr2 HI2 hu' u0 u2;go_upto_block 2 with fail;clear hP2 e2 p20 p21 W1 hP1;go_cut [18] (fun v wd=>∃ q:Int,v=.int .u64 q/\zCT a b u' n0 q/\wd=wc)
  case first =>
   go_wp2_with fail
   go_loop [18,16] (fun v x=>∃ q r:Int,v=.int .u64 q/\x=.int .u64 r/\zC3 a b u' n0 q r) (fun v _=>(intOf v).toNat)
   case atStart=>exact ⟨u' / a,r2,rfl,rfl,HST2.out⟩
   case round =>
    obtain ⟨q,r,rfl,rfl,hA⟩:=hrel;have HA:=hid hA;have q2:=hA.2.2.1;have q3:=hA.2.2.2.1;have r2:=hA.2.2.2.2.1;have r3:=hA.2.2.2.2.2;by_cases hq:4294967296<=q
    ·clear hA;by_cases hr:r+a<4294967296
     ·go_wp2_with fail
      go_round
      case rel=>exact ⟨q - 1,r+a,rfl,rfl,HA.out.next HIN2.out (.inl hq) hr⟩
      case measure=>simp [intOf];omega
     ·have hr':4294967296<=r+a:=(by omega);go_wp2_with fail;go_meet
      case rel=>exact ⟨q - 1,rfl,HA.out.last HIN2.out (.inl hq) hr',rfl⟩
    ·obtain ⟨p0,p1⟩:=zL9 hA HIN2.out (by omega);have hq':q<4294967296:=(by omega);clear hA;obtain ⟨p,hp⟩:=nm (q * b);rw [hp] at p0 p1;by_cases hc:4294967296 * r+n0<p
     ·have HC:Hid (4294967296<=q\/r * 4294967296+n0<q * b):=.inr (by omega);have qp:1<=q:=HA.out.pos HIN2.out HC.out;by_cases hr:r+a<4294967296
      ·go_wp2_with fail
       go_round
       case rel=>exact ⟨q - 1,r+a,rfl,rfl,HA.out.next HIN2.out HC.out hr⟩
       case measure=>simp [intOf];omega
      ·have hr':4294967296<=r+a:=(by omega);go_wp2_with fail;go_meet
       case rel=>exact ⟨q - 1,rfl,HA.out.last HIN2.out HC.out hr',rfl⟩
     ·have HC:Hid (q * b<=r * 4294967296+n0):=(by show _<=_;omega);go_wp2_with fail;go_meet
      case rel=>exact ⟨q,rfl,HA.out.stop HIN2.out (Int.not_lt.2 HC.out),rfl⟩
  case rest =>
   obtain ⟨q2,rfl,hD2,hwd⟩:=hcut;subst hwd;obtain ⟨f1,f2⟩:=DONE.out q1 q2 u' HU.out HIN2.out hD2;obtain ⟨g1,g2⟩:=hD2.rest HIN2.out;obtain ⟨hq2e,q20',q21'⟩:=hD2;clear hq2e;rw [<- YB.out.1] at g1 g2;obtain ⟨P3,hP3⟩:=nm (q2 * Y);rw [hP3] at g1 g2 f2;obtain ⟨R,hR⟩:=nm (u' * 4294967296+n0 - P3);rw [hR] at g1 g2 f2;have W2:IntKind.u64.wrap (IntKind.u64.wrap (IntKind.u64.wrap (u' * 4294967296)+n0) - IntKind.u64.wrap P3)=R:=by
    simp only [IntKind.wrap_u64];omega
   have F:Hid (q1 * 4294967296+q2=((hi:Int) * 18446744073709551616+lo) / y/\R / 2 ^ s=((hi:Int) * 18446744073709551616+lo) % y):=⟨f1,f2⟩;have R1:R<18446744073709551616:=by omega
   clear f1 f2 hR d1 d2 u21;go_wp2_with fail
   go_ret2
   exact ⟨_,_,rfl,rfl,F.out.1,F.out.2⟩
theorem zPW (lo y:Nat) (w:World) (y0:0<y) (y1:y<18446744073709551616) (l1:lo<18446744073709551616) :
  Calls Tryz.prog 221 #[.int .u64 0,.int .u64 lo,.int .u64 y] w fun e w'=>e=.returned (.tuple #[.int .u64 ((lo:Int) / y),.int .u64 ((lo:Int) % y)])/\Ext w w':=by
 have hy0:(((y:Int) == 0))=false:=by rw [beq_eq_false_iff_ne];omega
 have hy1:¬ (y:Int)<=0:=by omega
 have hy2:(0:Int)<(y:Int):=by omega
 have hw:IntKind.u64.wrap ((lo:Int) / (y:Int))=(lo:Int) / (y:Int):=by
  rw [IntKind.wrap_u64];have:=Int.ediv_nonneg (show (0:Int)<=(lo:Int) by omega) (show (0:Int)<=(y:Int) by omega);have:=Int.ediv_le_self (y:Int) (show (0:Int)<=(lo:Int) by omega);omega
 go_enter Tryz.func221,Tryz.ntmps221;go_wp2_with fail;go_quiet (fail)
 go_wp2
 go_ret2
 exact ⟨rfl,zEY (xr _) _⟩
theorem zTL (hi lo y:Nat) (w:World) (h1:hi<y) (y1:y<18446744073709551616) (l1:lo<18446744073709551616) :
  Calls Tryz.prog 221 #[.int .u64 hi,.int .u64 lo,.int .u64 y] w fun e w'=>∃ q r:Nat,e=.returned (.tuple #[.int .u64 q,.int .u64 r])/\q * y+r=hi * 18446744073709551616+lo/\r<y/\q<18446744073709551616/\Ext w w':=by
 have key:(hi * 18446744073709551616+lo) / y * y+(hi * 18446744073709551616+lo) % y=hi * 18446744073709551616+lo:=Nat.div_add_mod' _ _;have kr:(hi * 18446744073709551616+lo) % y<y:=Nat.mod_lt _ (by omega);have kq:(hi * 18446744073709551616+lo) / y<18446744073709551616:=by
  refine Nat.div_lt_of_lt_mul ?_;have:(hi+1) * 18446744073709551616<=y * 18446744073709551616:=Nat.mul_le_mul_right _ h1;omega
 by_cases h0:hi=0
 ·subst h0;refine (zPW lo y w (by omega) y1 l1).mono ?_;rintro e w' ⟨rfl,hx⟩;refine ⟨lo / y,lo % y,by rw [Int.natCast_ediv,Int.natCast_emod],?_,Nat.mod_lt _ (by omega),?_,hx⟩
  ·have:=Nat.div_add_mod' lo y;omega
  ·exact Nat.lt_of_le_of_lt (Nat.div_le_self _ _) l1
 ·refine (zW4 hi lo y w (by omega) h1 y1 l1).mono ?_;rintro e w' ⟨q,r,rfl,rfl,rfl,rfl⟩;refine ⟨_,_,?_,key,kr,kq,xr _⟩;rw [Int.natCast_ediv,Int.natCast_emod];rfl
theorem zUZ {A B C q r l a:Nat} (e:A+l=a) (h:A=B+C) (k:q+r=C+l):a=r+(B+q):=by omega
theorem zV0 {h l n H R q r a:Nat} (e:h * 18446744073709551616+l=a) (e1:n * H+R=h) (e2:q * n+r=R * 18446744073709551616+l) (hr:r<n):H * 18446744073709551616+q=a / n/\r=a % n:=by
 have e3:a=r+n * (H * 18446744073709551616+q):=by
  rw [Nat.mul_add,<- Nat.mul_assoc,Nat.mul_comm n q];exact zUZ e (by rw [<- e1,Nat.add_mul]) e2
 constructor
 ·rw [e3,Nat.add_mul_div_left _ _ (by omega),Nat.div_eq_of_lt hr,Nat.zero_add]
 ·rw [e3,Nat.add_mul_mod_self_left,Nat.mod_eq_of_lt hr]
theorem zFO {v:Value} {a:Nat} (n:Nat) (w:World) (hv:WV v a) (n0:0<n) (n1:n<18446744073709551616) :
  Calls Tryz.prog 194 #[v,.int .u64 n] w fun e w'=>∃ v',e=.returned (.tuple #[v',.int .u64 ((a % n:Nat):Int)])/\WV v' (a / n)/\Ext w w':=by
 obtain ⟨h,l,rfl,h1,h2,e1⟩:=hv;have DV:Hid (∀ w,Calls Tryz.prog 221 #[.int .u64 ((h:Int) % (n:Int)),.int .u64 l,.int .u64 n] w fun e w'=>∃ q:Nat,e=.returned (.tuple #[.int .u64 q,.int .u64 ((a % n:Nat):Int)])/\WV (.agg #[.int .u64 ((h:Int) / (n:Int)),.int .u64 q]) (a / n)/\Ext w w'):=fun w=>by
  rw [<- Int.natCast_emod,<- Int.natCast_ediv];refine (zTL (h % n) l n w (Nat.mod_lt _ n0) n1 h2).mono ?_;rintro e w' ⟨q,r,rfl,hq,hr,hq1,hx⟩;obtain ⟨f1,f2⟩:=zV0 e1 (Nat.div_add_mod h n) hq hr;subst f2;exact ⟨q,rfl,⟨h / n,q,rfl,Nat.lt_of_le_of_lt (Nat.div_le_self _ _) h1,hq1,f1⟩,hx⟩
 have hn0:(0:Int)<(n:Int):=by omega
 have hw:IntKind.u64.wrap ((h:Int) / (n:Int))=(h:Int) / (n:Int):=by
  rw [IntKind.wrap_u64];have:=Int.ediv_nonneg (show (0:Int)<=(h:Int) by omega) (show (0:Int)<=(n:Int) by omega);have:=Int.ediv_le_self (n:Int) (show (0:Int)<=(h:Int) by omega);omega
 have B:=(Box2.made w (.int .u64 h) (.int .u64 l) 156).l (x1 _ (.cells #[.int .u64 0,.int .u64 0] 156));have Br:=Box2.made (w.alloc (.cells #[.int .u64 h,.int .u64 l] 156)) (.int .u64 0) (.int .u64 0) 156;simp only [World.size_alloc] at Br;clear e1;go_enter Tryz.func194,Tryz.ntmps194;go_wp2_with fail;go_quiet (fail);go_wp2_with fail;refine (DV.out _).mono ?_;rintro e w1 ⟨q,rfl,hW,e2⟩;have HW:=hid hW;clear hW;have X:=xt (zEY (xr _) _) e2;obtain ⟨⟨r0,r1⟩,s0,s1⟩:=Br.l X
 go_wp2
 exact bodyPost_ret (v:=.tuple #[.agg #[.int .u64 ((h:Int) / (n:Int)),.int .u64 q],.int .u64 ((a % n:Nat):Int)]) (by simp [results,Tryz.results194,go_sem,r0,r1]) rfl ⟨_,rfl,HW.out,xset (xset (xt (xa (x1 _ _) _) X) (Nat.le_succ _) _) (Nat.le_succ _) _⟩
theorem Box2.far {w:World} {b:Nat} {v0 v1:Value} (h:Box2 w b v0 v1) {p:Addr} (hp:p.block ≠ b) (u:Value):Box2 (w.setCell p u) b v0 v1:=by
 obtain ⟨⟨h0,h1⟩,h2,h3⟩:=h;refine ⟨⟨?_,?_⟩,by rw [World.frozen?_setCell];exact h2,by rw [World.frozen?_setCell];exact h3⟩
 ·rw [World.cell?_setCell_other _ _ _ _ (fun e=>hp (congrArg Addr.block e))];exact h0
 ·rw [World.cell?_setCell_other _ _ _ _ (fun e=>hp (congrArg Addr.block e))];exact h1
theorem Box2.put {w:World} {b:Nat} {v0 v1:Value} (h:Box2 w b v0 v1) (u0 u1:Value):Box2 ((w.setCell ⟨b,0,none⟩ u0).setCell ⟨b,1,none⟩ u1) b u0 u1:=by
 obtain ⟨⟨h0,h1⟩,h2,h3⟩:=h;have ne:(⟨b,1,none⟩:Addr) ≠ ⟨b,0,none⟩:=fun e=>by have:=congrArg Addr.off e;simp at this
 have k1:(w.setCell ⟨b,0,none⟩ u0).cell? ⟨b,1,none⟩=some v1:=by rw [World.cell?_setCell_other _ _ _ _ ne.symm];exact h1
 refine ⟨⟨?_,World.cell?_setCell_same _ _ _ k1⟩,by rw [World.frozen?_setCell,World.frozen?_setCell];exact h2,by rw [World.frozen?_setCell,World.frozen?_setCell];exact h3⟩;rw [World.cell?_setCell_other _ _ _ _ ne];exact World.cell?_setCell_same _ _ _ h0
theorem zNS (P i j:Nat):P / 10 ^ i / 10 ^ j=P / 10 ^ (i+j)/\(decide (P % 10 ^ (i+j) ≠ 0)=(decide (P % 10 ^ i ≠ 0) || decide (P / 10 ^ i % 10 ^ j ≠ 0))):=by
 refine ⟨zTJ P i j,?_⟩;rw [Bool.eq_iff_iff];simp only [Bool.or_eq_true,decide_eq_true_eq];exact zKZ P i j
theorem zVE {P i:Nat} (n:Nat) (h:P / 10 ^ i=0) (hi:i<=n):P / 10 ^ n=0/\decide (P % 10 ^ n ≠ 0)=decide (P % 10 ^ i ≠ 0):=by
 obtain ⟨j,rfl⟩:∃ j,n=i+j:=⟨n - i,by omega⟩;obtain ⟨h1,h2⟩:=zNS P i j;rw [<- h1,h2,h];simp
theorem zE1 {v:Value} {a:Nat} (n:Nat) (w:World) (hv:WV v a) (hn:n<=100000) (hT:Tens w) :
  Calls Tryz.prog 193 #[v,iQ n] w fun e w'=>∃ v',e=.returned (.tuple #[v',.bool (decide (a % 10 ^ n ≠ 0))])/\WV v' (a / 10 ^ n)/\Ext w w':=by
 obtain ⟨h,l,rfl,h1,h2,e1⟩:=hv;have HE1:=hid e1;have B:=(Box2.made w (.int .u64 h) (.int .u64 l) 156).l (x1 _ (.cells #[.int .u64 0,.int .u64 0] 156));have Br:=Box2.made (w.alloc (.cells #[.int .u64 h,.int .u64 l] 156)) (.int .u64 0) (.int .u64 0) 156;simp only [World.size_alloc] at Br;have T:=hT.l (xa (x1 w (.cells #[.int .u64 h,.int .u64 l] 156)) (.cells #[.int .u64 0,.int .u64 0] 156));clear e1 T;go_enter Tryz.func193,Tryz.ntmps193;go_wp2_with fail;go_loopw [1,6] (fun x m wr=>∃ (k i:Nat) (h l:Nat),k+i=n/\x=.int .i64 k/\m=.bool (decide (a % 10 ^ i ≠ 0))/\Box2 wr w.heap.size (.int .u64 h) (.int .u64 l)/\Box2 wr (w.heap.size+1) (.int .u64 0) (.int .u64 0)/\h<18446744073709551616/\l<18446744073709551616/\h * 18446744073709551616+l=a / 10 ^ i/\Ext w wr) (fun x _ _=>(intOf x).toNat)
 case atStart=>exact ⟨n,0,h,l,rfl,rfl,by simp [Nat.mod_one],B,Br,h1,h2,by rw [Nat.pow_zero,Nat.div_one];exact HE1.out,xa (x1 _ _) _⟩
 case round =>
  clear B Br HE1 h1 h2;obtain ⟨k,i,h,l,hk,rfl,rfl,B,Br,h1,h2,e1,X⟩:=hrel;have B':=B;have Br':=Br;obtain ⟨⟨p0,p1⟩,f0,f1⟩:=B';obtain ⟨⟨r0,r1⟩,s0,s1⟩:=Br';obtain ⟨m,hm⟩:∃ m:Bool,decide (a % 10 ^ i ≠ 0)=m:=⟨_,rfl⟩;rw [hm];have HM:=hid hm;have E1:Hid _:=e1;have WVh:Hid (WV (.agg #[.int .u64 h,.int .u64 l]) (a / 10 ^ i)):=⟨h,l,rfl,h1,h2,e1⟩;clear hm e1;have K0:k=0\/0<k:=by omega
  rcases K0 with rfl | k0
  ·obtain rfl:i=n:=by omega
   go_wp2_with fail;exact bodyPost_ret (v:=.tuple #[.agg #[.int .u64 h,.int .u64 l],.bool m]) (by simp [results,Tryz.results193,go_sem,r0,r1]) rfl ⟨_,by rw [HM.out],WVh.out,xset (xset X (Nat.le_succ _) _) (Nat.le_succ _) _⟩
  ·by_cases hz:h=0/\l=0
   ·obtain ⟨rfl,rfl⟩:=hz;have H0:Hid (a / 10 ^ n=0/\decide (a % 10 ^ n ≠ 0)=m):=by
     have e2:a / 10 ^ i=0:=(by rw [<- E1.out]);have:=zVE n e2 (by omega);rw [HM.out] at this;exact this
    have WV0:Hid (WV (.agg #[.int .u64 ((0:Nat):Int),.int .u64 ((0:Nat):Int)]) (a / 10 ^ n)):=(by rw [H0.out.1];exact ⟨0,0,rfl,by decide,by decide,rfl⟩);go_wp2_with fail;exact bodyPost_ret (v:=.tuple #[.agg #[.int .u64 ((0:Nat):Int),.int .u64 ((0:Nat):Int)],.bool m]) (by simp [results,Tryz.results193,go_sem,r0,r1]) rfl ⟨_,by rw [H0.out.2],WV0.out,xset (xset X (Nat.le_succ _) _) (Nat.le_succ _) _⟩
   ·have kk:(0:Int)<(k:Int):=(by omega);go_upto_region 2 with fail;go_cut [16] (fun v wc=>v=.bool true/\wc=wr)
    case first =>
     by_cases hh:h=0
     ·subst hh;have hl:¬ l=0:=fun e=>hz ⟨rfl,e⟩;clear hz;go_wp2_with fail;go_meet
      case rel=>exact ⟨rfl,rfl⟩
     ·clear hz;go_wp2_with fail;go_meet
      case rel=>exact ⟨rfl,rfl⟩
    case rest =>
     obtain ⟨rfl,hwc⟩:=hcut;rw [hwc];clear hwc;clear hz;go_upto_region 3 with fail;go_cut [7] (fun v wd=>∃ st:Nat,v=iQ st/\1<=st/\st<=19/\st<=k/\wd=wr)
     case first =>
      by_cases h19:(k:Int)<=19
      ·go_wp2_with fail;go_meet
       case rel=>exact ⟨k,by rw [Int.min_eq_left (by omega)],by omega,by omega,by omega,rfl⟩
      ·go_wp2_with fail;go_meet
       case rel=>exact ⟨19,by rw [Int.min_eq_right (by omega)];rfl,by omega,by omega,by omega,rfl⟩
     case rest =>
      obtain ⟨st,rfl,st0,st1,st2,hwd⟩:=hcut;rw [hwd];clear hwd;obtain ⟨t,et,t1,ct⟩:=(hT.l X).at (i:=st) (by omega);have st3:(st:Int)<20:=(by omega);have t0:0<t:=(by rw [<- et];exact zA7 st);have ne0:=World.new_ne wr _ p0;have ne1:=World.new_ne wr _ p1;have ne2:=World.new_ne wr _ ct;have CT:∀ {w2:World},Ext wr w2->w2.cell? ⟨1,st,none⟩=some (.int .u64 t):=fun x=>cell_later x ct;have hwk:IntKind.i64.wrap ((k:Int) - (st:Int))=(k:Int) - (st:Int):=(by rw [IntKind.wrap_i64];omega);have OV:Hid (∀ w,Calls Tryz.prog 194 #[.agg #[.int .u64 h,.int .u64 l],.int .u64 t] w fun e w'=>∃ h' l' r:Nat,e=.returned (.tuple #[.agg #[.int .u64 h',.int .u64 l'],.int .u64 r])/\h'<18446744073709551616/\l'<18446744073709551616/\Hid (h' * 18446744073709551616+l'=a / 10 ^ (i+st)/\decide (a % 10 ^ (i+st) ≠ 0)=(m || decide (r ≠ 0)))/\Ext w w'):=fun w=>by
       refine (zFO t w WVh.out t0 t1).mono ?_;rintro e w' ⟨v',rfl,⟨h',l',rfl,k1,k2,k3⟩,hx⟩;obtain ⟨g1,g2⟩:=zNS a i st;refine ⟨h',l',a / 10 ^ i % t,rfl,k1,k2,⟨?_,?_⟩,hx⟩
       ·rw [k3,<- et,g1]
       ·rw [g2,HM.out,et]
      go_upto_region 4 with fail;go_cut [8,9] (fun v x we=>∃ b h' l' r:Nat,v=.pointer (some ⟨b,0,none⟩)/\x=.int .u64 r/\wr.heap.size<=b/\Box2 we b (.int .u64 h') (.int .u64 l')/\h'<18446744073709551616/\l'<18446744073709551616/\Hid (h' * 18446744073709551616+l'=a / 10 ^ (i+st)/\decide (a % 10 ^ (i+st) ≠ 0)=(m || decide (r ≠ 0)))/\Ext wr we)
      case first =>
       go_region_held3 (fun w'=>w'.cell? ⟨w.heap.size,0,none⟩=some (.int .u64 h)/\w'.cell? ⟨w.heap.size,1,none⟩=some (.int .u64 l)/\w'.cell? ⟨1,st,none⟩=some (.int .u64 t)) (go_keep) (first
        | (go_at_call 194;refine (OV.out _).mono ?_;rintro e w2 ⟨h',l',r,rfl,k1,k2,K3,e2⟩;have X2:Ext wr w2:=xt (by first | exact xd (xr _) | exact xa (xd (xr _)) _ | exact xd (xa (xr _) _) | exact xa (xr _) _ | exact xr _) e2;obtain ⟨⟨q0,q1⟩,_⟩:=B.l X2;have q3:=CT X2;(first | (have RB:Box2 w2 wr.heap.size (.int .u64 0) (.int .u64 0):=(by exact (Box2.made wr (.int .u64 0) (.int .u64 0) 156).l (xt (xd (xr _)) e2));obtain ⟨⟨z0,z1⟩,y0,y1⟩:=RB) | skip)))
       ·go_wp2_with fail;go_meet
        case rel=>exact ⟨_,h',l',r,rfl,rfl,X2.size,Box2.made w2 _ _ _,k1,k2,K3,xa X2 _⟩
       ·go_wp2_with fail;go_meet
        case rel =>
         refine ⟨_,h',l',r,rfl,rfl,Nat.le_refl _,?_,k1,k2,K3,xset (xset X2 (Nat.le_refl _) _) (Nat.le_refl _) _⟩;refine ⟨⟨?_,?_⟩,?_,?_⟩ <;> simp [go_sem,z0,z1,y0,y1]
      case rest =>
       obtain ⟨b,h',l',r,rfl,rfl,hb,Bn,k1,k2,K3,X3⟩:=hcut
       rename World=>wz
       obtain ⟨⟨b0,b1⟩,_⟩:=Bn;have B3:=B.l X3;have Br3:=Br.l X3;have B3':=B3;obtain ⟨⟨g0,g1⟩,j0,j1⟩:=B3';have NB:Hid (Box2 ((wz.setCell ⟨w.heap.size,0,none⟩ (.int .u64 h')).setCell ⟨w.heap.size,1,none⟩ (.int .u64 l')) w.heap.size (.int .u64 h') (.int .u64 l')/\Box2 ((wz.setCell ⟨w.heap.size,0,none⟩ (.int .u64 h')).setCell ⟨w.heap.size,1,none⟩ (.int .u64 l')) (w.heap.size+1) (.int .u64 0) (.int .u64 0)):=
        ⟨B3.put _ _,(Br3.far (p:=⟨w.heap.size,0,none⟩) (show w.heap.size ≠ w.heap.size+1 by omega) _).far (p:=⟨w.heap.size,1,none⟩) (show w.heap.size ≠ w.heap.size+1 by omega) _⟩
       have ek:((k:Int) - (st:Int))=((k - st:Nat):Int):=(by omega);have EK:Hid _:=ek;clear ek B Br B3 Br3 p0 p1 f0 f1 r0 r1 s0 s1 ct CT ne0 ne1 ne2 OV et;cases m
       ·by_cases hr:r=0
        ·subst hr;have HD:Hid (decide (a % 10 ^ (i+st) ≠ 0)=false):=K3.out.2.trans (by simp);go_wp2_with fail;go_roundw
         case rel=>exact ⟨k - st,i+st,h',l',by omega,by rw [<- EK.out],by rw [HD.out],NB.out.1,NB.out.2,k1,k2,K3.out.1,xset (xset (xt X X3) (Nat.le_refl _) _) (Nat.le_refl _) _⟩
         case measure=>simp [intOf];omega
        ·have hr':(((r:Int)) != 0)=true:=(by rw [bne_iff_ne];omega);have HD:Hid (decide (a % 10 ^ (i+st) ≠ 0)=true):=K3.out.2.trans (by simp [hr]);go_wp2_with fail;go_roundw
         case rel=>exact ⟨k - st,i+st,h',l',by omega,by rw [<- EK.out],by rw [HD.out],NB.out.1,NB.out.2,k1,k2,K3.out.1,xset (xset (xt X X3) (Nat.le_refl _) _) (Nat.le_refl _) _⟩
         case measure=>simp [intOf];omega
       ·have HD:Hid (decide (a % 10 ^ (i+st) ≠ 0)=true):=K3.out.2.trans (by simp);go_wp2_with fail;go_roundw
        case rel=>exact ⟨k - st,i+st,h',l',by omega,by rw [<- EK.out],by rw [HD.out],NB.out.1,NB.out.2,k1,k2,K3.out.1,xset (xset (xt X X3) (Nat.le_refl _) _) (Nat.le_refl _) _⟩
        case measure=>simp [intOf];omega
theorem zJT {h l Q:Nat} (e:h * 18446744073709551616+l=Q):(((l:Int) % 2 == 1))=decide (Q % 2=1):=by
 rw [Bool.eq_iff_iff,beq_iff_eq,decide_eq_true_eq];omega
theorem zJJ (mode P n:Nat) (more:Bool) (hn:1<=n):rndM mode P n more=P / 10 ^ n+if zAV mode (decide (P / 10 ^ n % 2=1)) (zFJ (P / 10 ^ (n - 1) % 10) (more || decide (P % 10 ^ (n - 1) ≠ 0)))=true then 1 else 0:=by
 obtain ⟨m,rfl⟩:∃ m,n=m+1:=⟨n - 1,by omega⟩;unfold rndM;rw [zRG,Nat.add_sub_cancel,zUN]
theorem zHY (P n:Nat) (hn:1<=n):P / 10 ^ (n - 1) / 10=P / 10 ^ n:=by
 obtain ⟨m,rfl⟩:∃ m,n=m+1:=⟨n - 1,by omega⟩;rw [Nat.add_sub_cancel,Nat.div_div_eq_div_mul,Nat.pow_succ]
theorem zFI {P n:Nat} (h:P<340282366920938463463374607431768211456) (hn:1<=n):P / 10 ^ n+1<340282366920938463463374607431768211456:=by
 have h1:=zHY P n hn;have h2:=Nat.div_le_self P (10 ^ (n - 1));rw [<- h1];omega
theorem zGO {v:Value} {P:Nat} (n:Nat) (more:Bool) (w:World) (hv:WV v P) (n1:1<=n) (hn:n<=100000) (hT:Tens w) :
  Calls Tryz.prog 137 #[v,iQ n,.bool more,Value.func (Fn.func 188) #[] #[]] w fun e w'=>∃ v',e=.returned v'/\WV v' (rndM 0 P n more)/\Ext w w':=by
 obtain ⟨h,l,rfl,h1,h2,e1⟩:=hv;have LO:Hid (∀ w,Tens w->Calls Tryz.prog 193 #[.agg #[.int .u64 h,.int .u64 l],iQ ((n:Int) - 1)] w fun e w'=>∃ h' l':Nat,e=.returned (.tuple #[.agg #[.int .u64 h',.int .u64 l'],.bool (decide (P % 10 ^ (n - 1) ≠ 0))])/\Hid (WV (.agg #[.int .u64 h',.int .u64 l']) (P / 10 ^ (n - 1)))/\Ext w w'):=fun w hT=>by
  have e:((n:Int) - 1)=((n - 1:Nat):Int):=by omega
  rw [e];refine (zE1 (n - 1) w ⟨h,l,rfl,h1,h2,e1⟩ (by omega) hT).mono ?_;rintro e w' ⟨v',rfl,hW,hx⟩;have hW':=hW;obtain ⟨h',l',rfl,_⟩:=hW;exact ⟨h',l',rfl,hW',hx⟩
 have PB:Hid (P<340282366920938463463374607431768211456):=by show P<_;omega
 have B:=(Box2.made w (.int .u64 h) (.int .u64 l) 156).l (x1 _ (.cells #[.int .u64 0,.int .u64 0] 156));have Br:=Box2.made (w.alloc (.cells #[.int .u64 h,.int .u64 l] 156)) (.int .u64 0) (.int .u64 0) 156;simp only [World.size_alloc] at Br;have T:=hT.l (xa (x1 w (.cells #[.int .u64 h,.int .u64 l] 156)) (.cells #[.int .u64 0,.int .u64 0] 156));have X0:Ext w ((w.alloc (.cells #[.int .u64 h,.int .u64 l] 156)).alloc (.cells #[.int .u64 0,.int .u64 0] 156)):=xa (x1 _ _) _;clear e1 hT h1 h2;go_enter Tryz.func137,Tryz.ntmps137;go_wp2_with fail;refine (LO.out _ T).mono ?_;rintro e w1 ⟨h',l',rfl,W1,x1'⟩;obtain ⟨lost,hlost⟩:∃ b:Bool,decide (P % 10 ^ (n - 1) ≠ 0)=b:=⟨_,rfl⟩;rw [hlost];have HLo:=hid hlost;have B1:=(B.l x1').put (.int .u64 h') (.int .u64 l');have Br1:=((Br.l x1').far (p:=⟨w.heap.size,0,none⟩) (show w.heap.size ≠ w.heap.size+1 by omega) (.int .u64 h')).far (p:=⟨w.heap.size,1,none⟩) (show w.heap.size ≠ w.heap.size+1 by omega) (.int .u64 l');have X1:=xset (xset (xt X0 x1') (p:=⟨w.heap.size,0,none⟩) (Nat.le_refl _) (.int .u64 h')) (p:=⟨w.heap.size,1,none⟩) (Nat.le_refl _) (.int .u64 l');obtain ⟨⟨g0,g1⟩,j0,j1⟩:=B.l x1';obtain ⟨u1,hu1⟩:=nm ((w1.setCell ⟨w.heap.size,0,none⟩ (.int .u64 h')).setCell ⟨w.heap.size,1,none⟩ (.int .u64 l'));rw [hu1] at B1 Br1 X1;have B1':=B1;obtain ⟨⟨a0,a1⟩,c0,c1⟩:=B1';clear hlost LO T X0;go_wp2_with fail;refine (zFO 10 _ W1.out (by decide) (by decide)).mono ?_;rintro e w2 ⟨v2,rfl,hW2,x2'⟩;rw [zHY P n n1] at hW2;obtain ⟨h2,l2,rfl,k1,k2,k3⟩:=hW2;have W2:Hid (WV (.agg #[.int .u64 h2,.int .u64 l2]) (P / 10 ^ n)):=⟨h2,l2,rfl,k1,k2,k3⟩;have OD:=zJT k3;obtain ⟨d,hd⟩:=nm (P / 10 ^ (n - 1) % 10);rw [hd];have RN:=zJJ 0 P n more n1;rw [hd,HLo.out,<- OD] at RN;obtain ⟨od,hod⟩:∃ b:Bool,((l2:Int) % 2 == 1)=b:=⟨_,rfl⟩;rw [hod] at RN;obtain ⟨g,hg⟩:∃ b:Bool,zAV 0 od (zFJ d (more || lost))=b:=⟨_,rfl⟩;rw [hg] at RN;have MO:Hid (∀ w,Calls Tryz.prog 188 #[.bool od,iQ (zFJ d (more || lost))] w fun e w'=>e=.returned (.bool g)/\w'=w):=fun w=>by rw [<- hg];exact zOG _ _ _
 have HRN:=hid RN;have B2:=(B1.l x2').put (.int .u64 h2) (.int .u64 l2);have Br2:=((Br1.l x2').far (p:=⟨w.heap.size,0,none⟩) (show w.heap.size ≠ w.heap.size+1 by omega) (.int .u64 h2)).far (p:=⟨w.heap.size,1,none⟩) (show w.heap.size ≠ w.heap.size+1 by omega) (.int .u64 l2);have X2:=xset (xset (xt X1 x2') (p:=⟨w.heap.size,0,none⟩) (Nat.le_refl _) (.int .u64 h2)) (p:=⟨w.heap.size,1,none⟩) (Nat.le_refl _) (.int .u64 l2);obtain ⟨⟨g0',g1'⟩,j0',j1'⟩:=B1.l x2';obtain ⟨u2,hu2⟩:=nm ((w2.setCell ⟨w.heap.size,0,none⟩ (.int .u64 h2)).setCell ⟨w.heap.size,1,none⟩ (.int .u64 l2));rw [hu2] at B2 Br2 X2;have B2':=B2;have Br2':=Br2;obtain ⟨⟨a0',a1'⟩,c0',c1'⟩:=B2';obtain ⟨⟨r0,r1⟩,s0,s1⟩:=Br2';clear RN hg OD hd k3 hu1 g0 g1 j0 j1 a0 a1 c0 c1 B B1 Br Br1 x1' x2' X1 W1;go_upto_region 3 with fail;clear hu2 g0' g1' j0' j1';go_cut [34] (fun v wc=>v=.bool g/\∃ nq,wc=u2.drewN nq)
 case first =>
  cases more
  ·simp only [Bool.false_or] at MO;go_quiet (first | (go_at_call 195;exact Calls.quiet_of_same (zBO _ _ _)) | (go_at_call 188;exact Calls.quiet_of_same (MO.out _)));go_wp2_with fail;go_meet
   case rel=>exact ⟨rfl,_,rfl⟩
  ·simp only [Bool.true_or] at MO;go_quiet (first | (go_at_call 195;exact Calls.quiet_of_same (zBO _ _ _)) | (go_at_call 188;exact Calls.quiet_of_same (MO.out _)));go_wp2_with fail;go_meet
   case rel=>exact ⟨rfl,_,rfl⟩
 case rest =>
  obtain ⟨rfl,nq,hwc⟩:=hcut;have X3:Ext u2 wc:=by rw [hwc];exact zEY (xr _) _
  clear hwc hod MO;have B3:=B2.l X3;have Br3:=Br2.l X3;have Br3':=Br3;have B3':=B3;obtain ⟨⟨a0,a1⟩,c0,c1⟩:=B3';obtain ⟨⟨r0',r1'⟩,s0',s1'⟩:=Br3';clear B2 Br2 a0' a1' c0' c1' r0 r1 s0 s1;cases g
  ·have HR:Hid (WV (.agg #[.int .u64 h2,.int .u64 l2]) (rndM 0 P n more)):=by rw [HRN.out];exact W2.out
   go_wp2_with fail;exact bodyPost_ret (v:=.agg #[.int .u64 h2,.int .u64 l2]) (by simp [results,Tryz.results137,go_sem,r0',r1']) rfl ⟨_,rfl,HR.out,xset (xset (xt X2 X3) (Nat.le_succ _) _) (Nat.le_succ _) _⟩
  ·go_wp2_with fail;refine (zFN _ W2.out (b:=1) ⟨0,1,rfl,by decide,by decide,rfl⟩ (zFI PB.out n1)).mono ?_;rintro e w3 ⟨v3,rfl,hW3,x3'⟩;have hW3':=hW3;obtain ⟨h3,l3,rfl,_⟩:=hW3';have HR:Hid (WV (.agg #[.int .u64 h3,.int .u64 l3]) (rndM 0 P n more)):=by rw [HRN.out];exact hW3
   have B4:=(B3.l x3').put (.int .u64 h3) (.int .u64 l3);have Br4:=((Br3.l x3').far (p:=⟨w.heap.size,0,none⟩) (show w.heap.size ≠ w.heap.size+1 by omega) (.int .u64 h3)).far (p:=⟨w.heap.size,1,none⟩) (show w.heap.size ≠ w.heap.size+1 by omega) (.int .u64 l3);have X4:=xset (xset (xt (xt X2 X3) x3') (p:=⟨w.heap.size,0,none⟩) (Nat.le_refl _) (.int .u64 h3)) (p:=⟨w.heap.size,1,none⟩) (Nat.le_refl _) (.int .u64 l3);obtain ⟨⟨g0,g1⟩,j0,j1⟩:=B3.l x3';obtain ⟨u4,hu4⟩:=nm ((w3.setCell ⟨w.heap.size,0,none⟩ (.int .u64 h3)).setCell ⟨w.heap.size,1,none⟩ (.int .u64 l3));rw [hu4] at B4 Br4 X4;obtain ⟨⟨b0,b1⟩,_⟩:=B4;obtain ⟨⟨q0,q1⟩,z0,z1⟩:=Br4;clear hW3 a0 a1 c0 c1 r0' r1' s0' s1' B3 Br3 x3' X2 X3;go_wp2_with fail;exact bodyPost_ret (v:=.agg #[.int .u64 h3,.int .u64 l3]) (by simp [results,Tryz.results137,go_sem,q0,q1]) rfl ⟨_,rfl,HR.out,xset (xset X4 (Nat.le_succ _) _) (Nat.le_succ _) _⟩
theorem zKP {v:Value} {P:Nat} (n:Nat) (more:Bool) (w:World) (hv:WV v P) (n1:1<=n) (hn:n<=100000) (hT:Tens w) :
  Calls Tryz.prog 137 #[v,iQ n,.bool more,Value.func (Fn.func 190) #[] #[]] w fun e w'=>∃ v',e=.returned v'/\WV v' (rndM 1 P n more)/\Ext w w':=by
 obtain ⟨h,l,rfl,h1,h2,e1⟩:=hv;have LO:Hid (∀ w,Tens w->Calls Tryz.prog 193 #[.agg #[.int .u64 h,.int .u64 l],iQ ((n:Int) - 1)] w fun e w'=>∃ h' l':Nat,e=.returned (.tuple #[.agg #[.int .u64 h',.int .u64 l'],.bool (decide (P % 10 ^ (n - 1) ≠ 0))])/\Hid (WV (.agg #[.int .u64 h',.int .u64 l']) (P / 10 ^ (n - 1)))/\Ext w w'):=fun w hT=>by
  have e:((n:Int) - 1)=((n - 1:Nat):Int):=by omega
  rw [e];refine (zE1 (n - 1) w ⟨h,l,rfl,h1,h2,e1⟩ (by omega) hT).mono ?_;rintro e w' ⟨v',rfl,hW,hx⟩;have hW':=hW;obtain ⟨h',l',rfl,_⟩:=hW;exact ⟨h',l',rfl,hW',hx⟩
 have PB:Hid (P<340282366920938463463374607431768211456):=by show P<_;omega
 have B:=(Box2.made w (.int .u64 h) (.int .u64 l) 156).l (x1 _ (.cells #[.int .u64 0,.int .u64 0] 156));have Br:=Box2.made (w.alloc (.cells #[.int .u64 h,.int .u64 l] 156)) (.int .u64 0) (.int .u64 0) 156;simp only [World.size_alloc] at Br;have T:=hT.l (xa (x1 w (.cells #[.int .u64 h,.int .u64 l] 156)) (.cells #[.int .u64 0,.int .u64 0] 156));have X0:Ext w ((w.alloc (.cells #[.int .u64 h,.int .u64 l] 156)).alloc (.cells #[.int .u64 0,.int .u64 0] 156)):=xa (x1 _ _) _;clear e1 hT h1 h2;go_enter Tryz.func137,Tryz.ntmps137;go_wp2_with fail;refine (LO.out _ T).mono ?_;rintro e w1 ⟨h',l',rfl,W1,x1'⟩;obtain ⟨lost,hlost⟩:∃ b:Bool,decide (P % 10 ^ (n - 1) ≠ 0)=b:=⟨_,rfl⟩;rw [hlost];have HLo:=hid hlost;have B1:=(B.l x1').put (.int .u64 h') (.int .u64 l');have Br1:=((Br.l x1').far (p:=⟨w.heap.size,0,none⟩) (show w.heap.size ≠ w.heap.size+1 by omega) (.int .u64 h')).far (p:=⟨w.heap.size,1,none⟩) (show w.heap.size ≠ w.heap.size+1 by omega) (.int .u64 l');have X1:=xset (xset (xt X0 x1') (p:=⟨w.heap.size,0,none⟩) (Nat.le_refl _) (.int .u64 h')) (p:=⟨w.heap.size,1,none⟩) (Nat.le_refl _) (.int .u64 l');obtain ⟨⟨g0,g1⟩,j0,j1⟩:=B.l x1';obtain ⟨u1,hu1⟩:=nm ((w1.setCell ⟨w.heap.size,0,none⟩ (.int .u64 h')).setCell ⟨w.heap.size,1,none⟩ (.int .u64 l'));rw [hu1] at B1 Br1 X1;have B1':=B1;obtain ⟨⟨a0,a1⟩,c0,c1⟩:=B1';clear hlost LO T X0;go_wp2_with fail;refine (zFO 10 _ W1.out (by decide) (by decide)).mono ?_;rintro e w2 ⟨v2,rfl,hW2,x2'⟩;rw [zHY P n n1] at hW2;obtain ⟨h2,l2,rfl,k1,k2,k3⟩:=hW2;have W2:Hid (WV (.agg #[.int .u64 h2,.int .u64 l2]) (P / 10 ^ n)):=⟨h2,l2,rfl,k1,k2,k3⟩;have OD:=zJT k3;obtain ⟨d,hd⟩:=nm (P / 10 ^ (n - 1) % 10);rw [hd];have RN:=zJJ 1 P n more n1;rw [hd,HLo.out,<- OD] at RN;obtain ⟨od,hod⟩:∃ b:Bool,((l2:Int) % 2 == 1)=b:=⟨_,rfl⟩;rw [hod] at RN;obtain ⟨g,hg⟩:∃ b:Bool,zAV 1 od (zFJ d (more || lost))=b:=⟨_,rfl⟩;rw [hg] at RN;have MO:Hid (∀ w,Calls Tryz.prog 190 #[.bool od,iQ (zFJ d (more || lost))] w fun e w'=>e=.returned (.bool g)/\w'=w):=fun w=>by rw [<- hg];exact zOI _ _ _
 have HRN:=hid RN;have B2:=(B1.l x2').put (.int .u64 h2) (.int .u64 l2);have Br2:=((Br1.l x2').far (p:=⟨w.heap.size,0,none⟩) (show w.heap.size ≠ w.heap.size+1 by omega) (.int .u64 h2)).far (p:=⟨w.heap.size,1,none⟩) (show w.heap.size ≠ w.heap.size+1 by omega) (.int .u64 l2);have X2:=xset (xset (xt X1 x2') (p:=⟨w.heap.size,0,none⟩) (Nat.le_refl _) (.int .u64 h2)) (p:=⟨w.heap.size,1,none⟩) (Nat.le_refl _) (.int .u64 l2);obtain ⟨⟨g0',g1'⟩,j0',j1'⟩:=B1.l x2';obtain ⟨u2,hu2⟩:=nm ((w2.setCell ⟨w.heap.size,0,none⟩ (.int .u64 h2)).setCell ⟨w.heap.size,1,none⟩ (.int .u64 l2));rw [hu2] at B2 Br2 X2;have B2':=B2;have Br2':=Br2;obtain ⟨⟨a0',a1'⟩,c0',c1'⟩:=B2';obtain ⟨⟨r0,r1⟩,s0,s1⟩:=Br2';clear RN hg OD hd k3 hu1 g0 g1 j0 j1 a0 a1 c0 c1 B B1 Br Br1 x1' x2' X1 W1;go_upto_region 3 with fail;clear hu2 g0' g1' j0' j1';go_cut [34] (fun v wc=>v=.bool g/\∃ nq,wc=u2.drewN nq)
 case first =>
  cases more
  ·simp only [Bool.false_or] at MO;go_quiet (first | (go_at_call 195;exact Calls.quiet_of_same (zBO _ _ _)) | (go_at_call 190;exact Calls.quiet_of_same (MO.out _)));go_wp2_with fail;go_meet
   case rel=>exact ⟨rfl,_,rfl⟩
  ·simp only [Bool.true_or] at MO;go_quiet (first | (go_at_call 195;exact Calls.quiet_of_same (zBO _ _ _)) | (go_at_call 190;exact Calls.quiet_of_same (MO.out _)));go_wp2_with fail;go_meet
   case rel=>exact ⟨rfl,_,rfl⟩
 case rest =>
  obtain ⟨rfl,nq,hwc⟩:=hcut;have X3:Ext u2 wc:=by rw [hwc];exact zEY (xr _) _
  clear hwc hod MO;have B3:=B2.l X3;have Br3:=Br2.l X3;have Br3':=Br3;have B3':=B3;obtain ⟨⟨a0,a1⟩,c0,c1⟩:=B3';obtain ⟨⟨r0',r1'⟩,s0',s1'⟩:=Br3';clear B2 Br2 a0' a1' c0' c1' r0 r1 s0 s1;cases g
  ·have HR:Hid (WV (.agg #[.int .u64 h2,.int .u64 l2]) (rndM 1 P n more)):=by rw [HRN.out];exact W2.out
   go_wp2_with fail;exact bodyPost_ret (v:=.agg #[.int .u64 h2,.int .u64 l2]) (by simp [results,Tryz.results137,go_sem,r0',r1']) rfl ⟨_,rfl,HR.out,xset (xset (xt X2 X3) (Nat.le_succ _) _) (Nat.le_succ _) _⟩
  ·go_wp2_with fail;refine (zFN _ W2.out (b:=1) ⟨0,1,rfl,by decide,by decide,rfl⟩ (zFI PB.out n1)).mono ?_;rintro e w3 ⟨v3,rfl,hW3,x3'⟩;have hW3':=hW3;obtain ⟨h3,l3,rfl,_⟩:=hW3';have HR:Hid (WV (.agg #[.int .u64 h3,.int .u64 l3]) (rndM 1 P n more)):=by rw [HRN.out];exact hW3
   have B4:=(B3.l x3').put (.int .u64 h3) (.int .u64 l3);have Br4:=((Br3.l x3').far (p:=⟨w.heap.size,0,none⟩) (show w.heap.size ≠ w.heap.size+1 by omega) (.int .u64 h3)).far (p:=⟨w.heap.size,1,none⟩) (show w.heap.size ≠ w.heap.size+1 by omega) (.int .u64 l3);have X4:=xset (xset (xt (xt X2 X3) x3') (p:=⟨w.heap.size,0,none⟩) (Nat.le_refl _) (.int .u64 h3)) (p:=⟨w.heap.size,1,none⟩) (Nat.le_refl _) (.int .u64 l3);obtain ⟨⟨g0,g1⟩,j0,j1⟩:=B3.l x3';obtain ⟨u4,hu4⟩:=nm ((w3.setCell ⟨w.heap.size,0,none⟩ (.int .u64 h3)).setCell ⟨w.heap.size,1,none⟩ (.int .u64 l3));rw [hu4] at B4 Br4 X4;obtain ⟨⟨b0,b1⟩,_⟩:=B4;obtain ⟨⟨q0,q1⟩,z0,z1⟩:=Br4;clear hW3 a0 a1 c0 c1 r0' r1' s0' s1' B3 Br3 x3' X2 X3;go_wp2_with fail;exact bodyPost_ret (v:=.agg #[.int .u64 h3,.int .u64 l3]) (by simp [results,Tryz.results137,go_sem,q0,q1]) rfl ⟨_,rfl,HR.out,xset (xset X4 (Nat.le_succ _) _) (Nat.le_succ _) _⟩
theorem zKO {v:Value} {P:Nat} (n:Nat) (more:Bool) (w:World) (hv:WV v P) (n1:1<=n) (hn:n<=100000) (hT:Tens w) :
  Calls Tryz.prog 137 #[v,iQ n,.bool more,Value.func (Fn.func 191) #[] #[]] w fun e w'=>∃ v',e=.returned v'/\WV v' (rndM 2 P n more)/\Ext w w':=by
 obtain ⟨h,l,rfl,h1,h2,e1⟩:=hv;have LO:Hid (∀ w,Tens w->Calls Tryz.prog 193 #[.agg #[.int .u64 h,.int .u64 l],iQ ((n:Int) - 1)] w fun e w'=>∃ h' l':Nat,e=.returned (.tuple #[.agg #[.int .u64 h',.int .u64 l'],.bool (decide (P % 10 ^ (n - 1) ≠ 0))])/\Hid (WV (.agg #[.int .u64 h',.int .u64 l']) (P / 10 ^ (n - 1)))/\Ext w w'):=fun w hT=>by
  have e:((n:Int) - 1)=((n - 1:Nat):Int):=by omega
  rw [e];refine (zE1 (n - 1) w ⟨h,l,rfl,h1,h2,e1⟩ (by omega) hT).mono ?_;rintro e w' ⟨v',rfl,hW,hx⟩;have hW':=hW;obtain ⟨h',l',rfl,_⟩:=hW;exact ⟨h',l',rfl,hW',hx⟩
 have PB:Hid (P<340282366920938463463374607431768211456):=by show P<_;omega
 have B:=(Box2.made w (.int .u64 h) (.int .u64 l) 156).l (x1 _ (.cells #[.int .u64 0,.int .u64 0] 156));have Br:=Box2.made (w.alloc (.cells #[.int .u64 h,.int .u64 l] 156)) (.int .u64 0) (.int .u64 0) 156;simp only [World.size_alloc] at Br;have T:=hT.l (xa (x1 w (.cells #[.int .u64 h,.int .u64 l] 156)) (.cells #[.int .u64 0,.int .u64 0] 156));have X0:Ext w ((w.alloc (.cells #[.int .u64 h,.int .u64 l] 156)).alloc (.cells #[.int .u64 0,.int .u64 0] 156)):=xa (x1 _ _) _;clear e1 hT h1 h2;go_enter Tryz.func137,Tryz.ntmps137;go_wp2_with fail;refine (LO.out _ T).mono ?_;rintro e w1 ⟨h',l',rfl,W1,x1'⟩;obtain ⟨lost,hlost⟩:∃ b:Bool,decide (P % 10 ^ (n - 1) ≠ 0)=b:=⟨_,rfl⟩;rw [hlost];have HLo:=hid hlost;have B1:=(B.l x1').put (.int .u64 h') (.int .u64 l');have Br1:=((Br.l x1').far (p:=⟨w.heap.size,0,none⟩) (show w.heap.size ≠ w.heap.size+1 by omega) (.int .u64 h')).far (p:=⟨w.heap.size,1,none⟩) (show w.heap.size ≠ w.heap.size+1 by omega) (.int .u64 l');have X1:=xset (xset (xt X0 x1') (p:=⟨w.heap.size,0,none⟩) (Nat.le_refl _) (.int .u64 h')) (p:=⟨w.heap.size,1,none⟩) (Nat.le_refl _) (.int .u64 l');obtain ⟨⟨g0,g1⟩,j0,j1⟩:=B.l x1';obtain ⟨u1,hu1⟩:=nm ((w1.setCell ⟨w.heap.size,0,none⟩ (.int .u64 h')).setCell ⟨w.heap.size,1,none⟩ (.int .u64 l'));rw [hu1] at B1 Br1 X1;have B1':=B1;obtain ⟨⟨a0,a1⟩,c0,c1⟩:=B1';clear hlost LO T X0;go_wp2_with fail;refine (zFO 10 _ W1.out (by decide) (by decide)).mono ?_;rintro e w2 ⟨v2,rfl,hW2,x2'⟩;rw [zHY P n n1] at hW2;obtain ⟨h2,l2,rfl,k1,k2,k3⟩:=hW2;have W2:Hid (WV (.agg #[.int .u64 h2,.int .u64 l2]) (P / 10 ^ n)):=⟨h2,l2,rfl,k1,k2,k3⟩;have OD:=zJT k3;obtain ⟨d,hd⟩:=nm (P / 10 ^ (n - 1) % 10);rw [hd];have RN:=zJJ 2 P n more n1;rw [hd,HLo.out,<- OD] at RN;obtain ⟨od,hod⟩:∃ b:Bool,((l2:Int) % 2 == 1)=b:=⟨_,rfl⟩;rw [hod] at RN;obtain ⟨g,hg⟩:∃ b:Bool,zAV 2 od (zFJ d (more || lost))=b:=⟨_,rfl⟩;rw [hg] at RN;have MO:Hid (∀ w,Calls Tryz.prog 191 #[.bool od,iQ (zFJ d (more || lost))] w fun e w'=>e=.returned (.bool g)/\w'=w):=fun w=>by rw [<- hg];exact zOH _ _ _
 have HRN:=hid RN;have B2:=(B1.l x2').put (.int .u64 h2) (.int .u64 l2);have Br2:=((Br1.l x2').far (p:=⟨w.heap.size,0,none⟩) (show w.heap.size ≠ w.heap.size+1 by omega) (.int .u64 h2)).far (p:=⟨w.heap.size,1,none⟩) (show w.heap.size ≠ w.heap.size+1 by omega) (.int .u64 l2);have X2:=xset (xset (xt X1 x2') (p:=⟨w.heap.size,0,none⟩) (Nat.le_refl _) (.int .u64 h2)) (p:=⟨w.heap.size,1,none⟩) (Nat.le_refl _) (.int .u64 l2);obtain ⟨⟨g0',g1'⟩,j0',j1'⟩:=B1.l x2';obtain ⟨u2,hu2⟩:=nm ((w2.setCell ⟨w.heap.size,0,none⟩ (.int .u64 h2)).setCell ⟨w.heap.size,1,none⟩ (.int .u64 l2));rw [hu2] at B2 Br2 X2;have B2':=B2;have Br2':=Br2;obtain ⟨⟨a0',a1'⟩,c0',c1'⟩:=B2';obtain ⟨⟨r0,r1⟩,s0,s1⟩:=Br2';clear RN hg OD hd k3 hu1 g0 g1 j0 j1 a0 a1 c0 c1 B B1 Br Br1 x1' x2' X1 W1;go_upto_region 3 with fail;clear hu2 g0' g1' j0' j1';go_cut [34] (fun v wc=>v=.bool g/\∃ nq,wc=u2.drewN nq)
 case first =>
  cases more
  ·simp only [Bool.false_or] at MO;go_quiet (first | (go_at_call 195;exact Calls.quiet_of_same (zBO _ _ _)) | (go_at_call 191;exact Calls.quiet_of_same (MO.out _)));go_wp2_with fail;go_meet
   case rel=>exact ⟨rfl,_,rfl⟩
  ·simp only [Bool.true_or] at MO;go_quiet (first | (go_at_call 195;exact Calls.quiet_of_same (zBO _ _ _)) | (go_at_call 191;exact Calls.quiet_of_same (MO.out _)));go_wp2_with fail;go_meet
   case rel=>exact ⟨rfl,_,rfl⟩
 case rest =>
  obtain ⟨rfl,nq,hwc⟩:=hcut;have X3:Ext u2 wc:=by rw [hwc];exact zEY (xr _) _
  clear hwc hod MO;have B3:=B2.l X3;have Br3:=Br2.l X3;have Br3':=Br3;have B3':=B3;obtain ⟨⟨a0,a1⟩,c0,c1⟩:=B3';obtain ⟨⟨r0',r1'⟩,s0',s1'⟩:=Br3';clear B2 Br2 a0' a1' c0' c1' r0 r1 s0 s1;cases g
  ·have HR:Hid (WV (.agg #[.int .u64 h2,.int .u64 l2]) (rndM 2 P n more)):=by rw [HRN.out];exact W2.out
   go_wp2_with fail;exact bodyPost_ret (v:=.agg #[.int .u64 h2,.int .u64 l2]) (by simp [results,Tryz.results137,go_sem,r0',r1']) rfl ⟨_,rfl,HR.out,xset (xset (xt X2 X3) (Nat.le_succ _) _) (Nat.le_succ _) _⟩
  ·go_wp2_with fail;refine (zFN _ W2.out (b:=1) ⟨0,1,rfl,by decide,by decide,rfl⟩ (zFI PB.out n1)).mono ?_;rintro e w3 ⟨v3,rfl,hW3,x3'⟩;have hW3':=hW3;obtain ⟨h3,l3,rfl,_⟩:=hW3';have HR:Hid (WV (.agg #[.int .u64 h3,.int .u64 l3]) (rndM 2 P n more)):=by rw [HRN.out];exact hW3
   have B4:=(B3.l x3').put (.int .u64 h3) (.int .u64 l3);have Br4:=((Br3.l x3').far (p:=⟨w.heap.size,0,none⟩) (show w.heap.size ≠ w.heap.size+1 by omega) (.int .u64 h3)).far (p:=⟨w.heap.size,1,none⟩) (show w.heap.size ≠ w.heap.size+1 by omega) (.int .u64 l3);have X4:=xset (xset (xt (xt X2 X3) x3') (p:=⟨w.heap.size,0,none⟩) (Nat.le_refl _) (.int .u64 h3)) (p:=⟨w.heap.size,1,none⟩) (Nat.le_refl _) (.int .u64 l3);obtain ⟨⟨g0,g1⟩,j0,j1⟩:=B3.l x3';obtain ⟨u4,hu4⟩:=nm ((w3.setCell ⟨w.heap.size,0,none⟩ (.int .u64 h3)).setCell ⟨w.heap.size,1,none⟩ (.int .u64 l3));rw [hu4] at B4 Br4 X4;obtain ⟨⟨b0,b1⟩,_⟩:=B4;obtain ⟨⟨q0,q1⟩,z0,z1⟩:=Br4;clear hW3 a0 a1 c0 c1 r0' r1' s0' s1' B3 Br3 x3' X2 X3;go_wp2_with fail;exact bodyPost_ret (v:=.agg #[.int .u64 h3,.int .u64 l3]) (by simp [results,Tryz.results137,go_sem,q0,q1]) rfl ⟨_,rfl,HR.out,xset (xset X4 (Nat.le_succ _) _) (Nat.le_succ _) _⟩
theorem zOS {v:Value} {P:Nat} (n:Nat) (more:Bool) (w:World) (hv:WV v P) (n1:1<=n) (hn:n<=100000) (hT:Tens w) :
  Calls Tryz.prog 137 #[v,iQ n,.bool more,Value.func (Fn.func 192) #[] #[]] w fun e w'=>∃ v',e=.returned v'/\WV v' (rndM 3 P n more)/\Ext w w':=by
 obtain ⟨h,l,rfl,h1,h2,e1⟩:=hv;have LO:Hid (∀ w,Tens w->Calls Tryz.prog 193 #[.agg #[.int .u64 h,.int .u64 l],iQ ((n:Int) - 1)] w fun e w'=>∃ h' l':Nat,e=.returned (.tuple #[.agg #[.int .u64 h',.int .u64 l'],.bool (decide (P % 10 ^ (n - 1) ≠ 0))])/\Hid (WV (.agg #[.int .u64 h',.int .u64 l']) (P / 10 ^ (n - 1)))/\Ext w w'):=fun w hT=>by
  have e:((n:Int) - 1)=((n - 1:Nat):Int):=by omega
  rw [e];refine (zE1 (n - 1) w ⟨h,l,rfl,h1,h2,e1⟩ (by omega) hT).mono ?_;rintro e w' ⟨v',rfl,hW,hx⟩;have hW':=hW;obtain ⟨h',l',rfl,_⟩:=hW;exact ⟨h',l',rfl,hW',hx⟩
 have PB:Hid (P<340282366920938463463374607431768211456):=by show P<_;omega
 have B:=(Box2.made w (.int .u64 h) (.int .u64 l) 156).l (x1 _ (.cells #[.int .u64 0,.int .u64 0] 156));have Br:=Box2.made (w.alloc (.cells #[.int .u64 h,.int .u64 l] 156)) (.int .u64 0) (.int .u64 0) 156;simp only [World.size_alloc] at Br;have T:=hT.l (xa (x1 w (.cells #[.int .u64 h,.int .u64 l] 156)) (.cells #[.int .u64 0,.int .u64 0] 156));have X0:Ext w ((w.alloc (.cells #[.int .u64 h,.int .u64 l] 156)).alloc (.cells #[.int .u64 0,.int .u64 0] 156)):=xa (x1 _ _) _;clear e1 hT h1 h2;go_enter Tryz.func137,Tryz.ntmps137;go_wp2_with fail;refine (LO.out _ T).mono ?_;rintro e w1 ⟨h',l',rfl,W1,x1'⟩;obtain ⟨lost,hlost⟩:∃ b:Bool,decide (P % 10 ^ (n - 1) ≠ 0)=b:=⟨_,rfl⟩;rw [hlost];have HLo:=hid hlost;have B1:=(B.l x1').put (.int .u64 h') (.int .u64 l');have Br1:=((Br.l x1').far (p:=⟨w.heap.size,0,none⟩) (show w.heap.size ≠ w.heap.size+1 by omega) (.int .u64 h')).far (p:=⟨w.heap.size,1,none⟩) (show w.heap.size ≠ w.heap.size+1 by omega) (.int .u64 l');have X1:=xset (xset (xt X0 x1') (p:=⟨w.heap.size,0,none⟩) (Nat.le_refl _) (.int .u64 h')) (p:=⟨w.heap.size,1,none⟩) (Nat.le_refl _) (.int .u64 l');obtain ⟨⟨g0,g1⟩,j0,j1⟩:=B.l x1';obtain ⟨u1,hu1⟩:=nm ((w1.setCell ⟨w.heap.size,0,none⟩ (.int .u64 h')).setCell ⟨w.heap.size,1,none⟩ (.int .u64 l'));rw [hu1] at B1 Br1 X1;have B1':=B1;obtain ⟨⟨a0,a1⟩,c0,c1⟩:=B1';clear hlost LO T X0;go_wp2_with fail;refine (zFO 10 _ W1.out (by decide) (by decide)).mono ?_;rintro e w2 ⟨v2,rfl,hW2,x2'⟩;rw [zHY P n n1] at hW2;obtain ⟨h2,l2,rfl,k1,k2,k3⟩:=hW2;have W2:Hid (WV (.agg #[.int .u64 h2,.int .u64 l2]) (P / 10 ^ n)):=⟨h2,l2,rfl,k1,k2,k3⟩;have OD:=zJT k3;obtain ⟨d,hd⟩:=nm (P / 10 ^ (n - 1) % 10);rw [hd];have RN:=zJJ 3 P n more n1;rw [hd,HLo.out,<- OD] at RN;obtain ⟨od,hod⟩:∃ b:Bool,((l2:Int) % 2 == 1)=b:=⟨_,rfl⟩;rw [hod] at RN;obtain ⟨g,hg⟩:∃ b:Bool,zAV 3 od (zFJ d (more || lost))=b:=⟨_,rfl⟩;rw [hg] at RN;have MO:Hid (∀ w,Calls Tryz.prog 192 #[.bool od,iQ (zFJ d (more || lost))] w fun e w'=>e=.returned (.bool g)/\w'=w):=fun w=>by rw [<- hg];exact zUA _ _ _
 have HRN:=hid RN;have B2:=(B1.l x2').put (.int .u64 h2) (.int .u64 l2);have Br2:=((Br1.l x2').far (p:=⟨w.heap.size,0,none⟩) (show w.heap.size ≠ w.heap.size+1 by omega) (.int .u64 h2)).far (p:=⟨w.heap.size,1,none⟩) (show w.heap.size ≠ w.heap.size+1 by omega) (.int .u64 l2);have X2:=xset (xset (xt X1 x2') (p:=⟨w.heap.size,0,none⟩) (Nat.le_refl _) (.int .u64 h2)) (p:=⟨w.heap.size,1,none⟩) (Nat.le_refl _) (.int .u64 l2);obtain ⟨⟨g0',g1'⟩,j0',j1'⟩:=B1.l x2';obtain ⟨u2,hu2⟩:=nm ((w2.setCell ⟨w.heap.size,0,none⟩ (.int .u64 h2)).setCell ⟨w.heap.size,1,none⟩ (.int .u64 l2));rw [hu2] at B2 Br2 X2;have B2':=B2;have Br2':=Br2;obtain ⟨⟨a0',a1'⟩,c0',c1'⟩:=B2';obtain ⟨⟨r0,r1⟩,s0,s1⟩:=Br2';clear RN hg OD hd k3 hu1 g0 g1 j0 j1 a0 a1 c0 c1 B B1 Br Br1 x1' x2' X1 W1;go_upto_region 3 with fail;clear hu2 g0' g1' j0' j1';go_cut [34] (fun v wc=>v=.bool g/\∃ nq,wc=u2.drewN nq)
 case first =>
  cases more
  ·simp only [Bool.false_or] at MO;go_quiet (first | (go_at_call 195;exact Calls.quiet_of_same (zBO _ _ _)) | (go_at_call 192;exact Calls.quiet_of_same (MO.out _)));go_wp2_with fail;go_meet
   case rel=>exact ⟨rfl,_,rfl⟩
  ·simp only [Bool.true_or] at MO;go_quiet (first | (go_at_call 195;exact Calls.quiet_of_same (zBO _ _ _)) | (go_at_call 192;exact Calls.quiet_of_same (MO.out _)));go_wp2_with fail;go_meet
   case rel=>exact ⟨rfl,_,rfl⟩
 case rest =>
  obtain ⟨rfl,nq,hwc⟩:=hcut;have X3:Ext u2 wc:=by rw [hwc];exact zEY (xr _) _
  clear hwc hod MO;have B3:=B2.l X3;have Br3:=Br2.l X3;have Br3':=Br3;have B3':=B3;obtain ⟨⟨a0,a1⟩,c0,c1⟩:=B3';obtain ⟨⟨r0',r1'⟩,s0',s1'⟩:=Br3';clear B2 Br2 a0' a1' c0' c1' r0 r1 s0 s1;cases g
  ·have HR:Hid (WV (.agg #[.int .u64 h2,.int .u64 l2]) (rndM 3 P n more)):=by rw [HRN.out];exact W2.out
   go_wp2_with fail;exact bodyPost_ret (v:=.agg #[.int .u64 h2,.int .u64 l2]) (by simp [results,Tryz.results137,go_sem,r0',r1']) rfl ⟨_,rfl,HR.out,xset (xset (xt X2 X3) (Nat.le_succ _) _) (Nat.le_succ _) _⟩
  ·go_wp2_with fail;refine (zFN _ W2.out (b:=1) ⟨0,1,rfl,by decide,by decide,rfl⟩ (zFI PB.out n1)).mono ?_;rintro e w3 ⟨v3,rfl,hW3,x3'⟩;have hW3':=hW3;obtain ⟨h3,l3,rfl,_⟩:=hW3';have HR:Hid (WV (.agg #[.int .u64 h3,.int .u64 l3]) (rndM 3 P n more)):=by rw [HRN.out];exact hW3
   have B4:=(B3.l x3').put (.int .u64 h3) (.int .u64 l3);have Br4:=((Br3.l x3').far (p:=⟨w.heap.size,0,none⟩) (show w.heap.size ≠ w.heap.size+1 by omega) (.int .u64 h3)).far (p:=⟨w.heap.size,1,none⟩) (show w.heap.size ≠ w.heap.size+1 by omega) (.int .u64 l3);have X4:=xset (xset (xt (xt X2 X3) x3') (p:=⟨w.heap.size,0,none⟩) (Nat.le_refl _) (.int .u64 h3)) (p:=⟨w.heap.size,1,none⟩) (Nat.le_refl _) (.int .u64 l3);obtain ⟨⟨g0,g1⟩,j0,j1⟩:=B3.l x3';obtain ⟨u4,hu4⟩:=nm ((w3.setCell ⟨w.heap.size,0,none⟩ (.int .u64 h3)).setCell ⟨w.heap.size,1,none⟩ (.int .u64 l3));rw [hu4] at B4 Br4 X4;obtain ⟨⟨b0,b1⟩,_⟩:=B4;obtain ⟨⟨q0,q1⟩,z0,z1⟩:=Br4;clear hW3 a0 a1 c0 c1 r0' r1' s0' s1' B3 Br3 x3' X2 X3;go_wp2_with fail;exact bodyPost_ret (v:=.agg #[.int .u64 h3,.int .u64 l3]) (by simp [results,Tryz.results137,go_sem,q0,q1]) rfl ⟨_,rfl,HR.out,xset (xset X4 (Nat.le_succ _) _) (Nat.le_succ _) _⟩
end Go.Proofs.YtjlojlgdkfpcdaaGreatDoor

