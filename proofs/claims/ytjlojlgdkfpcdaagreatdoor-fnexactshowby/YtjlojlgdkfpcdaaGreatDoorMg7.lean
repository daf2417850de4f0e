/-
  Several texts in one: ImB, Zval, CmpD, ImC.
-/
import Derived.Test.YtjlojlgdkfpcdaaGreatDoorMg0
import Derived.Test.YtjlojlgdkfpcdaaGreatDoorDvN
import Derived.Test.YtjlojlgdkfpcdaaGreatDoorShelb
import Derived.Shelf.Small.Bits
import Derived.Deep.DeepCutAuto
import Derived.Deep.CutBlock
import Derived.Test.YtjlojlgdkfpcdaaGreatDoorMg5
import Derived.Deep.QuietTactic
import Derived.BigQuiet
import Derived.Deep.RegionHeld3
namespace Go.Proofs.YtjlojlgdkfpcdaaGreatDoor
open Go.RowKit
theorem bitLen_ge (x k:Nat) (h:2 ^ k≤x) (hx:x<2 ^ 64):k<Lib.bitLen x:=by
 have:=Lib.bitLen_shift k x h hx;have h2:x / 2 ^ k ≠ 0:=by
  have:=Nat.div_pos h (Nat.pow_pos (by decide));omega
 have h3:=Lib.bitLen_half (x / 2 ^ k) h2 (Nat.lt_of_le_of_lt (Nat.div_le_self _ _) hx);omega
theorem lz64_any (y:Int) (w:World) (h0:0≤y) (h1:y≤18446744073709551615) :
  Calls Tryz.prog 232 #[.int .u64 y] w fun e w'=>e=.returned (.int .i64 (64 - Lib.bitLen y.toNat))∧w'=w:=
 Any.bits_LeadingZeros64 layLz64 y w h0 h1
def In64 (hi lo y:Nat) (s:Nat) (Y u L a b n1 n0:Int):Prop:=
 IntKind.u64.wrap ((y:Int) * 2 ^ s)=Y∧bits .or .u64 (IntKind.u64.wrap ((hi:Int) * 2 ^ s)) ((lo:Int) / 2 ^ (64 - s))=u∧IntKind.u64.wrap ((lo:Int) * 2 ^ s)=L ∧
 Y / 4294967296=a∧bits .and .u64 Y 4294967295=b∧L / 4294967296=n1∧bits .and .u64 L 4294967295=n0 ∧
 Y=a * 4294967296+b∧L=n1 * 4294967296+n0∧0≤n0∧n0<4294967296∧HalfIn a b u n1∧(y:Int) * 2 ^ s=Y ∧
 ((hi:Int) * 18446744073709551616+lo) * 2 ^ s=u * 18446744073709551616+L
theorem in64 {hi lo y s:Nat} (h0:0<hi) (h1:hi<y) (y1:y<18446744073709551616) (l1:lo<18446744073709551616) (hs:64 - Lib.bitLen y=s) :
  s≤63∧∃ Y u L a b n1 n0:Int,In64 hi lo y s Y u L a b n1 n0:=by
 have b1:=Lib.bitLen_le y 64 (by decide) y1;have b2:=bitLen_ge y 0 (by simp;omega) y1;obtain ⟨n,hn⟩:∃ n,Lib.bitLen y=n:=⟨_,rfl⟩;rw [hn] at b1 b2 hs;have hns:n+s=64:=by omega
 have yl:2 ^ (n - 1)≤y:=by
  by_cases h:2 ^ (n - 1)≤y
  ·exact h
  ·have:=Lib.bitLen_le y (n - 1) (by omega) (by omega);omega
 have yu:y<2 ^ n:=by
  by_cases h:y<2 ^ n
  ·exact h
  ·have:=bitLen_ge y n (by omega) y1;omega
 obtain ⟨d1,d2,d3,d4,d5,d6⟩:=div64_in hns (by omega) h1 yl yu l1;have e64:64 - s=n:=by omega
 refine ⟨by omega,(y * 2 ^ s:Nat),(hi * 2 ^ s+lo / 2 ^ n:Nat),(lo * 2 ^ s % 18446744073709551616:Nat),(y * 2 ^ s / 4294967296:Nat),(y * 2 ^ s % 4294967296:Nat),(lo * 2 ^ s % 18446744073709551616 / 4294967296:Nat),(lo * 2 ^ s % 18446744073709551616 % 4294967296:Nat),?_⟩;have c1:∀ x:Nat,(x:Int) * 2 ^ s=((x * 2 ^ s:Nat):Int):=fun x=>by rw [Int.natCast_mul,Int.natCast_pow];rfl
 have c2:(lo:Int) / 2 ^ n=((lo / 2 ^ n:Nat):Int):=by rw [Int.natCast_ediv,Int.natCast_pow];rfl
 have m1:lo * 2 ^ s % 18446744073709551616<18446744073709551616:=Nat.mod_lt _ (by decide);have e0:((hi:Int) * 18446744073709551616+lo) * 2 ^ s=(((hi * 18446744073709551616+lo) * 2 ^ s:Nat):Int):=by
  rw [← c1];rfl
 unfold In64;rw [c1,c1,c1,e64,c2,e0,d6];have w1:∀ x:Nat,x<18446744073709551616→IntKind.u64.wrap (x:Int)=(x:Int):=fun x hx=>by rw [IntKind.wrap_u64];omega
 have w2:∀ x:Nat,x<18446744073709551616→bits .and .u64 (x:Int) 4294967295=((x % 4294967296:Nat):Int):=fun x hx=>by
  have h:=bits_and_u64_nat x 4294967295 hx (by omega);have e:x &&& 4294967295=x % 4294967296:=Nat.and_two_pow_sub_one_eq_mod x 32;rw [e] at h;exact h
 rw [w1 _ d2,w1 _ d3,w2 _ d2,w2 _ m1,bits_or_u64_nat _ _ d3 (Nat.lt_of_le_of_lt (Nat.div_le_self _ _) l1),d4];generalize y * 2 ^ s=YY at *;generalize hi * 2 ^ s+lo / 2 ^ n=uu at *;have w3:IntKind.u64.wrap ((lo * 2 ^ s:Nat):Int)=((lo * 2 ^ s % 18446744073709551616:Nat):Int):=by rw [IntKind.wrap_u64];omega
 rw [w3];generalize lo * 2 ^ s % 18446744073709551616=LL at *;refine ⟨rfl,rfl,rfl,by omega,rfl,by omega,rfl,by omega,by omega,by omega,by omega,⟨by omega,by omega,by omega,by omega,by omega,by omega,by omega,by omega⟩,rfl,by omega⟩
theorem half_prod {a b u n q r:Int} (h:HalfAt a b u n q r) (hi:HalfIn a b u n) (hq:q<4294967296):0≤q * b∧q * b<18446744073709551616:=by
 obtain ⟨_,_,h3,_⟩:=h;have b0:=hi.2.2.1;have b1:=hi.2.2.2.1;refine ⟨Int.mul_nonneg h3 b0,?_⟩;have h1:q * b≤4294967295 * b:=Int.mul_le_mul_of_nonneg_right (by omega) b0;omega
set_option maxRecDepth 4000 in
set_option maxHeartbeats 4000000 in
theorem div64_go (hi lo y:Nat) (w:World) (h0:0<hi) (h1:hi<y) (y1:y<18446744073709551616) (l1:lo<18446744073709551616) :
  Calls Tryz.prog 221 #[.int .u64 hi,.int .u64 lo,.int .u64 y] w fun e w'=>∃ q r:Int,e=.returned (.tuple #[.int .u64 q,.int .u64 r])∧w'=w∧q=((hi:Int) * 18446744073709551616+lo) / y∧r=((hi:Int) * 18446744073709551616+lo) % y:=by
 obtain ⟨s,hs⟩:∃ s:Nat,64 - Lib.bitLen y=s:=⟨_,rfl⟩;obtain ⟨s63,Y,u,L,a,b,n1,n0,i1,i2,i3,i4,i5,i6,i7,i8,i9,n00,n01,HI,iY,iV⟩:=in64 h0 h1 y1 l1 hs;have LZ:Hid (∀ w,Calls Tryz.prog 232 #[.int .u64 y] w fun e w'=>e=.returned (.int .i64 s)∧w'=w):=fun w=>by
  have:=lz64_any y w (by omega) (by omega);rw [Int.toNat_natCast] at this;have b1:=Lib.bitLen_le y 64 (by decide) y1;rw [show (64:Int) - Lib.bitLen y=s by omega] at this;exact this
 have hy0:(((y:Int) == 0))=false:=by rw [beq_eq_false_iff_ne];omega
 have hh0:(((hi:Int) == 0))=false:=by rw [beq_eq_false_iff_ne];omega
 have hyh:¬ (y:Int)≤(hi:Int):=by omega
 have HI':=HI;obtain ⟨a0,a1,b0,b1,u0,u1,n10,n11⟩:=HI';have u2:u<18446744073709551616:=by omega
 have YB:Hid (Y=a * 4294967296+b∧0≤Y∧Y<18446744073709551616):=⟨i8,by omega,by omega⟩;have hst:=HalfAt.start HI;obtain ⟨r0,hr0⟩:∃ r,u % a=r:=⟨_,rfl⟩;rw [hr0] at hst;obtain ⟨P0,hP0⟩:∃ P,u / a * a=P:=⟨_,rfl⟩;have hqr:=hst.1;have q00:=hst.2.2.1;have p00:0≤P0:=by rw [← hP0];exact Int.mul_nonneg q00 (by omega)
 have r00:=hst.2.2.2.2.1;have p01:P0<18446744073709551616:=by omega
 have e0:u - P0=r0:=by omega
 have HST:=hid hst;have DONE:Hid (∀ q1 q0 u':Int,u'=u * 4294967296+n1 - q1 * Y→HalfIn a b u' n0→HalfDone a b u' n0 q0→q1 * 4294967296+q0=((hi:Int) * 18446744073709551616+lo) / y∧(u' * 4294967296+n0 - q0 * Y) / 2 ^ s=((hi:Int) * 18446744073709551616+lo) % y):=fun q1 q0 u' h2 h3 h4=>by
  rw [i8] at h2 ⊢;exact div_halves (S:=2 ^ s) (Int.pow_pos (by decide)) (by omega) (by rw [iY,i8]) (by rw [iV,i9];omega) h2 h3 h4
 have HIN:=hid HI;clear hst hqr hr0 i8 i9 iY iV HI hs u1;go_enter Tryz.func221,Tryz.ntmps221;go_wp2_with fail;refine (LZ.out _).mono ?_;rintro e w1 ⟨rfl,rfl⟩;go_upto_block 0 with fail;clear hP0 e0 p00 p01;go_cut [15] (fun v wc=>∃ q:Int,v=.int .u64 q∧HalfDone a b u n1 q∧wc=w1)
 case first =>
  go_wp2_with fail
  go_loop [15,16] (fun v x=>∃ q r:Int,v=.int .u64 q∧x=.int .u64 r∧HalfAt a b u n1 q r) (fun v _=>(intOf v).toNat)
  case atStart=>exact ⟨u / a,r0,rfl,rfl,HST.out⟩
  case round =>
   obtain ⟨q,r,rfl,rfl,hA⟩:=hrel;have HA:=hid hA;have q2:=hA.2.2.1;have q3:=hA.2.2.2.1;have r2:=hA.2.2.2.2.1;have r3:=hA.2.2.2.2.2;by_cases hq:4294967296≤q
   ·clear hA;by_cases hr:r+a<4294967296
    ·go_wp2_with fail
     go_round
     case rel=>exact ⟨q - 1,r+a,rfl,rfl,HA.out.next HIN.out (.inl hq) hr⟩
     case measure=>simp [intOf];omega
    ·have hr':4294967296≤r+a:=(by omega);go_wp2_with fail;go_meet
     case rel=>exact ⟨q - 1,rfl,HA.out.last HIN.out (.inl hq) hr',rfl⟩
   ·obtain ⟨p0,p1⟩:=half_prod hA HIN.out (by omega);have hq':q<4294967296:=(by omega);clear hA;obtain ⟨p,hp⟩:∃ p,q * b=p:=⟨_,rfl⟩;rw [hp] at p0 p1;by_cases hc:4294967296 * r+n1<p
    ·have HC:Hid (4294967296≤q∨r * 4294967296+n1<q * b):=.inr (by omega);have qp:1≤q:=HA.out.pos HIN.out HC.out;by_cases hr:r+a<4294967296
     ·go_wp2_with fail
      go_round
      case rel=>exact ⟨q - 1,r+a,rfl,rfl,HA.out.next HIN.out HC.out hr⟩
      case measure=>simp [intOf];omega
     ·have hr':4294967296≤r+a:=(by omega);go_wp2_with fail;go_meet
      case rel=>exact ⟨q - 1,rfl,HA.out.last HIN.out HC.out hr',rfl⟩
    ·have HC:Hid (q * b≤r * 4294967296+n1):=(by show _≤_;omega);go_wp2_with fail;go_meet
     case rel=>exact ⟨q,rfl,HA.out.stop HIN.out (Int.not_lt.2 HC.out),rfl⟩
 case rest =>
  obtain ⟨q1,rfl,hD,rfl⟩:=hcut;obtain ⟨d1,d2⟩:=hD.rest HIN.out;obtain ⟨hq1e,q10,q11⟩:=hD;clear hq1e;rw [← YB.out.1] at d1 d2;have y00:=YB.out.2.1;have y01:=YB.out.2.2;obtain ⟨P1,hP1⟩:∃ P,q1 * Y=P:=⟨_,rfl⟩;rw [hP1] at d1 d2;obtain ⟨u',hu'⟩:∃ x,u * 4294967296+n1 - P1=x:=⟨_,rfl⟩;rw [hu'] at d1 d2;have W1:IntKind.u64.wrap (IntKind.u64.wrap (IntKind.u64.wrap (u * 4294967296)+n1) - IntKind.u64.wrap P1)=u':=by
   simp only [IntKind.wrap_u64];omega
  have HI2:HalfIn a b u' n0:=⟨a0,a1,b0,b1,d1,by rw [← YB.out.1];exact d2,n00,n01⟩;have HU:Hid (u'=u * 4294967296+n1 - q1 * Y):=by show _=_;rw [hP1];exact hu'.symm
  have hst2:=HalfAt.start HI2;obtain ⟨r2,hr2⟩:∃ r,u' % a=r:=⟨_,rfl⟩;rw [hr2] at hst2;obtain ⟨P2,hP2⟩:∃ P,u' / a * a=P:=⟨_,rfl⟩;have hqr2:=hst2.1;have q20:=hst2.2.2.1;have p20:0≤P2:=by rw [← hP2];exact Int.mul_nonneg q20 (by omega)
  have r20:=hst2.2.2.2.2.1;have p21:P2<18446744073709551616:=by omega
  have u21:u'<18446744073709551616:=by omega
  have e2:u' - P2=r2:=by omega
  have HST2:=hid hst2;have HIN2:=hid HI2;clear hst2 hqr2 hr2 HI2 hu' u0 u2;go_upto_block 2 with fail;clear hP2 e2 p20 p21 W1 hP1;go_cut [18] (fun v wd=>∃ q:Int,v=.int .u64 q∧HalfDone a b u' n0 q∧wd=wc)
  case first =>
   go_wp2_with fail
   go_loop [18,16] (fun v x=>∃ q r:Int,v=.int .u64 q∧x=.int .u64 r∧HalfAt a b u' n0 q r) (fun v _=>(intOf v).toNat)
   case atStart=>exact ⟨u' / a,r2,rfl,rfl,HST2.out⟩
   case round =>
    obtain ⟨q,r,rfl,rfl,hA⟩:=hrel;have HA:=hid hA;have q2:=hA.2.2.1;have q3:=hA.2.2.2.1;have r2:=hA.2.2.2.2.1;have r3:=hA.2.2.2.2.2;by_cases hq:4294967296≤q
    ·clear hA;by_cases hr:r+a<4294967296
     ·go_wp2_with fail
      go_round
      case rel=>exact ⟨q - 1,r+a,rfl,rfl,HA.out.next HIN2.out (.inl hq) hr⟩
      case measure=>simp [intOf];omega
     ·have hr':4294967296≤r+a:=(by omega);go_wp2_with fail;go_meet
      case rel=>exact ⟨q - 1,rfl,HA.out.last HIN2.out (.inl hq) hr',rfl⟩
    ·obtain ⟨p0,p1⟩:=half_prod hA HIN2.out (by omega);have hq':q<4294967296:=(by omega);clear hA;obtain ⟨p,hp⟩:∃ p,q * b=p:=⟨_,rfl⟩;rw [hp] at p0 p1;by_cases hc:4294967296 * r+n0<p
     ·have HC:Hid (4294967296≤q∨r * 4294967296+n0<q * b):=.inr (by omega);have qp:1≤q:=HA.out.pos HIN2.out HC.out;by_cases hr:r+a<4294967296
      ·go_wp2_with fail
       go_round
       case rel=>exact ⟨q - 1,r+a,rfl,rfl,HA.out.next HIN2.out HC.out hr⟩
       case measure=>simp [intOf];omega
      ·have hr':4294967296≤r+a:=(by omega);go_wp2_with fail;go_meet
       case rel=>exact ⟨q - 1,rfl,HA.out.last HIN2.out HC.out hr',rfl⟩
     ·have HC:Hid (q * b≤r * 4294967296+n0):=(by show _≤_;omega);go_wp2_with fail;go_meet
      case rel=>exact ⟨q,rfl,HA.out.stop HIN2.out (Int.not_lt.2 HC.out),rfl⟩
  case rest =>
   obtain ⟨q2,rfl,hD2,hwd⟩:=hcut;subst hwd;obtain ⟨f1,f2⟩:=DONE.out q1 q2 u' HU.out HIN2.out hD2;obtain ⟨g1,g2⟩:=hD2.rest HIN2.out;obtain ⟨hq2e,q20',q21'⟩:=hD2;clear hq2e;rw [← YB.out.1] at g1 g2;obtain ⟨P3,hP3⟩:∃ P,q2 * Y=P:=⟨_,rfl⟩;rw [hP3] at g1 g2 f2;obtain ⟨R,hR⟩:∃ x,u' * 4294967296+n0 - P3=x:=⟨_,rfl⟩;rw [hR] at g1 g2 f2;have W2:IntKind.u64.wrap (IntKind.u64.wrap (IntKind.u64.wrap (u' * 4294967296)+n0) - IntKind.u64.wrap P3)=R:=by
    simp only [IntKind.wrap_u64];omega
   have F:Hid (q1 * 4294967296+q2=((hi:Int) * 18446744073709551616+lo) / y∧R / 2 ^ s=((hi:Int) * 18446744073709551616+lo) % y):=⟨f1,f2⟩;have R1:R<18446744073709551616:=by omega
   clear f1 f2 hR d1 d2 u21;go_wp2_with fail
   go_ret2
   exact ⟨_,_,rfl,rfl,F.out.1,F.out.2⟩
def C32 (w:World) (b o:Nat) (xs:List Int):Prop:=∀ i,i<xs.length→w.cell? ⟨b,o+i,none⟩=some (.int .u32 (xs.getD i 0))
theorem C32.later {w w1:World} {b o:Nat} {xs:List Int} (h:C32 w b o xs) (hb:Ext w w1):C32 w1 b o xs:=fun i hi=>cell_later hb (h i hi)
def Row (w:World) (v:Value) (xs:List Int):Prop:=
 ∃ (p:Option Addr) (cap:Nat),v=.slice p xs.length cap∧xs.length≤cap∧cap≤9223372036854775807∧((p=none∧cap=0)∨∃ b o,p=some ⟨b,o,none⟩∧C32 w b o xs)
theorem Row.later {w w1:World} {v:Value} {xs:List Int} (h:Row w v xs) (hb:Ext w w1):Row w1 v xs:=by
 obtain ⟨p,cap,e,h1,h2,h3⟩:=h;refine ⟨p,cap,e,h1,h2,?_⟩
 rcases h3 with h3 | ⟨b,o,e,h3⟩
 ·exact .inl h3
 ·exact .inr ⟨b,o,e,h3.later hb⟩
abbrev zS (z:Int):Value:=.agg #[.int .i64 z,.bool false,.slice none 0 0]
abbrev zB (neg:Bool) (p:Addr) (n cap:Nat):Value:=.agg #[.int .i64 0,.bool neg,.slice (some p) n cap]
def sgn (neg:Bool) (z:Int):Int:=if neg then -z else z
def Top (xs:List Int):Prop:=xs.length=0∨xs.getD (xs.length - 1) 0 ≠ 0
def ZV (w:World) (v:Value) (z:Int):Prop:=
 (-1000000000000000000<z∧z<1000000000000000000∧v=zS z) ∨
 ∃ neg b o cap xs,v=zB neg ⟨b,o,none⟩ xs.length cap∧xs.length≤cap∧cap≤9223372036854775807∧C32 w b o xs∧Lim xs∧3≤xs.length∧Top xs∧z=sgn neg (lv xs)
theorem ZV.later {w w1:World} {v:Value} {z:Int} (h:ZV w v z) (hb:Ext w w1):ZV w1 v z:=by
 rcases h with h | ⟨neg,b,o,cap,xs,e,h1,h2,h3,h4⟩
 ·exact .inl h
 ·exact .inr ⟨neg,b,o,cap,xs,e,h1,h2,h3.later hb,h4⟩
theorem ZV.small {w:World} {z:Int} (h1 : -1000000000000000000<z) (h2:z<1000000000000000000):ZV w (zS z) z:=.inl ⟨h1,h2,rfl⟩
theorem big_ge {xs:List Int} (h:Lim xs) (h3:3≤xs.length) (ht:Top xs):1000000000000000000≤lv xs:=by
 have h1:=lv_ge h (by omega) (ht.resolve_left (by omega));have h2:(1000000000:Int) ^ 2≤1000000000 ^ (xs.length - 1):=by
  have:=Nat.pow_le_pow_right (n:=1000000000) (by decide) (show 2≤xs.length - 1 by omega);have h3:((1000000000 ^ 2:Nat):Int)≤((1000000000 ^ (xs.length - 1):Nat):Int):=by exact_mod_cast this
  simpa using h3
 omega
def smallB (z:Int):Bool:=decide (-1000000000000000000<z∧z<1000000000000000000)
theorem small_big {neg:Bool} {xs:List Int} (h:Lim xs) (h3:3≤xs.length) (ht:Top xs):smallB (sgn neg (lv xs))=false:=by
 have:=big_ge h h3 ht;unfold smallB sgn;cases neg <;> simp <;> omega
theorem smallB_true {z:Int} (h1 : -1000000000000000000<z) (h2:z<1000000000000000000):smallB z=true:=by simp [smallB,h1,h2]
theorem ZV.small_of {w:World} {v:Value} {z:Int} (h:ZV w v z) (hs:smallB z=true) : -1000000000000000000<z∧z<1000000000000000000∧v=zS z:=by
 rcases h with h | ⟨neg,b,o,cap,xs,rfl,h1,h2,h3,h4,h5,h6,rfl⟩
 ·exact h
 ·rw [small_big h4 h5 h6] at hs;cases hs
set_option maxHeartbeats 400000 in
theorem isSmall_any {v:Value} {z:Int} (w:World) (h:ZV w v z) :
  Calls Tryz.prog 153 #[v] w fun e w'=>e=.returned (.bool (smallB z))∧Ext w w':=by
 rcases h with ⟨h1,h2,rfl⟩ | ⟨neg,b,o,cap,xs,rfl,h1,h2,h3,h4,h5,h6,h7⟩
 ·go_enter Tryz.func153,Tryz.ntmps153
  go_wp2
  go_ret;exact ⟨ret_bool (smallB_true h1 h2).symm,x1 _ _⟩
 ·have h9:(((xs.length:Int) == 0))=false:=by rw [beq_eq_false_iff_ne];omega
  subst h7;have H:=small_big (neg:=neg) h4 h5 h6;clear h6 h4 h3;go_enter Tryz.func153,Tryz.ntmps153
  go_wp2
  go_ret;exact ⟨ret_bool H.symm,x1 _ _⟩
theorem sgn_neg {neg:Bool} {xs:List Int} (h:Lim xs) (h3:3≤xs.length) (ht:Top xs):decide (sgn neg (lv xs)<0)=neg:=by
 have:=big_ge h h3 ht;cases neg <;> simp [sgn] <;> omega
set_option maxHeartbeats 400000 in
theorem neg_any {v:Value} {z:Int} (w:World) (h:ZV w v z) :
  Calls Tryz.prog 110 #[v] w fun e w'=>e=.returned (.bool (decide (z<0)))∧Ext w w':=by
 rcases h with ⟨h1,h2,rfl⟩ | ⟨neg,b,o,cap,xs,rfl,h1,h2,h3,h4,h5,h6,h7⟩
 ·go_enter Tryz.func110,Tryz.ntmps110
  go_wp2
  go_ret;exact ⟨rfl,x1 _ _⟩
 ·have h9:(0:Int)<(xs.length:Int):=by omega
  subst h7;have H:=sgn_neg (neg:=neg) h4 h5 h6;clear h6 h4 h3;go_enter Tryz.func110,Tryz.ntmps110
  go_wp2
  go_ret;exact ⟨ret_bool H.symm,x1 _ _⟩
set_option maxHeartbeats 400000 in
theorem zero_any {v:Value} {z:Int} (w:World) (h:ZV w v z) :
  Calls Tryz.prog 113 #[v] w fun e w'=>e=.returned (.bool (z == 0))∧Ext w w':=by
 rcases h with ⟨h1,h2,rfl⟩ | ⟨neg,b,o,cap,xs,rfl,h1,h2,h3,h4,h5,h6,h7⟩
 ·go_enter Tryz.func113,Tryz.ntmps113
  go_wp2
  all_goals go_ret
  all_goals exact ⟨rfl,x1 _ _⟩
 ·have h9:(((xs.length:Int) == 0))=false:=by rw [beq_eq_false_iff_ne];omega
  have H:(sgn neg (lv xs) == 0)=false:=by
   have:=big_ge h4 h5 h6;rw [beq_eq_false_iff_ne];cases neg <;> simp [sgn] <;> omega
  subst h7;clear h6 h4 h3;go_enter Tryz.func113,Tryz.ntmps113
  go_wp2
  all_goals go_ret
  all_goals exact ⟨ret_bool H.symm,x1 _ _⟩
set_option maxHeartbeats 400000 in
theorem minus_any {v:Value} {z:Int} (w:World) (h:ZV w v z) :
  Calls Tryz.prog 146 #[v] w fun e w'=>∃ v',e=.returned v'∧ZV w' v' (-z)∧Ext w w':=by
 rcases h with ⟨h1,h2,rfl⟩ | ⟨neg,b,o,cap,xs,rfl,h1,h2,h3,h4,h5,h6,rfl⟩
 ·go_enter Tryz.func146,Tryz.ntmps146
  go_wp2
  exact bodyPost_ret (v:=zS (-z)) (by simp [results,Tryz.results146,go_sem]) rfl ⟨_,rfl,.inl ⟨by omega,by omega,rfl⟩,xa (xa (x1 _ _) _) _⟩
 ·have h9:(((xs.length:Int) == 0))=false:=by rw [beq_eq_false_iff_ne];omega
  have H : -sgn neg (lv xs)=sgn (!neg) (lv xs):=by cases neg <;> simp [sgn]
  rw [H];clear H;go_enter Tryz.func146,Tryz.ntmps146
  go_wp2
  exact bodyPost_ret (v:=zB (!neg) ⟨b,o,none⟩ xs.length cap) (by simp [results,Tryz.results146,go_sem]) rfl
   ⟨_,rfl,.inr ⟨!neg,b,o,cap,xs,rfl,h1,h2,((h3.later (x1 _ _)).later (x1 _ _)).later (x1 _ _),h4,h5,h6,rfl⟩,xa (xa (x1 _ _) _) _⟩
def No32 (u:Value):Prop:=∀ n,u ≠ .int .u32 n
theorem C32.apart {w:World} {b o:Nat} {xs:List Int} {p:Addr} {u:Value} (h:C32 w b o xs) (hp:w.cell? p=some u) (hu:No32 u):∀ i,i<xs.length→(⟨b,o+i,none⟩:Addr) ≠ p:=by
 rintro i hi rfl;rw [h i hi] at hp;exact hu _ (Option.some.inj hp).symm
theorem C32.set {w:World} {b o:Nat} {xs:List Int} {p:Addr} {u:Value} (h:C32 w b o xs) (hp:w.cell? p=some u) (hu:No32 u) (a:Value):C32 (w.setCell p a) b o xs:=fun i hi=>by
 rw [World.cell?_setCell_other _ _ _ _ (h.apart hp hu i hi).symm];exact h i hi
theorem ZV.set {w:World} {v:Value} {z:Int} {p:Addr} {u:Value} (h:ZV w v z) (hp:w.cell? p=some u) (hu:No32 u) (a:Value):ZV (w.setCell p a) v z:=by
 rcases h with h | ⟨neg,b,o,cap,xs,e,h1,h2,h3,h4⟩
 ·exact .inl h
 ·exact .inr ⟨neg,b,o,cap,xs,e,h1,h2,h3.set hp hu a,h4⟩
theorem ZV.shape {w:World} {v:Value} {z:Int} (h:ZV w v z):∃ a0 a1 p n cap,v=.agg #[.int .i64 a0,.bool a1,.slice p n cap]:=by
 rcases h with ⟨_,_,rfl⟩ | ⟨neg,b,o,cap,xs,rfl,_⟩
 ·exact ⟨_,_,_,_,_,rfl⟩
 ·exact ⟨_,_,_,_,_,rfl⟩
theorem no32_i64 (n:Int):No32 (.int .i64 n):=fun _ h=>by cases h
theorem no32_bool (n:Bool):No32 (.bool n):=fun _ h=>by cases h
theorem no32_slice (p:Option Addr) (n c:Nat):No32 (.slice p n c):=fun _ h=>by cases h
abbrev ZBox (w:World) (b:Nat):Prop:=∃ a0 a1 p n cap,Box3 w b (.int .i64 a0) (.bool a1) (.slice p n cap)
abbrev set3 (w:World) (b:Nat) (a0 a1 a2:Value):World:=((w.setCell ⟨b,0,none⟩ a0).setCell ⟨b,1,none⟩ a1).setCell ⟨b,2,none⟩ a2
theorem addr_ne {b i j:Nat} (h:i ≠ j):(⟨b,i,none⟩:Addr) ≠ ⟨b,j,none⟩:=fun e=>h (by cases e;rfl)
theorem ZV.set3 {w:World} {v:Value} {z:Int} {b:Nat} {a0:Int} {a1:Bool} {p:Option Addr} {n cap:Nat} (h:ZV w v z) (hb:Box3 w b (.int .i64 a0) (.bool a1) (.slice p n cap)) (c0 c1 c2:Value):ZV (set3 w b c0 c1 c2) v z:=by
 obtain ⟨⟨q0,q1,q2⟩,_⟩:=hb;have k1:(w.setCell ⟨b,0,none⟩ c0).cell? ⟨b,1,none⟩=some (.bool a1):=by rw [World.cell?_setCell_other _ _ _ _ (addr_ne (by decide))];exact q1
 have k2:((w.setCell ⟨b,0,none⟩ c0).setCell ⟨b,1,none⟩ c1).cell? ⟨b,2,none⟩=some (.slice p n cap):=by
  rw [World.cell?_setCell_other _ _ _ _ (addr_ne (by decide)),World.cell?_setCell_other _ _ _ _ (addr_ne (by decide))];exact q2
 exact ((h.set q0 (no32_i64 _) _).set k1 (no32_bool _) _).set k2 (no32_slice _ _ _) _
theorem Ext.set3 {w w1:World} {b:Nat} (h:Ext w w1) (hb:w.heap.size≤b) (c0 c1 c2:Value):Ext w (set3 w1 b c0 c1 c2):=xset (xset (xset h hb _) hb _) hb _
set_option maxHeartbeats 400000 in
theorem abs_any {v:Value} {z:Int} (w:World) (h:ZV w v z) :
  Calls Tryz.prog 111 #[v] w fun e w'=>∃ v',e=.returned v'∧ZV w' v' (z.natAbs:Int)∧Ext w w':=by
 obtain ⟨a0,a1,p,n,cap,rfl⟩:=h.shape;by_cases hz:z<0
 ·have hd:decide (z<0)=true:=by simpa using hz
  have e1:(z.natAbs:Int) = -z:=by omega
  rw [e1];clear e1;go_enter Tryz.func111,Tryz.ntmps111;go_wp2_with fail;refine (neg_any _ (h.later (xa (x1 _ _) _))).mono ?_;rintro e w1 ⟨rfl,b1⟩;obtain ⟨⟨q0,q1,q2⟩,_⟩:=((Box3.made w (.int .i64 a0) (.bool a1) (.slice p n cap) 103).later (x1 _ _)).later b1;go_wp2_with fail;refine (minus_any _ ((h.later (xa (x1 _ _) _)).later b1)).mono ?_;rintro e w2 ⟨v',rfl,hz2,b2⟩;obtain ⟨a0',a1',p',n',cap',rfl⟩:=hz2.shape;have B:=((Box3.made (w.alloc (.cells #[.int .i64 a0,.bool a1,.slice p n cap] 103)) (.int .i64 0) (.bool false) (.slice none 0 0) 103).later b1).later b2;simp only [World.size_alloc] at B;have Hz:=hz2.set3 B (.int .i64 a0') (.bool a1') (.slice p' n' cap');have Hx:=Ext.set3 (b:=w.heap.size+1) (xt (xt (xa (x1 _ _) _) b1) b2) (by omega) (.int .i64 a0') (.bool a1') (.slice p' n' cap');obtain ⟨⟨r0,r1,r2⟩,s0,s1,s2⟩:=B
  go_wp2
  exact bodyPost_ret (v:=.agg #[.int .i64 a0',.bool a1',.slice p' n' cap']) (by simp [results,Tryz.results111,go_sem,r0,r1,r2]) rfl ⟨_,rfl,Hz,Hx⟩
 ·have hd:decide (z<0)=false:=by simpa using hz
  have e1:(z.natAbs:Int)=z:=by omega
  rw [e1];clear e1;go_enter Tryz.func111,Tryz.ntmps111;go_wp2_with fail;refine (neg_any _ (h.later (xa (x1 _ _) _))).mono ?_;rintro e w1 ⟨rfl,b1⟩;obtain ⟨⟨q0,q1,q2⟩,_⟩:=((Box3.made w (.int .i64 a0) (.bool a1) (.slice p n cap) 103).later (x1 _ _)).later b1;have B:=(Box3.made (w.alloc (.cells #[.int .i64 a0,.bool a1,.slice p n cap] 103)) (.int .i64 0) (.bool false) (.slice none 0 0) 103).later b1;simp only [World.size_alloc] at B;have Hz:=((h.later (xa (x1 _ _) _)).later b1).set3 B (.int .i64 a0) (.bool a1) (.slice p n cap);have Hx:=Ext.set3 (b:=w.heap.size+1) (xt (xa (x1 _ _) _) b1) (by omega) (.int .i64 a0) (.bool a1) (.slice p n cap);obtain ⟨⟨r0,r1,r2⟩,s0,s1,s2⟩:=B
  go_wp2
  exact bodyPost_ret (v:=.agg #[.int .i64 a0,.bool a1,.slice p n cap]) (by simp [results,Tryz.results111,go_sem,r0,r1,r2]) rfl ⟨_,rfl,Hz,Hx⟩
set_option maxHeartbeats 400000 in
theorem abs64_any (n:Int) (w:World) (h1 : -1000000000000000000<n) (h2:n<1000000000000000000) :
  Calls Tryz.prog 154 #[.int .i64 n] w fun e w'=>e=.returned (.int .i64 (n.natAbs:Int))∧w'=w:=by
 go_enter Tryz.func154,Tryz.ntmps154
 go_wp2
 all_goals go_ret
 all_goals exact ⟨ret_int (by omega),rfl⟩
theorem abs64_eq (n x:Int) (w:World) (h1 : -1000000000000000000<n) (h2:n<1000000000000000000) (hx:(n.natAbs:Int)=x) :
  Calls Tryz.prog 154 #[.int .i64 n] w fun e w'=>e=.returned (.int .i64 x)∧w'=w:=by
 rw [← hx];exact abs64_any n w h1 h2
theorem three (u:Int) (h1:1000000000000000000≤u) (h2:u<9000000000000000000) :
  Lim [u % 1000000000,u / 1000000000 % 1000000000,u / 1000000000 / 1000000000]∧Top [u % 1000000000,u / 1000000000 % 1000000000,u / 1000000000 / 1000000000]∧lv [u % 1000000000,u / 1000000000 % 1000000000,u / 1000000000 / 1000000000]=u:=by
 refine ⟨Lim.cons (by omega) (by omega) (Lim.cons (by omega) (by omega) (Lim.cons (by omega) (by omega) Lim.nil)),.inr ?_,?_⟩
 ·show u / 1000000000 / 1000000000 ≠ 0;omega
 ·simp only [lv];omega
theorem C32.three {w:World} {a b c:Int} {t:TypeId} {g:Nat} (hg:g=w.heap.size):C32 (w.alloc (.cells #[.int .u32 a,.int .u32 b,.int .u32 c] t)) g 0 [a,b,c]:=by
 subst hg;intro i hi
 match i,hi with
 | 0,_ | 1,_ | 2,_=>simp [go_sem]
theorem C32.two {w:World} {a b:Int} {t:TypeId} {g:Nat} (hg:g=w.heap.size):C32 (w.alloc (.cells #[.int .u32 a,.int .u32 b] t)) g 0 [a,b]:=by
 subst hg;intro i hi
 match i,hi with
 | 0,_ | 1,_=>simp [go_sem]
theorem C32.one {w:World} {a:Int} {t:TypeId} {g:Nat} (hg:g=w.heap.size):C32 (w.alloc (.cells #[.int .u32 a] t)) g 0 [a]:=by
 subst hg;intro i hi
 match i,hi with
 | 0,_=>simp [go_sem]
set_option maxHeartbeats 400000 in
theorem small_any (z:Int) (w:World) (h1 : -9000000000000000000<z) (h2:z<9000000000000000000) :
  Calls Tryz.prog 58 #[.int .i64 z] w fun e w'=>∃ v',e=.returned v'∧ZV w' v' z∧Ext w w':=by
 by_cases hs : -1000000000000000000<z∧z<1000000000000000000
 ·obtain ⟨s1,s2⟩:=hs;go_enter Tryz.func58,Tryz.ntmps58
  go_wp2
  exact bodyPost_ret (v:=zS z) (by simp [results,Tryz.results58,go_sem]) rfl ⟨_,rfl,ZV.small s1 s2,x1 _ _⟩
 ·by_cases hn:z<0
  ·obtain ⟨u,rfl⟩:∃ u,z = -u:=⟨-z,by omega⟩;have u1:1000000000000000000≤u:=by omega
   have u2:u<9000000000000000000:=by omega
   clear hs h1 h2 hn;go_enter Tryz.func58,Tryz.ntmps58
   go_wp2
   obtain ⟨t1,t2,t3⟩:=three u u1 u2;refine bodyPost_ret (v:=zB true ⟨w.heap.size+1,0,none⟩ 3 3) (by simp [results,Tryz.results58,go_sem]) rfl ⟨_,rfl,.inr ⟨true,w.heap.size+1,0,3,_,rfl,by simp,by decide,C32.three (by simp),t1,by simp,t2,?_⟩,xa (x1 _ _) _⟩;rw [t3];rfl
  ·have u1:1000000000000000000≤z:=by omega
   have hd:decide (z<0)=false:=by simpa using hn
   clear hs hn h1;go_enter Tryz.func58,Tryz.ntmps58
   go_wp2
   obtain ⟨t1,t2,t3⟩:=three z u1 h2;refine bodyPost_ret (v:=zB false ⟨w.heap.size+1,0,none⟩ 3 3) (by simp [results,Tryz.results58,go_sem]) rfl ⟨_,rfl,.inr ⟨false,w.heap.size+1,0,3,_,rfl,by simp,by decide,C32.three (by simp),t1,by simp,t2,?_⟩,xa (x1 _ _) _⟩;rw [t3];rfl
def Limbs (w:World) (v:Value) (u:Int):Prop:=∃ xs,Row w v xs∧Lim xs∧Top xs∧lv xs=u
theorem Limbs.later {w w1:World} {v:Value} {u:Int} (h:Limbs w v u) (hb:Ext w w1):Limbs w1 v u:=by
 obtain ⟨xs,h1,h2⟩:=h;exact ⟨xs,h1.later hb,h2⟩
theorem Limbs.nil (w:World):Limbs w (.slice none 0 0) 0:=⟨[],⟨none,0,rfl,Nat.le_refl _,by decide,.inl ⟨rfl,rfl⟩⟩,Lim.nil,.inl rfl,rfl⟩
theorem Limbs.one {w:World} {u:Int} {t:TypeId} {g:Nat} (hg:g=w.heap.size) (h1:0<u) (h2:u<1000000000):Limbs (w.alloc (.cells #[.int .u32 u] t)) (.slice (some ⟨g,0,none⟩) 1 1) u:=
 ⟨[u],⟨_,1,rfl,Nat.le_refl _,by decide,.inr ⟨g,0,rfl,C32.one hg⟩⟩,Lim.cons (by omega) h2 Lim.nil,.inr (show u ≠ 0 by omega),by simp [lv]⟩
theorem Limbs.two {w:World} {u:Int} {t:TypeId} {g:Nat} (hg:g=w.heap.size) (h1:1000000000≤u) (h2:u<1000000000000000000) :
  Limbs (w.alloc (.cells #[.int .u32 (u % 1000000000),.int .u32 (u / 1000000000)] t)) (.slice (some ⟨g,0,none⟩) 2 2) u:=
 ⟨[u % 1000000000,u / 1000000000],⟨_,2,rfl,Nat.le_refl _,by decide,.inr ⟨g,0,rfl,C32.two hg⟩⟩,Lim.cons (by omega) (by omega) (Lim.cons (by omega) (by omega) Lim.nil),.inr (show u / 1000000000 ≠ 0 by omega),by simp only [lv];omega⟩
set_option maxHeartbeats 400000 in
theorem limbs_any {v:Value} {z:Int} (w:World) (h:ZV w v z) :
  Calls Tryz.prog 152 #[v] w fun e w'=>∃ v',e=.returned v'∧Limbs w' v' (z.natAbs:Int)∧Ext w w':=by
 rcases h with ⟨h1,h2,rfl⟩ | ⟨neg,b,o,cap,xs,rfl,h1,h2,h3,h4,h5,h6,rfl⟩
 ·by_cases hn:z<0
  ·obtain ⟨u,rfl⟩:∃ u,z = -u:=⟨-z,by omega⟩;have u1:0<u:=by omega
   have u2:u<1000000000000000000:=by omega
   have e1:((-u).natAbs:Int)=u:=by omega
   rw [e1];clear h1 h2 hn e1;by_cases hb:u<1000000000
   ·go_enter Tryz.func152,Tryz.ntmps152
    go_wp2
    go_ret;exact ⟨_,rfl,Limbs.one (by simp) u1 hb,xa (x1 _ _) _⟩
   ·go_enter Tryz.func152,Tryz.ntmps152
    go_wp2
    go_ret;exact ⟨_,rfl,Limbs.two (by simp) (by omega) u2,xa (x1 _ _) _⟩
  ·have e1:(z.natAbs:Int)=z:=by omega
   rw [e1];have u1:0≤z:=by omega
   clear h1 hn e1;by_cases hz:z=0
   ·subst hz;go_enter Tryz.func152,Tryz.ntmps152
    go_wp2
    go_ret;exact ⟨_,rfl,Limbs.nil _,x1 _ _⟩
   ·by_cases hb:z<1000000000
    ·go_enter Tryz.func152,Tryz.ntmps152
     go_wp2
     go_ret;exact ⟨_,rfl,Limbs.one (by simp) (by omega) hb,xa (x1 _ _) _⟩
    ·go_enter Tryz.func152,Tryz.ntmps152
     go_wp2
     go_ret;exact ⟨_,rfl,Limbs.two (by simp) (by omega) h2,xa (x1 _ _) _⟩
 ·have h9:(0:Int)<(xs.length:Int):=by omega
  have e1:((sgn neg (lv xs)).natAbs:Int)=lv xs:=by
   have:=lv_nonneg h4;unfold sgn;cases neg <;> simp <;> omega
  rw [e1];have L:Hid (∀ w1,Ext w w1→Limbs w1 (.slice (some ⟨b,o,none⟩) xs.length cap) (lv xs)):=fun w1 hx=>⟨xs,⟨_,cap,rfl,h1,h2,.inr ⟨b,o,rfl,h3.later hx⟩⟩,h4,h6,rfl⟩;clear h4 h6 h3 e1;go_enter Tryz.func152,Tryz.ntmps152
  go_wp2
  go_ret;exact ⟨_,rfl,L.out _ (x1 _ _),x1 _ _⟩
theorem xdrewN {a b:World} (h:Ext a b) (n:Nat):Ext a (b.drewN n):=⟨h.os,h.tape,h.output,h.size,h.block⟩
set_option maxHeartbeats 2000000 in
theorem cmpD_any {va vb:Value} {xs ys:List Int} (w:World) (ha:Row w va xs) (hb:Row w vb ys) (lx:Lim xs) (ly:Lim ys) (tx:Top xs) (ty:Top ys) :
  Calls Tryz.prog 174 #[va,vb] w fun e w'=>e=.returned (.int .i64 (cmpI (lv xs) (lv ys)))∧Ext w w':=by
 obtain ⟨px,cx,rfl,cx1,cx2,cx3⟩:=ha;obtain ⟨py,cy,rfl,cy1,cy2,cy3⟩:=hb;by_cases hl:xs.length<ys.length
 ·have H:=cmpI_lt (lv_len lx ly (ty.resolve_left (by omega)) hl);have h1:(((xs.length:Int) != (ys.length:Int)))=true:=by rw [bne_iff_ne];omega
  have h2:(xs.length:Int)<(ys.length:Int):=by omega
  rw [H];clear cx3 cy3 lx ly tx ty H;go_enter Tryz.func174,Tryz.ntmps174
  go_wp2
  go_ret;exact ⟨rfl,xr _⟩
 ·by_cases hg:ys.length<xs.length
  ·have H:=cmpI_gt (lv_len ly lx (tx.resolve_left (by omega)) hg);have h1:(((xs.length:Int) != (ys.length:Int)))=true:=by rw [bne_iff_ne];omega
   have h2:¬ (xs.length:Int)<(ys.length:Int):=by omega
   rw [H];clear cx3 cy3 lx ly tx ty H;go_enter Tryz.func174,Tryz.ntmps174
   go_wp2
   go_ret;exact ⟨rfl,xr _⟩
  ·have he:ys.length=xs.length:=by omega
   have h1:(((xs.length:Int) != (xs.length:Int)))=false:=by simp
   rw [he] at cy1 ⊢;have HE:=hid he;clear hl hg he tx ty;go_enter Tryz.func174,Tryz.ntmps174;go_wp2_with fail;go_loopw [5] (fun i wr=>∃ m:Nat,m≤xs.length∧i=.int .i64 ((m:Int) - 1)∧xs.drop m=ys.drop m∧Ext w wr) (fun i _=>(intOf i+1).toNat)
   case atStart=>exact ⟨xs.length,Nat.le_refl _,rfl,by rw [List.drop_eq_nil_of_le (Nat.le_refl _),List.drop_eq_nil_of_le (by rw [HE.out];exact Nat.le_refl _)],xr _⟩
   case round =>
    obtain ⟨m,hm,rfl,hd,X⟩:=hrel;by_cases h0:m=0
    ·subst h0;have H:Hid (cmpI (lv xs) (lv ys)=0):=by
      simp only [List.drop_zero] at hd;rw [hd];exact cmpI_eq _
     clear cx3 cy3 hd
     go_wp2
     go_ret;exact ⟨ret_int H.out.symm,X⟩
    ·obtain ⟨j,rfl⟩:∃ j,m=j+1:=⟨m - 1,by omega⟩;have hj:j<xs.length:=(by omega);obtain ⟨bx,ox,rfl,kx⟩:∃ b o,px=some ⟨b,o,none⟩∧C32 w b o xs:=by
      rcases cx3 with ⟨_,h⟩ | h
      ·omega
      ·exact h
     obtain ⟨by1,oy,rfl,ky⟩:∃ b o,py=some ⟨b,o,none⟩∧C32 w b o ys:=by
      rcases cy3 with ⟨_,h⟩ | h
      ·omega
      ·exact h
     have fx:=(kx.later X) j hj;have fy:=(ky.later X) j (by rw [HE.out];exact hj);have HT:Hid (xs.getD j 0<ys.getD j 0→lv xs<lv ys):=fun h=>lv_top lx ly hj (by rw [HE.out];exact hj) hd h;have HG:Hid (ys.getD j 0<xs.getD j 0→lv ys<lv xs):=fun h=>lv_top ly lx (by rw [HE.out];exact hj) hj hd.symm h;have HS:Hid (xs.getD j 0=ys.getD j 0→xs.drop j=ys.drop j):=fun h=>drop_step hj (by rw [HE.out];exact hj) hd h;obtain ⟨x,ex⟩:∃ x,xs.getD j 0=x:=⟨_,rfl⟩;obtain ⟨y,ey⟩:∃ y,ys.getD j 0=y:=⟨_,rfl⟩;rw [ex] at fx HT HG HS;rw [ey] at fy HT HG HS;have ej:(((j+1:Nat):Int) - 1)=(j:Int):=(by omega);rw [ej];have hj':(j:Int)<(xs.length:Int):=(by omega);clear cx3 cy3 kx ky hd lx ly ex ey ej h0;by_cases hxy:x<y
     ·have H:Hid (cmpI (lv xs) (lv ys) = -1):=cmpI_lt (HT.out hxy);go_wp2_with fail;go_quiet (fail)
      go_wp2
      go_ret;exact ⟨ret_int H.out.symm,xdrewN X _⟩
     ·by_cases hyx:y<x
      ·have H:Hid (cmpI (lv xs) (lv ys)=1):=cmpI_gt (HG.out hyx);go_wp2_with fail;go_quiet (fail);go_wp2_with fail;go_quiet (fail)
       go_wp2
       go_ret;exact ⟨ret_int H.out.symm,xdrewN (xdrewN X _) _⟩
      ·have H:Hid (xs.drop j=ys.drop j):=HS.out (by omega);go_wp2_with fail;go_quiet (fail);go_wp2_with fail;go_quiet (fail)
       go_wp2
       go_roundw
       case rel=>exact ⟨j,by omega,by go_num,H.out,xdrewN X _⟩
       case measure=>simp [intOf]
set_option maxRecDepth 4000 in
set_option maxHeartbeats 1000000 in
theorem div64_zero (lo y:Nat) (w:World) (y0:0<y) (y1:y<18446744073709551616) (l1:lo<18446744073709551616) :
  Calls Tryz.prog 221 #[.int .u64 0,.int .u64 lo,.int .u64 y] w fun e w'=>e=.returned (.tuple #[.int .u64 ((lo:Int) / y),.int .u64 ((lo:Int) % y)])∧Ext w w':=by
 have hy0:(((y:Int) == 0))=false:=by rw [beq_eq_false_iff_ne];omega
 have hy1:¬ (y:Int)≤0:=by omega
 have hy2:(0:Int)<(y:Int):=by omega
 have hw:IntKind.u64.wrap ((lo:Int) / (y:Int))=(lo:Int) / (y:Int):=by
  rw [IntKind.wrap_u64];have:=Int.ediv_nonneg (show (0:Int)≤(lo:Int) by omega) (show (0:Int)≤(y:Int) by omega);have:=Int.ediv_le_self (y:Int) (show (0:Int)≤(lo:Int) by omega);omega
 go_enter Tryz.func221,Tryz.ntmps221;go_wp2_with fail;go_quiet (fail)
 go_wp2
 go_ret2
 exact ⟨rfl,xdrewN (xr _) _⟩
theorem div64_any (hi lo y:Nat) (w:World) (h1:hi<y) (y1:y<18446744073709551616) (l1:lo<18446744073709551616) :
  Calls Tryz.prog 221 #[.int .u64 hi,.int .u64 lo,.int .u64 y] w fun e w'=>∃ q r:Nat,e=.returned (.tuple #[.int .u64 q,.int .u64 r])∧q * y+r=hi * 18446744073709551616+lo∧r<y∧q<18446744073709551616∧Ext w w':=by
 have key:(hi * 18446744073709551616+lo) / y * y+(hi * 18446744073709551616+lo) % y=hi * 18446744073709551616+lo:=Nat.div_add_mod' _ _;have kr:(hi * 18446744073709551616+lo) % y<y:=Nat.mod_lt _ (by omega);have kq:(hi * 18446744073709551616+lo) / y<18446744073709551616:=by
  refine Nat.div_lt_of_lt_mul ?_;have:(hi+1) * 18446744073709551616≤y * 18446744073709551616:=Nat.mul_le_mul_right _ h1;omega
 by_cases h0:hi=0
 ·subst h0;refine (div64_zero lo y w (by omega) y1 l1).mono ?_;rintro e w' ⟨rfl,hx⟩;refine ⟨lo / y,lo % y,by rw [Int.natCast_ediv,Int.natCast_emod],?_,Nat.mod_lt _ (by omega),?_,hx⟩
  ·have:=Nat.div_add_mod' lo y;omega
  ·exact Nat.lt_of_le_of_lt (Nat.div_le_self _ _) l1
 ·refine (div64_go hi lo y w (by omega) h1 y1 l1).mono ?_;rintro e w' ⟨q,r,rfl,rfl,rfl,rfl⟩;refine ⟨_,_,?_,key,kr,kq,xr _⟩;rw [Int.natCast_ediv,Int.natCast_emod];rfl
theorem over_lin {A B C q r l a:Nat} (e:A+l=a) (h:A=B+C) (k:q+r=C+l):a=r+(B+q):=by omega
theorem over_fit {h l n H R q r a:Nat} (e:h * 18446744073709551616+l=a) (e1:n * H+R=h) (e2:q * n+r=R * 18446744073709551616+l) (hr:r<n):H * 18446744073709551616+q=a / n∧r=a % n:=by
 have e3:a=r+n * (H * 18446744073709551616+q):=by
  rw [Nat.mul_add,← Nat.mul_assoc,Nat.mul_comm n q];exact over_lin e (by rw [← e1,Nat.add_mul]) e2
 constructor
 ·rw [e3,Nat.add_mul_div_left _ _ (by omega),Nat.div_eq_of_lt hr,Nat.zero_add]
 ·rw [e3,Nat.add_mul_mod_self_left,Nat.mod_eq_of_lt hr]
set_option maxRecDepth 4000 in
set_option maxHeartbeats 1000000 in
theorem over_any {v:Value} {a:Nat} (n:Nat) (w:World) (hv:WV v a) (n0:0<n) (n1:n<18446744073709551616) :
  Calls Tryz.prog 194 #[v,.int .u64 n] w fun e w'=>∃ v',e=.returned (.tuple #[v',.int .u64 ((a % n:Nat):Int)])∧WV v' (a / n)∧Ext w w':=by
 obtain ⟨h,l,rfl,h1,h2,e1⟩:=hv;have DV:Hid (∀ w,Calls Tryz.prog 221 #[.int .u64 ((h:Int) % (n:Int)),.int .u64 l,.int .u64 n] w fun e w'=>∃ q:Nat,e=.returned (.tuple #[.int .u64 q,.int .u64 ((a % n:Nat):Int)])∧WV (.agg #[.int .u64 ((h:Int) / (n:Int)),.int .u64 q]) (a / n)∧Ext w w'):=fun w=>by
  rw [← Int.natCast_emod,← Int.natCast_ediv];refine (div64_any (h % n) l n w (Nat.mod_lt _ n0) n1 h2).mono ?_;rintro e w' ⟨q,r,rfl,hq,hr,hq1,hx⟩;obtain ⟨f1,f2⟩:=over_fit e1 (Nat.div_add_mod h n) hq hr;subst f2;exact ⟨q,rfl,⟨h / n,q,rfl,Nat.lt_of_le_of_lt (Nat.div_le_self _ _) h1,hq1,f1⟩,hx⟩
 have hn0:(0:Int)<(n:Int):=by omega
 have hw:IntKind.u64.wrap ((h:Int) / (n:Int))=(h:Int) / (n:Int):=by
  rw [IntKind.wrap_u64];have:=Int.ediv_nonneg (show (0:Int)≤(h:Int) by omega) (show (0:Int)≤(n:Int) by omega);have:=Int.ediv_le_self (n:Int) (show (0:Int)≤(h:Int) by omega);omega
 have B:=(Box2.made w (.int .u64 h) (.int .u64 l) 156).later (x1 _ (.cells #[.int .u64 0,.int .u64 0] 156));have Br:=Box2.made (w.alloc (.cells #[.int .u64 h,.int .u64 l] 156)) (.int .u64 0) (.int .u64 0) 156;simp only [World.size_alloc] at Br;clear e1;go_enter Tryz.func194,Tryz.ntmps194;go_wp2_with fail;go_quiet (fail);go_wp2_with fail;refine (DV.out _).mono ?_;rintro e w1 ⟨q,rfl,hW,e2⟩;have HW:=hid hW;clear hW;have X:=xt (xdrewN (xr _) _) e2;obtain ⟨⟨r0,r1⟩,s0,s1⟩:=Br.later X
 go_wp2
 exact bodyPost_ret (v:=.tuple #[.agg #[.int .u64 ((h:Int) / (n:Int)),.int .u64 q],.int .u64 ((a % n:Nat):Int)]) (by simp [results,Tryz.results194,go_sem,r0,r1]) rfl ⟨_,rfl,HW.out,xset (xset (xt (xa (x1 _ _) _) X) (Nat.le_succ _) _) (Nat.le_succ _) _⟩
theorem Box2.far {w:World} {b:Nat} {v0 v1:Value} (h:Box2 w b v0 v1) {p:Addr} (hp:p.block ≠ b) (u:Value):Box2 (w.setCell p u) b v0 v1:=by
 obtain ⟨⟨h0,h1⟩,h2,h3⟩:=h;refine ⟨⟨?_,?_⟩,by rw [World.frozen?_setCell];exact h2,by rw [World.frozen?_setCell];exact h3⟩
 ·rw [World.cell?_setCell_other _ _ _ _ (fun e=>hp (congrArg Addr.block e))];exact h0
 ·rw [World.cell?_setCell_other _ _ _ _ (fun e=>hp (congrArg Addr.block e))];exact h1
theorem Box2.put {w:World} {b:Nat} {v0 v1:Value} (h:Box2 w b v0 v1) (u0 u1:Value):Box2 ((w.setCell ⟨b,0,none⟩ u0).setCell ⟨b,1,none⟩ u1) b u0 u1:=by
 obtain ⟨⟨h0,h1⟩,h2,h3⟩:=h;have ne:(⟨b,1,none⟩:Addr) ≠ ⟨b,0,none⟩:=fun e=>by have:=congrArg Addr.off e;simp at this
 have k1:(w.setCell ⟨b,0,none⟩ u0).cell? ⟨b,1,none⟩=some v1:=by rw [World.cell?_setCell_other _ _ _ _ ne.symm];exact h1
 refine ⟨⟨?_,World.cell?_setCell_same _ _ _ k1⟩,by rw [World.frozen?_setCell,World.frozen?_setCell];exact h2,by rw [World.frozen?_setCell,World.frozen?_setCell];exact h3⟩;rw [World.cell?_setCell_other _ _ _ _ ne];exact World.cell?_setCell_same _ _ _ h0
theorem low_step (P i j:Nat):P / 10 ^ i / 10 ^ j=P / 10 ^ (i+j)∧(decide (P % 10 ^ (i+j) ≠ 0)=(decide (P % 10 ^ i ≠ 0) || decide (P / 10 ^ i % 10 ^ j ≠ 0))):=by
 refine ⟨div_pow P i j,?_⟩;rw [Bool.eq_iff_iff];simp only [Bool.or_eq_true,decide_eq_true_eq];exact mod_pow_zero P i j
theorem low_zero {P i:Nat} (n:Nat) (h:P / 10 ^ i=0) (hi:i≤n):P / 10 ^ n=0∧decide (P % 10 ^ n ≠ 0)=decide (P % 10 ^ i ≠ 0):=by
 obtain ⟨j,rfl⟩:∃ j,n=i+j:=⟨n - i,by omega⟩;obtain ⟨h1,h2⟩:=low_step P i j;rw [← h1,h2,h];simp
set_option maxRecDepth 4000 in
set_option maxHeartbeats 2000000 in
theorem lowered_any {v:Value} {a:Nat} (n:Nat) (w:World) (hv:WV v a) (hn:n≤100000) (hT:Tens w) :
  Calls Tryz.prog 193 #[v,.int .i64 n] w fun e w'=>∃ v',e=.returned (.tuple #[v',.bool (decide (a % 10 ^ n ≠ 0))])∧WV v' (a / 10 ^ n)∧Ext w w':=by
 obtain ⟨h,l,rfl,h1,h2,e1⟩:=hv;have HE1:=hid e1;have B:=(Box2.made w (.int .u64 h) (.int .u64 l) 156).later (x1 _ (.cells #[.int .u64 0,.int .u64 0] 156));have Br:=Box2.made (w.alloc (.cells #[.int .u64 h,.int .u64 l] 156)) (.int .u64 0) (.int .u64 0) 156;simp only [World.size_alloc] at Br;have T:=hT.later (xa (x1 w (.cells #[.int .u64 h,.int .u64 l] 156)) (.cells #[.int .u64 0,.int .u64 0] 156));clear e1 T;go_enter Tryz.func193,Tryz.ntmps193;go_wp2_with fail;go_loopw [1,6] (fun x m wr=>∃ (k i:Nat) (h l:Nat),k+i=n∧x=.int .i64 k∧m=.bool (decide (a % 10 ^ i ≠ 0))∧Box2 wr w.heap.size (.int .u64 h) (.int .u64 l)∧Box2 wr (w.heap.size+1) (.int .u64 0) (.int .u64 0)∧h<18446744073709551616∧l<18446744073709551616∧h * 18446744073709551616+l=a / 10 ^ i∧Ext w wr) (fun x _ _=>(intOf x).toNat)
 case atStart=>exact ⟨n,0,h,l,rfl,rfl,by simp [Nat.mod_one],B,Br,h1,h2,by rw [Nat.pow_zero,Nat.div_one];exact HE1.out,xa (x1 _ _) _⟩
 case round =>
  clear B Br HE1 h1 h2;obtain ⟨k,i,h,l,hk,rfl,rfl,B,Br,h1,h2,e1,X⟩:=hrel;have B':=B;have Br':=Br;obtain ⟨⟨p0,p1⟩,f0,f1⟩:=B';obtain ⟨⟨r0,r1⟩,s0,s1⟩:=Br';obtain ⟨m,hm⟩:∃ m:Bool,decide (a % 10 ^ i ≠ 0)=m:=⟨_,rfl⟩;rw [hm];have HM:=hid hm;have E1:Hid _:=e1;have WVh:Hid (WV (.agg #[.int .u64 h,.int .u64 l]) (a / 10 ^ i)):=⟨h,l,rfl,h1,h2,e1⟩;clear hm e1;have K0:k=0∨0<k:=by omega
  rcases K0 with rfl | k0
  ·obtain rfl:i=n:=by omega
   go_wp2_with fail;exact bodyPost_ret (v:=.tuple #[.agg #[.int .u64 h,.int .u64 l],.bool m]) (by simp [results,Tryz.results193,go_sem,r0,r1]) rfl ⟨_,by rw [HM.out],WVh.out,xset (xset X (Nat.le_succ _) _) (Nat.le_succ _) _⟩
  ·by_cases hz:h=0∧l=0
   ·obtain ⟨rfl,rfl⟩:=hz;have H0:Hid (a / 10 ^ n=0∧decide (a % 10 ^ n ≠ 0)=m):=by
     have e2:a / 10 ^ i=0:=(by rw [← E1.out]);have:=low_zero n e2 (by omega);rw [HM.out] at this;exact this
    have WV0:Hid (WV (.agg #[.int .u64 ((0:Nat):Int),.int .u64 ((0:Nat):Int)]) (a / 10 ^ n)):=(by rw [H0.out.1];exact ⟨0,0,rfl,by decide,by decide,rfl⟩);go_wp2_with fail;exact bodyPost_ret (v:=.tuple #[.agg #[.int .u64 ((0:Nat):Int),.int .u64 ((0:Nat):Int)],.bool m]) (by simp [results,Tryz.results193,go_sem,r0,r1]) rfl ⟨_,by rw [H0.out.2],WV0.out,xset (xset X (Nat.le_succ _) _) (Nat.le_succ _) _⟩
   ·have kk:(0:Int)<(k:Int):=(by omega);go_upto_region 2 with fail;go_cut [16] (fun v wc=>v=.bool true∧wc=wr)
    case first =>
     by_cases hh:h=0
     ·subst hh;have hl:¬ l=0:=fun e=>hz ⟨rfl,e⟩;clear hz;go_wp2_with fail;go_meet
      case rel=>exact ⟨rfl,rfl⟩
     ·clear hz;go_wp2_with fail;go_meet
      case rel=>exact ⟨rfl,rfl⟩
    case rest =>
     obtain ⟨rfl,hwc⟩:=hcut;rw [hwc];clear hwc;clear hz;go_upto_region 3 with fail;go_cut [7] (fun v wd=>∃ st:Nat,v=.int .i64 st∧1≤st∧st≤19∧st≤k∧wd=wr)
     case first =>
      by_cases h19:(k:Int)≤19
      ·go_wp2_with fail;go_meet
       case rel=>exact ⟨k,by rw [Int.min_eq_left (by omega)],by omega,by omega,by omega,rfl⟩
      ·go_wp2_with fail;go_meet
       case rel=>exact ⟨19,by rw [Int.min_eq_right (by omega)];rfl,by omega,by omega,by omega,rfl⟩
     case rest =>
      obtain ⟨st,rfl,st0,st1,st2,hwd⟩:=hcut;rw [hwd];clear hwd;obtain ⟨t,et,t1,ct⟩:=(hT.later X).at (i:=st) (by omega);have st3:(st:Int)<20:=(by omega);have t0:0<t:=(by rw [← et];exact ten_pow_pos st);have ne0:=World.new_ne wr _ p0;have ne1:=World.new_ne wr _ p1;have ne2:=World.new_ne wr _ ct;have CT:∀ {w2:World},Ext wr w2→w2.cell? ⟨1,st,none⟩=some (.int .u64 t):=fun x=>cell_later x ct;have hwk:IntKind.i64.wrap ((k:Int) - (st:Int))=(k:Int) - (st:Int):=(by rw [IntKind.wrap_i64];omega);have OV:Hid (∀ w,Calls Tryz.prog 194 #[.agg #[.int .u64 h,.int .u64 l],.int .u64 t] w fun e w'=>∃ h' l' r:Nat,e=.returned (.tuple #[.agg #[.int .u64 h',.int .u64 l'],.int .u64 r])∧h'<18446744073709551616∧l'<18446744073709551616∧Hid (h' * 18446744073709551616+l'=a / 10 ^ (i+st)∧decide (a % 10 ^ (i+st) ≠ 0)=(m || decide (r ≠ 0)))∧Ext w w'):=fun w=>by
       refine (over_any t w WVh.out t0 t1).mono ?_;rintro e w' ⟨v',rfl,⟨h',l',rfl,k1,k2,k3⟩,hx⟩;obtain ⟨g1,g2⟩:=low_step a i st;refine ⟨h',l',a / 10 ^ i % t,rfl,k1,k2,⟨?_,?_⟩,hx⟩
       ·rw [k3,← et,g1]
       ·rw [g2,HM.out,et]
      go_upto_region 4 with fail;go_cut [8,9] (fun v x we=>∃ b h' l' r:Nat,v=.pointer (some ⟨b,0,none⟩)∧x=.int .u64 r∧wr.heap.size≤b∧Box2 we b (.int .u64 h') (.int .u64 l')∧h'<18446744073709551616∧l'<18446744073709551616∧Hid (h' * 18446744073709551616+l'=a / 10 ^ (i+st)∧decide (a % 10 ^ (i+st) ≠ 0)=(m || decide (r ≠ 0)))∧Ext wr we)
      case first =>
       go_region_held3 (fun w'=>w'.cell? ⟨w.heap.size,0,none⟩=some (.int .u64 h)∧w'.cell? ⟨w.heap.size,1,none⟩=some (.int .u64 l)∧w'.cell? ⟨1,st,none⟩=some (.int .u64 t)) (go_keep) (first
        | (go_at_call 194;refine (OV.out _).mono ?_;rintro e w2 ⟨h',l',r,rfl,k1,k2,K3,e2⟩;have X2:Ext wr w2:=xt (by first | exact xd (xr _) | exact xa (xd (xr _)) _ | exact xd (xa (xr _) _) | exact xa (xr _) _ | exact xr _) e2;obtain ⟨⟨q0,q1⟩,_⟩:=B.later X2;have q3:=CT X2;(first | (have RB:Box2 w2 wr.heap.size (.int .u64 0) (.int .u64 0):=(by exact (Box2.made wr (.int .u64 0) (.int .u64 0) 156).later (xt (xd (xr _)) e2));obtain ⟨⟨z0,z1⟩,y0,y1⟩:=RB) | skip)))
       ·go_wp2_with fail;go_meet
        case rel=>exact ⟨_,h',l',r,rfl,rfl,X2.size,Box2.made w2 _ _ _,k1,k2,K3,xa X2 _⟩
       ·go_wp2_with fail;go_meet
        case rel =>
         refine ⟨_,h',l',r,rfl,rfl,Nat.le_refl _,?_,k1,k2,K3,xset (xset X2 (Nat.le_refl _) _) (Nat.le_refl _) _⟩;refine ⟨⟨?_,?_⟩,?_,?_⟩ <;> simp [go_sem,z0,z1,y0,y1]
      case rest =>
       obtain ⟨b,h',l',r,rfl,rfl,hb,Bn,k1,k2,K3,X3⟩:=hcut
       rename World=>wz
       obtain ⟨⟨b0,b1⟩,_⟩:=Bn;have B3:=B.later X3;have Br3:=Br.later X3;have B3':=B3;obtain ⟨⟨g0,g1⟩,j0,j1⟩:=B3';have NB:Hid (Box2 ((wz.setCell ⟨w.heap.size,0,none⟩ (.int .u64 h')).setCell ⟨w.heap.size,1,none⟩ (.int .u64 l')) w.heap.size (.int .u64 h') (.int .u64 l')∧Box2 ((wz.setCell ⟨w.heap.size,0,none⟩ (.int .u64 h')).setCell ⟨w.heap.size,1,none⟩ (.int .u64 l')) (w.heap.size+1) (.int .u64 0) (.int .u64 0)):=
        ⟨B3.put _ _,(Br3.far (p:=⟨w.heap.size,0,none⟩) (show w.heap.size ≠ w.heap.size+1 by omega) _).far (p:=⟨w.heap.size,1,none⟩) (show w.heap.size ≠ w.heap.size+1 by omega) _⟩
       have ek:((k:Int) - (st:Int))=((k - st:Nat):Int):=(by omega);have EK:Hid _:=ek;clear ek B Br B3 Br3 p0 p1 f0 f1 r0 r1 s0 s1 ct CT ne0 ne1 ne2 OV et;cases m
       ·by_cases hr:r=0
        ·subst hr;have HD:Hid (decide (a % 10 ^ (i+st) ≠ 0)=false):=K3.out.2.trans (by simp);go_wp2_with fail;go_roundw
         case rel=>exact ⟨k - st,i+st,h',l',by omega,by rw [← EK.out],by rw [HD.out],NB.out.1,NB.out.2,k1,k2,K3.out.1,xset (xset (xt X X3) (Nat.le_refl _) _) (Nat.le_refl _) _⟩
         case measure=>simp [intOf];omega
        ·have hr':(((r:Int)) != 0)=true:=(by rw [bne_iff_ne];omega);have HD:Hid (decide (a % 10 ^ (i+st) ≠ 0)=true):=K3.out.2.trans (by simp [hr]);go_wp2_with fail;go_roundw
         case rel=>exact ⟨k - st,i+st,h',l',by omega,by rw [← EK.out],by rw [HD.out],NB.out.1,NB.out.2,k1,k2,K3.out.1,xset (xset (xt X X3) (Nat.le_refl _) _) (Nat.le_refl _) _⟩
         case measure=>simp [intOf];omega
       ·have HD:Hid (decide (a % 10 ^ (i+st) ≠ 0)=true):=K3.out.2.trans (by simp);go_wp2_with fail;go_roundw
        case rel=>exact ⟨k - st,i+st,h',l',by omega,by rw [← EK.out],by rw [HD.out],NB.out.1,NB.out.2,k1,k2,K3.out.1,xset (xset (xt X X3) (Nat.le_refl _) _) (Nat.le_refl _) _⟩
        case measure=>simp [intOf];omega
end Go.Proofs.YtjlojlgdkfpcdaaGreatDoor

