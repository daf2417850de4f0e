/-
  The plain mathematics of a quotient by two words: one half of it, and the whole. No program here.
-/
import Derived.Test.YtjlojlgdkfpcdaaGreatDoorMg5
namespace Go.Proofs.YtjlojlgdkfpcdaaGreatDoor
def HalfAt (a b u n q r:Int):Prop:=
 q * a+r=u∧(∀ t,0≤t→t * (a * 4294967296+b)≤u * 4294967296+n→t≤q)∧0≤q∧q≤4294967297∧0≤r∧r<4294967296
def HalfDone (a b u n q:Int):Prop:=q=(u * 4294967296+n) / (a * 4294967296+b)∧0≤q∧q<4294967296
def HalfIn (a b u n:Int):Prop:=2147483648≤a∧a<4294967296∧0≤b∧b<4294967296∧0≤u∧u<a * 4294967296+b∧0≤n∧n<4294967296
theorem HalfAt.start {a b u n:Int} (h:HalfIn a b u n):HalfAt a b u n (u / a) (u % a):=by
 obtain ⟨a0,a1,b0,b1,u0,u1,n0,n1⟩:=h;have hq:0≤u / a:=Int.ediv_nonneg u0 (by omega);refine ⟨by rw [Int.mul_comm];exact Int.mul_ediv_add_emod u a,?_,hq,?_,Int.emod_nonneg _ (by omega),Int.lt_trans (Int.emod_lt_of_pos _ (by omega)) a1⟩
 ·intro t t0 ht;refine (Int.le_ediv_iff_mul_le (by omega)).2 ?_;have h1:t * (a * 4294967296+b)=t * a * 4294967296+t * b:=by rw [Int.mul_add,Int.mul_assoc]
  have h2:0≤t * b:=Int.mul_nonneg t0 b0;generalize t * a=p at *;omega
 ·have h3:u / a<4294967298:=by
   refine (Int.ediv_lt_iff_lt_mul (by omega)).2 ?_;omega
  omega
theorem HalfAt.pos {a b u n q r:Int} (h:HalfAt a b u n q r) (hi:HalfIn a b u n) (hc:4294967296≤q∨r * 4294967296+n<q * b):1≤q:=by
 obtain ⟨h1,h2,h3,h4,h5,h6⟩:=h;by_cases e:q=0
 ·subst e;have:=hi.2.2.2.2.2.2.1;simp at hc;omega
 ·omega
theorem half_top {a b u n t:Int} (hi:HalfIn a b u n) (ht:t * (a * 4294967296+b)≤u * 4294967296+n):t<4294967296:=by
 obtain ⟨a0,a1,b0,b1,u0,u1,n0,n1⟩:=hi;by_cases e:t<4294967296
 ·exact e
 ·have h1:4294967296 * (a * 4294967296+b)≤t * (a * 4294967296+b):=Int.mul_le_mul_of_nonneg_right (by omega) (by omega);generalize t * (a * 4294967296+b)=p at *;omega
theorem HalfAt.less {a b u n q r:Int} (h:HalfAt a b u n q r) (hi:HalfIn a b u n) (hc:4294967296≤q∨r * 4294967296+n<q * b):(q - 1) * a+(r+a)=u∧∀ t,0≤t→t * (a * 4294967296+b)≤u * 4294967296+n→t≤q - 1:=by
 obtain ⟨h1,h2,h3,h4,h5,h6⟩:=h;refine ⟨by rw [Int.sub_mul];omega,?_⟩;intro t t0 ht;have:=h2 t t0 ht;by_cases e:t=q
 ·subst e;exfalso
  rcases hc with hc | hc
  ·have:=half_top hi ht;omega
  ·have e1:t * (a * 4294967296+b)=t * a * 4294967296+t * b:=by rw [Int.mul_add,Int.mul_assoc]
   generalize t * a=p at *;generalize t * b=s at *;omega
 ·omega
theorem half_done {a b u n q:Int} (hi:HalfIn a b u n) (q0:0≤q) (hub:∀ t,0≤t→t * (a * 4294967296+b)≤u * 4294967296+n→t≤q) (hle:q * (a * 4294967296+b)≤u * 4294967296+n):HalfDone a b u n q:=by
 refine ⟨?_,q0,half_top hi hle⟩;obtain ⟨a0,a1,b0,b1,u0,u1,n0,n1⟩:=hi;have hY:0<a * 4294967296+b:=by omega
 have h1:q≤(u * 4294967296+n) / (a * 4294967296+b):=(Int.le_ediv_iff_mul_le hY).2 hle;have h2:=hub ((u * 4294967296+n) / (a * 4294967296+b)) (by omega) (Int.ediv_mul_le _ (by omega));omega
theorem HalfAt.stop {a b u n q r:Int} (h:HalfAt a b u n q r) (hi:HalfIn a b u n) (hc:¬ (r * 4294967296+n<q * b)):HalfDone a b u n q:=by
 obtain ⟨h1,h2,h3,h4,h5,h6⟩:=h;refine half_done hi h3 h2 ?_;have e1:q * (a * 4294967296+b)=q * a * 4294967296+q * b:=by rw [Int.mul_add,Int.mul_assoc]
 generalize q * a=p at *;generalize q * b=s at *;omega
theorem HalfAt.next {a b u n q r:Int} (h:HalfAt a b u n q r) (hi:HalfIn a b u n) (hc:4294967296≤q∨r * 4294967296+n<q * b) (hr:r+a<4294967296):HalfAt a b u n (q - 1) (r+a):=by
 have hp:=h.pos hi hc;obtain ⟨l1,l2⟩:=h.less hi hc;have:=hi.1;have h3:=h.2.2.2;exact ⟨l1,l2,by omega,by omega,by omega,hr⟩
theorem HalfAt.last {a b u n q r:Int} (h:HalfAt a b u n q r) (hi:HalfIn a b u n) (hc:4294967296≤q∨r * 4294967296+n<q * b) (hr:4294967296≤r+a):HalfDone a b u n (q - 1):=by
 have hp:=h.pos hi hc;obtain ⟨l1,l2⟩:=h.less hi hc;refine half_done hi (by omega) l2 ?_;obtain ⟨a0,a1,b0,b1,u0,u1,n0,n1⟩:=hi;have h4:=h.2.2.2.1;have e1:(q - 1) * (a * 4294967296+b)=(q - 1) * a * 4294967296+(q - 1) * b:=by rw [Int.mul_add,Int.mul_assoc]
 have e2:(q - 1) * b≤4294967296 * b:=Int.mul_le_mul_of_nonneg_right (by omega) b0;generalize (q - 1) * a=p at *;generalize (q - 1) * b=s at *;omega
theorem HalfDone.rest {a b u n q:Int} (h:HalfDone a b u n q) (hi:HalfIn a b u n):0≤u * 4294967296+n - q * (a * 4294967296+b)∧u * 4294967296+n - q * (a * 4294967296+b)<a * 4294967296+b:=by
 obtain ⟨rfl,_,_⟩:=h;obtain ⟨a0,a1,b0,b1,u0,u1,n0,n1⟩:=hi;have hY:0<a * 4294967296+b:=by omega
 have e:=Int.mul_ediv_add_emod (u * 4294967296+n) (a * 4294967296+b);have:=Int.emod_nonneg (u * 4294967296+n) (b:=a * 4294967296+b) (by omega);have:=Int.emod_lt_of_pos (u * 4294967296+n) hY;rw [Int.mul_comm] at e;omega
theorem div_halves {V y S a b u n1 n0 q1 q0 u':Int} (hS:0<S) (hy:0<y) (hY:y * S=a * 4294967296+b) (hU:V * S=u * 18446744073709551616+n1 * 4294967296+n0)
  (hu':u'=u * 4294967296+n1 - q1 * (a * 4294967296+b)) (hi':HalfIn a b u' n0) (h2:HalfDone a b u' n0 q0) :
  q1 * 4294967296+q0=V / y∧(u' * 4294967296+n0 - q0 * (a * 4294967296+b)) / S=V % y:=by
 obtain ⟨r0,r1⟩:=h2.rest hi';obtain ⟨R,hR⟩:∃ R,u' * 4294967296+n0 - q0 * (a * 4294967296+b)=R:=⟨_,rfl⟩;rw [hR] at r0 r1 ⊢;rw [← hY] at hu' hR r1;have e1:V * S=(q1 * 4294967296+q0) * y * S+R:=by
  rw [hU,← hR,hu',Int.add_mul,Int.add_mul,Int.mul_assoc q0 y S,Int.mul_right_comm q1 4294967296 y,Int.mul_right_comm (q1 * y) 4294967296 S,Int.mul_assoc q1 y S];generalize q1 * (y * S)=p1;generalize q0 * (y * S)=p0;omega
 have e2:(V - (q1 * 4294967296+q0) * y) * S=R:=by rw [Int.sub_mul];omega
 obtain ⟨r,hr⟩:∃ r,V - (q1 * 4294967296+q0) * y=r:=⟨_,rfl⟩;rw [hr] at e2;have r2:0≤r:=by
  by_cases h:0≤r
  ·exact h
  ·have:r * S ≤ -1 * S:=Int.mul_le_mul_of_nonneg_right (by omega) (by omega);omega
 have r3:r<y:=(Int.mul_lt_mul_right hS).1 (by omega);have e3:V=r+y * (q1 * 4294967296+q0):=by rw [Int.mul_comm y];omega
 constructor
 ·rw [e3,Int.add_mul_ediv_left _ _ (by omega),Int.ediv_eq_zero_of_lt r2 r3];omega
 ·rw [e3,Int.add_mul_emod_self_left,Int.emod_eq_of_lt r2 r3,← e2,Int.mul_ediv_cancel _ (by omega)]
theorem div64_in {hi lo y n s:Nat} (hns:n+s=64) (hn:1≤n) (h1:hi<y) (yl:2 ^ (n - 1)≤y) (yu:y<2 ^ n) (l1:lo<18446744073709551616) :
  9223372036854775808≤y * 2 ^ s∧y * 2 ^ s<18446744073709551616∧hi * 2 ^ s<18446744073709551616∧(hi * 2 ^ s ||| lo / 2 ^ n)=hi * 2 ^ s+lo / 2 ^ n∧hi * 2 ^ s+lo / 2 ^ n<y * 2 ^ s ∧
   (hi * 18446744073709551616+lo) * 2 ^ s=(hi * 2 ^ s+lo / 2 ^ n) * 18446744073709551616+lo * 2 ^ s % 18446744073709551616:=by
 have e1:2 ^ n * 2 ^ s=18446744073709551616:=by rw [← Nat.pow_add,hns]
 have e2:2 ^ (n - 1) * 2 ^ s=9223372036854775808:=by rw [← Nat.pow_add,show n - 1+s=63 by omega]
 have hT:0<2 ^ s:=Nat.pow_pos (by decide);have hN:0<2 ^ n:=Nat.pow_pos (by decide);have a1:2 ^ (n - 1) * 2 ^ s≤y * 2 ^ s:=Nat.mul_le_mul_right _ yl;have a2:y * 2 ^ s<2 ^ n * 2 ^ s:=Nat.mul_lt_mul_of_pos_right yu hT;have a3:(hi+1) * 2 ^ s≤y * 2 ^ s:=Nat.mul_le_mul_right _ h1;rw [Nat.add_mul,Nat.one_mul] at a3;have a4:lo / 2 ^ n<2 ^ s:=Nat.div_lt_of_lt_mul (by rw [e1];exact l1);refine ⟨by omega,by omega,by omega,?_,by omega,?_⟩
 ·rw [Nat.mul_comm hi];exact (Nat.two_pow_add_eq_or_of_lt a4 hi).symm
 ·have a5:=Nat.div_add_mod lo (2 ^ n);have a6:=Nat.mod_lt lo hN;have a7:lo % 2 ^ n * 2 ^ s<2 ^ n * 2 ^ s:=Nat.mul_lt_mul_of_pos_right a6 hT;have a8:lo * 2 ^ s=lo / 2 ^ n * 18446744073709551616+lo % 2 ^ n * 2 ^ s:=by
   rw [← e1,← Nat.mul_assoc,← Nat.add_mul,Nat.mul_comm (lo / 2 ^ n)];rw [a5]
  have a9:lo * 2 ^ s % 18446744073709551616=lo % 2 ^ n * 2 ^ s:=by rw [a8];omega
  rw [a9,Nat.add_mul,a8,Nat.add_mul,Nat.mul_right_comm];omega
end Go.Proofs.YtjlojlgdkfpcdaaGreatDoor

