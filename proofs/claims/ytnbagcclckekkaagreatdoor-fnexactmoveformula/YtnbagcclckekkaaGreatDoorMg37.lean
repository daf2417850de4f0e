/-
  Several texts in one: Gs3, Gs4, Gs7.
-/
import Derived.Test.YtnbagcclckekkaaGreatDoorMg29
import Derived.Test.YtnbagcclckekkaaGreatDoorFt3
import Derived.Test.YtnbagcclckekkaaGreatDoorFt4
import Derived.Test.YtnbagcclckekkaaGreatDoorFt5
import Derived.Test.YtnbagcclckekkaaGreatDoorFt6
import Derived.Test.YtnbagcclckekkaaGreatDoorFt7
import Derived.Test.YtnbagcclckekkaaGreatDoorFt8
import Derived.Test.YtnbagcclckekkaaGreatDoorGs2
import Derived.Test.YtnbagcclckekkaaGreatDoorMg27
import Derived.Test.YtnbagcclckekkaaGreatDoorGs6
namespace Go.Proofs.YtnbagcclckekkaaGreatDoor
open Go.RowKit
set_option maxRecDepth 8000 in
set_option maxHeartbeats 2000000 in
theorem rightSx (k:Int) (t:List UInt8) (neg:Bool) (d:Int) (x:Int) (r:Int) (c:Int) (rf:Bool) (cf:Bool) (r2:Int) (c2:Int) (rf2:Bool) (cf2:Bool) (m:Int) (p:Option Addr) (kk cap:Nat) (many:Bool) (w:World) (h1:k ≠ 1) (h2:k ≠ 2) (h3:k ≠ 3) (h4:k ≠ 4) (h5:k ≠ 5) (h6:k ≠ 6) (h7:k ≠ 7) (h8:k ≠ 8) (h9:k ≠ 9) (h10:k ≠ 10) (h11:k ≠ 11) (h12:k ≠ 12) (h13:k ≠ 13) :
  Calls Tryz.prog 88 #[exV k t neg d x r c rf cf r2 c2 rf2 cf2 m (.slice p kk cap),.bool many] w fun e w'=>e=.returned (.bool false)∧Ext w w':=by
 have X1:=x1 w (.cells #[.int .i64 k,sV t,.bool neg,.int .i64 d,.int .i64 x,.int .i64 r,.int .i64 c,.bool rf,.bool cf,.int .i64 r2,.int .i64 c2,.bool rf2,.bool cf2,.int .i64 m,.slice p kk cap] 86);obtain ⟨wa,ha⟩:∃ wa,w.alloc (.cells #[.int .i64 k,sV t,.bool neg,.int .i64 d,.int .i64 x,.int .i64 r,.int .i64 c,.bool rf,.bool cf,.int .i64 r2,.int .i64 c2,.bool rf2,.bool cf2,.int .i64 m,.slice p kk cap] 86)=wa:=⟨_,rfl⟩;have VE:=vec_made w [.int .i64 k,sV t,.bool neg,.int .i64 d,.int .i64 x,.int .i64 r,.int .i64 c,.bool rf,.bool cf,.int .i64 r2,.int .i64 c2,.bool rf2,.bool cf2,.int .i64 m,.slice p kk cap] 86;change Vec (w.alloc (.cells #[.int .i64 k,sV t,.bool neg,.int .i64 d,.int .i64 x,.int .i64 r,.int .i64 c,.bool rf,.bool cf,.int .i64 r2,.int .i64 c2,.bool rf2,.bool cf2,.int .i64 m,.slice p kk cap] 86)) _ _ at VE;have X2:=x1 wa (.cells #[.int .i64 k,sV t,.bool neg,.int .i64 d,.int .i64 x,.int .i64 r,.int .i64 c,.bool rf,.bool cf,.int .i64 r2,.int .i64 c2,.bool rf2,.bool cf2,.int .i64 m] 59);obtain ⟨wb,hb⟩:∃ wb,wa.alloc (.cells #[.int .i64 k,sV t,.bool neg,.int .i64 d,.int .i64 x,.int .i64 r,.int .i64 c,.bool rf,.bool cf,.int .i64 r2,.int .i64 c2,.bool rf2,.bool cf2,.int .i64 m] 59)=wb:=⟨_,rfl⟩;have VN:=vec_made wa [.int .i64 k,sV t,.bool neg,.int .i64 d,.int .i64 x,.int .i64 r,.int .i64 c,.bool rf,.bool cf,.int .i64 r2,.int .i64 c2,.bool rf2,.bool cf2,.int .i64 m] 59;change Vec (wa.alloc (.cells #[.int .i64 k,sV t,.bool neg,.int .i64 d,.int .i64 x,.int .i64 r,.int .i64 c,.bool rf,.bool cf,.int .i64 r2,.int .i64 c2,.bool rf2,.bool cf2,.int .i64 m] 59)) _ _ at VN;have sa:wa.heap.size=w.heap.size+1:=by rw [← ha,World.size_alloc]
 rw [ha] at X1 VE;rw [hb] at X2 VN;rw [sa] at VN;have VE2:=VE.later X2;have X:=xt X1 X2;clear X1 X2;by_cases q:m=(kk:Int)
 ·have gMK:(m != (kk:Int))=false:=by simp [q]
  clear q;cases hBA:(zeroDN neg d x && zeroRN r c rf cf && zeroRN r2 c2 rf2 cf2)
  ·have a0:=(VE 0 _ rfl).1;have a1:=(VE 1 _ rfl).1;have a2:=(VE 2 _ rfl).1;have a3:=(VE 3 _ rfl).1;have a4:=(VE 4 _ rfl).1;have a5:=(VE 5 _ rfl).1;have a6:=(VE 6 _ rfl).1;have a7:=(VE 7 _ rfl).1;have a8:=(VE 8 _ rfl).1;have a9:=(VE 9 _ rfl).1;have a10:=(VE 10 _ rfl).1;have a11:=(VE 11 _ rfl).1;have a12:=(VE 12 _ rfl).1;have a13:=(VE 13 _ rfl).1;have a14:=(VE 14 _ rfl).1;have d14:=(VE2 14 _ rfl).1;have n0:=(VN 0 _ rfl).1;have n1:=(VN 1 _ rfl).1;have n2:=(VN 2 _ rfl).1;have n3:=(VN 3 _ rfl).1;have n4:=(VN 4 _ rfl).1;have n5:=(VN 5 _ rfl).1;have n6:=(VN 6 _ rfl).1;have n7:=(VN 7 _ rfl).1;have n8:=(VN 8 _ rfl).1;have n9:=(VN 9 _ rfl).1;have n10:=(VN 10 _ rfl).1;have n11:=(VN 11 _ rfl).1;have n12:=(VN 12 _ rfl).1;have n13:=(VN 13 _ rfl).1;go_enter Tryz.func88,Tryz.ntmps88;go_wp2_with fail;clear a0 a1 a2 a3 a4 a5 a6 a7 a8 a9 a10 a11 a12 a13 a14 d14;refine (bareS _ _ _ _ _ _ _ _ _ _ _ _ _ _ _).mono ?_;rintro e w1 ⟨rfl,e1⟩;have V1:=VN.later e1;have Y1:=xt X e1;clear n0 n1 n2 n3 n4 n5 n6 n7 n8 n9 n10 n11 n12 n13;rw [hBA];have b0:=(V1 0 _ rfl).1;have b1:=(V1 1 _ rfl).1;have b2:=(V1 2 _ rfl).1;have b3:=(V1 3 _ rfl).1;have b4:=(V1 4 _ rfl).1;have b5:=(V1 5 _ rfl).1;have b6:=(V1 6 _ rfl).1;have b7:=(V1 7 _ rfl).1;have b8:=(V1 8 _ rfl).1;have b9:=(V1 9 _ rfl).1;have b10:=(V1 10 _ rfl).1;have b11:=(V1 11 _ rfl).1;have b12:=(V1 12 _ rfl).1;have b13:=(V1 13 _ rfl).1;go_wp2_with fail;go_ret;exact ⟨rfl,Y1⟩
  ·have a0:=(VE 0 _ rfl).1;have a1:=(VE 1 _ rfl).1;have a2:=(VE 2 _ rfl).1;have a3:=(VE 3 _ rfl).1;have a4:=(VE 4 _ rfl).1;have a5:=(VE 5 _ rfl).1;have a6:=(VE 6 _ rfl).1;have a7:=(VE 7 _ rfl).1;have a8:=(VE 8 _ rfl).1;have a9:=(VE 9 _ rfl).1;have a10:=(VE 10 _ rfl).1;have a11:=(VE 11 _ rfl).1;have a12:=(VE 12 _ rfl).1;have a13:=(VE 13 _ rfl).1;have a14:=(VE 14 _ rfl).1;have d14:=(VE2 14 _ rfl).1;have n0:=(VN 0 _ rfl).1;have n1:=(VN 1 _ rfl).1;have n2:=(VN 2 _ rfl).1;have n3:=(VN 3 _ rfl).1;have n4:=(VN 4 _ rfl).1;have n5:=(VN 5 _ rfl).1;have n6:=(VN 6 _ rfl).1;have n7:=(VN 7 _ rfl).1;have n8:=(VN 8 _ rfl).1;have n9:=(VN 9 _ rfl).1;have n10:=(VN 10 _ rfl).1;have n11:=(VN 11 _ rfl).1;have n12:=(VN 12 _ rfl).1;have n13:=(VN 13 _ rfl).1;go_enter Tryz.func88,Tryz.ntmps88;go_wp2_with fail;clear a0 a1 a2 a3 a4 a5 a6 a7 a8 a9 a10 a11 a12 a13 a14 d14;refine (bareS _ _ _ _ _ _ _ _ _ _ _ _ _ _ _).mono ?_;rintro e w1 ⟨rfl,e1⟩;have V1:=VN.later e1;have Y1:=xt X e1;clear n0 n1 n2 n3 n4 n5 n6 n7 n8 n9 n10 n11 n12 n13;rw [hBA];have b0:=(V1 0 _ rfl).1;have b1:=(V1 1 _ rfl).1;have b2:=(V1 2 _ rfl).1;have b3:=(V1 3 _ rfl).1;have b4:=(V1 4 _ rfl).1;have b5:=(V1 5 _ rfl).1;have b6:=(V1 6 _ rfl).1;have b7:=(V1 7 _ rfl).1;have b8:=(V1 8 _ rfl).1;have b9:=(V1 9 _ rfl).1;have b10:=(V1 10 _ rfl).1;have b11:=(V1 11 _ rfl).1;have b12:=(V1 12 _ rfl).1;have b13:=(V1 13 _ rfl).1;go_wp2_with fail;go_ret;exact ⟨rfl,Y1⟩
 ·have gMK:(m != (kk:Int))=true:=by simp [q]
  clear q;have a0:=(VE 0 _ rfl).1;have a1:=(VE 1 _ rfl).1;have a2:=(VE 2 _ rfl).1;have a3:=(VE 3 _ rfl).1;have a4:=(VE 4 _ rfl).1;have a5:=(VE 5 _ rfl).1;have a6:=(VE 6 _ rfl).1;have a7:=(VE 7 _ rfl).1;have a8:=(VE 8 _ rfl).1;have a9:=(VE 9 _ rfl).1;have a10:=(VE 10 _ rfl).1;have a11:=(VE 11 _ rfl).1;have a12:=(VE 12 _ rfl).1;have a13:=(VE 13 _ rfl).1;have a14:=(VE 14 _ rfl).1;have d14:=(VE2 14 _ rfl).1;have n0:=(VN 0 _ rfl).1;have n1:=(VN 1 _ rfl).1;have n2:=(VN 2 _ rfl).1;have n3:=(VN 3 _ rfl).1;have n4:=(VN 4 _ rfl).1;have n5:=(VN 5 _ rfl).1;have n6:=(VN 6 _ rfl).1;have n7:=(VN 7 _ rfl).1;have n8:=(VN 8 _ rfl).1;have n9:=(VN 9 _ rfl).1;have n10:=(VN 10 _ rfl).1;have n11:=(VN 11 _ rfl).1;have n12:=(VN 12 _ rfl).1;have n13:=(VN 13 _ rfl).1;go_enter Tryz.func88,Tryz.ntmps88;go_wp2_with fail;clear a0 a1 a2 a3 a4 a5 a6 a7 a8 a9 a10 a11 a12 a13 a14 d14;go_ret;exact ⟨rfl,X⟩
theorem whole20:∀ r ∈ List.range 21,1≤r→whole (Lib.decDigits r)=(r:Int)∧numL (Lib.decDigits r)=(r:Int):=by decide +kernel
theorem side_same (t:List UInt8) (kk:Nat):side12 t kk=sidesB t (kk:Int):=by
 have hi:∀ i:Nat,Lib.itoa (i:Int)=Lib.decDigits i:=fun i=>by unfold Lib.itoa;rw [if_neg (by omega)];simp
 have key:∀ r:Nat,1≤r→r≤20→t=Lib.decDigits r→side12 t kk=sidesB t (kk:Int):=fun r h1 h2 ht=>by
  obtain ⟨w1,w2⟩:=whole20 r (List.mem_range.2 (by omega)) h1;have q1:whole t=(r:Int):=by rw [ht];exact w1
  have q2:numL t=(r:Int):=by rw [ht];exact w2
  have q3:(Lib.decDigits r == t)=true:=by rw [ht];simp
  have q4:(t == Lib.decDigits r)=true:=by rw [ht];simp
  unfold side12 sidesB;rw [q1,q2,hi r,Int.toNat_natCast,q3,q4];have a1:decide ((r:Int)<1)=false:=decide_eq_false (by omega);have a2:decide (20<(r:Int))=false:=decide_eq_false (by omega);have a3:decide (1≤(r:Int))=true:=decide_eq_true (by omega);have a4:decide ((r:Int)≤20)=true:=decide_eq_true (by omega);rw [a1,a2,a3,a4];have b1:decide (kk<1)=!decide (1≤(kk:Int)):=by by_cases h:kk<1 <;> simp [h] <;> omega
  have b2:decide (100<kk)=!decide ((kk:Int)≤100):=by by_cases h:100<kk <;> simp [h] <;> omega
  rw [b1,b2];cases decide (1≤(kk:Int)) <;> cases decide ((kk:Int)≤100) <;> cases ((kk:Int).tmod (r:Int) == 0) <;> rfl
 cases h1:side12 t kk with
 | true =>
  have h:=h1;unfold side12 at h;simp only [Bool.not_eq_true',Bool.or_eq_false_iff,decide_eq_false_iff_not,Bool.not_eq_false'] at h;obtain ⟨⟨⟨⟨⟨g1,g2⟩,g3⟩,_⟩,_⟩,_⟩:=h;have g3':Lib.decDigits (numL t).toNat=t:=by simpa using g3
  rw [← h1];exact key (numL t).toNat (by omega) (by omega) g3'.symm
 | false =>
  cases h2:sidesB t (kk:Int) with
  | false=>rfl
  | true =>
   have h:=h2;unfold sidesB at h;simp only [Bool.and_eq_true,decide_eq_true_eq,beq_iff_eq] at h;obtain ⟨⟨⟨⟨g1,g2⟩,g3⟩,_⟩,_⟩:=h;have g3':t=Lib.decDigits (whole t).toNat:=by
    obtain ⟨i,hw⟩:∃ i:Nat,whole t=(i:Int):=⟨(whole t).toNat,by omega⟩;rw [hw,hi i] at g3;rw [hw,Int.toNat_natCast];exact g3
   have:=key (whole t).toNat (by omega) (by omega) g3';rw [h1,h2] at this;cases this
theorem rightAllS (x:NT) (p:Option Addr) (cap:Nat) (ks:List ET) (U:Nat→Prop) (many:Bool) (w:World) (hl:x.t.length≤1048576) (hK:KidsS w U (.slice p ks.length cap) ks) (hU:∀ k,U k→k<w.heap.size) :
  Calls Tryz.prog 88 #[x.ex (.slice p ks.length cap),.bool many] w fun e w'=>e=.returned (.bool (rightE NT.good (.mk x ks) many))∧Ext w w':=by
 have RE:rightE NT.good (.mk x ks) many=(decide (x.q=(ks.length:Int)) && x.good && (!decide (x.k=13) || many) && (!decide (x.k=12) || ks.all constE)):=rfl;rw [RE];clear RE;obtain ⟨kk,hkk⟩:∃ kk,ks.length=kk:=⟨_,rfl⟩;rw [hkk] at hK ⊢;unfold NT.good;by_cases k1:x.k=1
 ·have h:=rightS1 x.t x.n x.d x.x x.r x.c x.f x.g x.r2 x.c2 x.f2 x.g2 x.q p kk cap many w hl;have e:(decide (x.q=(kk:Int)) && goodN x.k x.t x.n x.d x.x x.r x.c x.f x.g x.r2 x.c2 x.f2 x.g2 x.q && (!decide (x.k=13) || many) && (!decide (x.k=12) || ks.all constE))=(decide (x.q=(kk:Int)) && decide (kk=0) && (x.t == []) && goodB x.n x.d x.x && !x.n && zeroRN x.r x.c x.f x.g && zeroRN x.r2 x.c2 x.f2 x.g2):=by
   rw [k1];rw [Bool.eq_iff_iff];simp [goodN,zeroRN]
   grind
  rw [e];show Calls Tryz.prog 88 #[exV x.k x.t x.n x.d x.x x.r x.c x.f x.g x.r2 x.c2 x.f2 x.g2 x.q (.slice p kk cap),.bool many] w _;rw [k1];exact h
 by_cases k2:x.k=2
 ·have h:=rightS2 x.t x.n x.d x.x x.r x.c x.f x.g x.r2 x.c2 x.f2 x.g2 x.q p kk cap many w hl;have e:(decide (x.q=(kk:Int)) && goodN x.k x.t x.n x.d x.x x.r x.c x.f x.g x.r2 x.c2 x.f2 x.g2 x.q && (!decide (x.k=13) || many) && (!decide (x.k=12) || ks.all constE))=(decide (x.q=(kk:Int)) && (zeroDN x.n x.d x.x && zeroRN x.r x.c x.f x.g && zeroRN x.r2 x.c2 x.f2 x.g2) && decide (kk=0) && printB x.t):=by
   rw [k2];rw [Bool.eq_iff_iff];simp [goodN,zeroDN,zeroRN]
   grind
  rw [e];show Calls Tryz.prog 88 #[exV x.k x.t x.n x.d x.x x.r x.c x.f x.g x.r2 x.c2 x.f2 x.g2 x.q (.slice p kk cap),.bool many] w _;rw [k2];exact h
 by_cases k3:x.k=3
 ·have h:=rightS3 x.t x.n x.d x.x x.r x.c x.f x.g x.r2 x.c2 x.f2 x.g2 x.q p kk cap many w hl;have e:(decide (x.q=(kk:Int)) && goodN x.k x.t x.n x.d x.x x.r x.c x.f x.g x.r2 x.c2 x.f2 x.g2 x.q && (!decide (x.k=13) || many) && (!decide (x.k=12) || ks.all constE))=(decide (x.q=(kk:Int)) && (zeroDN x.n x.d x.x && zeroRN x.r x.c x.f x.g && zeroRN x.r2 x.c2 x.f2 x.g2) && decide (kk=0) && boolB x.t):=by
   rw [k3];rw [Bool.eq_iff_iff];simp [goodN,zeroDN,zeroRN]
   grind
  rw [e];show Calls Tryz.prog 88 #[exV x.k x.t x.n x.d x.x x.r x.c x.f x.g x.r2 x.c2 x.f2 x.g2 x.q (.slice p kk cap),.bool many] w _;rw [k3];exact h
 by_cases k4:x.k=4
 ·have h:=rightS4 x.t x.n x.d x.x x.r x.c x.f x.g x.r2 x.c2 x.f2 x.g2 x.q p kk cap many w hl;have e:(decide (x.q=(kk:Int)) && goodN x.k x.t x.n x.d x.x x.r x.c x.f x.g x.r2 x.c2 x.f2 x.g2 x.q && (!decide (x.k=13) || many) && (!decide (x.k=12) || ks.all constE))=(decide (x.q=(kk:Int)) && (zeroDN x.n x.d x.x && zeroRN x.r x.c x.f x.g && zeroRN x.r2 x.c2 x.f2 x.g2) && (decide (kk=0) && memB errL x.t)):=by
   rw [k4];rw [Bool.eq_iff_iff];simp [goodN,zeroDN,zeroRN]
   grind
  rw [e];show Calls Tryz.prog 88 #[exV x.k x.t x.n x.d x.x x.r x.c x.f x.g x.r2 x.c2 x.f2 x.g2 x.q (.slice p kk cap),.bool many] w _;rw [k4];exact h
 by_cases k5:x.k=5
 ·have h:=rightS5 x.t x.n x.d x.x x.r x.c x.f x.g x.r2 x.c2 x.f2 x.g2 x.q p kk cap many w hl;have e:(decide (x.q=(kk:Int)) && goodN x.k x.t x.n x.d x.x x.r x.c x.f x.g x.r2 x.c2 x.f2 x.g2 x.q && (!decide (x.k=13) || many) && (!decide (x.k=12) || ks.all constE))=(decide (x.q=(kk:Int)) && decide (kk=0) && (x.t == []) && goodRB x.r x.c && zeroDN x.n x.d x.x && zeroRN x.r2 x.c2 x.f2 x.g2):=by
   rw [k5];rw [Bool.eq_iff_iff];simp [goodN,zeroDN,zeroRN]
   grind
  rw [e];show Calls Tryz.prog 88 #[exV x.k x.t x.n x.d x.x x.r x.c x.f x.g x.r2 x.c2 x.f2 x.g2 x.q (.slice p kk cap),.bool many] w _;rw [k5];exact h
 by_cases k6:x.k=6
 ·have h:=rightS6 x.t x.n x.d x.x x.r x.c x.f x.g x.r2 x.c2 x.f2 x.g2 x.q p kk cap many w hl;have e:(decide (x.q=(kk:Int)) && goodN x.k x.t x.n x.d x.x x.r x.c x.f x.g x.r2 x.c2 x.f2 x.g2 x.q && (!decide (x.k=13) || many) && (!decide (x.k=12) || ks.all constE))=(decide (x.q=(kk:Int)) && decide (kk=0) && (x.t == []) && goodRB x.r x.c && goodRB x.r2 x.c2 && zeroDN x.n x.d x.x):=by
   rw [k6];rw [Bool.eq_iff_iff];simp [goodN,zeroDN]
   grind
  rw [e];show Calls Tryz.prog 88 #[exV x.k x.t x.n x.d x.x x.r x.c x.f x.g x.r2 x.c2 x.f2 x.g2 x.q (.slice p kk cap),.bool many] w _;rw [k6];exact h
 by_cases k7:x.k=7
 ·have h:=rightS7 x.t x.n x.d x.x x.r x.c x.f x.g x.r2 x.c2 x.f2 x.g2 x.q p kk cap many w hl;have e:(decide (x.q=(kk:Int)) && goodN x.k x.t x.n x.d x.x x.r x.c x.f x.g x.r2 x.c2 x.f2 x.g2 x.q && (!decide (x.k=13) || many) && (!decide (x.k=12) || ks.all constE))=(decide (x.q=(kk:Int)) && (zeroDN x.n x.d x.x && zeroRN x.r x.c x.f x.g && zeroRN x.r2 x.c2 x.f2 x.g2) && decide (kk=0) && nameB x.t):=by
   rw [k7];rw [Bool.eq_iff_iff];simp [goodN,zeroDN,zeroRN]
   grind
  rw [e];show Calls Tryz.prog 88 #[exV x.k x.t x.n x.d x.x x.r x.c x.f x.g x.r2 x.c2 x.f2 x.g2 x.q (.slice p kk cap),.bool many] w _;rw [k7];exact h
 by_cases k8:x.k=8
 ·have h:=rightS8 x.t x.n x.d x.x x.r x.c x.f x.g x.r2 x.c2 x.f2 x.g2 x.q p kk cap many w hl;have e:(decide (x.q=(kk:Int)) && goodN x.k x.t x.n x.d x.x x.r x.c x.f x.g x.r2 x.c2 x.f2 x.g2 x.q && (!decide (x.k=13) || many) && (!decide (x.k=12) || ks.all constE))=(decide (x.q=(kk:Int)) && (zeroDN x.n x.d x.x && zeroRN x.r x.c x.f x.g && zeroRN x.r2 x.c2 x.f2 x.g2) && decide (kk=1) && (x.t == [])):=by
   rw [k8];rw [Bool.eq_iff_iff];simp [goodN,zeroDN,zeroRN]
   grind
  rw [e];show Calls Tryz.prog 88 #[exV x.k x.t x.n x.d x.x x.r x.c x.f x.g x.r2 x.c2 x.f2 x.g2 x.q (.slice p kk cap),.bool many] w _;rw [k8];exact h
 by_cases k9:x.k=9
 ·have h:=rightS9 x.t x.n x.d x.x x.r x.c x.f x.g x.r2 x.c2 x.f2 x.g2 x.q p kk cap many w hl;have e:(decide (x.q=(kk:Int)) && goodN x.k x.t x.n x.d x.x x.r x.c x.f x.g x.r2 x.c2 x.f2 x.g2 x.q && (!decide (x.k=13) || many) && (!decide (x.k=12) || ks.all constE))=(decide (x.q=(kk:Int)) && (zeroDN x.n x.d x.x && zeroRN x.r x.c x.f x.g && zeroRN x.r2 x.c2 x.f2 x.g2) && decide (kk=1) && (x.t == [])):=by
   rw [k9];rw [Bool.eq_iff_iff];simp [goodN,zeroDN,zeroRN]
   grind
  rw [e];show Calls Tryz.prog 88 #[exV x.k x.t x.n x.d x.x x.r x.c x.f x.g x.r2 x.c2 x.f2 x.g2 x.q (.slice p kk cap),.bool many] w _;rw [k9];exact h
 by_cases k10:x.k=10
 ·have h:=rightS10 x.t x.n x.d x.x x.r x.c x.f x.g x.r2 x.c2 x.f2 x.g2 x.q p kk cap many w hl;have e:(decide (x.q=(kk:Int)) && goodN x.k x.t x.n x.d x.x x.r x.c x.f x.g x.r2 x.c2 x.f2 x.g2 x.q && (!decide (x.k=13) || many) && (!decide (x.k=12) || ks.all constE))=(decide (x.q=(kk:Int)) && (zeroDN x.n x.d x.x && zeroRN x.r x.c x.f x.g && zeroRN x.r2 x.c2 x.f2 x.g2) && (decide (kk=2) && memB opsL x.t)):=by
   rw [k10];rw [Bool.eq_iff_iff];simp [goodN,zeroDN,zeroRN]
   grind
  rw [e];show Calls Tryz.prog 88 #[exV x.k x.t x.n x.d x.x x.r x.c x.f x.g x.r2 x.c2 x.f2 x.g2 x.q (.slice p kk cap),.bool many] w _;rw [k10];exact h
 by_cases k11:x.k=11
 ·have h:=rightS11 x.t x.n x.d x.x x.r x.c x.f x.g x.r2 x.c2 x.f2 x.g2 x.q p kk cap many w hl;have e:(decide (x.q=(kk:Int)) && goodN x.k x.t x.n x.d x.x x.r x.c x.f x.g x.r2 x.c2 x.f2 x.g2 x.q && (!decide (x.k=13) || many) && (!decide (x.k=12) || ks.all constE))=(decide (x.q=(kk:Int)) && (zeroDN x.n x.d x.x && zeroRN x.r x.c x.f x.g && zeroRN x.r2 x.c2 x.f2 x.g2) && (decide (kk≤30) && (nameB x.t && (x.t.map upC == x.t)))):=by
   rw [k11];rw [Bool.eq_iff_iff];simp [goodN,zeroDN,zeroRN]
   grind
  rw [e];show Calls Tryz.prog 88 #[exV x.k x.t x.n x.d x.x x.r x.c x.f x.g x.r2 x.c2 x.f2 x.g2 x.q (.slice p kk cap),.bool many] w _;rw [k11];exact h
 by_cases k12:x.k=12
 ·have h:=rightS12 x.t x.n x.d x.x x.r x.c x.f x.g x.r2 x.c2 x.f2 x.g2 x.q p kk cap ks U many w hK hU hkk;have e:(decide (x.q=(kk:Int)) && goodN x.k x.t x.n x.d x.x x.r x.c x.f x.g x.r2 x.c2 x.f2 x.g2 x.q && (!decide (x.k=13) || many) && (!decide (x.k=12) || ks.all constE))=(decide (x.q=(kk:Int)) && (zeroDN x.n x.d x.x && zeroRN x.r x.c x.f x.g && zeroRN x.r2 x.c2 x.f2 x.g2) && (side12 x.t kk && ks.all constE)):=by
   rw [k12];rw [side_same];rw [Bool.eq_iff_iff];simp [goodN,zeroDN,zeroRN]
   grind
  rw [e];show Calls Tryz.prog 88 #[exV x.k x.t x.n x.d x.x x.r x.c x.f x.g x.r2 x.c2 x.f2 x.g2 x.q (.slice p kk cap),.bool many] w _;rw [k12];exact h
 by_cases k13:x.k=13
 ·have h:=rightS13 x.t x.n x.d x.x x.r x.c x.f x.g x.r2 x.c2 x.f2 x.g2 x.q p kk cap many w hl;have e:(decide (x.q=(kk:Int)) && goodN x.k x.t x.n x.d x.x x.r x.c x.f x.g x.r2 x.c2 x.f2 x.g2 x.q && (!decide (x.k=13) || many) && (!decide (x.k=12) || ks.all constE))=(decide (x.q=(kk:Int)) && (zeroDN x.n x.d x.x && zeroRN x.r x.c x.f x.g && zeroRN x.r2 x.c2 x.f2 x.g2) && decide (kk=0) && (x.t == []) && many):=by
   rw [k13];rw [Bool.eq_iff_iff];simp [goodN,zeroDN,zeroRN]
   grind
  rw [e];show Calls Tryz.prog 88 #[exV x.k x.t x.n x.d x.x x.r x.c x.f x.g x.r2 x.c2 x.f2 x.g2 x.q (.slice p kk cap),.bool many] w _;rw [k13];exact h
 have e:(decide (x.q=(kk:Int)) && goodN x.k x.t x.n x.d x.x x.r x.c x.f x.g x.r2 x.c2 x.f2 x.g2 x.q && (!decide (x.k=13) || many) && (!decide (x.k=12) || ks.all constE))=false:=by
  simp [goodN,k1,k2,k3,k4,k5,k6,k7,k8,k9,k10,k11,k12,k13]
 rw [e];exact rightSx x.k x.t x.n x.d x.x x.r x.c x.f x.g x.r2 x.c2 x.f2 x.g2 x.q p kk cap many w k1 k2 k3 k4 k5 k6 k7 k8 k9 k10 k11 k12 k13
mutual
def cntE:ET→Nat
 | .mk _ ks=>cntL ks+1
def cntL:List ET→Nat
 | []=>0
 | k :: ks=>cntE k+cntL ks
end
mutual
def allE (P:NT→Prop):ET→Prop
 | .mk n ks=>P n∧allL P ks
def allL (P:NT→Prop):List ET→Prop
 | []=>True
 | k :: ks=>allE P k∧allL P ks
end
theorem allL_get {P:NT→Prop}:∀ {es:List ET} {i:Nat} {e:ET},allL P es→es[i]?=some e→allE P e
 | k :: ks,0,e,h,hi=>by cases hi;exact h.1
 | k :: ks,i+1,e,h,hi=>allL_get h.2 (by simpa using hi)
theorem cntL_get:∀ {es:List ET} {i:Nat} {e:ET},es[i]?=some e→cntE e≤cntL es
 | k :: ks,0,e,hi=>by cases hi;rw [cntL];omega
 | k :: ks,i+1,e,hi=>by have:=cntL_get (es:=ks) (i:=i) (by simpa using hi);rw [cntL];omega
theorem cntL_take:∀ (es:List ET) (j:Nat),cntL (es.take j)≤cntL es
 | [],j=>by simp
 | k :: ks,0=>by rw [List.take_zero];rw [cntL];omega
 | k :: ks,j+1=>by rw [List.take_succ_cons,cntL,cntL];have:=cntL_take ks j;omega
theorem len_cntL:∀ (es:List ET),es.length≤cntL es
 | []=>by simp
 | .mk n ks :: l=>by rw [cntL,cntE,List.length_cons];have:=len_cntL l;omega
mutual
theorem sizeE_le (gd:NT→Bool):∀ (e:ET) (many:Bool) (a d:Nat),sizeE gd e many=some (a,d)→a≤cntE e∧d≤cntE e
 | .mk n ks,many,a,d,h=>by
  rw [sizeE] at h
  split at h
  ·split at h
   ·cases h
   ·next a1 d1 h1 =>
    cases h;have:=sizeL_le gd ks _ a1 d1 h1;rw [cntE];omega
  ·cases h
theorem sizeL_le (gd:NT→Bool):∀ (es:List ET) (many:Bool) (a d:Nat),sizeL gd es many=some (a,d)→a≤cntL es∧d≤cntL es
 | [],many,a,d,h=>by rw [sizeL] at h;cases h;omega
 | k :: ks,many,a,d,h=>by
  rw [sizeL] at h
  split at h
  ·cases h
  ·next a1 d1 h1 =>
   split at h
   ·cases h
   ·next a2 d2 h2 =>
    cases h;have:=sizeE_le gd k many a1 d1 h1;have:=sizeL_le gd ks many a2 d2 h2;rw [cntL];omega
end
def sizeUp:Option (Nat × Nat)→Option (Nat × Nat)
 | none=>none
 | some (a,d)=>some (a+1,d+1)
def sizeAdd (a d:Nat):Option (Nat × Nat)→Option (Nat × Nat)
 | none=>none
 | some (a',d')=>some (a+a',max d d')
theorem sizeE_eq (gd:NT→Bool) (n:NT) (ks:List ET) (many:Bool):sizeE gd (.mk n ks) many=if rightE gd (.mk n ks) many then sizeUp (sizeL gd ks (decide (n.k=11) && decide (1<ks.length))) else none:=by
 rw [sizeE]
 split
 ·cases sizeL gd ks (decide (n.k=11) && decide (1<ks.length)) with
  | none=>rfl
  | some q=>rfl
 ·rfl
theorem sizeL_fail {gd:NT→Bool} {many:Bool} {es:List ET} {j:Nat} (h:sizeL gd (es.take (j+1)) many=none):sizeL gd es many=none:=by
 have:=sizeL_append gd many (es.take (j+1)) (es.drop (j+1));rw [List.take_append_drop,h] at this;exact this
theorem sizeL_step {gd:NT→Bool} {many:Bool} {es:List ET} {j:Nat} {e:ET} (he:es[j]?=some e) {a d:Nat} (h:sizeL gd (es.take j) many=some (a,d)) :
  sizeL gd (es.take (j+1)) many=sizeAdd a d (sizeE gd e many):=by
 have:es.take (j+1)=es.take j++[e]:=by rw [List.take_add_one,he];rfl
 rw [this,sizeL_append,h,sizeL];cases sizeE gd e many with
 | none=>rfl
 | some q=>obtain ⟨a',d'⟩:=q;rw [sizeL];simp [sizeAdd]
def sizeV:Option (Nat × Nat)→Value
 | none=>.tuple #[.int .i64 0,.int .i64 0,.bool false]
 | some (a,d)=>.tuple #[.int .i64 (a:Int),.int .i64 (d:Int),.bool true]
theorem maxS4 (a b:Nat) (w:World):Calls Tryz.prog 50 #[.int .i64 (a:Int),.int .i64 (b:Int)] w fun e w'=>e=.returned (.int .i64 ((max a b:Nat):Int))∧w'=w:=by
 by_cases h:(a:Int)<(b:Int)
 ·rw [Nat.max_eq_right (by omega)];have h':(b:Int) > (a:Int):=h;have h2:¬ (a:Int) > (b:Int):=by omega
  go_enter Tryz.func50,Tryz.ntmps50;go_wp2_with fail;go_ret;exact ⟨rfl,rfl⟩
 ·by_cases h2:(b:Int)<(a:Int)
  ·rw [Nat.max_eq_left (by omega)];go_enter Tryz.func50,Tryz.ntmps50;go_wp2_with fail;go_ret;exact ⟨rfl,rfl⟩
  ·obtain rfl:a=b:=by omega
   rw [Nat.max_self];go_enter Tryz.func50,Tryz.ntmps50;go_wp2_with fail;go_ret;exact ⟨rfl,rfl⟩
set_option maxRecDepth 8000 in
set_option maxHeartbeats 4000000 in
theorem sizeSE {w:World} {U:Nat→Prop} (hU:∀ k,U k→k<w.heap.size) {v:Value} {es:List ET} (h:KidsS w U v es):∀ (x:NT) (many:Bool) (W:World),Ext w W→x.t.length≤1048576→allL (fun n=>n.t.length≤1048576) es→cntL es≤1000000 →
  Calls Tryz.prog 82 #[x.ex v,.bool many] W fun r w'=>r=.returned (sizeV (sizeE NT.good (.mk x es) many))∧Ext W w':=by
 induction h with
 | mk p cap es s hc hp hk ih =>
 intro x many W XW hx hall hcnt;obtain ⟨XN0,hXN⟩:∃ q,q=x:=⟨_,rfl⟩;have HR:Hid (∀ W',Ext W W'→Calls Tryz.prog 88 #[x.ex (.slice p es.length cap),.bool many] W' fun e w'=>e=.returned (.bool (rightE NT.good (.mk x es) many))∧Ext W' w'):=fun W' X'=>rightAllS x p cap es U many W' hx ((KidsS.mk p cap es s hc hp hk).later hU (xt XW X')) (fun k hk'=>Nat.lt_of_lt_of_le (hU k hk') (xt XW X').size);have HIH:Hid (∀ (i:Nat) (e:ET),es[i]?=some e→∀ (many:Bool) (W':World),Ext W W'→Calls Tryz.prog 82 #[e.n.ex (s i),.bool many] W' fun r w'=>r=.returned (sizeV (sizeE NT.good e many))∧Ext W' w'):=fun i e hi mny W' X'=>by
  have ha:=allL_get hall hi;have hc':=cntL_get hi;obtain ⟨n,ks⟩:=e;rw [cntE] at hc';exact ih i (.mk n ks) hi n mny W' (xt XW X') ha.1 ha.2 (by show cntL ks≤_;omega)
 have HP:Hid (0<es.length→∃ g,p=some ⟨g,0,none⟩∧U g∧∀ (i:Nat) (e:ET),es[i]?=some e→∀ (c:Nat) (u:Value),(e.n.cells++[s i])[c]?=some u→w.cell? ⟨g,i * 15+c,none⟩=some u):=hp;have HSL:Hid (∀ (i:Nat) (e:ET),es[i]?=some e→∃ pk nk ck,s i=.slice pk nk ck):=fun i e hi=>by obtain ⟨q1,q2,q3,_⟩:=(hk i e hi).slice;exact ⟨_,_,_,q3⟩
 have SE:sizeE NT.good (.mk x es) many=(if rightE NT.good (.mk x es) many then sizeUp (sizeL NT.good es (decide (x.k=11) && decide (1<es.length))) else none):=sizeE_eq _ _ _ _;obtain ⟨rb,hrb⟩:∃ q,rightE NT.good (.mk x es) many=q:=⟨_,rfl⟩;rw [hrb] at HR SE;obtain ⟨kk,hkk⟩:∃ q,es.length=q:=⟨_,rfl⟩;rw [hkk] at HR SE HP ⊢;have HKK:Hid (es.length=kk):=hkk;have hkb:kk≤1000000:=by have:=len_cntL es;omega
 obtain ⟨SZ,hSZ⟩:∃ q,sizeE NT.good (.mk x es) many=q:=⟨_,rfl⟩;have HSE:Hid ((if rb then sizeUp (sizeL NT.good es (decide (x.k=11) && decide (1<kk))) else none)=SZ):=by show _=_;rw [← hSZ,SE]
 rw [hSZ];have HCN:Hid (cntL es≤1000000):=hcnt;have HXW:Hid (Ext w W):=XW;clear SE hSZ hrb hkk hp hk ih hc hall hcnt hx XW XN0 hXN;obtain ⟨xk,xt',xn,xd',xx,xr',xc,xf,xg,xr2,xc2,xf2,xg2,xq⟩:=x;have XB:=x1 W (.cells (NT.exL ⟨xk,xt',xn,xd',xx,xr',xc,xf,xg,xr2,xc2,xf2,xg2,xq⟩ (.slice p kk cap)).toArray 86);have VB:=vec_made W (NT.exL ⟨xk,xt',xn,xd',xx,xr',xc,xf,xg,xr2,xc2,xf2,xg2,xq⟩ (.slice p kk cap)) 86;obtain ⟨wa,ha⟩:∃ q,W.alloc (.cells (NT.exL ⟨xk,xt',xn,xd',xx,xr',xc,xf,xg,xr2,xc2,xf2,xg2,xq⟩ (.slice p kk cap)).toArray 86)=q:=⟨_,rfl⟩;rw [ha] at XB VB;have VRB:wa.rangeAt W.heap.size 0 (NT.exL ⟨xk,xt',xn,xd',xx,xr',xc,xf,xg,xr2,xc2,xf2,xg2,xq⟩ (.slice p kk cap)):=fun j u hu=>by rw [Nat.zero_add];exact (VB j u hu).1
 go_enter Tryz.func82,Tryz.ntmps82;go_wp2_with (refine wpList_load_mid rfl 86 (.tmp 2) rfl W.heap.size 0 rfl (NT.exL ⟨xk,xt',xn,xd',xx,xr',xc,xf,xg,xr2,xc2,xf2,xg2,xq⟩ (.slice p kk cap)) _ VRB Tryz.underlying86 rfl hi15E ?_);refine (HR.out wa XB).mono ?_;rintro e w1 ⟨rfl,e1⟩;have V1:=VB.later e1;have Y1:=xt XB e1;clear HR;cases rb
 ·have HE:Hid (none=SZ):=HSE.out;clear HSE VRB VB;go_wp2_with fail;exact bodyPost_ret (v:=.tuple #[.int .i64 0,.int .i64 0,.bool false]) (by simp [results,Tryz.results82,go_sem]) rfl ⟨by rw [← HE.out];rfl,Y1⟩
 ·have c14:=(V1 14 _ rfl).1;have HL0:Hid (Ext w1 w1∧sizeL NT.good (es.take 0) (decide (xk=11) && decide (1<kk))=some (0,0)):=⟨xr _,by rw [List.take_zero,sizeL]⟩;clear VRB VB;go_wp2_with fail;clear c14;go_loopw [7,8,21] (fun nv dv i wr=>∃ j a d:Nat,j≤kk∧i=.int .i64 j∧nv=.int .i64 ((a+1:Nat):Int)∧dv=.int .i64 (d:Int)∧a≤1000000∧d≤1000000∧Hid (Ext w1 wr∧sizeL NT.good (es.take j) (decide (xk=11) && decide (1<kk))=some (a,d))) (fun _ _ i _=>kk - (intOf i).toNat)
  case atStart=>exact ⟨0,0,0,by omega,rfl,rfl,rfl,by omega,by omega,HL0⟩
  case round =>
   obtain ⟨j,a,d,hj,rfl,rfl,rfl,ha1,hd1,HO⟩:=hrel;by_cases hlt:j<kk
   ·have i2:(j:Int)<(kk:Int):=(by omega);obtain ⟨e,he⟩:∃ e,es[j]?=some e:=⟨_,List.getElem?_eq_getElem (by rw [HKK.out];exact hlt)⟩;obtain ⟨g,rfl,_,hcell⟩:=HP.out (by omega);obtain ⟨pk,nk,ck,hsk⟩:=HSL.out j e he;have HEL:Hid (es[j]?=some e):=he;obtain ⟨⟨ek,et,en,ed,ex,er,ec,ef,eg,er2,ec2,ef2,eg2,eq⟩,ekids⟩:=e;have CI:=HIH.out j _ he;rw [hsk] at CI;have HRA:wr.rangeAt g (j * 15) (NT.exL ⟨ek,et,en,ed,ex,er,ec,ef,eg,er2,ec2,ef2,eg2,eq⟩ (.slice pk nk ck)):=fun c u hu=>by
     have:=hcell j _ he c u (by rw [hsk];exact hu);exact cell_later (xt (xt HXW.out Y1) HO.out.1) this
    have VX:=V1.later HO.out.1;have VZ:=vec_made wr [.int .i64 0,.string ⟨#[]⟩,.bool false,.int .i64 0,.int .i64 0,.int .i64 0,.int .i64 0,.bool false,.bool false,.int .i64 0,.int .i64 0,.bool false,.bool false,.int .i64 0,.slice none 0 0] 86;have XZ:=x1 wr (.cells [.int .i64 0,.string ⟨#[]⟩,.bool false,.int .i64 0,.int .i64 0,.int .i64 0,.int .i64 0,.bool false,.bool false,.int .i64 0,.int .i64 0,.bool false,.bool false,.int .i64 0,.slice none 0 0].toArray 86);obtain ⟨wz,hz9⟩:∃ q,wr.alloc (.cells [.int .i64 0,.string ⟨#[]⟩,.bool false,.int .i64 0,.int .i64 0,.int .i64 0,.int .i64 0,.bool false,.bool false,.int .i64 0,.int .i64 0,.bool false,.bool false,.int .i64 0,.slice none 0 0].toArray 86)=q:=⟨_,rfl⟩;rw [hz9] at VZ XZ;have VT:=VZ.there;have VR:=World.rangeAt_setCells_same wz wr.heap.size 0 (NT.exL ⟨ek,et,en,ed,ex,er,ec,ef,eg,er2,ec2,ef2,eg2,eq⟩ (.slice pk nk ck)) VT;have XR:=Ext.setCells (b:=wr.heap.size) (Nat.le_refl _) (NT.exL ⟨ek,et,en,ed,ex,er,ec,ef,eg,er2,ec2,ef2,eg2,eq⟩ (.slice pk nk ck)) 0 wz XZ;obtain ⟨w5,h5⟩:∃ q,wz.setCells wr.heap.size 0 (NT.exL ⟨ek,et,en,ed,ex,er,ec,ef,eg,er2,ec2,ef2,eg2,eq⟩ (.slice pk nk ck))=q:=⟨_,rfl⟩;rw [h5] at VR XR;have VX5:=VX.later XR;have n0:=(VX5 0 _ rfl).1;have n14:=(VX5 14 _ rfl).1;have one:((NT.exL ⟨ek,et,en,ed,ex,er,ec,ef,eg,er2,ec2,ef2,eg2,eq⟩ (.slice pk nk ck)).toArray).all (·.oneCell')=true:=(by simp [Value.oneCell']);have CE:=cntL_get he;obtain ⟨mb,hmb⟩:∃ q,(decide (xk=11) && decide (1<kk))=q:=⟨_,rfl⟩;have HMB:Hid ((decide (xk=11) && decide (1<kk))=mb):=hmb;have CC:Calls Tryz.prog 82 #[NT.ex ⟨ek,et,en,ed,ex,er,ec,ef,eg,er2,ec2,ef2,eg2,eq⟩ (.slice pk nk ck),.bool mb] w5 fun r w'=>r=.returned (sizeV (sizeE NT.good (.mk ⟨ek,et,en,ed,ex,er,ec,ef,eg,er2,ec2,ef2,eg2,eq⟩ ekids) mb))∧Ext w5 w':=CI mb w5 (xt (xt Y1 HO.out.1) XR);have HST:=sizeL_step (gd:=NT.good) (many:=mb) HEL.out (by rw [← hmb];exact HO.out.2);obtain ⟨sz,hsz⟩:∃ q,sizeE NT.good (.mk ⟨ek,et,en,ed,ex,er,ec,ef,eg,er2,ec2,ef2,eg2,eq⟩ ekids) mb=q:=⟨_,rfl⟩;rw [hsz] at CC HST;have HSB:Hid (∀ a' d',sz=some (a',d')→a+a'≤1000000∧max d d'≤1000000):=fun a' d' hq=>by
     rw [hq] at HST;have:=sizeL_le NT.good _ _ _ _ HST;have:=cntL_take es (j+1);have:=HCN.out;omega
    have HST:Hid (sizeL NT.good (es.take (j+1)) mb=sizeAdd a d sz):=HST;clear he hsk CI hcell VX VZ XZ hsz CE HEL hmb;by_cases k11:xk=11
    all_goals
     by_cases kk1:1<kk
    all_goals
     have hq1:mb=(decide (xk=11) && decide (1<kk)):=HMB.out.symm
     first | rw [decide_eq_true k11] at hq1 | rw [decide_eq_false k11] at hq1
     first | rw [decide_eq_true kk1] at hq1 | rw [decide_eq_false kk1] at hq1
     have hk1:((xk:Int) == 11)=decide (xk=11):=by by_cases h:xk=11 <;> simp [h]
     first | rw [decide_eq_true k11] at hk1 | rw [decide_eq_false k11] at hk1
     have hk2:decide (1<(kk:Int))=decide (1<kk):=by by_cases h:1<kk <;> simp [h] <;> omega
     first | rw [decide_eq_true kk1] at hk2 | rw [decide_eq_false kk1] at hk2
     have CC2:=CC;rw [hq1] at CC2;clear CC k11;go_wp2_with (first | (refine wpList_load_mid rfl 86 (.tmp 23) rfl g (j * 15) rfl (NT.exL ⟨ek,et,en,ed,ex,er,ec,ef,eg,er2,ec2,ef2,eg2,eq⟩ (.slice pk nk ck)) _ HRA Tryz.underlying86 rfl hi15E ?_) | (refine wpList_store_mid rfl _ _ _ rfl wr.heap.size 0 (NT.exL ⟨ek,et,en,ed,ex,er,ec,ef,eg,er2,ec2,ef2,eg2,eq⟩ (.slice pk nk ck)).toArray rfl rfl VT hi15E one ?_;show wpList _ _ _ _ _ (wz.setCells wr.heap.size 0 (NT.exL ⟨ek,et,en,ed,ex,er,ec,ef,eg,er2,ec2,ef2,eg2,eq⟩ (.slice pk nk ck)));rw [h5];go_frame) | (refine wpList_load_mid rfl 86 (.tmp 10) rfl wr.heap.size 0 rfl (NT.exL ⟨ek,et,en,ed,ex,er,ec,ef,eg,er2,ec2,ef2,eg2,eq⟩ (.slice pk nk ck)) _ VR Tryz.underlying86 rfl hi15E ?_));refine CC2.mono ?_;rintro e w6 ⟨rfl,e6⟩;have Y6:=xt (xt HO.out.1 XR) e6;cases sz with
     | none =>
      have HE:Hid (none=SZ):=by
       show _=_;have hf:sizeL NT.good es (decide (xk=11) && decide (1<kk))=none:=(by rw [HMB.out];exact sizeL_fail (j:=j) HST.out);rw [← HSE.out];simp [hf,sizeUp]
      clear HO HRA VR VT XR CC2 VX5 n0 n14 HST HSB;simp only [sizeV];go_wp2_with fail;exact bodyPost_ret (v:=.tuple #[.int .i64 0,.int .i64 0,.bool false]) (by simp [results,Tryz.results82,go_sem]) rfl ⟨by rw [← HE.out];rfl,xt Y1 Y6⟩
     | some ad =>
      obtain ⟨a',d'⟩:=ad;have HB2:=HSB.out a' d' rfl;have HM:Hid (Ext w1 w6∧sizeL NT.good (es.take (j+1)) (decide (xk=11) && decide (1<kk))=some (a+a',max d d')):=⟨Y6,by rw [HMB.out];exact HST.out⟩;obtain ⟨dm,hdm⟩:∃ q,max d d'=q:=⟨_,rfl⟩;have MX:∀ W',Calls Tryz.prog 50 #[.int .i64 (d:Int),.int .i64 (d':Int)] W' fun e w'=>e=.returned (.int .i64 (dm:Int))∧w'=W':=fun W'=>(by rw [← hdm];exact maxS4 d d' W');rw [hdm] at HM HB2;clear HO HRA VR VT XR CC2 VX5 n0 n14 HST HSB hdm;simp only [sizeV];have hs1:IntKind.i64.wrap (((a+1:Nat):Int)+(a':Int))=((a+a'+1:Nat):Int):=(by rw [IntKind.wrap_i64] <;> omega);go_wp2_with (go_at_call 50;refine (MX _).mono ?_;rintro e w7 ⟨rfl,rfl⟩);go_roundw
      case rel=>exact ⟨j+1,a+a',dm,by omega,by go_num,by go_num,rfl,by omega,by omega,HM⟩
      case measure=>simp [intOf];omega
   ·obtain rfl:j=kk:=(by omega);have i2:¬ (j:Int)<(j:Int):=(by omega);have HE:Hid (some (a+1,d+1)=SZ):=by
     show _=_;have hf:=HO.out.2;rw [← HKK.out,List.take_length,HKK.out] at hf;rw [← HSE.out];simp [hf,sizeUp]
    have Y3:=HO.out.1;clear HO;go_wp2_with fail;exact bodyPost_ret (v:=sizeV (some (a+1,d+1))) (by simp [results,Tryz.results82,go_sem,sizeV]) rfl ⟨by rw [← HE.out],xt Y1 Y3⟩
theorem cntL_append:∀ (a b:List ET),cntL (a++b)=cntL a+cntL b
 | [],b=>by rw [List.nil_append,cntL];omega
 | k :: a,b=>by rw [List.cons_append,cntL,cntL,cntL_append a b];omega
theorem allL_append {P:NT→Prop}:∀ (a b:List ET),allL P a→allL P b→allL P (a++b)
 | [],_,_,h=>h
 | _ :: a,b,ha,h=>⟨ha.1,allL_append a b ha.2 h⟩
theorem manyF_cnt {g:List NT→Option (ET × List NT)} (hg:∀ l t r,g l=some (t,r)→cntE t+r.length=l.length):∀ (m:Nat) (l:List NT) (ks:List ET) (r:List NT),manyF g m l=some (ks,r)→cntL ks+r.length=l.length
 | 0,l,ks,r,h=>by cases h;rw [cntL];omega
 | m+1,l,ks,r,h=>by
  rw [manyF] at h
  split at h
  ·cases h
  ·next ks1 r1 h1 =>
   split at h
   ·cases h
   ·next k r2 h2 =>
    cases h;have a:=manyF_cnt hg m l ks1 r1 h1;have b:=hg _ _ _ h2;rw [cntL_append,cntL,cntL];omega
theorem take_cnt:∀ (F:Nat) (l:List NT) (t:ET) (r:List NT),takeF F l=some (t,r)→cntE t+r.length=l.length
 | 0,_,_,_,h=>by cases h
 | F+1,[],_,_,h=>by cases h
 | F+1,n :: rest,t,r,h=>by
  rw [takeF] at h
  split at h
  ·split at h
   ·cases h
   ·next ks r1 h1 =>
    cases h;have a:=manyF_cnt (take_cnt F) _ _ _ _ h1;rw [cntE,List.length_cons];omega
  ·cases h
theorem manyF_all {P:NT→Prop} {g:List NT→Option (ET × List NT)} (hg:∀ l t r,(∀ x ∈ l,P x)→g l=some (t,r)→allE P t∧∀ x ∈ r,P x):∀ (m:Nat) (l:List NT) (ks:List ET) (r:List NT),(∀ x ∈ l,P x)→manyF g m l=some (ks,r)→allL P ks∧∀ x ∈ r,P x
 | 0,l,ks,r,hl,h=>by cases h;exact ⟨trivial,hl⟩
 | m+1,l,ks,r,hl,h=>by
  rw [manyF] at h
  split at h
  ·cases h
  ·next ks1 r1 h1 =>
   split at h
   ·cases h
   ·next k r2 h2 =>
    cases h;have a:=manyF_all hg m l ks1 r1 hl h1;have b:=hg _ _ _ a.2 h2;exact ⟨allL_append _ _ a.1 ⟨b.1,trivial⟩,b.2⟩
theorem take_all {P:NT→Prop}:∀ (F:Nat) (l:List NT) (t:ET) (r:List NT),(∀ x ∈ l,P x)→takeF F l=some (t,r)→allE P t∧∀ x ∈ r,P x
 | 0,_,_,_,_,h=>by cases h
 | F+1,[],_,_,_,h=>by cases h
 | F+1,n :: rest,t,r,hl,h=>by
  rw [takeF] at h
  split at h
  ·split at h
   ·cases h
   ·next ks r1 h1 =>
    cases h;have a:=manyF_all (take_all F) _ _ _ _ (fun x hx=>hl x (List.mem_cons_of_mem _ hx)) h1;exact ⟨⟨hl n List.mem_cons_self,a.1⟩,a.2⟩
  ·cases h
def goodO:Option (Nat × Nat)→Bool
 | some (n,d)=>decide (n≤300) && decide (d≤40)
 | none=>false
noncomputable def goodTB (t:ET):Bool:=goodO (sizeE NT.good t false)
theorem goodSF_take {f:List NT} {t:ET} (h0:1≤f.length) (h1:f.length≤300) (h:takeF 41 f=some (t,[])):goodSF NT.good f=goodTB t:=by
 unfold goodSF goodTB;rw [h,decide_eq_true h0,decide_eq_true h1];show (true && true && (match sizeE NT.good t false with
  | some (n,d)=>decide (n≤300) && decide (d≤40)
  | none=>false))=_
 cases sizeE NT.good t false with
 | none=>rfl
 | some q=>obtain ⟨a,b⟩:=q;rfl
theorem goodSF_none {f:List NT} (h:∀ t,takeF 41 f ≠ some (t,[])):goodSF NT.good f=false:=by
 unfold goodSF;cases ht:takeF 41 f with
 | none=>simp
 | some q =>
  obtain ⟨t,r⟩:=q;cases r with
  | nil=>exact absurd ht (h t)
  | cons a r=>simp
theorem goodSF_long {f:List NT} (h:f.length=0∨300<f.length):goodSF NT.good f=false:=by
 unfold goodSF
 rcases h with h | h
 ·rw [decide_eq_false (show ¬ 1≤f.length by omega)];rfl
 ·rw [decide_eq_false (show ¬ f.length≤300 by omega),Bool.and_false,Bool.false_and]
theorem OnlyT.setCells {b:Nat} {w w':World} (h:OnlyT b w w') (us:List Value) (o:Nat):OnlyT b w (w'.setCells b o us):=by
 induction us generalizing o w' with
 | nil=>exact h
 | cons u us ih=>exact ih (h.set u) (o+1)
set_option maxRecDepth 8000 in
set_option maxHeartbeats 4000000 in
theorem goodTS {W:World} {U:Nat→Prop} (hU:∀ k,U k→k<W.heap.size) {v:Value} {es:List ET} (h:KidsS W U v es) (x:NT) (hx:x.t.length≤1048576) (ha:allL (fun n=>n.t.length≤1048576) es) (hc:cntL es≤1000000) :
  Calls Tryz.prog 69 #[x.ex v] W fun r w'=>r=.returned (.bool (goodTB (.mk x es)))∧Ext W w':=by
 have HS:Hid (∀ W',Ext W W'→Calls Tryz.prog 82 #[x.ex v,.bool false] W' fun r w'=>r=.returned (sizeV (sizeE NT.good (.mk x es) false))∧Ext W' w'):=fun W' X=>sizeSE hU h x false W' X hx ha hc;unfold goodTB;obtain ⟨SZ,hSZ⟩:∃ q,sizeE NT.good (.mk x es) false=q:=⟨_,rfl⟩;rw [hSZ] at HS ⊢;obtain ⟨p,cap,rfl,_⟩:=h.slice;obtain ⟨kk,hkk⟩:∃ q,es.length=q:=⟨_,rfl⟩;rw [hkk] at HS ⊢;clear hkk hSZ h ha hc hx;obtain ⟨xk,xt',xn,xd',xx,xr',xc,xf,xg,xr2,xc2,xf2,xg2,xq⟩:=x;have XB:=x1 W (.cells (NT.exL ⟨xk,xt',xn,xd',xx,xr',xc,xf,xg,xr2,xc2,xf2,xg2,xq⟩ (.slice p kk cap)).toArray 86);have VB:=vec_made W (NT.exL ⟨xk,xt',xn,xd',xx,xr',xc,xf,xg,xr2,xc2,xf2,xg2,xq⟩ (.slice p kk cap)) 86;obtain ⟨wa,ha⟩:∃ q,W.alloc (.cells (NT.exL ⟨xk,xt',xn,xd',xx,xr',xc,xf,xg,xr2,xc2,xf2,xg2,xq⟩ (.slice p kk cap)).toArray 86)=q:=⟨_,rfl⟩;rw [ha] at XB VB;have VRB:wa.rangeAt W.heap.size 0 (NT.exL ⟨xk,xt',xn,xd',xx,xr',xc,xf,xg,xr2,xc2,xf2,xg2,xq⟩ (.slice p kk cap)):=fun j u hu=>by rw [Nat.zero_add];exact (VB j u hu).1
 go_enter Tryz.func69,Tryz.ntmps69;go_wp2_with (refine wpList_load_mid rfl 86 (.tmp 1) rfl W.heap.size 0 rfl (NT.exL ⟨xk,xt',xn,xd',xx,xr',xc,xf,xg,xr2,xc2,xf2,xg2,xq⟩ (.slice p kk cap)) _ VRB Tryz.underlying86 rfl hi15E ?_);refine (HS.out wa XB).mono ?_;rintro e w1 ⟨rfl,e1⟩;have Y1:=xt XB e1;clear HS VRB VB ha;cases SZ with
 | none =>
  rw [show sizeV none=Value.tuple #[.int .i64 0,.int .i64 0,.bool false] from rfl];go_wp2_with fail;go_ret;exact ⟨rfl,Y1⟩
 | some q =>
  obtain ⟨n,d⟩:=q;rw [show sizeV (some (n,d))=Value.tuple #[.int .i64 (n:Int),.int .i64 (d:Int),.bool true] from rfl];by_cases hn:n≤300
  ·have i1:(n:Int)≤300:=by omega
   by_cases hd:d≤40
   ·have i2:(d:Int)≤40:=(by omega);have HG:Hid (goodO (some (n,d))=true):=(by show (decide (n≤300) && decide (d≤40))=true;simp [hn,hd]);go_wp2_with fail;go_ret;exact ⟨by rw [HG.out];rfl,Y1⟩
   ·have i2:¬ (d:Int)≤40:=(by omega);have i3:decide ((d:Int)≤40)=false:=decide_eq_false i2;have HG:Hid (goodO (some (n,d))=false):=(by show (decide (n≤300) && decide (d≤40))=false;simp [hd]);go_wp2_with fail;go_ret;exact ⟨by rw [HG.out];rfl,Y1⟩
  ·have i1:¬ (n:Int)≤300:=by omega
   have i3:decide ((n:Int)≤300)=false:=decide_eq_false i1;have HG:Hid (goodO (some (n,d))=false):=by show (decide (n≤300) && decide (d≤40))=false;simp [hn]
   go_wp2_with fail;go_ret;exact ⟨by rw [HG.out];rfl,Y1⟩
end Go.Proofs.YtnbagcclckekkaaGreatDoor

