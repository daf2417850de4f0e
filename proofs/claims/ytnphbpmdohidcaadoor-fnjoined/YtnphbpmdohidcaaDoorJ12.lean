/-
  Chapter 12: Joined, of the specification.
-/
import Derived.Test.YtnphbpmdohidcaaDoorMg22
namespace Go.Proofs.YtnphbpmdohidcaaDoor
open Go.RowKit
set_option maxRecDepth 8000 in
set_option maxHeartbeats 8000000 in
theorem joinS (ra ca:Int) (av:Value) (la:List VT) (rb cb:Int) (bv:Value) (lb:List VT) (lt rt:Int) (w:World) (ha:ValsIn w av la) (hb:ValsIn w bv lb) (l1:la.length≤1048576) (l2:lb.length≤1048576) (h1:∀ e ∈ la,e.room) (h2:∀ e ∈ lb,e.room)
  (lt1 : -9223372036854775808≤lt) (lt2:lt≤9223372036854775807) (rt1 : -9223372036854775808≤rt) (rt2:rt≤9223372036854775807) :
  Calls Tryd.prog 7 #[grV ra ca av,grV rb cb bv,.int .i64 lt,.int .i64 rt] w fun e w'=>∃ sv,e=.returned (grV (joinR ra ca la rb cb lb lt rt).1 (joinR ra ca la rb cb lb lt rt).2.1 sv)∧OwnW w' w.heap.size sv (joinR ra ca la rb cb lb lt rt).2.2∧Ext w w':=by
 obtain ⟨J,hJ⟩:∃ J,joinR ra ca la rb cb lb lt rt=J:=⟨_,rfl⟩;have HJ:Hid (joinR ra ca la rb cb lb lt rt=J):=hJ;rw [hJ];have CGA:Hid (∀ W,Ext w W→Calls Tryd.prog 17 #[grV ra ca av] W fun e w'=>e=.returned (.bool (goodG ra ca la))∧Ext W w'):=fun W x=>goodGS ra ca av la W (ha.later x) (by omega) (fun e he=>(h1 e he).1);have CGB:Hid (∀ W,Ext w W→Calls Tryd.prog 17 #[grV rb cb bv] W fun e w'=>e=.returned (.bool (goodG rb cb lb))∧Ext W w'):=fun W x=>goodGS rb cb bv lb W (hb.later x) (by omega) (fun e he=>(h2 e he).1);have R1:Hid (∀ e ∈ la,e.room):=h1;have R2:Hid (∀ e ∈ lb,e.room):=h2;obtain ⟨u0,u1,u2,g0,g1,g2,s0,s1,s2,B0,B1,B2,X⟩:=mkB3 w [.int .i64 ra,.int .i64 ca,av] [.int .i64 rb,.int .i64 cb,bv] [.int .i64 0,.int .i64 0,.slice none 0 0] 25 25 25;obtain ⟨pa,ca',eva,hca',hrA⟩:=ha;obtain ⟨pb,cb',evb,hcb',hrB⟩:=hb;obtain ⟨na,hna⟩:∃ n,la.length=n:=⟨_,rfl⟩;obtain ⟨nb,hnb⟩:∃ n,lb.length=n:=⟨_,rfl⟩;rw [hna] at eva hca' hrA;rw [hnb] at evb hcb' hrB;subst eva evb;have HRA:Hid (0<na→∃ b o,pa=some ⟨b,o,none⟩∧RowV w b o la):=hrA;have HRB:Hid (0<nb→∃ b o,pb=some ⟨b,o,none⟩∧RowV w b o lb):=hrB;have HNA:Hid (la.length=na):=hna;have HNB:Hid (lb.length=nb):=hnb;obtain ⟨a0,a1,a2⟩:=Vec.three B0;clear hJ h1 h2 l1 l2 hrA hrB hna hnb;go_enter Tryd.func7,Tryd.ntmps7;go_wp2_with fail;clear a0 a1 a2 g0 g1 g2 s0 s1;refine (CGA.out u2 X).mono ?_;rintro e w1 ⟨rfl,e1⟩;have B01:=B0.later e1;have B11:=B1.later e1;have B21:=B2.later e1;have X1:=xt X e1;clear B0 B1 B2;cases hg:goodG ra ca la with
 | false =>
  have hJ0:J=(0,0,[]):=by rw [← HJ.out];unfold joinR;rw [if_neg];rintro ⟨h,_⟩;rw [hg] at h;cases h
  obtain ⟨wy,hy,FX,⟨z0,z1,z2⟩,⟨fz0,fz1,fz2⟩,fd0,fd1,fd2⟩:=finG B21 X1 (by omega) 0 0 (.slice none 0 0);subst hJ0;go_wp2_with fail;exact bodyPost_ret (v:=grV 0 0 (.slice none 0 0)) (by simp [results,Tryd.results7,go_sem,fd0,fd1,fd2]) rfl ⟨_,rfl,World.ownsRow_nil _ _ _ _,FX⟩
 | true =>
  have HGA:Hid (goodG ra ca la=true):=hg;clear hg;obtain ⟨b0,b1,b2⟩:=Vec.three B11;go_wp2_with fail;clear b0 b1 b2;refine (CGB.out w1 X1).mono ?_;rintro e w2 ⟨rfl,e2⟩;have B02:=B01.later e2;have B12:=B11.later e2;have B22:=B21.later e2;have X2:=xt X1 e2;clear B01 B11 B21;have SZ2:w.heap.size+1+1+1≤w2.heap.size:=by have:=e1.size;have:=e2.size;omega
  cases hg:goodG rb cb lb with
  | false =>
   have hJ0:J=(0,0,[]):=by rw [← HJ.out];unfold joinR;rw [if_neg];rintro ⟨_,h,_⟩;rw [hg] at h;cases h
   obtain ⟨wy,hy,FX,⟨z0,z1,z2⟩,⟨fz0,fz1,fz2⟩,fd0,fd1,fd2⟩:=finG B22 X2 (by omega) 0 0 (.slice none 0 0);subst hJ0;go_wp2_with fail;exact bodyPost_ret (v:=grV 0 0 (.slice none 0 0)) (by simp [results,Tryd.results7,go_sem,fd0,fd1,fd2]) rfl ⟨_,rfl,World.ownsRow_nil _ _ _ _,FX⟩
  | true =>
   have HGB:Hid (goodG rb cb lb=true):=hg;clear hg;obtain ⟨a0,a1,a2⟩:=Vec.three B02;obtain ⟨b0,b1,b2⟩:=Vec.three B12;by_cases hq:lt<1
   ·have q0:decide (lt<1)=true:=decide_eq_true hq;have hJ0:J=(0,0,[]):=(by rw [← HJ.out];unfold joinR;rw [if_neg];rintro ⟨_,_,h,_⟩;exact h (Or.inl hq));obtain ⟨wy,hy,FX,⟨z0,z1,z2⟩,⟨fz0,fz1,fz2⟩,fd0,fd1,fd2⟩:=finG B22 X2 (by omega) 0 0 (.slice none 0 0);subst hJ0;clear hq;go_wp2_with fail;exact bodyPost_ret (v:=grV 0 0 (.slice none 0 0)) (by simp [results,Tryd.results7,go_sem,fd0,fd1,fd2]) rfl ⟨_,rfl,World.ownsRow_nil _ _ _ _,FX⟩
   ·have q0:decide (lt<1)=false:=decide_eq_false hq;have nq0:=hq;clear hq;by_cases hq:ca<lt
    ·have q1:decide (lt > ca)=true:=decide_eq_true hq;have q1':decide (ca<lt)=true:=decide_eq_true hq;have hJ0:J=(0,0,[]):=(by rw [← HJ.out];unfold joinR;rw [if_neg];rintro ⟨_,_,h,_⟩;exact h (Or.inr hq));obtain ⟨wy,hy,FX,⟨z0,z1,z2⟩,⟨fz0,fz1,fz2⟩,fd0,fd1,fd2⟩:=finG B22 X2 (by omega) 0 0 (.slice none 0 0);subst hJ0;clear hq;go_wp2_with fail;exact bodyPost_ret (v:=grV 0 0 (.slice none 0 0)) (by simp [results,Tryd.results7,go_sem,fd0,fd1,fd2]) rfl ⟨_,rfl,World.ownsRow_nil _ _ _ _,FX⟩
    ·have q1:decide (lt > ca)=false:=decide_eq_false hq;have q1':decide (ca<lt)=false:=decide_eq_false hq;have nq1:=hq;clear hq;by_cases hq:rt<1
     ·have q2:decide (rt<1)=true:=decide_eq_true hq;have hJ0:J=(0,0,[]):=(by rw [← HJ.out];unfold joinR;rw [if_neg];rintro ⟨_,_,_,h,_⟩;exact h (Or.inl hq));obtain ⟨wy,hy,FX,⟨z0,z1,z2⟩,⟨fz0,fz1,fz2⟩,fd0,fd1,fd2⟩:=finG B22 X2 (by omega) 0 0 (.slice none 0 0);subst hJ0;clear hq;go_wp2_with fail;exact bodyPost_ret (v:=grV 0 0 (.slice none 0 0)) (by simp [results,Tryd.results7,go_sem,fd0,fd1,fd2]) rfl ⟨_,rfl,World.ownsRow_nil _ _ _ _,FX⟩
     ·have q2:decide (rt<1)=false:=decide_eq_false hq;have nq2:=hq;clear hq;by_cases hq:cb<rt
      ·have q3:decide (rt > cb)=true:=decide_eq_true hq;have q3':decide (cb<rt)=true:=decide_eq_true hq;have hJ0:J=(0,0,[]):=(by rw [← HJ.out];unfold joinR;rw [if_neg];rintro ⟨_,_,_,h,_⟩;exact h (Or.inr hq));obtain ⟨wy,hy,FX,⟨z0,z1,z2⟩,⟨fz0,fz1,fz2⟩,fd0,fd1,fd2⟩:=finG B22 X2 (by omega) 0 0 (.slice none 0 0);subst hJ0;clear hq;go_wp2_with fail;exact bodyPost_ret (v:=grV 0 0 (.slice none 0 0)) (by simp [results,Tryd.results7,go_sem,fd0,fd1,fd2]) rfl ⟨_,rfl,World.ownsRow_nil _ _ _ _,FX⟩
      ·have q3:decide (rt > cb)=false:=decide_eq_false hq;have q3':decide (cb<rt)=false:=decide_eq_false hq;have nq3:=hq;clear hq;by_cases hq:cb=1
       ·have q4:(cb == 1)=true:=(by simpa using hq);have hJ0:J=(0,0,[]):=(by rw [← HJ.out];unfold joinR;rw [if_neg];rintro ⟨_,_,_,_,h⟩;exact h hq);obtain ⟨wy,hy,FX,⟨z0,z1,z2⟩,⟨fz0,fz1,fz2⟩,fd0,fd1,fd2⟩:=finG B22 X2 (by omega) 0 0 (.slice none 0 0);subst hJ0;clear hq;go_wp2_with fail;exact bodyPost_ret (v:=grV 0 0 (.slice none 0 0)) (by simp [results,Tryd.results7,go_sem,fd0,fd1,fd2]) rfl ⟨_,rfl,World.ownsRow_nil _ _ _ _,FX⟩
       ·have q4:(cb == 1)=false:=(by simpa using hq);have nq4:=hq;clear hq;have HJN:Hid (J=joinN la ra.toNat ca.toNat lb rb.toNat cb.toNat lt.toNat rt.toNat):=(by show _=_;rw [← HJ.out];unfold joinR;rw [if_pos ⟨HGA.out,HGB.out,by omega,by omega,nq4⟩]);have hga:=(goodG_all HGA.out).2.1;have hgb:=(goodG_all HGB.out).2.1;obtain ⟨RA,CA,hra,hca,hla,la1,la2,la3,la4,la5⟩:=good_dims HGA.out;obtain ⟨RB,CB,hrb,hcb,hlb,lb1,lb2,lb3,lb4,lb5⟩:=good_dims HGB.out;obtain ⟨LT,hLT⟩:=Int.eq_ofNat_of_zero_le (show 0≤lt by omega);obtain ⟨RT,hRT⟩:=Int.eq_ofNat_of_zero_le (show 0≤rt by omega);subst hra hca hrb hcb hLT hRT;simp only [Int.toNat_natCast] at HJN;have t1:1≤LT:=(by omega);have t2:LT≤CA:=(by omega);have t3:1≤RT:=(by omega);have t4:RT≤CB:=(by omega);have t5:2≤CB:=(by omega);have k1:decide (CA<LT)=false:=decide_eq_false (by omega);have k2:decide (CB<RT)=false:=decide_eq_false (by omega);have hNA:=HNA.out;have hNB:=HNB.out;rw [hla] at hNA;rw [hlb] at hNB;have la5':RA≤2000:=(by omega);have lb5':RB≤2000:=(by omega);have pna:1≤na:=(by rw [← hNA];exact Nat.le_trans la3 (Nat.le_mul_of_pos_left _ (by omega)));have pnb:1≤nb:=(by rw [← hNB];exact Nat.le_trans lb3 (Nat.le_mul_of_pos_left _ (by omega)));obtain ⟨ba,oa,epa,rowA⟩:=HRA.out (by omega);obtain ⟨bb,ob,epb,rowB⟩:=HRB.out (by omega);subst epa epb;have HRWA:Hid (RowV w ba oa la):=rowA;have HRWB:Hid (RowV w bb ob lb):=rowB;obtain ⟨C,hC⟩:∃ C,CA+CB - 1=C:=⟨_,rfl⟩;have hC1:(CA:Int)+(CB:Int)=(C:Int)+1:=(by omega);have C1:2≤C:=(by omega);have C2:C≤4000:=(by omega);have HCV:Hid (CA+CB - 1=C):=hC;have HNA2:Hid (RA * CA=na):=hNA;have HNB2:Hid (RB * CB=nb):=hNB;have na2:na≤2000:=(by omega);have nb2:nb≤2000:=(by omega);have HGDA:Hid (∀ e ∈ la,e.good=true∧e.room):=fun e he=>⟨hga e he,R1.out e he⟩;have HGDB:Hid (∀ e ∈ lb,e.good=true∧e.room):=fun e he=>⟨hgb e he,R2.out e he⟩;have HPB:Hid (prsJ la RA CA lb RB CB LT RT=prsS la lb CA CB RB LT RT RA):=prs_both hla hlb hga hgb t1 t2 t3 t4;have D0:=vec_made w2 [.int .i64 0,.int .i64 (C:Int),.slice none 0 0] 25;have D1:=x1 w2 (.cells #[.int .i64 0,.int .i64 (C:Int),.slice none 0 0] 25);change Vec (w2.alloc (.cells #[.int .i64 0,.int .i64 (C:Int),.slice none 0 0] 25)) _ _ at D0;clear HGA HGB hga hgb nq0 nq1 nq2 nq3 nq4 lt1 lt2 rt1 rt2 HJ CGA CGB R1 R2 hC hla hlb HRA HRB rowA rowB hNA hNB;go_wp2_with fail;obtain ⟨u3,hu3⟩:∃ u,w2.alloc (.cells #[.int .i64 0,.int .i64 (C:Int),.slice none 0 0] 25)=u:=⟨_,rfl⟩;rw [hu3] at D0 D1 ⊢;obtain ⟨d,hd⟩:∃ d,w2.heap.size=d:=⟨_,rfl⟩;rw [hd] at D0 ⊢;have dd:w.heap.size+1+1<d:=(by omega);have HO:Hid (OutJ w d [.int .i64 (RA:Int),.int .i64 (CA:Int),.slice (some ⟨ba,oa,none⟩) na ca'] [.int .i64 (RB:Int),.int .i64 (CB:Int),.slice (some ⟨bb,ob,none⟩) nb cb'] 0 C [] none 0 u3):=⟨xt X2 D1,dd,by rw [← hu3,World.size_alloc,hd];exact Nat.le_refl _,B02.later D1,B12.later D1,B22.later D1,D0,World.ownsRow_nil _ _ _ _⟩;have HX3:Hid (Ext w u3):=xt X2 D1;clear a0 a1 a2 b0 b1 b2 q0 q1 q1' q2 q3 q3' q4 hC1 hu3 hd D0 D1 B02 B12 B22 X2 X1 e1 e2 s2 SZ2;go_loopw [10] (fun i wr=>∃ x:Nat,x≤RA∧i=.int .i64 x∧Hid (∃ p cc,OutJ w d [.int .i64 (RA:Int),.int .i64 (CA:Int),.slice (some ⟨ba,oa,none⟩) na ca'] [.int .i64 (RB:Int),.int .i64 (CB:Int),.slice (some ⟨bb,ob,none⟩) nb cb'] (prsS la lb CA CB RB LT RT x).length C ((prsS la lb CA CB RB LT RT x).flatMap (fun q=>rowJ la lb CA CB RT q.1 q.2)) p cc wr)) (fun i _=>RA - (intOf i).toNat)
        case atStart=>exact ⟨0,by omega,rfl,none,0,HO.out⟩
        case round =>
         obtain ⟨x,hx,rfl,HI⟩:=hrel;obtain ⟨a0,a1,a2⟩:wr.cell? ⟨w.heap.size,0,none⟩=some (.int .i64 (RA:Int))∧wr.cell? ⟨w.heap.size,1,none⟩=some (.int .i64 (CA:Int))∧wr.cell? ⟨w.heap.size,2,none⟩=some (.slice (some ⟨ba,oa,none⟩) na ca'):=(by obtain ⟨p,cc,O⟩:=HI.out;exact Vec.three O.va);by_cases hlt:x<RA
         ·have i2:(x:Int)<(RA:Int):=(by omega);go_wp2_with fail;clear a0 a1 a2;go_loopw [11] (fun i wr=>∃ k:Nat,k≤RB∧i=.int .i64 k∧Hid (∃ p cc,OutJ w d [.int .i64 (RA:Int),.int .i64 (CA:Int),.slice (some ⟨ba,oa,none⟩) na ca'] [.int .i64 (RB:Int),.int .i64 (CB:Int),.slice (some ⟨bb,ob,none⟩) nb cb'] (prsS la lb CA CB RB LT RT x++prsI la lb CA CB LT RT x k).length C ((prsS la lb CA CB RB LT RT x++prsI la lb CA CB LT RT x k).flatMap (fun q=>rowJ la lb CA CB RT q.1 q.2)) p cc wr)) (fun i _=>RB - (intOf i).toNat)
          case atStart=>exact ⟨0,by omega,rfl,by obtain ⟨p,cc,O⟩:=HI.out;exact ⟨p,cc,by simpa [prsI] using O⟩⟩
          case round =>
           obtain ⟨k,hk,rfl,HK⟩:=hrel;by_cases hkl:k<RB
           ·have i3:(k:Int)<(RB:Int):=(by omega);obtain ⟨p,cc,O⟩:=HK.out;have HO1:Hid (OutJ w d [.int .i64 (RA:Int),.int .i64 (CA:Int),.slice (some ⟨ba,oa,none⟩) na ca'] [.int .i64 (RB:Int),.int .i64 (CB:Int),.slice (some ⟨bb,ob,none⟩) nb cb'] _ C _ p cc wr):=O;obtain ⟨a0,a1,a2⟩:=Vec.three O.va;obtain ⟨b0,b1,b2⟩:=Vec.three O.vb;have HXW:Hid (Ext w wr):=O.ext;obtain ⟨m1,hm1⟩:∃ m,x * CA=m:=⟨_,rfl⟩;have hm1':(x:Int) * (CA:Int)=(m1:Int):=(by rw [← hm1];simp);have hm1b:m1+CA≤na:=(by rw [← HNA2.out,← hm1];have:=Nat.mul_le_mul_right CA (show x+1≤RA by omega);rw [Nat.add_mul,Nat.one_mul] at this;exact this);obtain ⟨ix,hix⟩:∃ z,m1+(LT - 1)=z:=⟨_,rfl⟩;have hix1:(m1:Int)+(LT:Int) - 1=(ix:Int):=(by omega);have hix2:(m1:Int)+(LT:Int)=(ix:Int)+1:=(by omega);have hixn:(ix:Int)<(na:Int):=(by omega);have hat:=cel_at (l:=la) (k:=ix) (by rw [HNA.out];omega);have hgm:=HGDA.out _ (cel_mem (l:=la) (k:=ix) (by rw [HNA.out];omega));obtain ⟨d0,d1,d2,d3,d4⟩:=(HRWA.out.later HXW.out).five hat;obtain ⟨e,he⟩:∃ e,cel la ix=e:=⟨_,rfl⟩;rw [he] at hgm d0 d1 d2 d3 d4;have HE:Hid (cel la (x * CA+(LT - 1))=e):=(by show _=_;rw [hm1,hix];exact he);have HGM:Hid (e.good=true∧e.room):=hgm;obtain ⟨m2,hm2⟩:∃ m,k * CB=m:=⟨_,rfl⟩;have hm2':(k:Int) * (CB:Int)=(m2:Int):=(by rw [← hm2];simp);have hm2b:m2+CB≤nb:=(by rw [← HNB2.out,← hm2];have:=Nat.mul_le_mul_right CB (show k+1≤RB by omega);rw [Nat.add_mul,Nat.one_mul] at this;exact this);obtain ⟨iy,hiy⟩:∃ z,m2+(RT - 1)=z:=⟨_,rfl⟩;have hiy1:(m2:Int)+(RT:Int) - 1=(iy:Int):=(by omega);have hiy2:(m2:Int)+(RT:Int)=(iy:Int)+1:=(by omega);have hiyn:(iy:Int)<(nb:Int):=(by omega);have hbt:=cel_at (l:=lb) (k:=iy) (by rw [HNB.out];omega);have hgn:=HGDB.out _ (cel_mem (l:=lb) (k:=iy) (by rw [HNB.out];omega));obtain ⟨f,hf⟩:∃ f,cel lb iy=f:=⟨_,rfl⟩;rw [hf] at hbt hgn;have HF:Hid (cel lb (k * CB+(RT - 1))=f):=(by show _=_;rw [hm2,hiy];exact hf);have HGN:Hid (f.good=true∧f.room):=hgn;have HBT:Hid (lb[iy]?=some f):=hbt;have HM1:Hid (x * CA=m1):=hm1;have HM2:Hid (k * CB=m2):=hm2;have ub:=vec_made wr (valL e.k e.n e.d e.x e.t) 46;have ux:=x1 wr (.cells #[.int .i64 e.k,.bool e.n,.int .i64 e.d,.int .i64 e.x,sV e.t] 46);change Vec (wr.alloc (.cells #[.int .i64 e.k,.bool e.n,.int .i64 e.d,.int .i64 e.x,sV e.t] 46)) _ _ at ub;obtain ⟨u1,hu1⟩:∃ u,wr.alloc (.cells #[.int .i64 e.k,.bool e.n,.int .i64 e.d,.int .i64 e.x,sV e.t] 46)=u:=⟨_,rfl⟩;rw [hu1] at ub ux;have HO2:Hid (OutJ w d [.int .i64 (RA:Int),.int .i64 (CA:Int),.slice (some ⟨ba,oa,none⟩) na ca'] [.int .i64 (RB:Int),.int .i64 (CB:Int),.slice (some ⟨bb,ob,none⟩) nb cb'] _ C _ p cc u1):=HO1.out.later ux;have HUB:Hid (Vec u1 wr.heap.size (valL e.k e.n e.d e.x e.t)):=ub;obtain ⟨bx,hbx⟩:∃ z,wr.heap.size=z:=⟨_,rfl⟩;clear hm1 hm2 hix hiy hat he hf hbt hgm hgn O;go_wp2_with fail;rw [hbx] at HUB;clear a0 a1 a2 b0 b1 b2 d0 d1 d2 d3 d4 hu1 hbx ub ux HO1 HK HXW hix1 hix2 hm1';by_cases hk0:e.k=0
            ·have hk1:(e.k == 0)=true:=(by simpa using hk0);have HGO:Hid (goesB la lb CA CB LT RT x k=false):=(by show _=_;unfold goesB;rw [HE.out,hk0];simp);clear hk0;refine wp_region_letters_g (fun lx:Nat→Value=>{ tmps:=#[grV ((RA:Int)) ((CA:Int)) (Value.slice (some ⟨ba,oa,none⟩) na ca'),grV ((RB:Int)) ((CB:Int)) (Value.slice (some ⟨bb,ob,none⟩) nb cb'),Value.int .i64 (LT:Int),Value.int .i64 (RT:Int),Value.pointer (some ⟨w.heap.size,0,none⟩),Value.pointer (some ⟨w.heap.size+1,0,none⟩),undef,undef,Value.pointer (some ⟨w.heap.size+1+1,0,none⟩),Value.pointer (some ⟨d,0,none⟩),Value.int .i64 (x:Int),Value.int .i64 (k:Int),Value.pointer (some ⟨bx,0,none⟩),u13,Value.agg #[Value.int .i64 (RA:Int),Value.int .i64 (CA:Int),Value.slice (some ⟨ba,oa,none⟩) na ca'],Value.bool true,Value.bool false,Value.bool false,Value.agg #[Value.int .i64 (RB:Int),Value.int .i64 (CB:Int),Value.slice (some ⟨bb,ob,none⟩) nb cb'],Value.bool true,Value.bool false,Value.bool false,Value.bool false,Value.int .i64 (LT:Int),Value.bool false,Value.bool false,Value.bool false,Value.int .i64 (LT:Int),Value.pointer (some ⟨w.heap.size,1,none⟩),Value.int .i64 (CA:Int),Value.bool false,Value.bool false,Value.bool false,Value.int .i64 (RT:Int),Value.bool false,Value.bool false,Value.bool false,Value.int .i64 (RT:Int),Value.pointer (some ⟨w.heap.size+1,1,none⟩),Value.int .i64 (CB:Int),Value.bool false,Value.bool false,Value.bool false,Value.pointer (some ⟨w.heap.size+1,1,none⟩),Value.int .i64 (CB:Int),Value.bool false,Value.bool false,undef,Value.pointer (some ⟨w.heap.size,1,none⟩),Value.int .i64 (CA:Int),Value.pointer (some ⟨w.heap.size+1,1,none⟩),Value.int .i64 (CB:Int),Value.int .i64 ((C:Int)+1),Value.int .i64 (C:Int),Value.agg #[Value.int .i64 0,Value.int .i64 (C:Int),Value.slice none 0 0],Value.int .i64 (x:Int),Value.pointer (some ⟨w.heap.size,0,none⟩),Value.int .i64 (RA:Int),Value.bool true,u59,u60,Value.int .i64 (k:Int),Value.pointer (some ⟨w.heap.size+1,0,none⟩),Value.int .i64 (RB:Int),Value.bool true,u65,u66,Value.pointer (some ⟨w.heap.size,2,none⟩),Value.slice (some ⟨ba,oa,none⟩) na ca',Value.int .i64 (x:Int),Value.pointer (some ⟨w.heap.size,1,none⟩),Value.int .i64 (CA:Int),Value.int .i64 (m1:Int),Value.int .i64 (LT:Int),Value.int .i64 ((ix:Int)+1),Value.int .i64 (ix:Int),Value.pointer (some ⟨ba,oa+ix * 5,none⟩),Value.agg #[Value.int .i64 e.k,Value.bool e.n,Value.int .i64 e.d,Value.int .i64 e.x,sV e.t],lx 78,lx 79,lx 80,lx 81,lx 82,lx 83,lx 84,lx 85,lx 86,lx 87,lx 88,lx 89,lx 90,lx 91,lx 92,lx 93,lx 94,lx 95,lx 96,u97,u98,u99,u100,u101,u102,u103,u104,u105,u106,u107,u108,u109,u110,u111,u112,u113,u114,u115,u116,u117,u118,u119,u120,u121,u122,u123,u124,u125,u126,u127,u128,u129,u130,u131,u132,u133,u134,u135,u136,u137,u138,u139,u140,u141,u142,u143,undef,undef,undef,undef,undef,undef,undef,undef,undef,undef,undef,undef,undef],defers:=[] }) (fun L lx lw=>Hid (Ext u1 lw∧(L 0=true→lx 78=.pointer (some ⟨bx,0,none⟩))∧(L 1=true→lx 79=.int .i64 e.k)∧(L 2=true→lx 80=.bool true)∧(L 3=true→lx 81=.bool true)∧(L 4=true→lx 82=undef)∧(L 5=true→lx 83=undef)∧(L 6=true→lx 84=undef)∧(L 7=true→lx 85=undef)∧(L 8=true→lx 86=undef)∧(L 9=true→lx 87=undef)∧(L 10=true→lx 88=undef)∧(L 11=true→lx 89=undef)∧(L 12=true→lx 90=undef)∧(L 13=true→lx 91=undef)∧(L 14=true→lx 92=undef)∧(L 15=true→lx 93=undef)∧(L 16=true→lx 94=undef)∧(L 17=true→lx 95=undef)∧(L 18=true→lx 96=.bool true))) rfl (by kernel_rfl) (fun jj=>if jj=78 then u78 else if jj=79 then u79 else if jj=80 then u80 else if jj=81 then u81 else if jj=82 then u82 else if jj=83 then u83 else if jj=84 then u84 else if jj=85 then u85 else if jj=86 then u86 else if jj=87 then u87 else if jj=88 then u88 else if jj=89 then u89 else if jj=90 then u90 else if jj=91 then u91 else if jj=92 then u92 else if jj=93 then u93 else if jj=94 then u94 else if jj=95 then u95 else if jj=96 then u96 else undef) rfl ?_ ?_ ?_
             ·refine ⟨xd (xr _),?_,?_,?_,?_,?_,?_,?_,?_,?_,?_,?_,?_,?_,?_,?_,?_,?_,?_,?_⟩ <;> (intro h;cases h)
             ·intro L lx wl i o K hK ho hL haf hI;obtain ⟨X5,f0,f1,f2,f3,f4,f5,f6,f7,f8,f9,f10,f11,f12,f13,f14,f15,f16,f17,f18⟩:=hI.out
              match i,ho,hL,haf,hK with
              | 0,ho,hL,haf,hK =>
               cases ho
               (try dsimp only)
               refine Eq.mpr (if_pos (by rfl)) ?_
               (try dsimp only)
               go_wp2_with fail;exact hK (fun jj=>if jj=78 then .pointer (some ⟨bx,0,none⟩) else lx jj) _ ⟨X5,(fun _=>rfl),f1,f2,f3,f4,f5,f6,f7,f8,f9,f10,f11,f12,f13,f14,f15,f16,f17,f18⟩
              | 1,ho,hL,haf,hK =>
               cases ho
               (try dsimp only)
               rw [f0 (haf ⟨0,.data⟩ (by simp) rfl)];refine Eq.mpr (if_pos (by rfl)) ?_
               (try dsimp only)
               obtain ⟨c0,c1,c2,c3,c4⟩:=Vec.five (HUB.out.later X5);go_wp2_with fail;exact hK (fun jj=>if jj=79 then .int .i64 e.k else if jj=78 then .pointer (some ⟨bx,0,none⟩) else lx jj) _ ⟨X5,(fun _=>rfl),(fun _=>rfl),f2,f3,f4,f5,f6,f7,f8,f9,f10,f11,f12,f13,f14,f15,f16,f17,f18⟩
              | 2,ho,hL,haf,hK =>
               cases ho
               (try dsimp only)
               rw [f1 (haf ⟨1,.data⟩ (by simp) rfl)];refine Eq.mpr (if_pos (by rfl)) ?_
               (try dsimp only)
               go_wp2_with fail;exact hK (fun jj=>if jj=80 then .bool true else if jj=79 then .int .i64 e.k else lx jj) _ ⟨X5,f0,(fun _=>rfl),(fun _=>rfl),f3,f4,f5,f6,f7,f8,f9,f10,f11,f12,f13,f14,f15,f16,f17,f18⟩
              | 3,ho,hL,haf,hK =>
               cases ho
               (try dsimp only)
               rw [f2 (haf ⟨2,.data⟩ (by simp) rfl)];refine Eq.mpr (if_pos (by rfl)) ?_
               (try dsimp only)
               go_wp2_with fail;exact hK (fun jj=>if jj=81 then .bool true else if jj=80 then .bool true else lx jj) _ ⟨X5,f0,f1,(fun _=>rfl),(fun _=>rfl),f4,f5,f6,f7,f8,f9,f10,f11,f12,f13,f14,f15,f16,f17,f18⟩
              | 4,ho,hL,haf,hK =>
               cases ho
               (try dsimp only)
               rw [f3 (haf ⟨3,.guard⟩ (by simp) rfl)];refine Eq.mpr (if_neg (fun h=>Bool.noConfusion (show false=true from h))) ?_;exact hK (fun jj=>if jj=82 then undef else if jj=81 then .bool true else lx jj) _ ⟨X5,f0,f1,f2,(fun _=>rfl),(fun _=>rfl),f5,f6,f7,f8,f9,f10,f11,f12,f13,f14,f15,f16,f17,f18⟩
              | 5,ho,hL,haf,hK =>
               cases ho
               (try dsimp only)
               rw [f3 (haf ⟨3,.guard⟩ (by simp) rfl)];refine Eq.mpr (if_neg (fun h=>Bool.noConfusion (show false=true from h))) ?_;exact hK (fun jj=>if jj=83 then undef else if jj=81 then .bool true else lx jj) _ ⟨X5,f0,f1,f2,(fun _=>rfl),f4,(fun _=>rfl),f6,f7,f8,f9,f10,f11,f12,f13,f14,f15,f16,f17,f18⟩
              | 6,ho,hL,haf,hK =>
               cases ho
               (try dsimp only)
               rw [f3 (haf ⟨3,.guard⟩ (by simp) rfl)];refine Eq.mpr (if_neg (fun h=>Bool.noConfusion (show false=true from h))) ?_;exact hK (fun jj=>if jj=84 then undef else if jj=81 then .bool true else lx jj) _ ⟨X5,f0,f1,f2,(fun _=>rfl),f4,f5,(fun _=>rfl),f7,f8,f9,f10,f11,f12,f13,f14,f15,f16,f17,f18⟩
              | 7,ho,hL,haf,hK =>
               cases ho
               (try dsimp only)
               rw [f3 (haf ⟨3,.guard⟩ (by simp) rfl)];refine Eq.mpr (if_neg (fun h=>Bool.noConfusion (show false=true from h))) ?_;exact hK (fun jj=>if jj=85 then undef else if jj=81 then .bool true else lx jj) _ ⟨X5,f0,f1,f2,(fun _=>rfl),f4,f5,f6,(fun _=>rfl),f8,f9,f10,f11,f12,f13,f14,f15,f16,f17,f18⟩
              | 8,ho,hL,haf,hK =>
               cases ho
               (try dsimp only)
               rw [f3 (haf ⟨3,.guard⟩ (by simp) rfl)];refine Eq.mpr (if_neg (fun h=>Bool.noConfusion (show false=true from h))) ?_;exact hK (fun jj=>if jj=86 then undef else if jj=81 then .bool true else lx jj) _ ⟨X5,f0,f1,f2,(fun _=>rfl),f4,f5,f6,f7,(fun _=>rfl),f9,f10,f11,f12,f13,f14,f15,f16,f17,f18⟩
              | 9,ho,hL,haf,hK =>
               cases ho
               (try dsimp only)
               rw [f3 (haf ⟨3,.guard⟩ (by simp) rfl)];refine Eq.mpr (if_neg (fun h=>Bool.noConfusion (show false=true from h))) ?_;exact hK (fun jj=>if jj=87 then undef else if jj=81 then .bool true else lx jj) _ ⟨X5,f0,f1,f2,(fun _=>rfl),f4,f5,f6,f7,f8,(fun _=>rfl),f10,f11,f12,f13,f14,f15,f16,f17,f18⟩
              | 10,ho,hL,haf,hK =>
               cases ho
               (try dsimp only)
               rw [f3 (haf ⟨3,.guard⟩ (by simp) rfl)];refine Eq.mpr (if_neg (fun h=>Bool.noConfusion (show false=true from h))) ?_;exact hK (fun jj=>if jj=88 then undef else if jj=81 then .bool true else lx jj) _ ⟨X5,f0,f1,f2,(fun _=>rfl),f4,f5,f6,f7,f8,f9,(fun _=>rfl),f11,f12,f13,f14,f15,f16,f17,f18⟩
              | 11,ho,hL,haf,hK =>
               cases ho
               (try dsimp only)
               rw [f3 (haf ⟨3,.guard⟩ (by simp) rfl)];refine Eq.mpr (if_neg (fun h=>Bool.noConfusion (show false=true from h))) ?_;exact hK (fun jj=>if jj=89 then undef else if jj=81 then .bool true else lx jj) _ ⟨X5,f0,f1,f2,(fun _=>rfl),f4,f5,f6,f7,f8,f9,f10,(fun _=>rfl),f12,f13,f14,f15,f16,f17,f18⟩
              | 12,ho,hL,haf,hK =>
               cases ho
               (try dsimp only)
               rw [f3 (haf ⟨3,.guard⟩ (by simp) rfl)];refine Eq.mpr (if_neg (fun h=>Bool.noConfusion (show false=true from h))) ?_;exact hK (fun jj=>if jj=90 then undef else if jj=81 then .bool true else lx jj) _ ⟨X5,f0,f1,f2,(fun _=>rfl),f4,f5,f6,f7,f8,f9,f10,f11,(fun _=>rfl),f13,f14,f15,f16,f17,f18⟩
              | 13,ho,hL,haf,hK =>
               cases ho
               (try dsimp only)
               rw [f3 (haf ⟨3,.guard⟩ (by simp) rfl)];refine Eq.mpr (if_neg (fun h=>Bool.noConfusion (show false=true from h))) ?_;exact hK (fun jj=>if jj=91 then undef else if jj=81 then .bool true else lx jj) _ ⟨X5,f0,f1,f2,(fun _=>rfl),f4,f5,f6,f7,f8,f9,f10,f11,f12,(fun _=>rfl),f14,f15,f16,f17,f18⟩
              | 14,ho,hL,haf,hK =>
               cases ho
               (try dsimp only)
               rw [f3 (haf ⟨3,.guard⟩ (by simp) rfl)];refine Eq.mpr (if_neg (fun h=>Bool.noConfusion (show false=true from h))) ?_;exact hK (fun jj=>if jj=92 then undef else if jj=81 then .bool true else lx jj) _ ⟨X5,f0,f1,f2,(fun _=>rfl),f4,f5,f6,f7,f8,f9,f10,f11,f12,f13,(fun _=>rfl),f15,f16,f17,f18⟩
              | 15,ho,hL,haf,hK =>
               cases ho
               (try dsimp only)
               rw [f3 (haf ⟨3,.guard⟩ (by simp) rfl)];refine Eq.mpr (if_neg (fun h=>Bool.noConfusion (show false=true from h))) ?_;exact hK (fun jj=>if jj=93 then undef else if jj=81 then .bool true else lx jj) _ ⟨X5,f0,f1,f2,(fun _=>rfl),f4,f5,f6,f7,f8,f9,f10,f11,f12,f13,f14,(fun _=>rfl),f16,f17,f18⟩
              | 16,ho,hL,haf,hK =>
               cases ho
               (try dsimp only)
               rw [f3 (haf ⟨3,.guard⟩ (by simp) rfl)];refine Eq.mpr (if_neg (fun h=>Bool.noConfusion (show false=true from h))) ?_;exact hK (fun jj=>if jj=94 then undef else if jj=81 then .bool true else lx jj) _ ⟨X5,f0,f1,f2,(fun _=>rfl),f4,f5,f6,f7,f8,f9,f10,f11,f12,f13,f14,f15,(fun _=>rfl),f17,f18⟩
              | 17,ho,hL,haf,hK =>
               cases ho
               (try dsimp only)
               rw [f3 (haf ⟨3,.guard⟩ (by simp) rfl)];refine Eq.mpr (if_neg (fun h=>Bool.noConfusion (show false=true from h))) ?_;exact hK (fun jj=>if jj=95 then undef else if jj=81 then .bool true else lx jj) _ ⟨X5,f0,f1,f2,(fun _=>rfl),f4,f5,f6,f7,f8,f9,f10,f11,f12,f13,f14,f15,f16,(fun _=>rfl),f18⟩
              | 18,ho,hL,haf,hK =>
               cases ho
               (try dsimp only)
               rw [f3 (haf ⟨3,.data⟩ (by simp) rfl)];refine Eq.mpr (if_pos (by rfl)) ?_
               (try dsimp only)
               go_wp2_with fail;exact hK (fun jj=>if jj=96 then .bool true else if jj=81 then .bool true else lx jj) _ ⟨X5,f0,f1,f2,(fun _=>rfl),f4,f5,f6,f7,f8,f9,f10,f11,f12,f13,f14,f15,f16,f17,(fun _=>rfl)⟩
              | k+19,ho,_,_,_=>simp at ho
             ·intro L lx w4 hall hI;obtain ⟨X5,f0,f1,f2,f3,f4,f5,f6,f7,f8,f9,f10,f11,f12,f13,f14,f15,f16,f17,f18⟩:=hI.out
              (try dsimp only)
              rw [f0 (hall 0 (by simp)),f1 (hall 1 (by simp)),f2 (hall 2 (by simp)),f3 (hall 3 (by simp)),f4 (hall 4 (by simp)),f5 (hall 5 (by simp)),f6 (hall 6 (by simp)),f7 (hall 7 (by simp)),f8 (hall 8 (by simp)),f9 (hall 9 (by simp)),f10 (hall 10 (by simp)),f11 (hall 11 (by simp)),f12 (hall 12 (by simp)),f13 (hall 13 (by simp)),f14 (hall 14 (by simp)),f15 (hall 15 (by simp)),f16 (hall 16 (by simp)),f17 (hall 17 (by simp)),f18 (hall 18 (by simp))];clear hI hall f0 f1 f2 f3 f4 f5 f6 f7 f8 f9 f10 f11 f12 f13 f14 f15 f16 f17 f18;have HF2:Hid (∃ p cc,OutJ w d [.int .i64 (RA:Int),.int .i64 (CA:Int),.slice (some ⟨ba,oa,none⟩) na ca'] [.int .i64 (RB:Int),.int .i64 (CB:Int),.slice (some ⟨bb,ob,none⟩) nb cb'] (prsS la lb CA CB RB LT RT x++prsI la lb CA CB LT RT x (k+1)).length C ((prsS la lb CA CB RB LT RT x++prsI la lb CA CB LT RT x (k+1)).flatMap (fun q=>rowJ la lb CA CB RT q.1 q.2)) p cc w4):=by
               show ∃ p cc,_;rw [prsI_succ,if_neg (by rw [HGO.out];simp),List.append_nil];exact ⟨p,cc,HO2.out.later X5⟩
              clear HO2 HUB HI X5;go_wp2_with fail;go_roundw
              case rel=>exact ⟨k+1,by omega,by go_num,HF2⟩
              case measure=>simp [intOf];omega
            ·have hk1:(e.k == 0)=false:=(by simpa using hk0);have HK0:Hid (e.k ≠ 0):=hk0;clear hk0;cases hq:likeB e f with
             | false =>
              have CSM:Hid (∀ W,Calls Tryd.prog 18 #[e.val,f.val] W fun r w'=>r=.returned (.bool false)∧Ext W w'):=fun W=>(by rw [← hq];exact sameS e f W HGM.out.2.1 HGN.out.2.1 HGM.out.1 HGN.out.1);have HGO:Hid (goesB la lb CA CB LT RT x k=false):=(by show _=_;unfold goesB;rw [HE.out,HF.out,hq,Bool.and_false]);clear hq;refine wp_region_letters_g (fun lx:Nat→Value=>{ tmps:=#[grV ((RA:Int)) ((CA:Int)) (Value.slice (some ⟨ba,oa,none⟩) na ca'),grV ((RB:Int)) ((CB:Int)) (Value.slice (some ⟨bb,ob,none⟩) nb cb'),Value.int .i64 (LT:Int),Value.int .i64 (RT:Int),Value.pointer (some ⟨w.heap.size,0,none⟩),Value.pointer (some ⟨w.heap.size+1,0,none⟩),undef,undef,Value.pointer (some ⟨w.heap.size+1+1,0,none⟩),Value.pointer (some ⟨d,0,none⟩),Value.int .i64 (x:Int),Value.int .i64 (k:Int),Value.pointer (some ⟨bx,0,none⟩),u13,Value.agg #[Value.int .i64 (RA:Int),Value.int .i64 (CA:Int),Value.slice (some ⟨ba,oa,none⟩) na ca'],Value.bool true,Value.bool false,Value.bool false,Value.agg #[Value.int .i64 (RB:Int),Value.int .i64 (CB:Int),Value.slice (some ⟨bb,ob,none⟩) nb cb'],Value.bool true,Value.bool false,Value.bool false,Value.bool false,Value.int .i64 (LT:Int),Value.bool false,Value.bool false,Value.bool false,Value.int .i64 (LT:Int),Value.pointer (some ⟨w.heap.size,1,none⟩),Value.int .i64 (CA:Int),Value.bool false,Value.bool false,Value.bool false,Value.int .i64 (RT:Int),Value.bool false,Value.bool false,Value.bool false,Value.int .i64 (RT:Int),Value.pointer (some ⟨w.heap.size+1,1,none⟩),Value.int .i64 (CB:Int),Value.bool false,Value.bool false,Value.bool false,Value.pointer (some ⟨w.heap.size+1,1,none⟩),Value.int .i64 (CB:Int),Value.bool false,Value.bool false,undef,Value.pointer (some ⟨w.heap.size,1,none⟩),Value.int .i64 (CA:Int),Value.pointer (some ⟨w.heap.size+1,1,none⟩),Value.int .i64 (CB:Int),Value.int .i64 ((C:Int)+1),Value.int .i64 (C:Int),Value.agg #[Value.int .i64 0,Value.int .i64 (C:Int),Value.slice none 0 0],Value.int .i64 (x:Int),Value.pointer (some ⟨w.heap.size,0,none⟩),Value.int .i64 (RA:Int),Value.bool true,u59,u60,Value.int .i64 (k:Int),Value.pointer (some ⟨w.heap.size+1,0,none⟩),Value.int .i64 (RB:Int),Value.bool true,u65,u66,Value.pointer (some ⟨w.heap.size,2,none⟩),Value.slice (some ⟨ba,oa,none⟩) na ca',Value.int .i64 (x:Int),Value.pointer (some ⟨w.heap.size,1,none⟩),Value.int .i64 (CA:Int),Value.int .i64 (m1:Int),Value.int .i64 (LT:Int),Value.int .i64 ((ix:Int)+1),Value.int .i64 (ix:Int),Value.pointer (some ⟨ba,oa+ix * 5,none⟩),Value.agg #[Value.int .i64 e.k,Value.bool e.n,Value.int .i64 e.d,Value.int .i64 e.x,sV e.t],lx 78,lx 79,lx 80,lx 81,lx 82,lx 83,lx 84,lx 85,lx 86,lx 87,lx 88,lx 89,lx 90,lx 91,lx 92,lx 93,lx 94,lx 95,lx 96,u97,u98,u99,u100,u101,u102,u103,u104,u105,u106,u107,u108,u109,u110,u111,u112,u113,u114,u115,u116,u117,u118,u119,u120,u121,u122,u123,u124,u125,u126,u127,u128,u129,u130,u131,u132,u133,u134,u135,u136,u137,u138,u139,u140,u141,u142,u143,undef,undef,undef,undef,undef,undef,undef,undef,undef,undef,undef,undef,undef],defers:=[] }) (fun L lx lw=>Hid (Ext u1 lw∧(L 0=true→lx 78=.pointer (some ⟨bx,0,none⟩))∧(L 1=true→lx 79=.int .i64 e.k)∧(L 2=true→lx 80=.bool false)∧(L 3=true→lx 81=.bool false)∧(L 4=true→lx 82=.agg #[.int .i64 e.k,.bool e.n,.int .i64 e.d,.int .i64 e.x,sV e.t])∧(L 5=true→lx 83=.pointer (some ⟨w.heap.size+1,2,none⟩))∧(L 6=true→lx 84=.slice (some ⟨bb,ob,none⟩) nb cb')∧(L 7=true→lx 85=.int .i64 (k:Int))∧(L 8=true→lx 86=.pointer (some ⟨w.heap.size+1,1,none⟩))∧(L 9=true→lx 87=.int .i64 (CB:Int))∧(L 10=true→lx 88=.int .i64 (m2:Int))∧(L 11=true→lx 89=.int .i64 (RT:Int))∧(L 12=true→lx 90=.int .i64 ((iy:Int)+1))∧(L 13=true→lx 91=.int .i64 (iy:Int))∧(L 14=true→lx 92=.pointer (some ⟨bb,ob+iy * 5,none⟩))∧(L 15=true→lx 93=.agg #[.int .i64 f.k,.bool f.n,.int .i64 f.d,.int .i64 f.x,sV f.t])∧(L 16=true→lx 94=.bool false)∧(L 17=true→lx 95=.bool true)∧(L 18=true→lx 96=.bool true))) rfl (by kernel_rfl) (fun jj=>if jj=78 then u78 else if jj=79 then u79 else if jj=80 then u80 else if jj=81 then u81 else if jj=82 then u82 else if jj=83 then u83 else if jj=84 then u84 else if jj=85 then u85 else if jj=86 then u86 else if jj=87 then u87 else if jj=88 then u88 else if jj=89 then u89 else if jj=90 then u90 else if jj=91 then u91 else if jj=92 then u92 else if jj=93 then u93 else if jj=94 then u94 else if jj=95 then u95 else if jj=96 then u96 else undef) rfl ?_ ?_ ?_
              ·refine ⟨xd (xr _),?_,?_,?_,?_,?_,?_,?_,?_,?_,?_,?_,?_,?_,?_,?_,?_,?_,?_,?_⟩ <;> (intro h;cases h)
              ·intro L lx wl i o K hK ho hL haf hI;obtain ⟨X5,f0,f1,f2,f3,f4,f5,f6,f7,f8,f9,f10,f11,f12,f13,f14,f15,f16,f17,f18⟩:=hI.out
               match i,ho,hL,haf,hK with
               | 0,ho,hL,haf,hK =>
                cases ho
                (try dsimp only)
                refine Eq.mpr (if_pos (by rfl)) ?_
                (try dsimp only)
                go_wp2_with fail;exact hK (fun jj=>if jj=78 then .pointer (some ⟨bx,0,none⟩) else lx jj) _ ⟨X5,(fun _=>rfl),f1,f2,f3,f4,f5,f6,f7,f8,f9,f10,f11,f12,f13,f14,f15,f16,f17,f18⟩
               | 1,ho,hL,haf,hK =>
                cases ho
                (try dsimp only)
                rw [f0 (haf ⟨0,.data⟩ (by simp) rfl)];refine Eq.mpr (if_pos (by rfl)) ?_
                (try dsimp only)
                obtain ⟨c0,c1,c2,c3,c4⟩:=Vec.five (HUB.out.later X5);go_wp2_with fail;exact hK (fun jj=>if jj=79 then .int .i64 e.k else if jj=78 then .pointer (some ⟨bx,0,none⟩) else lx jj) _ ⟨X5,(fun _=>rfl),(fun _=>rfl),f2,f3,f4,f5,f6,f7,f8,f9,f10,f11,f12,f13,f14,f15,f16,f17,f18⟩
               | 2,ho,hL,haf,hK =>
                cases ho
                (try dsimp only)
                rw [f1 (haf ⟨1,.data⟩ (by simp) rfl)];refine Eq.mpr (if_pos (by rfl)) ?_
                (try dsimp only)
                go_wp2_with fail;exact hK (fun jj=>if jj=80 then .bool false else if jj=79 then .int .i64 e.k else lx jj) _ ⟨X5,f0,(fun _=>rfl),(fun _=>rfl),f3,f4,f5,f6,f7,f8,f9,f10,f11,f12,f13,f14,f15,f16,f17,f18⟩
               | 3,ho,hL,haf,hK =>
                cases ho
                (try dsimp only)
                rw [f2 (haf ⟨2,.data⟩ (by simp) rfl)];refine Eq.mpr (if_pos (by rfl)) ?_
                (try dsimp only)
                go_wp2_with fail;exact hK (fun jj=>if jj=81 then .bool false else if jj=80 then .bool false else lx jj) _ ⟨X5,f0,f1,(fun _=>rfl),(fun _=>rfl),f4,f5,f6,f7,f8,f9,f10,f11,f12,f13,f14,f15,f16,f17,f18⟩
               | 4,ho,hL,haf,hK =>
                cases ho
                (try dsimp only)
                rw [f3 (haf ⟨3,.guard⟩ (by simp) rfl)];refine Eq.mpr (if_pos (by rfl)) ?_
                (try dsimp only)
                obtain ⟨c0,c1,c2,c3,c4⟩:=Vec.five (HUB.out.later X5);go_wp2_with fail;exact hK (fun jj=>if jj=82 then .agg #[.int .i64 e.k,.bool e.n,.int .i64 e.d,.int .i64 e.x,sV e.t] else if jj=81 then .bool false else lx jj) _ ⟨X5,f0,f1,f2,(fun _=>rfl),(fun _=>rfl),f5,f6,f7,f8,f9,f10,f11,f12,f13,f14,f15,f16,f17,f18⟩
               | 5,ho,hL,haf,hK =>
                cases ho
                (try dsimp only)
                rw [f3 (haf ⟨3,.guard⟩ (by simp) rfl)];refine Eq.mpr (if_pos (by rfl)) ?_
                (try dsimp only)
                go_wp2_with fail;exact hK (fun jj=>if jj=83 then .pointer (some ⟨w.heap.size+1,2,none⟩) else if jj=81 then .bool false else lx jj) _ ⟨X5,f0,f1,f2,(fun _=>rfl),f4,(fun _=>rfl),f6,f7,f8,f9,f10,f11,f12,f13,f14,f15,f16,f17,f18⟩
               | 6,ho,hL,haf,hK =>
                cases ho
                (try dsimp only)
                rw [f5 (haf ⟨5,.data⟩ (by simp) rfl),f3 (haf ⟨3,.guard⟩ (by simp) rfl)];refine Eq.mpr (if_pos (by rfl)) ?_
                (try dsimp only)
                obtain ⟨c0,c1,c2⟩:=Vec.three (HO2.out.vb.later X5);go_wp2_with fail;exact hK (fun jj=>if jj=84 then .slice (some ⟨bb,ob,none⟩) nb cb' else if jj=83 then .pointer (some ⟨w.heap.size+1,2,none⟩) else if jj=81 then .bool false else lx jj) _ ⟨X5,f0,f1,f2,(fun _=>rfl),f4,(fun _=>rfl),(fun _=>rfl),f7,f8,f9,f10,f11,f12,f13,f14,f15,f16,f17,f18⟩
               | 7,ho,hL,haf,hK =>
                cases ho
                (try dsimp only)
                rw [f3 (haf ⟨3,.guard⟩ (by simp) rfl)];refine Eq.mpr (if_pos (by rfl)) ?_
                (try dsimp only)
                go_wp2_with fail;exact hK (fun jj=>if jj=85 then .int .i64 (k:Int) else if jj=81 then .bool false else lx jj) _ ⟨X5,f0,f1,f2,(fun _=>rfl),f4,f5,f6,(fun _=>rfl),f8,f9,f10,f11,f12,f13,f14,f15,f16,f17,f18⟩
               | 8,ho,hL,haf,hK =>
                cases ho
                (try dsimp only)
                rw [f3 (haf ⟨3,.guard⟩ (by simp) rfl)];refine Eq.mpr (if_pos (by rfl)) ?_
                (try dsimp only)
                go_wp2_with fail;exact hK (fun jj=>if jj=86 then .pointer (some ⟨w.heap.size+1,1,none⟩) else if jj=81 then .bool false else lx jj) _ ⟨X5,f0,f1,f2,(fun _=>rfl),f4,f5,f6,f7,(fun _=>rfl),f9,f10,f11,f12,f13,f14,f15,f16,f17,f18⟩
               | 9,ho,hL,haf,hK =>
                cases ho
                (try dsimp only)
                rw [f8 (haf ⟨8,.data⟩ (by simp) rfl),f3 (haf ⟨3,.guard⟩ (by simp) rfl)];refine Eq.mpr (if_pos (by rfl)) ?_
                (try dsimp only)
                obtain ⟨c0,c1,c2⟩:=Vec.three (HO2.out.vb.later X5);go_wp2_with fail;exact hK (fun jj=>if jj=87 then .int .i64 (CB:Int) else if jj=86 then .pointer (some ⟨w.heap.size+1,1,none⟩) else if jj=81 then .bool false else lx jj) _ ⟨X5,f0,f1,f2,(fun _=>rfl),f4,f5,f6,f7,(fun _=>rfl),(fun _=>rfl),f10,f11,f12,f13,f14,f15,f16,f17,f18⟩
               | 10,ho,hL,haf,hK =>
                cases ho
                (try dsimp only)
                rw [f7 (haf ⟨7,.data⟩ (by simp) rfl),f9 (haf ⟨9,.data⟩ (by simp) rfl),f3 (haf ⟨3,.guard⟩ (by simp) rfl)];refine Eq.mpr (if_pos (by rfl)) ?_
                (try dsimp only)
                go_wp2_with fail;exact hK (fun jj=>if jj=88 then .int .i64 (m2:Int) else if jj=85 then .int .i64 (k:Int) else if jj=87 then .int .i64 (CB:Int) else if jj=81 then .bool false else lx jj) _ ⟨X5,f0,f1,f2,(fun _=>rfl),f4,f5,f6,(fun _=>rfl),f8,(fun _=>rfl),(fun _=>rfl),f11,f12,f13,f14,f15,f16,f17,f18⟩
               | 11,ho,hL,haf,hK =>
                cases ho
                (try dsimp only)
                rw [f3 (haf ⟨3,.guard⟩ (by simp) rfl)];refine Eq.mpr (if_pos (by rfl)) ?_
                (try dsimp only)
                go_wp2_with fail;exact hK (fun jj=>if jj=89 then .int .i64 (RT:Int) else if jj=81 then .bool false else lx jj) _ ⟨X5,f0,f1,f2,(fun _=>rfl),f4,f5,f6,f7,f8,f9,f10,(fun _=>rfl),f12,f13,f14,f15,f16,f17,f18⟩
               | 12,ho,hL,haf,hK =>
                cases ho
                (try dsimp only)
                rw [f10 (haf ⟨10,.data⟩ (by simp) rfl),f11 (haf ⟨11,.data⟩ (by simp) rfl),f3 (haf ⟨3,.guard⟩ (by simp) rfl)];refine Eq.mpr (if_pos (by rfl)) ?_
                (try dsimp only)
                go_wp2_with fail;exact hK (fun jj=>if jj=90 then .int .i64 ((iy:Int)+1) else if jj=88 then .int .i64 (m2:Int) else if jj=89 then .int .i64 (RT:Int) else if jj=81 then .bool false else lx jj) _ ⟨X5,f0,f1,f2,(fun _=>rfl),f4,f5,f6,f7,f8,f9,(fun _=>rfl),(fun _=>rfl),(fun _=>rfl),f13,f14,f15,f16,f17,f18⟩
               | 13,ho,hL,haf,hK =>
                cases ho
                (try dsimp only)
                rw [f12 (haf ⟨12,.data⟩ (by simp) rfl),f3 (haf ⟨3,.guard⟩ (by simp) rfl)];refine Eq.mpr (if_pos (by rfl)) ?_
                (try dsimp only)
                go_wp2_with fail;exact hK (fun jj=>if jj=91 then .int .i64 (iy:Int) else if jj=90 then .int .i64 ((iy:Int)+1) else if jj=81 then .bool false else lx jj) _ ⟨X5,f0,f1,f2,(fun _=>rfl),f4,f5,f6,f7,f8,f9,f10,f11,(fun _=>rfl),(fun _=>rfl),f14,f15,f16,f17,f18⟩
               | 14,ho,hL,haf,hK =>
                cases ho
                (try dsimp only)
                rw [f6 (haf ⟨6,.data⟩ (by simp) rfl),f13 (haf ⟨13,.data⟩ (by simp) rfl),f3 (haf ⟨3,.guard⟩ (by simp) rfl)];refine Eq.mpr (if_pos (by rfl)) ?_
                (try dsimp only)
                go_wp2_with fail;exact hK (fun jj=>if jj=92 then .pointer (some ⟨bb,ob+iy * 5,none⟩) else if jj=84 then .slice (some ⟨bb,ob,none⟩) nb cb' else if jj=91 then .int .i64 (iy:Int) else if jj=81 then .bool false else lx jj) _ ⟨X5,f0,f1,f2,(fun _=>rfl),f4,f5,(fun _=>rfl),f7,f8,f9,f10,f11,f12,(fun _=>rfl),(fun _=>rfl),f15,f16,f17,f18⟩
               | 15,ho,hL,haf,hK =>
                cases ho
                (try dsimp only)
                rw [f14 (haf ⟨14,.data⟩ (by simp) rfl),f3 (haf ⟨3,.guard⟩ (by simp) rfl)];refine Eq.mpr (if_pos (by rfl)) ?_
                (try dsimp only)
                obtain ⟨c0,c1,c2,c3,c4⟩:=(HRWB.out.later (xt HO2.out.ext X5)).five HBT.out;go_wp2_with fail;exact hK (fun jj=>if jj=93 then .agg #[.int .i64 f.k,.bool f.n,.int .i64 f.d,.int .i64 f.x,sV f.t] else if jj=92 then .pointer (some ⟨bb,ob+iy * 5,none⟩) else if jj=81 then .bool false else lx jj) _ ⟨X5,f0,f1,f2,(fun _=>rfl),f4,f5,f6,f7,f8,f9,f10,f11,f12,f13,(fun _=>rfl),(fun _=>rfl),f16,f17,f18⟩
               | 16,ho,hL,haf,hK =>
                cases ho
                (try dsimp only)
                rw [f4 (haf ⟨4,.data⟩ (by simp) rfl),f15 (haf ⟨15,.data⟩ (by simp) rfl),f3 (haf ⟨3,.guard⟩ (by simp) rfl)];refine Eq.mpr (if_pos (by rfl)) ?_
                (try dsimp only)
                go_wp2_with fail;refine (CSM.out wl).mono ?_;rintro rr w' ⟨rfl,E5⟩;go_wp2_with fail;exact hK (fun jj=>if jj=94 then .bool false else if jj=82 then .agg #[.int .i64 e.k,.bool e.n,.int .i64 e.d,.int .i64 e.x,sV e.t] else if jj=93 then .agg #[.int .i64 f.k,.bool f.n,.int .i64 f.d,.int .i64 f.x,sV f.t] else if jj=81 then .bool false else lx jj) _ ⟨(xt X5 E5),f0,f1,f2,(fun _=>rfl),(fun _=>rfl),f5,f6,f7,f8,f9,f10,f11,f12,f13,f14,(fun _=>rfl),(fun _=>rfl),f17,f18⟩
               | 17,ho,hL,haf,hK =>
                cases ho
                (try dsimp only)
                rw [f16 (haf ⟨16,.data⟩ (by simp) rfl),f3 (haf ⟨3,.guard⟩ (by simp) rfl)];refine Eq.mpr (if_pos (by rfl)) ?_
                (try dsimp only)
                go_wp2_with fail;exact hK (fun jj=>if jj=95 then .bool true else if jj=94 then .bool false else if jj=81 then .bool false else lx jj) _ ⟨X5,f0,f1,f2,(fun _=>rfl),f4,f5,f6,f7,f8,f9,f10,f11,f12,f13,f14,f15,(fun _=>rfl),(fun _=>rfl),f18⟩
               | 18,ho,hL,haf,hK =>
                cases ho
                (try dsimp only)
                rw [f3 (haf ⟨3,.data⟩ (by simp) rfl),f17 (haf ⟨17,.data⟩ (by simp) rfl)];refine Eq.mpr (if_pos (by rfl)) ?_
                (try dsimp only)
                go_wp2_with fail;exact hK (fun jj=>if jj=96 then .bool true else if jj=81 then .bool false else if jj=95 then .bool true else lx jj) _ ⟨X5,f0,f1,f2,(fun _=>rfl),f4,f5,f6,f7,f8,f9,f10,f11,f12,f13,f14,f15,f16,(fun _=>rfl),(fun _=>rfl)⟩
               | k+19,ho,_,_,_=>simp at ho
              ·intro L lx w4 hall hI;obtain ⟨X5,f0,f1,f2,f3,f4,f5,f6,f7,f8,f9,f10,f11,f12,f13,f14,f15,f16,f17,f18⟩:=hI.out
               (try dsimp only)
               rw [f0 (hall 0 (by simp)),f1 (hall 1 (by simp)),f2 (hall 2 (by simp)),f3 (hall 3 (by simp)),f4 (hall 4 (by simp)),f5 (hall 5 (by simp)),f6 (hall 6 (by simp)),f7 (hall 7 (by simp)),f8 (hall 8 (by simp)),f9 (hall 9 (by simp)),f10 (hall 10 (by simp)),f11 (hall 11 (by simp)),f12 (hall 12 (by simp)),f13 (hall 13 (by simp)),f14 (hall 14 (by simp)),f15 (hall 15 (by simp)),f16 (hall 16 (by simp)),f17 (hall 17 (by simp)),f18 (hall 18 (by simp))];clear hI hall f0 f1 f2 f3 f4 f5 f6 f7 f8 f9 f10 f11 f12 f13 f14 f15 f16 f17 f18;have HF2:Hid (∃ p cc,OutJ w d [.int .i64 (RA:Int),.int .i64 (CA:Int),.slice (some ⟨ba,oa,none⟩) na ca'] [.int .i64 (RB:Int),.int .i64 (CB:Int),.slice (some ⟨bb,ob,none⟩) nb cb'] (prsS la lb CA CB RB LT RT x++prsI la lb CA CB LT RT x (k+1)).length C ((prsS la lb CA CB RB LT RT x++prsI la lb CA CB LT RT x (k+1)).flatMap (fun q=>rowJ la lb CA CB RT q.1 q.2)) p cc w4):=by
                show ∃ p cc,_;rw [prsI_succ,if_neg (by rw [HGO.out];simp),List.append_nil];exact ⟨p,cc,HO2.out.later X5⟩
               clear HO2 HUB HI X5;go_wp2_with fail;go_roundw
               case rel=>exact ⟨k+1,by omega,by go_num,HF2⟩
               case measure=>simp [intOf];omega
             | true =>
              have CSM:Hid (∀ W,Calls Tryd.prog 18 #[e.val,f.val] W fun r w'=>r=.returned (.bool true)∧Ext W w'):=fun W=>(by rw [← hq];exact sameS e f W HGM.out.2.1 HGN.out.2.1 HGM.out.1 HGN.out.1);have HGO:Hid (goesB la lb CA CB LT RT x k=true):=(by show _=_;unfold goesB;rw [HE.out,HF.out,hq,decide_eq_true HK0.out];rfl);clear hq;refine wp_region_letters_g (fun lx:Nat→Value=>{ tmps:=#[grV ((RA:Int)) ((CA:Int)) (Value.slice (some ⟨ba,oa,none⟩) na ca'),grV ((RB:Int)) ((CB:Int)) (Value.slice (some ⟨bb,ob,none⟩) nb cb'),Value.int .i64 (LT:Int),Value.int .i64 (RT:Int),Value.pointer (some ⟨w.heap.size,0,none⟩),Value.pointer (some ⟨w.heap.size+1,0,none⟩),undef,undef,Value.pointer (some ⟨w.heap.size+1+1,0,none⟩),Value.pointer (some ⟨d,0,none⟩),Value.int .i64 (x:Int),Value.int .i64 (k:Int),Value.pointer (some ⟨bx,0,none⟩),u13,Value.agg #[Value.int .i64 (RA:Int),Value.int .i64 (CA:Int),Value.slice (some ⟨ba,oa,none⟩) na ca'],Value.bool true,Value.bool false,Value.bool false,Value.agg #[Value.int .i64 (RB:Int),Value.int .i64 (CB:Int),Value.slice (some ⟨bb,ob,none⟩) nb cb'],Value.bool true,Value.bool false,Value.bool false,Value.bool false,Value.int .i64 (LT:Int),Value.bool false,Value.bool false,Value.bool false,Value.int .i64 (LT:Int),Value.pointer (some ⟨w.heap.size,1,none⟩),Value.int .i64 (CA:Int),Value.bool false,Value.bool false,Value.bool false,Value.int .i64 (RT:Int),Value.bool false,Value.bool false,Value.bool false,Value.int .i64 (RT:Int),Value.pointer (some ⟨w.heap.size+1,1,none⟩),Value.int .i64 (CB:Int),Value.bool false,Value.bool false,Value.bool false,Value.pointer (some ⟨w.heap.size+1,1,none⟩),Value.int .i64 (CB:Int),Value.bool false,Value.bool false,undef,Value.pointer (some ⟨w.heap.size,1,none⟩),Value.int .i64 (CA:Int),Value.pointer (some ⟨w.heap.size+1,1,none⟩),Value.int .i64 (CB:Int),Value.int .i64 ((C:Int)+1),Value.int .i64 (C:Int),Value.agg #[Value.int .i64 0,Value.int .i64 (C:Int),Value.slice none 0 0],Value.int .i64 (x:Int),Value.pointer (some ⟨w.heap.size,0,none⟩),Value.int .i64 (RA:Int),Value.bool true,u59,u60,Value.int .i64 (k:Int),Value.pointer (some ⟨w.heap.size+1,0,none⟩),Value.int .i64 (RB:Int),Value.bool true,u65,u66,Value.pointer (some ⟨w.heap.size,2,none⟩),Value.slice (some ⟨ba,oa,none⟩) na ca',Value.int .i64 (x:Int),Value.pointer (some ⟨w.heap.size,1,none⟩),Value.int .i64 (CA:Int),Value.int .i64 (m1:Int),Value.int .i64 (LT:Int),Value.int .i64 ((ix:Int)+1),Value.int .i64 (ix:Int),Value.pointer (some ⟨ba,oa+ix * 5,none⟩),Value.agg #[Value.int .i64 e.k,Value.bool e.n,Value.int .i64 e.d,Value.int .i64 e.x,sV e.t],lx 78,lx 79,lx 80,lx 81,lx 82,lx 83,lx 84,lx 85,lx 86,lx 87,lx 88,lx 89,lx 90,lx 91,lx 92,lx 93,lx 94,lx 95,lx 96,u97,u98,u99,u100,u101,u102,u103,u104,u105,u106,u107,u108,u109,u110,u111,u112,u113,u114,u115,u116,u117,u118,u119,u120,u121,u122,u123,u124,u125,u126,u127,u128,u129,u130,u131,u132,u133,u134,u135,u136,u137,u138,u139,u140,u141,u142,u143,undef,undef,undef,undef,undef,undef,undef,undef,undef,undef,undef,undef,undef],defers:=[] }) (fun L lx lw=>Hid (Ext u1 lw∧(L 0=true→lx 78=.pointer (some ⟨bx,0,none⟩))∧(L 1=true→lx 79=.int .i64 e.k)∧(L 2=true→lx 80=.bool false)∧(L 3=true→lx 81=.bool false)∧(L 4=true→lx 82=.agg #[.int .i64 e.k,.bool e.n,.int .i64 e.d,.int .i64 e.x,sV e.t])∧(L 5=true→lx 83=.pointer (some ⟨w.heap.size+1,2,none⟩))∧(L 6=true→lx 84=.slice (some ⟨bb,ob,none⟩) nb cb')∧(L 7=true→lx 85=.int .i64 (k:Int))∧(L 8=true→lx 86=.pointer (some ⟨w.heap.size+1,1,none⟩))∧(L 9=true→lx 87=.int .i64 (CB:Int))∧(L 10=true→lx 88=.int .i64 (m2:Int))∧(L 11=true→lx 89=.int .i64 (RT:Int))∧(L 12=true→lx 90=.int .i64 ((iy:Int)+1))∧(L 13=true→lx 91=.int .i64 (iy:Int))∧(L 14=true→lx 92=.pointer (some ⟨bb,ob+iy * 5,none⟩))∧(L 15=true→lx 93=.agg #[.int .i64 f.k,.bool f.n,.int .i64 f.d,.int .i64 f.x,sV f.t])∧(L 16=true→lx 94=.bool true)∧(L 17=true→lx 95=.bool false)∧(L 18=true→lx 96=.bool false))) rfl (by kernel_rfl) (fun jj=>if jj=78 then u78 else if jj=79 then u79 else if jj=80 then u80 else if jj=81 then u81 else if jj=82 then u82 else if jj=83 then u83 else if jj=84 then u84 else if jj=85 then u85 else if jj=86 then u86 else if jj=87 then u87 else if jj=88 then u88 else if jj=89 then u89 else if jj=90 then u90 else if jj=91 then u91 else if jj=92 then u92 else if jj=93 then u93 else if jj=94 then u94 else if jj=95 then u95 else if jj=96 then u96 else undef) rfl ?_ ?_ ?_
              ·refine ⟨xd (xr _),?_,?_,?_,?_,?_,?_,?_,?_,?_,?_,?_,?_,?_,?_,?_,?_,?_,?_,?_⟩ <;> (intro h;cases h)
              ·intro L lx wl i o K hK ho hL haf hI;obtain ⟨X5,f0,f1,f2,f3,f4,f5,f6,f7,f8,f9,f10,f11,f12,f13,f14,f15,f16,f17,f18⟩:=hI.out
               match i,ho,hL,haf,hK with
               | 0,ho,hL,haf,hK =>
                cases ho
                (try dsimp only)
                refine Eq.mpr (if_pos (by rfl)) ?_
                (try dsimp only)
                go_wp2_with fail;exact hK (fun jj=>if jj=78 then .pointer (some ⟨bx,0,none⟩) else lx jj) _ ⟨X5,(fun _=>rfl),f1,f2,f3,f4,f5,f6,f7,f8,f9,f10,f11,f12,f13,f14,f15,f16,f17,f18⟩
               | 1,ho,hL,haf,hK =>
                cases ho
                (try dsimp only)
                rw [f0 (haf ⟨0,.data⟩ (by simp) rfl)];refine Eq.mpr (if_pos (by rfl)) ?_
                (try dsimp only)
                obtain ⟨c0,c1,c2,c3,c4⟩:=Vec.five (HUB.out.later X5);go_wp2_with fail;exact hK (fun jj=>if jj=79 then .int .i64 e.k else if jj=78 then .pointer (some ⟨bx,0,none⟩) else lx jj) _ ⟨X5,(fun _=>rfl),(fun _=>rfl),f2,f3,f4,f5,f6,f7,f8,f9,f10,f11,f12,f13,f14,f15,f16,f17,f18⟩
               | 2,ho,hL,haf,hK =>
                cases ho
                (try dsimp only)
                rw [f1 (haf ⟨1,.data⟩ (by simp) rfl)];refine Eq.mpr (if_pos (by rfl)) ?_
                (try dsimp only)
                go_wp2_with fail;exact hK (fun jj=>if jj=80 then .bool false else if jj=79 then .int .i64 e.k else lx jj) _ ⟨X5,f0,(fun _=>rfl),(fun _=>rfl),f3,f4,f5,f6,f7,f8,f9,f10,f11,f12,f13,f14,f15,f16,f17,f18⟩
               | 3,ho,hL,haf,hK =>
                cases ho
                (try dsimp only)
                rw [f2 (haf ⟨2,.data⟩ (by simp) rfl)];refine Eq.mpr (if_pos (by rfl)) ?_
                (try dsimp only)
                go_wp2_with fail;exact hK (fun jj=>if jj=81 then .bool false else if jj=80 then .bool false else lx jj) _ ⟨X5,f0,f1,(fun _=>rfl),(fun _=>rfl),f4,f5,f6,f7,f8,f9,f10,f11,f12,f13,f14,f15,f16,f17,f18⟩
               | 4,ho,hL,haf,hK =>
                cases ho
                (try dsimp only)
                rw [f3 (haf ⟨3,.guard⟩ (by simp) rfl)];refine Eq.mpr (if_pos (by rfl)) ?_
                (try dsimp only)
                obtain ⟨c0,c1,c2,c3,c4⟩:=Vec.five (HUB.out.later X5);go_wp2_with fail;exact hK (fun jj=>if jj=82 then .agg #[.int .i64 e.k,.bool e.n,.int .i64 e.d,.int .i64 e.x,sV e.t] else if jj=81 then .bool false else lx jj) _ ⟨X5,f0,f1,f2,(fun _=>rfl),(fun _=>rfl),f5,f6,f7,f8,f9,f10,f11,f12,f13,f14,f15,f16,f17,f18⟩
               | 5,ho,hL,haf,hK =>
                cases ho
                (try dsimp only)
                rw [f3 (haf ⟨3,.guard⟩ (by simp) rfl)];refine Eq.mpr (if_pos (by rfl)) ?_
                (try dsimp only)
                go_wp2_with fail;exact hK (fun jj=>if jj=83 then .pointer (some ⟨w.heap.size+1,2,none⟩) else if jj=81 then .bool false else lx jj) _ ⟨X5,f0,f1,f2,(fun _=>rfl),f4,(fun _=>rfl),f6,f7,f8,f9,f10,f11,f12,f13,f14,f15,f16,f17,f18⟩
               | 6,ho,hL,haf,hK =>
                cases ho
                (try dsimp only)
                rw [f5 (haf ⟨5,.data⟩ (by simp) rfl),f3 (haf ⟨3,.guard⟩ (by simp) rfl)];refine Eq.mpr (if_pos (by rfl)) ?_
                (try dsimp only)
                obtain ⟨c0,c1,c2⟩:=Vec.three (HO2.out.vb.later X5);go_wp2_with fail;exact hK (fun jj=>if jj=84 then .slice (some ⟨bb,ob,none⟩) nb cb' else if jj=83 then .pointer (some ⟨w.heap.size+1,2,none⟩) else if jj=81 then .bool false else lx jj) _ ⟨X5,f0,f1,f2,(fun _=>rfl),f4,(fun _=>rfl),(fun _=>rfl),f7,f8,f9,f10,f11,f12,f13,f14,f15,f16,f17,f18⟩
               | 7,ho,hL,haf,hK =>
                cases ho
                (try dsimp only)
                rw [f3 (haf ⟨3,.guard⟩ (by simp) rfl)];refine Eq.mpr (if_pos (by rfl)) ?_
                (try dsimp only)
                go_wp2_with fail;exact hK (fun jj=>if jj=85 then .int .i64 (k:Int) else if jj=81 then .bool false else lx jj) _ ⟨X5,f0,f1,f2,(fun _=>rfl),f4,f5,f6,(fun _=>rfl),f8,f9,f10,f11,f12,f13,f14,f15,f16,f17,f18⟩
               | 8,ho,hL,haf,hK =>
                cases ho
                (try dsimp only)
                rw [f3 (haf ⟨3,.guard⟩ (by simp) rfl)];refine Eq.mpr (if_pos (by rfl)) ?_
                (try dsimp only)
                go_wp2_with fail;exact hK (fun jj=>if jj=86 then .pointer (some ⟨w.heap.size+1,1,none⟩) else if jj=81 then .bool false else lx jj) _ ⟨X5,f0,f1,f2,(fun _=>rfl),f4,f5,f6,f7,(fun _=>rfl),f9,f10,f11,f12,f13,f14,f15,f16,f17,f18⟩
               | 9,ho,hL,haf,hK =>
                cases ho
                (try dsimp only)
                rw [f8 (haf ⟨8,.data⟩ (by simp) rfl),f3 (haf ⟨3,.guard⟩ (by simp) rfl)];refine Eq.mpr (if_pos (by rfl)) ?_
                (try dsimp only)
                obtain ⟨c0,c1,c2⟩:=Vec.three (HO2.out.vb.later X5);go_wp2_with fail;exact hK (fun jj=>if jj=87 then .int .i64 (CB:Int) else if jj=86 then .pointer (some ⟨w.heap.size+1,1,none⟩) else if jj=81 then .bool false else lx jj) _ ⟨X5,f0,f1,f2,(fun _=>rfl),f4,f5,f6,f7,(fun _=>rfl),(fun _=>rfl),f10,f11,f12,f13,f14,f15,f16,f17,f18⟩
               | 10,ho,hL,haf,hK =>
                cases ho
                (try dsimp only)
                rw [f7 (haf ⟨7,.data⟩ (by simp) rfl),f9 (haf ⟨9,.data⟩ (by simp) rfl),f3 (haf ⟨3,.guard⟩ (by simp) rfl)];refine Eq.mpr (if_pos (by rfl)) ?_
                (try dsimp only)
                go_wp2_with fail;exact hK (fun jj=>if jj=88 then .int .i64 (m2:Int) else if jj=85 then .int .i64 (k:Int) else if jj=87 then .int .i64 (CB:Int) else if jj=81 then .bool false else lx jj) _ ⟨X5,f0,f1,f2,(fun _=>rfl),f4,f5,f6,(fun _=>rfl),f8,(fun _=>rfl),(fun _=>rfl),f11,f12,f13,f14,f15,f16,f17,f18⟩
               | 11,ho,hL,haf,hK =>
                cases ho
                (try dsimp only)
                rw [f3 (haf ⟨3,.guard⟩ (by simp) rfl)];refine Eq.mpr (if_pos (by rfl)) ?_
                (try dsimp only)
                go_wp2_with fail;exact hK (fun jj=>if jj=89 then .int .i64 (RT:Int) else if jj=81 then .bool false else lx jj) _ ⟨X5,f0,f1,f2,(fun _=>rfl),f4,f5,f6,f7,f8,f9,f10,(fun _=>rfl),f12,f13,f14,f15,f16,f17,f18⟩
               | 12,ho,hL,haf,hK =>
                cases ho
                (try dsimp only)
                rw [f10 (haf ⟨10,.data⟩ (by simp) rfl),f11 (haf ⟨11,.data⟩ (by simp) rfl),f3 (haf ⟨3,.guard⟩ (by simp) rfl)];refine Eq.mpr (if_pos (by rfl)) ?_
                (try dsimp only)
                go_wp2_with fail;exact hK (fun jj=>if jj=90 then .int .i64 ((iy:Int)+1) else if jj=88 then .int .i64 (m2:Int) else if jj=89 then .int .i64 (RT:Int) else if jj=81 then .bool false else lx jj) _ ⟨X5,f0,f1,f2,(fun _=>rfl),f4,f5,f6,f7,f8,f9,(fun _=>rfl),(fun _=>rfl),(fun _=>rfl),f13,f14,f15,f16,f17,f18⟩
               | 13,ho,hL,haf,hK =>
                cases ho
                (try dsimp only)
                rw [f12 (haf ⟨12,.data⟩ (by simp) rfl),f3 (haf ⟨3,.guard⟩ (by simp) rfl)];refine Eq.mpr (if_pos (by rfl)) ?_
                (try dsimp only)
                go_wp2_with fail;exact hK (fun jj=>if jj=91 then .int .i64 (iy:Int) else if jj=90 then .int .i64 ((iy:Int)+1) else if jj=81 then .bool false else lx jj) _ ⟨X5,f0,f1,f2,(fun _=>rfl),f4,f5,f6,f7,f8,f9,f10,f11,(fun _=>rfl),(fun _=>rfl),f14,f15,f16,f17,f18⟩
               | 14,ho,hL,haf,hK =>
                cases ho
                (try dsimp only)
                rw [f6 (haf ⟨6,.data⟩ (by simp) rfl),f13 (haf ⟨13,.data⟩ (by simp) rfl),f3 (haf ⟨3,.guard⟩ (by simp) rfl)];refine Eq.mpr (if_pos (by rfl)) ?_
                (try dsimp only)
                go_wp2_with fail;exact hK (fun jj=>if jj=92 then .pointer (some ⟨bb,ob+iy * 5,none⟩) else if jj=84 then .slice (some ⟨bb,ob,none⟩) nb cb' else if jj=91 then .int .i64 (iy:Int) else if jj=81 then .bool false else lx jj) _ ⟨X5,f0,f1,f2,(fun _=>rfl),f4,f5,(fun _=>rfl),f7,f8,f9,f10,f11,f12,(fun _=>rfl),(fun _=>rfl),f15,f16,f17,f18⟩
               | 15,ho,hL,haf,hK =>
                cases ho
                (try dsimp only)
                rw [f14 (haf ⟨14,.data⟩ (by simp) rfl),f3 (haf ⟨3,.guard⟩ (by simp) rfl)];refine Eq.mpr (if_pos (by rfl)) ?_
                (try dsimp only)
                obtain ⟨c0,c1,c2,c3,c4⟩:=(HRWB.out.later (xt HO2.out.ext X5)).five HBT.out;go_wp2_with fail;exact hK (fun jj=>if jj=93 then .agg #[.int .i64 f.k,.bool f.n,.int .i64 f.d,.int .i64 f.x,sV f.t] else if jj=92 then .pointer (some ⟨bb,ob+iy * 5,none⟩) else if jj=81 then .bool false else lx jj) _ ⟨X5,f0,f1,f2,(fun _=>rfl),f4,f5,f6,f7,f8,f9,f10,f11,f12,f13,(fun _=>rfl),(fun _=>rfl),f16,f17,f18⟩
               | 16,ho,hL,haf,hK =>
                cases ho
                (try dsimp only)
                rw [f4 (haf ⟨4,.data⟩ (by simp) rfl),f15 (haf ⟨15,.data⟩ (by simp) rfl),f3 (haf ⟨3,.guard⟩ (by simp) rfl)];refine Eq.mpr (if_pos (by rfl)) ?_
                (try dsimp only)
                go_wp2_with fail;refine (CSM.out wl).mono ?_;rintro rr w' ⟨rfl,E5⟩;go_wp2_with fail;exact hK (fun jj=>if jj=94 then .bool true else if jj=82 then .agg #[.int .i64 e.k,.bool e.n,.int .i64 e.d,.int .i64 e.x,sV e.t] else if jj=93 then .agg #[.int .i64 f.k,.bool f.n,.int .i64 f.d,.int .i64 f.x,sV f.t] else if jj=81 then .bool false else lx jj) _ ⟨(xt X5 E5),f0,f1,f2,(fun _=>rfl),(fun _=>rfl),f5,f6,f7,f8,f9,f10,f11,f12,f13,f14,(fun _=>rfl),(fun _=>rfl),f17,f18⟩
               | 17,ho,hL,haf,hK =>
                cases ho
                (try dsimp only)
                rw [f16 (haf ⟨16,.data⟩ (by simp) rfl),f3 (haf ⟨3,.guard⟩ (by simp) rfl)];refine Eq.mpr (if_pos (by rfl)) ?_
                (try dsimp only)
                go_wp2_with fail;exact hK (fun jj=>if jj=95 then .bool false else if jj=94 then .bool true else if jj=81 then .bool false else lx jj) _ ⟨X5,f0,f1,f2,(fun _=>rfl),f4,f5,f6,f7,f8,f9,f10,f11,f12,f13,f14,f15,(fun _=>rfl),(fun _=>rfl),f18⟩
               | 18,ho,hL,haf,hK =>
                cases ho
                (try dsimp only)
                rw [f3 (haf ⟨3,.data⟩ (by simp) rfl),f17 (haf ⟨17,.data⟩ (by simp) rfl)];refine Eq.mpr (if_pos (by rfl)) ?_
                (try dsimp only)
                go_wp2_with fail;exact hK (fun jj=>if jj=96 then .bool false else if jj=81 then .bool false else if jj=95 then .bool false else lx jj) _ ⟨X5,f0,f1,f2,(fun _=>rfl),f4,f5,f6,f7,f8,f9,f10,f11,f12,f13,f14,f15,f16,(fun _=>rfl),(fun _=>rfl)⟩
               | k+19,ho,_,_,_=>simp at ho
              ·intro L lx w4 hall hI;obtain ⟨X5,f0,f1,f2,f3,f4,f5,f6,f7,f8,f9,f10,f11,f12,f13,f14,f15,f16,f17,f18⟩:=hI.out
               (try dsimp only)
               rw [f0 (hall 0 (by simp)),f1 (hall 1 (by simp)),f2 (hall 2 (by simp)),f3 (hall 3 (by simp)),f4 (hall 4 (by simp)),f5 (hall 5 (by simp)),f6 (hall 6 (by simp)),f7 (hall 7 (by simp)),f8 (hall 8 (by simp)),f9 (hall 9 (by simp)),f10 (hall 10 (by simp)),f11 (hall 11 (by simp)),f12 (hall 12 (by simp)),f13 (hall 13 (by simp)),f14 (hall 14 (by simp)),f15 (hall 15 (by simp)),f16 (hall 16 (by simp)),f17 (hall 17 (by simp)),f18 (hall 18 (by simp))];clear hI hall f0 f1 f2 f3 f4 f5 f6 f7 f8 f9 f10 f11 f12 f13 f14 f15 f16 f17 f18;have HO4:=HO2.out.later X5;obtain ⟨n,hn⟩:∃ n,(prsS la lb CA CB RB LT RT x++prsI la lb CA CB LT RT x k).length=n:=⟨_,rfl⟩;obtain ⟨l,hl⟩:∃ l,(prsS la lb CA CB RB LT RT x++prsI la lb CA CB LT RT x k).flatMap (fun q=>rowJ la lb CA CB RT q.1 q.2)=l:=⟨_,rfl⟩;have hnb:n≤4002000:=by
                rw [← hn,List.length_append];have h1:=prsS_length la lb CA CB RB LT RT x;have h2:=prsI_length la lb CA CB LT RT x k;have h3:x * RB≤2000 * 2000:=Nat.mul_le_mul (by omega) (by omega);omega
               have hlb':l.length≤20000000:=by
                rw [← hl];refine Nat.le_trans (flat_len _ (CA+CB) fun q=>?_) ?_
                ·unfold rowJ;rw [List.length_append,List.length_map,List.length_range,List.length_map];have:=List.length_filter_le (fun j=>decide (j ≠ RT - 1)) (List.range CB);rw [List.length_range] at this;omega
                ·rw [hn];exact pairs_room t5 la3 HNA2.out HNB2.out na2 nb2 (by rw [← hn];exact Nat.le_trans (by rw [List.length_append];exact Nat.add_le_add (prsS_length _ _ _ _ _ _ _ _) (prsI_length _ _ _ _ _ _ _ _)) (rows_le hlt hkl))
               rw [hn,hl] at HO4;have HNN:Hid ((prsS la lb CA CB RB LT RT x++prsI la lb CA CB LT RT x k).length=n):=hn;have HLL:Hid ((prsS la lb CA CB RB LT RT x++prsI la lb CA CB LT RT x k).flatMap (fun q=>rowJ la lb CA CB RT q.1 q.2)=l):=hl;obtain ⟨NL,hNL⟩:∃ z,l.length=z:=⟨_,rfl⟩;have vo:=HO4.vo;rw [hNL] at vo hlb';obtain ⟨c0,c1,c2⟩:=Vec.three vo;obtain ⟨f0,f1,f2⟩:=Vec.threeF vo;have HCN:=HO4.count (n+1);obtain ⟨n1,hn1⟩:∃ z,n+1=z:=⟨_,rfl⟩;have hn1':(n:Int)+1=(n1:Int):=(by omega);rw [hn1] at HCN;have HN1:Hid (n+1=n1):=hn1;have HNL:Hid (l.length=NL):=hNL;obtain ⟨w5,hw5⟩:∃ z,w4.setCell ⟨d,0,none⟩ (.int .i64 (n1:Int))=z:=⟨_,rfl⟩;rw [hw5] at HCN;have HC5:Hid (OutJ w d [.int .i64 (RA:Int),.int .i64 (CA:Int),.slice (some ⟨ba,oa,none⟩) na ca'] [.int .i64 (RB:Int),.int .i64 (CB:Int),.slice (some ⟨bb,ob,none⟩) nb cb'] n1 C l p cc w5):=HCN;clear HO4 HCN vo hn hl hNL HO2 HUB X5 hn1;go_wp2_with fail;clear c0 c1 c2 f0 f1 f2 hw5 hn1';obtain ⟨mE,hmE⟩:∃ z,m1+CA=z:=⟨_,rfl⟩;have hmE1:(m1:Int)+(CA:Int)=(mE:Int):=(by omega);have hmE2:mE - m1=CA:=(by omega);have hm1':(x:Int) * (CA:Int)=(m1:Int):=(by rw [← HM1.out];simp);have hs1:(m1:Int)≤(mE:Int):=(by omega);have hs2:(mE:Int)≤(ca':Int):=(by omega);have hs3:((mE:Int) - (m1:Int)).toNat=CA:=(by omega);have HNEW:Hid ((l++(List.range CA).map fun j=>cel la (m1+j)).length=NL+CA):=(by show _=_;rw [List.length_append,HNL.out,List.length_map,List.length_range]);obtain ⟨N2,hN2⟩:∃ z,NL+CA=z:=⟨_,rfl⟩;rw [hN2] at HNEW;have hNbig:N2≤30000000:=(by omega);clear hmE;refine wp_region_letters_g (fun lx:Nat→Value=>{ tmps:=#[grV ((RA:Int)) ((CA:Int)) (Value.slice (some ⟨ba,oa,none⟩) na ca'),grV ((RB:Int)) ((CB:Int)) (Value.slice (some ⟨bb,ob,none⟩) nb cb'),Value.int .i64 (LT:Int),Value.int .i64 (RT:Int),Value.pointer (some ⟨w.heap.size,0,none⟩),Value.pointer (some ⟨w.heap.size+1,0,none⟩),undef,undef,Value.pointer (some ⟨w.heap.size+1+1,0,none⟩),Value.pointer (some ⟨d,0,none⟩),Value.int .i64 (x:Int),Value.int .i64 (k:Int),Value.pointer (some ⟨bx,0,none⟩),u13,Value.agg #[Value.int .i64 (RA:Int),Value.int .i64 (CA:Int),Value.slice (some ⟨ba,oa,none⟩) na ca'],Value.bool true,Value.bool false,Value.bool false,Value.agg #[Value.int .i64 (RB:Int),Value.int .i64 (CB:Int),Value.slice (some ⟨bb,ob,none⟩) nb cb'],Value.bool true,Value.bool false,Value.bool false,Value.bool false,Value.int .i64 (LT:Int),Value.bool false,Value.bool false,Value.bool false,Value.int .i64 (LT:Int),Value.pointer (some ⟨w.heap.size,1,none⟩),Value.int .i64 (CA:Int),Value.bool false,Value.bool false,Value.bool false,Value.int .i64 (RT:Int),Value.bool false,Value.bool false,Value.bool false,Value.int .i64 (RT:Int),Value.pointer (some ⟨w.heap.size+1,1,none⟩),Value.int .i64 (CB:Int),Value.bool false,Value.bool false,Value.bool false,Value.pointer (some ⟨w.heap.size+1,1,none⟩),Value.int .i64 (CB:Int),Value.bool false,Value.bool false,undef,Value.pointer (some ⟨w.heap.size,1,none⟩),Value.int .i64 (CA:Int),Value.pointer (some ⟨w.heap.size+1,1,none⟩),Value.int .i64 (CB:Int),Value.int .i64 ((C:Int)+1),Value.int .i64 (C:Int),Value.agg #[Value.int .i64 0,Value.int .i64 (C:Int),Value.slice none 0 0],Value.int .i64 (x:Int),Value.pointer (some ⟨w.heap.size,0,none⟩),Value.int .i64 (RA:Int),Value.bool true,u59,u60,Value.int .i64 (k:Int),Value.pointer (some ⟨w.heap.size+1,0,none⟩),Value.int .i64 (RB:Int),Value.bool true,u65,u66,Value.pointer (some ⟨w.heap.size,2,none⟩),Value.slice (some ⟨ba,oa,none⟩) na ca',Value.int .i64 (x:Int),Value.pointer (some ⟨w.heap.size,1,none⟩),Value.int .i64 (CA:Int),Value.int .i64 (m1:Int),Value.int .i64 (LT:Int),Value.int .i64 ((ix:Int)+1),Value.int .i64 (ix:Int),Value.pointer (some ⟨ba,oa+ix * 5,none⟩),Value.agg #[Value.int .i64 e.k,Value.bool e.n,Value.int .i64 e.d,Value.int .i64 e.x,sV e.t],Value.pointer (some ⟨bx,0,none⟩),Value.int .i64 e.k,Value.bool false,Value.bool false,Value.agg #[Value.int .i64 e.k,Value.bool e.n,Value.int .i64 e.d,Value.int .i64 e.x,sV e.t],Value.pointer (some ⟨w.heap.size+1,2,none⟩),Value.slice (some ⟨bb,ob,none⟩) nb cb',Value.int .i64 (k:Int),Value.pointer (some ⟨w.heap.size+1,1,none⟩),Value.int .i64 (CB:Int),Value.int .i64 (m2:Int),Value.int .i64 (RT:Int),Value.int .i64 ((iy:Int)+1),Value.int .i64 (iy:Int),Value.pointer (some ⟨bb,ob+iy * 5,none⟩),Value.agg #[Value.int .i64 f.k,Value.bool f.n,Value.int .i64 f.d,Value.int .i64 f.x,sV f.t],Value.bool true,Value.bool false,Value.bool false,Value.pointer (some ⟨d,0,none⟩),Value.int .i64 (n:Int),Value.int .i64 (n1:Int),Value.pointer (some ⟨d,0,none⟩),lx 101,lx 102,lx 103,lx 104,lx 105,lx 106,lx 107,lx 108,lx 109,lx 110,lx 111,lx 112,lx 113,lx 114,lx 115,lx 116,lx 117,lx 118,u119,u120,u121,u122,u123,u124,u125,u126,u127,u128,u129,u130,u131,u132,u133,u134,u135,u136,u137,u138,u139,u140,u141,u142,u143,undef,undef,undef,undef,undef,undef,undef,undef,undef,undef,undef,undef,undef],defers:=[] }) (fun L lx lw=>Hid (Ext w lw∧d+1≤lw.heap.size∧Vec lw w.heap.size [.int .i64 (RA:Int),.int .i64 (CA:Int),.slice (some ⟨ba,oa,none⟩) na ca']∧Vec lw (w.heap.size+1) [.int .i64 (RB:Int),.int .i64 (CB:Int),.slice (some ⟨bb,ob,none⟩) nb cb']∧(L 16=false→OutJ w d [.int .i64 (RA:Int),.int .i64 (CA:Int),.slice (some ⟨ba,oa,none⟩) na ca'] [.int .i64 (RB:Int),.int .i64 (CB:Int),.slice (some ⟨bb,ob,none⟩) nb cb'] n1 C l p cc lw)∧(L 16=true→L 18=false→∃ p' cc' wq,lx 117=.slice p' N2 cc'∧OutJ w d [.int .i64 (RA:Int),.int .i64 (CA:Int),.slice (some ⟨ba,oa,none⟩) na ca'] [.int .i64 (RB:Int),.int .i64 (CB:Int),.slice (some ⟨bb,ob,none⟩) nb cb'] n1 C l p cc wq∧wq.grownBy lw (Value.slice p NL cc).ownBlock∧OwnW lw (d+1) (.slice p' N2 cc') (l++(List.range CA).map fun j=>cel la (m1+j)))∧(L 18=true→∃ p' cc',lx 117=.slice p' N2 cc'∧OutJ w d [.int .i64 (RA:Int),.int .i64 (CA:Int),.slice (some ⟨ba,oa,none⟩) na ca'] [.int .i64 (RB:Int),.int .i64 (CB:Int),.slice (some ⟨bb,ob,none⟩) nb cb'] n1 C (l++(List.range CA).map fun j=>cel la (m1+j)) p' cc' lw)∧(L 16=true→L 1=true)∧(L 18=true→L 16=true)∧(L 0=true→lx 101=.pointer (some ⟨d,2,none⟩))∧(L 1=true→lx 102=.slice p NL cc)∧(L 2=true→lx 103=.pointer (some ⟨w.heap.size,2,none⟩))∧(L 3=true→lx 104=.slice (some ⟨ba,oa,none⟩) na ca')∧(L 4=true→lx 105=.int .i64 (x:Int))∧(L 5=true→lx 106=.pointer (some ⟨w.heap.size,1,none⟩))∧(L 6=true→lx 107=.int .i64 (CA:Int))∧(L 7=true→lx 108=.int .i64 (m1:Int))∧(L 8=true→lx 109=.int .i64 (x:Int))∧(L 9=true→lx 110=.pointer (some ⟨w.heap.size,1,none⟩))∧(L 10=true→lx 111=.int .i64 (CA:Int))∧(L 11=true→lx 112=.int .i64 (m1:Int))∧(L 12=true→lx 113=.pointer (some ⟨w.heap.size,1,none⟩))∧(L 13=true→lx 114=.int .i64 (CA:Int))∧(L 14=true→lx 115=.int .i64 (mE:Int))∧(L 15=true→lx 116=.slice (some ⟨ba,oa+m1 * 5,none⟩) CA (ca' - m1))∧(L 17=true→lx 118=.pointer (some ⟨d,2,none⟩)))) rfl (by kernel_rfl) (fun jj=>if jj=101 then u101 else if jj=102 then u102 else if jj=103 then u103 else if jj=104 then u104 else if jj=105 then u105 else if jj=106 then u106 else if jj=107 then u107 else if jj=108 then u108 else if jj=109 then u109 else if jj=110 then u110 else if jj=111 then u111 else if jj=112 then u112 else if jj=113 then u113 else if jj=114 then u114 else if jj=115 then u115 else if jj=116 then u116 else if jj=117 then u117 else if jj=118 then u118 else undef) rfl ?_ ?_ ?_
               ·have O5:=HC5.out.later (xd (xr _));exact ⟨O5.ext,O5.sz,O5.va,O5.vb,(fun _=>O5),(fun h=>by cases h),(fun h=>by cases h),(fun h=>by cases h),(fun h=>by cases h),(fun h=>by cases h),(fun h=>by cases h),(fun h=>by cases h),(fun h=>by cases h),(fun h=>by cases h),(fun h=>by cases h),(fun h=>by cases h),(fun h=>by cases h),(fun h=>by cases h),(fun h=>by cases h),(fun h=>by cases h),(fun h=>by cases h),(fun h=>by cases h),(fun h=>by cases h),(fun h=>by cases h),(fun h=>by cases h),(fun h=>by cases h)⟩
               ·intro L lx wl i o K hK ho hL haf hI;obtain ⟨X,SZ,V0,V1,OO,FA,FS,gl,gs,f0,f1,f2,f3,f4,f5,f6,f7,f8,f9,f10,f11,f12,f13,f14,f15,f17⟩:=hI.out
                match i,ho,hL,haf,hK with
                | 0,ho,hL,haf,hK =>
                 cases ho
                 (try dsimp only)
                 refine Eq.mpr (if_pos (by rfl)) ?_;go_wp2_with fail;exact hK (fun jj=>if jj=101 then .pointer (some ⟨d,2,none⟩) else lx jj) _ ⟨X,SZ,V0,V1,OO,FA,FS,gl,gs,(fun _=>rfl),f1,f2,f3,f4,f5,f6,f7,f8,f9,f10,f11,f12,f13,f14,f15,f17⟩
                | 1,ho,hL,haf,hK =>
                 cases ho
                 (try dsimp only)
                 rw [f0 (haf ⟨0,.data⟩ (by simp) rfl)];refine Eq.mpr (if_pos (by rfl)) ?_;have hA:L 16=false:=by
                  cases hh:L 16 with
                  | false=>rfl
                  | true=>have:=gl hh;rw [hL] at this;cases this
                 have vo:=(OO hA).vo;rw [HNL.out] at vo;obtain ⟨c0,c1,c2⟩:=Vec.three vo;go_wp2_with fail;exact hK (fun jj=>if jj=102 then .slice p NL cc else if jj=101 then .pointer (some ⟨d,2,none⟩) else lx jj) _ ⟨X,SZ,V0,V1,OO,FA,FS,(fun _=>rfl),gs,(fun _=>rfl),(fun _=>rfl),f2,f3,f4,f5,f6,f7,f8,f9,f10,f11,f12,f13,f14,f15,f17⟩
                | 2,ho,hL,haf,hK =>
                 cases ho
                 (try dsimp only)
                 refine Eq.mpr (if_pos (by rfl)) ?_;go_wp2_with fail;exact hK (fun jj=>if jj=103 then .pointer (some ⟨w.heap.size,2,none⟩) else lx jj) _ ⟨X,SZ,V0,V1,OO,FA,FS,gl,gs,f0,f1,(fun _=>rfl),f3,f4,f5,f6,f7,f8,f9,f10,f11,f12,f13,f14,f15,f17⟩
                | 3,ho,hL,haf,hK =>
                 cases ho
                 (try dsimp only)
                 rw [f2 (haf ⟨2,.data⟩ (by simp) rfl)];refine Eq.mpr (if_pos (by rfl)) ?_;obtain ⟨c0,c1,c2⟩:=Vec.three V0;go_wp2_with fail;exact hK (fun jj=>if jj=104 then .slice (some ⟨ba,oa,none⟩) na ca' else if jj=103 then .pointer (some ⟨w.heap.size,2,none⟩) else lx jj) _ ⟨X,SZ,V0,V1,OO,FA,FS,gl,gs,f0,f1,(fun _=>rfl),(fun _=>rfl),f4,f5,f6,f7,f8,f9,f10,f11,f12,f13,f14,f15,f17⟩
                | 4,ho,hL,haf,hK =>
                 cases ho
                 (try dsimp only)
                 refine Eq.mpr (if_pos (by rfl)) ?_;go_wp2_with fail;exact hK (fun jj=>if jj=105 then .int .i64 (x:Int) else lx jj) _ ⟨X,SZ,V0,V1,OO,FA,FS,gl,gs,f0,f1,f2,f3,(fun _=>rfl),f5,f6,f7,f8,f9,f10,f11,f12,f13,f14,f15,f17⟩
                | 5,ho,hL,haf,hK =>
                 cases ho
                 (try dsimp only)
                 refine Eq.mpr (if_pos (by rfl)) ?_;go_wp2_with fail;exact hK (fun jj=>if jj=106 then .pointer (some ⟨w.heap.size,1,none⟩) else lx jj) _ ⟨X,SZ,V0,V1,OO,FA,FS,gl,gs,f0,f1,f2,f3,f4,(fun _=>rfl),f6,f7,f8,f9,f10,f11,f12,f13,f14,f15,f17⟩
                | 6,ho,hL,haf,hK =>
                 cases ho
                 (try dsimp only)
                 rw [f5 (haf ⟨5,.data⟩ (by simp) rfl)];refine Eq.mpr (if_pos (by rfl)) ?_;obtain ⟨c0,c1,c2⟩:=Vec.three V0;go_wp2_with fail;exact hK (fun jj=>if jj=107 then .int .i64 (CA:Int) else if jj=106 then .pointer (some ⟨w.heap.size,1,none⟩) else lx jj) _ ⟨X,SZ,V0,V1,OO,FA,FS,gl,gs,f0,f1,f2,f3,f4,(fun _=>rfl),(fun _=>rfl),f7,f8,f9,f10,f11,f12,f13,f14,f15,f17⟩
                | 7,ho,hL,haf,hK =>
                 cases ho
                 (try dsimp only)
                 rw [f4 (haf ⟨4,.data⟩ (by simp) rfl),f6 (haf ⟨6,.data⟩ (by simp) rfl)];refine Eq.mpr (if_pos (by rfl)) ?_;go_wp2_with fail;exact hK (fun jj=>if jj=108 then .int .i64 (m1:Int) else if jj=105 then .int .i64 (x:Int) else if jj=107 then .int .i64 (CA:Int) else lx jj) _ ⟨X,SZ,V0,V1,OO,FA,FS,gl,gs,f0,f1,f2,f3,(fun _=>rfl),f5,(fun _=>rfl),(fun _=>rfl),f8,f9,f10,f11,f12,f13,f14,f15,f17⟩
                | 8,ho,hL,haf,hK =>
                 cases ho
                 (try dsimp only)
                 refine Eq.mpr (if_pos (by rfl)) ?_;go_wp2_with fail;exact hK (fun jj=>if jj=109 then .int .i64 (x:Int) else lx jj) _ ⟨X,SZ,V0,V1,OO,FA,FS,gl,gs,f0,f1,f2,f3,f4,f5,f6,f7,(fun _=>rfl),f9,f10,f11,f12,f13,f14,f15,f17⟩
                | 9,ho,hL,haf,hK =>
                 cases ho
                 (try dsimp only)
                 refine Eq.mpr (if_pos (by rfl)) ?_;go_wp2_with fail;exact hK (fun jj=>if jj=110 then .pointer (some ⟨w.heap.size,1,none⟩) else lx jj) _ ⟨X,SZ,V0,V1,OO,FA,FS,gl,gs,f0,f1,f2,f3,f4,f5,f6,f7,f8,(fun _=>rfl),f10,f11,f12,f13,f14,f15,f17⟩
                | 10,ho,hL,haf,hK =>
                 cases ho
                 (try dsimp only)
                 rw [f9 (haf ⟨9,.data⟩ (by simp) rfl)];refine Eq.mpr (if_pos (by rfl)) ?_;obtain ⟨c0,c1,c2⟩:=Vec.three V0;go_wp2_with fail;exact hK (fun jj=>if jj=111 then .int .i64 (CA:Int) else if jj=110 then .pointer (some ⟨w.heap.size,1,none⟩) else lx jj) _ ⟨X,SZ,V0,V1,OO,FA,FS,gl,gs,f0,f1,f2,f3,f4,f5,f6,f7,f8,(fun _=>rfl),(fun _=>rfl),f11,f12,f13,f14,f15,f17⟩
                | 11,ho,hL,haf,hK =>
                 cases ho
                 (try dsimp only)
                 rw [f8 (haf ⟨8,.data⟩ (by simp) rfl),f10 (haf ⟨10,.data⟩ (by simp) rfl)];refine Eq.mpr (if_pos (by rfl)) ?_;go_wp2_with fail;exact hK (fun jj=>if jj=112 then .int .i64 (m1:Int) else if jj=109 then .int .i64 (x:Int) else if jj=111 then .int .i64 (CA:Int) else lx jj) _ ⟨X,SZ,V0,V1,OO,FA,FS,gl,gs,f0,f1,f2,f3,f4,f5,f6,f7,(fun _=>rfl),f9,(fun _=>rfl),(fun _=>rfl),f12,f13,f14,f15,f17⟩
                | 12,ho,hL,haf,hK =>
                 cases ho
                 (try dsimp only)
                 refine Eq.mpr (if_pos (by rfl)) ?_;go_wp2_with fail;exact hK (fun jj=>if jj=113 then .pointer (some ⟨w.heap.size,1,none⟩) else lx jj) _ ⟨X,SZ,V0,V1,OO,FA,FS,gl,gs,f0,f1,f2,f3,f4,f5,f6,f7,f8,f9,f10,f11,(fun _=>rfl),f13,f14,f15,f17⟩
                | 13,ho,hL,haf,hK =>
                 cases ho
                 (try dsimp only)
                 rw [f12 (haf ⟨12,.data⟩ (by simp) rfl)];refine Eq.mpr (if_pos (by rfl)) ?_;obtain ⟨c0,c1,c2⟩:=Vec.three V0;go_wp2_with fail;exact hK (fun jj=>if jj=114 then .int .i64 (CA:Int) else if jj=113 then .pointer (some ⟨w.heap.size,1,none⟩) else lx jj) _ ⟨X,SZ,V0,V1,OO,FA,FS,gl,gs,f0,f1,f2,f3,f4,f5,f6,f7,f8,f9,f10,f11,(fun _=>rfl),(fun _=>rfl),f14,f15,f17⟩
                | 14,ho,hL,haf,hK =>
                 cases ho
                 (try dsimp only)
                 rw [f11 (haf ⟨11,.data⟩ (by simp) rfl),f13 (haf ⟨13,.data⟩ (by simp) rfl)];refine Eq.mpr (if_pos (by rfl)) ?_;go_wp2_with fail;exact hK (fun jj=>if jj=115 then .int .i64 (mE:Int) else if jj=112 then .int .i64 (m1:Int) else if jj=114 then .int .i64 (CA:Int) else lx jj) _ ⟨X,SZ,V0,V1,OO,FA,FS,gl,gs,f0,f1,f2,f3,f4,f5,f6,f7,f8,f9,f10,(fun _=>rfl),f12,(fun _=>rfl),(fun _=>rfl),f15,f17⟩
                | 15,ho,hL,haf,hK =>
                 cases ho
                 (try dsimp only)
                 rw [f3 (haf ⟨3,.data⟩ (by simp) rfl),f7 (haf ⟨7,.data⟩ (by simp) rfl),f14 (haf ⟨14,.data⟩ (by simp) rfl)];refine Eq.mpr (if_pos (by rfl)) ?_;go_wp2_with fail;exact hK (fun jj=>if jj=116 then .slice (some ⟨ba,oa+m1 * 5,none⟩) CA (ca' - m1) else if jj=104 then .slice (some ⟨ba,oa,none⟩) na ca' else if jj=108 then .int .i64 (m1:Int) else if jj=115 then .int .i64 (mE:Int) else lx jj) _ ⟨X,SZ,V0,V1,OO,FA,FS,gl,gs,f0,f1,f2,(fun _=>rfl),f4,f5,f6,(fun _=>rfl),f8,f9,f10,f11,f12,f13,(fun _=>rfl),(fun _=>rfl),f17⟩
                | 16,ho,hL,haf,hK =>
                 cases ho
                 (try dsimp only)
                 have O1:=OO hL;rw [f1 (haf ⟨1,.data⟩ (by simp) rfl),f15 (haf ⟨15,.data⟩ (by simp) rfl)];refine Eq.mpr (if_pos (by rfl)) ?_;obtain ⟨v',w',hrun,O2,GW⟩:=app_vals wl (d+1) (.slice p NL cc) l (by have:=O1.ow;rw [HNL.out] at this;exact this) (.slice (some ⟨ba,oa+m1 * 5,none⟩) CA (ca' - m1)) _ (vals_sub (HRWA.out.later X) HNA.out hca' hm1b) (by rw [HNL.out,List.length_map,List.length_range];omega) SZ;obtain ⟨p',cc',ev⟩:∃ p' cc',v'=.slice p' N2 cc':=by
                  rcases O2.2 with ⟨rfl,h0⟩ | ⟨g,cap,cur,e1,_⟩
                  ·exact absurd h0 (by rw [HNEW.out];omega)
                  ·rw [HNEW.out] at e1;exact ⟨_,_,e1⟩
                 subst ev;have hrow:=ownW_block O1.ow;have hdd:=O1.dd;have ne:∀ b,b<d+1→some b ≠ (Value.slice p NL cc).ownBlock:=fun b h q=>(by have:=hrow b (by rw [HNL.out];exact q.symm);omega);have hst:L 18=false:=by
                  cases hh:L 18 with
                  | false=>rfl
                  | true=>have:=gs hh;rw [hL] at this;cases this
                 have X':Ext w w':=ext_grownJ X GW (fun k hk=>by
                  rcases Nat.lt_or_ge k (d+1) with h | h
                  ·exact absurd hk.symm (ne k h)
                  ·omega)
                 refine Lib.wpList_append_run _ rfl (.tmp 102) (.tmp 116) 23 23 rfl _ _ rfl rfl _ _ hrun ?_;go_wp2_with fail;exact hK (fun jj=>if jj=117 then .slice p' N2 cc' else if jj=102 then .slice p NL cc else if jj=116 then .slice (some ⟨ba,oa+m1 * 5,none⟩) CA (ca' - m1) else lx jj) _ ⟨(X'),(Nat.le_trans SZ GW.size),(vec_keep V0 GW (ne _ (by omega))),(vec_keep V1 GW (ne _ (by omega))),(fun h=>by cases h),(fun _ _=>⟨p',cc',wl,rfl,O1,GW,O2⟩),(fun h=>by have h1:L 18=true:=h;rw [hst] at h1;cases h1),(fun _=>haf ⟨1,.data⟩ (by simp) rfl),(fun _=>rfl),f0,(fun _=>rfl),f2,f3,f4,f5,f6,f7,f8,f9,f10,f11,f12,f13,f14,(fun _=>rfl),f17⟩
                | 17,ho,hL,haf,hK =>
                 cases ho
                 (try dsimp only)
                 refine Eq.mpr (if_pos (by rfl)) ?_;go_wp2_with fail;exact hK (fun jj=>if jj=118 then .pointer (some ⟨d,2,none⟩) else lx jj) _ ⟨X,SZ,V0,V1,OO,FA,FS,gl,gs,f0,f1,f2,f3,f4,f5,f6,f7,f8,f9,f10,f11,f12,f13,f14,f15,(fun _=>rfl)⟩
                | 18,ho,hL,haf,hK =>
                 cases ho
                 (try dsimp only)
                 obtain ⟨p',cc',wq,ep,OQ,GQ,O2⟩:=FA (haf ⟨16,.data⟩ (by simp) rfl) hL;have hlen:(l++(List.range CA).map fun j=>cel la (m1+j)).length=N2:=HNEW.out;have OG:=OQ.grow (by rw [HNL.out];exact GQ) (by rw [hlen];exact O2);rw [hlen] at OG;have vd:=vec_keep OQ.vo GQ (fun q=>by have:=ownW_block OQ.ow d (by rw [HNL.out];exact q.symm);omega);rw [HNL.out] at vd;obtain ⟨c0,c1,c2⟩:=Vec.three vd;obtain ⟨z0,z1,z2⟩:=Vec.threeF vd;have hdd:=OQ.dd;rw [f17 (haf ⟨17,.data⟩ (by simp) rfl),ep];refine Eq.mpr (if_pos (by rfl)) ?_;go_wp2_with fail;exact hK (fun jj=>if jj=118 then .pointer (some ⟨d,2,none⟩) else if jj=117 then .slice p' N2 cc' else lx jj) _ ⟨(OG.ext),(OG.sz),(OG.va),(OG.vb),(fun h=>by have h1:L 16=false:=h;rw [haf ⟨16,.data⟩ (by simp) rfl] at h1;cases h1),(fun _ h=>by cases h),(fun _=>⟨p',cc',rfl,OG⟩),gl,(fun _=>haf ⟨16,.data⟩ (by simp) rfl),f0,f1,f2,f3,f4,f5,f6,f7,f8,f9,f10,f11,f12,f13,f14,f15,(fun _=>rfl)⟩
                | k+19,ho,_,_,_=>simp at ho
               ·intro L lx w6 hall hI;obtain ⟨X,SZ,V0,V1,OO,FA,FS,gl,gs,f0,f1,f2,f3,f4,f5,f6,f7,f8,f9,f10,f11,f12,f13,f14,f15,f17⟩:=hI.out;obtain ⟨p',cc',ep,OG⟩:=FS (hall 18 (by simp))
                (try dsimp only)
                rw [f0 (hall 0 (by simp)),f1 (hall 1 (by simp)),f2 (hall 2 (by simp)),f3 (hall 3 (by simp)),f4 (hall 4 (by simp)),f5 (hall 5 (by simp)),f6 (hall 6 (by simp)),f7 (hall 7 (by simp)),f8 (hall 8 (by simp)),f9 (hall 9 (by simp)),f10 (hall 10 (by simp)),f11 (hall 11 (by simp)),f12 (hall 12 (by simp)),f13 (hall 13 (by simp)),f14 (hall 14 (by simp)),f15 (hall 15 (by simp)),ep,f17 (hall 17 (by simp))];clear hI hall ep  X SZ V0 V1 OO FA FS gl gs f0 f1 f2 f3 f4 f5 f6 f7 f8 f9 f10 f11 f12 f13 f14 f15 f17;have HC6:Hid (OutJ w d [.int .i64 (RA:Int),.int .i64 (CA:Int),.slice (some ⟨ba,oa,none⟩) na ca'] [.int .i64 (RB:Int),.int .i64 (CB:Int),.slice (some ⟨bb,ob,none⟩) nb cb'] n1 C (l++(List.range CA).map fun j=>cel la (m1+j)) p' cc' w6):=OG;have HSUC:Hid (prsS la lb CA CB RB LT RT x++prsI la lb CA CB LT RT x (k+1)=(prsS la lb CA CB RB LT RT x++prsI la lb CA CB LT RT x k)++[(x,k)]):=(by show _=_;rw [prsI_succ,if_pos HGO.out,List.append_assoc]);have HSN:Hid ((prsS la lb CA CB RB LT RT x++prsI la lb CA CB LT RT x (k+1)).length=n1):=(by show _=_;rw [HSUC.out,List.length_append,HNN.out];exact HN1.out);have HSL:Hid ((prsS la lb CA CB RB LT RT x++prsI la lb CA CB LT RT x (k+1)).flatMap (fun q=>rowJ la lb CA CB RT q.1 q.2)=(l++(List.range CA).map fun j=>cel la (m1+j))++tailJ lb CB RT k CB):=by
                 show _=_;rw [HSUC.out,List.flatMap_append,HLL.out];simp only [List.flatMap_cons,List.flatMap_nil,List.append_nil];rw [rowJ_tail,HM1.out,List.append_assoc]
                obtain ⟨lr,hlr⟩:∃ q,(l++(List.range CA).map fun j=>cel la (m1+j))=q:=⟨_,rfl⟩;rw [hlr] at HC6 HSL HNEW;clear OG hlr HC5 HSUC HLL HNN HN1 HI;obtain ⟨pO,hpO⟩:∃ q,q=p:=⟨_,rfl⟩;obtain ⟨cO,hcO⟩:∃ q,q=cc:=⟨_,rfl⟩;obtain ⟨nO,hnO⟩:∃ q,q=NL:=⟨_,rfl⟩;obtain ⟨lO,hlO⟩:∃ q,q=l:=⟨_,rfl⟩;obtain ⟨kO,hkO⟩:∃ q,q=N2:=⟨_,rfl⟩;subst hpO hcO hnO hlO hkO;go_wp2_with fail;go_loopw [13] (fun i wr=>∃ j:Nat,j≤CB∧i=.int .i64 j∧Hid (∃ p cc,OutJ w d [.int .i64 (RA:Int),.int .i64 (CA:Int),.slice (some ⟨ba,oa,none⟩) na ca'] [.int .i64 (RB:Int),.int .i64 (CB:Int),.slice (some ⟨bb,ob,none⟩) nb cb'] n1 C (lr++tailJ lb CB RT k j) p cc wr)) (fun i _=>CB - (intOf i).toNat)
                case atStart=>exact ⟨0,by omega,rfl,p',cc',by simpa [tailJ] using HC6.out⟩
                case round =>
                 obtain ⟨j,hj,rfl,HT⟩:=hrel;obtain ⟨b0,b1,b2⟩:wr.cell? ⟨w.heap.size+1,0,none⟩=some (.int .i64 (RB:Int))∧wr.cell? ⟨w.heap.size+1,1,none⟩=some (.int .i64 (CB:Int))∧wr.cell? ⟨w.heap.size+1,2,none⟩=some (.slice (some ⟨bb,ob,none⟩) nb cb'):=(by obtain ⟨p,cc,O⟩:=HT.out;exact Vec.three O.vb);by_cases hjl:j<CB
                 ·have i4:(j:Int)<(CB:Int):=(by omega);obtain ⟨rp,hrp⟩:∃ z,RT - 1=z:=⟨_,rfl⟩;have hrp':(RT:Int) - 1=(rp:Int):=(by omega);by_cases hjr:j=rp
                  ·have e1:((j:Int) == (rp:Int))=true:=(by rw [hjr];simp);have e2:((j:Int) != (rp:Int))=false:=(by rw [hjr];simp);have HF3:Hid (∃ p cc,OutJ w d [.int .i64 (RA:Int),.int .i64 (CA:Int),.slice (some ⟨ba,oa,none⟩) na ca'] [.int .i64 (RB:Int),.int .i64 (CB:Int),.slice (some ⟨bb,ob,none⟩) nb cb'] n1 C (lr++tailJ lb CB RT k (j+1)) p cc wr):=by
                    show ∃ p cc,_;rw [tailJ_succ,if_neg (by rw [hrp];omega),List.append_nil];exact HT.out
                   clear hrp hjr HT;go_wp2_with fail;go_roundw
                   case rel=>exact ⟨j+1,by omega,by go_num,HF3⟩
                   case measure=>simp [intOf];omega
                  ·have e1:((j:Int) == (rp:Int))=false:=(by simp;omega);have e2:((j:Int) != (rp:Int))=true:=(by simp;omega);have e3:¬ ((j:Int)=(rp:Int)):=(by omega);have e4:¬ (j=rp):=hjr;have HTS:Hid (lr++tailJ lb CB RT k (j+1)=(lr++tailJ lb CB RT k j)++[cel lb (m2+j)]):=(by show _=_;rw [tailJ_succ,if_pos (by rw [hrp];omega),HM2.out,List.append_assoc]);obtain ⟨p,cc,O⟩:=HT.out;obtain ⟨l,hl⟩:∃ q,lr++tailJ lb CB RT k j=q:=⟨_,rfl⟩;rw [hl] at O;have HTS2:Hid (lr++tailJ lb CB RT k (j+1)=l++[cel lb (m2+j)]):=(by show _=_;rw [HTS.out,hl]);have hll:l.length≤40000000:=(by rw [← hl,List.length_append,HNEW.out];have:=tailJ_length lb CB RT k j;omega);obtain ⟨NL,hNL⟩:∃ z,l.length=z:=⟨_,rfl⟩;have HNL:Hid (l.length=NL):=hNL;rw [hNL] at hll;have HC5:Hid (OutJ w d [.int .i64 (RA:Int),.int .i64 (CA:Int),.slice (some ⟨ba,oa,none⟩) na ca'] [.int .i64 (RB:Int),.int .i64 (CB:Int),.slice (some ⟨bb,ob,none⟩) nb cb'] n1 C l p cc wr):=O;obtain ⟨iz,hiz⟩:∃ z,m2+j=z:=⟨_,rfl⟩;have hiz1:(m2:Int)+(j:Int)=(iz:Int):=(by omega);have hizn:(iz:Int)<(nb:Int):=(by omega);have hm2':(k:Int) * (CB:Int)=(m2:Int):=(by rw [← HM2.out];simp);have hzt:=cel_at (l:=lb) (k:=iz) (by rw [HNB.out];omega);obtain ⟨g,hg⟩:∃ g,cel lb iz=g:=⟨_,rfl⟩;rw [hg] at hzt;have HZT:Hid (lb[iz]?=some g):=hzt;rw [hiz,hg] at HTS2;clear hrp HT O hl hNL hzt hg hiz HTS HNEW;have HNEW:Hid ((l++[g]).length=NL+1):=(by show _=_;rw [List.length_append,HNL.out];rfl);obtain ⟨N2,hN2⟩:∃ z,NL+1=z:=⟨_,rfl⟩;rw [hN2] at HNEW;go_wp2_with fail;clear b0 b1 b2;refine wp_region_letters_g (fun lx:Nat→Value=>{ tmps:=#[grV ((RA:Int)) ((CA:Int)) (Value.slice (some ⟨ba,oa,none⟩) na ca'),grV ((RB:Int)) ((CB:Int)) (Value.slice (some ⟨bb,ob,none⟩) nb cb'),Value.int .i64 (LT:Int),Value.int .i64 (RT:Int),Value.pointer (some ⟨w.heap.size,0,none⟩),Value.pointer (some ⟨w.heap.size+1,0,none⟩),undef,undef,Value.pointer (some ⟨w.heap.size+1+1,0,none⟩),Value.pointer (some ⟨d,0,none⟩),Value.int .i64 (x:Int),Value.int .i64 (k:Int),Value.pointer (some ⟨bx,0,none⟩),Value.int .i64 (j:Int),Value.agg #[Value.int .i64 (RA:Int),Value.int .i64 (CA:Int),Value.slice (some ⟨ba,oa,none⟩) na ca'],Value.bool true,Value.bool false,Value.bool false,Value.agg #[Value.int .i64 (RB:Int),Value.int .i64 (CB:Int),Value.slice (some ⟨bb,ob,none⟩) nb cb'],Value.bool true,Value.bool false,Value.bool false,Value.bool false,Value.int .i64 (LT:Int),Value.bool false,Value.bool false,Value.bool false,Value.int .i64 (LT:Int),Value.pointer (some ⟨w.heap.size,1,none⟩),Value.int .i64 (CA:Int),Value.bool false,Value.bool false,Value.bool false,Value.int .i64 (RT:Int),Value.bool false,Value.bool false,Value.bool false,Value.int .i64 (RT:Int),Value.pointer (some ⟨w.heap.size+1,1,none⟩),Value.int .i64 (CB:Int),Value.bool false,Value.bool false,Value.bool false,Value.pointer (some ⟨w.heap.size+1,1,none⟩),Value.int .i64 (CB:Int),Value.bool false,Value.bool false,undef,Value.pointer (some ⟨w.heap.size,1,none⟩),Value.int .i64 (CA:Int),Value.pointer (some ⟨w.heap.size+1,1,none⟩),Value.int .i64 (CB:Int),Value.int .i64 ((C:Int)+1),Value.int .i64 (C:Int),Value.agg #[Value.int .i64 0,Value.int .i64 (C:Int),Value.slice none 0 0],Value.int .i64 (x:Int),Value.pointer (some ⟨w.heap.size,0,none⟩),Value.int .i64 (RA:Int),Value.bool true,u59,u60,Value.int .i64 (k:Int),Value.pointer (some ⟨w.heap.size+1,0,none⟩),Value.int .i64 (RB:Int),Value.bool true,u65,u66,Value.pointer (some ⟨w.heap.size,2,none⟩),Value.slice (some ⟨ba,oa,none⟩) na ca',Value.int .i64 (x:Int),Value.pointer (some ⟨w.heap.size,1,none⟩),Value.int .i64 (CA:Int),Value.int .i64 (m1:Int),Value.int .i64 (LT:Int),Value.int .i64 ((ix:Int)+1),Value.int .i64 (ix:Int),Value.pointer (some ⟨ba,oa+ix * 5,none⟩),Value.agg #[Value.int .i64 e.k,Value.bool e.n,Value.int .i64 e.d,Value.int .i64 e.x,sV e.t],Value.pointer (some ⟨bx,0,none⟩),Value.int .i64 e.k,Value.bool false,Value.bool false,Value.agg #[Value.int .i64 e.k,Value.bool e.n,Value.int .i64 e.d,Value.int .i64 e.x,sV e.t],Value.pointer (some ⟨w.heap.size+1,2,none⟩),Value.slice (some ⟨bb,ob,none⟩) nb cb',Value.int .i64 (k:Int),Value.pointer (some ⟨w.heap.size+1,1,none⟩),Value.int .i64 (CB:Int),Value.int .i64 (m2:Int),Value.int .i64 (RT:Int),Value.int .i64 ((iy:Int)+1),Value.int .i64 (iy:Int),Value.pointer (some ⟨bb,ob+iy * 5,none⟩),Value.agg #[Value.int .i64 f.k,Value.bool f.n,Value.int .i64 f.d,Value.int .i64 f.x,sV f.t],Value.bool true,Value.bool false,Value.bool false,Value.pointer (some ⟨d,0,none⟩),Value.int .i64 (n:Int),Value.int .i64 (n1:Int),Value.pointer (some ⟨d,0,none⟩),Value.pointer (some ⟨d,2,none⟩),Value.slice pO nO cO,Value.pointer (some ⟨w.heap.size,2,none⟩),Value.slice (some ⟨ba,oa,none⟩) na ca',Value.int .i64 (x:Int),Value.pointer (some ⟨w.heap.size,1,none⟩),Value.int .i64 (CA:Int),Value.int .i64 (m1:Int),Value.int .i64 (x:Int),Value.pointer (some ⟨w.heap.size,1,none⟩),Value.int .i64 (CA:Int),Value.int .i64 (m1:Int),Value.pointer (some ⟨w.heap.size,1,none⟩),Value.int .i64 (CA:Int),Value.int .i64 (mE:Int),Value.slice (some ⟨ba,oa+m1 * 5,none⟩) CA (ca' - m1),Value.slice p' kO cc',Value.pointer (some ⟨d,2,none⟩),Value.int .i64 (j:Int),Value.pointer (some ⟨w.heap.size+1,1,none⟩),Value.int .i64 (CB:Int),Value.bool true,u123,u124,Value.int .i64 (j:Int),Value.int .i64 (RT:Int),Value.int .i64 (rp:Int),Value.bool true,lx 129,lx 130,lx 131,lx 132,lx 133,lx 134,lx 135,lx 136,lx 137,lx 138,lx 139,lx 140,lx 141,lx 142,lx 143,undef,undef,undef,undef,undef,undef,undef,undef,undef,undef,undef,undef,undef],defers:=[] }) (fun L lx lw=>Hid (Ext w lw∧d+1≤lw.heap.size∧Vec lw w.heap.size [.int .i64 (RA:Int),.int .i64 (CA:Int),.slice (some ⟨ba,oa,none⟩) na ca']∧Vec lw (w.heap.size+1) [.int .i64 (RB:Int),.int .i64 (CB:Int),.slice (some ⟨bb,ob,none⟩) nb cb']∧(L 13=false→OutJ w d [.int .i64 (RA:Int),.int .i64 (CA:Int),.slice (some ⟨ba,oa,none⟩) na ca'] [.int .i64 (RB:Int),.int .i64 (CB:Int),.slice (some ⟨bb,ob,none⟩) nb cb'] n1 C l p cc lw)∧(L 13=true→L 15=false→∃ p' cc' wq,lx 142=.slice p' N2 cc'∧OutJ w d [.int .i64 (RA:Int),.int .i64 (CA:Int),.slice (some ⟨ba,oa,none⟩) na ca'] [.int .i64 (RB:Int),.int .i64 (CB:Int),.slice (some ⟨bb,ob,none⟩) nb cb'] n1 C l p cc wq∧wq.grownBy lw (Value.slice p NL cc).ownBlock∧OwnW lw (d+1) (.slice p' N2 cc') (l++[g]))∧(L 15=true→∃ p' cc',lx 142=.slice p' N2 cc'∧OutJ w d [.int .i64 (RA:Int),.int .i64 (CA:Int),.slice (some ⟨ba,oa,none⟩) na ca'] [.int .i64 (RB:Int),.int .i64 (CB:Int),.slice (some ⟨bb,ob,none⟩) nb cb'] n1 C (l++[g]) p' cc' lw)∧(L 13=true→L 1=true)∧(L 15=true→L 13=true)∧(L 13=true→L 12=true)∧(L 0=true→lx 129=.pointer (some ⟨d,2,none⟩))∧(L 1=true→lx 130=.slice p NL cc)∧(L 2=true→lx 131=.pointer (some ⟨w.heap.size+1,2,none⟩))∧(L 3=true→lx 132=.slice (some ⟨bb,ob,none⟩) nb cb')∧(L 4=true→lx 133=.int .i64 (k:Int))∧(L 5=true→lx 134=.pointer (some ⟨w.heap.size+1,1,none⟩))∧(L 6=true→lx 135=.int .i64 (CB:Int))∧(L 7=true→lx 136=.int .i64 (m2:Int))∧(L 8=true→lx 137=.int .i64 (j:Int))∧(L 9=true→lx 138=.int .i64 (iz:Int))∧(L 10=true→lx 139=.pointer (some ⟨bb,ob+iz * 5,none⟩))∧(L 11=true→lx 140=.agg #[.int .i64 g.k,.bool g.n,.int .i64 g.d,.int .i64 g.x,sV g.t])∧(L 12=true→∃ bv,lx 141=.slice (some ⟨bv,0,none⟩) 1 1∧(L 13=false→Vec lw bv g.cells))∧(L 14=true→lx 143=.pointer (some ⟨d,2,none⟩)))) rfl (by kernel_rfl) (fun jj=>if jj=129 then u129 else if jj=130 then u130 else if jj=131 then u131 else if jj=132 then u132 else if jj=133 then u133 else if jj=134 then u134 else if jj=135 then u135 else if jj=136 then u136 else if jj=137 then u137 else if jj=138 then u138 else if jj=139 then u139 else if jj=140 then u140 else if jj=141 then u141 else if jj=142 then u142 else if jj=143 then u143 else undef) rfl ?_ ?_ ?_
                   ·have O5:=HC5.out.later (xd (xr _));exact ⟨O5.ext,O5.sz,O5.va,O5.vb,(fun _=>O5),(fun h=>by cases h),(fun h=>by cases h),(fun h=>by cases h),(fun h=>by cases h),(fun h=>by cases h),(fun h=>by cases h),(fun h=>by cases h),(fun h=>by cases h),(fun h=>by cases h),(fun h=>by cases h),(fun h=>by cases h),(fun h=>by cases h),(fun h=>by cases h),(fun h=>by cases h),(fun h=>by cases h),(fun h=>by cases h),(fun h=>by cases h),(fun h=>by cases h),(fun h=>by cases h)⟩
                   ·intro L lx wl i o K hK ho hL haf hI;obtain ⟨X,SZ,V0,V1,OO,FA,FS,gl,gs,gm,f0,f1,f2,f3,f4,f5,f6,f7,f8,f9,f10,f11,f12,f14⟩:=hI.out
                    match i,ho,hL,haf,hK with
                    | 0,ho,hL,haf,hK =>
                     cases ho
                     (try dsimp only)
                     refine Eq.mpr (if_pos (by rfl)) ?_;go_wp2_with fail;exact hK (fun jj=>if jj=129 then .pointer (some ⟨d,2,none⟩) else lx jj) _ ⟨X,SZ,V0,V1,OO,FA,FS,gl,gs,gm,(fun _=>rfl),f1,f2,f3,f4,f5,f6,f7,f8,f9,f10,f11,f12,f14⟩
                    | 1,ho,hL,haf,hK =>
                     cases ho
                     (try dsimp only)
                     rw [f0 (haf ⟨0,.data⟩ (by simp) rfl)];refine Eq.mpr (if_pos (by rfl)) ?_;have hA:L 13=false:=by
                      cases hh:L 13 with
                      | false=>rfl
                      | true=>have:=gl hh;rw [hL] at this;cases this
                     have vo:=(OO hA).vo;rw [HNL.out] at vo;obtain ⟨c0,c1,c2⟩:=Vec.three vo;go_wp2_with fail;exact hK (fun jj=>if jj=130 then .slice p NL cc else if jj=129 then .pointer (some ⟨d,2,none⟩) else lx jj) _ ⟨X,SZ,V0,V1,OO,FA,FS,(fun _=>rfl),gs,gm,(fun _=>rfl),(fun _=>rfl),f2,f3,f4,f5,f6,f7,f8,f9,f10,f11,f12,f14⟩
                    | 2,ho,hL,haf,hK =>
                     cases ho
                     (try dsimp only)
                     refine Eq.mpr (if_pos (by rfl)) ?_;go_wp2_with fail;exact hK (fun jj=>if jj=131 then .pointer (some ⟨w.heap.size+1,2,none⟩) else lx jj) _ ⟨X,SZ,V0,V1,OO,FA,FS,gl,gs,gm,f0,f1,(fun _=>rfl),f3,f4,f5,f6,f7,f8,f9,f10,f11,f12,f14⟩
                    | 3,ho,hL,haf,hK =>
                     cases ho
                     (try dsimp only)
                     rw [f2 (haf ⟨2,.data⟩ (by simp) rfl)];refine Eq.mpr (if_pos (by rfl)) ?_;obtain ⟨c0,c1,c2⟩:=Vec.three V1;go_wp2_with fail;exact hK (fun jj=>if jj=132 then .slice (some ⟨bb,ob,none⟩) nb cb' else if jj=131 then .pointer (some ⟨w.heap.size+1,2,none⟩) else lx jj) _ ⟨X,SZ,V0,V1,OO,FA,FS,gl,gs,gm,f0,f1,(fun _=>rfl),(fun _=>rfl),f4,f5,f6,f7,f8,f9,f10,f11,f12,f14⟩
                    | 4,ho,hL,haf,hK =>
                     cases ho
                     (try dsimp only)
                     refine Eq.mpr (if_pos (by rfl)) ?_;go_wp2_with fail;exact hK (fun jj=>if jj=133 then .int .i64 (k:Int) else lx jj) _ ⟨X,SZ,V0,V1,OO,FA,FS,gl,gs,gm,f0,f1,f2,f3,(fun _=>rfl),f5,f6,f7,f8,f9,f10,f11,f12,f14⟩
                    | 5,ho,hL,haf,hK =>
                     cases ho
                     (try dsimp only)
                     refine Eq.mpr (if_pos (by rfl)) ?_;go_wp2_with fail;exact hK (fun jj=>if jj=134 then .pointer (some ⟨w.heap.size+1,1,none⟩) else lx jj) _ ⟨X,SZ,V0,V1,OO,FA,FS,gl,gs,gm,f0,f1,f2,f3,f4,(fun _=>rfl),f6,f7,f8,f9,f10,f11,f12,f14⟩
                    | 6,ho,hL,haf,hK =>
                     cases ho
                     (try dsimp only)
                     rw [f5 (haf ⟨5,.data⟩ (by simp) rfl)];refine Eq.mpr (if_pos (by rfl)) ?_;obtain ⟨c0,c1,c2⟩:=Vec.three V1;go_wp2_with fail;exact hK (fun jj=>if jj=135 then .int .i64 (CB:Int) else if jj=134 then .pointer (some ⟨w.heap.size+1,1,none⟩) else lx jj) _ ⟨X,SZ,V0,V1,OO,FA,FS,gl,gs,gm,f0,f1,f2,f3,f4,(fun _=>rfl),(fun _=>rfl),f7,f8,f9,f10,f11,f12,f14⟩
                    | 7,ho,hL,haf,hK =>
                     cases ho
                     (try dsimp only)
                     rw [f4 (haf ⟨4,.data⟩ (by simp) rfl),f6 (haf ⟨6,.data⟩ (by simp) rfl)];refine Eq.mpr (if_pos (by rfl)) ?_;go_wp2_with fail;exact hK (fun jj=>if jj=136 then .int .i64 (m2:Int) else if jj=133 then .int .i64 (k:Int) else if jj=135 then .int .i64 (CB:Int) else lx jj) _ ⟨X,SZ,V0,V1,OO,FA,FS,gl,gs,gm,f0,f1,f2,f3,(fun _=>rfl),f5,(fun _=>rfl),(fun _=>rfl),f8,f9,f10,f11,f12,f14⟩
                    | 8,ho,hL,haf,hK =>
                     cases ho
                     (try dsimp only)
                     refine Eq.mpr (if_pos (by rfl)) ?_;go_wp2_with fail;exact hK (fun jj=>if jj=137 then .int .i64 (j:Int) else lx jj) _ ⟨X,SZ,V0,V1,OO,FA,FS,gl,gs,gm,f0,f1,f2,f3,f4,f5,f6,f7,(fun _=>rfl),f9,f10,f11,f12,f14⟩
                    | 9,ho,hL,haf,hK =>
                     cases ho
                     (try dsimp only)
                     rw [f7 (haf ⟨7,.data⟩ (by simp) rfl),f8 (haf ⟨8,.data⟩ (by simp) rfl)];refine Eq.mpr (if_pos (by rfl)) ?_;go_wp2_with fail;exact hK (fun jj=>if jj=138 then .int .i64 (iz:Int) else if jj=136 then .int .i64 (m2:Int) else if jj=137 then .int .i64 (j:Int) else lx jj) _ ⟨X,SZ,V0,V1,OO,FA,FS,gl,gs,gm,f0,f1,f2,f3,f4,f5,f6,(fun _=>rfl),(fun _=>rfl),(fun _=>rfl),f10,f11,f12,f14⟩
                    | 10,ho,hL,haf,hK =>
                     cases ho
                     (try dsimp only)
                     rw [f3 (haf ⟨3,.data⟩ (by simp) rfl),f9 (haf ⟨9,.data⟩ (by simp) rfl)];refine Eq.mpr (if_pos (by rfl)) ?_;go_wp2_with fail;exact hK (fun jj=>if jj=139 then .pointer (some ⟨bb,ob+iz * 5,none⟩) else if jj=132 then .slice (some ⟨bb,ob,none⟩) nb cb' else if jj=138 then .int .i64 (iz:Int) else lx jj) _ ⟨X,SZ,V0,V1,OO,FA,FS,gl,gs,gm,f0,f1,f2,(fun _=>rfl),f4,f5,f6,f7,f8,(fun _=>rfl),(fun _=>rfl),f11,f12,f14⟩
                    | 11,ho,hL,haf,hK =>
                     cases ho
                     (try dsimp only)
                     rw [f10 (haf ⟨10,.data⟩ (by simp) rfl)];refine Eq.mpr (if_pos (by rfl)) ?_;obtain ⟨c0,c1,c2,c3,c4⟩:=(HRWB.out.later X).five HZT.out;go_wp2_with fail;exact hK (fun jj=>if jj=140 then .agg #[.int .i64 g.k,.bool g.n,.int .i64 g.d,.int .i64 g.x,sV g.t] else if jj=139 then .pointer (some ⟨bb,ob+iz * 5,none⟩) else lx jj) _ ⟨X,SZ,V0,V1,OO,FA,FS,gl,gs,gm,f0,f1,f2,f3,f4,f5,f6,f7,f8,f9,(fun _=>rfl),(fun _=>rfl),f12,f14⟩
                    | 12,ho,hL,haf,hK =>
                     cases ho
                     (try dsimp only)
                     rw [f11 (haf ⟨11,.data⟩ (by simp) rfl)];refine Eq.mpr (if_pos (by rfl)) ?_;go_wp2_with fail;exact hK (fun jj=>if jj=141 then .slice (some ⟨wl.heap.size,0,none⟩) 1 1 else if jj=140 then .agg #[.int .i64 g.k,.bool g.n,.int .i64 g.d,.int .i64 g.x,sV g.t] else lx jj) _ ⟨(xa X _),(Nat.le_trans SZ (x1 wl _).size),(V0.later (x1 _ _)),(V1.later (x1 _ _)),(fun h=>(OO h).later (x1 _ _)),(fun h=>by have h1:L 13=true:=h;have:=gm h1;rw [hL] at this;cases this),(fun h=>by have h1:L 15=true:=h;have:=gm (gs h1);rw [hL] at this;cases this),gl,gs,(fun _=>rfl),f0,f1,f2,f3,f4,f5,f6,f7,f8,f9,f10,(fun _=>rfl),(fun _=>⟨wl.heap.size,rfl,fun _=>vec_made wl g.cells _⟩),f14⟩
                    | 13,ho,hL,haf,hK =>
                     cases ho
                     (try dsimp only)
                     have O1:=OO hL;obtain ⟨bv,ebv,hvv⟩:=f12 (haf ⟨12,.data⟩ (by simp) rfl);have hv1:=hvv hL;rw [f1 (haf ⟨1,.data⟩ (by simp) rfl),ebv];refine Eq.mpr (if_pos (by rfl)) ?_;obtain ⟨v',w',hrun,O2,GW,_⟩:=app_val wl (d+1) (.slice p NL cc) l (by have:=O1.ow;rw [HNL.out] at this;exact this) g bv hv1 (by rw [HNL.out];omega) SZ;obtain ⟨p',cc',ev⟩:∃ p' cc',v'=.slice p' N2 cc':=by
                      rcases O2.2 with ⟨rfl,h0⟩ | ⟨g,cap,cur,e1,_⟩
                      ·exact absurd h0 (by rw [HNEW.out];omega)
                      ·rw [HNEW.out] at e1;exact ⟨_,_,e1⟩
                     subst ev;have hrow:=ownW_block O1.ow;have hdd:=O1.dd;have ne:∀ b,b<d+1→some b ≠ (Value.slice p NL cc).ownBlock:=fun b h q=>(by have:=hrow b (by rw [HNL.out];exact q.symm);omega);have hst:L 15=false:=by
                      cases hh:L 15 with
                      | false=>rfl
                      | true=>have:=gs hh;rw [hL] at this;cases this
                     have X':Ext w w':=ext_grownJ X GW (fun k hk=>by
                      rcases Nat.lt_or_ge k (d+1) with h | h
                      ·exact absurd hk.symm (ne k h)
                      ·omega)
                     refine Lib.wpList_append_run _ rfl (.tmp 130) (.tmp 141) 23 23 rfl _ _ rfl rfl _ _ hrun ?_;go_wp2_with fail;exact hK (fun jj=>if jj=142 then .slice p' N2 cc' else if jj=130 then .slice p NL cc else if jj=141 then .slice (some ⟨bv,0,none⟩) 1 1 else lx jj) _ ⟨(X'),(Nat.le_trans SZ GW.size),(vec_keep V0 GW (ne _ (by omega))),(vec_keep V1 GW (ne _ (by omega))),(fun h=>by cases h),(fun _ _=>⟨p',cc',wl,rfl,O1,GW,O2⟩),(fun h=>by have h1:L 15=true:=h;rw [hst] at h1;cases h1),(fun _=>haf ⟨1,.data⟩ (by simp) rfl),(fun _=>rfl),(fun _=>haf ⟨12,.data⟩ (by simp) rfl),f0,(fun _=>rfl),f2,f3,f4,f5,f6,f7,f8,f9,f10,f11,(fun _=>⟨bv,rfl,(fun h=>by cases h)⟩),f14⟩
                    | 14,ho,hL,haf,hK =>
                     cases ho
                     (try dsimp only)
                     refine Eq.mpr (if_pos (by rfl)) ?_;go_wp2_with fail;exact hK (fun jj=>if jj=143 then .pointer (some ⟨d,2,none⟩) else lx jj) _ ⟨X,SZ,V0,V1,OO,FA,FS,gl,gs,gm,f0,f1,f2,f3,f4,f5,f6,f7,f8,f9,f10,f11,f12,(fun _=>rfl)⟩
                    | 15,ho,hL,haf,hK =>
                     cases ho
                     (try dsimp only)
                     obtain ⟨p',cc',wq,ep,OQ,GQ,O2⟩:=FA (haf ⟨13,.data⟩ (by simp) rfl) hL;have hlen:(l++[g]).length=N2:=HNEW.out;have OG:=OQ.grow (by rw [HNL.out];exact GQ) (by rw [hlen];exact O2);rw [hlen] at OG;have vd:=vec_keep OQ.vo GQ (fun q=>by have:=ownW_block OQ.ow d (by rw [HNL.out];exact q.symm);omega);rw [HNL.out] at vd;obtain ⟨c0,c1,c2⟩:=Vec.three vd;obtain ⟨z0,z1,z2⟩:=Vec.threeF vd;have hdd:=OQ.dd;rw [f14 (haf ⟨14,.data⟩ (by simp) rfl),ep];refine Eq.mpr (if_pos (by rfl)) ?_;go_wp2_with fail;exact hK (fun jj=>if jj=143 then .pointer (some ⟨d,2,none⟩) else if jj=142 then .slice p' N2 cc' else lx jj) _ ⟨(OG.ext),(OG.sz),(OG.va),(OG.vb),(fun h=>by have h1:L 13=false:=h;rw [haf ⟨13,.data⟩ (by simp) rfl] at h1;cases h1),(fun _ h=>by cases h),(fun _=>⟨p',cc',rfl,OG⟩),gl,(fun _=>haf ⟨13,.data⟩ (by simp) rfl),gm,f0,f1,f2,f3,f4,f5,f6,f7,f8,f9,f10,f11,(fun h=>by obtain ⟨bv,h1,h2⟩:=f12 h;exact ⟨bv,h1,fun h3=>by have h4:L 13=false:=h3;rw [haf ⟨13,.data⟩ (by simp) rfl] at h4;cases h4⟩),(fun _=>rfl)⟩
                    | k+16,ho,_,_,_=>simp at ho
                   ·intro L lx w7 hall hI;obtain ⟨X,SZ,V0,V1,OO,FA,FS,gl,gs,gm,f0,f1,f2,f3,f4,f5,f6,f7,f8,f9,f10,f11,f12,f14⟩:=hI.out;obtain ⟨p',cc',ep,OG⟩:=FS (hall 15 (by simp));obtain ⟨bv,ebv,_⟩:=f12 (hall 12 (by simp))
                    (try dsimp only)
                    rw [f0 (hall 0 (by simp)),f1 (hall 1 (by simp)),f2 (hall 2 (by simp)),f3 (hall 3 (by simp)),f4 (hall 4 (by simp)),f5 (hall 5 (by simp)),f6 (hall 6 (by simp)),f7 (hall 7 (by simp)),f8 (hall 8 (by simp)),f9 (hall 9 (by simp)),f10 (hall 10 (by simp)),f11 (hall 11 (by simp)),ebv,ep,f14 (hall 14 (by simp))];clear hI hall ep ebv X SZ V0 V1 OO FA FS gl gs gm f0 f1 f2 f3 f4 f5 f6 f7 f8 f9 f10 f11 f12 f14;have HF3:Hid (∃ p cc,OutJ w d [.int .i64 (RA:Int),.int .i64 (CA:Int),.slice (some ⟨ba,oa,none⟩) na ca'] [.int .i64 (RB:Int),.int .i64 (CB:Int),.slice (some ⟨bb,ob,none⟩) nb cb'] n1 C (lr++tailJ lb CB RT k (j+1)) p cc w7):=by
                     show ∃ p cc,_;rw [HTS2.out];exact ⟨p',cc',OG⟩
                    clear OG HC5;go_wp2_with fail;go_roundw
                    case rel=>exact ⟨j+1,by omega,by go_num,HF3⟩
                    case measure=>simp [intOf];omega
                 ·obtain rfl:CB=j:=(by omega);have i4:¬ ((CB:Int)<(CB:Int)):=(by omega);have HF2:Hid (∃ p cc,OutJ w d [.int .i64 (RA:Int),.int .i64 (CA:Int),.slice (some ⟨ba,oa,none⟩) na ca'] [.int .i64 (RB:Int),.int .i64 (CB:Int),.slice (some ⟨bb,ob,none⟩) nb cb'] (prsS la lb CA CB RB LT RT x++prsI la lb CA CB LT RT x (k+1)).length C ((prsS la lb CA CB RB LT RT x++prsI la lb CA CB LT RT x (k+1)).flatMap (fun q=>rowJ la lb CA CB RT q.1 q.2)) p cc wr):=by
                   show ∃ p cc,_;rw [HSN.out,HSL.out];exact HT.out
                  clear HT HSN HSL HC6;go_wp2_with fail;go_roundw
                  case rel=>exact ⟨k+1,by omega,by go_num,HF2⟩
                  case measure=>simp [intOf];omega
           ·obtain rfl:RB=k:=(by omega);have i3:¬ ((RB:Int)<(RB:Int)):=(by omega);have HF:Hid (∃ p cc,OutJ w d [.int .i64 (RA:Int),.int .i64 (CA:Int),.slice (some ⟨ba,oa,none⟩) na ca'] [.int .i64 (RB:Int),.int .i64 (CB:Int),.slice (some ⟨bb,ob,none⟩) nb cb'] (prsS la lb CA CB RB LT RT (x+1)).length C ((prsS la lb CA CB RB LT RT (x+1)).flatMap (fun q=>rowJ la lb CA CB RT q.1 q.2)) p cc wr):=(by show ∃ p cc,_;rw [prsS_succ];exact HK.out);obtain ⟨b0,b1,b2⟩:wr.cell? ⟨w.heap.size+1,0,none⟩=some (.int .i64 (RB:Int))∧wr.cell? ⟨w.heap.size+1,1,none⟩=some (.int .i64 (CB:Int))∧wr.cell? ⟨w.heap.size+1,2,none⟩=some (.slice (some ⟨bb,ob,none⟩) nb cb'):=(by obtain ⟨p,cc,O⟩:=HK.out;exact Vec.three O.vb);clear HK HI;go_wp2_with fail;go_roundw
            case rel=>exact ⟨x+1,by omega,by go_num,HF⟩
            case measure=>simp [intOf];omega
         ·obtain rfl:RA=x:=(by omega);have i2:¬ ((RA:Int)<(RA:Int)):=(by omega);obtain ⟨p,cc,O⟩:=HI.out;obtain ⟨n,hn⟩:∃ n,(prsS la lb CA CB RB LT RT RA).length=n:=⟨_,rfl⟩;have HN:Hid ((prsS la lb CA CB RB LT RT RA).length=n):=hn;have hnb:n≤2000 * 2000:=(by rw [← hn];exact Nat.le_trans (prsS_length _ _ _ _ _ _ _ _) (Nat.mul_le_mul la5' lb5'));obtain ⟨l,hl⟩:∃ l,(prsS la lb CA CB RB LT RT RA).flatMap (fun q=>rowJ la lb CA CB RT q.1 q.2)=l:=⟨_,rfl⟩;have HL:Hid ((prsS la lb CA CB RB LT RT RA).flatMap (fun q=>rowJ la lb CA CB RT q.1 q.2)=l):=hl;rw [hn,hl] at O;obtain ⟨NL,hNL⟩:∃ n,l.length=n:=⟨_,rfl⟩;have vo:=O.vo;have ow:Hid (OwnW wr (d+1) (.slice p NL cc) l):=(by rw [← hNL];exact O.ow);rw [hNL] at vo;have vz:=O.vz;have ex:=O.ext;obtain ⟨m,hm⟩:∃ m,n * C=m:=⟨_,rfl⟩;have hm':(n:Int) * (C:Int)=(m:Int):=(by rw [← hm];simp);have hmb:m≤2000 * 2000 * 4000:=(by rw [← hm];exact Nat.mul_le_mul hnb C2);obtain ⟨b0,b1,b2⟩:=Vec.three vo;clear HI hn hl hNL O;by_cases hz:n=0
          ·have hz1:((n:Int) == 0)=true:=(by rw [hz];rfl);have hJ0:J=(0,0,[]):=(by rw [HJN.out];unfold joinN;rw [HPB.out,HN.out,if_pos (Or.inl hz)]);obtain ⟨wy,hy,FX,⟨z0,z1,z2⟩,⟨fz0,fz1,fz2⟩,fd0,fd1,fd2⟩:=finG vz ex (by omega) 0 0 (.slice none 0 0);subst hJ0;clear vo hm;go_wp2_with fail;exact bodyPost_ret (v:=grV 0 0 (.slice none 0 0)) (by simp [results,Tryd.results7,go_sem,fd0,fd1,fd2]) rfl ⟨_,rfl,World.ownsRow_nil _ _ _ _,FX⟩
          ·have hz1:((n:Int) == 0)=false:=(by simpa using hz);by_cases hbig:2000<m
           ·have q1:decide ((m:Int) > 2000)=true:=decide_eq_true (by omega);have q2:decide ((2000:Int)<(m:Int))=true:=decide_eq_true (by omega);have hJ0:J=(0,0,[]):=(by rw [HJN.out];unfold joinN;rw [HPB.out,HN.out,HCV.out,if_pos (Or.inr (by rw [hm];exact hbig))]);obtain ⟨wy,hy,FX,⟨z0,z1,z2⟩,⟨fz0,fz1,fz2⟩,fd0,fd1,fd2⟩:=finG vz ex (by omega) 0 0 (.slice none 0 0);subst hJ0;clear vo hm;go_wp2_with fail;exact bodyPost_ret (v:=grV 0 0 (.slice none 0 0)) (by simp [results,Tryd.results7,go_sem,fd0,fd1,fd2]) rfl ⟨_,rfl,World.ownsRow_nil _ _ _ _,FX⟩
           ·have q1:decide ((m:Int) > 2000)=false:=decide_eq_false (by omega);have q2:decide ((2000:Int)<(m:Int))=false:=decide_eq_false (by omega);have hJ3:J=(n,C,l):=by
             rw [HJN.out];unfold joinN;rw [HPB.out,HN.out,HCV.out,if_neg (by rw [hm];omega),← HL.out];have:=grid_rows la lb CA CB RT (prsS la lb CA CB RB LT RT RA) t3 t4 (by omega);rw [HN.out,HCV.out] at this;rw [this]
            obtain ⟨wy,hy,FX,⟨z0,z1,z2⟩,⟨fz0,fz1,fz2⟩,fd0,fd1,fd2⟩:=finG vz ex (by omega) n C (.slice p NL cc);have FO:Hid (OwnW wy w.heap.size (.slice p NL cc) l):=by
             have o1:=ownW_far ow.out (p:=⟨w.heap.size+1+1,0,none⟩) (by show w.heap.size+1+1<_;omega) (.int .i64 n);have o2:=ownW_far o1 (p:=⟨w.heap.size+1+1,1,none⟩) (by show w.heap.size+1+1<_;omega) (.int .i64 C);have o3:=ownW_far o2 (p:=⟨w.heap.size+1+1,2,none⟩) (by show w.heap.size+1+1<_;omega) (.slice p NL cc);show World.ownsRow _ _ _ _ _ _ _;rw [← hy];exact ownW_base o3 (by omega)
            subst hJ3;clear vo hm;go_wp2_with fail;exact bodyPost_ret (v:=grV n C (.slice p NL cc)) (by simp [results,Tryd.results7,go_sem,fd0,fd1,fd2]) rfl ⟨_,rfl,FO.out,FX⟩
end Go.Proofs.YtnphbpmdohidcaaDoor

