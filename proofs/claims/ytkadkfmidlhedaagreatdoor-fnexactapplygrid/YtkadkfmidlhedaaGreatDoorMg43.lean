/-
  Several texts in one: W9a, W9p, W9b.
-/
import Derived.Test.YtkadkfmidlhedaaGreatDoorMg4
import Derived.Test.YtkadkfmidlhedaaGreatDoorMg42
import Derived.Test.YtkadkfmidlhedaaGreatDoorMg40
import Derived.Deep.DeepCutAuto
import Derived.Deep.AppendLies
import Derived.OwnWalk
import Derived.Laws.OwnMore
namespace Go.Proofs.YtkadkfmidlhedaaGreatDoor
open Go.RowKit
def cellAt (r c:Int) (l:List VT) (i j:Int):Option VT:=
 if (if r=1 then 0 else i)<r∧(if c=1 then 0 else j)<c then l[((if r=1 then 0 else i) * c+(if c=1 then 0 else j)).toNat]? else none
def cellT:Option VT→Value
 | none=>.tuple #[valV 0 false 0 0 [],.bool false]
 | some e=>.tuple #[e.val,.bool true]
theorem mul_in {p q r c:Int} (hp:0≤p) (hq:0≤q) (p1:p<r) (q1:q<c):0≤p * c∧p * c+q<r * c:=by
 have h1:0≤p * c:=Int.mul_nonneg hp (by omega);have h2:(p+1) * c≤r * c:=Int.mul_le_mul_of_nonneg_right (by omega) (by omega);rw [Int.add_mul,Int.one_mul] at h2;exact ⟨h1,by omega⟩
set_option maxRecDepth 8000 in
set_option maxHeartbeats 2000000 in
theorem laidI (r c:Int) (v:Value) (l:List VT) (i j:Int) (w:World) (h:ValsIn w v l) (hs:gsidesB r c l.length=true) (i0:0≤i) (i1:i≤2000) (j0:0≤j) (j1:j≤2000) :
  Calls Tryz.prog 63 #[grV r c v,.int .i64 i,.int .i64 j] w fun e w'=>e=.returned (cellT (cellAt r c l i j))∧Ext w w':=by
 obtain ⟨i,rfl⟩:=Int.eq_ofNat_of_zero_le i0;obtain ⟨j,rfl⟩:=Int.eq_ofNat_of_zero_le j0;obtain ⟨R,hR⟩:∃ R,cellAt r c l i j=R:=⟨_,rfl⟩;have HR0:Hid (cellAt r c l i j=R):=hR;rw [hR];clear hR;have hs2:1≤r∧1≤c∧r * c≤2000∧(l.length:Int)=r * c:=of_decide_eq_true hs;obtain ⟨r1,c1,rc,ln⟩:=hs2;have HB:Hid (1≤r∧1≤c∧r * c≤2000∧(l.length:Int)=r * c):=⟨r1,c1,rc,ln⟩;clear hs rc ln;obtain ⟨pp,cap,rfl,hcap,hrow⟩:=h;obtain ⟨N,hN⟩:∃ N,l.length=N:=⟨_,rfl⟩;have HN:Hid (l.length=N):=hN;have HC:Hid (l.length≤cap):=hcap;have HW:Hid (0<l.length→∃ b o,pp=some ⟨b,o,none⟩∧RowV w b o l):=hrow;rw [hN];clear hN hcap hrow;obtain ⟨u0,u1,h0,h1,s0,s1,B0,B1,X⟩:=mkB2 w [.int .i64 r,.int .i64 c,.slice pp N cap] [.int .i64 0,.bool false,.int .i64 0,.int .i64 0,sV []] 35 26;obtain ⟨a0,a1,a2⟩:=Vec.three (B0);by_cases hr1:r=1
 ·subst hr1;by_cases hc1:c=1
  ·subst hc1;have MI:=mul_in (p:=(0:Int)) (q:=(0:Int)) (r:=(1:Int)) (c:=(1:Int)) (by omega) (by omega) (by omega) (by omega);have hb4:=HB.out;have hn4:=HN.out;have mN:0<N:=by omega
   have mI:((0:Nat):Int)<(N:Int):=by omega
   obtain ⟨e,he⟩:∃ e,l[0]?=some e:=⟨_,List.getElem?_eq_getElem (by rw [HN.out];exact mN)⟩;have HR:Hid (some e=R):=by
    show _=_;rw [← HR0.out];unfold cellAt;simp only [if_true];rw [if_pos (by omega),show ((0:Int) * (1:Int)+(0:Int)).toNat=0 by simp,he]
   obtain ⟨b,o,hpp,hrow⟩:=HW.out (by omega);subst hpp;obtain ⟨d0,d1,d2,d3,d4⟩:=(hrow.later X).five he;simp only [Nat.zero_mul,Nat.add_zero] at d0 d1 d2 d3 d4;have mI2:(0:Int)<(N:Int):=by omega
   clear HR0 HB HW MI hb4 hn4;obtain ⟨wy,hy,FX,⟨b0,b1,b2,b3,b4⟩,⟨fb0,fb1,fb2,fb3,fb4⟩,fd0,fd1,fd2,fd3,fd4⟩:=fin5 B1 X (by omega) e.k e.n e.d e.x e.t;go_enter Tryz.func63,Tryz.ntmps63;go_wp2_with fail;exact bodyPost_ret (v:=.tuple #[e.val,.bool true]) (by simp [results,Tryz.results63,go_sem,fd0,fd1,fd2,fd3,fd4]) rfl ⟨by rw [← HR.out];rfl,FX⟩
  ·have hcb:(c == 1)=false:=by simpa using hc1
   by_cases jc:(j:Int)<c
   ·have jb:¬ c≤(j:Int):=(by omega);have MI:=mul_in (p:=(0:Int)) (q:=(j:Int)) (r:=(1:Int)) (c:=c) (by omega) (by omega) (by omega) (by omega);have hb4:=HB.out;have hn4:=HN.out;have mN:j<N:=(by omega);have mI:((j:Nat):Int)<(N:Int):=(by omega);obtain ⟨e,he⟩:∃ e,l[j]?=some e:=⟨_,List.getElem?_eq_getElem (by rw [HN.out];exact mN)⟩;have HR:Hid (some e=R):=by
     show _=_;rw [← HR0.out];unfold cellAt;simp only [if_true,hc1,if_false];rw [if_pos (by omega),show ((0:Int) * c+(j:Int)).toNat=j by simp,he]
    obtain ⟨b,o,hpp,hrow⟩:=HW.out (by omega);subst hpp;obtain ⟨d0,d1,d2,d3,d4⟩:=(hrow.later X).five he;have hw3:IntKind.i64.wrap (j:Int)=(j:Int):=(by rw [IntKind.wrap_i64];omega);clear HR0 HB HW MI hb4 hn4;obtain ⟨wy,hy,FX,⟨b0,b1,b2,b3,b4⟩,⟨fb0,fb1,fb2,fb3,fb4⟩,fd0,fd1,fd2,fd3,fd4⟩:=fin5 B1 X (by omega) e.k e.n e.d e.x e.t;go_enter Tryz.func63,Tryz.ntmps63;go_wp2_with fail;exact bodyPost_ret (v:=.tuple #[e.val,.bool true]) (by simp [results,Tryz.results63,go_sem,fd0,fd1,fd2,fd3,fd4]) rfl ⟨by rw [← HR.out];rfl,FX⟩
   ·have jb:c≤(j:Int):=(by omega);have HR:Hid (none=R):=(by show _=_;rw [← HR0.out];unfold cellAt;rw [if_neg (by simp [hc1];omega)]);clear HR0;obtain ⟨wy,hy,FX,⟨b0,b1,b2,b3,b4⟩,⟨fb0,fb1,fb2,fb3,fb4⟩,fd0,fd1,fd2,fd3,fd4⟩:=fin5 B1 X (by omega) 0 false 0 0 [];go_enter Tryz.func63,Tryz.ntmps63;go_wp2_with fail;exact bodyPost_ret (v:=.tuple #[valV 0 false 0 0 [],.bool false]) (by simp [results,Tryz.results63,go_sem,fd0,fd1,fd2,fd3,fd4]) rfl ⟨by rw [← HR.out];rfl,FX⟩
 ·have hrb:(r == 1)=false:=by simpa using hr1
  by_cases ir:(i:Int)<r
  ·have ib:¬ r≤(i:Int):=by omega
   by_cases hc1:c=1
   ·subst hc1;have MI:=mul_in (p:=(i:Int)) (q:=(0:Int)) (r:=r) (c:=(1:Int)) (by omega) (by omega) (by omega) (by omega);have hb4:=HB.out;have hn4:=HN.out;have mN:i<N:=(by omega);have mI:((i:Nat):Int)<(N:Int):=(by omega);obtain ⟨e,he⟩:∃ e,l[i]?=some e:=⟨_,List.getElem?_eq_getElem (by rw [HN.out];exact mN)⟩;have HR:Hid (some e=R):=by
     show _=_;rw [← HR0.out];unfold cellAt;simp only [hr1,if_false,if_true];rw [if_pos (by omega),show ((i:Int) * (1:Int)+(0:Int)).toNat=i by simp,he]
    obtain ⟨b,o,hpp,hrow⟩:=HW.out (by omega);subst hpp;obtain ⟨d0,d1,d2,d3,d4⟩:=(hrow.later X).five he;have hw3:IntKind.i64.wrap (i:Int)=(i:Int):=(by rw [IntKind.wrap_i64];omega);clear HR0 HB HW MI hb4 hn4;obtain ⟨wy,hy,FX,⟨b0,b1,b2,b3,b4⟩,⟨fb0,fb1,fb2,fb3,fb4⟩,fd0,fd1,fd2,fd3,fd4⟩:=fin5 B1 X (by omega) e.k e.n e.d e.x e.t;go_enter Tryz.func63,Tryz.ntmps63;go_wp2_with fail;exact bodyPost_ret (v:=.tuple #[e.val,.bool true]) (by simp [results,Tryz.results63,go_sem,fd0,fd1,fd2,fd3,fd4]) rfl ⟨by rw [← HR.out];rfl,FX⟩
   ·have hcb:(c == 1)=false:=(by simpa using hc1);by_cases jc:(j:Int)<c
    ·have jb:¬ c≤(j:Int):=(by omega);have MI:=mul_in (p:=(i:Int)) (q:=(j:Int)) (r:=r) (c:=c) (by omega) (by omega) (by omega) (by omega);have hb4:=HB.out;have hn4:=HN.out;obtain ⟨m,hm⟩:∃ m:Nat,(i:Int) * c+(j:Int)=(m:Int):=⟨((i:Int) * c+(j:Int)).toNat,by omega⟩;have mN:m<N:=(by omega);have mI:((m:Nat):Int)<(N:Int):=(by omega);obtain ⟨e,he⟩:∃ e,l[m]?=some e:=⟨_,List.getElem?_eq_getElem (by rw [HN.out];exact mN)⟩;have HR:Hid (some e=R):=by
      show _=_;rw [← HR0.out];unfold cellAt;simp only [hr1,hc1,if_false];rw [if_pos (by omega),show ((i:Int) * c+(j:Int)).toNat=m by rw [hm];rfl,he]
     obtain ⟨b,o,hpp,hrow⟩:=HW.out (by omega);subst hpp;obtain ⟨d0,d1,d2,d3,d4⟩:=(hrow.later X).five he;obtain ⟨pc,hpc⟩:∃ pc,(i:Int) * c=pc:=⟨_,rfl⟩;have hw1:IntKind.i64.wrap ((i:Int) * c)=pc:=(by rw [hpc,IntKind.wrap_i64];omega);have hw2:IntKind.i64.wrap (pc+(j:Int))=(m:Int):=(by rw [IntKind.wrap_i64];omega);clear HR0 HB HW MI hb4 hn4;obtain ⟨wy,hy,FX,⟨b0,b1,b2,b3,b4⟩,⟨fb0,fb1,fb2,fb3,fb4⟩,fd0,fd1,fd2,fd3,fd4⟩:=fin5 B1 X (by omega) e.k e.n e.d e.x e.t;clear hm hpc;go_enter Tryz.func63,Tryz.ntmps63;go_wp2_with fail;exact bodyPost_ret (v:=.tuple #[e.val,.bool true]) (by simp [results,Tryz.results63,go_sem,fd0,fd1,fd2,fd3,fd4]) rfl ⟨by rw [← HR.out];rfl,FX⟩
    ·have jb:c≤(j:Int):=(by omega);have HR:Hid (none=R):=(by show _=_;rw [← HR0.out];unfold cellAt;rw [if_neg (by simp [hr1,hc1];omega)]);clear HR0;obtain ⟨wy,hy,FX,⟨b0,b1,b2,b3,b4⟩,⟨fb0,fb1,fb2,fb3,fb4⟩,fd0,fd1,fd2,fd3,fd4⟩:=fin5 B1 X (by omega) 0 false 0 0 [];go_enter Tryz.func63,Tryz.ntmps63;go_wp2_with fail;exact bodyPost_ret (v:=.tuple #[valV 0 false 0 0 [],.bool false]) (by simp [results,Tryz.results63,go_sem,fd0,fd1,fd2,fd3,fd4]) rfl ⟨by rw [← HR.out];rfl,FX⟩
  ·have ib:r≤(i:Int):=by omega
   have HRn:Hid (none=R):=by show _=_;rw [← HR0.out];unfold cellAt;rw [if_neg (by simp [hr1];omega)]
   by_cases hc1:c=1
   ·subst hc1;have HR:=HRn;clear HR0;obtain ⟨wy,hy,FX,⟨b0,b1,b2,b3,b4⟩,⟨fb0,fb1,fb2,fb3,fb4⟩,fd0,fd1,fd2,fd3,fd4⟩:=fin5 B1 X (by omega) 0 false 0 0 [];go_enter Tryz.func63,Tryz.ntmps63;go_wp2_with fail;exact bodyPost_ret (v:=.tuple #[valV 0 false 0 0 [],.bool false]) (by simp [results,Tryz.results63,go_sem,fd0,fd1,fd2,fd3,fd4]) rfl ⟨by rw [← HR.out];rfl,FX⟩
   ·have hcb:(c == 1)=false:=(by simpa using hc1);have HR:=HRn;clear HR0;obtain ⟨wy,hy,FX,⟨b0,b1,b2,b3,b4⟩,⟨fb0,fb1,fb2,fb3,fb4⟩,fd0,fd1,fd2,fd3,fd4⟩:=fin5 B1 X (by omega) 0 false 0 0 [];go_enter Tryz.func63,Tryz.ntmps63;go_wp2_with fail;exact bodyPost_ret (v:=.tuple #[valV 0 false 0 0 [],.bool false]) (by simp [results,Tryz.results63,go_sem,fd0,fd1,fd2,fd3,fd4]) rfl ⟨by rw [← HR.out];rfl,FX⟩
set_option maxRecDepth 8000 in
set_option maxHeartbeats 2000000 in
theorem cellS (r c:Int) (v:Value) (l:List VT) (i j:Int) (w:World) (h:ValsIn w v l) (hs:gsidesB r c l.length=true) (i0:0≤i) (i1:i≤2000) (j0:0≤j) (j1:j≤2000) :
  Calls Tryz.prog 68 #[grV r c v,.int .i64 i,.int .i64 j] w fun e w'=>e=.returned (cellT (cellAt r c l i j))∧Ext w w':=by
 obtain ⟨i,rfl⟩:=Int.eq_ofNat_of_zero_le i0;obtain ⟨j,rfl⟩:=Int.eq_ofNat_of_zero_le j0;obtain ⟨R,hR⟩:∃ R,cellAt r c l i j=R:=⟨_,rfl⟩;have HR0:Hid (cellAt r c l i j=R):=hR;rw [hR];clear hR;have hs2:1≤r∧1≤c∧r * c≤2000∧(l.length:Int)=r * c:=of_decide_eq_true hs;obtain ⟨r1,c1,rc,ln⟩:=hs2;have HB:Hid (1≤r∧1≤c∧r * c≤2000∧(l.length:Int)=r * c):=⟨r1,c1,rc,ln⟩;clear hs rc ln;obtain ⟨pp,cap,rfl,hcap,hrow⟩:=h;obtain ⟨N,hN⟩:∃ N,l.length=N:=⟨_,rfl⟩;have HN:Hid (l.length=N):=hN;have HC:Hid (l.length≤cap):=hcap;have HW:Hid (0<l.length→∃ b o,pp=some ⟨b,o,none⟩∧RowV w b o l):=hrow;rw [hN];clear hN hcap hrow;obtain ⟨u0,u1,h0,h1,s0,s1,B0,B1,X⟩:=mkB2 w [.int .i64 r,.int .i64 c,.slice pp N cap] [.int .i64 0,.bool false,.int .i64 0,.int .i64 0,sV []] 35 26;obtain ⟨a0,a1,a2⟩:=Vec.three (B0);by_cases hr1:r=1
 ·subst hr1;by_cases hc1:c=1
  ·subst hc1;have MI:=mul_in (p:=(0:Int)) (q:=(0:Int)) (r:=(1:Int)) (c:=(1:Int)) (by omega) (by omega) (by omega) (by omega);have hb4:=HB.out;have hn4:=HN.out;have mN:0<N:=by omega
   have mI:((0:Nat):Int)<(N:Int):=by omega
   obtain ⟨e,he⟩:∃ e,l[0]?=some e:=⟨_,List.getElem?_eq_getElem (by rw [HN.out];exact mN)⟩;have HR:Hid (some e=R):=by
    show _=_;rw [← HR0.out];unfold cellAt;simp only [if_true];rw [if_pos (by omega),show ((0:Int) * (1:Int)+(0:Int)).toNat=0 by simp,he]
   obtain ⟨b,o,hpp,hrow⟩:=HW.out (by omega);subst hpp;obtain ⟨d0,d1,d2,d3,d4⟩:=(hrow.later X).five he;simp only [Nat.zero_mul,Nat.add_zero] at d0 d1 d2 d3 d4;have mI2:(0:Int)<(N:Int):=by omega
   clear HR0 HB HW MI hb4 hn4;obtain ⟨wy,hy,FX,⟨b0,b1,b2,b3,b4⟩,⟨fb0,fb1,fb2,fb3,fb4⟩,fd0,fd1,fd2,fd3,fd4⟩:=fin5 B1 X (by omega) e.k e.n e.d e.x e.t;go_enter Tryz.func68,Tryz.ntmps68;go_wp2_with fail;exact bodyPost_ret (v:=.tuple #[e.val,.bool true]) (by simp [results,Tryz.results68,go_sem,fd0,fd1,fd2,fd3,fd4]) rfl ⟨by rw [← HR.out];rfl,FX⟩
  ·have hcb:(c == 1)=false:=by simpa using hc1
   by_cases jc:(j:Int)<c
   ·have jb:¬ c≤(j:Int):=(by omega);have MI:=mul_in (p:=(0:Int)) (q:=(j:Int)) (r:=(1:Int)) (c:=c) (by omega) (by omega) (by omega) (by omega);have hb4:=HB.out;have hn4:=HN.out;have mN:j<N:=(by omega);have mI:((j:Nat):Int)<(N:Int):=(by omega);obtain ⟨e,he⟩:∃ e,l[j]?=some e:=⟨_,List.getElem?_eq_getElem (by rw [HN.out];exact mN)⟩;have HR:Hid (some e=R):=by
     show _=_;rw [← HR0.out];unfold cellAt;simp only [if_true,hc1,if_false];rw [if_pos (by omega),show ((0:Int) * c+(j:Int)).toNat=j by simp,he]
    obtain ⟨b,o,hpp,hrow⟩:=HW.out (by omega);subst hpp;obtain ⟨d0,d1,d2,d3,d4⟩:=(hrow.later X).five he;have hw3:IntKind.i64.wrap (j:Int)=(j:Int):=(by rw [IntKind.wrap_i64];omega);clear HR0 HB HW MI hb4 hn4;obtain ⟨wy,hy,FX,⟨b0,b1,b2,b3,b4⟩,⟨fb0,fb1,fb2,fb3,fb4⟩,fd0,fd1,fd2,fd3,fd4⟩:=fin5 B1 X (by omega) e.k e.n e.d e.x e.t;go_enter Tryz.func68,Tryz.ntmps68;go_wp2_with fail;exact bodyPost_ret (v:=.tuple #[e.val,.bool true]) (by simp [results,Tryz.results68,go_sem,fd0,fd1,fd2,fd3,fd4]) rfl ⟨by rw [← HR.out];rfl,FX⟩
   ·have jb:c≤(j:Int):=(by omega);have HR:Hid (none=R):=(by show _=_;rw [← HR0.out];unfold cellAt;rw [if_neg (by simp [hc1];omega)]);clear HR0;obtain ⟨wy,hy,FX,⟨b0,b1,b2,b3,b4⟩,⟨fb0,fb1,fb2,fb3,fb4⟩,fd0,fd1,fd2,fd3,fd4⟩:=fin5 B1 X (by omega) 0 false 0 0 [];go_enter Tryz.func68,Tryz.ntmps68;go_wp2_with fail;exact bodyPost_ret (v:=.tuple #[valV 0 false 0 0 [],.bool false]) (by simp [results,Tryz.results68,go_sem,fd0,fd1,fd2,fd3,fd4]) rfl ⟨by rw [← HR.out];rfl,FX⟩
 ·have hrb:(r == 1)=false:=by simpa using hr1
  by_cases ir:(i:Int)<r
  ·have ib:¬ r≤(i:Int):=by omega
   by_cases hc1:c=1
   ·subst hc1;have MI:=mul_in (p:=(i:Int)) (q:=(0:Int)) (r:=r) (c:=(1:Int)) (by omega) (by omega) (by omega) (by omega);have hb4:=HB.out;have hn4:=HN.out;have mN:i<N:=(by omega);have mI:((i:Nat):Int)<(N:Int):=(by omega);obtain ⟨e,he⟩:∃ e,l[i]?=some e:=⟨_,List.getElem?_eq_getElem (by rw [HN.out];exact mN)⟩;have HR:Hid (some e=R):=by
     show _=_;rw [← HR0.out];unfold cellAt;simp only [hr1,if_false,if_true];rw [if_pos (by omega),show ((i:Int) * (1:Int)+(0:Int)).toNat=i by simp,he]
    obtain ⟨b,o,hpp,hrow⟩:=HW.out (by omega);subst hpp;obtain ⟨d0,d1,d2,d3,d4⟩:=(hrow.later X).five he;have hw3:IntKind.i64.wrap (i:Int)=(i:Int):=(by rw [IntKind.wrap_i64];omega);clear HR0 HB HW MI hb4 hn4;obtain ⟨wy,hy,FX,⟨b0,b1,b2,b3,b4⟩,⟨fb0,fb1,fb2,fb3,fb4⟩,fd0,fd1,fd2,fd3,fd4⟩:=fin5 B1 X (by omega) e.k e.n e.d e.x e.t;go_enter Tryz.func68,Tryz.ntmps68;go_wp2_with fail;exact bodyPost_ret (v:=.tuple #[e.val,.bool true]) (by simp [results,Tryz.results68,go_sem,fd0,fd1,fd2,fd3,fd4]) rfl ⟨by rw [← HR.out];rfl,FX⟩
   ·have hcb:(c == 1)=false:=(by simpa using hc1);by_cases jc:(j:Int)<c
    ·have jb:¬ c≤(j:Int):=(by omega);have MI:=mul_in (p:=(i:Int)) (q:=(j:Int)) (r:=r) (c:=c) (by omega) (by omega) (by omega) (by omega);have hb4:=HB.out;have hn4:=HN.out;obtain ⟨m,hm⟩:∃ m:Nat,(i:Int) * c+(j:Int)=(m:Int):=⟨((i:Int) * c+(j:Int)).toNat,by omega⟩;have mN:m<N:=(by omega);have mI:((m:Nat):Int)<(N:Int):=(by omega);obtain ⟨e,he⟩:∃ e,l[m]?=some e:=⟨_,List.getElem?_eq_getElem (by rw [HN.out];exact mN)⟩;have HR:Hid (some e=R):=by
      show _=_;rw [← HR0.out];unfold cellAt;simp only [hr1,hc1,if_false];rw [if_pos (by omega),show ((i:Int) * c+(j:Int)).toNat=m by rw [hm];rfl,he]
     obtain ⟨b,o,hpp,hrow⟩:=HW.out (by omega);subst hpp;obtain ⟨d0,d1,d2,d3,d4⟩:=(hrow.later X).five he;obtain ⟨pc,hpc⟩:∃ pc,(i:Int) * c=pc:=⟨_,rfl⟩;have hw1:IntKind.i64.wrap ((i:Int) * c)=pc:=(by rw [hpc,IntKind.wrap_i64];omega);have hw2:IntKind.i64.wrap (pc+(j:Int))=(m:Int):=(by rw [IntKind.wrap_i64];omega);clear HR0 HB HW MI hb4 hn4;obtain ⟨wy,hy,FX,⟨b0,b1,b2,b3,b4⟩,⟨fb0,fb1,fb2,fb3,fb4⟩,fd0,fd1,fd2,fd3,fd4⟩:=fin5 B1 X (by omega) e.k e.n e.d e.x e.t;clear hm hpc;go_enter Tryz.func68,Tryz.ntmps68;go_wp2_with fail;exact bodyPost_ret (v:=.tuple #[e.val,.bool true]) (by simp [results,Tryz.results68,go_sem,fd0,fd1,fd2,fd3,fd4]) rfl ⟨by rw [← HR.out];rfl,FX⟩
    ·have jb:c≤(j:Int):=(by omega);have HR:Hid (none=R):=(by show _=_;rw [← HR0.out];unfold cellAt;rw [if_neg (by simp [hr1,hc1];omega)]);clear HR0;obtain ⟨wy,hy,FX,⟨b0,b1,b2,b3,b4⟩,⟨fb0,fb1,fb2,fb3,fb4⟩,fd0,fd1,fd2,fd3,fd4⟩:=fin5 B1 X (by omega) 0 false 0 0 [];go_enter Tryz.func68,Tryz.ntmps68;go_wp2_with fail;exact bodyPost_ret (v:=.tuple #[valV 0 false 0 0 [],.bool false]) (by simp [results,Tryz.results68,go_sem,fd0,fd1,fd2,fd3,fd4]) rfl ⟨by rw [← HR.out];rfl,FX⟩
  ·have ib:r≤(i:Int):=by omega
   have HRn:Hid (none=R):=by show _=_;rw [← HR0.out];unfold cellAt;rw [if_neg (by simp [hr1];omega)]
   by_cases hc1:c=1
   ·subst hc1;have HR:=HRn;clear HR0;obtain ⟨wy,hy,FX,⟨b0,b1,b2,b3,b4⟩,⟨fb0,fb1,fb2,fb3,fb4⟩,fd0,fd1,fd2,fd3,fd4⟩:=fin5 B1 X (by omega) 0 false 0 0 [];go_enter Tryz.func68,Tryz.ntmps68;go_wp2_with fail;exact bodyPost_ret (v:=.tuple #[valV 0 false 0 0 [],.bool false]) (by simp [results,Tryz.results68,go_sem,fd0,fd1,fd2,fd3,fd4]) rfl ⟨by rw [← HR.out];rfl,FX⟩
   ·have hcb:(c == 1)=false:=(by simpa using hc1);have HR:=HRn;clear HR0;obtain ⟨wy,hy,FX,⟨b0,b1,b2,b3,b4⟩,⟨fb0,fb1,fb2,fb3,fb4⟩,fd0,fd1,fd2,fd3,fd4⟩:=fin5 B1 X (by omega) 0 false 0 0 [];go_enter Tryz.func68,Tryz.ntmps68;go_wp2_with fail;exact bodyPost_ret (v:=.tuple #[valV 0 false 0 0 [],.bool false]) (by simp [results,Tryz.results68,go_sem,fd0,fd1,fd2,fd3,fd4]) rfl ⟨by rw [← HR.out];rfl,FX⟩
theorem workT_ex (o:Nat) (e f:VT):∃ v:VT,workV o e.k e.n e.d e.x e.t f.k f.n f.d f.x f.t=v.val:=by
 obtain ⟨k,n,d,x,t,h⟩:=workV_val o e.k e.n e.d e.x e.t f.k f.n f.d f.x f.t;exact ⟨⟨k,n,d,x,t⟩,h⟩
noncomputable def workT (o:Nat) (e f:VT):VT:=Classical.choose (workT_ex o e f)
theorem workT_is (o:Nat) (e f:VT):workV o e.k e.n e.d e.x e.t f.k f.n f.d f.x f.t=(workT o e f).val:=Classical.choose_spec (workT_ex o e f)
def naE:VT:=⟨4,false,0,0,[35,78,47,65]⟩
noncomputable def cellW (o:Nat):Option VT→Option VT→VT
 | some e,some f=>workT o e f
 | _,_=>naE
noncomputable def gridF (o:Nat) (r c:Int) (l:List VT) (r' c':Int) (l':List VT) (C:Int) (q:Nat):VT:=
 cellW o (cellAt r c l ((q:Int) / C) ((q:Int) % C)) (cellAt r' c' l' ((q:Int) / C) ((q:Int) % C))
def hiG (a b:Int):Int:=max a b
def gridO (op:List UInt8) (r c:Int) (l:List VT) (r' c':Int) (l':List VT):Option Nat:=
 if (goodG r c l && goodG r' c' l' && decide (hiG r r' * hiG c c'≤2000))=true then opN op else none
noncomputable def gridR (op:List UInt8) (r c:Int) (l:List VT) (r' c':Int) (l':List VT):Int × Int × List VT:=
 match gridO op r c l r' c' l' with
 | none=>(0,0,[])
 | some o=>(hiG r r',hiG c c',(List.range (hiG r r' * hiG c c').toNat).map (gridF o r c l r' c' l' (hiG c c')))
theorem grid_none {op:List UInt8} {r c:Int} {l:List VT} {r' c':Int} {l':List VT} {R C:Int} {L:List VT} (h:gridR op r c l r' c' l'=(R,C,L)) (hn:gridO op r c l r' c' l'=none):R=0∧C=0∧L=[]:=by
 unfold gridR at h;rw [hn] at h;cases h;exact ⟨rfl,rfl,rfl⟩
theorem grid_some {op:List UInt8} {r c:Int} {l:List VT} {r' c':Int} {l':List VT} {R C:Int} {L:List VT} {o:Nat} (h:gridR op r c l r' c' l'=(R,C,L)) (hn:gridO op r c l r' c' l'=some o):R=hiG r r'∧C=hiG c c'∧L=(List.range (hiG r r' * hiG c c').toNat).map (gridF o r c l r' c' l' (hiG c c')):=by
 unfold gridR at h;rw [hn] at h;cases h;exact ⟨rfl,rfl,rfl⟩
theorem grid_len {op:List UInt8} {r c:Int} {l:List VT} {r' c':Int} {l':List VT} {R C:Int} {L:List VT} (h:gridR op r c l r' c' l'=(R,C,L)):L.length≤2000:=by
 cases hn:gridO op r c l r' c' l' with
 | none=>rw [(grid_none h hn).2.2];simp
 | some o =>
  rw [(grid_some h hn).2.2,List.length_map,List.length_range];unfold gridO at hn
  split at hn
  ·rename_i hc;simp only [Bool.and_eq_true,decide_eq_true_eq] at hc;omega
  ·cases hn
theorem cellT_is (A:Option VT):∃ (e:VT) (b:Bool),cellT A=.tuple #[e.val,.bool b]∧(b=true→A=some e)∧(b=false→A=none):=by
 cases A with
 | none=>exact ⟨zeroVT,false,rfl,(fun h=>by cases h),fun _=>rfl⟩
 | some e=>exact ⟨e,true,rfl,(fun _=>rfl),fun h=>by cases h⟩
theorem cellAt_mem {r c:Int} {l:List VT} {i j:Int} {e:VT} (h:cellAt r c l i j=some e):e ∈ l:=by
 unfold cellAt at h;by_cases hc:(if r=1 then 0 else i)<r∧(if c=1 then 0 else j)<c
 ·rw [if_pos hc] at h;exact List.mem_of_getElem? h
 ·rw [if_neg hc] at h;cases h
def flatV:List VT→List Value
 | []=>[]
 | x :: l=>x.cells++flatV l
theorem flatV_append (l m:List VT):flatV (l++m)=flatV l++flatV m:=by
 induction l with
 | nil=>rfl
 | cons x l ih=>simp [flatV,ih]
theorem flatV_length (l:List VT):(flatV l).length=l.length * 5:=by
 induction l with
 | nil=>rfl
 | cons x l ih=>simp [flatV,VT.cells,valL,ih];omega
theorem flatV_at {l:List VT} {i:Nat} {x:VT} (h:l[i]?=some x) (j:Nat) (hj:j<5):(flatV l)[i * 5+j]?=x.cells[j]?:=by
 induction l generalizing i with
 | nil=>cases h
 | cons y l ih =>
  have h5:y.cells.length=5:=rfl;cases i with
  | zero =>
   have:y=x:=by simpa using h
   subst this;show (y.cells++flatV l)[0 * 5+j]?=_;rw [Nat.zero_mul,Nat.zero_add,List.getElem?_append_left (by omega)]
  | succ i =>
   show (y.cells++flatV l)[(i+1) * 5+j]?=_;rw [List.getElem?_append_right (by omega),show (i+1) * 5+j - y.cells.length=i * 5+j by omega];exact ih (by simpa using h)
abbrev OwnW (w:World) (base:Nat) (v:Value) (l:List VT):Prop:=w.ownsRow base 26 5 v l.length (flatV l)
theorem ownW_later {w w':World} {base:Nat} {v:Value} {l:List VT} (h:OwnW w base v l) (hx:Ext w w'):OwnW w' base v l:=by
 refine ⟨h.1,h.2.imp id ?_⟩;rintro ⟨g,cap,cur,h1,h2,h3,h4⟩;have hlt:g<w.heap.size:=by
  rcases Nat.lt_or_ge g w.heap.size with h' | h'
  ·exact h'
  ·rw [Array.getElem?_eq_none h'] at h3;cases h3
 exact ⟨g,cap,cur,h1,h2,by rw [hx.block g hlt];exact h3,h4⟩
theorem ownW_block {w:World} {base:Nat} {v:Value} {l:List VT} (h:OwnW w base v l):∀ r,v.ownBlock=some r→base≤r:=by
 intro r hr
 rcases h.2 with ⟨rfl,_⟩ | ⟨g,cap,cur,rfl,h2,_⟩
 ·cases hr
 ·have:g=r:=by simpa [Value.ownBlock] using hr
  omega
theorem ownW_base {w:World} {base base':Nat} {v:Value} {l:List VT} (h:OwnW w base v l) (hb:base'≤base):OwnW w base' v l:=by
 refine ⟨h.1,h.2.imp id ?_⟩;rintro ⟨g,cap,cur,h1,h2,h3⟩;exact ⟨g,cap,cur,h1,Nat.le_trans hb h2,h3⟩
theorem ownW_keep {w w':World} {base:Nat} {v:Value} {l:List VT} {row:Option Nat} (h:OwnW w base v l) (hg:w.grownBy w' row) (hr:∀ k,row=some k→k<base):OwnW w' base v l:=by
 refine ⟨h.1,h.2.imp id ?_⟩;rintro ⟨g,cap,cur,h1,h2,h3,h4⟩;have hlt:g<w.heap.size:=by
  rcases Nat.lt_or_ge g w.heap.size with h' | h'
  ·exact h'
  ·rw [Array.getElem?_eq_none h'] at h3;cases h3
 exact ⟨g,cap,cur,h1,h2,by rw [hg.block g hlt (fun e=>by have:=hr g e.symm;omega)];exact h3,h4⟩
theorem ownW_lt {w:World} {base:Nat} {v:Value} {l:List VT} (h:OwnW w base v l):∀ g,v.ownBlock=some g→g<w.heap.size:=by
 intro r hr
 rcases h.2 with ⟨rfl,_⟩ | ⟨g,cap,cur,rfl,_,h3,_⟩
 ·cases hr
 ·have:g=r:=by simpa [Value.ownBlock] using hr
  subst this
  rcases Nat.lt_or_ge g w.heap.size with h' | h'
  ·exact h'
  ·rw [Array.getElem?_eq_none h'] at h3;cases h3
theorem ownW_slice {w:World} {base:Nat} {v:Value} {l:List VT} (h:OwnW w base v l):∃ p n c,v=.slice p n c:=by
 rcases h.2 with ⟨rfl,_⟩ | ⟨g,cap,cur,rfl,_⟩
 ·exact ⟨_,_,_,rfl⟩
 ·exact ⟨_,_,_,rfl⟩
theorem ownW_vals {w:World} {base:Nat} {v:Value} {l:List VT} (h:OwnW w base v l):ValsIn w v l:=by
 rcases h.2 with ⟨rfl,h0⟩ | ⟨g,cap,cur,rfl,hb,hg,hc,_,hcs,htake⟩
 ·exact ⟨none,0,by rw [h0],by omega,fun h=>absurd h0 (by omega)⟩
 ·refine ⟨_,cap,rfl,hc,fun _=>⟨g,0,rfl,fun i e hi c u hu=>?_⟩⟩;have:=h.cells (g:=g) rfl (i * 5+c) u ((flatV_at hi c (cells_lt hu)).trans hu);rw [show (⟨g,0,none⟩:Addr).add (i * 5+c)=⟨g,0+i * 5+c,none⟩ by unfold Addr.add;split <;> simp_all] at this;exact this
theorem ownW_far {w:World} {base:Nat} {v:Value} {l:List VT} (h:OwnW w base v l) {p:Addr} (hp:p.block<base) (u:Value):OwnW (w.setCell p u) base v l:=by
 refine ⟨h.1,h.2.imp id ?_⟩;rintro ⟨g,cap,cur,h1,h2,h3,h4⟩;exact ⟨g,cap,cur,h1,h2,by rw [heap_setCell_other _ _ _ _ (by omega)];exact h3,h4⟩
theorem vec_same {w w':World} {b:Nat} {l:List Value} (h:Vec w b l) (e:w'.heap[b]?=w.heap[b]?):Vec w' b l:=fun i u hi=>by
 have:=h i u hi;unfold World.cell? World.frozen? at this ⊢;simp only [e];exact this
theorem finG {a w:World} {b:Nat} (V:Vec w b [.int .i64 0,.int .i64 0,.slice none 0 0]) (X:Ext a w) (hb:a.heap.size≤b) (R C:Int) (sv:Value) :
  ∃ wy,((w.setCell ⟨b,0,none⟩ (.int .i64 R)).setCell ⟨b,1,none⟩ (.int .i64 C)).setCell ⟨b,2,none⟩ sv=wy∧Ext a wy∧(w.cell? ⟨b,0,none⟩=some (.int .i64 0)∧w.cell? ⟨b,1,none⟩=some (.int .i64 0)∧w.cell? ⟨b,2,none⟩=some (.slice none 0 0))∧(w.frozen? ⟨b,0,none⟩=false∧w.frozen? ⟨b,1,none⟩=false∧w.frozen? ⟨b,2,none⟩=false)∧wy.cell? ⟨b,0,none⟩=some (.int .i64 R)∧wy.cell? ⟨b,1,none⟩=some (.int .i64 C)∧wy.cell? ⟨b,2,none⟩=some sv:=
 ⟨_,rfl,Ext.setL (b:=b) hb [.int .i64 R,.int .i64 C,sv] 0 X,V.three,V.threeF,Vec.three (((V.put 0 (by simp) (.int .i64 R)).put 1 (by simp) (.int .i64 C)).put 2 (by simp) sv)⟩
theorem newG (w:World) (R C:Int) (p:Option Addr) (n c:Nat) :
  ∃ wz wy,w.alloc (.cells #[.int .i64 0,.int .i64 0,.slice none 0 0] 35)=wz∧((wz.setCell ⟨w.heap.size,0,none⟩ (.int .i64 R)).setCell ⟨w.heap.size,1,none⟩ (.int .i64 C)).setCell ⟨w.heap.size,2,none⟩ (.slice p n c)=wy∧Vec wy w.heap.size [.int .i64 R,.int .i64 C,.slice p n c]∧Ext w wy∧(wz.cell? ⟨w.heap.size,0,none⟩=some (.int .i64 0)∧wz.cell? ⟨w.heap.size,1,none⟩=some (.int .i64 0)∧wz.cell? ⟨w.heap.size,2,none⟩=some (.slice none 0 0))∧wz.frozen? ⟨w.heap.size,0,none⟩=false∧wz.frozen? ⟨w.heap.size,1,none⟩=false∧wz.frozen? ⟨w.heap.size,2,none⟩=false:=by
 have Z:=vec_made w [.int .i64 0,.int .i64 0,.slice none 0 0] 35;exact ⟨_,_,rfl,rfl,((Z.put 0 (by simp) (.int .i64 R)).put 1 (by simp) (.int .i64 C)).put 2 (by simp) _,Ext.setL (b:=w.heap.size) (Nat.le_refl _) [.int .i64 R,.int .i64 C,.slice p n c] 0 (x1 w _),Z.three,Z.threeF⟩
theorem goodG_all {r c:Int} {l:List VT} (h:goodG r c l=true):gsidesB r c l.length=true∧(∀ e ∈ l,e.good=true)∧(1≤r∧r≤2000)∧1≤c∧c≤2000:=by
 unfold goodG at h;rw [Bool.and_eq_true] at h;have hs:1≤r∧1≤c∧r * c≤2000∧(l.length:Int)=r * c:=of_decide_eq_true h.1;have g1:r≤r * c:=by have:=Int.mul_le_mul_of_nonneg_left (show (1:Int)≤c by omega) (show 0≤r by omega);omega
 have g2:c≤r * c:=by have:=Int.mul_le_mul_of_nonneg_right (show (1:Int)≤r by omega) (show 0≤c by omega);omega
 exact ⟨h.1,List.all_eq_true.1 h.2,by omega⟩
theorem infoW:∃ inf,Tryz.prog.info? 26=some inf∧inf.zero=some (valV 0 false 0 0 [])∧inf.size=5∧inf.bytes=48:=by
 obtain ⟨inf,e1,e2⟩:=Option.map_eq_some_iff.1 infoV;simp only [Prod.mk.injEq] at e2;exact ⟨inf,e1,e2.1,e2.2.1,e2.2.2⟩
end Go.Proofs.YtkadkfmidlhedaaGreatDoor

