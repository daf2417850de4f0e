/-
  Several texts in one: W9a, W9b, X9f, V7f, W9t.
-/
import Derived.Test.YtkadkfmidlhedaaGreatDoorMg22
import Derived.Test.YtkadkfmidlhedaaGreatDoorMg23
import Derived.Deep.DeepCutAuto
import Derived.Deep.AppendLies
import Derived.OwnWalk
import Derived.Laws.OwnMore
import Derived.Deep.RegionHeld3
import Derived.Laws.IdiomStrings
set_option maxRecDepth 8000
set_option maxHeartbeats 2000000
namespace Go.Proofs.YtkadkfmidlhedaaGreatDoor
open Go.RowKit
def cellAt (r c:Int) (l:List VT) (i j:Int):Option VT:=
 if (if r=1 then 0 else i)<r/\(if c=1 then 0 else j)<c then l[((if r=1 then 0 else i) * c+(if c=1 then 0 else j)).toNat]? else none
def zKN:Option VT->Value
 | none=>.tuple #[valV 0 false 0 0 [],.bool false]
 | some e=>.tuple #[e.val,.bool true]
theorem zG3 {p q r c:Int} (hp:0<=p) (hq:0<=q) (p1:p<r) (q1:q<c):0<=p * c/\p * c+q<r * c:=by
 have h1:0<=p * c:=Int.mul_nonneg hp (by omega);have h2:(p+1) * c<=r * c:=Int.mul_le_mul_of_nonneg_right (by omega) (by omega);rw [Int.add_mul,Int.one_mul] at h2;exact ⟨h1,by omega⟩
theorem zW5 (r c:Int) (v:Value) (l:List VT) (i j:Int) (w:World) (h:zB6 w v l) (hs:zAJ r c l.length=true) (i0:0<=i) (i1:i<=2000) (j0:0<=j) (j1:j<=2000) :
  Calls Tryz.prog 63 #[grV r c v,iQ i,iQ j] w fun e w'=>e=.returned (zKN (cellAt r c l i j))/\Ext w w':=by
 obtain ⟨i,rfl⟩:=Int.eq_ofNat_of_zero_le i0;obtain ⟨j,rfl⟩:=Int.eq_ofNat_of_zero_le j0;obtain ⟨R,hR⟩:=nm (cellAt r c l i j);have HR0:Hid (cellAt r c l i j=R):=hR;rw [hR];clear hR;have hs2:1<=r/\1<=c/\r * c<=2000/\(l.length:Int)=r * c:=of_decide_eq_true hs;obtain ⟨r1,c1,rc,ln⟩:=hs2;have HB:Hid (1<=r/\1<=c/\r * c<=2000/\(l.length:Int)=r * c):=⟨r1,c1,rc,ln⟩;clear hs rc ln;obtain ⟨pp,cap,rfl,hcap,hrow⟩:=h;obtain ⟨N,hN⟩:=nm (l.length);have HN:Hid (l.length=N):=hN;have HC:Hid (l.length<=cap):=hcap;have HW:Hid (0<l.length->∃ b o,pp=some ⟨b,o,none⟩/\RowV w b o l):=hrow;rw [hN];clear hN hcap hrow;obtain ⟨u0,u1,h0,h1,s0,s1,B0,B1,X⟩:=mkB2 w [iQ r,iQ c,.slice pp N cap] [iQ 0,.bool false,iQ 0,iQ 0,sV []] 35 26;obtain ⟨a0,a1,a2⟩:=Vec.three (B0);by_cases hr1:r=1
 ·subst hr1;by_cases hc1:c=1
  ·subst hc1;have MI:=zG3 (p:=(0:Int)) (q:=(0:Int)) (r:=(1:Int)) (c:=(1:Int)) (by omega) (by omega) (by omega) (by omega);have hb4:=HB.out;have hn4:=HN.out;have mN:0<N:=by omega
   have mI:((0:Nat):Int)<(N:Int):=by omega
   obtain ⟨e,he⟩:∃ e,l[0]?=some e:=⟨_,List.getElem?_eq_getElem (by rw [HN.out];exact mN)⟩;have HR:Hid (some e=R):=by
    show _=_;rw [<- HR0.out];unfold cellAt;simp only [if_true];rw [if_pos (by omega),show ((0:Int) * (1:Int)+(0:Int)).toNat=0 by simp,he]
   obtain ⟨b,o,hpp,hrow⟩:=HW.out (by omega);subst hpp;obtain ⟨d0,d1,d2,d3,d4⟩:=(hrow.l X).five he;simp only [Nat.zero_mul,Nat.add_zero] at d0 d1 d2 d3 d4;have mI2:(0:Int)<(N:Int):=by omega
   clear HR0 HB HW MI hb4 hn4;obtain ⟨wy,hy,FX,⟨b0,b1,b2,b3,b4⟩,⟨fb0,fb1,fb2,fb3,fb4⟩,fd0,fd1,fd2,fd3,fd4⟩:=fin5 B1 X (by omega) e.k e.n e.d e.x e.t;go_enter Tryz.func63,Tryz.ntmps63;go_wp2_with fail;exact bodyPost_ret (v:=.tuple #[e.val,.bool true]) (by simp [results,Tryz.results63,go_sem,fd0,fd1,fd2,fd3,fd4]) rfl ⟨by rw [<- HR.out];rfl,FX⟩
  ·have hcb:(c == 1)=false:=by simpa using hc1
   by_cases jc:(j:Int)<c
   ·have jb:¬ c<=(j:Int):=(by omega);have MI:=zG3 (p:=(0:Int)) (q:=(j:Int)) (r:=(1:Int)) (c:=c) (by omega) (by omega) (by omega) (by omega);have hb4:=HB.out;have hn4:=HN.out;have mN:j<N:=(by omega);have mI:((j:Nat):Int)<(N:Int):=(by omega);obtain ⟨e,he⟩:∃ e,l[j]?=some e:=⟨_,List.getElem?_eq_getElem (by rw [HN.out];exact mN)⟩;have HR:Hid (some e=R):=by
     show _=_;rw [<- HR0.out];unfold cellAt;simp only [if_true,hc1,if_false];rw [if_pos (by omega),show ((0:Int) * c+(j:Int)).toNat=j by simp,he]
    obtain ⟨b,o,hpp,hrow⟩:=HW.out (by omega);subst hpp;obtain ⟨d0,d1,d2,d3,d4⟩:=(hrow.l X).five he;have hw3:IntKind.i64.wrap (j:Int)=(j:Int):=(by rw [IntKind.wrap_i64];omega);clear HR0 HB HW MI hb4 hn4;obtain ⟨wy,hy,FX,⟨b0,b1,b2,b3,b4⟩,⟨fb0,fb1,fb2,fb3,fb4⟩,fd0,fd1,fd2,fd3,fd4⟩:=fin5 B1 X (by omega) e.k e.n e.d e.x e.t;go_enter Tryz.func63,Tryz.ntmps63;go_wp2_with fail;exact bodyPost_ret (v:=.tuple #[e.val,.bool true]) (by simp [results,Tryz.results63,go_sem,fd0,fd1,fd2,fd3,fd4]) rfl ⟨by rw [<- HR.out];rfl,FX⟩
   ·have jb:c<=(j:Int):=(by omega);have HR:Hid (none=R):=(by show _=_;rw [<- HR0.out];unfold cellAt;rw [if_neg (by simp [hc1];omega)]);clear HR0;obtain ⟨wy,hy,FX,⟨b0,b1,b2,b3,b4⟩,⟨fb0,fb1,fb2,fb3,fb4⟩,fd0,fd1,fd2,fd3,fd4⟩:=fin5 B1 X (by omega) 0 false 0 0 [];go_enter Tryz.func63,Tryz.ntmps63;go_wp2_with fail;exact bodyPost_ret (v:=.tuple #[valV 0 false 0 0 [],.bool false]) (by simp [results,Tryz.results63,go_sem,fd0,fd1,fd2,fd3,fd4]) rfl ⟨by rw [<- HR.out];rfl,FX⟩
 ·have hrb:(r == 1)=false:=by simpa using hr1
  by_cases ir:(i:Int)<r
  ·have ib:¬ r<=(i:Int):=by omega
   by_cases hc1:c=1
   ·subst hc1;have MI:=zG3 (p:=(i:Int)) (q:=(0:Int)) (r:=r) (c:=(1:Int)) (by omega) (by omega) (by omega) (by omega);have hb4:=HB.out;have hn4:=HN.out;have mN:i<N:=(by omega);have mI:((i:Nat):Int)<(N:Int):=(by omega);obtain ⟨e,he⟩:∃ e,l[i]?=some e:=⟨_,List.getElem?_eq_getElem (by rw [HN.out];exact mN)⟩;have HR:Hid (some e=R):=by
     show _=_;rw [<- HR0.out];unfold cellAt;simp only [hr1,if_false,if_true];rw [if_pos (by omega),show ((i:Int) * (1:Int)+(0:Int)).toNat=i by simp,he]
    obtain ⟨b,o,hpp,hrow⟩:=HW.out (by omega);subst hpp;obtain ⟨d0,d1,d2,d3,d4⟩:=(hrow.l X).five he;have hw3:IntKind.i64.wrap (i:Int)=(i:Int):=(by rw [IntKind.wrap_i64];omega);clear HR0 HB HW MI hb4 hn4;obtain ⟨wy,hy,FX,⟨b0,b1,b2,b3,b4⟩,⟨fb0,fb1,fb2,fb3,fb4⟩,fd0,fd1,fd2,fd3,fd4⟩:=fin5 B1 X (by omega) e.k e.n e.d e.x e.t;go_enter Tryz.func63,Tryz.ntmps63;go_wp2_with fail;exact bodyPost_ret (v:=.tuple #[e.val,.bool true]) (by simp [results,Tryz.results63,go_sem,fd0,fd1,fd2,fd3,fd4]) rfl ⟨by rw [<- HR.out];rfl,FX⟩
   ·have hcb:(c == 1)=false:=(by simpa using hc1);by_cases jc:(j:Int)<c
    ·have jb:¬ c<=(j:Int):=(by omega);have MI:=zG3 (p:=(i:Int)) (q:=(j:Int)) (r:=r) (c:=c) (by omega) (by omega) (by omega) (by omega);have hb4:=HB.out;have hn4:=HN.out;obtain ⟨m,hm⟩:∃ m:Nat,(i:Int) * c+(j:Int)=(m:Int):=⟨((i:Int) * c+(j:Int)).toNat,by omega⟩;have mN:m<N:=(by omega);have mI:((m:Nat):Int)<(N:Int):=(by omega);obtain ⟨e,he⟩:∃ e,l[m]?=some e:=⟨_,List.getElem?_eq_getElem (by rw [HN.out];exact mN)⟩;have HR:Hid (some e=R):=by
      show _=_;rw [<- HR0.out];unfold cellAt;simp only [hr1,hc1,if_false];rw [if_pos (by omega),show ((i:Int) * c+(j:Int)).toNat=m by rw [hm];rfl,he]
     obtain ⟨b,o,hpp,hrow⟩:=HW.out (by omega);subst hpp;obtain ⟨d0,d1,d2,d3,d4⟩:=(hrow.l X).five he;obtain ⟨pc,hpc⟩:=nm ((i:Int) * c);have hw1:IntKind.i64.wrap ((i:Int) * c)=pc:=(by rw [hpc,IntKind.wrap_i64];omega);have hw2:IntKind.i64.wrap (pc+(j:Int))=(m:Int):=(by rw [IntKind.wrap_i64];omega);clear HR0 HB HW MI hb4 hn4;obtain ⟨wy,hy,FX,⟨b0,b1,b2,b3,b4⟩,⟨fb0,fb1,fb2,fb3,fb4⟩,fd0,fd1,fd2,fd3,fd4⟩:=fin5 B1 X (by omega) e.k e.n e.d e.x e.t;clear hm hpc;go_enter Tryz.func63,Tryz.ntmps63;go_wp2_with fail;exact bodyPost_ret (v:=.tuple #[e.val,.bool true]) (by simp [results,Tryz.results63,go_sem,fd0,fd1,fd2,fd3,fd4]) rfl ⟨by rw [<- HR.out];rfl,FX⟩
    ·have jb:c<=(j:Int):=(by omega);have HR:Hid (none=R):=(by show _=_;rw [<- HR0.out];unfold cellAt;rw [if_neg (by simp [hr1,hc1];omega)]);clear HR0;obtain ⟨wy,hy,FX,⟨b0,b1,b2,b3,b4⟩,⟨fb0,fb1,fb2,fb3,fb4⟩,fd0,fd1,fd2,fd3,fd4⟩:=fin5 B1 X (by omega) 0 false 0 0 [];go_enter Tryz.func63,Tryz.ntmps63;go_wp2_with fail;exact bodyPost_ret (v:=.tuple #[valV 0 false 0 0 [],.bool false]) (by simp [results,Tryz.results63,go_sem,fd0,fd1,fd2,fd3,fd4]) rfl ⟨by rw [<- HR.out];rfl,FX⟩
  ·have ib:r<=(i:Int):=by omega
   have HRn:Hid (none=R):=by show _=_;rw [<- HR0.out];unfold cellAt;rw [if_neg (by simp [hr1];omega)]
   by_cases hc1:c=1
   ·subst hc1;have HR:=HRn;clear HR0;obtain ⟨wy,hy,FX,⟨b0,b1,b2,b3,b4⟩,⟨fb0,fb1,fb2,fb3,fb4⟩,fd0,fd1,fd2,fd3,fd4⟩:=fin5 B1 X (by omega) 0 false 0 0 [];go_enter Tryz.func63,Tryz.ntmps63;go_wp2_with fail;exact bodyPost_ret (v:=.tuple #[valV 0 false 0 0 [],.bool false]) (by simp [results,Tryz.results63,go_sem,fd0,fd1,fd2,fd3,fd4]) rfl ⟨by rw [<- HR.out];rfl,FX⟩
   ·have hcb:(c == 1)=false:=(by simpa using hc1);have HR:=HRn;clear HR0;obtain ⟨wy,hy,FX,⟨b0,b1,b2,b3,b4⟩,⟨fb0,fb1,fb2,fb3,fb4⟩,fd0,fd1,fd2,fd3,fd4⟩:=fin5 B1 X (by omega) 0 false 0 0 [];go_enter Tryz.func63,Tryz.ntmps63;go_wp2_with fail;exact bodyPost_ret (v:=.tuple #[valV 0 false 0 0 [],.bool false]) (by simp [results,Tryz.results63,go_sem,fd0,fd1,fd2,fd3,fd4]) rfl ⟨by rw [<- HR.out];rfl,FX⟩
theorem zWH (r c:Int) (v:Value) (l:List VT) (i j:Int) (w:World) (h:zB6 w v l) (hs:zAJ r c l.length=true) (i0:0<=i) (i1:i<=2000) (j0:0<=j) (j1:j<=2000) :
  Calls Tryz.prog 68 #[grV r c v,iQ i,iQ j] w fun e w'=>e=.returned (zKN (cellAt r c l i j))/\Ext w w':=by
 obtain ⟨i,rfl⟩:=Int.eq_ofNat_of_zero_le i0;obtain ⟨j,rfl⟩:=Int.eq_ofNat_of_zero_le j0;obtain ⟨R,hR⟩:=nm (cellAt r c l i j);have HR0:Hid (cellAt r c l i j=R):=hR;rw [hR];clear hR;have hs2:1<=r/\1<=c/\r * c<=2000/\(l.length:Int)=r * c:=of_decide_eq_true hs;obtain ⟨r1,c1,rc,ln⟩:=hs2;have HB:Hid (1<=r/\1<=c/\r * c<=2000/\(l.length:Int)=r * c):=⟨r1,c1,rc,ln⟩;clear hs rc ln;obtain ⟨pp,cap,rfl,hcap,hrow⟩:=h;obtain ⟨N,hN⟩:=nm (l.length);have HN:Hid (l.length=N):=hN;have HC:Hid (l.length<=cap):=hcap;have HW:Hid (0<l.length->∃ b o,pp=some ⟨b,o,none⟩/\RowV w b o l):=hrow;rw [hN];clear hN hcap hrow;obtain ⟨u0,u1,h0,h1,s0,s1,B0,B1,X⟩:=mkB2 w [iQ r,iQ c,.slice pp N cap] [iQ 0,.bool false,iQ 0,iQ 0,sV []] 35 26;obtain ⟨a0,a1,a2⟩:=Vec.three (B0);by_cases hr1:r=1
 ·subst hr1;by_cases hc1:c=1
  ·subst hc1;have MI:=zG3 (p:=(0:Int)) (q:=(0:Int)) (r:=(1:Int)) (c:=(1:Int)) (by omega) (by omega) (by omega) (by omega);have hb4:=HB.out;have hn4:=HN.out;have mN:0<N:=by omega
   have mI:((0:Nat):Int)<(N:Int):=by omega
   obtain ⟨e,he⟩:∃ e,l[0]?=some e:=⟨_,List.getElem?_eq_getElem (by rw [HN.out];exact mN)⟩;have HR:Hid (some e=R):=by
    show _=_;rw [<- HR0.out];unfold cellAt;simp only [if_true];rw [if_pos (by omega),show ((0:Int) * (1:Int)+(0:Int)).toNat=0 by simp,he]
   obtain ⟨b,o,hpp,hrow⟩:=HW.out (by omega);subst hpp;obtain ⟨d0,d1,d2,d3,d4⟩:=(hrow.l X).five he;simp only [Nat.zero_mul,Nat.add_zero] at d0 d1 d2 d3 d4;have mI2:(0:Int)<(N:Int):=by omega
   clear HR0 HB HW MI hb4 hn4;obtain ⟨wy,hy,FX,⟨b0,b1,b2,b3,b4⟩,⟨fb0,fb1,fb2,fb3,fb4⟩,fd0,fd1,fd2,fd3,fd4⟩:=fin5 B1 X (by omega) e.k e.n e.d e.x e.t;go_enter Tryz.func68,Tryz.ntmps68;go_wp2_with fail;exact bodyPost_ret (v:=.tuple #[e.val,.bool true]) (by simp [results,Tryz.results68,go_sem,fd0,fd1,fd2,fd3,fd4]) rfl ⟨by rw [<- HR.out];rfl,FX⟩
  ·have hcb:(c == 1)=false:=by simpa using hc1
   by_cases jc:(j:Int)<c
   ·have jb:¬ c<=(j:Int):=(by omega);have MI:=zG3 (p:=(0:Int)) (q:=(j:Int)) (r:=(1:Int)) (c:=c) (by omega) (by omega) (by omega) (by omega);have hb4:=HB.out;have hn4:=HN.out;have mN:j<N:=(by omega);have mI:((j:Nat):Int)<(N:Int):=(by omega);obtain ⟨e,he⟩:∃ e,l[j]?=some e:=⟨_,List.getElem?_eq_getElem (by rw [HN.out];exact mN)⟩;have HR:Hid (some e=R):=by
     show _=_;rw [<- HR0.out];unfold cellAt;simp only [if_true,hc1,if_false];rw [if_pos (by omega),show ((0:Int) * c+(j:Int)).toNat=j by simp,he]
    obtain ⟨b,o,hpp,hrow⟩:=HW.out (by omega);subst hpp;obtain ⟨d0,d1,d2,d3,d4⟩:=(hrow.l X).five he;have hw3:IntKind.i64.wrap (j:Int)=(j:Int):=(by rw [IntKind.wrap_i64];omega);clear HR0 HB HW MI hb4 hn4;obtain ⟨wy,hy,FX,⟨b0,b1,b2,b3,b4⟩,⟨fb0,fb1,fb2,fb3,fb4⟩,fd0,fd1,fd2,fd3,fd4⟩:=fin5 B1 X (by omega) e.k e.n e.d e.x e.t;go_enter Tryz.func68,Tryz.ntmps68;go_wp2_with fail;exact bodyPost_ret (v:=.tuple #[e.val,.bool true]) (by simp [results,Tryz.results68,go_sem,fd0,fd1,fd2,fd3,fd4]) rfl ⟨by rw [<- HR.out];rfl,FX⟩
   ·have jb:c<=(j:Int):=(by omega);have HR:Hid (none=R):=(by show _=_;rw [<- HR0.out];unfold cellAt;rw [if_neg (by simp [hc1];omega)]);clear HR0;obtain ⟨wy,hy,FX,⟨b0,b1,b2,b3,b4⟩,⟨fb0,fb1,fb2,fb3,fb4⟩,fd0,fd1,fd2,fd3,fd4⟩:=fin5 B1 X (by omega) 0 false 0 0 [];go_enter Tryz.func68,Tryz.ntmps68;go_wp2_with fail;exact bodyPost_ret (v:=.tuple #[valV 0 false 0 0 [],.bool false]) (by simp [results,Tryz.results68,go_sem,fd0,fd1,fd2,fd3,fd4]) rfl ⟨by rw [<- HR.out];rfl,FX⟩
 ·have hrb:(r == 1)=false:=by simpa using hr1
  by_cases ir:(i:Int)<r
  ·have ib:¬ r<=(i:Int):=by omega
   by_cases hc1:c=1
   ·subst hc1;have MI:=zG3 (p:=(i:Int)) (q:=(0:Int)) (r:=r) (c:=(1:Int)) (by omega) (by omega) (by omega) (by omega);have hb4:=HB.out;have hn4:=HN.out;have mN:i<N:=(by omega);have mI:((i:Nat):Int)<(N:Int):=(by omega);obtain ⟨e,he⟩:∃ e,l[i]?=some e:=⟨_,List.getElem?_eq_getElem (by rw [HN.out];exact mN)⟩;have HR:Hid (some e=R):=by
     show _=_;rw [<- HR0.out];unfold cellAt;simp only [hr1,if_false,if_true];rw [if_pos (by omega),show ((i:Int) * (1:Int)+(0:Int)).toNat=i by simp,he]
    obtain ⟨b,o,hpp,hrow⟩:=HW.out (by omega);subst hpp;obtain ⟨d0,d1,d2,d3,d4⟩:=(hrow.l X).five he;have hw3:IntKind.i64.wrap (i:Int)=(i:Int):=(by rw [IntKind.wrap_i64];omega);clear HR0 HB HW MI hb4 hn4;obtain ⟨wy,hy,FX,⟨b0,b1,b2,b3,b4⟩,⟨fb0,fb1,fb2,fb3,fb4⟩,fd0,fd1,fd2,fd3,fd4⟩:=fin5 B1 X (by omega) e.k e.n e.d e.x e.t;go_enter Tryz.func68,Tryz.ntmps68;go_wp2_with fail;exact bodyPost_ret (v:=.tuple #[e.val,.bool true]) (by simp [results,Tryz.results68,go_sem,fd0,fd1,fd2,fd3,fd4]) rfl ⟨by rw [<- HR.out];rfl,FX⟩
   ·have hcb:(c == 1)=false:=(by simpa using hc1);by_cases jc:(j:Int)<c
    ·have jb:¬ c<=(j:Int):=(by omega);have MI:=zG3 (p:=(i:Int)) (q:=(j:Int)) (r:=r) (c:=c) (by omega) (by omega) (by omega) (by omega);have hb4:=HB.out;have hn4:=HN.out;obtain ⟨m,hm⟩:∃ m:Nat,(i:Int) * c+(j:Int)=(m:Int):=⟨((i:Int) * c+(j:Int)).toNat,by omega⟩;have mN:m<N:=(by omega);have mI:((m:Nat):Int)<(N:Int):=(by omega);obtain ⟨e,he⟩:∃ e,l[m]?=some e:=⟨_,List.getElem?_eq_getElem (by rw [HN.out];exact mN)⟩;have HR:Hid (some e=R):=by
      show _=_;rw [<- HR0.out];unfold cellAt;simp only [hr1,hc1,if_false];rw [if_pos (by omega),show ((i:Int) * c+(j:Int)).toNat=m by rw [hm];rfl,he]
     obtain ⟨b,o,hpp,hrow⟩:=HW.out (by omega);subst hpp;obtain ⟨d0,d1,d2,d3,d4⟩:=(hrow.l X).five he;obtain ⟨pc,hpc⟩:=nm ((i:Int) * c);have hw1:IntKind.i64.wrap ((i:Int) * c)=pc:=(by rw [hpc,IntKind.wrap_i64];omega);have hw2:IntKind.i64.wrap (pc+(j:Int))=(m:Int):=(by rw [IntKind.wrap_i64];omega);clear HR0 HB HW MI hb4 hn4;obtain ⟨wy,hy,FX,⟨b0,b1,b2,b3,b4⟩,⟨fb0,fb1,fb2,fb3,fb4⟩,fd0,fd1,fd2,fd3,fd4⟩:=fin5 B1 X (by omega) e.k e.n e.d e.x e.t;clear hm hpc;go_enter Tryz.func68,Tryz.ntmps68;go_wp2_with fail;exact bodyPost_ret (v:=.tuple #[e.val,.bool true]) (by simp [results,Tryz.results68,go_sem,fd0,fd1,fd2,fd3,fd4]) rfl ⟨by rw [<- HR.out];rfl,FX⟩
    ·have jb:c<=(j:Int):=(by omega);have HR:Hid (none=R):=(by show _=_;rw [<- HR0.out];unfold cellAt;rw [if_neg (by simp [hr1,hc1];omega)]);clear HR0;obtain ⟨wy,hy,FX,⟨b0,b1,b2,b3,b4⟩,⟨fb0,fb1,fb2,fb3,fb4⟩,fd0,fd1,fd2,fd3,fd4⟩:=fin5 B1 X (by omega) 0 false 0 0 [];go_enter Tryz.func68,Tryz.ntmps68;go_wp2_with fail;exact bodyPost_ret (v:=.tuple #[valV 0 false 0 0 [],.bool false]) (by simp [results,Tryz.results68,go_sem,fd0,fd1,fd2,fd3,fd4]) rfl ⟨by rw [<- HR.out];rfl,FX⟩
  ·have ib:r<=(i:Int):=by omega
   have HRn:Hid (none=R):=by show _=_;rw [<- HR0.out];unfold cellAt;rw [if_neg (by simp [hr1];omega)]
   by_cases hc1:c=1
   ·subst hc1;have HR:=HRn;clear HR0;obtain ⟨wy,hy,FX,⟨b0,b1,b2,b3,b4⟩,⟨fb0,fb1,fb2,fb3,fb4⟩,fd0,fd1,fd2,fd3,fd4⟩:=fin5 B1 X (by omega) 0 false 0 0 [];go_enter Tryz.func68,Tryz.ntmps68;go_wp2_with fail;exact bodyPost_ret (v:=.tuple #[valV 0 false 0 0 [],.bool false]) (by simp [results,Tryz.results68,go_sem,fd0,fd1,fd2,fd3,fd4]) rfl ⟨by rw [<- HR.out];rfl,FX⟩
   ·have hcb:(c == 1)=false:=(by simpa using hc1);have HR:=HRn;clear HR0;obtain ⟨wy,hy,FX,⟨b0,b1,b2,b3,b4⟩,⟨fb0,fb1,fb2,fb3,fb4⟩,fd0,fd1,fd2,fd3,fd4⟩:=fin5 B1 X (by omega) 0 false 0 0 [];go_enter Tryz.func68,Tryz.ntmps68;go_wp2_with fail;exact bodyPost_ret (v:=.tuple #[valV 0 false 0 0 [],.bool false]) (by simp [results,Tryz.results68,go_sem,fd0,fd1,fd2,fd3,fd4]) rfl ⟨by rw [<- HR.out];rfl,FX⟩
def zAP:List VT->List Value
 | []=>[]
 | x :: l=>x.cells++zAP l
theorem zCV (l m:List VT):zAP (l++m)=zAP l++zAP m:=by
 induction l with
 | nil=>rfl
 | cons x l ih=>simp [zAP,ih]
theorem zC4 (l:List VT):(zAP l).length=l.length * 5:=by
 induction l with
 | nil=>rfl
 | cons x l ih=>simp [zAP,VT.cells,valL,ih];omega
theorem zFB {l:List VT} {i:Nat} {x:VT} (h:l[i]?=some x) (j:Nat) (hj:j<5):(zAP l)[i * 5+j]?=x.cells[j]?:=by
 induction l generalizing i with
 | nil=>cases h
 | cons y l ih =>
  have h5:y.cells.length=5:=rfl;cases i with
  | zero =>
   have:y=x:=by simpa using h
   subst this;show (y.cells++zAP l)[0 * 5+j]?=_;rw [Nat.zero_mul,Nat.zero_add,List.getElem?_append_left (by omega)]
  | succ i =>
   show (y.cells++zAP l)[(i+1) * 5+j]?=_;rw [List.getElem?_append_right (by omega),show (i+1) * 5+j - y.cells.length=i * 5+j by omega];exact ih (by simpa using h)
abbrev OwnW (w:World) (base:Nat) (v:Value) (l:List VT):Prop:=w.ownsRow base 26 5 v l.length (zAP l)
theorem zCD {w w':World} {base:Nat} {v:Value} {l:List VT} (h:OwnW w base v l) (hx:Ext w w'):OwnW w' base v l:=by
 refine ⟨h.1,h.2.imp id ?_⟩;rintro ⟨g,cap,cur,h1,h2,h3,h4⟩;have hlt:g<w.heap.size:=by
  rcases Nat.lt_or_ge g w.heap.size with h' | h'
  ·exact h'
  ·rw [Array.getElem?_eq_none h'] at h3;cases h3
 exact ⟨g,cap,cur,h1,h2,by rw [hx.block g hlt];exact h3,h4⟩
theorem zD3 {w:World} {base:Nat} {v:Value} {l:List VT} (h:OwnW w base v l):∀ r,v.ownBlock=some r->base<=r:=by
 intro r hr
 rcases h.2 with ⟨rfl,_⟩ | ⟨g,cap,cur,rfl,h2,_⟩
 ·cases hr
 ·have:g=r:=by simpa [Value.ownBlock] using hr
  omega
theorem zGY {w:World} {base base':Nat} {v:Value} {l:List VT} (h:OwnW w base v l) (hb:base'<=base):OwnW w base' v l:=by
 refine ⟨h.1,h.2.imp id ?_⟩;rintro ⟨g,cap,cur,h1,h2,h3⟩;exact ⟨g,cap,cur,h1,Nat.le_trans hb h2,h3⟩
theorem zOK {w w':World} {base:Nat} {v:Value} {l:List VT} {row:Option Nat} (h:OwnW w base v l) (hg:w.grownBy w' row) (hr:∀ k,row=some k->k<base):OwnW w' base v l:=by
 refine ⟨h.1,h.2.imp id ?_⟩;rintro ⟨g,cap,cur,h1,h2,h3,h4⟩;have hlt:g<w.heap.size:=by
  rcases Nat.lt_or_ge g w.heap.size with h' | h'
  ·exact h'
  ·rw [Array.getElem?_eq_none h'] at h3;cases h3
 exact ⟨g,cap,cur,h1,h2,by rw [hg.block g hlt (fun e=>by have:=hr g e.symm;omega)];exact h3,h4⟩
theorem zAV {w:World} {base:Nat} {v:Value} {l:List VT} (h:OwnW w base v l):∃ p n c,v=.slice p n c:=by
 rcases h.2 with ⟨rfl,_⟩ | ⟨g,cap,cur,rfl,_⟩
 ·exact ⟨_,_,_,rfl⟩
 ·exact ⟨_,_,_,rfl⟩
theorem zJA {w:World} {base:Nat} {v:Value} {l:List VT} (h:OwnW w base v l):zB6 w v l:=by
 rcases h.2 with ⟨rfl,h0⟩ | ⟨g,cap,cur,rfl,hb,hg,hc,_,hcs,htake⟩
 ·exact ⟨none,0,by rw [h0],by omega,fun h=>absurd h0 (by omega)⟩
 ·refine ⟨_,cap,rfl,hc,fun _=>⟨g,0,rfl,fun i e hi c u hu=>?_⟩⟩;have:=h.cells (g:=g) rfl (i * 5+c) u ((zFB hi c (zIR hu)).trans hu);rw [show (⟨g,0,none⟩:Addr).add (i * 5+c)=⟨g,0+i * 5+c,none⟩ by unfold Addr.add;split <;> simp_all] at this;exact this
theorem zBE {w:World} {base:Nat} {v:Value} {l:List VT} (h:OwnW w base v l) {p:Addr} (hp:p.block<base) (u:Value):OwnW (w.setCell p u) base v l:=by
 refine ⟨h.1,h.2.imp id ?_⟩;rintro ⟨g,cap,cur,h1,h2,h3,h4⟩;exact ⟨g,cap,cur,h1,h2,by rw [heap_setCell_other _ _ _ _ (by omega)];exact h3,h4⟩
theorem zDB {w w':World} {b:Nat} {l:List Value} (h:Vec w b l) (e:w'.heap[b]?=w.heap[b]?):Vec w' b l:=fun i u hi=>by
 have:=h i u hi;unfold World.cell? World.frozen? at this ⊢;simp only [e];exact this
theorem finG {a w:World} {b:Nat} (V:Vec w b [iQ 0,iQ 0,.slice none 0 0]) (X:Ext a w) (hb:a.heap.size<=b) (R C:Int) (sv:Value) :
  ∃ wy,((w.setCell ⟨b,0,none⟩ (iQ R)).setCell ⟨b,1,none⟩ (iQ C)).setCell ⟨b,2,none⟩ sv=wy/\Ext a wy/\(w.cell? ⟨b,0,none⟩=some (iQ 0)/\w.cell? ⟨b,1,none⟩=some (iQ 0)/\w.cell? ⟨b,2,none⟩=some (.slice none 0 0))/\(w.frozen? ⟨b,0,none⟩=false/\w.frozen? ⟨b,1,none⟩=false/\w.frozen? ⟨b,2,none⟩=false)/\wy.cell? ⟨b,0,none⟩=some (iQ R)/\wy.cell? ⟨b,1,none⟩=some (iQ C)/\wy.cell? ⟨b,2,none⟩=some sv:=
 ⟨_,rfl,Ext.setL (b:=b) hb [iQ R,iQ C,sv] 0 X,V.three,V.threeF,Vec.three (((V.put 0 (by simp) (iQ R)).put 1 (by simp) (iQ C)).put 2 (by simp) sv)⟩
theorem newG (w:World) (R C:Int) (p:Option Addr) (n c:Nat) :
  ∃ wz wy,w.alloc (.cells #[iQ 0,iQ 0,.slice none 0 0] 35)=wz/\((wz.setCell ⟨w.heap.size,0,none⟩ (iQ R)).setCell ⟨w.heap.size,1,none⟩ (iQ C)).setCell ⟨w.heap.size,2,none⟩ (.slice p n c)=wy/\Vec wy w.heap.size [iQ R,iQ C,.slice p n c]/\Ext w wy/\(wz.cell? ⟨w.heap.size,0,none⟩=some (iQ 0)/\wz.cell? ⟨w.heap.size,1,none⟩=some (iQ 0)/\wz.cell? ⟨w.heap.size,2,none⟩=some (.slice none 0 0))/\wz.frozen? ⟨w.heap.size,0,none⟩=false/\wz.frozen? ⟨w.heap.size,1,none⟩=false/\wz.frozen? ⟨w.heap.size,2,none⟩=false:=by
 have Z:=zA5 w [iQ 0,iQ 0,.slice none 0 0] 35;exact ⟨_,_,rfl,rfl,((Z.put 0 (by simp) (iQ R)).put 1 (by simp) (iQ C)).put 2 (by simp) _,Ext.setL (b:=w.heap.size) (Nat.le_refl _) [iQ R,iQ C,.slice p n c] 0 (x1 w _),Z.three,Z.threeF⟩
theorem zD7 {r c:Int} {l:List VT} (h:zE5 r c l=true):zAJ r c l.length=true/\(∀ e ∈ l,e.good=true)/\(1<=r/\r<=2000)/\1<=c/\c<=2000:=by
 unfold zE5 at h;rw [Bool.and_eq_true] at h;have hs:1<=r/\1<=c/\r * c<=2000/\(l.length:Int)=r * c:=of_decide_eq_true h.1;have g1:r<=r * c:=by have:=Int.mul_le_mul_of_nonneg_left (show (1:Int)<=c by omega) (show 0<=r by omega);omega
 have g2:c<=r * c:=by have:=Int.mul_le_mul_of_nonneg_right (show (1:Int)<=r by omega) (show 0<=c by omega);omega
 exact ⟨h.1,List.all_eq_true.1 h.2,by omega⟩
theorem zUH:∃ inf,Tryz.prog.info? 26=some inf/\inf.zero=some (valV 0 false 0 0 [])/\inf.size=5/\inf.bytes=48:=by
 obtain ⟨inf,e1,e2⟩:=Option.map_eq_some_iff.1 zW8;simp only [Prod.mk.injEq] at e2;exact ⟨inf,e1,e2.1,e2.2.1,e2.2.2⟩
def okE (e:VT):Prop:=0<=e.d/\e.d<1000000000000000/\e.t.length<=2000
theorem Only.own {w w':World} {b base:Nat} {v:Value} {l:List VT} (o:Only b w w') (h:OwnW w base v l) (hb:b<base):OwnW w' base v l:=zOK h o.to_grown (fun k hk=>by cases hk;exact hb)
theorem zXG {a w:World} {b base K g:Nat} (V:Vec w g [iQ 0,iQ 0,.slice none 0 0]) (C:Cur w b base K) (O:Only b a w) (hg:a.heap.size<=g) (hb:b ≠ g) (hbase:base<=g) (R C':Int) (p:Option Addr) (n c:Nat) {bs:Nat} {l:List VT} (OW:OwnW w bs (.slice p n c) l) (hbs:g<bs) :
  ∃ wy,((w.setCell ⟨g,0,none⟩ (iQ R)).setCell ⟨g,1,none⟩ (iQ C')).setCell ⟨g,2,none⟩ (.slice p n c)=wy/\Only b a wy/\Cur wy b base K/\(w.cell? ⟨g,0,none⟩=some (iQ 0)/\w.cell? ⟨g,1,none⟩=some (iQ 0)/\w.cell? ⟨g,2,none⟩=some (.slice none 0 0))/\(w.frozen? ⟨g,0,none⟩=false/\w.frozen? ⟨g,1,none⟩=false/\w.frozen? ⟨g,2,none⟩=false)/\wy.cell? ⟨g,0,none⟩=some (iQ R)/\wy.cell? ⟨g,1,none⟩=some (iQ C')/\wy.cell? ⟨g,2,none⟩=some (.slice p n c)/\OwnW wy bs (.slice p n c) l:=by
 obtain ⟨v0,v1,v2⟩:=Vec.three (((V.put 0 (by simp) (iQ R)).put 1 (by simp) (iQ C')).put 2 (by simp) (.slice p n c));exact ⟨_,rfl,((O.setNew hg _).setNew hg _).setNew hg _,((C.far hb hbase _).far hb hbase _).far hb hbase _,V.three,V.threeF,v0,v1,v2,zBE (zBE (zBE OW (p:=⟨_,_,_⟩) hbs _) (p:=⟨_,_,_⟩) hbs _) (p:=⟨_,_,_⟩) hbs _⟩
theorem zWC (b base K:Nat) (w:World) (h:Cur w b base K) (hK:K<=100000) :
  Calls Tryz.prog 58 #[.pointer (some ⟨b,0,none⟩),iQ 4] w fun e w'=>(∃ (R C:Nat) (sv:Value) (l:List VT),e=.returned (grV R C sv)/\OwnW w' w.heap.size sv l/\(1<=R/\R<=4)/\(1<=C/\C<=4)/\l.length=R * C/\∀ q ∈ l,okE q)/\Cur w' b base (K+700)/\Only b w w':=by
 have bl:=h.lt;have bb:=h.baseC;have X0:=x1 w (.cells #[iQ 0,iQ 0,.slice none 0 0] 35);have V0:=zA5 w [iQ 0,iQ 0,.slice none 0 0] 35;have C0:=h.ext X0;go_enter Tryz.func58,Tryz.ntmps58;go_wp2_with fail;refine (zBX b base K 4 _ C0 (by omega) (by omega) (by omega)).mono ?_;rintro e w1 ⟨r,rfl,⟨r0,r9⟩,C1,o1⟩;have V1:=o1.vecC (by omega) V0;have O1:=(Only.of_ext X0).trans o1;clear C0 o1 X0 V0;go_wp2_with fail;refine (zBX b base _ 4 _ C1 (by omega) (by omega) (by omega)).mono ?_;rintro e w2 ⟨c,rfl,⟨c0,c9⟩,C1,o1⟩;have V1:=o1.vecC (by omega) V1;have O1:=O1.trans o1;clear o1;obtain ⟨R,hR⟩:∃ R:Nat,1+r=(R:Int):=⟨(1+r).toNat,by omega⟩;obtain ⟨C,hC⟩:∃ C:Nat,1+c=(C:Int):=⟨(1+c).toNat,by omega⟩;have wR:IntKind.i64.wrap (1+r)=(R:Int):=by rw [hR,IntKind.wrap_i64];omega
 have wC:IntKind.i64.wrap (1+c)=(C:Int):=by rw [hC,IntKind.wrap_i64];omega
 have hR1:1<=R/\R<=4:=by omega
 have hC1:1<=C/\C<=4:=by omega
 obtain ⟨N,hN⟩:∃ N:Nat,R * C=N:=⟨_,rfl⟩;have hN4:N<=16:=by rw [<- hN];exact Nat.mul_le_mul hR1.2 hC1.2
 have hNi:(R:Int) * (C:Int)=(N:Int):=by rw [<- hN,Int.natCast_mul]
 have hwr:IntKind.i64.wrap ((R:Int) * (C:Int))=(N:Int):=by rw [hNi,IntKind.wrap_i64];omega
 have lt2:=C1.lt;have ltV:w.heap.size<w2.heap.size:=World.block_lt_of_cell? _ _ (V1 0 _ rfl).1;obtain ⟨wz,w3,hz,hy,BO,XO,⟨z0,z1,z2⟩,fz0,fz1,fz2⟩:=newG w2 R C none 0 0;have C1:=C1.ext XO;have V1:=V1.l XO;have O1:=O1.trans (Only.of_ext XO);go_wp2_with fail;clear hz hy z0 z1 z2 fz0 fz1 fz2 XO wR wC;obtain ⟨gO,hgO⟩:=nm (w2.heap.size);rw [hgO] at BO lt2 ltV ⊢;clear hgO;have HV0:Hid (Vec w3 gO [iQ R,iQ C,.slice none 0 0]/\OwnW w3 (gO+1) (.slice none 0 0) []/\(∀ q ∈ ([]:List VT),okE q)/\Cur w3 b base (K+2+2+0 * 40)/\Only b w w3/\Vec w3 w.heap.size [iQ 0,iQ 0,.slice none 0 0]):=⟨BO,World.ownsRow_nil _ _ _ _,by simp,C1,O1,V1⟩;clear BO C1 O1 V1;go_loopw [6] (fun i wr=>∃ (q:Nat) (sv:Value) (l:List VT),q<=N/\i=.int .i64 q/\l.length=q/\Hid (Vec wr gO [.int .i64 R,.int .i64 C,sv]/\OwnW wr (gO+1) sv l/\(∀ q ∈ l,okE q)/\Cur wr b base (K+2+2+q * 40)/\Only b w wr/\Vec wr w.heap.size [.int .i64 0,.int .i64 0,.slice none 0 0])) (fun i _=>N - (intOf i).toNat)
 case atStart=>exact ⟨0,_,[],by omega,rfl,rfl,HV0⟩
 case round =>
  obtain ⟨q,sv,l,hq,rfl,hlq,HV⟩:=hrel;obtain ⟨VO,OW,HE,C1,O1,V1⟩:=HV.out;clear HV0;obtain ⟨ps,ns,cs,rfl⟩:=zAV OW;obtain ⟨a0,a1,a2⟩:=Vec.three VO;by_cases hlt:q<N
  ·have i2:(q:Int)<(N:Int):=by omega
   have hltb:decide ((q:Int)<(N:Int))=true:=by simpa using i2
   go_wp2_with fail;clear a0 a1 a2;refine zA2 (fun lx:Nat->Value=>{ tmps:=#[Value.pointer (some ⟨b,0,none⟩),iQ 4,undef,undef,Value.pointer (some ⟨w.heap.size,0,none⟩),Value.pointer (some ⟨gO,0,none⟩),Value.int .i64 (q:Int),Value.pointer (some ⟨b,0,none⟩),iQ 4,iQ r,Value.int .i64 (R:Int),Value.pointer (some ⟨b,0,none⟩),iQ 4,iQ c,Value.int .i64 (C:Int),Value.agg #[Value.int .i64 (R:Int),Value.int .i64 (C:Int),Value.slice none 0 0],Value.int .i64 (q:Int),Value.pointer (some ⟨gO,0,none⟩),Value.int .i64 (R:Int),Value.pointer (some ⟨gO,1,none⟩),Value.int .i64 (C:Int),Value.int .i64 (N:Int),Value.bool true,u23,u24,lx 25,lx 26,lx 27,lx 28,lx 29,lx 30,lx 31,undef],defers:=[] }) (fun L lx lw=>Hid (Only b w lw/\(L 3=false->Cur lw b base (K+2+2+q * 40))/\(L 3=true->Cur lw b base ((K+2+2+q * 40)+40))/\(L 7=false->Vec lw gO [iQ (R:Int),iQ (C:Int),Value.slice ps ns cs])/\(L 5=false->OwnW lw (gO+1) (Value.slice ps ns cs) l)/\(L 0=true->lx 25=Value.pointer (some ⟨gO,2,none⟩))/\(L 1=true->lx 26=Value.slice ps ns cs)/\(L 2=true->lx 27=Value.pointer (some ⟨b,0,none⟩))/\(L 3=true->∃ e:VT,lx 28=e.val/\okE e)/\(L 4=true->∃ (e:VT) (g:Nat),lx 29=.slice (some ⟨g,0,none⟩) 1 1/\okE e/\g ≠ b/\(L 5=false->Vec lw g e.cells))/\(L 5=true->∃ (e:VT) (p:Option Addr) (n c:Nat),okE e/\lx 30=.slice p n c/\OwnW lw (gO+1) (.slice p n c) (l++[e]))/\(L 6=true->lx 31=Value.pointer (some ⟨gO,2,none⟩))/\(L 7=true->∃ (e:VT) (p:Option Addr) (n c:Nat),okE e/\OwnW lw (gO+1) (.slice p n c) (l++[e])/\Vec lw gO [iQ (R:Int),iQ (C:Int),.slice p n c])/\(L 7=true->L 5=true)/\(L 5=true->L 3=true)/\Vec lw w.heap.size [iQ 0,iQ 0,.slice none 0 0]/\gO<lw.heap.size/\(L 4=true->L 3=true)/\(L 5=true->L 1=true))) rfl (by kernel_rfl) (fun jj=>if jj=25 then u25 else if jj=26 then u26 else if jj=27 then u27 else if jj=28 then u28 else if jj=29 then u29 else if jj=30 then u30 else if jj=31 then u31 else undef) rfl ?_ ?_ ?_
   ·have DD:=xd (xr wr);exact ⟨O1.trans (Only.of_ext DD),(fun _=>C1.ext DD),(fun z=>by cases z),(fun _=>VO.l DD),(fun _=>zCD OW DD),(fun z=>by cases z),(fun z=>by cases z),(fun z=>by cases z),(fun z=>by cases z),(fun z=>by cases z),(fun z=>by cases z),(fun z=>by cases z),(fun z=>by cases z),(fun z=>by cases z),(fun z=>by cases z),V1.l DD,World.block_lt_of_cell? _ _ ((VO.l DD) 0 _ rfl).1,(fun z=>by cases z),(fun z=>by cases z)⟩
   ·intro L lx wl i o K1 hK ho hL haf hI;obtain ⟨f0,f1,f2,f3,f4,f5,f6,f7,f8,f9,f10,f11,f12,f13,f14,f15,f16,f17,f18⟩:=hI.out
    match i,ho,hL,haf,hK with
    | 0,ho,hL,haf,hK =>
     cases ho
     (try dsimp only)
     go_wp2_with fail;exact hK (fun jj=>if jj=25 then Value.pointer (some ⟨gO,2,none⟩) else lx jj) _ ⟨f0,f1,f2,f3,f4,(fun _=>rfl),f6,f7,f8,f9,f10,f11,f12,f13,f14,f15,f16,f17,f18⟩
    | 1,ho,hL,haf,hK =>
     cases ho
     (try dsimp only)
     have h7:L 7=false:=by
      cases hh:L 7 with
      | false=>rfl
      | true=>exact absurd (f13 hh) (fun z=>by have:=f18 z;rw [hL] at this;cases this)
     have a2:=((f3 h7) 2 _ rfl).1;rw [f5 (haf ⟨0,.data⟩ (by simp) rfl)];go_wp2_with fail;exact hK (fun jj=>if jj=26 then Value.slice ps ns cs else if jj=25 then Value.pointer (some ⟨gO,2,none⟩) else lx jj) _ ⟨f0,f1,f2,f3,f4,(fun _=>rfl),(fun _=>rfl),f7,f8,f9,f10,f11,f12,f13,f14,f15,f16,f17,(fun _=>rfl)⟩
    | 2,ho,hL,haf,hK =>
     cases ho
     (try dsimp only)
     go_wp2_with fail;exact hK (fun jj=>if jj=27 then Value.pointer (some ⟨b,0,none⟩) else lx jj) _ ⟨f0,f1,f2,f3,f4,f5,f6,(fun _=>rfl),f8,f9,f10,f11,f12,f13,f14,f15,f16,f17,f18⟩
    | 3,ho,hL,haf,hK =>
     cases ho
     (try dsimp only)
     rw [f7 (haf ⟨2,.data⟩ (by simp) rfl)];go_wp2_with fail;refine (zN9 b base _ wl (f1 hL) (by omega)).mono ?_;rintro rr w' ⟨⟨k1,n1,d1,x1',t1,rfl,q1,q2,q3⟩,CC,o⟩;go_wp2_with fail;exact hK (fun jj=>if jj=28 then valV k1 n1 d1 x1' t1 else if jj=27 then Value.pointer (some ⟨b,0,none⟩) else lx jj) _ ⟨(f0.trans o),(fun z=>by cases z),(fun _=>CC),(fun z=>o.vecC (by omega) (f3 z)),(fun z=>o.own (f4 z) (by omega)),f5,f6,(fun _=>rfl),(fun _=>⟨⟨k1,n1,d1,x1',t1⟩,rfl,q1,q2,q3⟩),(fun z=>by obtain ⟨e,g,g1,g2,g3,g4⟩:=f9 z;exact ⟨e,g,g1,g2,g3,fun y=>o.vecC g3 (g4 y)⟩),(fun z=>by obtain ⟨e,p,n,c,g1,g2,g3⟩:=f10 z;exact ⟨e,p,n,c,g1,g2,o.own g3 (by omega)⟩),f11,(fun z=>by obtain ⟨e,p,n,c,g1,g2,g3⟩:=f12 z;exact ⟨e,p,n,c,g1,o.own g2 (by omega),o.vecC (by omega) g3⟩),f13,(fun _=>rfl),(o.vecC (by omega) f15),(Nat.lt_of_lt_of_le f16 o.size),(fun _=>rfl),f18⟩
    | 4,ho,hL,haf,hK =>
     cases ho
     (try dsimp only)
     have h3:L 3=true:=(haf ⟨3,.data⟩ (by simp) rfl);obtain ⟨e,e28,oe⟩:=f8 h3;have hbl:=(f2 h3).lt;rw [e28];have E:=x1 wl (.cells #[iQ e.k,.bool e.n,iQ e.d,iQ e.x,sV e.t] 26);have VN:=zA5 wl e.cells 26;go_wp2_with fail;exact hK (fun jj=>if jj=29 then .slice (some ⟨wl.heap.size,0,none⟩) 1 1 else if jj=28 then e.val else lx jj) _ ⟨(f0.trans (Only.of_ext E)),(fun z=>(f1 z).ext E),(fun z=>(f2 z).ext E),(fun z=>(f3 z).l E),(fun z=>zCD (f4 z) E),f5,f6,f7,(fun _=>⟨e,rfl,oe⟩),(fun _=>⟨e,wl.heap.size,rfl,oe,by omega,fun _=>VN⟩),(fun z=>by obtain ⟨e,p,n,c,g1,g2,g3⟩:=f10 z;exact ⟨e,p,n,c,g1,g2,zCD g3 E⟩),f11,(fun z=>by obtain ⟨e,p,n,c,g1,g2,g3⟩:=f12 z;exact ⟨e,p,n,c,g1,zCD g2 E,g3.l E⟩),f13,f14,(f15.l E),(Nat.lt_of_lt_of_le f16 E.size),(fun _=>h3),f18⟩
    | 5,ho,hL,haf,hK =>
     cases ho
     (try dsimp only)
     have h4:L 4=true:=(haf ⟨4,.data⟩ (by simp) rfl);have h3:L 3=true:=f17 h4;have h7:L 7=false:=by
      cases hh:L 7 with
      | false=>rfl
      | true=>have:=f13 hh;rw [hL] at this;cases this
     obtain ⟨e,g,e29,oe,gb,VN⟩:=f9 h4;have VN:Vec wl g [iQ e.k,.bool e.n,iQ e.d,iQ e.x,sV e.t]:=VN hL;have OQ:=f4 hL;rw [f6 (haf ⟨1,.data⟩ (by simp) rfl),e29];obtain ⟨inf,hi,hz,hz1,hz2⟩:=zUH;refine wpList_append_own _ rfl _ _ 33 rfl (gO+1) 26 inf (valV 0 false 0 0 []) 5 48 Tryz.underlying33 hi hz hz1 hz2 rfl (by decide) _ _ _ rfl OQ ⟨g,0,none⟩ 1 1 [iQ e.k,.bool e.n,iQ e.d,iQ e.x,sV e.t] rfl rfl (fun j u hj=>by rw [show (⟨g,0,none⟩:Addr).add j=⟨g,j,none⟩ by unfold Addr.add;split <;> simp_all];exact (VN j u hj).1) (by simp [Value.oneCell']) (by simp only [maxLen];omega) (by omega) (by omega) ?_;intro v7 wC ownC gC _;have lb:=zD3 OQ;have OC:OwnW wC (gO+1) v7 (l++[e]):=by
      show World.ownsRow _ _ _ _ _ _ _;rw [zCV,List.length_append];exact ownC
     obtain ⟨p7,n7,c7,rfl⟩:=zAV OC;go_wp2_with fail;exact hK (fun jj=>if jj=30 then .slice p7 n7 c7 else if jj=26 then Value.slice ps ns cs else if jj=29 then .slice (some ⟨g,0,none⟩) 1 1 else lx jj) _ ⟨(f0.grown gC (fun z hz=>by have:=lb z hz;omega)),(fun z=>(f1 z).grown gC (fun y hy=>by have:=lb y hy;exact ⟨by omega,by omega⟩)),(fun z=>(f2 z).grown gC (fun y hy=>by have:=lb y hy;exact ⟨by omega,by omega⟩)),(fun z=>zDB (f3 z) (gC.block gO f16 (fun y=>by have:=lb _ y.symm;omega))),(fun z=>by cases z),f5,(fun _=>rfl),f7,f8,(fun _=>⟨e,g,rfl,oe,gb,fun z=>by cases z⟩),(fun _=>⟨e,p7,n7,c7,oe,rfl,OC⟩),f11,(fun z=>Bool.noConfusion (h7.symm.trans z)),(fun z=>rfl),(fun _=>h3),(zDB f15 (gC.block w.heap.size (by omega) (fun y=>by have:=lb _ y.symm;omega))),(Nat.lt_of_lt_of_le f16 gC.size),f17,(fun _=>(haf ⟨1,.data⟩ (by simp) rfl))⟩
    | 6,ho,hL,haf,hK =>
     cases ho
     (try dsimp only)
     go_wp2_with fail;exact hK (fun jj=>if jj=31 then Value.pointer (some ⟨gO,2,none⟩) else lx jj) _ ⟨f0,f1,f2,f3,f4,f5,f6,f7,f8,f9,f10,(fun _=>rfl),f12,f13,f14,f15,f16,f17,f18⟩
    | 7,ho,hL,haf,hK =>
     cases ho
     (try dsimp only)
     have h5:L 5=true:=(haf ⟨5,.data⟩ (by simp) rfl);obtain ⟨e,p7,n7,c7,oe,e30,OC⟩:=f10 h5;have VC:=f3 hL;have q2:=(VC 2 _ rfl).1;have p2:=(VC 2 _ rfl).2;rw [f11 (haf ⟨6,.data⟩ (by simp) rfl),e30];have VD:Vec (wl.setCell ⟨gO,2,none⟩ (.slice p7 n7 c7)) gO [iQ (R:Int),iQ (C:Int),.slice p7 n7 c7]:=VC.put 2 (by simp) _;have OD:=zBE OC (p:=⟨gO,2,none⟩) (Nat.lt_succ_self _) (.slice p7 n7 c7);go_wp2_with fail;exact hK (fun jj=>if jj=30 then .slice p7 n7 c7 else if jj=31 then Value.pointer (some ⟨gO,2,none⟩) else if jj=26 then Value.slice ps ns cs else lx jj) _ ⟨(f0.setNew (by omega) _),(fun z=>(f1 z).far (by omega) (by omega) _),(fun z=>(f2 z).far (by omega) (by omega) _),(fun z=>by cases z),(fun z=>Bool.noConfusion (h5.symm.trans z)),f5,(fun _=>rfl),f7,f8,(fun z=>by obtain ⟨e,g,g1,g2,g3,g4⟩:=f9 z;exact ⟨e,g,g1,g2,g3,fun y=>Bool.noConfusion (h5.symm.trans y)⟩),(fun _=>⟨e,p7,n7,c7,oe,rfl,OD⟩),(fun _=>rfl),(fun _=>⟨e,p7,n7,c7,oe,OD,VD⟩),(fun _=>h5),f14,(f15.far (p:=⟨gO,2,none⟩) (by show gO ≠ _;omega) _),(by rw [World.size_setCell];exact f16),f17,f18⟩
    | k+8,ho,_,_,_=>simp at ho
   ·intro L lx w5 hall hI;obtain ⟨f0,f1,f2,f3,f4,f5,f6,f7,f8,f9,f10,f11,f12,f13,f14,f15,f16,f17,f18⟩:=hI.out;clear hI;obtain ⟨e,p7,n7,c7,oe,OD,VD⟩:=f12 (hall 7 (by simp));have CD:=f2 (hall 3 (by simp));have HVn:Hid (Vec w5 gO [iQ (R:Int),iQ (C:Int),.slice p7 n7 c7]/\OwnW w5 (gO+1) (.slice p7 n7 c7) (l++[e])/\(∀ z ∈ l++[e],okE z)/\Cur w5 b base (K+2+2+(q+1) * 40)/\Only b w w5/\Vec w5 w.heap.size [iQ 0,iQ 0,.slice none 0 0]):=⟨VD,OD,(fun z hz=>by rcases List.mem_append.1 hz with hz | hz;exact HE z hz;rw [List.mem_singleton.1 hz];exact oe),CD.more (by omega),f0,f15⟩;have hl1:Hid ((l++[e]).length=q+1):=(by show _=_;rw [List.length_append,hlq];rfl);clear hall f0 f1 f2 f3 f4 f5 f6 f7 f8 f9 f10 f11 f12 f13 f14 f15 f16 f17 f18 VD OD CD VO OW HE C1 O1 V1 HV
    (try dsimp only)
    go_wp2_with fail;go_roundw
    case rel=>exact ⟨q+1,_,l++[e],by omega,by go_num,hl1.out,HVn⟩
    case measure=>simp [intOf];omega
  ·obtain rfl:q=N:=by omega
   obtain ⟨wy,hy,OF,CF,⟨b0,b1,b2⟩,⟨fb0,fb1,fb2⟩,fd0,fd1,fd2,OY⟩:=zXG V1 C1 O1 (Nat.le_refl _) (by omega) (by omega) R C ps ns cs (OW) (by omega);go_wp2_with fail;exact bodyPost_ret (v:=grV R C (.slice ps ns cs)) (by simp [results,Tryz.results58,go_sem,fd0,fd1,fd2]) rfl ⟨⟨R,C,_,l,rfl,zGY OY (by omega),hR1,hC1,by omega,HE⟩,CF.more (by omega),OF⟩
theorem Vec.put3 {w:World} {b:Nat} {v0 v1 v2:Value} (h:Vec w b [v0,v1,v2]) (u0 u1 u2:Value):Vec (((w.setCell ⟨b,0,none⟩ u0).setCell ⟨b,1,none⟩ u1).setCell ⟨b,2,none⟩ u2) b [u0,u1,u2]:=
 ((h.put 0 (by simp) u0).put 1 (by simp) u1).put 2 (by simp) u2
def zAF (w:World) (v:Value) (n:Nat) (M:List Value):Prop:=
 M.length=n * 5/\∃ p cap,v=.slice p n cap/\n<=cap/\(0<n->∃ g,p=some ⟨g,0,none⟩/\Vec w g M)
theorem zAF.l {w w':World} {v:Value} {n:Nat} {M:List Value} (h:zAF w v n M) (e:Ext w w'):zAF w' v n M:=by
 obtain ⟨h1,p,cap,hv,hc,hg⟩:=h;refine ⟨h1,p,cap,hv,hc,fun h0=>?_⟩;obtain ⟨g,hp,hV⟩:=hg h0;exact ⟨g,hp,hV.l e⟩
theorem zAF.of_own {w:World} {g:Nat} {l:List VT} {n:Nat} (h:OwnV w g l) (hn:l.length=n):zAF w (.slice (some ⟨g,0,none⟩) n n) n (zAP l):=by
 refine ⟨by rw [zC4,hn],_,n,rfl,Nat.le_refl _,fun _=>⟨g,rfl,fun i u hi=>?_⟩⟩;have hlt:i<l.length * 5:=by rw [<- zC4];exact (List.getElem?_eq_some_iff.1 hi).1
 obtain ⟨e,he⟩:∃ e,l[i / 5]?=some e:=⟨_,List.getElem?_eq_getElem (by omega)⟩;have hj:i % 5<5:=Nat.mod_lt _ (by omega);have hi':i / 5 * 5+i % 5=i:=by omega
 have:=zFB he (i % 5) hj;rw [hi',hi] at this;have q:=h _ e he (i % 5) u this.symm;rw [hi'] at q;exact q
theorem zAF.of_row {w:World} {base:Nat} {v:Value} {l:List VT} (h:OwnW w base v l):zAF w v l.length (zAP l):=by
 refine ⟨zC4 l,?_⟩
 rcases h.2 with ⟨rfl,h0⟩ | ⟨g,cap,cur,rfl,hb,hg,hc,_,hcs,htake⟩
 ·exact ⟨none,0,by rw [h0],by omega,fun h=>absurd h0 (by omega)⟩
 ·refine ⟨_,cap,rfl,hc,fun _=>⟨g,rfl,fun i u hi=>⟨?_,?_⟩⟩⟩
  ·have:=h.cells (g:=g) rfl i u hi;rw [show (⟨g,0,none⟩:Addr).add i=⟨g,i,none⟩ by unfold Addr.add;split <;> simp_all] at this;exact this
  ·simp [World.frozen?,hg]
theorem zAF.vals {w:World} {v:Value} {l:List VT} (h:zAF w v l.length (zAP l)):zB6 w v l:=by
 obtain ⟨_,p,cap,rfl,hc,hg⟩:=h;refine ⟨p,cap,rfl,hc,fun h0=>?_⟩;obtain ⟨g,hp,V⟩:=hg h0;refine ⟨g,0,hp,fun i e hi c u hu=>?_⟩;rw [Nat.zero_add];exact (V _ u ((zFB hi c (zIR hu)).trans hu)).1
theorem zAF.far {w:World} {v:Value} {l:List VT} (h:zAF w v l.length (zAP l)) {b:Nat} {i0 i1:Int} {s:Value} (B:Vec w b [iQ i0,iQ i1,s]) (us:List Value):zAF (setL w b 0 us) v l.length (zAP l):=by
 obtain ⟨h1,p,cap,rfl,hc,hg⟩:=h;refine ⟨h1,p,cap,rfl,hc,fun h0=>?_⟩;obtain ⟨g,hp,V⟩:=hg h0;refine ⟨g,hp,Vec.farL (fun e=>?_) us 0 V⟩;subst e;obtain ⟨e0,he⟩:∃ e,l[0]?=some e:=⟨_,List.getElem?_eq_getElem h0⟩;have q1:=(V (0 * 5+1) _ ((zFB he 1 (by omega)).trans rfl)).1;have q2:=(B 1 _ rfl).1;rw [show 0 * 5+1=1 from rfl,q2] at q1;cases q1
theorem zAF.keep {w w':World} {v:Value} {n:Nat} {M:List Value} {row:Option Nat} (h:zAF w v n M) (hg:w.grownBy w' row) (hr:∀ g,0<n->v.ownBlock=some g->some g ≠ row):zAF w' v n M:=by
 obtain ⟨h1,p,cap,rfl,hc,hp⟩:=h;refine ⟨h1,p,cap,rfl,hc,fun h0=>?_⟩;obtain ⟨g,rfl,V⟩:=hp h0;have hlt:g<w.heap.size:=World.block_lt_of_cell? w ⟨g,0,none⟩ (V 0 _ (List.getElem?_eq_getElem (by omega))).1;exact ⟨g,rfl,zDB V (hg.block g hlt (hr g h0 rfl))⟩
theorem zAF.lt {w:World} {v:Value} {n:Nat} {M:List Value} (h:zAF w v n M) (h0:0<n):∀ g,v.ownBlock=some g->g<w.heap.size:=by
 intro r hr;obtain ⟨h1,p,cap,rfl,hc,hp⟩:=h;obtain ⟨g,rfl,V⟩:=hp h0;have:g=r:=by simpa [Value.ownBlock] using hr
 subst this;exact World.block_lt_of_cell? w ⟨g,0,none⟩ (V 0 _ (List.getElem?_eq_getElem (by omega))).1
end Go.Proofs.YtkadkfmidlhedaaGreatDoor

