/-
  Several texts in one: Ft1, Ft2, Ft3, Ft4, Ft5, Ft6.
-/
import Derived.Test.YteliaeejooekbaaGreatDoorMg18
set_option maxRecDepth 8000
set_option maxHeartbeats 2000000
namespace Go.Proofs.YteliaeejooekbaaGreatDoor
open Go.RowKit
theorem zT7 (t:List UInt8) (neg:Bool) (d:Int) (x:Int) (r:Int) (c:Int) (rf:Bool) (cf:Bool) (r2:Int) (c2:Int) (rf2:Bool) (cf2:Bool) (m:Int) (p:Option Addr) (kk cap:Nat) (many:Bool) (w:World) (hl:t.length<=1048576) :
  Calls Tryz.prog 103 #[exV 1 t neg d x r c rf cf r2 c2 rf2 cf2 m (.slice p kk cap),.bool many] w fun e w'=>e=.returned (.bool (decide (m=(kk:Int)) && decide (kk=0) && (t == []) && zFA neg d x && !neg && zA3 r c rf cf && zA3 r2 c2 rf2 cf2))/\Ext w w':=by
 have hU:True:=by have _:=hl;trivial
 clear hU;obtain ⟨Q,hQ⟩:=nm ((decide (m=(kk:Int)) && decide (kk=0) && (t == []) && zFA neg d x && !neg && zA3 r c rf cf && zA3 r2 c2 rf2 cf2));have HQ:Hid _:=hQ;rw [hQ];clear hQ;obtain ⟨wa,ha,X1,VE,-⟩:=zAC w [iQ 1,sV t,.bool neg,iQ d,iQ x,iQ r,iQ c,.bool rf,.bool cf,iQ r2,iQ c2,.bool rf2,.bool cf2,iQ m,.slice p kk cap] 77;obtain ⟨wb,hb,X2,VN,-⟩:=zAC wa [iQ 1,sV t,.bool neg,iQ d,iQ x,iQ r,iQ c,.bool rf,.bool cf,iQ r2,iQ c2,.bool rf2,.bool cf2,iQ m] 73;have sa:wa.heap.size=w.heap.size+1:=by rw [<- ha,World.size_alloc]
 rw [sa] at VN;have VE2:=VE.l X2;have X:=xt X1 X2;clear X1 X2;by_cases q:m=(kk:Int)
 ·have HMK:Hid (decide (m=(kk:Int))=true):=decide_eq_true q;have gMK:(m != (kk:Int))=false:=by simp [q]
  clear q;by_cases q:kk=0
  ·have HK0:Hid (decide (kk=0)=true):=decide_eq_true q;have gK0:((kk:Int) == 0)=true:=by simp [q]
   clear q;cases hT0:(t == [])
   ·have HB:Hid (false=Q):=by show _=_;first | (rw [<- HQ.out,HMK.out,HK0.out,hT0];rfl) | (rw [<- HQ.out,HMK.out,HK0.out];rfl)
    have a0:=vC15 VE;have d14:=(VE2 14 _ rfl).1;have n0:=vC14 VN;go_enter Tryz.func103,Tryz.ntmps103;go_wp2_with fail;clear a0 d14;go_ret;exact ⟨zA1 HB.out,X⟩
   ·cases hGD:zFA neg d x
    ·have HB:Hid (false=Q):=by show _=_;first | (rw [<- HQ.out,HMK.out,HK0.out,hT0,hGD];rfl) | (rw [<- HQ.out,HMK.out,HK0.out,hT0];rfl)
     have a0:=vC15 VE;have d14:=(VE2 14 _ rfl).1;have n0:=vC14 VN;go_enter Tryz.func103,Tryz.ntmps103;go_wp2_with fail;clear a0 d14;refine (zOU _ _ _ _).mono ?_;rintro e w1 ⟨rfl,e1⟩;have V1:=VN.l e1;have Y1:=xt X e1;clear n0;have n1x0:=vC14 V1;rw [hGD];go_wp2_with fail;go_ret;exact ⟨zA1 HB.out,Y1⟩
    ·cases neg
     ·cases hZ1:zA3 r c rf cf
      ·rcases zE2 hZ1 with q | ⟨rfl,q | ⟨rfl,rfl | ⟨rfl,rfl⟩⟩⟩
       all_goals
        have HB:Hid (false=Q):=by show _=_;first | (rw [<- HQ.out,HMK.out,HK0.out,hT0,hGD,hZ1];rfl) | (rw [<- HQ.out,HMK.out,HK0.out,hT0,hGD];rfl)
        have a0:=vC15 VE;have d14:=(VE2 14 _ rfl).1;have n0:=vC14 VN;go_enter Tryz.func103,Tryz.ntmps103;go_wp2_with fail;clear a0 d14;refine (zOU _ _ _ _).mono ?_;rintro e w1 ⟨rfl,e1⟩;have V1:=VN.l e1;have Y1:=xt X e1;clear n0;have n1x0:=vC14 V1;rw [hGD];go_wp2_with fail;go_ret;exact ⟨zA1 HB.out,Y1⟩
      ·obtain ⟨rfl,rfl,rfl,rfl⟩:r=0/\c=0/\rf=false/\cf=false:=(by simpa [zA3,and_assoc] using hZ1);cases hZ2:zA3 r2 c2 rf2 cf2
       ·rcases zE2 hZ2 with q | ⟨rfl,q | ⟨rfl,rfl | ⟨rfl,rfl⟩⟩⟩
        all_goals
         have HB:Hid (false=Q):=by show _=_;first | (rw [<- HQ.out,HMK.out,HK0.out,hT0,hGD,hZ1,hZ2];rfl) | (rw [<- HQ.out,HMK.out,HK0.out,hT0,hGD,hZ1];rfl)
         have a0:=vC15 VE;have d14:=(VE2 14 _ rfl).1;have n0:=vC14 VN;go_enter Tryz.func103,Tryz.ntmps103;go_wp2_with fail;clear a0 d14;refine (zOU _ _ _ _).mono ?_;rintro e w1 ⟨rfl,e1⟩;have V1:=VN.l e1;have Y1:=xt X e1;clear n0;have n1x0:=vC14 V1;rw [hGD];go_wp2_with fail;go_ret;exact ⟨zA1 HB.out,Y1⟩
       ·obtain ⟨rfl,rfl,rfl,rfl⟩:r2=0/\c2=0/\rf2=false/\cf2=false:=(by simpa [zA3,and_assoc] using hZ2);have HB:Hid (true=Q):=by show _=_;first | (rw [<- HQ.out,HMK.out,HK0.out,hT0,hGD,hZ1,hZ2];rfl) | (rw [<- HQ.out,HMK.out,HK0.out,hT0,hGD,hZ1];rfl)
        have a0:=vC15 VE;have d14:=(VE2 14 _ rfl).1;have n0:=vC14 VN;go_enter Tryz.func103,Tryz.ntmps103;go_wp2_with fail;clear a0 d14;refine (zOU _ _ _ _).mono ?_;rintro e w1 ⟨rfl,e1⟩;have V1:=VN.l e1;have Y1:=xt X e1;clear n0;have n1x0:=vC14 V1;rw [hGD];go_wp2_with fail;go_ret;exact ⟨zA1 HB.out,Y1⟩
     ·have HB:Hid (false=Q):=by show _=_;first | (rw [<- HQ.out,HMK.out,HK0.out,hT0,hGD];rfl) | (rw [<- HQ.out,HMK.out,HK0.out,hT0];rfl)
      have a0:=vC15 VE;have d14:=(VE2 14 _ rfl).1;have n0:=vC14 VN;go_enter Tryz.func103,Tryz.ntmps103;go_wp2_with fail;clear a0 d14;refine (zOU _ _ _ _).mono ?_;rintro e w1 ⟨rfl,e1⟩;have V1:=VN.l e1;have Y1:=xt X e1;clear n0;have n1x0:=vC14 V1;rw [hGD];go_wp2_with fail;go_ret;exact ⟨zA1 HB.out,Y1⟩
  ·have HK0:Hid (decide (kk=0)=false):=decide_eq_false q;have gK0:((kk:Int) == 0)=false:=by simp;omega
   clear q;have HB:Hid (false=Q):=by show _=_;first | (rw [<- HQ.out,HMK.out,HK0.out];rfl) | (rw [<- HQ.out,HMK.out];rfl)
   have a0:=vC15 VE;have d14:=(VE2 14 _ rfl).1;have n0:=vC14 VN;go_enter Tryz.func103,Tryz.ntmps103;go_wp2_with fail;clear a0 d14;go_ret;exact ⟨zA1 HB.out,X⟩
 ·have HMK:Hid (decide (m=(kk:Int))=false):=decide_eq_false q;have gMK:(m != (kk:Int))=true:=by simpa using q
  have HB:Hid (false=Q):=by show _=_;first | (rw [<- HQ.out,HMK.out];rfl) | (rw [<- HQ.out];rfl)
  have a0:=vC15 VE;have d14:=(VE2 14 _ rfl).1;have n0:=vC14 VN;go_enter Tryz.func103,Tryz.ntmps103;go_wp2_with fail;clear a0 d14;go_ret;exact ⟨zA1 HB.out,X⟩
theorem zT3 (t:List UInt8) (neg:Bool) (d:Int) (x:Int) (r:Int) (c:Int) (rf:Bool) (cf:Bool) (r2:Int) (c2:Int) (rf2:Bool) (cf2:Bool) (m:Int) (p:Option Addr) (kk cap:Nat) (many:Bool) (w:World) (hl:t.length<=1048576) :
  Calls Tryz.prog 103 #[exV 5 t neg d x r c rf cf r2 c2 rf2 cf2 m (.slice p kk cap),.bool many] w fun e w'=>e=.returned (.bool (decide (m=(kk:Int)) && decide (kk=0) && (t == []) && zAA r c && zA9 neg d x && zA3 r2 c2 rf2 cf2))/\Ext w w':=by
 have hU:True:=by have _:=hl;trivial
 clear hU;obtain ⟨Q,hQ⟩:=nm ((decide (m=(kk:Int)) && decide (kk=0) && (t == []) && zAA r c && zA9 neg d x && zA3 r2 c2 rf2 cf2));have HQ:Hid _:=hQ;rw [hQ];clear hQ;obtain ⟨wa,ha,X1,VE,-⟩:=zAC w [iQ 5,sV t,.bool neg,iQ d,iQ x,iQ r,iQ c,.bool rf,.bool cf,iQ r2,iQ c2,.bool rf2,.bool cf2,iQ m,.slice p kk cap] 77;obtain ⟨wb,hb,X2,VN,-⟩:=zAC wa [iQ 5,sV t,.bool neg,iQ d,iQ x,iQ r,iQ c,.bool rf,.bool cf,iQ r2,iQ c2,.bool rf2,.bool cf2,iQ m] 73;have sa:wa.heap.size=w.heap.size+1:=by rw [<- ha,World.size_alloc]
 rw [sa] at VN;have VE2:=VE.l X2;have X:=xt X1 X2;clear X1 X2;by_cases q:m=(kk:Int)
 ·have HMK:Hid (decide (m=(kk:Int))=true):=decide_eq_true q;have gMK:(m != (kk:Int))=false:=by simp [q]
  clear q;by_cases q:kk=0
  ·have HK0:Hid (decide (kk=0)=true):=decide_eq_true q;have gK0:((kk:Int) == 0)=true:=by simp [q]
   clear q;cases hT0:(t == [])
   ·have HB:Hid (false=Q):=by show _=_;first | (rw [<- HQ.out,HMK.out,HK0.out,hT0];rfl) | (rw [<- HQ.out,HMK.out,HK0.out];rfl)
    have a0:=vC15 VE;have d14:=(VE2 14 _ rfl).1;have n0:=vC14 VN;go_enter Tryz.func103,Tryz.ntmps103;go_wp2_with fail;clear a0 d14;go_ret;exact ⟨zA1 HB.out,X⟩
   ·cases hG1:zAA r c
    ·have HB:Hid (false=Q):=by show _=_;first | (rw [<- HQ.out,HMK.out,HK0.out,hT0,hG1];rfl) | (rw [<- HQ.out,HMK.out,HK0.out,hT0];rfl)
     have a0:=vC15 VE;have d14:=(VE2 14 _ rfl).1;have n0:=vC14 VN;go_enter Tryz.func103,Tryz.ntmps103;go_wp2_with fail;clear a0 d14;refine (zBS _ _ _ _ _).mono ?_;rintro e w1 ⟨rfl,e1⟩;have V1:=VN.l e1;have Y1:=xt X e1;clear n0;have n1x0:=vC14 V1;rw [hG1];go_wp2_with fail;go_ret;exact ⟨zA1 HB.out,Y1⟩
    ·cases hZD:zA9 neg d x
     ·rcases zGC hZD with rfl | ⟨rfl,q | ⟨rfl,q⟩⟩
      all_goals
       have HB:Hid (false=Q):=by show _=_;first | (rw [<- HQ.out,HMK.out,HK0.out,hT0,hG1,hZD];rfl) | (rw [<- HQ.out,HMK.out,HK0.out,hT0,hG1];rfl)
       have a0:=vC15 VE;have d14:=(VE2 14 _ rfl).1;have n0:=vC14 VN;go_enter Tryz.func103,Tryz.ntmps103;go_wp2_with fail;clear a0 d14;refine (zBS _ _ _ _ _).mono ?_;rintro e w1 ⟨rfl,e1⟩;have V1:=VN.l e1;have Y1:=xt X e1;clear n0;have n1x0:=vC14 V1;rw [hG1];go_wp2_with fail;go_ret;exact ⟨zA1 HB.out,Y1⟩
     ·obtain ⟨rfl,rfl,rfl⟩:neg=false/\d=0/\x=0:=(by simpa [zA9,and_assoc] using hZD);cases hZ2:zA3 r2 c2 rf2 cf2
      ·rcases zE2 hZ2 with q | ⟨rfl,q | ⟨rfl,rfl | ⟨rfl,rfl⟩⟩⟩
       all_goals
        have HB:Hid (false=Q):=by show _=_;first | (rw [<- HQ.out,HMK.out,HK0.out,hT0,hG1,hZD,hZ2];rfl) | (rw [<- HQ.out,HMK.out,HK0.out,hT0,hG1,hZD];rfl)
        have a0:=vC15 VE;have d14:=(VE2 14 _ rfl).1;have n0:=vC14 VN;go_enter Tryz.func103,Tryz.ntmps103;go_wp2_with fail;clear a0 d14;refine (zBS _ _ _ _ _).mono ?_;rintro e w1 ⟨rfl,e1⟩;have V1:=VN.l e1;have Y1:=xt X e1;clear n0;have n1x0:=vC14 V1;rw [hG1];go_wp2_with fail;go_ret;exact ⟨zA1 HB.out,Y1⟩
      ·obtain ⟨rfl,rfl,rfl,rfl⟩:r2=0/\c2=0/\rf2=false/\cf2=false:=(by simpa [zA3,and_assoc] using hZ2);have HB:Hid (true=Q):=by show _=_;first | (rw [<- HQ.out,HMK.out,HK0.out,hT0,hG1,hZD,hZ2];rfl) | (rw [<- HQ.out,HMK.out,HK0.out,hT0,hG1,hZD];rfl)
       have a0:=vC15 VE;have d14:=(VE2 14 _ rfl).1;have n0:=vC14 VN;go_enter Tryz.func103,Tryz.ntmps103;go_wp2_with fail;clear a0 d14;refine (zBS _ _ _ _ _).mono ?_;rintro e w1 ⟨rfl,e1⟩;have V1:=VN.l e1;have Y1:=xt X e1;clear n0;have n1x0:=vC14 V1;rw [hG1];go_wp2_with fail;go_ret;exact ⟨zA1 HB.out,Y1⟩
  ·have HK0:Hid (decide (kk=0)=false):=decide_eq_false q;have gK0:((kk:Int) == 0)=false:=by simp;omega
   clear q;have HB:Hid (false=Q):=by show _=_;first | (rw [<- HQ.out,HMK.out,HK0.out];rfl) | (rw [<- HQ.out,HMK.out];rfl)
   have a0:=vC15 VE;have d14:=(VE2 14 _ rfl).1;have n0:=vC14 VN;go_enter Tryz.func103,Tryz.ntmps103;go_wp2_with fail;clear a0 d14;go_ret;exact ⟨zA1 HB.out,X⟩
 ·have HMK:Hid (decide (m=(kk:Int))=false):=decide_eq_false q;have gMK:(m != (kk:Int))=true:=by simpa using q
  have HB:Hid (false=Q):=by show _=_;first | (rw [<- HQ.out,HMK.out];rfl) | (rw [<- HQ.out];rfl)
  have a0:=vC15 VE;have d14:=(VE2 14 _ rfl).1;have n0:=vC14 VN;go_enter Tryz.func103,Tryz.ntmps103;go_wp2_with fail;clear a0 d14;go_ret;exact ⟨zA1 HB.out,X⟩
theorem zT2 (t:List UInt8) (neg:Bool) (d:Int) (x:Int) (r:Int) (c:Int) (rf:Bool) (cf:Bool) (r2:Int) (c2:Int) (rf2:Bool) (cf2:Bool) (m:Int) (p:Option Addr) (kk cap:Nat) (many:Bool) (w:World) (hl:t.length<=1048576) :
  Calls Tryz.prog 103 #[exV 6 t neg d x r c rf cf r2 c2 rf2 cf2 m (.slice p kk cap),.bool many] w fun e w'=>e=.returned (.bool (decide (m=(kk:Int)) && decide (kk=0) && (t == []) && zAA r c && zAA r2 c2 && zA9 neg d x))/\Ext w w':=by
 have hU:True:=by have _:=hl;trivial
 clear hU;obtain ⟨Q,hQ⟩:=nm ((decide (m=(kk:Int)) && decide (kk=0) && (t == []) && zAA r c && zAA r2 c2 && zA9 neg d x));have HQ:Hid _:=hQ;rw [hQ];clear hQ;obtain ⟨wa,ha,X1,VE,-⟩:=zAC w [iQ 6,sV t,.bool neg,iQ d,iQ x,iQ r,iQ c,.bool rf,.bool cf,iQ r2,iQ c2,.bool rf2,.bool cf2,iQ m,.slice p kk cap] 77;obtain ⟨wb,hb,X2,VN,-⟩:=zAC wa [iQ 6,sV t,.bool neg,iQ d,iQ x,iQ r,iQ c,.bool rf,.bool cf,iQ r2,iQ c2,.bool rf2,.bool cf2,iQ m] 73;have sa:wa.heap.size=w.heap.size+1:=by rw [<- ha,World.size_alloc]
 rw [sa] at VN;have VE2:=VE.l X2;have X:=xt X1 X2;clear X1 X2;by_cases q:m=(kk:Int)
 ·have HMK:Hid (decide (m=(kk:Int))=true):=decide_eq_true q;have gMK:(m != (kk:Int))=false:=by simp [q]
  clear q;by_cases q:kk=0
  ·have HK0:Hid (decide (kk=0)=true):=decide_eq_true q;have gK0:((kk:Int) == 0)=true:=by simp [q]
   clear q;cases hT0:(t == [])
   ·have HB:Hid (false=Q):=by show _=_;first | (rw [<- HQ.out,HMK.out,HK0.out,hT0];rfl) | (rw [<- HQ.out,HMK.out,HK0.out];rfl)
    have a0:=vC15 VE;have d14:=(VE2 14 _ rfl).1;have n0:=vC14 VN;go_enter Tryz.func103,Tryz.ntmps103;go_wp2_with fail;clear a0 d14;go_ret;exact ⟨zA1 HB.out,X⟩
   ·cases hG1:zAA r c
    ·have HB:Hid (false=Q):=by show _=_;first | (rw [<- HQ.out,HMK.out,HK0.out,hT0,hG1];rfl) | (rw [<- HQ.out,HMK.out,HK0.out,hT0];rfl)
     have a0:=vC15 VE;have d14:=(VE2 14 _ rfl).1;have n0:=vC14 VN;go_enter Tryz.func103,Tryz.ntmps103;go_wp2_with fail;clear a0 d14;refine (zBS _ _ _ _ _).mono ?_;rintro e w1 ⟨rfl,e1⟩;have V1:=VN.l e1;have Y1:=xt X e1;clear n0;have n1x0:=vC14 V1;rw [hG1];go_wp2_with fail;go_ret;exact ⟨zA1 HB.out,Y1⟩
    ·cases hG2:zAA r2 c2
     ·have HB:Hid (false=Q):=by show _=_;first | (rw [<- HQ.out,HMK.out,HK0.out,hT0,hG1,hG2];rfl) | (rw [<- HQ.out,HMK.out,HK0.out,hT0,hG1];rfl)
      have a0:=vC15 VE;have d14:=(VE2 14 _ rfl).1;have n0:=vC14 VN;go_enter Tryz.func103,Tryz.ntmps103;go_wp2_with fail;clear a0 d14;refine (zBS _ _ _ _ _).mono ?_;rintro e w1 ⟨rfl,e1⟩;have V1:=VN.l e1;have Y1:=xt X e1;clear n0;have n1x0:=vC14 V1;rw [hG1];go_wp2_with fail;refine (zBS _ _ _ _ _).mono ?_;rintro e w2 ⟨rfl,e2⟩;have V2:=V1.l e2;have Y2:=xt Y1 e2;clear n1x0;have n2x0:=vC14 V2;rw [hG2];go_wp2_with fail;go_ret;exact ⟨zA1 HB.out,Y2⟩
     ·cases hZD:zA9 neg d x
      ·rcases zGC hZD with rfl | ⟨rfl,q | ⟨rfl,q⟩⟩
       all_goals
        have HB:Hid (false=Q):=by show _=_;first | (rw [<- HQ.out,HMK.out,HK0.out,hT0,hG1,hG2,hZD];rfl) | (rw [<- HQ.out,HMK.out,HK0.out,hT0,hG1,hG2];rfl)
        have a0:=vC15 VE;have d14:=(VE2 14 _ rfl).1;have n0:=vC14 VN;go_enter Tryz.func103,Tryz.ntmps103;go_wp2_with fail;clear a0 d14;refine (zBS _ _ _ _ _).mono ?_;rintro e w1 ⟨rfl,e1⟩;have V1:=VN.l e1;have Y1:=xt X e1;clear n0;have n1x0:=vC14 V1;rw [hG1];go_wp2_with fail;refine (zBS _ _ _ _ _).mono ?_;rintro e w2 ⟨rfl,e2⟩;have V2:=V1.l e2;have Y2:=xt Y1 e2;clear n1x0;have n2x0:=vC14 V2;rw [hG2];go_wp2_with fail;go_ret;exact ⟨zA1 HB.out,Y2⟩
      ·obtain ⟨rfl,rfl,rfl⟩:neg=false/\d=0/\x=0:=(by simpa [zA9,and_assoc] using hZD);have HB:Hid (true=Q):=by show _=_;first | (rw [<- HQ.out,HMK.out,HK0.out,hT0,hG1,hG2,hZD];rfl) | (rw [<- HQ.out,HMK.out,HK0.out,hT0,hG1,hG2];rfl)
       have a0:=vC15 VE;have d14:=(VE2 14 _ rfl).1;have n0:=vC14 VN;go_enter Tryz.func103,Tryz.ntmps103;go_wp2_with fail;clear a0 d14;refine (zBS _ _ _ _ _).mono ?_;rintro e w1 ⟨rfl,e1⟩;have V1:=VN.l e1;have Y1:=xt X e1;clear n0;have n1x0:=vC14 V1;rw [hG1];go_wp2_with fail;refine (zBS _ _ _ _ _).mono ?_;rintro e w2 ⟨rfl,e2⟩;have V2:=V1.l e2;have Y2:=xt Y1 e2;clear n1x0;have n2x0:=vC14 V2;rw [hG2];go_wp2_with fail;go_ret;exact ⟨zA1 HB.out,Y2⟩
  ·have HK0:Hid (decide (kk=0)=false):=decide_eq_false q;have gK0:((kk:Int) == 0)=false:=by simp;omega
   clear q;have HB:Hid (false=Q):=by show _=_;first | (rw [<- HQ.out,HMK.out,HK0.out];rfl) | (rw [<- HQ.out,HMK.out];rfl)
   have a0:=vC15 VE;have d14:=(VE2 14 _ rfl).1;have n0:=vC14 VN;go_enter Tryz.func103,Tryz.ntmps103;go_wp2_with fail;clear a0 d14;go_ret;exact ⟨zA1 HB.out,X⟩
 ·have HMK:Hid (decide (m=(kk:Int))=false):=decide_eq_false q;have gMK:(m != (kk:Int))=true:=by simpa using q
  have HB:Hid (false=Q):=by show _=_;first | (rw [<- HQ.out,HMK.out];rfl) | (rw [<- HQ.out];rfl)
  have a0:=vC15 VE;have d14:=(VE2 14 _ rfl).1;have n0:=vC14 VN;go_enter Tryz.func103,Tryz.ntmps103;go_wp2_with fail;clear a0 d14;go_ret;exact ⟨zA1 HB.out,X⟩
theorem zT6 (t:List UInt8) (neg:Bool) (d:Int) (x:Int) (r:Int) (c:Int) (rf:Bool) (cf:Bool) (r2:Int) (c2:Int) (rf2:Bool) (cf2:Bool) (m:Int) (p:Option Addr) (kk cap:Nat) (many:Bool) (w:World) (hl:t.length<=1048576) :
  Calls Tryz.prog 103 #[exV 2 t neg d x r c rf cf r2 c2 rf2 cf2 m (.slice p kk cap),.bool many] w fun e w'=>e=.returned (.bool (decide (m=(kk:Int)) && (zA9 neg d x && zA3 r c rf cf && zA3 r2 c2 rf2 cf2) && decide (kk=0) && zF4 t))/\Ext w w':=by
 have hU:True:=by have _:=hl;trivial
 clear hU;obtain ⟨Q,hQ⟩:=nm ((decide (m=(kk:Int)) && (zA9 neg d x && zA3 r c rf cf && zA3 r2 c2 rf2 cf2) && decide (kk=0) && zF4 t));have HQ:Hid _:=hQ;rw [hQ];clear hQ;obtain ⟨wa,ha,X1,VE,-⟩:=zAC w [iQ 2,sV t,.bool neg,iQ d,iQ x,iQ r,iQ c,.bool rf,.bool cf,iQ r2,iQ c2,.bool rf2,.bool cf2,iQ m,.slice p kk cap] 77;obtain ⟨wb,hb,X2,VN,-⟩:=zAC wa [iQ 2,sV t,.bool neg,iQ d,iQ x,iQ r,iQ c,.bool rf,.bool cf,iQ r2,iQ c2,.bool rf2,.bool cf2,iQ m] 73;have sa:wa.heap.size=w.heap.size+1:=by rw [<- ha,World.size_alloc]
 rw [sa] at VN;have VE2:=VE.l X2;have X:=xt X1 X2;clear X1 X2;by_cases q:m=(kk:Int)
 ·have HMK:Hid (decide (m=(kk:Int))=true):=decide_eq_true q;have gMK:(m != (kk:Int))=false:=by simp [q]
  clear q;cases hBA:(zA9 neg d x && zA3 r c rf cf && zA3 r2 c2 rf2 cf2)
  ·have HB:Hid (false=Q):=by show _=_;first | (rw [<- HQ.out,HMK.out,hBA];rfl) | (rw [<- HQ.out,HMK.out];rfl)
   have a0:=vC15 VE;have d14:=(VE2 14 _ rfl).1;have n0:=vC14 VN;go_enter Tryz.func103,Tryz.ntmps103;go_wp2_with fail;clear a0 d14;refine (zB5 _ _ _ _ _ _ _ _ _ _ _ _ _ _ _).mono ?_;rintro e w1 ⟨rfl,e1⟩;have V1:=VN.l e1;have Y1:=xt X e1;clear n0;have n1x0:=vC14 V1;rw [hBA];go_wp2_with fail;go_ret;exact ⟨zA1 HB.out,Y1⟩
  ·by_cases q:kk=0
   ·have HK0:Hid (decide (kk=0)=true):=decide_eq_true q;have gK0:((kk:Int) == 0)=true:=(by simp [q]);clear q;cases hPR:zF4 t
    ·have HB:Hid (false=Q):=by show _=_;first | (rw [<- HQ.out,HMK.out,hBA,HK0.out,hPR];rfl) | (rw [<- HQ.out,HMK.out,hBA,HK0.out];rfl)
     have a0:=vC15 VE;have d14:=(VE2 14 _ rfl).1;have n0:=vC14 VN;go_enter Tryz.func103,Tryz.ntmps103;go_wp2_with fail;clear a0 d14;refine (zB5 _ _ _ _ _ _ _ _ _ _ _ _ _ _ _).mono ?_;rintro e w1 ⟨rfl,e1⟩;have V1:=VN.l e1;have Y1:=xt X e1;clear n0;have n1x0:=vC14 V1;rw [hBA];go_wp2_with fail;refine (zS4 200 t _ (by omega)).mono ?_;rintro e w2 ⟨rfl,rfl⟩;rw [show zF3 200 t=false from hPR];go_wp2_with fail;go_ret;exact ⟨zA1 HB.out,Y1⟩
    ·have HB:Hid (true=Q):=by show _=_;first | (rw [<- HQ.out,HMK.out,hBA,HK0.out,hPR];rfl) | (rw [<- HQ.out,HMK.out,hBA,HK0.out];rfl)
     have a0:=vC15 VE;have d14:=(VE2 14 _ rfl).1;have n0:=vC14 VN;go_enter Tryz.func103,Tryz.ntmps103;go_wp2_with fail;clear a0 d14;refine (zB5 _ _ _ _ _ _ _ _ _ _ _ _ _ _ _).mono ?_;rintro e w1 ⟨rfl,e1⟩;have V1:=VN.l e1;have Y1:=xt X e1;clear n0;have n1x0:=vC14 V1;rw [hBA];go_wp2_with fail;refine (zS4 200 t _ (by omega)).mono ?_;rintro e w2 ⟨rfl,rfl⟩;rw [show zF3 200 t=true from hPR];go_wp2_with fail;go_ret;exact ⟨zA1 HB.out,Y1⟩
   ·have HK0:Hid (decide (kk=0)=false):=decide_eq_false q;have gK0:((kk:Int) == 0)=false:=(by simp;omega);clear q;have HB:Hid (false=Q):=by show _=_;first | (rw [<- HQ.out,HMK.out,hBA,HK0.out];rfl) | (rw [<- HQ.out,HMK.out,hBA];rfl)
    have a0:=vC15 VE;have d14:=(VE2 14 _ rfl).1;have n0:=vC14 VN;go_enter Tryz.func103,Tryz.ntmps103;go_wp2_with fail;clear a0 d14;refine (zB5 _ _ _ _ _ _ _ _ _ _ _ _ _ _ _).mono ?_;rintro e w1 ⟨rfl,e1⟩;have V1:=VN.l e1;have Y1:=xt X e1;clear n0;have n1x0:=vC14 V1;rw [hBA];go_wp2_with fail;go_ret;exact ⟨zA1 HB.out,Y1⟩
 ·have HMK:Hid (decide (m=(kk:Int))=false):=decide_eq_false q;have gMK:(m != (kk:Int))=true:=by simpa using q
  have HB:Hid (false=Q):=by show _=_;first | (rw [<- HQ.out,HMK.out];rfl) | (rw [<- HQ.out];rfl)
  have a0:=vC15 VE;have d14:=(VE2 14 _ rfl).1;have n0:=vC14 VN;go_enter Tryz.func103,Tryz.ntmps103;go_wp2_with fail;clear a0 d14;go_ret;exact ⟨zA1 HB.out,X⟩
theorem zT5 (t:List UInt8) (neg:Bool) (d:Int) (x:Int) (r:Int) (c:Int) (rf:Bool) (cf:Bool) (r2:Int) (c2:Int) (rf2:Bool) (cf2:Bool) (m:Int) (p:Option Addr) (kk cap:Nat) (many:Bool) (w:World) (hl:t.length<=1048576) :
  Calls Tryz.prog 103 #[exV 3 t neg d x r c rf cf r2 c2 rf2 cf2 m (.slice p kk cap),.bool many] w fun e w'=>e=.returned (.bool (decide (m=(kk:Int)) && (zA9 neg d x && zA3 r c rf cf && zA3 r2 c2 rf2 cf2) && decide (kk=0) && zEZ t))/\Ext w w':=by
 have hU:True:=by have _:=hl;trivial
 clear hU;obtain ⟨Q,hQ⟩:=nm ((decide (m=(kk:Int)) && (zA9 neg d x && zA3 r c rf cf && zA3 r2 c2 rf2 cf2) && decide (kk=0) && zEZ t));have HQ:Hid _:=hQ;rw [hQ];clear hQ;obtain ⟨wa,ha,X1,VE,-⟩:=zAC w [iQ 3,sV t,.bool neg,iQ d,iQ x,iQ r,iQ c,.bool rf,.bool cf,iQ r2,iQ c2,.bool rf2,.bool cf2,iQ m,.slice p kk cap] 77;obtain ⟨wb,hb,X2,VN,-⟩:=zAC wa [iQ 3,sV t,.bool neg,iQ d,iQ x,iQ r,iQ c,.bool rf,.bool cf,iQ r2,iQ c2,.bool rf2,.bool cf2,iQ m] 73;have sa:wa.heap.size=w.heap.size+1:=by rw [<- ha,World.size_alloc]
 rw [sa] at VN;have VE2:=VE.l X2;have X:=xt X1 X2;clear X1 X2;by_cases q:m=(kk:Int)
 ·have HMK:Hid (decide (m=(kk:Int))=true):=decide_eq_true q;have gMK:(m != (kk:Int))=false:=by simp [q]
  clear q;cases hBA:(zA9 neg d x && zA3 r c rf cf && zA3 r2 c2 rf2 cf2)
  ·have HB:Hid (false=Q):=by show _=_;first | (rw [<- HQ.out,HMK.out,hBA];rfl) | (rw [<- HQ.out,HMK.out];rfl)
   have a0:=vC15 VE;have d14:=(VE2 14 _ rfl).1;have n0:=vC14 VN;go_enter Tryz.func103,Tryz.ntmps103;go_wp2_with fail;clear a0 d14;refine (zB5 _ _ _ _ _ _ _ _ _ _ _ _ _ _ _).mono ?_;rintro e w1 ⟨rfl,e1⟩;have V1:=VN.l e1;have Y1:=xt X e1;clear n0;have n1x0:=vC14 V1;rw [hBA];go_wp2_with fail;go_ret;exact ⟨zA1 HB.out,Y1⟩
  ·by_cases q:kk=0
   ·have HK0:Hid (decide (kk=0)=true):=decide_eq_true q;have gK0:((kk:Int) == 0)=true:=(by simp [q]);clear q;obtain ⟨p1,hp1⟩:=nm ((t == [84,82,85,69]));obtain ⟨p2,hp2⟩:=nm ((t == [70,65,76,83,69]));have hBO:zEZ t=(p1 || p2):=(by unfold zEZ;rw [hp1,hp2]);cases p1
    ·cases p2
     ·have HB:Hid (false=Q):=by show _=_;first | (rw [<- HQ.out,HMK.out,hBA,HK0.out,hBO];rfl) | (rw [<- HQ.out,HMK.out,hBA,HK0.out];rfl)
      have a0:=vC15 VE;have d14:=(VE2 14 _ rfl).1;have n0:=vC14 VN;go_enter Tryz.func103,Tryz.ntmps103;go_wp2_with fail;clear a0 d14;refine (zB5 _ _ _ _ _ _ _ _ _ _ _ _ _ _ _).mono ?_;rintro e w1 ⟨rfl,e1⟩;have V1:=VN.l e1;have Y1:=xt X e1;clear n0;have n1x0:=vC14 V1;rw [hBA];go_wp2_with fail;go_ret;exact ⟨zA1 HB.out,Y1⟩
     ·have HB:Hid (true=Q):=by show _=_;first | (rw [<- HQ.out,HMK.out,hBA,HK0.out,hBO];rfl) | (rw [<- HQ.out,HMK.out,hBA,HK0.out];rfl)
      have a0:=vC15 VE;have d14:=(VE2 14 _ rfl).1;have n0:=vC14 VN;go_enter Tryz.func103,Tryz.ntmps103;go_wp2_with fail;clear a0 d14;refine (zB5 _ _ _ _ _ _ _ _ _ _ _ _ _ _ _).mono ?_;rintro e w1 ⟨rfl,e1⟩;have V1:=VN.l e1;have Y1:=xt X e1;clear n0;have n1x0:=vC14 V1;rw [hBA];go_wp2_with fail;go_ret;exact ⟨zA1 HB.out,Y1⟩
    ·have HB:Hid (true=Q):=by show _=_;first | (rw [<- HQ.out,HMK.out,hBA,HK0.out,hBO];rfl) | (rw [<- HQ.out,HMK.out,hBA,HK0.out];rfl)
     have a0:=vC15 VE;have d14:=(VE2 14 _ rfl).1;have n0:=vC14 VN;go_enter Tryz.func103,Tryz.ntmps103;go_wp2_with fail;clear a0 d14;refine (zB5 _ _ _ _ _ _ _ _ _ _ _ _ _ _ _).mono ?_;rintro e w1 ⟨rfl,e1⟩;have V1:=VN.l e1;have Y1:=xt X e1;clear n0;have n1x0:=vC14 V1;rw [hBA];go_wp2_with fail;go_ret;exact ⟨zA1 HB.out,Y1⟩
   ·have HK0:Hid (decide (kk=0)=false):=decide_eq_false q;have gK0:((kk:Int) == 0)=false:=(by simp;omega);clear q;have HB:Hid (false=Q):=by show _=_;first | (rw [<- HQ.out,HMK.out,hBA,HK0.out];rfl) | (rw [<- HQ.out,HMK.out,hBA];rfl)
    have a0:=vC15 VE;have d14:=(VE2 14 _ rfl).1;have n0:=vC14 VN;go_enter Tryz.func103,Tryz.ntmps103;go_wp2_with fail;clear a0 d14;refine (zB5 _ _ _ _ _ _ _ _ _ _ _ _ _ _ _).mono ?_;rintro e w1 ⟨rfl,e1⟩;have V1:=VN.l e1;have Y1:=xt X e1;clear n0;have n1x0:=vC14 V1;rw [hBA];go_wp2_with fail;go_ret;exact ⟨zA1 HB.out,Y1⟩
 ·have HMK:Hid (decide (m=(kk:Int))=false):=decide_eq_false q;have gMK:(m != (kk:Int))=true:=by simpa using q
  have HB:Hid (false=Q):=by show _=_;first | (rw [<- HQ.out,HMK.out];rfl) | (rw [<- HQ.out];rfl)
  have a0:=vC15 VE;have d14:=(VE2 14 _ rfl).1;have n0:=vC14 VN;go_enter Tryz.func103,Tryz.ntmps103;go_wp2_with fail;clear a0 d14;go_ret;exact ⟨zA1 HB.out,X⟩
theorem zT1 (t:List UInt8) (neg:Bool) (d:Int) (x:Int) (r:Int) (c:Int) (rf:Bool) (cf:Bool) (r2:Int) (c2:Int) (rf2:Bool) (cf2:Bool) (m:Int) (p:Option Addr) (kk cap:Nat) (many:Bool) (w:World) (hl:t.length<=1048576) :
  Calls Tryz.prog 103 #[exV 7 t neg d x r c rf cf r2 c2 rf2 cf2 m (.slice p kk cap),.bool many] w fun e w'=>e=.returned (.bool (decide (m=(kk:Int)) && (zA9 neg d x && zA3 r c rf cf && zA3 r2 c2 rf2 cf2) && decide (kk=0) && zCL t))/\Ext w w':=by
 have hU:True:=by have _:=hl;trivial
 clear hU;obtain ⟨Q,hQ⟩:=nm ((decide (m=(kk:Int)) && (zA9 neg d x && zA3 r c rf cf && zA3 r2 c2 rf2 cf2) && decide (kk=0) && zCL t));have HQ:Hid _:=hQ;rw [hQ];clear hQ;obtain ⟨wa,ha,X1,VE,-⟩:=zAC w [iQ 7,sV t,.bool neg,iQ d,iQ x,iQ r,iQ c,.bool rf,.bool cf,iQ r2,iQ c2,.bool rf2,.bool cf2,iQ m,.slice p kk cap] 77;obtain ⟨wb,hb,X2,VN,-⟩:=zAC wa [iQ 7,sV t,.bool neg,iQ d,iQ x,iQ r,iQ c,.bool rf,.bool cf,iQ r2,iQ c2,.bool rf2,.bool cf2,iQ m] 73;have sa:wa.heap.size=w.heap.size+1:=by rw [<- ha,World.size_alloc]
 rw [sa] at VN;have VE2:=VE.l X2;have X:=xt X1 X2;clear X1 X2;by_cases q:m=(kk:Int)
 ·have HMK:Hid (decide (m=(kk:Int))=true):=decide_eq_true q;have gMK:(m != (kk:Int))=false:=by simp [q]
  clear q;cases hBA:(zA9 neg d x && zA3 r c rf cf && zA3 r2 c2 rf2 cf2)
  ·have HB:Hid (false=Q):=by show _=_;first | (rw [<- HQ.out,HMK.out,hBA];rfl) | (rw [<- HQ.out,HMK.out];rfl)
   have a0:=vC15 VE;have d14:=(VE2 14 _ rfl).1;have n0:=vC14 VN;go_enter Tryz.func103,Tryz.ntmps103;go_wp2_with fail;clear a0 d14;refine (zB5 _ _ _ _ _ _ _ _ _ _ _ _ _ _ _).mono ?_;rintro e w1 ⟨rfl,e1⟩;have V1:=VN.l e1;have Y1:=xt X e1;clear n0;have n1x0:=vC14 V1;rw [hBA];go_wp2_with fail;go_ret;exact ⟨zA1 HB.out,Y1⟩
  ·by_cases q:kk=0
   ·have HK0:Hid (decide (kk=0)=true):=decide_eq_true q;have gK0:((kk:Int) == 0)=true:=(by simp [q]);clear q;cases hNA:zCL t
    ·have HB:Hid (false=Q):=by show _=_;first | (rw [<- HQ.out,HMK.out,hBA,HK0.out,hNA];rfl) | (rw [<- HQ.out,HMK.out,hBA,HK0.out];rfl)
     have a0:=vC15 VE;have d14:=(VE2 14 _ rfl).1;have n0:=vC14 VN;go_enter Tryz.func103,Tryz.ntmps103;go_wp2_with fail;clear a0 d14;refine (zB5 _ _ _ _ _ _ _ _ _ _ _ _ _ _ _).mono ?_;rintro e w1 ⟨rfl,e1⟩;have V1:=VN.l e1;have Y1:=xt X e1;clear n0;have n1x0:=vC14 V1;rw [hBA];go_wp2_with fail;refine (zTK t _ hl).mono ?_;rintro e w2 ⟨rfl,e2⟩;have V2:=V1.l e2;have Y2:=xt Y1 e2;clear n1x0;have n2x0:=vC14 V2;rw [hNA];go_wp2_with fail;go_ret;exact ⟨zA1 HB.out,Y2⟩
    ·have HB:Hid (true=Q):=by show _=_;first | (rw [<- HQ.out,HMK.out,hBA,HK0.out,hNA];rfl) | (rw [<- HQ.out,HMK.out,hBA,HK0.out];rfl)
     have a0:=vC15 VE;have d14:=(VE2 14 _ rfl).1;have n0:=vC14 VN;go_enter Tryz.func103,Tryz.ntmps103;go_wp2_with fail;clear a0 d14;refine (zB5 _ _ _ _ _ _ _ _ _ _ _ _ _ _ _).mono ?_;rintro e w1 ⟨rfl,e1⟩;have V1:=VN.l e1;have Y1:=xt X e1;clear n0;have n1x0:=vC14 V1;rw [hBA];go_wp2_with fail;refine (zTK t _ hl).mono ?_;rintro e w2 ⟨rfl,e2⟩;have V2:=V1.l e2;have Y2:=xt Y1 e2;clear n1x0;have n2x0:=vC14 V2;rw [hNA];go_wp2_with fail;go_ret;exact ⟨zA1 HB.out,Y2⟩
   ·have HK0:Hid (decide (kk=0)=false):=decide_eq_false q;have gK0:((kk:Int) == 0)=false:=(by simp;omega);clear q;have HB:Hid (false=Q):=by show _=_;first | (rw [<- HQ.out,HMK.out,hBA,HK0.out];rfl) | (rw [<- HQ.out,HMK.out,hBA];rfl)
    have a0:=vC15 VE;have d14:=(VE2 14 _ rfl).1;have n0:=vC14 VN;go_enter Tryz.func103,Tryz.ntmps103;go_wp2_with fail;clear a0 d14;refine (zB5 _ _ _ _ _ _ _ _ _ _ _ _ _ _ _).mono ?_;rintro e w1 ⟨rfl,e1⟩;have V1:=VN.l e1;have Y1:=xt X e1;clear n0;have n1x0:=vC14 V1;rw [hBA];go_wp2_with fail;go_ret;exact ⟨zA1 HB.out,Y1⟩
 ·have HMK:Hid (decide (m=(kk:Int))=false):=decide_eq_false q;have gMK:(m != (kk:Int))=true:=by simpa using q
  have HB:Hid (false=Q):=by show _=_;first | (rw [<- HQ.out,HMK.out];rfl) | (rw [<- HQ.out];rfl)
  have a0:=vC15 VE;have d14:=(VE2 14 _ rfl).1;have n0:=vC14 VN;go_enter Tryz.func103,Tryz.ntmps103;go_wp2_with fail;clear a0 d14;go_ret;exact ⟨zA1 HB.out,X⟩
theorem zQD (t:List UInt8) (neg:Bool) (d:Int) (x:Int) (r:Int) (c:Int) (rf:Bool) (cf:Bool) (r2:Int) (c2:Int) (rf2:Bool) (cf2:Bool) (m:Int) (p:Option Addr) (kk cap:Nat) (many:Bool) (w:World) (hl:t.length<=1048576) :
  Calls Tryz.prog 103 #[exV 13 t neg d x r c rf cf r2 c2 rf2 cf2 m (.slice p kk cap),.bool many] w fun e w'=>e=.returned (.bool (decide (m=(kk:Int)) && (zA9 neg d x && zA3 r c rf cf && zA3 r2 c2 rf2 cf2) && decide (kk=0) && (t == []) && many))/\Ext w w':=by
 have hU:True:=by have _:=hl;trivial
 clear hU;obtain ⟨Q,hQ⟩:=nm ((decide (m=(kk:Int)) && (zA9 neg d x && zA3 r c rf cf && zA3 r2 c2 rf2 cf2) && decide (kk=0) && (t == []) && many));have HQ:Hid _:=hQ;rw [hQ];clear hQ;obtain ⟨wa,ha,X1,VE,-⟩:=zAC w [iQ 13,sV t,.bool neg,iQ d,iQ x,iQ r,iQ c,.bool rf,.bool cf,iQ r2,iQ c2,.bool rf2,.bool cf2,iQ m,.slice p kk cap] 77;obtain ⟨wb,hb,X2,VN,-⟩:=zAC wa [iQ 13,sV t,.bool neg,iQ d,iQ x,iQ r,iQ c,.bool rf,.bool cf,iQ r2,iQ c2,.bool rf2,.bool cf2,iQ m] 73;have sa:wa.heap.size=w.heap.size+1:=by rw [<- ha,World.size_alloc]
 rw [sa] at VN;have VE2:=VE.l X2;have X:=xt X1 X2;clear X1 X2;by_cases q:m=(kk:Int)
 ·have HMK:Hid (decide (m=(kk:Int))=true):=decide_eq_true q;have gMK:(m != (kk:Int))=false:=by simp [q]
  clear q;cases hBA:(zA9 neg d x && zA3 r c rf cf && zA3 r2 c2 rf2 cf2)
  ·have HB:Hid (false=Q):=by show _=_;first | (rw [<- HQ.out,HMK.out,hBA];rfl) | (rw [<- HQ.out,HMK.out];rfl)
   have a0:=vC15 VE;have d14:=(VE2 14 _ rfl).1;have n0:=vC14 VN;go_enter Tryz.func103,Tryz.ntmps103;go_wp2_with fail;clear a0 d14;refine (zB5 _ _ _ _ _ _ _ _ _ _ _ _ _ _ _).mono ?_;rintro e w1 ⟨rfl,e1⟩;have V1:=VN.l e1;have Y1:=xt X e1;clear n0;have n1x0:=vC14 V1;rw [hBA];go_wp2_with fail;go_ret;exact ⟨zA1 HB.out,Y1⟩
  ·by_cases q:kk=0
   ·have HK0:Hid (decide (kk=0)=true):=decide_eq_true q;have gK0:((kk:Int) == 0)=true:=(by simp [q]);clear q;cases hT0:(t == [])
    ·have HB:Hid (false=Q):=by show _=_;first | (rw [<- HQ.out,HMK.out,hBA,HK0.out,hT0];rfl) | (rw [<- HQ.out,HMK.out,hBA,HK0.out];rfl)
     have a0:=vC15 VE;have d14:=(VE2 14 _ rfl).1;have n0:=vC14 VN;go_enter Tryz.func103,Tryz.ntmps103;go_wp2_with fail;clear a0 d14;refine (zB5 _ _ _ _ _ _ _ _ _ _ _ _ _ _ _).mono ?_;rintro e w1 ⟨rfl,e1⟩;have V1:=VN.l e1;have Y1:=xt X e1;clear n0;have n1x0:=vC14 V1;rw [hBA];go_wp2_with fail;go_ret;exact ⟨zA1 HB.out,Y1⟩
    ·cases many
     ·have HB:Hid (false=Q):=by show _=_;first | (rw [<- HQ.out,HMK.out,hBA,HK0.out,hT0];rfl) | (rw [<- HQ.out,HMK.out,hBA,HK0.out];rfl)
      have a0:=vC15 VE;have d14:=(VE2 14 _ rfl).1;have n0:=vC14 VN;go_enter Tryz.func103,Tryz.ntmps103;go_wp2_with fail;clear a0 d14;refine (zB5 _ _ _ _ _ _ _ _ _ _ _ _ _ _ _).mono ?_;rintro e w1 ⟨rfl,e1⟩;have V1:=VN.l e1;have Y1:=xt X e1;clear n0;have n1x0:=vC14 V1;rw [hBA];go_wp2_with fail;go_ret;exact ⟨zA1 HB.out,Y1⟩
     ·have HB:Hid (true=Q):=by show _=_;first | (rw [<- HQ.out,HMK.out,hBA,HK0.out,hT0];rfl) | (rw [<- HQ.out,HMK.out,hBA,HK0.out];rfl)
      have a0:=vC15 VE;have d14:=(VE2 14 _ rfl).1;have n0:=vC14 VN;go_enter Tryz.func103,Tryz.ntmps103;go_wp2_with fail;clear a0 d14;refine (zB5 _ _ _ _ _ _ _ _ _ _ _ _ _ _ _).mono ?_;rintro e w1 ⟨rfl,e1⟩;have V1:=VN.l e1;have Y1:=xt X e1;clear n0;have n1x0:=vC14 V1;rw [hBA];go_wp2_with fail;go_ret;exact ⟨zA1 HB.out,Y1⟩
   ·have HK0:Hid (decide (kk=0)=false):=decide_eq_false q;have gK0:((kk:Int) == 0)=false:=(by simp;omega);clear q;have HB:Hid (false=Q):=by show _=_;first | (rw [<- HQ.out,HMK.out,hBA,HK0.out];rfl) | (rw [<- HQ.out,HMK.out,hBA];rfl)
    have a0:=vC15 VE;have d14:=(VE2 14 _ rfl).1;have n0:=vC14 VN;go_enter Tryz.func103,Tryz.ntmps103;go_wp2_with fail;clear a0 d14;refine (zB5 _ _ _ _ _ _ _ _ _ _ _ _ _ _ _).mono ?_;rintro e w1 ⟨rfl,e1⟩;have V1:=VN.l e1;have Y1:=xt X e1;clear n0;have n1x0:=vC14 V1;rw [hBA];go_wp2_with fail;go_ret;exact ⟨zA1 HB.out,Y1⟩
 ·have HMK:Hid (decide (m=(kk:Int))=false):=decide_eq_false q;have gMK:(m != (kk:Int))=true:=by simpa using q
  have HB:Hid (false=Q):=by show _=_;first | (rw [<- HQ.out,HMK.out];rfl) | (rw [<- HQ.out];rfl)
  have a0:=vC15 VE;have d14:=(VE2 14 _ rfl).1;have n0:=vC14 VN;go_enter Tryz.func103,Tryz.ntmps103;go_wp2_with fail;clear a0 d14;go_ret;exact ⟨zA1 HB.out,X⟩
theorem zT0 (t:List UInt8) (neg:Bool) (d:Int) (x:Int) (r:Int) (c:Int) (rf:Bool) (cf:Bool) (r2:Int) (c2:Int) (rf2:Bool) (cf2:Bool) (m:Int) (p:Option Addr) (kk cap:Nat) (many:Bool) (w:World) (hl:t.length<=1048576) :
  Calls Tryz.prog 103 #[exV 8 t neg d x r c rf cf r2 c2 rf2 cf2 m (.slice p kk cap),.bool many] w fun e w'=>e=.returned (.bool (decide (m=(kk:Int)) && (zA9 neg d x && zA3 r c rf cf && zA3 r2 c2 rf2 cf2) && decide (kk=1) && (t == [])))/\Ext w w':=by
 have hU:True:=by have _:=hl;trivial
 clear hU;obtain ⟨Q,hQ⟩:=nm ((decide (m=(kk:Int)) && (zA9 neg d x && zA3 r c rf cf && zA3 r2 c2 rf2 cf2) && decide (kk=1) && (t == [])));have HQ:Hid _:=hQ;rw [hQ];clear hQ;obtain ⟨wa,ha,X1,VE,-⟩:=zAC w [iQ 8,sV t,.bool neg,iQ d,iQ x,iQ r,iQ c,.bool rf,.bool cf,iQ r2,iQ c2,.bool rf2,.bool cf2,iQ m,.slice p kk cap] 77;obtain ⟨wb,hb,X2,VN,-⟩:=zAC wa [iQ 8,sV t,.bool neg,iQ d,iQ x,iQ r,iQ c,.bool rf,.bool cf,iQ r2,iQ c2,.bool rf2,.bool cf2,iQ m] 73;have sa:wa.heap.size=w.heap.size+1:=by rw [<- ha,World.size_alloc]
 rw [sa] at VN;have VE2:=VE.l X2;have X:=xt X1 X2;clear X1 X2;by_cases q:m=(kk:Int)
 ·have HMK:Hid (decide (m=(kk:Int))=true):=decide_eq_true q;have gMK:(m != (kk:Int))=false:=by simp [q]
  clear q;cases hBA:(zA9 neg d x && zA3 r c rf cf && zA3 r2 c2 rf2 cf2)
  ·have HB:Hid (false=Q):=by show _=_;first | (rw [<- HQ.out,HMK.out,hBA];rfl) | (rw [<- HQ.out,HMK.out];rfl)
   have a0:=vC15 VE;have d14:=(VE2 14 _ rfl).1;have n0:=vC14 VN;go_enter Tryz.func103,Tryz.ntmps103;go_wp2_with fail;clear a0 d14;refine (zB5 _ _ _ _ _ _ _ _ _ _ _ _ _ _ _).mono ?_;rintro e w1 ⟨rfl,e1⟩;have V1:=VN.l e1;have Y1:=xt X e1;clear n0;have n1x0:=vC14 V1;rw [hBA];go_wp2_with fail;go_ret;exact ⟨zA1 HB.out,Y1⟩
  ·by_cases q:kk=1
   ·have HK1:Hid (decide (kk=1)=true):=decide_eq_true q;have gK1:((kk:Int) == 1)=true:=(by simp [q]);clear q;cases hT0:(t == [])
    ·have HB:Hid (false=Q):=by show _=_;first | (rw [<- HQ.out,HMK.out,hBA,HK1.out,hT0];rfl) | (rw [<- HQ.out,HMK.out,hBA,HK1.out];rfl)
     have a0:=vC15 VE;have d14:=(VE2 14 _ rfl).1;have n0:=vC14 VN;go_enter Tryz.func103,Tryz.ntmps103;go_wp2_with fail;clear a0 d14;refine (zB5 _ _ _ _ _ _ _ _ _ _ _ _ _ _ _).mono ?_;rintro e w1 ⟨rfl,e1⟩;have V1:=VN.l e1;have Y1:=xt X e1;clear n0;have n1x0:=vC14 V1;rw [hBA];go_wp2_with fail;go_ret;exact ⟨zA1 HB.out,Y1⟩
    ·have HB:Hid (true=Q):=by show _=_;first | (rw [<- HQ.out,HMK.out,hBA,HK1.out,hT0];rfl) | (rw [<- HQ.out,HMK.out,hBA,HK1.out];rfl)
     have a0:=vC15 VE;have d14:=(VE2 14 _ rfl).1;have n0:=vC14 VN;go_enter Tryz.func103,Tryz.ntmps103;go_wp2_with fail;clear a0 d14;refine (zB5 _ _ _ _ _ _ _ _ _ _ _ _ _ _ _).mono ?_;rintro e w1 ⟨rfl,e1⟩;have V1:=VN.l e1;have Y1:=xt X e1;clear n0;have n1x0:=vC14 V1;rw [hBA];go_wp2_with fail;go_ret;exact ⟨zA1 HB.out,Y1⟩
   ·have HK1:Hid (decide (kk=1)=false):=decide_eq_false q;have gK1:((kk:Int) == 1)=false:=(by simp;omega);clear q;have HB:Hid (false=Q):=by show _=_;first | (rw [<- HQ.out,HMK.out,hBA,HK1.out];rfl) | (rw [<- HQ.out,HMK.out,hBA];rfl)
    have a0:=vC15 VE;have d14:=(VE2 14 _ rfl).1;have n0:=vC14 VN;go_enter Tryz.func103,Tryz.ntmps103;go_wp2_with fail;clear a0 d14;refine (zB5 _ _ _ _ _ _ _ _ _ _ _ _ _ _ _).mono ?_;rintro e w1 ⟨rfl,e1⟩;have V1:=VN.l e1;have Y1:=xt X e1;clear n0;have n1x0:=vC14 V1;rw [hBA];go_wp2_with fail;go_ret;exact ⟨zA1 HB.out,Y1⟩
 ·have HMK:Hid (decide (m=(kk:Int))=false):=decide_eq_false q;have gMK:(m != (kk:Int))=true:=by simpa using q
  have HB:Hid (false=Q):=by show _=_;first | (rw [<- HQ.out,HMK.out];rfl) | (rw [<- HQ.out];rfl)
  have a0:=vC15 VE;have d14:=(VE2 14 _ rfl).1;have n0:=vC14 VN;go_enter Tryz.func103,Tryz.ntmps103;go_wp2_with fail;clear a0 d14;go_ret;exact ⟨zA1 HB.out,X⟩
theorem zSZ (t:List UInt8) (neg:Bool) (d:Int) (x:Int) (r:Int) (c:Int) (rf:Bool) (cf:Bool) (r2:Int) (c2:Int) (rf2:Bool) (cf2:Bool) (m:Int) (p:Option Addr) (kk cap:Nat) (many:Bool) (w:World) (hl:t.length<=1048576) :
  Calls Tryz.prog 103 #[exV 9 t neg d x r c rf cf r2 c2 rf2 cf2 m (.slice p kk cap),.bool many] w fun e w'=>e=.returned (.bool (decide (m=(kk:Int)) && (zA9 neg d x && zA3 r c rf cf && zA3 r2 c2 rf2 cf2) && decide (kk=1) && (t == [])))/\Ext w w':=by
 have hU:True:=by have _:=hl;trivial
 clear hU;obtain ⟨Q,hQ⟩:=nm ((decide (m=(kk:Int)) && (zA9 neg d x && zA3 r c rf cf && zA3 r2 c2 rf2 cf2) && decide (kk=1) && (t == [])));have HQ:Hid _:=hQ;rw [hQ];clear hQ;obtain ⟨wa,ha,X1,VE,-⟩:=zAC w [iQ 9,sV t,.bool neg,iQ d,iQ x,iQ r,iQ c,.bool rf,.bool cf,iQ r2,iQ c2,.bool rf2,.bool cf2,iQ m,.slice p kk cap] 77;obtain ⟨wb,hb,X2,VN,-⟩:=zAC wa [iQ 9,sV t,.bool neg,iQ d,iQ x,iQ r,iQ c,.bool rf,.bool cf,iQ r2,iQ c2,.bool rf2,.bool cf2,iQ m] 73;have sa:wa.heap.size=w.heap.size+1:=by rw [<- ha,World.size_alloc]
 rw [sa] at VN;have VE2:=VE.l X2;have X:=xt X1 X2;clear X1 X2;by_cases q:m=(kk:Int)
 ·have HMK:Hid (decide (m=(kk:Int))=true):=decide_eq_true q;have gMK:(m != (kk:Int))=false:=by simp [q]
  clear q;cases hBA:(zA9 neg d x && zA3 r c rf cf && zA3 r2 c2 rf2 cf2)
  ·have HB:Hid (false=Q):=by show _=_;first | (rw [<- HQ.out,HMK.out,hBA];rfl) | (rw [<- HQ.out,HMK.out];rfl)
   have a0:=vC15 VE;have d14:=(VE2 14 _ rfl).1;have n0:=vC14 VN;go_enter Tryz.func103,Tryz.ntmps103;go_wp2_with fail;clear a0 d14;refine (zB5 _ _ _ _ _ _ _ _ _ _ _ _ _ _ _).mono ?_;rintro e w1 ⟨rfl,e1⟩;have V1:=VN.l e1;have Y1:=xt X e1;clear n0;have n1x0:=vC14 V1;rw [hBA];go_wp2_with fail;go_ret;exact ⟨zA1 HB.out,Y1⟩
  ·by_cases q:kk=1
   ·have HK1:Hid (decide (kk=1)=true):=decide_eq_true q;have gK1:((kk:Int) == 1)=true:=(by simp [q]);clear q;cases hT0:(t == [])
    ·have HB:Hid (false=Q):=by show _=_;first | (rw [<- HQ.out,HMK.out,hBA,HK1.out,hT0];rfl) | (rw [<- HQ.out,HMK.out,hBA,HK1.out];rfl)
     have a0:=vC15 VE;have d14:=(VE2 14 _ rfl).1;have n0:=vC14 VN;go_enter Tryz.func103,Tryz.ntmps103;go_wp2_with fail;clear a0 d14;refine (zB5 _ _ _ _ _ _ _ _ _ _ _ _ _ _ _).mono ?_;rintro e w1 ⟨rfl,e1⟩;have V1:=VN.l e1;have Y1:=xt X e1;clear n0;have n1x0:=vC14 V1;rw [hBA];go_wp2_with fail;go_ret;exact ⟨zA1 HB.out,Y1⟩
    ·have HB:Hid (true=Q):=by show _=_;first | (rw [<- HQ.out,HMK.out,hBA,HK1.out,hT0];rfl) | (rw [<- HQ.out,HMK.out,hBA,HK1.out];rfl)
     have a0:=vC15 VE;have d14:=(VE2 14 _ rfl).1;have n0:=vC14 VN;go_enter Tryz.func103,Tryz.ntmps103;go_wp2_with fail;clear a0 d14;refine (zB5 _ _ _ _ _ _ _ _ _ _ _ _ _ _ _).mono ?_;rintro e w1 ⟨rfl,e1⟩;have V1:=VN.l e1;have Y1:=xt X e1;clear n0;have n1x0:=vC14 V1;rw [hBA];go_wp2_with fail;go_ret;exact ⟨zA1 HB.out,Y1⟩
   ·have HK1:Hid (decide (kk=1)=false):=decide_eq_false q;have gK1:((kk:Int) == 1)=false:=(by simp;omega);clear q;have HB:Hid (false=Q):=by show _=_;first | (rw [<- HQ.out,HMK.out,hBA,HK1.out];rfl) | (rw [<- HQ.out,HMK.out,hBA];rfl)
    have a0:=vC15 VE;have d14:=(VE2 14 _ rfl).1;have n0:=vC14 VN;go_enter Tryz.func103,Tryz.ntmps103;go_wp2_with fail;clear a0 d14;refine (zB5 _ _ _ _ _ _ _ _ _ _ _ _ _ _ _).mono ?_;rintro e w1 ⟨rfl,e1⟩;have V1:=VN.l e1;have Y1:=xt X e1;clear n0;have n1x0:=vC14 V1;rw [hBA];go_wp2_with fail;go_ret;exact ⟨zA1 HB.out,Y1⟩
 ·have HMK:Hid (decide (m=(kk:Int))=false):=decide_eq_false q;have gMK:(m != (kk:Int))=true:=by simpa using q
  have HB:Hid (false=Q):=by show _=_;first | (rw [<- HQ.out,HMK.out];rfl) | (rw [<- HQ.out];rfl)
  have a0:=vC15 VE;have d14:=(VE2 14 _ rfl).1;have n0:=vC14 VN;go_enter Tryz.func103,Tryz.ntmps103;go_wp2_with fail;clear a0 d14;go_ret;exact ⟨zA1 HB.out,X⟩
end Go.Proofs.YteliaeejooekbaaGreatDoor

