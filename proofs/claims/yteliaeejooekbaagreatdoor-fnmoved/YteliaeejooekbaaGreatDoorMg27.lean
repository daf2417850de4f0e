import Derived.Test.YteliaeejooekbaaGreatDoorMg19
set_option maxRecDepth 8000
set_option maxHeartbeats 2000000
namespace Go.Proofs.YteliaeejooekbaaGreatDoor
open Go.RowKit
theorem zS7 (t:List UInt8) (neg:Bool) (d:Int) (x:Int) (r:Int) (c:Int) (rf:Bool) (cf:Bool) (r2:Int) (c2:Int) (rf2:Bool) (cf2:Bool) (m:Int) (p:Option Addr) (kk cap:Nat) (many:Bool) (w:World) (hl:t.length<=1048576) :
  Calls Tryz.prog 103 #[exV 1 t neg d x r c rf cf r2 c2 rf2 cf2 m (.slice p kk cap),.bool many] w fun e w'=>e=.returned (.bool (decide (m=(kk:Int)) && decide (kk=0) && (t == []) && zF1 neg d x && !neg && zA4 r c rf cf && zA4 r2 c2 rf2 cf2))/\Ext w w':=by
 have hU:True:=by have _:=hl;trivial
 clear hU;obtain ⟨Q,hQ⟩:=nm ((decide (m=(kk:Int)) && decide (kk=0) && (t == []) && zF1 neg d x && !neg && zA4 r c rf cf && zA4 r2 c2 rf2 cf2));have HQ:Hid _:=hQ;rw [hQ];clear hQ;obtain ⟨wa,ha,X1,VE,-⟩:=zAD w [iQ 1,sV t,.bool neg,iQ d,iQ x,iQ r,iQ c,.bool rf,.bool cf,iQ r2,iQ c2,.bool rf2,.bool cf2,iQ m,.slice p kk cap] 77;obtain ⟨wb,hb,X2,VN,-⟩:=zAD wa [iQ 1,sV t,.bool neg,iQ d,iQ x,iQ r,iQ c,.bool rf,.bool cf,iQ r2,iQ c2,.bool rf2,.bool cf2,iQ m] 73;have sa:wa.heap.size=w.heap.size+1:=by rw [<- ha,World.size_alloc]
 rw [sa] at VN;have VE2:=VE.l X2;have X:=xt X1 X2;clear X1 X2;by_cases q:m=(kk:Int)
 ·have HMK:Hid (decide (m=(kk:Int))=true):=decide_eq_true q;have gMK:(m != (kk:Int))=false:=by simp [q]
  clear q;by_cases q:kk=0
  ·have HK0:Hid (decide (kk=0)=true):=decide_eq_true q;have gK0:((kk:Int) == 0)=true:=by simp [q]
   clear q;cases hT0:(t == [])
   ·have HB:Hid (false=Q):=by show _=_;first | (rw [<- HQ.out,HMK.out,HK0.out,hT0];rfl) | (rw [<- HQ.out,HMK.out,HK0.out];rfl)
    have a0:=vC15 VE;have d14:=(VE2 14 _ rfl).1;have n0:=vC14 VN;go_enter Tryz.func103,Tryz.ntmps103;go_wp2_with fail;clear a0 d14;go_ret;exact ⟨zA1 HB.out,X⟩
   ·cases hGD:zF1 neg d x
    ·have HB:Hid (false=Q):=by show _=_;first | (rw [<- HQ.out,HMK.out,HK0.out,hT0,hGD];rfl) | (rw [<- HQ.out,HMK.out,HK0.out,hT0];rfl)
     have a0:=vC15 VE;have d14:=(VE2 14 _ rfl).1;have n0:=vC14 VN;go_enter Tryz.func103,Tryz.ntmps103;go_wp2_with fail;clear a0 d14;refine (zO6 _ _ _ _).mono ?_;rintro e w1 ⟨rfl,e1⟩;have V1:=VN.l e1;have Y1:=xt X e1;clear n0;have n1x0:=vC14 V1;rw [hGD];go_wp2_with fail;go_ret;exact ⟨zA1 HB.out,Y1⟩
    ·cases neg
     ·cases hZ1:zA4 r c rf cf
      ·rcases zDU hZ1 with q | ⟨rfl,q | ⟨rfl,rfl | ⟨rfl,rfl⟩⟩⟩
       all_goals
        have HB:Hid (false=Q):=by show _=_;first | (rw [<- HQ.out,HMK.out,HK0.out,hT0,hGD,hZ1];rfl) | (rw [<- HQ.out,HMK.out,HK0.out,hT0,hGD];rfl)
        have a0:=vC15 VE;have d14:=(VE2 14 _ rfl).1;have n0:=vC14 VN;go_enter Tryz.func103,Tryz.ntmps103;go_wp2_with fail;clear a0 d14;refine (zO6 _ _ _ _).mono ?_;rintro e w1 ⟨rfl,e1⟩;have V1:=VN.l e1;have Y1:=xt X e1;clear n0;have n1x0:=vC14 V1;rw [hGD];go_wp2_with fail;go_ret;exact ⟨zA1 HB.out,Y1⟩
      ·obtain ⟨rfl,rfl,rfl,rfl⟩:r=0/\c=0/\rf=false/\cf=false:=(by simpa [zA4,and_assoc] using hZ1);cases hZ2:zA4 r2 c2 rf2 cf2
       ·rcases zDU hZ2 with q | ⟨rfl,q | ⟨rfl,rfl | ⟨rfl,rfl⟩⟩⟩
        all_goals
         have HB:Hid (false=Q):=by show _=_;first | (rw [<- HQ.out,HMK.out,HK0.out,hT0,hGD,hZ1,hZ2];rfl) | (rw [<- HQ.out,HMK.out,HK0.out,hT0,hGD,hZ1];rfl)
         have a0:=vC15 VE;have d14:=(VE2 14 _ rfl).1;have n0:=vC14 VN;go_enter Tryz.func103,Tryz.ntmps103;go_wp2_with fail;clear a0 d14;refine (zO6 _ _ _ _).mono ?_;rintro e w1 ⟨rfl,e1⟩;have V1:=VN.l e1;have Y1:=xt X e1;clear n0;have n1x0:=vC14 V1;rw [hGD];go_wp2_with fail;go_ret;exact ⟨zA1 HB.out,Y1⟩
       ·obtain ⟨rfl,rfl,rfl,rfl⟩:r2=0/\c2=0/\rf2=false/\cf2=false:=(by simpa [zA4,and_assoc] using hZ2);have HB:Hid (true=Q):=by show _=_;first | (rw [<- HQ.out,HMK.out,HK0.out,hT0,hGD,hZ1,hZ2];rfl) | (rw [<- HQ.out,HMK.out,HK0.out,hT0,hGD,hZ1];rfl)
        have a0:=vC15 VE;have d14:=(VE2 14 _ rfl).1;have n0:=vC14 VN;go_enter Tryz.func103,Tryz.ntmps103;go_wp2_with fail;clear a0 d14;refine (zO6 _ _ _ _).mono ?_;rintro e w1 ⟨rfl,e1⟩;have V1:=VN.l e1;have Y1:=xt X e1;clear n0;have n1x0:=vC14 V1;rw [hGD];go_wp2_with fail;go_ret;exact ⟨zA1 HB.out,Y1⟩
     ·have HB:Hid (false=Q):=by show _=_;first | (rw [<- HQ.out,HMK.out,HK0.out,hT0,hGD];rfl) | (rw [<- HQ.out,HMK.out,HK0.out,hT0];rfl)
      have a0:=vC15 VE;have d14:=(VE2 14 _ rfl).1;have n0:=vC14 VN;go_enter Tryz.func103,Tryz.ntmps103;go_wp2_with fail;clear a0 d14;refine (zO6 _ _ _ _).mono ?_;rintro e w1 ⟨rfl,e1⟩;have V1:=VN.l e1;have Y1:=xt X e1;clear n0;have n1x0:=vC14 V1;rw [hGD];go_wp2_with fail;go_ret;exact ⟨zA1 HB.out,Y1⟩
  ·have HK0:Hid (decide (kk=0)=false):=decide_eq_false q;have gK0:((kk:Int) == 0)=false:=by simp;omega
   clear q;have HB:Hid (false=Q):=by show _=_;first | (rw [<- HQ.out,HMK.out,HK0.out];rfl) | (rw [<- HQ.out,HMK.out];rfl)
   have a0:=vC15 VE;have d14:=(VE2 14 _ rfl).1;have n0:=vC14 VN;go_enter Tryz.func103,Tryz.ntmps103;go_wp2_with fail;clear a0 d14;go_ret;exact ⟨zA1 HB.out,X⟩
 ·have HMK:Hid (decide (m=(kk:Int))=false):=decide_eq_false q;have gMK:(m != (kk:Int))=true:=by simpa using q
  have HB:Hid (false=Q):=by show _=_;first | (rw [<- HQ.out,HMK.out];rfl) | (rw [<- HQ.out];rfl)
  have a0:=vC15 VE;have d14:=(VE2 14 _ rfl).1;have n0:=vC14 VN;go_enter Tryz.func103,Tryz.ntmps103;go_wp2_with fail;clear a0 d14;go_ret;exact ⟨zA1 HB.out,X⟩
theorem zS3 (t:List UInt8) (neg:Bool) (d:Int) (x:Int) (r:Int) (c:Int) (rf:Bool) (cf:Bool) (r2:Int) (c2:Int) (rf2:Bool) (cf2:Bool) (m:Int) (p:Option Addr) (kk cap:Nat) (many:Bool) (w:World) (hl:t.length<=1048576) :
  Calls Tryz.prog 103 #[exV 5 t neg d x r c rf cf r2 c2 rf2 cf2 m (.slice p kk cap),.bool many] w fun e w'=>e=.returned (.bool (decide (m=(kk:Int)) && decide (kk=0) && (t == []) && zAL r c && zAB neg d x && zA4 r2 c2 rf2 cf2))/\Ext w w':=by
 have hU:True:=by have _:=hl;trivial
 clear hU;obtain ⟨Q,hQ⟩:=nm ((decide (m=(kk:Int)) && decide (kk=0) && (t == []) && zAL r c && zAB neg d x && zA4 r2 c2 rf2 cf2));have HQ:Hid _:=hQ;rw [hQ];clear hQ;obtain ⟨wa,ha,X1,VE,-⟩:=zAD w [iQ 5,sV t,.bool neg,iQ d,iQ x,iQ r,iQ c,.bool rf,.bool cf,iQ r2,iQ c2,.bool rf2,.bool cf2,iQ m,.slice p kk cap] 77;obtain ⟨wb,hb,X2,VN,-⟩:=zAD wa [iQ 5,sV t,.bool neg,iQ d,iQ x,iQ r,iQ c,.bool rf,.bool cf,iQ r2,iQ c2,.bool rf2,.bool cf2,iQ m] 73;have sa:wa.heap.size=w.heap.size+1:=by rw [<- ha,World.size_alloc]
 rw [sa] at VN;have VE2:=VE.l X2;have X:=xt X1 X2;clear X1 X2;by_cases q:m=(kk:Int)
 ·have HMK:Hid (decide (m=(kk:Int))=true):=decide_eq_true q;have gMK:(m != (kk:Int))=false:=by simp [q]
  clear q;by_cases q:kk=0
  ·have HK0:Hid (decide (kk=0)=true):=decide_eq_true q;have gK0:((kk:Int) == 0)=true:=by simp [q]
   clear q;cases hT0:(t == [])
   ·have HB:Hid (false=Q):=by show _=_;first | (rw [<- HQ.out,HMK.out,HK0.out,hT0];rfl) | (rw [<- HQ.out,HMK.out,HK0.out];rfl)
    have a0:=vC15 VE;have d14:=(VE2 14 _ rfl).1;have n0:=vC14 VN;go_enter Tryz.func103,Tryz.ntmps103;go_wp2_with fail;clear a0 d14;go_ret;exact ⟨zA1 HB.out,X⟩
   ·cases hG1:zAL r c
    ·have HB:Hid (false=Q):=by show _=_;first | (rw [<- HQ.out,HMK.out,HK0.out,hT0,hG1];rfl) | (rw [<- HQ.out,HMK.out,HK0.out,hT0];rfl)
     have a0:=vC15 VE;have d14:=(VE2 14 _ rfl).1;have n0:=vC14 VN;go_enter Tryz.func103,Tryz.ntmps103;go_wp2_with fail;clear a0 d14;refine (zCJ _ _ _ _ _).mono ?_;rintro e w1 ⟨rfl,e1⟩;have V1:=VN.l e1;have Y1:=xt X e1;clear n0;have n1x0:=vC14 V1;rw [hG1];go_wp2_with fail;go_ret;exact ⟨zA1 HB.out,Y1⟩
    ·cases hZD:zAB neg d x
     ·rcases zG0 hZD with rfl | ⟨rfl,q | ⟨rfl,q⟩⟩
      all_goals
       have HB:Hid (false=Q):=by show _=_;first | (rw [<- HQ.out,HMK.out,HK0.out,hT0,hG1,hZD];rfl) | (rw [<- HQ.out,HMK.out,HK0.out,hT0,hG1];rfl)
       have a0:=vC15 VE;have d14:=(VE2 14 _ rfl).1;have n0:=vC14 VN;go_enter Tryz.func103,Tryz.ntmps103;go_wp2_with fail;clear a0 d14;refine (zCJ _ _ _ _ _).mono ?_;rintro e w1 ⟨rfl,e1⟩;have V1:=VN.l e1;have Y1:=xt X e1;clear n0;have n1x0:=vC14 V1;rw [hG1];go_wp2_with fail;go_ret;exact ⟨zA1 HB.out,Y1⟩
     ·obtain ⟨rfl,rfl,rfl⟩:neg=false/\d=0/\x=0:=(by simpa [zAB,and_assoc] using hZD);cases hZ2:zA4 r2 c2 rf2 cf2
      ·rcases zDU hZ2 with q | ⟨rfl,q | ⟨rfl,rfl | ⟨rfl,rfl⟩⟩⟩
       all_goals
        have HB:Hid (false=Q):=by show _=_;first | (rw [<- HQ.out,HMK.out,HK0.out,hT0,hG1,hZD,hZ2];rfl) | (rw [<- HQ.out,HMK.out,HK0.out,hT0,hG1,hZD];rfl)
        have a0:=vC15 VE;have d14:=(VE2 14 _ rfl).1;have n0:=vC14 VN;go_enter Tryz.func103,Tryz.ntmps103;go_wp2_with fail;clear a0 d14;refine (zCJ _ _ _ _ _).mono ?_;rintro e w1 ⟨rfl,e1⟩;have V1:=VN.l e1;have Y1:=xt X e1;clear n0;have n1x0:=vC14 V1;rw [hG1];go_wp2_with fail;go_ret;exact ⟨zA1 HB.out,Y1⟩
      ·obtain ⟨rfl,rfl,rfl,rfl⟩:r2=0/\c2=0/\rf2=false/\cf2=false:=(by simpa [zA4,and_assoc] using hZ2);have HB:Hid (true=Q):=by show _=_;first | (rw [<- HQ.out,HMK.out,HK0.out,hT0,hG1,hZD,hZ2];rfl) | (rw [<- HQ.out,HMK.out,HK0.out,hT0,hG1,hZD];rfl)
       have a0:=vC15 VE;have d14:=(VE2 14 _ rfl).1;have n0:=vC14 VN;go_enter Tryz.func103,Tryz.ntmps103;go_wp2_with fail;clear a0 d14;refine (zCJ _ _ _ _ _).mono ?_;rintro e w1 ⟨rfl,e1⟩;have V1:=VN.l e1;have Y1:=xt X e1;clear n0;have n1x0:=vC14 V1;rw [hG1];go_wp2_with fail;go_ret;exact ⟨zA1 HB.out,Y1⟩
  ·have HK0:Hid (decide (kk=0)=false):=decide_eq_false q;have gK0:((kk:Int) == 0)=false:=by simp;omega
   clear q;have HB:Hid (false=Q):=by show _=_;first | (rw [<- HQ.out,HMK.out,HK0.out];rfl) | (rw [<- HQ.out,HMK.out];rfl)
   have a0:=vC15 VE;have d14:=(VE2 14 _ rfl).1;have n0:=vC14 VN;go_enter Tryz.func103,Tryz.ntmps103;go_wp2_with fail;clear a0 d14;go_ret;exact ⟨zA1 HB.out,X⟩
 ·have HMK:Hid (decide (m=(kk:Int))=false):=decide_eq_false q;have gMK:(m != (kk:Int))=true:=by simpa using q
  have HB:Hid (false=Q):=by show _=_;first | (rw [<- HQ.out,HMK.out];rfl) | (rw [<- HQ.out];rfl)
  have a0:=vC15 VE;have d14:=(VE2 14 _ rfl).1;have n0:=vC14 VN;go_enter Tryz.func103,Tryz.ntmps103;go_wp2_with fail;clear a0 d14;go_ret;exact ⟨zA1 HB.out,X⟩
theorem zS2 (t:List UInt8) (neg:Bool) (d:Int) (x:Int) (r:Int) (c:Int) (rf:Bool) (cf:Bool) (r2:Int) (c2:Int) (rf2:Bool) (cf2:Bool) (m:Int) (p:Option Addr) (kk cap:Nat) (many:Bool) (w:World) (hl:t.length<=1048576) :
  Calls Tryz.prog 103 #[exV 6 t neg d x r c rf cf r2 c2 rf2 cf2 m (.slice p kk cap),.bool many] w fun e w'=>e=.returned (.bool (decide (m=(kk:Int)) && decide (kk=0) && (t == []) && zAL r c && zAL r2 c2 && zAB neg d x))/\Ext w w':=by
 have hU:True:=by have _:=hl;trivial
 clear hU;obtain ⟨Q,hQ⟩:=nm ((decide (m=(kk:Int)) && decide (kk=0) && (t == []) && zAL r c && zAL r2 c2 && zAB neg d x));have HQ:Hid _:=hQ;rw [hQ];clear hQ;obtain ⟨wa,ha,X1,VE,-⟩:=zAD w [iQ 6,sV t,.bool neg,iQ d,iQ x,iQ r,iQ c,.bool rf,.bool cf,iQ r2,iQ c2,.bool rf2,.bool cf2,iQ m,.slice p kk cap] 77;obtain ⟨wb,hb,X2,VN,-⟩:=zAD wa [iQ 6,sV t,.bool neg,iQ d,iQ x,iQ r,iQ c,.bool rf,.bool cf,iQ r2,iQ c2,.bool rf2,.bool cf2,iQ m] 73;have sa:wa.heap.size=w.heap.size+1:=by rw [<- ha,World.size_alloc]
 rw [sa] at VN;have VE2:=VE.l X2;have X:=xt X1 X2;clear X1 X2;by_cases q:m=(kk:Int)
 ·have HMK:Hid (decide (m=(kk:Int))=true):=decide_eq_true q;have gMK:(m != (kk:Int))=false:=by simp [q]
  clear q;by_cases q:kk=0
  ·have HK0:Hid (decide (kk=0)=true):=decide_eq_true q;have gK0:((kk:Int) == 0)=true:=by simp [q]
   clear q;cases hT0:(t == [])
   ·have HB:Hid (false=Q):=by show _=_;first | (rw [<- HQ.out,HMK.out,HK0.out,hT0];rfl) | (rw [<- HQ.out,HMK.out,HK0.out];rfl)
    have a0:=vC15 VE;have d14:=(VE2 14 _ rfl).1;have n0:=vC14 VN;go_enter Tryz.func103,Tryz.ntmps103;go_wp2_with fail;clear a0 d14;go_ret;exact ⟨zA1 HB.out,X⟩
   ·cases hG1:zAL r c
    ·have HB:Hid (false=Q):=by show _=_;first | (rw [<- HQ.out,HMK.out,HK0.out,hT0,hG1];rfl) | (rw [<- HQ.out,HMK.out,HK0.out,hT0];rfl)
     have a0:=vC15 VE;have d14:=(VE2 14 _ rfl).1;have n0:=vC14 VN;go_enter Tryz.func103,Tryz.ntmps103;go_wp2_with fail;clear a0 d14;refine (zCJ _ _ _ _ _).mono ?_;rintro e w1 ⟨rfl,e1⟩;have V1:=VN.l e1;have Y1:=xt X e1;clear n0;have n1x0:=vC14 V1;rw [hG1];go_wp2_with fail;go_ret;exact ⟨zA1 HB.out,Y1⟩
    ·cases hG2:zAL r2 c2
     ·have HB:Hid (false=Q):=by show _=_;first | (rw [<- HQ.out,HMK.out,HK0.out,hT0,hG1,hG2];rfl) | (rw [<- HQ.out,HMK.out,HK0.out,hT0,hG1];rfl)
      have a0:=vC15 VE;have d14:=(VE2 14 _ rfl).1;have n0:=vC14 VN;go_enter Tryz.func103,Tryz.ntmps103;go_wp2_with fail;clear a0 d14;refine (zCJ _ _ _ _ _).mono ?_;rintro e w1 ⟨rfl,e1⟩;have V1:=VN.l e1;have Y1:=xt X e1;clear n0;have n1x0:=vC14 V1;rw [hG1];go_wp2_with fail;refine (zCJ _ _ _ _ _).mono ?_;rintro e w2 ⟨rfl,e2⟩;have V2:=V1.l e2;have Y2:=xt Y1 e2;clear n1x0;have n2x0:=vC14 V2;rw [hG2];go_wp2_with fail;go_ret;exact ⟨zA1 HB.out,Y2⟩
     ·cases hZD:zAB neg d x
      ·rcases zG0 hZD with rfl | ⟨rfl,q | ⟨rfl,q⟩⟩
       all_goals
        have HB:Hid (false=Q):=by show _=_;first | (rw [<- HQ.out,HMK.out,HK0.out,hT0,hG1,hG2,hZD];rfl) | (rw [<- HQ.out,HMK.out,HK0.out,hT0,hG1,hG2];rfl)
        have a0:=vC15 VE;have d14:=(VE2 14 _ rfl).1;have n0:=vC14 VN;go_enter Tryz.func103,Tryz.ntmps103;go_wp2_with fail;clear a0 d14;refine (zCJ _ _ _ _ _).mono ?_;rintro e w1 ⟨rfl,e1⟩;have V1:=VN.l e1;have Y1:=xt X e1;clear n0;have n1x0:=vC14 V1;rw [hG1];go_wp2_with fail;refine (zCJ _ _ _ _ _).mono ?_;rintro e w2 ⟨rfl,e2⟩;have V2:=V1.l e2;have Y2:=xt Y1 e2;clear n1x0;have n2x0:=vC14 V2;rw [hG2];go_wp2_with fail;go_ret;exact ⟨zA1 HB.out,Y2⟩
      ·obtain ⟨rfl,rfl,rfl⟩:neg=false/\d=0/\x=0:=(by simpa [zAB,and_assoc] using hZD);have HB:Hid (true=Q):=by show _=_;first | (rw [<- HQ.out,HMK.out,HK0.out,hT0,hG1,hG2,hZD];rfl) | (rw [<- HQ.out,HMK.out,HK0.out,hT0,hG1,hG2];rfl)
       have a0:=vC15 VE;have d14:=(VE2 14 _ rfl).1;have n0:=vC14 VN;go_enter Tryz.func103,Tryz.ntmps103;go_wp2_with fail;clear a0 d14;refine (zCJ _ _ _ _ _).mono ?_;rintro e w1 ⟨rfl,e1⟩;have V1:=VN.l e1;have Y1:=xt X e1;clear n0;have n1x0:=vC14 V1;rw [hG1];go_wp2_with fail;refine (zCJ _ _ _ _ _).mono ?_;rintro e w2 ⟨rfl,e2⟩;have V2:=V1.l e2;have Y2:=xt Y1 e2;clear n1x0;have n2x0:=vC14 V2;rw [hG2];go_wp2_with fail;go_ret;exact ⟨zA1 HB.out,Y2⟩
  ·have HK0:Hid (decide (kk=0)=false):=decide_eq_false q;have gK0:((kk:Int) == 0)=false:=by simp;omega
   clear q;have HB:Hid (false=Q):=by show _=_;first | (rw [<- HQ.out,HMK.out,HK0.out];rfl) | (rw [<- HQ.out,HMK.out];rfl)
   have a0:=vC15 VE;have d14:=(VE2 14 _ rfl).1;have n0:=vC14 VN;go_enter Tryz.func103,Tryz.ntmps103;go_wp2_with fail;clear a0 d14;go_ret;exact ⟨zA1 HB.out,X⟩
 ·have HMK:Hid (decide (m=(kk:Int))=false):=decide_eq_false q;have gMK:(m != (kk:Int))=true:=by simpa using q
  have HB:Hid (false=Q):=by show _=_;first | (rw [<- HQ.out,HMK.out];rfl) | (rw [<- HQ.out];rfl)
  have a0:=vC15 VE;have d14:=(VE2 14 _ rfl).1;have n0:=vC14 VN;go_enter Tryz.func103,Tryz.ntmps103;go_wp2_with fail;clear a0 d14;go_ret;exact ⟨zA1 HB.out,X⟩
theorem zS6 (t:List UInt8) (neg:Bool) (d:Int) (x:Int) (r:Int) (c:Int) (rf:Bool) (cf:Bool) (r2:Int) (c2:Int) (rf2:Bool) (cf2:Bool) (m:Int) (p:Option Addr) (kk cap:Nat) (many:Bool) (w:World) (hl:t.length<=1048576) :
  Calls Tryz.prog 103 #[exV 2 t neg d x r c rf cf r2 c2 rf2 cf2 m (.slice p kk cap),.bool many] w fun e w'=>e=.returned (.bool (decide (m=(kk:Int)) && (zAB neg d x && zA4 r c rf cf && zA4 r2 c2 rf2 cf2) && decide (kk=0) && zET t))/\Ext w w':=by
 have hU:True:=by have _:=hl;trivial
 clear hU;obtain ⟨Q,hQ⟩:=nm ((decide (m=(kk:Int)) && (zAB neg d x && zA4 r c rf cf && zA4 r2 c2 rf2 cf2) && decide (kk=0) && zET t));have HQ:Hid _:=hQ;rw [hQ];clear hQ;obtain ⟨wa,ha,X1,VE,-⟩:=zAD w [iQ 2,sV t,.bool neg,iQ d,iQ x,iQ r,iQ c,.bool rf,.bool cf,iQ r2,iQ c2,.bool rf2,.bool cf2,iQ m,.slice p kk cap] 77;obtain ⟨wb,hb,X2,VN,-⟩:=zAD wa [iQ 2,sV t,.bool neg,iQ d,iQ x,iQ r,iQ c,.bool rf,.bool cf,iQ r2,iQ c2,.bool rf2,.bool cf2,iQ m] 73;have sa:wa.heap.size=w.heap.size+1:=by rw [<- ha,World.size_alloc]
 rw [sa] at VN;have VE2:=VE.l X2;have X:=xt X1 X2;clear X1 X2;by_cases q:m=(kk:Int)
 ·have HMK:Hid (decide (m=(kk:Int))=true):=decide_eq_true q;have gMK:(m != (kk:Int))=false:=by simp [q]
  clear q;cases hBA:(zAB neg d x && zA4 r c rf cf && zA4 r2 c2 rf2 cf2)
  ·have HB:Hid (false=Q):=by show _=_;first | (rw [<- HQ.out,HMK.out,hBA];rfl) | (rw [<- HQ.out,HMK.out];rfl)
   have a0:=vC15 VE;have d14:=(VE2 14 _ rfl).1;have n0:=vC14 VN;go_enter Tryz.func103,Tryz.ntmps103;go_wp2_with fail;clear a0 d14;refine (zAY _ _ _ _ _ _ _ _ _ _ _ _ _ _ _).mono ?_;rintro e w1 ⟨rfl,e1⟩;have V1:=VN.l e1;have Y1:=xt X e1;clear n0;have n1x0:=vC14 V1;rw [hBA];go_wp2_with fail;go_ret;exact ⟨zA1 HB.out,Y1⟩
  ·by_cases q:kk=0
   ·have HK0:Hid (decide (kk=0)=true):=decide_eq_true q;have gK0:((kk:Int) == 0)=true:=(by simp [q]);clear q;cases hPR:zET t
    ·have HB:Hid (false=Q):=by show _=_;first | (rw [<- HQ.out,HMK.out,hBA,HK0.out,hPR];rfl) | (rw [<- HQ.out,HMK.out,hBA,HK0.out];rfl)
     have a0:=vC15 VE;have d14:=(VE2 14 _ rfl).1;have n0:=vC14 VN;go_enter Tryz.func103,Tryz.ntmps103;go_wp2_with fail;clear a0 d14;refine (zAY _ _ _ _ _ _ _ _ _ _ _ _ _ _ _).mono ?_;rintro e w1 ⟨rfl,e1⟩;have V1:=VN.l e1;have Y1:=xt X e1;clear n0;have n1x0:=vC14 V1;rw [hBA];go_wp2_with fail;refine (zR5 200 t _ (by omega)).mono ?_;rintro e w2 ⟨rfl,rfl⟩;rw [show zES 200 t=false from hPR];go_wp2_with fail;go_ret;exact ⟨zA1 HB.out,Y1⟩
    ·have HB:Hid (true=Q):=by show _=_;first | (rw [<- HQ.out,HMK.out,hBA,HK0.out,hPR];rfl) | (rw [<- HQ.out,HMK.out,hBA,HK0.out];rfl)
     have a0:=vC15 VE;have d14:=(VE2 14 _ rfl).1;have n0:=vC14 VN;go_enter Tryz.func103,Tryz.ntmps103;go_wp2_with fail;clear a0 d14;refine (zAY _ _ _ _ _ _ _ _ _ _ _ _ _ _ _).mono ?_;rintro e w1 ⟨rfl,e1⟩;have V1:=VN.l e1;have Y1:=xt X e1;clear n0;have n1x0:=vC14 V1;rw [hBA];go_wp2_with fail;refine (zR5 200 t _ (by omega)).mono ?_;rintro e w2 ⟨rfl,rfl⟩;rw [show zES 200 t=true from hPR];go_wp2_with fail;go_ret;exact ⟨zA1 HB.out,Y1⟩
   ·have HK0:Hid (decide (kk=0)=false):=decide_eq_false q;have gK0:((kk:Int) == 0)=false:=(by simp;omega);clear q;have HB:Hid (false=Q):=by show _=_;first | (rw [<- HQ.out,HMK.out,hBA,HK0.out];rfl) | (rw [<- HQ.out,HMK.out,hBA];rfl)
    have a0:=vC15 VE;have d14:=(VE2 14 _ rfl).1;have n0:=vC14 VN;go_enter Tryz.func103,Tryz.ntmps103;go_wp2_with fail;clear a0 d14;refine (zAY _ _ _ _ _ _ _ _ _ _ _ _ _ _ _).mono ?_;rintro e w1 ⟨rfl,e1⟩;have V1:=VN.l e1;have Y1:=xt X e1;clear n0;have n1x0:=vC14 V1;rw [hBA];go_wp2_with fail;go_ret;exact ⟨zA1 HB.out,Y1⟩
 ·have HMK:Hid (decide (m=(kk:Int))=false):=decide_eq_false q;have gMK:(m != (kk:Int))=true:=by simpa using q
  have HB:Hid (false=Q):=by show _=_;first | (rw [<- HQ.out,HMK.out];rfl) | (rw [<- HQ.out];rfl)
  have a0:=vC15 VE;have d14:=(VE2 14 _ rfl).1;have n0:=vC14 VN;go_enter Tryz.func103,Tryz.ntmps103;go_wp2_with fail;clear a0 d14;go_ret;exact ⟨zA1 HB.out,X⟩
theorem zS5 (t:List UInt8) (neg:Bool) (d:Int) (x:Int) (r:Int) (c:Int) (rf:Bool) (cf:Bool) (r2:Int) (c2:Int) (rf2:Bool) (cf2:Bool) (m:Int) (p:Option Addr) (kk cap:Nat) (many:Bool) (w:World) (hl:t.length<=1048576) :
  Calls Tryz.prog 103 #[exV 3 t neg d x r c rf cf r2 c2 rf2 cf2 m (.slice p kk cap),.bool many] w fun e w'=>e=.returned (.bool (decide (m=(kk:Int)) && (zAB neg d x && zA4 r c rf cf && zA4 r2 c2 rf2 cf2) && decide (kk=0) && zEP t))/\Ext w w':=by
 have hU:True:=by have _:=hl;trivial
 clear hU;obtain ⟨Q,hQ⟩:=nm ((decide (m=(kk:Int)) && (zAB neg d x && zA4 r c rf cf && zA4 r2 c2 rf2 cf2) && decide (kk=0) && zEP t));have HQ:Hid _:=hQ;rw [hQ];clear hQ;obtain ⟨wa,ha,X1,VE,-⟩:=zAD w [iQ 3,sV t,.bool neg,iQ d,iQ x,iQ r,iQ c,.bool rf,.bool cf,iQ r2,iQ c2,.bool rf2,.bool cf2,iQ m,.slice p kk cap] 77;obtain ⟨wb,hb,X2,VN,-⟩:=zAD wa [iQ 3,sV t,.bool neg,iQ d,iQ x,iQ r,iQ c,.bool rf,.bool cf,iQ r2,iQ c2,.bool rf2,.bool cf2,iQ m] 73;have sa:wa.heap.size=w.heap.size+1:=by rw [<- ha,World.size_alloc]
 rw [sa] at VN;have VE2:=VE.l X2;have X:=xt X1 X2;clear X1 X2;by_cases q:m=(kk:Int)
 ·have HMK:Hid (decide (m=(kk:Int))=true):=decide_eq_true q;have gMK:(m != (kk:Int))=false:=by simp [q]
  clear q;cases hBA:(zAB neg d x && zA4 r c rf cf && zA4 r2 c2 rf2 cf2)
  ·have HB:Hid (false=Q):=by show _=_;first | (rw [<- HQ.out,HMK.out,hBA];rfl) | (rw [<- HQ.out,HMK.out];rfl)
   have a0:=vC15 VE;have d14:=(VE2 14 _ rfl).1;have n0:=vC14 VN;go_enter Tryz.func103,Tryz.ntmps103;go_wp2_with fail;clear a0 d14;refine (zAY _ _ _ _ _ _ _ _ _ _ _ _ _ _ _).mono ?_;rintro e w1 ⟨rfl,e1⟩;have V1:=VN.l e1;have Y1:=xt X e1;clear n0;have n1x0:=vC14 V1;rw [hBA];go_wp2_with fail;go_ret;exact ⟨zA1 HB.out,Y1⟩
  ·by_cases q:kk=0
   ·have HK0:Hid (decide (kk=0)=true):=decide_eq_true q;have gK0:((kk:Int) == 0)=true:=(by simp [q]);clear q;obtain ⟨p1,hp1⟩:=nm ((t == [84,82,85,69]));obtain ⟨p2,hp2⟩:=nm ((t == [70,65,76,83,69]));have hBO:zEP t=(p1 || p2):=(by unfold zEP;rw [hp1,hp2]);cases p1
    ·cases p2
     ·have HB:Hid (false=Q):=by show _=_;first | (rw [<- HQ.out,HMK.out,hBA,HK0.out,hBO];rfl) | (rw [<- HQ.out,HMK.out,hBA,HK0.out];rfl)
      have a0:=vC15 VE;have d14:=(VE2 14 _ rfl).1;have n0:=vC14 VN;go_enter Tryz.func103,Tryz.ntmps103;go_wp2_with fail;clear a0 d14;refine (zAY _ _ _ _ _ _ _ _ _ _ _ _ _ _ _).mono ?_;rintro e w1 ⟨rfl,e1⟩;have V1:=VN.l e1;have Y1:=xt X e1;clear n0;have n1x0:=vC14 V1;rw [hBA];go_wp2_with fail;go_ret;exact ⟨zA1 HB.out,Y1⟩
     ·have HB:Hid (true=Q):=by show _=_;first | (rw [<- HQ.out,HMK.out,hBA,HK0.out,hBO];rfl) | (rw [<- HQ.out,HMK.out,hBA,HK0.out];rfl)
      have a0:=vC15 VE;have d14:=(VE2 14 _ rfl).1;have n0:=vC14 VN;go_enter Tryz.func103,Tryz.ntmps103;go_wp2_with fail;clear a0 d14;refine (zAY _ _ _ _ _ _ _ _ _ _ _ _ _ _ _).mono ?_;rintro e w1 ⟨rfl,e1⟩;have V1:=VN.l e1;have Y1:=xt X e1;clear n0;have n1x0:=vC14 V1;rw [hBA];go_wp2_with fail;go_ret;exact ⟨zA1 HB.out,Y1⟩
    ·have HB:Hid (true=Q):=by show _=_;first | (rw [<- HQ.out,HMK.out,hBA,HK0.out,hBO];rfl) | (rw [<- HQ.out,HMK.out,hBA,HK0.out];rfl)
     have a0:=vC15 VE;have d14:=(VE2 14 _ rfl).1;have n0:=vC14 VN;go_enter Tryz.func103,Tryz.ntmps103;go_wp2_with fail;clear a0 d14;refine (zAY _ _ _ _ _ _ _ _ _ _ _ _ _ _ _).mono ?_;rintro e w1 ⟨rfl,e1⟩;have V1:=VN.l e1;have Y1:=xt X e1;clear n0;have n1x0:=vC14 V1;rw [hBA];go_wp2_with fail;go_ret;exact ⟨zA1 HB.out,Y1⟩
   ·have HK0:Hid (decide (kk=0)=false):=decide_eq_false q;have gK0:((kk:Int) == 0)=false:=(by simp;omega);clear q;have HB:Hid (false=Q):=by show _=_;first | (rw [<- HQ.out,HMK.out,hBA,HK0.out];rfl) | (rw [<- HQ.out,HMK.out,hBA];rfl)
    have a0:=vC15 VE;have d14:=(VE2 14 _ rfl).1;have n0:=vC14 VN;go_enter Tryz.func103,Tryz.ntmps103;go_wp2_with fail;clear a0 d14;refine (zAY _ _ _ _ _ _ _ _ _ _ _ _ _ _ _).mono ?_;rintro e w1 ⟨rfl,e1⟩;have V1:=VN.l e1;have Y1:=xt X e1;clear n0;have n1x0:=vC14 V1;rw [hBA];go_wp2_with fail;go_ret;exact ⟨zA1 HB.out,Y1⟩
 ·have HMK:Hid (decide (m=(kk:Int))=false):=decide_eq_false q;have gMK:(m != (kk:Int))=true:=by simpa using q
  have HB:Hid (false=Q):=by show _=_;first | (rw [<- HQ.out,HMK.out];rfl) | (rw [<- HQ.out];rfl)
  have a0:=vC15 VE;have d14:=(VE2 14 _ rfl).1;have n0:=vC14 VN;go_enter Tryz.func103,Tryz.ntmps103;go_wp2_with fail;clear a0 d14;go_ret;exact ⟨zA1 HB.out,X⟩
theorem zS1 (t:List UInt8) (neg:Bool) (d:Int) (x:Int) (r:Int) (c:Int) (rf:Bool) (cf:Bool) (r2:Int) (c2:Int) (rf2:Bool) (cf2:Bool) (m:Int) (p:Option Addr) (kk cap:Nat) (many:Bool) (w:World) (hl:t.length<=1048576) :
  Calls Tryz.prog 103 #[exV 7 t neg d x r c rf cf r2 c2 rf2 cf2 m (.slice p kk cap),.bool many] w fun e w'=>e=.returned (.bool (decide (m=(kk:Int)) && (zAB neg d x && zA4 r c rf cf && zA4 r2 c2 rf2 cf2) && decide (kk=0) && zCC t))/\Ext w w':=by
 have hU:True:=by have _:=hl;trivial
 clear hU;obtain ⟨Q,hQ⟩:=nm ((decide (m=(kk:Int)) && (zAB neg d x && zA4 r c rf cf && zA4 r2 c2 rf2 cf2) && decide (kk=0) && zCC t));have HQ:Hid _:=hQ;rw [hQ];clear hQ;obtain ⟨wa,ha,X1,VE,-⟩:=zAD w [iQ 7,sV t,.bool neg,iQ d,iQ x,iQ r,iQ c,.bool rf,.bool cf,iQ r2,iQ c2,.bool rf2,.bool cf2,iQ m,.slice p kk cap] 77;obtain ⟨wb,hb,X2,VN,-⟩:=zAD wa [iQ 7,sV t,.bool neg,iQ d,iQ x,iQ r,iQ c,.bool rf,.bool cf,iQ r2,iQ c2,.bool rf2,.bool cf2,iQ m] 73;have sa:wa.heap.size=w.heap.size+1:=by rw [<- ha,World.size_alloc]
 rw [sa] at VN;have VE2:=VE.l X2;have X:=xt X1 X2;clear X1 X2;by_cases q:m=(kk:Int)
 ·have HMK:Hid (decide (m=(kk:Int))=true):=decide_eq_true q;have gMK:(m != (kk:Int))=false:=by simp [q]
  clear q;cases hBA:(zAB neg d x && zA4 r c rf cf && zA4 r2 c2 rf2 cf2)
  ·have HB:Hid (false=Q):=by show _=_;first | (rw [<- HQ.out,HMK.out,hBA];rfl) | (rw [<- HQ.out,HMK.out];rfl)
   have a0:=vC15 VE;have d14:=(VE2 14 _ rfl).1;have n0:=vC14 VN;go_enter Tryz.func103,Tryz.ntmps103;go_wp2_with fail;clear a0 d14;refine (zAY _ _ _ _ _ _ _ _ _ _ _ _ _ _ _).mono ?_;rintro e w1 ⟨rfl,e1⟩;have V1:=VN.l e1;have Y1:=xt X e1;clear n0;have n1x0:=vC14 V1;rw [hBA];go_wp2_with fail;go_ret;exact ⟨zA1 HB.out,Y1⟩
  ·by_cases q:kk=0
   ·have HK0:Hid (decide (kk=0)=true):=decide_eq_true q;have gK0:((kk:Int) == 0)=true:=(by simp [q]);clear q;cases hNA:zCC t
    ·have HB:Hid (false=Q):=by show _=_;first | (rw [<- HQ.out,HMK.out,hBA,HK0.out,hNA];rfl) | (rw [<- HQ.out,HMK.out,hBA,HK0.out];rfl)
     have a0:=vC15 VE;have d14:=(VE2 14 _ rfl).1;have n0:=vC14 VN;go_enter Tryz.func103,Tryz.ntmps103;go_wp2_with fail;clear a0 d14;refine (zAY _ _ _ _ _ _ _ _ _ _ _ _ _ _ _).mono ?_;rintro e w1 ⟨rfl,e1⟩;have V1:=VN.l e1;have Y1:=xt X e1;clear n0;have n1x0:=vC14 V1;rw [hBA];go_wp2_with fail;refine (zSK t _ hl).mono ?_;rintro e w2 ⟨rfl,e2⟩;have V2:=V1.l e2;have Y2:=xt Y1 e2;clear n1x0;have n2x0:=vC14 V2;rw [hNA];go_wp2_with fail;go_ret;exact ⟨zA1 HB.out,Y2⟩
    ·have HB:Hid (true=Q):=by show _=_;first | (rw [<- HQ.out,HMK.out,hBA,HK0.out,hNA];rfl) | (rw [<- HQ.out,HMK.out,hBA,HK0.out];rfl)
     have a0:=vC15 VE;have d14:=(VE2 14 _ rfl).1;have n0:=vC14 VN;go_enter Tryz.func103,Tryz.ntmps103;go_wp2_with fail;clear a0 d14;refine (zAY _ _ _ _ _ _ _ _ _ _ _ _ _ _ _).mono ?_;rintro e w1 ⟨rfl,e1⟩;have V1:=VN.l e1;have Y1:=xt X e1;clear n0;have n1x0:=vC14 V1;rw [hBA];go_wp2_with fail;refine (zSK t _ hl).mono ?_;rintro e w2 ⟨rfl,e2⟩;have V2:=V1.l e2;have Y2:=xt Y1 e2;clear n1x0;have n2x0:=vC14 V2;rw [hNA];go_wp2_with fail;go_ret;exact ⟨zA1 HB.out,Y2⟩
   ·have HK0:Hid (decide (kk=0)=false):=decide_eq_false q;have gK0:((kk:Int) == 0)=false:=(by simp;omega);clear q;have HB:Hid (false=Q):=by show _=_;first | (rw [<- HQ.out,HMK.out,hBA,HK0.out];rfl) | (rw [<- HQ.out,HMK.out,hBA];rfl)
    have a0:=vC15 VE;have d14:=(VE2 14 _ rfl).1;have n0:=vC14 VN;go_enter Tryz.func103,Tryz.ntmps103;go_wp2_with fail;clear a0 d14;refine (zAY _ _ _ _ _ _ _ _ _ _ _ _ _ _ _).mono ?_;rintro e w1 ⟨rfl,e1⟩;have V1:=VN.l e1;have Y1:=xt X e1;clear n0;have n1x0:=vC14 V1;rw [hBA];go_wp2_with fail;go_ret;exact ⟨zA1 HB.out,Y1⟩
 ·have HMK:Hid (decide (m=(kk:Int))=false):=decide_eq_false q;have gMK:(m != (kk:Int))=true:=by simpa using q
  have HB:Hid (false=Q):=by show _=_;first | (rw [<- HQ.out,HMK.out];rfl) | (rw [<- HQ.out];rfl)
  have a0:=vC15 VE;have d14:=(VE2 14 _ rfl).1;have n0:=vC14 VN;go_enter Tryz.func103,Tryz.ntmps103;go_wp2_with fail;clear a0 d14;go_ret;exact ⟨zA1 HB.out,X⟩
theorem zPF (t:List UInt8) (neg:Bool) (d:Int) (x:Int) (r:Int) (c:Int) (rf:Bool) (cf:Bool) (r2:Int) (c2:Int) (rf2:Bool) (cf2:Bool) (m:Int) (p:Option Addr) (kk cap:Nat) (many:Bool) (w:World) (hl:t.length<=1048576) :
  Calls Tryz.prog 103 #[exV 13 t neg d x r c rf cf r2 c2 rf2 cf2 m (.slice p kk cap),.bool many] w fun e w'=>e=.returned (.bool (decide (m=(kk:Int)) && (zAB neg d x && zA4 r c rf cf && zA4 r2 c2 rf2 cf2) && decide (kk=0) && (t == []) && many))/\Ext w w':=by
 have hU:True:=by have _:=hl;trivial
 clear hU;obtain ⟨Q,hQ⟩:=nm ((decide (m=(kk:Int)) && (zAB neg d x && zA4 r c rf cf && zA4 r2 c2 rf2 cf2) && decide (kk=0) && (t == []) && many));have HQ:Hid _:=hQ;rw [hQ];clear hQ;obtain ⟨wa,ha,X1,VE,-⟩:=zAD w [iQ 13,sV t,.bool neg,iQ d,iQ x,iQ r,iQ c,.bool rf,.bool cf,iQ r2,iQ c2,.bool rf2,.bool cf2,iQ m,.slice p kk cap] 77;obtain ⟨wb,hb,X2,VN,-⟩:=zAD wa [iQ 13,sV t,.bool neg,iQ d,iQ x,iQ r,iQ c,.bool rf,.bool cf,iQ r2,iQ c2,.bool rf2,.bool cf2,iQ m] 73;have sa:wa.heap.size=w.heap.size+1:=by rw [<- ha,World.size_alloc]
 rw [sa] at VN;have VE2:=VE.l X2;have X:=xt X1 X2;clear X1 X2;by_cases q:m=(kk:Int)
 ·have HMK:Hid (decide (m=(kk:Int))=true):=decide_eq_true q;have gMK:(m != (kk:Int))=false:=by simp [q]
  clear q;cases hBA:(zAB neg d x && zA4 r c rf cf && zA4 r2 c2 rf2 cf2)
  ·have HB:Hid (false=Q):=by show _=_;first | (rw [<- HQ.out,HMK.out,hBA];rfl) | (rw [<- HQ.out,HMK.out];rfl)
   have a0:=vC15 VE;have d14:=(VE2 14 _ rfl).1;have n0:=vC14 VN;go_enter Tryz.func103,Tryz.ntmps103;go_wp2_with fail;clear a0 d14;refine (zAY _ _ _ _ _ _ _ _ _ _ _ _ _ _ _).mono ?_;rintro e w1 ⟨rfl,e1⟩;have V1:=VN.l e1;have Y1:=xt X e1;clear n0;have n1x0:=vC14 V1;rw [hBA];go_wp2_with fail;go_ret;exact ⟨zA1 HB.out,Y1⟩
  ·by_cases q:kk=0
   ·have HK0:Hid (decide (kk=0)=true):=decide_eq_true q;have gK0:((kk:Int) == 0)=true:=(by simp [q]);clear q;cases hT0:(t == [])
    ·have HB:Hid (false=Q):=by show _=_;first | (rw [<- HQ.out,HMK.out,hBA,HK0.out,hT0];rfl) | (rw [<- HQ.out,HMK.out,hBA,HK0.out];rfl)
     have a0:=vC15 VE;have d14:=(VE2 14 _ rfl).1;have n0:=vC14 VN;go_enter Tryz.func103,Tryz.ntmps103;go_wp2_with fail;clear a0 d14;refine (zAY _ _ _ _ _ _ _ _ _ _ _ _ _ _ _).mono ?_;rintro e w1 ⟨rfl,e1⟩;have V1:=VN.l e1;have Y1:=xt X e1;clear n0;have n1x0:=vC14 V1;rw [hBA];go_wp2_with fail;go_ret;exact ⟨zA1 HB.out,Y1⟩
    ·cases many
     ·have HB:Hid (false=Q):=by show _=_;first | (rw [<- HQ.out,HMK.out,hBA,HK0.out,hT0];rfl) | (rw [<- HQ.out,HMK.out,hBA,HK0.out];rfl)
      have a0:=vC15 VE;have d14:=(VE2 14 _ rfl).1;have n0:=vC14 VN;go_enter Tryz.func103,Tryz.ntmps103;go_wp2_with fail;clear a0 d14;refine (zAY _ _ _ _ _ _ _ _ _ _ _ _ _ _ _).mono ?_;rintro e w1 ⟨rfl,e1⟩;have V1:=VN.l e1;have Y1:=xt X e1;clear n0;have n1x0:=vC14 V1;rw [hBA];go_wp2_with fail;go_ret;exact ⟨zA1 HB.out,Y1⟩
     ·have HB:Hid (true=Q):=by show _=_;first | (rw [<- HQ.out,HMK.out,hBA,HK0.out,hT0];rfl) | (rw [<- HQ.out,HMK.out,hBA,HK0.out];rfl)
      have a0:=vC15 VE;have d14:=(VE2 14 _ rfl).1;have n0:=vC14 VN;go_enter Tryz.func103,Tryz.ntmps103;go_wp2_with fail;clear a0 d14;refine (zAY _ _ _ _ _ _ _ _ _ _ _ _ _ _ _).mono ?_;rintro e w1 ⟨rfl,e1⟩;have V1:=VN.l e1;have Y1:=xt X e1;clear n0;have n1x0:=vC14 V1;rw [hBA];go_wp2_with fail;go_ret;exact ⟨zA1 HB.out,Y1⟩
   ·have HK0:Hid (decide (kk=0)=false):=decide_eq_false q;have gK0:((kk:Int) == 0)=false:=(by simp;omega);clear q;have HB:Hid (false=Q):=by show _=_;first | (rw [<- HQ.out,HMK.out,hBA,HK0.out];rfl) | (rw [<- HQ.out,HMK.out,hBA];rfl)
    have a0:=vC15 VE;have d14:=(VE2 14 _ rfl).1;have n0:=vC14 VN;go_enter Tryz.func103,Tryz.ntmps103;go_wp2_with fail;clear a0 d14;refine (zAY _ _ _ _ _ _ _ _ _ _ _ _ _ _ _).mono ?_;rintro e w1 ⟨rfl,e1⟩;have V1:=VN.l e1;have Y1:=xt X e1;clear n0;have n1x0:=vC14 V1;rw [hBA];go_wp2_with fail;go_ret;exact ⟨zA1 HB.out,Y1⟩
 ·have HMK:Hid (decide (m=(kk:Int))=false):=decide_eq_false q;have gMK:(m != (kk:Int))=true:=by simpa using q
  have HB:Hid (false=Q):=by show _=_;first | (rw [<- HQ.out,HMK.out];rfl) | (rw [<- HQ.out];rfl)
  have a0:=vC15 VE;have d14:=(VE2 14 _ rfl).1;have n0:=vC14 VN;go_enter Tryz.func103,Tryz.ntmps103;go_wp2_with fail;clear a0 d14;go_ret;exact ⟨zA1 HB.out,X⟩
theorem zS0 (t:List UInt8) (neg:Bool) (d:Int) (x:Int) (r:Int) (c:Int) (rf:Bool) (cf:Bool) (r2:Int) (c2:Int) (rf2:Bool) (cf2:Bool) (m:Int) (p:Option Addr) (kk cap:Nat) (many:Bool) (w:World) (hl:t.length<=1048576) :
  Calls Tryz.prog 103 #[exV 8 t neg d x r c rf cf r2 c2 rf2 cf2 m (.slice p kk cap),.bool many] w fun e w'=>e=.returned (.bool (decide (m=(kk:Int)) && (zAB neg d x && zA4 r c rf cf && zA4 r2 c2 rf2 cf2) && decide (kk=1) && (t == [])))/\Ext w w':=by
 have hU:True:=by have _:=hl;trivial
 clear hU;obtain ⟨Q,hQ⟩:=nm ((decide (m=(kk:Int)) && (zAB neg d x && zA4 r c rf cf && zA4 r2 c2 rf2 cf2) && decide (kk=1) && (t == [])));have HQ:Hid _:=hQ;rw [hQ];clear hQ;obtain ⟨wa,ha,X1,VE,-⟩:=zAD w [iQ 8,sV t,.bool neg,iQ d,iQ x,iQ r,iQ c,.bool rf,.bool cf,iQ r2,iQ c2,.bool rf2,.bool cf2,iQ m,.slice p kk cap] 77;obtain ⟨wb,hb,X2,VN,-⟩:=zAD wa [iQ 8,sV t,.bool neg,iQ d,iQ x,iQ r,iQ c,.bool rf,.bool cf,iQ r2,iQ c2,.bool rf2,.bool cf2,iQ m] 73;have sa:wa.heap.size=w.heap.size+1:=by rw [<- ha,World.size_alloc]
 rw [sa] at VN;have VE2:=VE.l X2;have X:=xt X1 X2;clear X1 X2;by_cases q:m=(kk:Int)
 ·have HMK:Hid (decide (m=(kk:Int))=true):=decide_eq_true q;have gMK:(m != (kk:Int))=false:=by simp [q]
  clear q;cases hBA:(zAB neg d x && zA4 r c rf cf && zA4 r2 c2 rf2 cf2)
  ·have HB:Hid (false=Q):=by show _=_;first | (rw [<- HQ.out,HMK.out,hBA];rfl) | (rw [<- HQ.out,HMK.out];rfl)
   have a0:=vC15 VE;have d14:=(VE2 14 _ rfl).1;have n0:=vC14 VN;go_enter Tryz.func103,Tryz.ntmps103;go_wp2_with fail;clear a0 d14;refine (zAY _ _ _ _ _ _ _ _ _ _ _ _ _ _ _).mono ?_;rintro e w1 ⟨rfl,e1⟩;have V1:=VN.l e1;have Y1:=xt X e1;clear n0;have n1x0:=vC14 V1;rw [hBA];go_wp2_with fail;go_ret;exact ⟨zA1 HB.out,Y1⟩
  ·by_cases q:kk=1
   ·have HK1:Hid (decide (kk=1)=true):=decide_eq_true q;have gK1:((kk:Int) == 1)=true:=(by simp [q]);clear q;cases hT0:(t == [])
    ·have HB:Hid (false=Q):=by show _=_;first | (rw [<- HQ.out,HMK.out,hBA,HK1.out,hT0];rfl) | (rw [<- HQ.out,HMK.out,hBA,HK1.out];rfl)
     have a0:=vC15 VE;have d14:=(VE2 14 _ rfl).1;have n0:=vC14 VN;go_enter Tryz.func103,Tryz.ntmps103;go_wp2_with fail;clear a0 d14;refine (zAY _ _ _ _ _ _ _ _ _ _ _ _ _ _ _).mono ?_;rintro e w1 ⟨rfl,e1⟩;have V1:=VN.l e1;have Y1:=xt X e1;clear n0;have n1x0:=vC14 V1;rw [hBA];go_wp2_with fail;go_ret;exact ⟨zA1 HB.out,Y1⟩
    ·have HB:Hid (true=Q):=by show _=_;first | (rw [<- HQ.out,HMK.out,hBA,HK1.out,hT0];rfl) | (rw [<- HQ.out,HMK.out,hBA,HK1.out];rfl)
     have a0:=vC15 VE;have d14:=(VE2 14 _ rfl).1;have n0:=vC14 VN;go_enter Tryz.func103,Tryz.ntmps103;go_wp2_with fail;clear a0 d14;refine (zAY _ _ _ _ _ _ _ _ _ _ _ _ _ _ _).mono ?_;rintro e w1 ⟨rfl,e1⟩;have V1:=VN.l e1;have Y1:=xt X e1;clear n0;have n1x0:=vC14 V1;rw [hBA];go_wp2_with fail;go_ret;exact ⟨zA1 HB.out,Y1⟩
   ·have HK1:Hid (decide (kk=1)=false):=decide_eq_false q;have gK1:((kk:Int) == 1)=false:=(by simp;omega);clear q;have HB:Hid (false=Q):=by show _=_;first | (rw [<- HQ.out,HMK.out,hBA,HK1.out];rfl) | (rw [<- HQ.out,HMK.out,hBA];rfl)
    have a0:=vC15 VE;have d14:=(VE2 14 _ rfl).1;have n0:=vC14 VN;go_enter Tryz.func103,Tryz.ntmps103;go_wp2_with fail;clear a0 d14;refine (zAY _ _ _ _ _ _ _ _ _ _ _ _ _ _ _).mono ?_;rintro e w1 ⟨rfl,e1⟩;have V1:=VN.l e1;have Y1:=xt X e1;clear n0;have n1x0:=vC14 V1;rw [hBA];go_wp2_with fail;go_ret;exact ⟨zA1 HB.out,Y1⟩
 ·have HMK:Hid (decide (m=(kk:Int))=false):=decide_eq_false q;have gMK:(m != (kk:Int))=true:=by simpa using q
  have HB:Hid (false=Q):=by show _=_;first | (rw [<- HQ.out,HMK.out];rfl) | (rw [<- HQ.out];rfl)
  have a0:=vC15 VE;have d14:=(VE2 14 _ rfl).1;have n0:=vC14 VN;go_enter Tryz.func103,Tryz.ntmps103;go_wp2_with fail;clear a0 d14;go_ret;exact ⟨zA1 HB.out,X⟩
theorem zRZ (t:List UInt8) (neg:Bool) (d:Int) (x:Int) (r:Int) (c:Int) (rf:Bool) (cf:Bool) (r2:Int) (c2:Int) (rf2:Bool) (cf2:Bool) (m:Int) (p:Option Addr) (kk cap:Nat) (many:Bool) (w:World) (hl:t.length<=1048576) :
  Calls Tryz.prog 103 #[exV 9 t neg d x r c rf cf r2 c2 rf2 cf2 m (.slice p kk cap),.bool many] w fun e w'=>e=.returned (.bool (decide (m=(kk:Int)) && (zAB neg d x && zA4 r c rf cf && zA4 r2 c2 rf2 cf2) && decide (kk=1) && (t == [])))/\Ext w w':=by
 have hU:True:=by have _:=hl;trivial
 clear hU;obtain ⟨Q,hQ⟩:=nm ((decide (m=(kk:Int)) && (zAB neg d x && zA4 r c rf cf && zA4 r2 c2 rf2 cf2) && decide (kk=1) && (t == [])));have HQ:Hid _:=hQ;rw [hQ];clear hQ;obtain ⟨wa,ha,X1,VE,-⟩:=zAD w [iQ 9,sV t,.bool neg,iQ d,iQ x,iQ r,iQ c,.bool rf,.bool cf,iQ r2,iQ c2,.bool rf2,.bool cf2,iQ m,.slice p kk cap] 77;obtain ⟨wb,hb,X2,VN,-⟩:=zAD wa [iQ 9,sV t,.bool neg,iQ d,iQ x,iQ r,iQ c,.bool rf,.bool cf,iQ r2,iQ c2,.bool rf2,.bool cf2,iQ m] 73;have sa:wa.heap.size=w.heap.size+1:=by rw [<- ha,World.size_alloc]
 rw [sa] at VN;have VE2:=VE.l X2;have X:=xt X1 X2;clear X1 X2;by_cases q:m=(kk:Int)
 ·have HMK:Hid (decide (m=(kk:Int))=true):=decide_eq_true q;have gMK:(m != (kk:Int))=false:=by simp [q]
  clear q;cases hBA:(zAB neg d x && zA4 r c rf cf && zA4 r2 c2 rf2 cf2)
  ·have HB:Hid (false=Q):=by show _=_;first | (rw [<- HQ.out,HMK.out,hBA];rfl) | (rw [<- HQ.out,HMK.out];rfl)
   have a0:=vC15 VE;have d14:=(VE2 14 _ rfl).1;have n0:=vC14 VN;go_enter Tryz.func103,Tryz.ntmps103;go_wp2_with fail;clear a0 d14;refine (zAY _ _ _ _ _ _ _ _ _ _ _ _ _ _ _).mono ?_;rintro e w1 ⟨rfl,e1⟩;have V1:=VN.l e1;have Y1:=xt X e1;clear n0;have n1x0:=vC14 V1;rw [hBA];go_wp2_with fail;go_ret;exact ⟨zA1 HB.out,Y1⟩
  ·by_cases q:kk=1
   ·have HK1:Hid (decide (kk=1)=true):=decide_eq_true q;have gK1:((kk:Int) == 1)=true:=(by simp [q]);clear q;cases hT0:(t == [])
    ·have HB:Hid (false=Q):=by show _=_;first | (rw [<- HQ.out,HMK.out,hBA,HK1.out,hT0];rfl) | (rw [<- HQ.out,HMK.out,hBA,HK1.out];rfl)
     have a0:=vC15 VE;have d14:=(VE2 14 _ rfl).1;have n0:=vC14 VN;go_enter Tryz.func103,Tryz.ntmps103;go_wp2_with fail;clear a0 d14;refine (zAY _ _ _ _ _ _ _ _ _ _ _ _ _ _ _).mono ?_;rintro e w1 ⟨rfl,e1⟩;have V1:=VN.l e1;have Y1:=xt X e1;clear n0;have n1x0:=vC14 V1;rw [hBA];go_wp2_with fail;go_ret;exact ⟨zA1 HB.out,Y1⟩
    ·have HB:Hid (true=Q):=by show _=_;first | (rw [<- HQ.out,HMK.out,hBA,HK1.out,hT0];rfl) | (rw [<- HQ.out,HMK.out,hBA,HK1.out];rfl)
     have a0:=vC15 VE;have d14:=(VE2 14 _ rfl).1;have n0:=vC14 VN;go_enter Tryz.func103,Tryz.ntmps103;go_wp2_with fail;clear a0 d14;refine (zAY _ _ _ _ _ _ _ _ _ _ _ _ _ _ _).mono ?_;rintro e w1 ⟨rfl,e1⟩;have V1:=VN.l e1;have Y1:=xt X e1;clear n0;have n1x0:=vC14 V1;rw [hBA];go_wp2_with fail;go_ret;exact ⟨zA1 HB.out,Y1⟩
   ·have HK1:Hid (decide (kk=1)=false):=decide_eq_false q;have gK1:((kk:Int) == 1)=false:=(by simp;omega);clear q;have HB:Hid (false=Q):=by show _=_;first | (rw [<- HQ.out,HMK.out,hBA,HK1.out];rfl) | (rw [<- HQ.out,HMK.out,hBA];rfl)
    have a0:=vC15 VE;have d14:=(VE2 14 _ rfl).1;have n0:=vC14 VN;go_enter Tryz.func103,Tryz.ntmps103;go_wp2_with fail;clear a0 d14;refine (zAY _ _ _ _ _ _ _ _ _ _ _ _ _ _ _).mono ?_;rintro e w1 ⟨rfl,e1⟩;have V1:=VN.l e1;have Y1:=xt X e1;clear n0;have n1x0:=vC14 V1;rw [hBA];go_wp2_with fail;go_ret;exact ⟨zA1 HB.out,Y1⟩
 ·have HMK:Hid (decide (m=(kk:Int))=false):=decide_eq_false q;have gMK:(m != (kk:Int))=true:=by simpa using q
  have HB:Hid (false=Q):=by show _=_;first | (rw [<- HQ.out,HMK.out];rfl) | (rw [<- HQ.out];rfl)
  have a0:=vC15 VE;have d14:=(VE2 14 _ rfl).1;have n0:=vC14 VN;go_enter Tryz.func103,Tryz.ntmps103;go_wp2_with fail;clear a0 d14;go_ret;exact ⟨zA1 HB.out,X⟩
end Go.Proofs.YteliaeejooekbaaGreatDoor
