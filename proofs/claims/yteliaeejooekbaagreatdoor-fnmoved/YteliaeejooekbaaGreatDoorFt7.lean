import Derived.Test.YteliaeejooekbaaGreatDoorMg19
import Derived.Test.YteliaeejooekbaaGreatDoorMg13
set_option maxRecDepth 8000
set_option maxHeartbeats 2000000
namespace Go.Proofs.YteliaeejooekbaaGreatDoor
open Go.RowKit
theorem zS4 (t:List UInt8) (neg:Bool) (d:Int) (x:Int) (r:Int) (c:Int) (rf:Bool) (cf:Bool) (r2:Int) (c2:Int) (rf2:Bool) (cf2:Bool) (m:Int) (p:Option Addr) (kk cap:Nat) (many:Bool) (w:World) (hl:t.length<=1048576) :
  Calls Tryz.prog 103 #[exV 4 t neg d x r c rf cf r2 c2 rf2 cf2 m (.slice p kk cap),.bool many] w fun e w'=>e=.returned (.bool (decide (m=(kk:Int)) && (zAB neg d x && zA4 r c rf cf && zA4 r2 c2 rf2 cf2) && (decide (kk=0) && memB errL t)))/\Ext w w':=by
 obtain ⟨Q,hQ⟩:=nm ((decide (m=(kk:Int)) && (zAB neg d x && zA4 r c rf cf && zA4 r2 c2 rf2 cf2) && (decide (kk=0) && memB errL t)));have HQ:Hid _:=hQ;rw [hQ];clear hQ;have HLT:Hid _:=hl;obtain ⟨wa,ha,X1,VE,-⟩:=zAD w [iQ 4,sV t,.bool neg,iQ d,iQ x,iQ r,iQ c,.bool rf,.bool cf,iQ r2,iQ c2,.bool rf2,.bool cf2,iQ m,.slice p kk cap] 77;obtain ⟨wb,hb,X2,VN,-⟩:=zAD wa [iQ 4,sV t,.bool neg,iQ d,iQ x,iQ r,iQ c,.bool rf,.bool cf,iQ r2,iQ c2,.bool rf2,.bool cf2,iQ m] 73;have sa:wa.heap.size=w.heap.size+1:=by rw [<- ha,World.size_alloc]
 rw [sa] at VN;have VE2:=VE.l X2;have X:=xt X1 X2;clear X1 X2;by_cases q:m=(kk:Int)
 ·have HMK:Hid (decide (m=(kk:Int))=true):=decide_eq_true q;have gMK:(m != (kk:Int))=false:=by simp [q]
  clear q;cases hBA:(zAB neg d x && zA4 r c rf cf && zA4 r2 c2 rf2 cf2)
  ·have HB:Hid (false=Q):=by show _=_;rw [<- HQ.out,HMK.out,hBA];simp
   have a0:=vC15 VE;have d14:=(VE2 14 _ rfl).1;have n0:=vC14 VN;go_enter Tryz.func103,Tryz.ntmps103;go_wp2_with fail;clear a0 d14;refine (zAY _ _ _ _ _ _ _ _ _ _ _ _ _ _ _).mono ?_;rintro e w1 ⟨rfl,e1⟩;have V1:=VN.l e1;have Y1:=xt X e1;clear n0;rw [hBA];have b0:=vC14 V1;go_wp2_with fail;go_ret;exact ⟨zA1 HB.out,Y1⟩
  ·by_cases hkk:kk=0
   ·have HKK:Hid (decide (kk=0)=true):=decide_eq_true hkk;have gk:((kk:Int) == 0)=true:=(by simp;omega);clear hkk;have HB:Hid (memB errL t=Q):=(by show _=_;rw [<- HQ.out,HMK.out,hBA,HKK.out];simp);have a0:=vC15 VE;have d14:=(VE2 14 _ rfl).1;have n0:=vC14 VN;go_enter Tryz.func103,Tryz.ntmps103;go_wp2_with fail;clear a0 d14;refine (zAY _ _ _ _ _ _ _ _ _ _ _ _ _ _ _).mono ?_;rintro e w1 ⟨rfl,e1⟩;have V1:=VN.l e1;have Y1:=xt X e1;clear n0;rw [hBA];have b0:=vC14 V1;go_wp2_with fail;clear b0;refine zA3 (fun lx:Nat->Value=>{ tmps:=#[exV 4 t neg d x r c rf cf r2 c2 rf2 cf2 m (Value.slice p kk cap),Value.bool many,Value.pointer (some ⟨w.heap.size,0,none⟩),undef,lx 4,Value.pointer (some ⟨w.heap.size+1,0,none⟩),Value.int .i64 (kk:Int),undef,undef,undef,Value.pointer (some ⟨w.heap.size,0,none⟩),Value.agg #[Value.int .i64 4,sV t,Value.bool neg,Value.int .i64 d,Value.int .i64 x,Value.int .i64 r,Value.int .i64 c,Value.bool rf,Value.bool cf,Value.int .i64 r2,Value.int .i64 c2,Value.bool rf2,Value.bool cf2,Value.int .i64 m],Value.pointer (some ⟨w.heap.size,14,none⟩),Value.slice p kk cap,Value.int .i64 (kk:Int),Value.pointer (some ⟨w.heap.size+1,13,none⟩),Value.int .i64 m,Value.int .i64 (kk:Int),Value.bool false,Value.pointer (some ⟨w.heap.size+1,0,none⟩),Value.int .i64 4,Value.bool false,Value.bool false,undef,undef,undef,undef,undef,undef,undef,undef,undef,undef,undef,undef,undef,undef,undef,undef,undef,undef,undef,undef,undef,undef,undef,undef,undef,undef,undef,undef,undef,undef,Value.bool false,Value.bool false,undef,undef,undef,undef,undef,undef,undef,undef,undef,undef,undef,undef,undef,undef,undef,undef,undef,undef,undef,undef,undef,undef,undef,undef,Value.bool false,Value.bool false,undef,undef,undef,undef,undef,undef,undef,undef,undef,undef,undef,undef,undef,undef,undef,undef,undef,undef,undef,undef,undef,undef,undef,Value.agg #[Value.int .i64 4,sV t,Value.bool neg,Value.int .i64 d,Value.int .i64 x,Value.int .i64 r,Value.int .i64 c,Value.bool rf,Value.bool cf,Value.int .i64 r2,Value.int .i64 c2,Value.bool rf2,Value.bool cf2,Value.int .i64 m],Value.bool true,Value.bool false,Value.pointer (some ⟨w.heap.size+1,0,none⟩),Value.int .i64 4,Value.bool false,Value.bool false,undef,undef,undef,undef,undef,undef,undef,Value.bool false,Value.bool false,undef,undef,undef,undef,undef,undef,undef,undef,undef,undef,undef,undef,Value.bool true,Value.bool true,lx 134,lx 135,lx 136,lx 137,lx 138,lx 139,lx 140,lx 141,undef,undef,undef,undef,undef,undef,undef,undef,undef,undef,undef,undef,undef,undef,undef,undef,undef,undef,undef,undef,undef,undef,undef,undef,undef,undef,undef,undef,undef,undef,undef,undef,undef,undef,undef,undef,undef,undef,undef,undef,undef,undef,undef,undef,undef,undef,undef,undef,undef,undef,undef,undef,undef,undef,undef,undef,undef,undef,undef,undef,undef,undef,undef,undef,undef,undef,undef,undef,undef,undef,undef,undef,undef,undef,undef,undef,undef,undef,undef,undef,undef,undef,undef,undef,undef,undef,undef,undef,undef,undef,undef,undef,undef,undef,undef,undef,undef,undef,undef,undef,undef],defers:=[] }) (fun L lx lw=>Hid (Ext w1 lw/\(L 0=true->lx 134=iQ (kk:Int))/\(L 1=true->lx 135=.bool true)/\(L 2=true->lx 136=.bool true)/\(L 3=true->∃ g,lx 137=.slice (some ⟨g,0,none⟩) 9 9/\Vec lw g (errL.map sV))/\(L 4=true->lx 138=.pointer (some ⟨w.heap.size+1,1,none⟩))/\(L 5=true->lx 139=sV t)/\(L 6=true->lx 140=.bool (memB errL t))/\(L 7=true->lx 141=.bool (memB errL t))/\(L 8=true->lx 4=.bool (memB errL t)))) rfl (by kernel_rfl) (fun jj=>if jj=4 then Value.bool false else undef) rfl ?_ ?_ ?_
    ·exact ⟨xd (xr _),(fun h=>by cases h),(fun h=>by cases h),(fun h=>by cases h),(fun h=>by cases h),(fun h=>by cases h),(fun h=>by cases h),(fun h=>by cases h),(fun h=>by cases h),(fun h=>by cases h)⟩
    ·intro L lx lw ix o K hK ho hL haf hI hcl;obtain ⟨E,f0,f1,f2,f3,f4,f5,f6,f7,f8⟩:=hI.out
     match ix,ho,hL,haf,hK with
     | 0,ho,hL,haf,hK =>
      cases ho
      (try dsimp only)
      refine Eq.mpr (if_pos (by rfl)) ?_;go_wp2_with fail;exact hK (fun jj=>if jj=134 then iQ (kk:Int) else lx jj) _ ⟨E,(fun _=>rfl),f1,f2,f3,f4,f5,f6,f7,f8⟩
     | 1,ho,hL,haf,hK =>
      cases ho
      (try dsimp only)
      rw [f0 (haf ⟨0,.data⟩ (by simp) rfl)];refine Eq.mpr (if_pos (by rfl)) ?_;go_wp2_with fail;exact hK (fun jj=>if jj=135 then .bool true else if jj=134 then iQ (kk:Int) else lx jj) _ ⟨E,(fun _=>rfl),(fun _=>rfl),f2,f3,f4,f5,f6,f7,f8⟩
     | 2,ho,hL,haf,hK =>
      cases ho
      (try dsimp only)
      rw [f1 (haf ⟨1,.data⟩ (by simp) rfl)];refine Eq.mpr (if_pos (by rfl)) ?_;go_wp2_with fail;exact hK (fun jj=>if jj=136 then .bool true else if jj=135 then .bool true else lx jj) _ ⟨E,f0,(fun _=>rfl),(fun _=>rfl),f3,f4,f5,f6,f7,f8⟩
     | 3,ho,hL,haf,hK =>
      cases ho
      (try dsimp only)
      rw [f2 (haf ⟨2,.guard⟩ (by simp) rfl)];refine Eq.mpr (if_pos (by rfl)) ?_;go_wp2_with fail;refine (zT7 lw).mono ?_;rintro rr w' ⟨g,rfl,pp,e'⟩;go_wp2_with fail;exact hK (fun jj=>if jj=137 then .slice (some ⟨g,0,none⟩) 9 9 else if jj=136 then .bool true else lx jj) _ ⟨(xt E e'),f0,f1,(fun _=>rfl),(fun _=>⟨g,rfl,pp⟩),f4,f5,f6,f7,f8⟩
     | 4,ho,hL,haf,hK =>
      cases ho
      (try dsimp only)
      rw [f2 (haf ⟨2,.guard⟩ (by simp) rfl)];refine Eq.mpr (if_pos (by rfl)) ?_;go_wp2_with fail;exact hK (fun jj=>if jj=138 then .pointer (some ⟨w.heap.size+1,1,none⟩) else if jj=136 then .bool true else lx jj) _ ⟨E,f0,f1,(fun _=>rfl),f3,(fun _=>rfl),f5,f6,f7,f8⟩
     | 5,ho,hL,haf,hK =>
      cases ho
      (try dsimp only)
      rw [f2 (haf ⟨2,.guard⟩ (by simp) rfl),f4 (haf ⟨4,.data⟩ (by simp) rfl)];refine Eq.mpr (if_pos (by rfl)) ?_;have c1:=((V1.l E) 1 _ rfl).1;go_wp2_with fail;exact hK (fun jj=>if jj=139 then sV t else if jj=136 then .bool true else if jj=138 then .pointer (some ⟨w.heap.size+1,1,none⟩) else lx jj) _ ⟨E,f0,f1,(fun _=>rfl),f3,(fun _=>rfl),(fun _=>rfl),f6,f7,f8⟩
     | 6,ho,hL,haf,hK =>
      cases ho
      (try dsimp only)
      obtain ⟨g,q3,p3⟩:=f3 (haf ⟨3,.data⟩ (by simp) rfl);rw [f2 (haf ⟨2,.guard⟩ (by simp) rfl),q3,f5 (haf ⟨5,.data⟩ (by simp) rfl)];refine Eq.mpr (if_pos (by rfl)) ?_;go_wp2_with fail;refine (inS errL t g 9 lw (by decide) p3).mono ?_;rintro rr w' ⟨rfl,rfl⟩;go_wp2_with fail;exact hK (fun jj=>if jj=140 then .bool (memB errL t) else if jj=136 then .bool true else if jj=137 then .slice (some ⟨g,0,none⟩) 9 9 else if jj=139 then sV t else lx jj) _ ⟨E,f0,f1,(fun _=>rfl),(fun _=>⟨g,rfl,p3⟩),f4,(fun _=>rfl),(fun _=>rfl),f7,f8⟩
     | 7,ho,hL,haf,hK =>
      cases ho
      (try dsimp only)
      rw [f2 (haf ⟨2,.data⟩ (by simp) rfl),f6 (haf ⟨6,.data⟩ (by simp) rfl)];refine Eq.mpr (if_pos (by rfl)) ?_;go_wp2_with fail;exact hK (fun jj=>if jj=141 then .bool (memB errL t) else if jj=136 then .bool true else if jj=140 then .bool (memB errL t) else lx jj) _ ⟨E,f0,f1,(fun _=>rfl),f3,f4,f5,(fun _=>rfl),(fun _=>rfl),f8⟩
     | 8,ho,hL,haf,hK =>
      cases ho
      (try dsimp only)
      rw [f7 (haf ⟨7,.data⟩ (by simp) rfl)];refine Eq.mpr (if_pos (by rfl)) ?_;go_wp2_with fail;exact hK (fun jj=>if jj=4 then .bool (memB errL t) else if jj=141 then .bool (memB errL t) else lx jj) _ ⟨E,f0,f1,f2,f3,f4,f5,f6,(fun _=>rfl),(fun _=>rfl)⟩
     | k+9,ho,_,_,_=>simp at ho
    ·intro L lx w9 hall hI;obtain ⟨E,f0,f1,f2,f3,f4,f5,f6,f7,f8⟩:=hI.out;obtain ⟨g,q3,p3⟩:=f3 (hall 3 (by simp))
     (try dsimp only)
     rw [f8 (hall 8 (by simp)),f0 (hall 0 (by simp)),f1 (hall 1 (by simp)),f2 (hall 2 (by simp)),q3,f4 (hall 4 (by simp)),f5 (hall 5 (by simp)),f6 (hall 6 (by simp)),f7 (hall 7 (by simp))];clear hI hall f0 f1 f2 f3 f4 f5 f6 f7 f8 q3;go_wp2_with fail;go_ret;exact ⟨zA1 HB.out,xt Y1 E⟩
   ·have HKK:Hid (decide (kk=0)=false):=decide_eq_false hkk;have gk:((kk:Int) == 0)=false:=(by simp;omega);clear hkk;have HB:Hid (false=Q):=(by show _=_;rw [<- HQ.out,HMK.out,hBA,HKK.out];simp);have a0:=vC15 VE;have d14:=(VE2 14 _ rfl).1;have n0:=vC14 VN;go_enter Tryz.func103,Tryz.ntmps103;go_wp2_with fail;clear a0 d14;refine (zAY _ _ _ _ _ _ _ _ _ _ _ _ _ _ _).mono ?_;rintro e w1 ⟨rfl,e1⟩;have V1:=VN.l e1;have Y1:=xt X e1;clear n0;rw [hBA];have b0:=vC14 V1;go_wp2_with fail;clear b0;refine zA3 (fun lx:Nat->Value=>{ tmps:=#[exV 4 t neg d x r c rf cf r2 c2 rf2 cf2 m (Value.slice p kk cap),Value.bool many,Value.pointer (some ⟨w.heap.size,0,none⟩),undef,lx 4,Value.pointer (some ⟨w.heap.size+1,0,none⟩),Value.int .i64 (kk:Int),undef,undef,undef,Value.pointer (some ⟨w.heap.size,0,none⟩),Value.agg #[Value.int .i64 4,sV t,Value.bool neg,Value.int .i64 d,Value.int .i64 x,Value.int .i64 r,Value.int .i64 c,Value.bool rf,Value.bool cf,Value.int .i64 r2,Value.int .i64 c2,Value.bool rf2,Value.bool cf2,Value.int .i64 m],Value.pointer (some ⟨w.heap.size,14,none⟩),Value.slice p kk cap,Value.int .i64 (kk:Int),Value.pointer (some ⟨w.heap.size+1,13,none⟩),Value.int .i64 m,Value.int .i64 (kk:Int),Value.bool false,Value.pointer (some ⟨w.heap.size+1,0,none⟩),Value.int .i64 4,Value.bool false,Value.bool false,undef,undef,undef,undef,undef,undef,undef,undef,undef,undef,undef,undef,undef,undef,undef,undef,undef,undef,undef,undef,undef,undef,undef,undef,undef,undef,undef,undef,undef,undef,Value.bool false,Value.bool false,undef,undef,undef,undef,undef,undef,undef,undef,undef,undef,undef,undef,undef,undef,undef,undef,undef,undef,undef,undef,undef,undef,undef,undef,Value.bool false,Value.bool false,undef,undef,undef,undef,undef,undef,undef,undef,undef,undef,undef,undef,undef,undef,undef,undef,undef,undef,undef,undef,undef,undef,undef,Value.agg #[Value.int .i64 4,sV t,Value.bool neg,Value.int .i64 d,Value.int .i64 x,Value.int .i64 r,Value.int .i64 c,Value.bool rf,Value.bool cf,Value.int .i64 r2,Value.int .i64 c2,Value.bool rf2,Value.bool cf2,Value.int .i64 m],Value.bool true,Value.bool false,Value.pointer (some ⟨w.heap.size+1,0,none⟩),Value.int .i64 4,Value.bool false,Value.bool false,undef,undef,undef,undef,undef,undef,undef,Value.bool false,Value.bool false,undef,undef,undef,undef,undef,undef,undef,undef,undef,undef,undef,undef,Value.bool true,Value.bool true,lx 134,lx 135,lx 136,lx 137,lx 138,lx 139,lx 140,lx 141,undef,undef,undef,undef,undef,undef,undef,undef,undef,undef,undef,undef,undef,undef,undef,undef,undef,undef,undef,undef,undef,undef,undef,undef,undef,undef,undef,undef,undef,undef,undef,undef,undef,undef,undef,undef,undef,undef,undef,undef,undef,undef,undef,undef,undef,undef,undef,undef,undef,undef,undef,undef,undef,undef,undef,undef,undef,undef,undef,undef,undef,undef,undef,undef,undef,undef,undef,undef,undef,undef,undef,undef,undef,undef,undef,undef,undef,undef,undef,undef,undef,undef,undef,undef,undef,undef,undef,undef,undef,undef,undef,undef,undef,undef,undef,undef,undef,undef,undef,undef,undef],defers:=[] }) (fun L lx lw=>Hid (Ext w1 lw/\(L 0=true->lx 134=iQ (kk:Int))/\(L 1=true->lx 135=.bool false)/\(L 2=true->lx 136=.bool false)/\(L 3=true->lx 137=undef)/\(L 4=true->lx 138=undef)/\(L 5=true->lx 139=undef)/\(L 6=true->lx 140=undef)/\(L 7=true->lx 141=.bool false)/\(L 8=true->lx 4=.bool false))) rfl (by kernel_rfl) (fun jj=>if jj=4 then Value.bool false else undef) rfl ?_ ?_ ?_
    ·exact ⟨xd (xr _),(fun h=>by cases h),(fun h=>by cases h),(fun h=>by cases h),(fun h=>by cases h),(fun h=>by cases h),(fun h=>by cases h),(fun h=>by cases h),(fun h=>by cases h),(fun h=>by cases h)⟩
    ·intro L lx lw ix o K hK ho hL haf hI hcl;obtain ⟨E,f0,f1,f2,f3,f4,f5,f6,f7,f8⟩:=hI.out
     match ix,ho,hL,haf,hK with
     | 0,ho,hL,haf,hK =>
      cases ho
      (try dsimp only)
      refine Eq.mpr (if_pos (by rfl)) ?_;go_wp2_with fail;exact hK (fun jj=>if jj=134 then iQ (kk:Int) else lx jj) _ ⟨E,(fun _=>rfl),f1,f2,f3,f4,f5,f6,f7,f8⟩
     | 1,ho,hL,haf,hK =>
      cases ho
      (try dsimp only)
      rw [f0 (haf ⟨0,.data⟩ (by simp) rfl)];refine Eq.mpr (if_pos (by rfl)) ?_;go_wp2_with fail;exact hK (fun jj=>if jj=135 then .bool false else if jj=134 then iQ (kk:Int) else lx jj) _ ⟨E,(fun _=>rfl),(fun _=>rfl),f2,f3,f4,f5,f6,f7,f8⟩
     | 2,ho,hL,haf,hK =>
      cases ho
      (try dsimp only)
      rw [f1 (haf ⟨1,.data⟩ (by simp) rfl)];refine Eq.mpr (if_pos (by rfl)) ?_;go_wp2_with fail;exact hK (fun jj=>if jj=136 then .bool false else if jj=135 then .bool false else lx jj) _ ⟨E,f0,(fun _=>rfl),(fun _=>rfl),f3,f4,f5,f6,f7,f8⟩
     | 3,ho,hL,haf,hK =>
      cases ho
      (try dsimp only)
      rw [f2 (haf ⟨2,.guard⟩ (by simp) rfl)];refine Eq.mpr (if_neg (fun h=>Bool.noConfusion (show false=true from h))) ?_;exact hK (fun jj=>if jj=137 then undef else if jj=136 then .bool false else lx jj) _ ⟨E,f0,f1,(fun _=>rfl),(fun _=>rfl),f4,f5,f6,f7,f8⟩
     | 4,ho,hL,haf,hK =>
      cases ho
      (try dsimp only)
      rw [f2 (haf ⟨2,.guard⟩ (by simp) rfl)];refine Eq.mpr (if_neg (fun h=>Bool.noConfusion (show false=true from h))) ?_;exact hK (fun jj=>if jj=138 then undef else if jj=136 then .bool false else lx jj) _ ⟨E,f0,f1,(fun _=>rfl),f3,(fun _=>rfl),f5,f6,f7,f8⟩
     | 5,ho,hL,haf,hK =>
      cases ho
      (try dsimp only)
      rw [f2 (haf ⟨2,.guard⟩ (by simp) rfl)];refine Eq.mpr (if_neg (fun h=>Bool.noConfusion (show false=true from h))) ?_;exact hK (fun jj=>if jj=139 then undef else if jj=136 then .bool false else lx jj) _ ⟨E,f0,f1,(fun _=>rfl),f3,f4,(fun _=>rfl),f6,f7,f8⟩
     | 6,ho,hL,haf,hK =>
      cases ho
      (try dsimp only)
      rw [f2 (haf ⟨2,.guard⟩ (by simp) rfl)];refine Eq.mpr (if_neg (fun h=>Bool.noConfusion (show false=true from h))) ?_;exact hK (fun jj=>if jj=140 then undef else if jj=136 then .bool false else lx jj) _ ⟨E,f0,f1,(fun _=>rfl),f3,f4,f5,(fun _=>rfl),f7,f8⟩
     | 7,ho,hL,haf,hK =>
      cases ho
      (try dsimp only)
      rw [f2 (haf ⟨2,.data⟩ (by simp) rfl),f6 (haf ⟨6,.data⟩ (by simp) rfl)];refine Eq.mpr (if_pos (by rfl)) ?_;go_wp2_with fail;exact hK (fun jj=>if jj=141 then .bool false else if jj=136 then .bool false else if jj=140 then undef else lx jj) _ ⟨E,f0,f1,(fun _=>rfl),f3,f4,f5,(fun _=>rfl),(fun _=>rfl),f8⟩
     | 8,ho,hL,haf,hK =>
      cases ho
      (try dsimp only)
      rw [f7 (haf ⟨7,.data⟩ (by simp) rfl)];refine Eq.mpr (if_pos (by rfl)) ?_;go_wp2_with fail;exact hK (fun jj=>if jj=4 then .bool false else if jj=141 then .bool false else lx jj) _ ⟨E,f0,f1,f2,f3,f4,f5,f6,(fun _=>rfl),(fun _=>rfl)⟩
     | k+9,ho,_,_,_=>simp at ho
    ·intro L lx w9 hall hI;obtain ⟨E,f0,f1,f2,f3,f4,f5,f6,f7,f8⟩:=hI.out
     (try dsimp only)
     rw [f8 (hall 8 (by simp)),f0 (hall 0 (by simp)),f1 (hall 1 (by simp)),f2 (hall 2 (by simp)),f3 (hall 3 (by simp)),f4 (hall 4 (by simp)),f5 (hall 5 (by simp)),f6 (hall 6 (by simp)),f7 (hall 7 (by simp))];clear hI hall f0 f1 f2 f3 f4 f5 f6 f7 f8;go_wp2_with fail;go_ret;exact ⟨zA1 HB.out,xt Y1 E⟩
 ·have HMK:Hid (decide (m=(kk:Int))=false):=decide_eq_false q;have gMK:(m != (kk:Int))=true:=by simp [q]
  clear q;have HB:Hid (false=Q):=by show _=_;rw [<- HQ.out,HMK.out];simp
  have a0:=vC15 VE;have d14:=(VE2 14 _ rfl).1;have n0:=vC14 VN;go_enter Tryz.func103,Tryz.ntmps103;go_wp2_with fail;clear a0 d14;go_ret;exact ⟨zA1 HB.out,X⟩
theorem zPI (t:List UInt8) (neg:Bool) (d:Int) (x:Int) (r:Int) (c:Int) (rf:Bool) (cf:Bool) (r2:Int) (c2:Int) (rf2:Bool) (cf2:Bool) (m:Int) (p:Option Addr) (kk cap:Nat) (many:Bool) (w:World) (hl:t.length<=1048576) :
  Calls Tryz.prog 103 #[exV 10 t neg d x r c rf cf r2 c2 rf2 cf2 m (.slice p kk cap),.bool many] w fun e w'=>e=.returned (.bool (decide (m=(kk:Int)) && (zAB neg d x && zA4 r c rf cf && zA4 r2 c2 rf2 cf2) && (decide (kk=2) && memB opsL t)))/\Ext w w':=by
 obtain ⟨Q,hQ⟩:=nm ((decide (m=(kk:Int)) && (zAB neg d x && zA4 r c rf cf && zA4 r2 c2 rf2 cf2) && (decide (kk=2) && memB opsL t)));have HQ:Hid _:=hQ;rw [hQ];clear hQ;have HLT:Hid _:=hl;obtain ⟨wa,ha,X1,VE,-⟩:=zAD w [iQ 10,sV t,.bool neg,iQ d,iQ x,iQ r,iQ c,.bool rf,.bool cf,iQ r2,iQ c2,.bool rf2,.bool cf2,iQ m,.slice p kk cap] 77;obtain ⟨wb,hb,X2,VN,-⟩:=zAD wa [iQ 10,sV t,.bool neg,iQ d,iQ x,iQ r,iQ c,.bool rf,.bool cf,iQ r2,iQ c2,.bool rf2,.bool cf2,iQ m] 73;have sa:wa.heap.size=w.heap.size+1:=by rw [<- ha,World.size_alloc]
 rw [sa] at VN;have VE2:=VE.l X2;have X:=xt X1 X2;clear X1 X2;by_cases q:m=(kk:Int)
 ·have HMK:Hid (decide (m=(kk:Int))=true):=decide_eq_true q;have gMK:(m != (kk:Int))=false:=by simp [q]
  clear q;cases hBA:(zAB neg d x && zA4 r c rf cf && zA4 r2 c2 rf2 cf2)
  ·have HB:Hid (false=Q):=by show _=_;rw [<- HQ.out,HMK.out,hBA];simp
   have a0:=vC15 VE;have d14:=(VE2 14 _ rfl).1;have n0:=vC14 VN;go_enter Tryz.func103,Tryz.ntmps103;go_wp2_with fail;clear a0 d14;refine (zAY _ _ _ _ _ _ _ _ _ _ _ _ _ _ _).mono ?_;rintro e w1 ⟨rfl,e1⟩;have V1:=VN.l e1;have Y1:=xt X e1;clear n0;rw [hBA];have b0:=vC14 V1;go_wp2_with fail;go_ret;exact ⟨zA1 HB.out,Y1⟩
  ·by_cases hkk:kk=2
   ·have HKK:Hid (decide (kk=2)=true):=decide_eq_true hkk;have gk:((kk:Int) == 2)=true:=(by simp;omega);clear hkk;have HB:Hid (memB opsL t=Q):=(by show _=_;rw [<- HQ.out,HMK.out,hBA,HKK.out];simp);have a0:=vC15 VE;have d14:=(VE2 14 _ rfl).1;have n0:=vC14 VN;go_enter Tryz.func103,Tryz.ntmps103;go_wp2_with fail;clear a0 d14;refine (zAY _ _ _ _ _ _ _ _ _ _ _ _ _ _ _).mono ?_;rintro e w1 ⟨rfl,e1⟩;have V1:=VN.l e1;have Y1:=xt X e1;clear n0;rw [hBA];have b0:=vC14 V1;go_wp2_with fail;clear b0;refine zA3 (fun lx:Nat->Value=>{ tmps:=#[exV 10 t neg d x r c rf cf r2 c2 rf2 cf2 m (Value.slice p kk cap),Value.bool many,Value.pointer (some ⟨w.heap.size,0,none⟩),undef,lx 4,Value.pointer (some ⟨w.heap.size+1,0,none⟩),Value.int .i64 (kk:Int),undef,undef,undef,Value.pointer (some ⟨w.heap.size,0,none⟩),Value.agg #[Value.int .i64 10,sV t,Value.bool neg,Value.int .i64 d,Value.int .i64 x,Value.int .i64 r,Value.int .i64 c,Value.bool rf,Value.bool cf,Value.int .i64 r2,Value.int .i64 c2,Value.bool rf2,Value.bool cf2,Value.int .i64 m],Value.pointer (some ⟨w.heap.size,14,none⟩),Value.slice p kk cap,Value.int .i64 (kk:Int),Value.pointer (some ⟨w.heap.size+1,13,none⟩),Value.int .i64 m,Value.int .i64 (kk:Int),Value.bool false,Value.pointer (some ⟨w.heap.size+1,0,none⟩),Value.int .i64 10,Value.bool false,Value.bool false,undef,undef,undef,undef,undef,undef,undef,undef,undef,undef,undef,undef,undef,undef,undef,undef,undef,undef,undef,undef,undef,undef,undef,undef,undef,undef,undef,undef,undef,undef,Value.bool false,Value.bool false,undef,undef,undef,undef,undef,undef,undef,undef,undef,undef,undef,undef,undef,undef,undef,undef,undef,undef,undef,undef,undef,undef,undef,undef,Value.bool false,Value.bool false,undef,undef,undef,undef,undef,undef,undef,undef,undef,undef,undef,undef,undef,undef,undef,undef,undef,undef,undef,undef,undef,undef,undef,Value.agg #[Value.int .i64 10,sV t,Value.bool neg,Value.int .i64 d,Value.int .i64 x,Value.int .i64 r,Value.int .i64 c,Value.bool rf,Value.bool cf,Value.int .i64 r2,Value.int .i64 c2,Value.bool rf2,Value.bool cf2,Value.int .i64 m],Value.bool true,Value.bool false,Value.pointer (some ⟨w.heap.size+1,0,none⟩),Value.int .i64 10,Value.bool false,Value.bool false,undef,undef,undef,undef,undef,undef,undef,Value.bool false,Value.bool false,undef,undef,undef,undef,undef,undef,undef,undef,undef,undef,undef,undef,Value.bool false,Value.bool false,undef,undef,undef,undef,undef,undef,undef,undef,Value.bool false,Value.bool false,undef,undef,undef,undef,undef,undef,undef,Value.bool false,Value.bool false,undef,undef,undef,undef,undef,undef,undef,undef,undef,undef,Value.bool false,Value.bool false,Value.bool false,undef,undef,undef,undef,undef,undef,undef,Value.bool true,Value.bool true,lx 175,lx 176,lx 177,lx 178,lx 179,lx 180,lx 181,lx 182,undef,undef,undef,undef,undef,undef,undef,undef,undef,undef,undef,undef,undef,undef,undef,undef,undef,undef,undef,undef,undef,undef,undef,undef,undef,undef,undef,undef,undef,undef,undef,undef,undef,undef,undef,undef,undef,undef,undef,undef,undef,undef,undef,undef,undef,undef,undef,undef,undef,undef,undef,undef,undef,undef,undef,undef,undef,undef,undef,undef],defers:=[] }) (fun L lx lw=>Hid (Ext w1 lw/\(L 0=true->lx 175=iQ (kk:Int))/\(L 1=true->lx 176=.bool true)/\(L 2=true->lx 177=.bool true)/\(L 3=true->∃ g,lx 178=.slice (some ⟨g,0,none⟩) 12 12/\Vec lw g (opsL.map sV))/\(L 4=true->lx 179=.pointer (some ⟨w.heap.size+1,1,none⟩))/\(L 5=true->lx 180=sV t)/\(L 6=true->lx 181=.bool (memB opsL t))/\(L 7=true->lx 182=.bool (memB opsL t))/\(L 8=true->lx 4=.bool (memB opsL t)))) rfl (by kernel_rfl) (fun jj=>if jj=4 then Value.bool false else undef) rfl ?_ ?_ ?_
    ·exact ⟨xd (xr _),(fun h=>by cases h),(fun h=>by cases h),(fun h=>by cases h),(fun h=>by cases h),(fun h=>by cases h),(fun h=>by cases h),(fun h=>by cases h),(fun h=>by cases h),(fun h=>by cases h)⟩
    ·intro L lx lw ix o K hK ho hL haf hI hcl;obtain ⟨E,f0,f1,f2,f3,f4,f5,f6,f7,f8⟩:=hI.out
     match ix,ho,hL,haf,hK with
     | 0,ho,hL,haf,hK =>
      cases ho
      (try dsimp only)
      refine Eq.mpr (if_pos (by rfl)) ?_;go_wp2_with fail;exact hK (fun jj=>if jj=175 then iQ (kk:Int) else lx jj) _ ⟨E,(fun _=>rfl),f1,f2,f3,f4,f5,f6,f7,f8⟩
     | 1,ho,hL,haf,hK =>
      cases ho
      (try dsimp only)
      rw [f0 (haf ⟨0,.data⟩ (by simp) rfl)];refine Eq.mpr (if_pos (by rfl)) ?_;go_wp2_with fail;exact hK (fun jj=>if jj=176 then .bool true else if jj=175 then iQ (kk:Int) else lx jj) _ ⟨E,(fun _=>rfl),(fun _=>rfl),f2,f3,f4,f5,f6,f7,f8⟩
     | 2,ho,hL,haf,hK =>
      cases ho
      (try dsimp only)
      rw [f1 (haf ⟨1,.data⟩ (by simp) rfl)];refine Eq.mpr (if_pos (by rfl)) ?_;go_wp2_with fail;exact hK (fun jj=>if jj=177 then .bool true else if jj=176 then .bool true else lx jj) _ ⟨E,f0,(fun _=>rfl),(fun _=>rfl),f3,f4,f5,f6,f7,f8⟩
     | 3,ho,hL,haf,hK =>
      cases ho
      (try dsimp only)
      rw [f2 (haf ⟨2,.guard⟩ (by simp) rfl)];refine Eq.mpr (if_pos (by rfl)) ?_;go_wp2_with fail;refine (opsS lw).mono ?_;rintro rr w' ⟨g,rfl,pp,e'⟩;go_wp2_with fail;exact hK (fun jj=>if jj=178 then .slice (some ⟨g,0,none⟩) 12 12 else if jj=177 then .bool true else lx jj) _ ⟨(xt E e'),f0,f1,(fun _=>rfl),(fun _=>⟨g,rfl,pp⟩),f4,f5,f6,f7,f8⟩
     | 4,ho,hL,haf,hK =>
      cases ho
      (try dsimp only)
      rw [f2 (haf ⟨2,.guard⟩ (by simp) rfl)];refine Eq.mpr (if_pos (by rfl)) ?_;go_wp2_with fail;exact hK (fun jj=>if jj=179 then .pointer (some ⟨w.heap.size+1,1,none⟩) else if jj=177 then .bool true else lx jj) _ ⟨E,f0,f1,(fun _=>rfl),f3,(fun _=>rfl),f5,f6,f7,f8⟩
     | 5,ho,hL,haf,hK =>
      cases ho
      (try dsimp only)
      rw [f2 (haf ⟨2,.guard⟩ (by simp) rfl),f4 (haf ⟨4,.data⟩ (by simp) rfl)];refine Eq.mpr (if_pos (by rfl)) ?_;have c1:=((V1.l E) 1 _ rfl).1;go_wp2_with fail;exact hK (fun jj=>if jj=180 then sV t else if jj=177 then .bool true else if jj=179 then .pointer (some ⟨w.heap.size+1,1,none⟩) else lx jj) _ ⟨E,f0,f1,(fun _=>rfl),f3,(fun _=>rfl),(fun _=>rfl),f6,f7,f8⟩
     | 6,ho,hL,haf,hK =>
      cases ho
      (try dsimp only)
      obtain ⟨g,q3,p3⟩:=f3 (haf ⟨3,.data⟩ (by simp) rfl);rw [f2 (haf ⟨2,.guard⟩ (by simp) rfl),q3,f5 (haf ⟨5,.data⟩ (by simp) rfl)];refine Eq.mpr (if_pos (by rfl)) ?_;go_wp2_with fail;refine (inS opsL t g 12 lw (by decide) p3).mono ?_;rintro rr w' ⟨rfl,rfl⟩;go_wp2_with fail;exact hK (fun jj=>if jj=181 then .bool (memB opsL t) else if jj=177 then .bool true else if jj=178 then .slice (some ⟨g,0,none⟩) 12 12 else if jj=180 then sV t else lx jj) _ ⟨E,f0,f1,(fun _=>rfl),(fun _=>⟨g,rfl,p3⟩),f4,(fun _=>rfl),(fun _=>rfl),f7,f8⟩
     | 7,ho,hL,haf,hK =>
      cases ho
      (try dsimp only)
      rw [f2 (haf ⟨2,.data⟩ (by simp) rfl),f6 (haf ⟨6,.data⟩ (by simp) rfl)];refine Eq.mpr (if_pos (by rfl)) ?_;go_wp2_with fail;exact hK (fun jj=>if jj=182 then .bool (memB opsL t) else if jj=177 then .bool true else if jj=181 then .bool (memB opsL t) else lx jj) _ ⟨E,f0,f1,(fun _=>rfl),f3,f4,f5,(fun _=>rfl),(fun _=>rfl),f8⟩
     | 8,ho,hL,haf,hK =>
      cases ho
      (try dsimp only)
      rw [f7 (haf ⟨7,.data⟩ (by simp) rfl)];refine Eq.mpr (if_pos (by rfl)) ?_;go_wp2_with fail;exact hK (fun jj=>if jj=4 then .bool (memB opsL t) else if jj=182 then .bool (memB opsL t) else lx jj) _ ⟨E,f0,f1,f2,f3,f4,f5,f6,(fun _=>rfl),(fun _=>rfl)⟩
     | k+9,ho,_,_,_=>simp at ho
    ·intro L lx w9 hall hI;obtain ⟨E,f0,f1,f2,f3,f4,f5,f6,f7,f8⟩:=hI.out;obtain ⟨g,q3,p3⟩:=f3 (hall 3 (by simp))
     (try dsimp only)
     rw [f8 (hall 8 (by simp)),f0 (hall 0 (by simp)),f1 (hall 1 (by simp)),f2 (hall 2 (by simp)),q3,f4 (hall 4 (by simp)),f5 (hall 5 (by simp)),f6 (hall 6 (by simp)),f7 (hall 7 (by simp))];clear hI hall f0 f1 f2 f3 f4 f5 f6 f7 f8 q3;go_wp2_with fail;go_ret;exact ⟨zA1 HB.out,xt Y1 E⟩
   ·have HKK:Hid (decide (kk=2)=false):=decide_eq_false hkk;have gk:((kk:Int) == 2)=false:=(by simp;omega);clear hkk;have HB:Hid (false=Q):=(by show _=_;rw [<- HQ.out,HMK.out,hBA,HKK.out];simp);have a0:=vC15 VE;have d14:=(VE2 14 _ rfl).1;have n0:=vC14 VN;go_enter Tryz.func103,Tryz.ntmps103;go_wp2_with fail;clear a0 d14;refine (zAY _ _ _ _ _ _ _ _ _ _ _ _ _ _ _).mono ?_;rintro e w1 ⟨rfl,e1⟩;have V1:=VN.l e1;have Y1:=xt X e1;clear n0;rw [hBA];have b0:=vC14 V1;go_wp2_with fail;clear b0;refine zA3 (fun lx:Nat->Value=>{ tmps:=#[exV 10 t neg d x r c rf cf r2 c2 rf2 cf2 m (Value.slice p kk cap),Value.bool many,Value.pointer (some ⟨w.heap.size,0,none⟩),undef,lx 4,Value.pointer (some ⟨w.heap.size+1,0,none⟩),Value.int .i64 (kk:Int),undef,undef,undef,Value.pointer (some ⟨w.heap.size,0,none⟩),Value.agg #[Value.int .i64 10,sV t,Value.bool neg,Value.int .i64 d,Value.int .i64 x,Value.int .i64 r,Value.int .i64 c,Value.bool rf,Value.bool cf,Value.int .i64 r2,Value.int .i64 c2,Value.bool rf2,Value.bool cf2,Value.int .i64 m],Value.pointer (some ⟨w.heap.size,14,none⟩),Value.slice p kk cap,Value.int .i64 (kk:Int),Value.pointer (some ⟨w.heap.size+1,13,none⟩),Value.int .i64 m,Value.int .i64 (kk:Int),Value.bool false,Value.pointer (some ⟨w.heap.size+1,0,none⟩),Value.int .i64 10,Value.bool false,Value.bool false,undef,undef,undef,undef,undef,undef,undef,undef,undef,undef,undef,undef,undef,undef,undef,undef,undef,undef,undef,undef,undef,undef,undef,undef,undef,undef,undef,undef,undef,undef,Value.bool false,Value.bool false,undef,undef,undef,undef,undef,undef,undef,undef,undef,undef,undef,undef,undef,undef,undef,undef,undef,undef,undef,undef,undef,undef,undef,undef,Value.bool false,Value.bool false,undef,undef,undef,undef,undef,undef,undef,undef,undef,undef,undef,undef,undef,undef,undef,undef,undef,undef,undef,undef,undef,undef,undef,Value.agg #[Value.int .i64 10,sV t,Value.bool neg,Value.int .i64 d,Value.int .i64 x,Value.int .i64 r,Value.int .i64 c,Value.bool rf,Value.bool cf,Value.int .i64 r2,Value.int .i64 c2,Value.bool rf2,Value.bool cf2,Value.int .i64 m],Value.bool true,Value.bool false,Value.pointer (some ⟨w.heap.size+1,0,none⟩),Value.int .i64 10,Value.bool false,Value.bool false,undef,undef,undef,undef,undef,undef,undef,Value.bool false,Value.bool false,undef,undef,undef,undef,undef,undef,undef,undef,undef,undef,undef,undef,Value.bool false,Value.bool false,undef,undef,undef,undef,undef,undef,undef,undef,Value.bool false,Value.bool false,undef,undef,undef,undef,undef,undef,undef,Value.bool false,Value.bool false,undef,undef,undef,undef,undef,undef,undef,undef,undef,undef,Value.bool false,Value.bool false,Value.bool false,undef,undef,undef,undef,undef,undef,undef,Value.bool true,Value.bool true,lx 175,lx 176,lx 177,lx 178,lx 179,lx 180,lx 181,lx 182,undef,undef,undef,undef,undef,undef,undef,undef,undef,undef,undef,undef,undef,undef,undef,undef,undef,undef,undef,undef,undef,undef,undef,undef,undef,undef,undef,undef,undef,undef,undef,undef,undef,undef,undef,undef,undef,undef,undef,undef,undef,undef,undef,undef,undef,undef,undef,undef,undef,undef,undef,undef,undef,undef,undef,undef,undef,undef,undef,undef],defers:=[] }) (fun L lx lw=>Hid (Ext w1 lw/\(L 0=true->lx 175=iQ (kk:Int))/\(L 1=true->lx 176=.bool false)/\(L 2=true->lx 177=.bool false)/\(L 3=true->lx 178=undef)/\(L 4=true->lx 179=undef)/\(L 5=true->lx 180=undef)/\(L 6=true->lx 181=undef)/\(L 7=true->lx 182=.bool false)/\(L 8=true->lx 4=.bool false))) rfl (by kernel_rfl) (fun jj=>if jj=4 then Value.bool false else undef) rfl ?_ ?_ ?_
    ·exact ⟨xd (xr _),(fun h=>by cases h),(fun h=>by cases h),(fun h=>by cases h),(fun h=>by cases h),(fun h=>by cases h),(fun h=>by cases h),(fun h=>by cases h),(fun h=>by cases h),(fun h=>by cases h)⟩
    ·intro L lx lw ix o K hK ho hL haf hI hcl;obtain ⟨E,f0,f1,f2,f3,f4,f5,f6,f7,f8⟩:=hI.out
     match ix,ho,hL,haf,hK with
     | 0,ho,hL,haf,hK =>
      cases ho
      (try dsimp only)
      refine Eq.mpr (if_pos (by rfl)) ?_;go_wp2_with fail;exact hK (fun jj=>if jj=175 then iQ (kk:Int) else lx jj) _ ⟨E,(fun _=>rfl),f1,f2,f3,f4,f5,f6,f7,f8⟩
     | 1,ho,hL,haf,hK =>
      cases ho
      (try dsimp only)
      rw [f0 (haf ⟨0,.data⟩ (by simp) rfl)];refine Eq.mpr (if_pos (by rfl)) ?_;go_wp2_with fail;exact hK (fun jj=>if jj=176 then .bool false else if jj=175 then iQ (kk:Int) else lx jj) _ ⟨E,(fun _=>rfl),(fun _=>rfl),f2,f3,f4,f5,f6,f7,f8⟩
     | 2,ho,hL,haf,hK =>
      cases ho
      (try dsimp only)
      rw [f1 (haf ⟨1,.data⟩ (by simp) rfl)];refine Eq.mpr (if_pos (by rfl)) ?_;go_wp2_with fail;exact hK (fun jj=>if jj=177 then .bool false else if jj=176 then .bool false else lx jj) _ ⟨E,f0,(fun _=>rfl),(fun _=>rfl),f3,f4,f5,f6,f7,f8⟩
     | 3,ho,hL,haf,hK =>
      cases ho
      (try dsimp only)
      rw [f2 (haf ⟨2,.guard⟩ (by simp) rfl)];refine Eq.mpr (if_neg (fun h=>Bool.noConfusion (show false=true from h))) ?_;exact hK (fun jj=>if jj=178 then undef else if jj=177 then .bool false else lx jj) _ ⟨E,f0,f1,(fun _=>rfl),(fun _=>rfl),f4,f5,f6,f7,f8⟩
     | 4,ho,hL,haf,hK =>
      cases ho
      (try dsimp only)
      rw [f2 (haf ⟨2,.guard⟩ (by simp) rfl)];refine Eq.mpr (if_neg (fun h=>Bool.noConfusion (show false=true from h))) ?_;exact hK (fun jj=>if jj=179 then undef else if jj=177 then .bool false else lx jj) _ ⟨E,f0,f1,(fun _=>rfl),f3,(fun _=>rfl),f5,f6,f7,f8⟩
     | 5,ho,hL,haf,hK =>
      cases ho
      (try dsimp only)
      rw [f2 (haf ⟨2,.guard⟩ (by simp) rfl)];refine Eq.mpr (if_neg (fun h=>Bool.noConfusion (show false=true from h))) ?_;exact hK (fun jj=>if jj=180 then undef else if jj=177 then .bool false else lx jj) _ ⟨E,f0,f1,(fun _=>rfl),f3,f4,(fun _=>rfl),f6,f7,f8⟩
     | 6,ho,hL,haf,hK =>
      cases ho
      (try dsimp only)
      rw [f2 (haf ⟨2,.guard⟩ (by simp) rfl)];refine Eq.mpr (if_neg (fun h=>Bool.noConfusion (show false=true from h))) ?_;exact hK (fun jj=>if jj=181 then undef else if jj=177 then .bool false else lx jj) _ ⟨E,f0,f1,(fun _=>rfl),f3,f4,f5,(fun _=>rfl),f7,f8⟩
     | 7,ho,hL,haf,hK =>
      cases ho
      (try dsimp only)
      rw [f2 (haf ⟨2,.data⟩ (by simp) rfl),f6 (haf ⟨6,.data⟩ (by simp) rfl)];refine Eq.mpr (if_pos (by rfl)) ?_;go_wp2_with fail;exact hK (fun jj=>if jj=182 then .bool false else if jj=177 then .bool false else if jj=181 then undef else lx jj) _ ⟨E,f0,f1,(fun _=>rfl),f3,f4,f5,(fun _=>rfl),(fun _=>rfl),f8⟩
     | 8,ho,hL,haf,hK =>
      cases ho
      (try dsimp only)
      rw [f7 (haf ⟨7,.data⟩ (by simp) rfl)];refine Eq.mpr (if_pos (by rfl)) ?_;go_wp2_with fail;exact hK (fun jj=>if jj=4 then .bool false else if jj=182 then .bool false else lx jj) _ ⟨E,f0,f1,f2,f3,f4,f5,f6,(fun _=>rfl),(fun _=>rfl)⟩
     | k+9,ho,_,_,_=>simp at ho
    ·intro L lx w9 hall hI;obtain ⟨E,f0,f1,f2,f3,f4,f5,f6,f7,f8⟩:=hI.out
     (try dsimp only)
     rw [f8 (hall 8 (by simp)),f0 (hall 0 (by simp)),f1 (hall 1 (by simp)),f2 (hall 2 (by simp)),f3 (hall 3 (by simp)),f4 (hall 4 (by simp)),f5 (hall 5 (by simp)),f6 (hall 6 (by simp)),f7 (hall 7 (by simp))];clear hI hall f0 f1 f2 f3 f4 f5 f6 f7 f8;go_wp2_with fail;go_ret;exact ⟨zA1 HB.out,xt Y1 E⟩
 ·have HMK:Hid (decide (m=(kk:Int))=false):=decide_eq_false q;have gMK:(m != (kk:Int))=true:=by simp [q]
  clear q;have HB:Hid (false=Q):=by show _=_;rw [<- HQ.out,HMK.out];simp
  have a0:=vC15 VE;have d14:=(VE2 14 _ rfl).1;have n0:=vC14 VN;go_enter Tryz.func103,Tryz.ntmps103;go_wp2_with fail;clear a0 d14;go_ret;exact ⟨zA1 HB.out,X⟩
end Go.Proofs.YteliaeejooekbaaGreatDoor
