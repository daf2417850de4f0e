import Derived.Test.YteliaeejooekbaaGreatDoorMg19
import Derived.Test.YteliaeejooekbaaGreatDoorMg13
set_option maxRecDepth 8000
set_option maxHeartbeats 2000000
namespace Go.Proofs.YteliaeejooekbaaGreatDoor
open Go.RowKit
theorem zPH (t:List UInt8) (neg:Bool) (d:Int) (x:Int) (r:Int) (c:Int) (rf:Bool) (cf:Bool) (r2:Int) (c2:Int) (rf2:Bool) (cf2:Bool) (m:Int) (p:Option Addr) (kk cap:Nat) (many:Bool) (w:World) (hl:t.length<=1048576) :
  Calls Tryz.prog 103 #[exV 11 t neg d x r c rf cf r2 c2 rf2 cf2 m (.slice p kk cap),.bool many] w fun e w'=>e=.returned (.bool (decide (m=(kk:Int)) && (zAB neg d x && zA4 r c rf cf && zA4 r2 c2 rf2 cf2) && (decide (kk<=30) && (zCC t && (t.map upC == t)))))/\Ext w w':=by
 obtain ⟨Q,hQ⟩:=nm ((decide (m=(kk:Int)) && (zAB neg d x && zA4 r c rf cf && zA4 r2 c2 rf2 cf2) && (decide (kk<=30) && (zCC t && (t.map upC == t)))));have HQ:Hid _:=hQ;rw [hQ];clear hQ;have HLT:Hid _:=hl;obtain ⟨wa,ha,X1,VE,-⟩:=zAD w [iQ 11,sV t,.bool neg,iQ d,iQ x,iQ r,iQ c,.bool rf,.bool cf,iQ r2,iQ c2,.bool rf2,.bool cf2,iQ m,.slice p kk cap] 77;obtain ⟨wb,hb,X2,VN,-⟩:=zAD wa [iQ 11,sV t,.bool neg,iQ d,iQ x,iQ r,iQ c,.bool rf,.bool cf,iQ r2,iQ c2,.bool rf2,.bool cf2,iQ m] 73;have sa:wa.heap.size=w.heap.size+1:=by rw [<- ha,World.size_alloc]
 rw [sa] at VN;have VE2:=VE.l X2;have X:=xt X1 X2;clear X1 X2;by_cases q:m=(kk:Int)
 ·have HMK:Hid (decide (m=(kk:Int))=true):=decide_eq_true q;have gMK:(m != (kk:Int))=false:=by simp [q]
  clear q;cases hBA:(zAB neg d x && zA4 r c rf cf && zA4 r2 c2 rf2 cf2)
  ·have HB:Hid (false=Q):=by show _=_;rw [<- HQ.out,HMK.out,hBA];simp
   have a0:=vC15 VE;have d14:=(VE2 14 _ rfl).1;have n0:=vC14 VN;go_enter Tryz.func103,Tryz.ntmps103;go_wp2_with fail;clear a0 d14;refine (zAY _ _ _ _ _ _ _ _ _ _ _ _ _ _ _).mono ?_;rintro e w1 ⟨rfl,e1⟩;have V1:=VN.l e1;have Y1:=xt X e1;clear n0;rw [hBA];have b0:=vC14 V1;go_wp2_with fail;go_ret;exact ⟨zA1 HB.out,Y1⟩
  ·by_cases hkk:kk<=30
   ·have HKK:Hid (decide (kk<=30)=true):=decide_eq_true hkk;have gk:decide ((kk:Int)<=30)=true:=(by simp;omega);have gk2:(kk:Int)<=30:=(by omega);clear hkk;obtain ⟨u,hu⟩:=nm (t.map upC);have HU:Hid _:=hu;have CU:Hid (∀ W,Calls Tryz.prog 123 #[sV t] W fun e w'=>e=.returned (sV u)/\Ext W w'):=fun W=>(by rw [<- hu];exact zVD t W (by omega));clear hu;obtain ⟨nb,hnb⟩:=nm (zCC t);have HNB:Hid _:=hnb;have NS:Hid (∀ W,Calls Tryz.prog 122 #[sV t] W fun e w'=>e=.returned (.bool nb)/\Ext W w'):=fun W=>(by rw [<- hnb];exact zSK t W hl);clear hnb hl;cases nb
    ·have HB:Hid (false=Q):=(by show _=_;rw [<- HQ.out,HMK.out,hBA,HKK.out,HNB.out];simp);have a0:=vC15 VE;have d14:=(VE2 14 _ rfl).1;have n0:=vC14 VN;go_enter Tryz.func103,Tryz.ntmps103;go_wp2_with fail;clear a0 d14;refine (zAY _ _ _ _ _ _ _ _ _ _ _ _ _ _ _).mono ?_;rintro e w1 ⟨rfl,e1⟩;have V1:=VN.l e1;have Y1:=xt X e1;clear n0;rw [hBA];have b0:=vC14 V1;go_wp2_with fail;clear b0;refine zA3 (fun lx:Nat->Value=>{ tmps:=#[exV 11 t neg d x r c rf cf r2 c2 rf2 cf2 m (Value.slice p kk cap),Value.bool many,Value.pointer (some ⟨w.heap.size,0,none⟩),undef,lx 4,Value.pointer (some ⟨w.heap.size+1,0,none⟩),Value.int .i64 (kk:Int),undef,undef,undef,Value.pointer (some ⟨w.heap.size,0,none⟩),Value.agg #[Value.int .i64 11,sV t,Value.bool neg,Value.int .i64 d,Value.int .i64 x,Value.int .i64 r,Value.int .i64 c,Value.bool rf,Value.bool cf,Value.int .i64 r2,Value.int .i64 c2,Value.bool rf2,Value.bool cf2,Value.int .i64 m],Value.pointer (some ⟨w.heap.size,14,none⟩),Value.slice p kk cap,Value.int .i64 (kk:Int),Value.pointer (some ⟨w.heap.size+1,13,none⟩),Value.int .i64 m,Value.int .i64 (kk:Int),Value.bool false,Value.pointer (some ⟨w.heap.size+1,0,none⟩),Value.int .i64 11,Value.bool false,Value.bool false,undef,undef,undef,undef,undef,undef,undef,undef,undef,undef,undef,undef,undef,undef,undef,undef,undef,undef,undef,undef,undef,undef,undef,undef,undef,undef,undef,undef,undef,undef,Value.bool false,Value.bool false,undef,undef,undef,undef,undef,undef,undef,undef,undef,undef,undef,undef,undef,undef,undef,undef,undef,undef,undef,undef,undef,undef,undef,undef,Value.bool false,Value.bool false,undef,undef,undef,undef,undef,undef,undef,undef,undef,undef,undef,undef,undef,undef,undef,undef,undef,undef,undef,undef,undef,undef,undef,Value.agg #[Value.int .i64 11,sV t,Value.bool neg,Value.int .i64 d,Value.int .i64 x,Value.int .i64 r,Value.int .i64 c,Value.bool rf,Value.bool cf,Value.int .i64 r2,Value.int .i64 c2,Value.bool rf2,Value.bool cf2,Value.int .i64 m],Value.bool true,Value.bool false,Value.pointer (some ⟨w.heap.size+1,0,none⟩),Value.int .i64 11,Value.bool false,Value.bool false,undef,undef,undef,undef,undef,undef,undef,Value.bool false,Value.bool false,undef,undef,undef,undef,undef,undef,undef,undef,undef,undef,undef,undef,Value.bool false,Value.bool false,undef,undef,undef,undef,undef,undef,undef,undef,Value.bool false,Value.bool false,undef,undef,undef,undef,undef,undef,undef,Value.bool false,Value.bool false,undef,undef,undef,undef,undef,undef,undef,undef,undef,undef,Value.bool false,Value.bool false,Value.bool false,undef,undef,undef,undef,undef,undef,undef,Value.bool false,Value.bool false,undef,undef,undef,undef,undef,undef,undef,undef,Value.bool true,Value.bool true,lx 185,lx 186,lx 187,lx 188,lx 189,lx 190,lx 191,lx 192,lx 193,lx 194,lx 195,lx 196,lx 197,lx 198,lx 199,undef,undef,undef,undef,undef,undef,undef,undef,undef,undef,undef,undef,undef,undef,undef,undef,undef,undef,undef,undef,undef,undef,undef,undef,undef,undef,undef,undef,undef,undef,undef,undef,undef,undef,undef,undef,undef,undef,undef,undef,undef,undef,undef],defers:=[] }) (fun L lx lw=>Hid (Ext w1 lw/\(L 0=true->lx 185=iQ (kk:Int))/\(L 1=true->lx 186=.bool true)/\(L 2=true->lx 187=.bool true)/\(L 3=true->lx 188=.pointer (some ⟨w.heap.size+1,1,none⟩))/\(L 4=true->lx 189=sV t)/\(L 5=true->lx 190=.bool false)/\(L 6=true->lx 191=.bool false)/\(L 7=true->lx 192=.bool false)/\(L 8=true->lx 193=undef)/\(L 9=true->lx 194=undef)/\(L 10=true->lx 195=undef)/\(L 11=true->lx 196=undef)/\(L 12=true->lx 197=undef)/\(L 13=true->lx 198=undef)/\(L 14=true->lx 199=.bool false)/\(L 15=true->lx 4=.bool false))) rfl (by kernel_rfl) (fun jj=>if jj=4 then Value.bool false else undef) rfl ?_ ?_ ?_
     ·exact ⟨xd (xr _),(fun h=>by cases h),(fun h=>by cases h),(fun h=>by cases h),(fun h=>by cases h),(fun h=>by cases h),(fun h=>by cases h),(fun h=>by cases h),(fun h=>by cases h),(fun h=>by cases h),(fun h=>by cases h),(fun h=>by cases h),(fun h=>by cases h),(fun h=>by cases h),(fun h=>by cases h),(fun h=>by cases h),(fun h=>by cases h)⟩
     ·intro L lx lw ix o K hK ho hL haf hI hcl;obtain ⟨E,f0,f1,f2,f3,f4,f5,f6,f7,f8,f9,f10,f11,f12,f13,f14,f15⟩:=hI.out
      match ix,ho,hL,haf,hK with
      | 0,ho,hL,haf,hK =>
       cases ho
       (try dsimp only)
       refine Eq.mpr (if_pos (by rfl)) ?_;go_wp2_with fail;exact hK (fun jj=>if jj=185 then iQ (kk:Int) else lx jj) _ ⟨E,(fun _=>rfl),f1,f2,f3,f4,f5,f6,f7,f8,f9,f10,f11,f12,f13,f14,f15⟩
      | 1,ho,hL,haf,hK =>
       cases ho
       (try dsimp only)
       rw [f0 (haf ⟨0,.data⟩ (by simp) rfl)];refine Eq.mpr (if_pos (by rfl)) ?_;go_wp2_with fail;exact hK (fun jj=>if jj=186 then .bool true else if jj=185 then iQ (kk:Int) else lx jj) _ ⟨E,(fun _=>rfl),(fun _=>rfl),f2,f3,f4,f5,f6,f7,f8,f9,f10,f11,f12,f13,f14,f15⟩
      | 2,ho,hL,haf,hK =>
       cases ho
       (try dsimp only)
       rw [f1 (haf ⟨1,.data⟩ (by simp) rfl)];refine Eq.mpr (if_pos (by rfl)) ?_;go_wp2_with fail;exact hK (fun jj=>if jj=187 then .bool true else if jj=186 then .bool true else lx jj) _ ⟨E,f0,(fun _=>rfl),(fun _=>rfl),f3,f4,f5,f6,f7,f8,f9,f10,f11,f12,f13,f14,f15⟩
      | 3,ho,hL,haf,hK =>
       cases ho
       (try dsimp only)
       rw [f2 (haf ⟨2,.guard⟩ (by simp) rfl)];refine Eq.mpr (if_pos (by rfl)) ?_;go_wp2_with fail;exact hK (fun jj=>if jj=188 then .pointer (some ⟨w.heap.size+1,1,none⟩) else if jj=187 then .bool true else lx jj) _ ⟨E,f0,f1,(fun _=>rfl),(fun _=>rfl),f4,f5,f6,f7,f8,f9,f10,f11,f12,f13,f14,f15⟩
      | 4,ho,hL,haf,hK =>
       cases ho
       (try dsimp only)
       rw [f2 (haf ⟨2,.guard⟩ (by simp) rfl),f3 (haf ⟨3,.data⟩ (by simp) rfl)];refine Eq.mpr (if_pos (by rfl)) ?_;have c1:=((V1.l E) 1 _ rfl).1;go_wp2_with fail;exact hK (fun jj=>if jj=189 then sV t else if jj=187 then .bool true else if jj=188 then .pointer (some ⟨w.heap.size+1,1,none⟩) else lx jj) _ ⟨E,f0,f1,(fun _=>rfl),(fun _=>rfl),(fun _=>rfl),f5,f6,f7,f8,f9,f10,f11,f12,f13,f14,f15⟩
      | 5,ho,hL,haf,hK =>
       cases ho
       (try dsimp only)
       rw [f2 (haf ⟨2,.guard⟩ (by simp) rfl),f4 (haf ⟨4,.data⟩ (by simp) rfl)];refine Eq.mpr (if_pos (by rfl)) ?_;go_wp2_with fail;refine (NS.out lw).mono ?_;rintro rr w' ⟨rfl,e'⟩;go_wp2_with fail;exact hK (fun jj=>if jj=190 then .bool false else if jj=187 then .bool true else if jj=189 then sV t else lx jj) _ ⟨(xt E e'),f0,f1,(fun _=>rfl),f3,(fun _=>rfl),(fun _=>rfl),f6,f7,f8,f9,f10,f11,f12,f13,f14,f15⟩
      | 6,ho,hL,haf,hK =>
       cases ho
       (try dsimp only)
       rw [f2 (haf ⟨2,.data⟩ (by simp) rfl),f5 (haf ⟨5,.data⟩ (by simp) rfl)];refine Eq.mpr (if_pos (by rfl)) ?_;go_wp2_with fail;exact hK (fun jj=>if jj=191 then .bool false else if jj=187 then .bool true else if jj=190 then .bool false else lx jj) _ ⟨E,f0,f1,(fun _=>rfl),f3,f4,(fun _=>rfl),(fun _=>rfl),f7,f8,f9,f10,f11,f12,f13,f14,f15⟩
      | 7,ho,hL,haf,hK =>
       cases ho
       (try dsimp only)
       rw [f6 (haf ⟨6,.data⟩ (by simp) rfl)];refine Eq.mpr (if_pos (by rfl)) ?_;go_wp2_with fail;exact hK (fun jj=>if jj=192 then .bool false else if jj=191 then .bool false else lx jj) _ ⟨E,f0,f1,f2,f3,f4,f5,(fun _=>rfl),(fun _=>rfl),f8,f9,f10,f11,f12,f13,f14,f15⟩
      | 8,ho,hL,haf,hK =>
       cases ho
       (try dsimp only)
       rw [f7 (haf ⟨7,.guard⟩ (by simp) rfl)];refine Eq.mpr (if_neg (fun h=>Bool.noConfusion (show false=true from h))) ?_;exact hK (fun jj=>if jj=193 then undef else if jj=192 then .bool false else lx jj) _ ⟨E,f0,f1,f2,f3,f4,f5,f6,(fun _=>rfl),(fun _=>rfl),f9,f10,f11,f12,f13,f14,f15⟩
      | 9,ho,hL,haf,hK =>
       cases ho
       (try dsimp only)
       rw [f7 (haf ⟨7,.guard⟩ (by simp) rfl)];refine Eq.mpr (if_neg (fun h=>Bool.noConfusion (show false=true from h))) ?_;exact hK (fun jj=>if jj=194 then undef else if jj=192 then .bool false else lx jj) _ ⟨E,f0,f1,f2,f3,f4,f5,f6,(fun _=>rfl),f8,(fun _=>rfl),f10,f11,f12,f13,f14,f15⟩
      | 10,ho,hL,haf,hK =>
       cases ho
       (try dsimp only)
       rw [f7 (haf ⟨7,.guard⟩ (by simp) rfl)];refine Eq.mpr (if_neg (fun h=>Bool.noConfusion (show false=true from h))) ?_;exact hK (fun jj=>if jj=195 then undef else if jj=192 then .bool false else lx jj) _ ⟨E,f0,f1,f2,f3,f4,f5,f6,(fun _=>rfl),f8,f9,(fun _=>rfl),f11,f12,f13,f14,f15⟩
      | 11,ho,hL,haf,hK =>
       cases ho
       (try dsimp only)
       rw [f7 (haf ⟨7,.guard⟩ (by simp) rfl)];refine Eq.mpr (if_neg (fun h=>Bool.noConfusion (show false=true from h))) ?_;exact hK (fun jj=>if jj=196 then undef else if jj=192 then .bool false else lx jj) _ ⟨E,f0,f1,f2,f3,f4,f5,f6,(fun _=>rfl),f8,f9,f10,(fun _=>rfl),f12,f13,f14,f15⟩
      | 12,ho,hL,haf,hK =>
       cases ho
       (try dsimp only)
       rw [f7 (haf ⟨7,.guard⟩ (by simp) rfl)];refine Eq.mpr (if_neg (fun h=>Bool.noConfusion (show false=true from h))) ?_;exact hK (fun jj=>if jj=197 then undef else if jj=192 then .bool false else lx jj) _ ⟨E,f0,f1,f2,f3,f4,f5,f6,(fun _=>rfl),f8,f9,f10,f11,(fun _=>rfl),f13,f14,f15⟩
      | 13,ho,hL,haf,hK =>
       cases ho
       (try dsimp only)
       rw [f7 (haf ⟨7,.guard⟩ (by simp) rfl)];refine Eq.mpr (if_neg (fun h=>Bool.noConfusion (show false=true from h))) ?_;exact hK (fun jj=>if jj=198 then undef else if jj=192 then .bool false else lx jj) _ ⟨E,f0,f1,f2,f3,f4,f5,f6,(fun _=>rfl),f8,f9,f10,f11,f12,(fun _=>rfl),f14,f15⟩
      | 14,ho,hL,haf,hK =>
       cases ho
       (try dsimp only)
       rw [f7 (haf ⟨7,.data⟩ (by simp) rfl),f13 (haf ⟨13,.data⟩ (by simp) rfl)];refine Eq.mpr (if_pos (by rfl)) ?_;go_wp2_with fail;exact hK (fun jj=>if jj=199 then .bool false else if jj=192 then .bool false else if jj=198 then undef else lx jj) _ ⟨E,f0,f1,f2,f3,f4,f5,f6,(fun _=>rfl),f8,f9,f10,f11,f12,(fun _=>rfl),(fun _=>rfl),f15⟩
      | 15,ho,hL,haf,hK =>
       cases ho
       (try dsimp only)
       rw [f14 (haf ⟨14,.data⟩ (by simp) rfl)];refine Eq.mpr (if_pos (by rfl)) ?_;go_wp2_with fail;exact hK (fun jj=>if jj=4 then .bool false else if jj=199 then .bool false else lx jj) _ ⟨E,f0,f1,f2,f3,f4,f5,f6,f7,f8,f9,f10,f11,f12,f13,(fun _=>rfl),(fun _=>rfl)⟩
      | k+16,ho,_,_,_=>simp at ho
     ·intro L lx w9 hall hI;obtain ⟨E,f0,f1,f2,f3,f4,f5,f6,f7,f8,f9,f10,f11,f12,f13,f14,f15⟩:=hI.out
      (try dsimp only)
      rw [f15 (hall 15 (by simp)),f0 (hall 0 (by simp)),f1 (hall 1 (by simp)),f2 (hall 2 (by simp)),f3 (hall 3 (by simp)),f4 (hall 4 (by simp)),f5 (hall 5 (by simp)),f6 (hall 6 (by simp)),f7 (hall 7 (by simp)),f8 (hall 8 (by simp)),f9 (hall 9 (by simp)),f10 (hall 10 (by simp)),f11 (hall 11 (by simp)),f12 (hall 12 (by simp)),f13 (hall 13 (by simp)),f14 (hall 14 (by simp))];clear hI hall f0 f1 f2 f3 f4 f5 f6 f7 f8 f9 f10 f11 f12 f13 f14 f15;go_wp2_with fail;go_ret;exact ⟨zA1 HB.out,xt Y1 E⟩
    ·have HB:Hid ((u == t)=Q):=(by show _=_;rw [<- HQ.out,HMK.out,hBA,HKK.out,HNB.out];simp [HU.out]);have a0:=vC15 VE;have d14:=(VE2 14 _ rfl).1;have n0:=vC14 VN;go_enter Tryz.func103,Tryz.ntmps103;go_wp2_with fail;clear a0 d14;refine (zAY _ _ _ _ _ _ _ _ _ _ _ _ _ _ _).mono ?_;rintro e w1 ⟨rfl,e1⟩;have V1:=VN.l e1;have Y1:=xt X e1;clear n0;rw [hBA];have b0:=vC14 V1;go_wp2_with fail;clear b0;refine zA3 (fun lx:Nat->Value=>{ tmps:=#[exV 11 t neg d x r c rf cf r2 c2 rf2 cf2 m (Value.slice p kk cap),Value.bool many,Value.pointer (some ⟨w.heap.size,0,none⟩),undef,lx 4,Value.pointer (some ⟨w.heap.size+1,0,none⟩),Value.int .i64 (kk:Int),undef,undef,undef,Value.pointer (some ⟨w.heap.size,0,none⟩),Value.agg #[Value.int .i64 11,sV t,Value.bool neg,Value.int .i64 d,Value.int .i64 x,Value.int .i64 r,Value.int .i64 c,Value.bool rf,Value.bool cf,Value.int .i64 r2,Value.int .i64 c2,Value.bool rf2,Value.bool cf2,Value.int .i64 m],Value.pointer (some ⟨w.heap.size,14,none⟩),Value.slice p kk cap,Value.int .i64 (kk:Int),Value.pointer (some ⟨w.heap.size+1,13,none⟩),Value.int .i64 m,Value.int .i64 (kk:Int),Value.bool false,Value.pointer (some ⟨w.heap.size+1,0,none⟩),Value.int .i64 11,Value.bool false,Value.bool false,undef,undef,undef,undef,undef,undef,undef,undef,undef,undef,undef,undef,undef,undef,undef,undef,undef,undef,undef,undef,undef,undef,undef,undef,undef,undef,undef,undef,undef,undef,Value.bool false,Value.bool false,undef,undef,undef,undef,undef,undef,undef,undef,undef,undef,undef,undef,undef,undef,undef,undef,undef,undef,undef,undef,undef,undef,undef,undef,Value.bool false,Value.bool false,undef,undef,undef,undef,undef,undef,undef,undef,undef,undef,undef,undef,undef,undef,undef,undef,undef,undef,undef,undef,undef,undef,undef,Value.agg #[Value.int .i64 11,sV t,Value.bool neg,Value.int .i64 d,Value.int .i64 x,Value.int .i64 r,Value.int .i64 c,Value.bool rf,Value.bool cf,Value.int .i64 r2,Value.int .i64 c2,Value.bool rf2,Value.bool cf2,Value.int .i64 m],Value.bool true,Value.bool false,Value.pointer (some ⟨w.heap.size+1,0,none⟩),Value.int .i64 11,Value.bool false,Value.bool false,undef,undef,undef,undef,undef,undef,undef,Value.bool false,Value.bool false,undef,undef,undef,undef,undef,undef,undef,undef,undef,undef,undef,undef,Value.bool false,Value.bool false,undef,undef,undef,undef,undef,undef,undef,undef,Value.bool false,Value.bool false,undef,undef,undef,undef,undef,undef,undef,Value.bool false,Value.bool false,undef,undef,undef,undef,undef,undef,undef,undef,undef,undef,Value.bool false,Value.bool false,Value.bool false,undef,undef,undef,undef,undef,undef,undef,Value.bool false,Value.bool false,undef,undef,undef,undef,undef,undef,undef,undef,Value.bool true,Value.bool true,lx 185,lx 186,lx 187,lx 188,lx 189,lx 190,lx 191,lx 192,lx 193,lx 194,lx 195,lx 196,lx 197,lx 198,lx 199,undef,undef,undef,undef,undef,undef,undef,undef,undef,undef,undef,undef,undef,undef,undef,undef,undef,undef,undef,undef,undef,undef,undef,undef,undef,undef,undef,undef,undef,undef,undef,undef,undef,undef,undef,undef,undef,undef,undef,undef,undef,undef,undef],defers:=[] }) (fun L lx lw=>Hid (Ext w1 lw/\(L 0=true->lx 185=iQ (kk:Int))/\(L 1=true->lx 186=.bool true)/\(L 2=true->lx 187=.bool true)/\(L 3=true->lx 188=.pointer (some ⟨w.heap.size+1,1,none⟩))/\(L 4=true->lx 189=sV t)/\(L 5=true->lx 190=.bool true)/\(L 6=true->lx 191=.bool true)/\(L 7=true->lx 192=.bool true)/\(L 8=true->lx 193=.pointer (some ⟨w.heap.size+1,1,none⟩))/\(L 9=true->lx 194=sV t)/\(L 10=true->lx 195=sV u)/\(L 11=true->lx 196=.pointer (some ⟨w.heap.size+1,1,none⟩))/\(L 12=true->lx 197=sV t)/\(L 13=true->lx 198=.bool (u == t))/\(L 14=true->lx 199=.bool (u == t))/\(L 15=true->lx 4=.bool (u == t)))) rfl (by kernel_rfl) (fun jj=>if jj=4 then Value.bool false else undef) rfl ?_ ?_ ?_
     ·exact ⟨xd (xr _),(fun h=>by cases h),(fun h=>by cases h),(fun h=>by cases h),(fun h=>by cases h),(fun h=>by cases h),(fun h=>by cases h),(fun h=>by cases h),(fun h=>by cases h),(fun h=>by cases h),(fun h=>by cases h),(fun h=>by cases h),(fun h=>by cases h),(fun h=>by cases h),(fun h=>by cases h),(fun h=>by cases h),(fun h=>by cases h)⟩
     ·intro L lx lw ix o K hK ho hL haf hI hcl;obtain ⟨E,f0,f1,f2,f3,f4,f5,f6,f7,f8,f9,f10,f11,f12,f13,f14,f15⟩:=hI.out
      match ix,ho,hL,haf,hK with
      | 0,ho,hL,haf,hK =>
       cases ho
       (try dsimp only)
       refine Eq.mpr (if_pos (by rfl)) ?_;go_wp2_with fail;exact hK (fun jj=>if jj=185 then iQ (kk:Int) else lx jj) _ ⟨E,(fun _=>rfl),f1,f2,f3,f4,f5,f6,f7,f8,f9,f10,f11,f12,f13,f14,f15⟩
      | 1,ho,hL,haf,hK =>
       cases ho
       (try dsimp only)
       rw [f0 (haf ⟨0,.data⟩ (by simp) rfl)];refine Eq.mpr (if_pos (by rfl)) ?_;go_wp2_with fail;exact hK (fun jj=>if jj=186 then .bool true else if jj=185 then iQ (kk:Int) else lx jj) _ ⟨E,(fun _=>rfl),(fun _=>rfl),f2,f3,f4,f5,f6,f7,f8,f9,f10,f11,f12,f13,f14,f15⟩
      | 2,ho,hL,haf,hK =>
       cases ho
       (try dsimp only)
       rw [f1 (haf ⟨1,.data⟩ (by simp) rfl)];refine Eq.mpr (if_pos (by rfl)) ?_;go_wp2_with fail;exact hK (fun jj=>if jj=187 then .bool true else if jj=186 then .bool true else lx jj) _ ⟨E,f0,(fun _=>rfl),(fun _=>rfl),f3,f4,f5,f6,f7,f8,f9,f10,f11,f12,f13,f14,f15⟩
      | 3,ho,hL,haf,hK =>
       cases ho
       (try dsimp only)
       rw [f2 (haf ⟨2,.guard⟩ (by simp) rfl)];refine Eq.mpr (if_pos (by rfl)) ?_;go_wp2_with fail;exact hK (fun jj=>if jj=188 then .pointer (some ⟨w.heap.size+1,1,none⟩) else if jj=187 then .bool true else lx jj) _ ⟨E,f0,f1,(fun _=>rfl),(fun _=>rfl),f4,f5,f6,f7,f8,f9,f10,f11,f12,f13,f14,f15⟩
      | 4,ho,hL,haf,hK =>
       cases ho
       (try dsimp only)
       rw [f2 (haf ⟨2,.guard⟩ (by simp) rfl),f3 (haf ⟨3,.data⟩ (by simp) rfl)];refine Eq.mpr (if_pos (by rfl)) ?_;have c1:=((V1.l E) 1 _ rfl).1;go_wp2_with fail;exact hK (fun jj=>if jj=189 then sV t else if jj=187 then .bool true else if jj=188 then .pointer (some ⟨w.heap.size+1,1,none⟩) else lx jj) _ ⟨E,f0,f1,(fun _=>rfl),(fun _=>rfl),(fun _=>rfl),f5,f6,f7,f8,f9,f10,f11,f12,f13,f14,f15⟩
      | 5,ho,hL,haf,hK =>
       cases ho
       (try dsimp only)
       rw [f2 (haf ⟨2,.guard⟩ (by simp) rfl),f4 (haf ⟨4,.data⟩ (by simp) rfl)];refine Eq.mpr (if_pos (by rfl)) ?_;go_wp2_with fail;refine (NS.out lw).mono ?_;rintro rr w' ⟨rfl,e'⟩;go_wp2_with fail;exact hK (fun jj=>if jj=190 then .bool true else if jj=187 then .bool true else if jj=189 then sV t else lx jj) _ ⟨(xt E e'),f0,f1,(fun _=>rfl),f3,(fun _=>rfl),(fun _=>rfl),f6,f7,f8,f9,f10,f11,f12,f13,f14,f15⟩
      | 6,ho,hL,haf,hK =>
       cases ho
       (try dsimp only)
       rw [f2 (haf ⟨2,.data⟩ (by simp) rfl),f5 (haf ⟨5,.data⟩ (by simp) rfl)];refine Eq.mpr (if_pos (by rfl)) ?_;go_wp2_with fail;exact hK (fun jj=>if jj=191 then .bool true else if jj=187 then .bool true else if jj=190 then .bool true else lx jj) _ ⟨E,f0,f1,(fun _=>rfl),f3,f4,(fun _=>rfl),(fun _=>rfl),f7,f8,f9,f10,f11,f12,f13,f14,f15⟩
      | 7,ho,hL,haf,hK =>
       cases ho
       (try dsimp only)
       rw [f6 (haf ⟨6,.data⟩ (by simp) rfl)];refine Eq.mpr (if_pos (by rfl)) ?_;go_wp2_with fail;exact hK (fun jj=>if jj=192 then .bool true else if jj=191 then .bool true else lx jj) _ ⟨E,f0,f1,f2,f3,f4,f5,(fun _=>rfl),(fun _=>rfl),f8,f9,f10,f11,f12,f13,f14,f15⟩
      | 8,ho,hL,haf,hK =>
       cases ho
       (try dsimp only)
       rw [f7 (haf ⟨7,.guard⟩ (by simp) rfl)];refine Eq.mpr (if_pos (by rfl)) ?_;go_wp2_with fail;exact hK (fun jj=>if jj=193 then .pointer (some ⟨w.heap.size+1,1,none⟩) else if jj=192 then .bool true else lx jj) _ ⟨E,f0,f1,f2,f3,f4,f5,f6,(fun _=>rfl),(fun _=>rfl),f9,f10,f11,f12,f13,f14,f15⟩
      | 9,ho,hL,haf,hK =>
       cases ho
       (try dsimp only)
       rw [f7 (haf ⟨7,.guard⟩ (by simp) rfl),f8 (haf ⟨8,.data⟩ (by simp) rfl)];refine Eq.mpr (if_pos (by rfl)) ?_;have c1:=((V1.l E) 1 _ rfl).1;go_wp2_with fail;exact hK (fun jj=>if jj=194 then sV t else if jj=192 then .bool true else if jj=193 then .pointer (some ⟨w.heap.size+1,1,none⟩) else lx jj) _ ⟨E,f0,f1,f2,f3,f4,f5,f6,(fun _=>rfl),(fun _=>rfl),(fun _=>rfl),f10,f11,f12,f13,f14,f15⟩
      | 10,ho,hL,haf,hK =>
       cases ho
       (try dsimp only)
       rw [f7 (haf ⟨7,.guard⟩ (by simp) rfl),f9 (haf ⟨9,.data⟩ (by simp) rfl)];refine Eq.mpr (if_pos (by rfl)) ?_;go_wp2_with fail;refine (CU.out lw).mono ?_;rintro rr w' ⟨rfl,e'⟩;go_wp2_with fail;exact hK (fun jj=>if jj=195 then sV u else if jj=192 then .bool true else if jj=194 then sV t else lx jj) _ ⟨(xt E e'),f0,f1,f2,f3,f4,f5,f6,(fun _=>rfl),f8,(fun _=>rfl),(fun _=>rfl),f11,f12,f13,f14,f15⟩
      | 11,ho,hL,haf,hK =>
       cases ho
       (try dsimp only)
       rw [f7 (haf ⟨7,.guard⟩ (by simp) rfl)];refine Eq.mpr (if_pos (by rfl)) ?_;go_wp2_with fail;exact hK (fun jj=>if jj=196 then .pointer (some ⟨w.heap.size+1,1,none⟩) else if jj=192 then .bool true else lx jj) _ ⟨E,f0,f1,f2,f3,f4,f5,f6,(fun _=>rfl),f8,f9,f10,(fun _=>rfl),f12,f13,f14,f15⟩
      | 12,ho,hL,haf,hK =>
       cases ho
       (try dsimp only)
       rw [f7 (haf ⟨7,.guard⟩ (by simp) rfl),f11 (haf ⟨11,.data⟩ (by simp) rfl)];refine Eq.mpr (if_pos (by rfl)) ?_;have c1:=((V1.l E) 1 _ rfl).1;go_wp2_with fail;exact hK (fun jj=>if jj=197 then sV t else if jj=192 then .bool true else if jj=196 then .pointer (some ⟨w.heap.size+1,1,none⟩) else lx jj) _ ⟨E,f0,f1,f2,f3,f4,f5,f6,(fun _=>rfl),f8,f9,f10,(fun _=>rfl),(fun _=>rfl),f13,f14,f15⟩
      | 13,ho,hL,haf,hK =>
       cases ho
       (try dsimp only)
       rw [f7 (haf ⟨7,.guard⟩ (by simp) rfl),f10 (haf ⟨10,.data⟩ (by simp) rfl),f12 (haf ⟨12,.data⟩ (by simp) rfl)];refine Eq.mpr (if_pos (by rfl)) ?_;go_wp2_with fail;exact hK (fun jj=>if jj=198 then .bool (u == t) else if jj=192 then .bool true else if jj=195 then sV u else if jj=197 then sV t else lx jj) _ ⟨E,f0,f1,f2,f3,f4,f5,f6,(fun _=>rfl),f8,f9,(fun _=>rfl),f11,(fun _=>rfl),(fun _=>rfl),f14,f15⟩
      | 14,ho,hL,haf,hK =>
       cases ho
       (try dsimp only)
       rw [f7 (haf ⟨7,.data⟩ (by simp) rfl),f13 (haf ⟨13,.data⟩ (by simp) rfl)];refine Eq.mpr (if_pos (by rfl)) ?_;go_wp2_with fail;exact hK (fun jj=>if jj=199 then .bool (u == t) else if jj=192 then .bool true else if jj=198 then .bool (u == t) else lx jj) _ ⟨E,f0,f1,f2,f3,f4,f5,f6,(fun _=>rfl),f8,f9,f10,f11,f12,(fun _=>rfl),(fun _=>rfl),f15⟩
      | 15,ho,hL,haf,hK =>
       cases ho
       (try dsimp only)
       rw [f14 (haf ⟨14,.data⟩ (by simp) rfl)];refine Eq.mpr (if_pos (by rfl)) ?_;go_wp2_with fail;exact hK (fun jj=>if jj=4 then .bool (u == t) else if jj=199 then .bool (u == t) else lx jj) _ ⟨E,f0,f1,f2,f3,f4,f5,f6,f7,f8,f9,f10,f11,f12,f13,(fun _=>rfl),(fun _=>rfl)⟩
      | k+16,ho,_,_,_=>simp at ho
     ·intro L lx w9 hall hI;obtain ⟨E,f0,f1,f2,f3,f4,f5,f6,f7,f8,f9,f10,f11,f12,f13,f14,f15⟩:=hI.out
      (try dsimp only)
      rw [f15 (hall 15 (by simp)),f0 (hall 0 (by simp)),f1 (hall 1 (by simp)),f2 (hall 2 (by simp)),f3 (hall 3 (by simp)),f4 (hall 4 (by simp)),f5 (hall 5 (by simp)),f6 (hall 6 (by simp)),f7 (hall 7 (by simp)),f8 (hall 8 (by simp)),f9 (hall 9 (by simp)),f10 (hall 10 (by simp)),f11 (hall 11 (by simp)),f12 (hall 12 (by simp)),f13 (hall 13 (by simp)),f14 (hall 14 (by simp))];clear hI hall f0 f1 f2 f3 f4 f5 f6 f7 f8 f9 f10 f11 f12 f13 f14 f15;go_wp2_with fail;go_ret;exact ⟨zA1 HB.out,xt Y1 E⟩
   ·have HKK:Hid (decide (kk<=30)=false):=decide_eq_false hkk;have gk:decide ((kk:Int)<=30)=false:=(by simp;omega);have gk2:¬ (kk:Int)<=30:=(by omega);clear hkk;have HB:Hid (false=Q):=(by show _=_;rw [<- HQ.out,HMK.out,hBA,HKK.out];simp);have a0:=vC15 VE;have d14:=(VE2 14 _ rfl).1;have n0:=vC14 VN;go_enter Tryz.func103,Tryz.ntmps103;go_wp2_with fail;clear a0 d14;refine (zAY _ _ _ _ _ _ _ _ _ _ _ _ _ _ _).mono ?_;rintro e w1 ⟨rfl,e1⟩;have V1:=VN.l e1;have Y1:=xt X e1;clear n0;rw [hBA];have b0:=vC14 V1;go_wp2_with fail;clear b0;refine zA3 (fun lx:Nat->Value=>{ tmps:=#[exV 11 t neg d x r c rf cf r2 c2 rf2 cf2 m (Value.slice p kk cap),Value.bool many,Value.pointer (some ⟨w.heap.size,0,none⟩),undef,lx 4,Value.pointer (some ⟨w.heap.size+1,0,none⟩),Value.int .i64 (kk:Int),undef,undef,undef,Value.pointer (some ⟨w.heap.size,0,none⟩),Value.agg #[Value.int .i64 11,sV t,Value.bool neg,Value.int .i64 d,Value.int .i64 x,Value.int .i64 r,Value.int .i64 c,Value.bool rf,Value.bool cf,Value.int .i64 r2,Value.int .i64 c2,Value.bool rf2,Value.bool cf2,Value.int .i64 m],Value.pointer (some ⟨w.heap.size,14,none⟩),Value.slice p kk cap,Value.int .i64 (kk:Int),Value.pointer (some ⟨w.heap.size+1,13,none⟩),Value.int .i64 m,Value.int .i64 (kk:Int),Value.bool false,Value.pointer (some ⟨w.heap.size+1,0,none⟩),Value.int .i64 11,Value.bool false,Value.bool false,undef,undef,undef,undef,undef,undef,undef,undef,undef,undef,undef,undef,undef,undef,undef,undef,undef,undef,undef,undef,undef,undef,undef,undef,undef,undef,undef,undef,undef,undef,Value.bool false,Value.bool false,undef,undef,undef,undef,undef,undef,undef,undef,undef,undef,undef,undef,undef,undef,undef,undef,undef,undef,undef,undef,undef,undef,undef,undef,Value.bool false,Value.bool false,undef,undef,undef,undef,undef,undef,undef,undef,undef,undef,undef,undef,undef,undef,undef,undef,undef,undef,undef,undef,undef,undef,undef,Value.agg #[Value.int .i64 11,sV t,Value.bool neg,Value.int .i64 d,Value.int .i64 x,Value.int .i64 r,Value.int .i64 c,Value.bool rf,Value.bool cf,Value.int .i64 r2,Value.int .i64 c2,Value.bool rf2,Value.bool cf2,Value.int .i64 m],Value.bool true,Value.bool false,Value.pointer (some ⟨w.heap.size+1,0,none⟩),Value.int .i64 11,Value.bool false,Value.bool false,undef,undef,undef,undef,undef,undef,undef,Value.bool false,Value.bool false,undef,undef,undef,undef,undef,undef,undef,undef,undef,undef,undef,undef,Value.bool false,Value.bool false,undef,undef,undef,undef,undef,undef,undef,undef,Value.bool false,Value.bool false,undef,undef,undef,undef,undef,undef,undef,Value.bool false,Value.bool false,undef,undef,undef,undef,undef,undef,undef,undef,undef,undef,Value.bool false,Value.bool false,Value.bool false,undef,undef,undef,undef,undef,undef,undef,Value.bool false,Value.bool false,undef,undef,undef,undef,undef,undef,undef,undef,Value.bool true,Value.bool true,lx 185,lx 186,lx 187,lx 188,lx 189,lx 190,lx 191,lx 192,lx 193,lx 194,lx 195,lx 196,lx 197,lx 198,lx 199,undef,undef,undef,undef,undef,undef,undef,undef,undef,undef,undef,undef,undef,undef,undef,undef,undef,undef,undef,undef,undef,undef,undef,undef,undef,undef,undef,undef,undef,undef,undef,undef,undef,undef,undef,undef,undef,undef,undef,undef,undef,undef,undef],defers:=[] }) (fun L lx lw=>Hid (Ext w1 lw/\(L 0=true->lx 185=iQ (kk:Int))/\(L 1=true->lx 186=.bool false)/\(L 2=true->lx 187=.bool false)/\(L 3=true->lx 188=undef)/\(L 4=true->lx 189=undef)/\(L 5=true->lx 190=undef)/\(L 6=true->lx 191=.bool false)/\(L 7=true->lx 192=.bool false)/\(L 8=true->lx 193=undef)/\(L 9=true->lx 194=undef)/\(L 10=true->lx 195=undef)/\(L 11=true->lx 196=undef)/\(L 12=true->lx 197=undef)/\(L 13=true->lx 198=undef)/\(L 14=true->lx 199=.bool false)/\(L 15=true->lx 4=.bool false))) rfl (by kernel_rfl) (fun jj=>if jj=4 then Value.bool false else undef) rfl ?_ ?_ ?_
    ·exact ⟨xd (xr _),(fun h=>by cases h),(fun h=>by cases h),(fun h=>by cases h),(fun h=>by cases h),(fun h=>by cases h),(fun h=>by cases h),(fun h=>by cases h),(fun h=>by cases h),(fun h=>by cases h),(fun h=>by cases h),(fun h=>by cases h),(fun h=>by cases h),(fun h=>by cases h),(fun h=>by cases h),(fun h=>by cases h),(fun h=>by cases h)⟩
    ·intro L lx lw ix o K hK ho hL haf hI hcl;obtain ⟨E,f0,f1,f2,f3,f4,f5,f6,f7,f8,f9,f10,f11,f12,f13,f14,f15⟩:=hI.out
     match ix,ho,hL,haf,hK with
     | 0,ho,hL,haf,hK =>
      cases ho
      (try dsimp only)
      refine Eq.mpr (if_pos (by rfl)) ?_;go_wp2_with fail;exact hK (fun jj=>if jj=185 then iQ (kk:Int) else lx jj) _ ⟨E,(fun _=>rfl),f1,f2,f3,f4,f5,f6,f7,f8,f9,f10,f11,f12,f13,f14,f15⟩
     | 1,ho,hL,haf,hK =>
      cases ho
      (try dsimp only)
      rw [f0 (haf ⟨0,.data⟩ (by simp) rfl)];refine Eq.mpr (if_pos (by rfl)) ?_;go_wp2_with fail;exact hK (fun jj=>if jj=186 then .bool false else if jj=185 then iQ (kk:Int) else lx jj) _ ⟨E,(fun _=>rfl),(fun _=>rfl),f2,f3,f4,f5,f6,f7,f8,f9,f10,f11,f12,f13,f14,f15⟩
     | 2,ho,hL,haf,hK =>
      cases ho
      (try dsimp only)
      rw [f1 (haf ⟨1,.data⟩ (by simp) rfl)];refine Eq.mpr (if_pos (by rfl)) ?_;go_wp2_with fail;exact hK (fun jj=>if jj=187 then .bool false else if jj=186 then .bool false else lx jj) _ ⟨E,f0,(fun _=>rfl),(fun _=>rfl),f3,f4,f5,f6,f7,f8,f9,f10,f11,f12,f13,f14,f15⟩
     | 3,ho,hL,haf,hK =>
      cases ho
      (try dsimp only)
      rw [f2 (haf ⟨2,.guard⟩ (by simp) rfl)];refine Eq.mpr (if_neg (fun h=>Bool.noConfusion (show false=true from h))) ?_;exact hK (fun jj=>if jj=188 then undef else if jj=187 then .bool false else lx jj) _ ⟨E,f0,f1,(fun _=>rfl),(fun _=>rfl),f4,f5,f6,f7,f8,f9,f10,f11,f12,f13,f14,f15⟩
     | 4,ho,hL,haf,hK =>
      cases ho
      (try dsimp only)
      rw [f2 (haf ⟨2,.guard⟩ (by simp) rfl)];refine Eq.mpr (if_neg (fun h=>Bool.noConfusion (show false=true from h))) ?_;exact hK (fun jj=>if jj=189 then undef else if jj=187 then .bool false else lx jj) _ ⟨E,f0,f1,(fun _=>rfl),f3,(fun _=>rfl),f5,f6,f7,f8,f9,f10,f11,f12,f13,f14,f15⟩
     | 5,ho,hL,haf,hK =>
      cases ho
      (try dsimp only)
      rw [f2 (haf ⟨2,.guard⟩ (by simp) rfl)];refine Eq.mpr (if_neg (fun h=>Bool.noConfusion (show false=true from h))) ?_;exact hK (fun jj=>if jj=190 then undef else if jj=187 then .bool false else lx jj) _ ⟨E,f0,f1,(fun _=>rfl),f3,f4,(fun _=>rfl),f6,f7,f8,f9,f10,f11,f12,f13,f14,f15⟩
     | 6,ho,hL,haf,hK =>
      cases ho
      (try dsimp only)
      rw [f2 (haf ⟨2,.data⟩ (by simp) rfl),f5 (haf ⟨5,.data⟩ (by simp) rfl)];refine Eq.mpr (if_pos (by rfl)) ?_;go_wp2_with fail;exact hK (fun jj=>if jj=191 then .bool false else if jj=187 then .bool false else if jj=190 then undef else lx jj) _ ⟨E,f0,f1,(fun _=>rfl),f3,f4,(fun _=>rfl),(fun _=>rfl),f7,f8,f9,f10,f11,f12,f13,f14,f15⟩
     | 7,ho,hL,haf,hK =>
      cases ho
      (try dsimp only)
      rw [f6 (haf ⟨6,.data⟩ (by simp) rfl)];refine Eq.mpr (if_pos (by rfl)) ?_;go_wp2_with fail;exact hK (fun jj=>if jj=192 then .bool false else if jj=191 then .bool false else lx jj) _ ⟨E,f0,f1,f2,f3,f4,f5,(fun _=>rfl),(fun _=>rfl),f8,f9,f10,f11,f12,f13,f14,f15⟩
     | 8,ho,hL,haf,hK =>
      cases ho
      (try dsimp only)
      rw [f7 (haf ⟨7,.guard⟩ (by simp) rfl)];refine Eq.mpr (if_neg (fun h=>Bool.noConfusion (show false=true from h))) ?_;exact hK (fun jj=>if jj=193 then undef else if jj=192 then .bool false else lx jj) _ ⟨E,f0,f1,f2,f3,f4,f5,f6,(fun _=>rfl),(fun _=>rfl),f9,f10,f11,f12,f13,f14,f15⟩
     | 9,ho,hL,haf,hK =>
      cases ho
      (try dsimp only)
      rw [f7 (haf ⟨7,.guard⟩ (by simp) rfl)];refine Eq.mpr (if_neg (fun h=>Bool.noConfusion (show false=true from h))) ?_;exact hK (fun jj=>if jj=194 then undef else if jj=192 then .bool false else lx jj) _ ⟨E,f0,f1,f2,f3,f4,f5,f6,(fun _=>rfl),f8,(fun _=>rfl),f10,f11,f12,f13,f14,f15⟩
     | 10,ho,hL,haf,hK =>
      cases ho
      (try dsimp only)
      rw [f7 (haf ⟨7,.guard⟩ (by simp) rfl)];refine Eq.mpr (if_neg (fun h=>Bool.noConfusion (show false=true from h))) ?_;exact hK (fun jj=>if jj=195 then undef else if jj=192 then .bool false else lx jj) _ ⟨E,f0,f1,f2,f3,f4,f5,f6,(fun _=>rfl),f8,f9,(fun _=>rfl),f11,f12,f13,f14,f15⟩
     | 11,ho,hL,haf,hK =>
      cases ho
      (try dsimp only)
      rw [f7 (haf ⟨7,.guard⟩ (by simp) rfl)];refine Eq.mpr (if_neg (fun h=>Bool.noConfusion (show false=true from h))) ?_;exact hK (fun jj=>if jj=196 then undef else if jj=192 then .bool false else lx jj) _ ⟨E,f0,f1,f2,f3,f4,f5,f6,(fun _=>rfl),f8,f9,f10,(fun _=>rfl),f12,f13,f14,f15⟩
     | 12,ho,hL,haf,hK =>
      cases ho
      (try dsimp only)
      rw [f7 (haf ⟨7,.guard⟩ (by simp) rfl)];refine Eq.mpr (if_neg (fun h=>Bool.noConfusion (show false=true from h))) ?_;exact hK (fun jj=>if jj=197 then undef else if jj=192 then .bool false else lx jj) _ ⟨E,f0,f1,f2,f3,f4,f5,f6,(fun _=>rfl),f8,f9,f10,f11,(fun _=>rfl),f13,f14,f15⟩
     | 13,ho,hL,haf,hK =>
      cases ho
      (try dsimp only)
      rw [f7 (haf ⟨7,.guard⟩ (by simp) rfl)];refine Eq.mpr (if_neg (fun h=>Bool.noConfusion (show false=true from h))) ?_;exact hK (fun jj=>if jj=198 then undef else if jj=192 then .bool false else lx jj) _ ⟨E,f0,f1,f2,f3,f4,f5,f6,(fun _=>rfl),f8,f9,f10,f11,f12,(fun _=>rfl),f14,f15⟩
     | 14,ho,hL,haf,hK =>
      cases ho
      (try dsimp only)
      rw [f7 (haf ⟨7,.data⟩ (by simp) rfl),f13 (haf ⟨13,.data⟩ (by simp) rfl)];refine Eq.mpr (if_pos (by rfl)) ?_;go_wp2_with fail;exact hK (fun jj=>if jj=199 then .bool false else if jj=192 then .bool false else if jj=198 then undef else lx jj) _ ⟨E,f0,f1,f2,f3,f4,f5,f6,(fun _=>rfl),f8,f9,f10,f11,f12,(fun _=>rfl),(fun _=>rfl),f15⟩
     | 15,ho,hL,haf,hK =>
      cases ho
      (try dsimp only)
      rw [f14 (haf ⟨14,.data⟩ (by simp) rfl)];refine Eq.mpr (if_pos (by rfl)) ?_;go_wp2_with fail;exact hK (fun jj=>if jj=4 then .bool false else if jj=199 then .bool false else lx jj) _ ⟨E,f0,f1,f2,f3,f4,f5,f6,f7,f8,f9,f10,f11,f12,f13,(fun _=>rfl),(fun _=>rfl)⟩
     | k+16,ho,_,_,_=>simp at ho
    ·intro L lx w9 hall hI;obtain ⟨E,f0,f1,f2,f3,f4,f5,f6,f7,f8,f9,f10,f11,f12,f13,f14,f15⟩:=hI.out
     (try dsimp only)
     rw [f15 (hall 15 (by simp)),f0 (hall 0 (by simp)),f1 (hall 1 (by simp)),f2 (hall 2 (by simp)),f3 (hall 3 (by simp)),f4 (hall 4 (by simp)),f5 (hall 5 (by simp)),f6 (hall 6 (by simp)),f7 (hall 7 (by simp)),f8 (hall 8 (by simp)),f9 (hall 9 (by simp)),f10 (hall 10 (by simp)),f11 (hall 11 (by simp)),f12 (hall 12 (by simp)),f13 (hall 13 (by simp)),f14 (hall 14 (by simp))];clear hI hall f0 f1 f2 f3 f4 f5 f6 f7 f8 f9 f10 f11 f12 f13 f14 f15;go_wp2_with fail;go_ret;exact ⟨zA1 HB.out,xt Y1 E⟩
 ·have HMK:Hid (decide (m=(kk:Int))=false):=decide_eq_false q;have gMK:(m != (kk:Int))=true:=by simp [q]
  clear q;have HB:Hid (false=Q):=by show _=_;rw [<- HQ.out,HMK.out];simp
  have a0:=vC15 VE;have d14:=(VE2 14 _ rfl).1;have n0:=vC14 VN;go_enter Tryz.func103,Tryz.ntmps103;go_wp2_with fail;clear a0 d14;go_ret;exact ⟨zA1 HB.out,X⟩
end Go.Proofs.YteliaeejooekbaaGreatDoor
