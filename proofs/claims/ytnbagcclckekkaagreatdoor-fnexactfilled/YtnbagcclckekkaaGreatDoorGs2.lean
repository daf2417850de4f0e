/-
  Chapter 4: what is right of an array's node, of the specification.
-/
import Derived.Test.YtnbagcclckekkaaGreatDoorMg13
import Derived.Test.YtnbagcclckekkaaGreatDoorMg16
import Derived.Test.YtnbagcclckekkaaGreatDoorMg4
import Derived.Test.YtnbagcclckekkaaGreatDoorMg7
namespace Go.Proofs.YtnbagcclckekkaaGreatDoor
open Go.RowKit
def side12 (t:List UInt8) (kk:Nat):Bool:=!(decide (numL t<1) || decide (20<numL t) || !(Lib.decDigits (numL t).toNat == t) || decide (kk<1) || decide (100<kk) || !((kk:Int).tmod (numL t) == 0))
theorem l1NumS (i:Nat) (hi:i≤20) (w:World):Calls Tryz.prog 101 #[.int .i64 (i:Int)] w fun e w'=>e=.returned (sV (Lib.decDigits i))∧Ext w w':=by
 refine (num_any (i:Int) w (by omega) (by omega)).mono ?_;rintro e w' ⟨l,rfl,ht,ex⟩;have:=ht.dec (by omega);rw [Int.toNat_natCast] at this;exact ⟨by rw [this],ex⟩
set_option maxRecDepth 8000 in
set_option maxHeartbeats 4000000 in
theorem rightS12 (t:List UInt8) (neg:Bool) (d:Int) (x:Int) (r:Int) (c:Int) (rf:Bool) (cf:Bool) (r2:Int) (c2:Int) (rf2:Bool) (cf2:Bool) (m:Int) (p:Option Addr) (kk cap:Nat) (ks:List ET) (U:Nat→Prop) (many:Bool) (w:World) (hK:KidsS w U (.slice p kk cap) ks) (hU:∀ k,U k→k<w.heap.size) (hkl:ks.length=kk) :
  Calls Tryz.prog 88 #[exV 12 t neg d x r c rf cf r2 c2 rf2 cf2 m (.slice p kk cap),.bool many] w fun e w'=>e=.returned (.bool (decide (m=(kk:Int)) && (zeroDN neg d x && zeroRN r c rf cf && zeroRN r2 c2 rf2 cf2) && (side12 t kk && ks.all constE)))∧Ext w w':=by
 obtain ⟨Q,hQ⟩:∃ Q,(decide (m=(kk:Int)) && (zeroDN neg d x && zeroRN r c rf cf && zeroRN r2 c2 rf2 cf2) && (side12 t kk && ks.all constE))=Q:=⟨_,rfl⟩;have HQ:Hid ((decide (m=(kk:Int)) && (zeroDN neg d x && zeroRN r c rf cf && zeroRN r2 c2 rf2 cf2) && (side12 t kk && ks.all constE))=Q):=hQ;rw [hQ];clear hQ;have HKL:Hid (ks.length=kk):=hkl;have HKI:Hid (∀ W,Ext w W→KidsS W U (.slice p kk cap) ks):=fun W XW=>hK.later hU XW;have HUL:Hid (∀ k,U k→k<w.heap.size):=hU;clear hK hU hkl;have X1:=x1 w (.cells #[.int .i64 12,sV t,.bool neg,.int .i64 d,.int .i64 x,.int .i64 r,.int .i64 c,.bool rf,.bool cf,.int .i64 r2,.int .i64 c2,.bool rf2,.bool cf2,.int .i64 m,.slice p kk cap] 86);obtain ⟨wa,ha⟩:∃ wa,w.alloc (.cells #[.int .i64 12,sV t,.bool neg,.int .i64 d,.int .i64 x,.int .i64 r,.int .i64 c,.bool rf,.bool cf,.int .i64 r2,.int .i64 c2,.bool rf2,.bool cf2,.int .i64 m,.slice p kk cap] 86)=wa:=⟨_,rfl⟩;have VE:=vec_made w [.int .i64 12,sV t,.bool neg,.int .i64 d,.int .i64 x,.int .i64 r,.int .i64 c,.bool rf,.bool cf,.int .i64 r2,.int .i64 c2,.bool rf2,.bool cf2,.int .i64 m,.slice p kk cap] 86;change Vec (w.alloc (.cells #[.int .i64 12,sV t,.bool neg,.int .i64 d,.int .i64 x,.int .i64 r,.int .i64 c,.bool rf,.bool cf,.int .i64 r2,.int .i64 c2,.bool rf2,.bool cf2,.int .i64 m,.slice p kk cap] 86)) _ _ at VE;have X2:=x1 wa (.cells #[.int .i64 12,sV t,.bool neg,.int .i64 d,.int .i64 x,.int .i64 r,.int .i64 c,.bool rf,.bool cf,.int .i64 r2,.int .i64 c2,.bool rf2,.bool cf2,.int .i64 m] 59);obtain ⟨wb,hb⟩:∃ wb,wa.alloc (.cells #[.int .i64 12,sV t,.bool neg,.int .i64 d,.int .i64 x,.int .i64 r,.int .i64 c,.bool rf,.bool cf,.int .i64 r2,.int .i64 c2,.bool rf2,.bool cf2,.int .i64 m] 59)=wb:=⟨_,rfl⟩;have VN:=vec_made wa [.int .i64 12,sV t,.bool neg,.int .i64 d,.int .i64 x,.int .i64 r,.int .i64 c,.bool rf,.bool cf,.int .i64 r2,.int .i64 c2,.bool rf2,.bool cf2,.int .i64 m] 59;change Vec (wa.alloc (.cells #[.int .i64 12,sV t,.bool neg,.int .i64 d,.int .i64 x,.int .i64 r,.int .i64 c,.bool rf,.bool cf,.int .i64 r2,.int .i64 c2,.bool rf2,.bool cf2,.int .i64 m] 59)) _ _ at VN;have sa:wa.heap.size=w.heap.size+1:=by rw [← ha,World.size_alloc]
 rw [ha] at X1 VE;rw [hb] at X2 VN;rw [sa] at VN;have VE2:=VE.later X2;have X:=xt X1 X2;clear X1 X2;by_cases q:m=(kk:Int)
 ·have HMK:Hid (decide (m=(kk:Int))=true):=decide_eq_true q;have gMK:(m != (kk:Int))=false:=by simp [q]
  clear q;cases hBA:(zeroDN neg d x && zeroRN r c rf cf && zeroRN r2 c2 rf2 cf2)
  ·have HB:Hid (false=Q):=by show _=_;rw [← HQ.out,HMK.out,hBA];simp
   have a0:=(VE 0 _ rfl).1;have a1:=(VE 1 _ rfl).1;have a2:=(VE 2 _ rfl).1;have a3:=(VE 3 _ rfl).1;have a4:=(VE 4 _ rfl).1;have a5:=(VE 5 _ rfl).1;have a6:=(VE 6 _ rfl).1;have a7:=(VE 7 _ rfl).1;have a8:=(VE 8 _ rfl).1;have a9:=(VE 9 _ rfl).1;have a10:=(VE 10 _ rfl).1;have a11:=(VE 11 _ rfl).1;have a12:=(VE 12 _ rfl).1;have a13:=(VE 13 _ rfl).1;have a14:=(VE 14 _ rfl).1;have d14:=(VE2 14 _ rfl).1;have n0:=(VN 0 _ rfl).1;have n1:=(VN 1 _ rfl).1;have n2:=(VN 2 _ rfl).1;have n3:=(VN 3 _ rfl).1;have n4:=(VN 4 _ rfl).1;have n5:=(VN 5 _ rfl).1;have n6:=(VN 6 _ rfl).1;have n7:=(VN 7 _ rfl).1;have n8:=(VN 8 _ rfl).1;have n9:=(VN 9 _ rfl).1;have n10:=(VN 10 _ rfl).1;have n11:=(VN 11 _ rfl).1;have n12:=(VN 12 _ rfl).1;have n13:=(VN 13 _ rfl).1;go_enter Tryz.func88,Tryz.ntmps88;go_wp2_with fail;clear a0 a1 a2 a3 a4 a5 a6 a7 a8 a9 a10 a11 a12 a13 a14 d14;refine (bareS _ _ _ _ _ _ _ _ _ _ _ _ _ _ _).mono ?_;rintro e w1 ⟨rfl,e1⟩;have V1:=VN.later e1;have Y1:=xt X e1;clear n0 n1 n2 n3 n4 n5 n6 n7 n8 n9 n10 n11 n12 n13;rw [hBA];have b0:=(V1 0 _ rfl).1;have b1:=(V1 1 _ rfl).1;have b2:=(V1 2 _ rfl).1;have b3:=(V1 3 _ rfl).1;have b4:=(V1 4 _ rfl).1;have b5:=(V1 5 _ rfl).1;have b6:=(V1 6 _ rfl).1;have b7:=(V1 7 _ rfl).1;have b8:=(V1 8 _ rfl).1;have b9:=(V1 9 _ rfl).1;have b10:=(V1 10 _ rfl).1;have b11:=(V1 11 _ rfl).1;have b12:=(V1 12 _ rfl).1;have b13:=(V1 13 _ rfl).1;go_wp2_with fail;go_ret;exact ⟨ret_bool HB.out,Y1⟩
  ·obtain ⟨R,hRN⟩:∃ R,numL t=R:=⟨_,rfl⟩;have HRN:Hid (numL t=R):=hRN;by_cases t1:R<1
   ·have HB:Hid (false=Q):=(by show _=_;rw [← HQ.out,HMK.out,hBA];simp [side12,hRN,t1]);have g1:decide (R<1)=true:=decide_eq_true t1;clear hRN;have a0:=(VE 0 _ rfl).1;have a1:=(VE 1 _ rfl).1;have a2:=(VE 2 _ rfl).1;have a3:=(VE 3 _ rfl).1;have a4:=(VE 4 _ rfl).1;have a5:=(VE 5 _ rfl).1;have a6:=(VE 6 _ rfl).1;have a7:=(VE 7 _ rfl).1;have a8:=(VE 8 _ rfl).1;have a9:=(VE 9 _ rfl).1;have a10:=(VE 10 _ rfl).1;have a11:=(VE 11 _ rfl).1;have a12:=(VE 12 _ rfl).1;have a13:=(VE 13 _ rfl).1;have a14:=(VE 14 _ rfl).1;have d14:=(VE2 14 _ rfl).1;have n0:=(VN 0 _ rfl).1;have n1:=(VN 1 _ rfl).1;have n2:=(VN 2 _ rfl).1;have n3:=(VN 3 _ rfl).1;have n4:=(VN 4 _ rfl).1;have n5:=(VN 5 _ rfl).1;have n6:=(VN 6 _ rfl).1;have n7:=(VN 7 _ rfl).1;have n8:=(VN 8 _ rfl).1;have n9:=(VN 9 _ rfl).1;have n10:=(VN 10 _ rfl).1;have n11:=(VN 11 _ rfl).1;have n12:=(VN 12 _ rfl).1;have n13:=(VN 13 _ rfl).1;go_enter Tryz.func88,Tryz.ntmps88;go_wp2_with fail;clear a0 a1 a2 a3 a4 a5 a6 a7 a8 a9 a10 a11 a12 a13 a14 d14;refine (bareS _ _ _ _ _ _ _ _ _ _ _ _ _ _ _).mono ?_;rintro e w1 ⟨rfl,e1⟩;have V1:=VN.later e1;have Y1:=xt X e1;clear n0 n1 n2 n3 n4 n5 n6 n7 n8 n9 n10 n11 n12 n13;rw [hBA];have b0:=(V1 0 _ rfl).1;have b1:=(V1 1 _ rfl).1;have b2:=(V1 2 _ rfl).1;have b3:=(V1 3 _ rfl).1;have b4:=(V1 4 _ rfl).1;have b5:=(V1 5 _ rfl).1;have b6:=(V1 6 _ rfl).1;have b7:=(V1 7 _ rfl).1;have b8:=(V1 8 _ rfl).1;have b9:=(V1 9 _ rfl).1;have b10:=(V1 10 _ rfl).1;have b11:=(V1 11 _ rfl).1;have b12:=(V1 12 _ rfl).1;have b13:=(V1 13 _ rfl).1;go_wp2_with fail;refine (numS _ t _ rfl).mono ?_;rintro e w2 ⟨rfl,rfl⟩;rw [HRN.out];go_wp2_with fail;clear b0 b1 b2 b3 b4 b5 b6 b7 b8 b9 b10 b11 b12 b13;refine wp_region_letters_c (fun lx:Nat→Value=>{ tmps:=#[exV 12 t neg d x r c rf cf r2 c2 rf2 cf2 m (Value.slice p kk cap),Value.bool many,Value.pointer (some ⟨w.heap.size,0,none⟩),undef,Value.bool false,Value.pointer (some ⟨w.heap.size+1,0,none⟩),Value.int .i64 (kk:Int),Value.int .i64 R,undef,undef,Value.pointer (some ⟨w.heap.size,0,none⟩),Value.agg #[Value.int .i64 12,sV t,Value.bool neg,Value.int .i64 d,Value.int .i64 x,Value.int .i64 r,Value.int .i64 c,Value.bool rf,Value.bool cf,Value.int .i64 r2,Value.int .i64 c2,Value.bool rf2,Value.bool cf2,Value.int .i64 m],Value.pointer (some ⟨w.heap.size,14,none⟩),Value.slice p kk cap,Value.int .i64 (kk:Int),Value.pointer (some ⟨w.heap.size+1,13,none⟩),Value.int .i64 m,Value.int .i64 (kk:Int),Value.bool false,Value.pointer (some ⟨w.heap.size+1,0,none⟩),Value.int .i64 12,Value.bool false,Value.bool false,undef,undef,undef,undef,undef,undef,undef,undef,undef,undef,undef,undef,undef,undef,undef,undef,undef,undef,undef,undef,undef,undef,undef,undef,undef,undef,undef,undef,undef,undef,Value.bool false,Value.bool false,undef,undef,undef,undef,undef,undef,undef,undef,undef,undef,undef,undef,undef,undef,undef,undef,undef,undef,undef,undef,undef,undef,undef,undef,Value.bool false,Value.bool false,undef,undef,undef,undef,undef,undef,undef,undef,undef,undef,undef,undef,undef,undef,undef,undef,undef,undef,undef,undef,undef,undef,undef,Value.agg #[Value.int .i64 12,sV t,Value.bool neg,Value.int .i64 d,Value.int .i64 x,Value.int .i64 r,Value.int .i64 c,Value.bool rf,Value.bool cf,Value.int .i64 r2,Value.int .i64 c2,Value.bool rf2,Value.bool cf2,Value.int .i64 m],Value.bool true,Value.bool false,Value.pointer (some ⟨w.heap.size+1,0,none⟩),Value.int .i64 12,Value.bool false,Value.bool false,undef,undef,undef,undef,undef,undef,undef,Value.bool false,Value.bool false,undef,undef,undef,undef,undef,undef,undef,undef,undef,undef,undef,undef,Value.bool false,Value.bool false,undef,undef,undef,undef,undef,undef,undef,undef,Value.bool false,Value.bool false,undef,undef,undef,undef,undef,undef,undef,Value.bool false,Value.bool false,undef,undef,undef,undef,undef,undef,undef,undef,undef,undef,Value.bool false,Value.bool false,Value.bool false,undef,undef,undef,undef,undef,undef,undef,Value.bool false,Value.bool false,undef,undef,undef,undef,undef,undef,undef,undef,Value.bool false,Value.bool false,undef,undef,undef,undef,undef,undef,undef,undef,undef,undef,undef,undef,undef,undef,undef,Value.bool true,Value.bool true,Value.pointer (some ⟨w.heap.size+1,1,none⟩),sV t,Value.int .i64 R,lx 205,lx 206,lx 207,lx 208,lx 209,lx 210,lx 211,lx 212,lx 213,lx 214,lx 215,lx 216,lx 217,lx 218,lx 219,lx 220,lx 221,lx 222,lx 223,lx 224,lx 225,lx 226,lx 227,lx 228,lx 229,lx 230,lx 231,undef,undef,undef,undef,undef,undef,undef,undef,undef,undef,undef],defers:=[] }) (fun L lx lw=>Hid (Ext w2 lw∧(L 0=true→lx 205=.int .i64 R)∧(L 1=true→lx 206=.bool true)∧(L 2=true→lx 207=.bool true)∧(L 3=true→lx 208=undef)∧(L 4=true→lx 209=undef)∧(L 5=true→lx 210=.bool true)∧(L 6=true→lx 211=.bool true)∧(L 7=true→lx 212=undef)∧(L 8=true→lx 213=undef)∧(L 9=true→lx 214=undef)∧(L 10=true→lx 215=undef)∧(L 11=true→lx 216=undef)∧(L 12=true→lx 217=.bool true)∧(L 13=true→lx 218=.bool true)∧(L 14=true→lx 219=undef)∧(L 15=true→lx 220=undef)∧(L 16=true→lx 221=.bool true)∧(L 17=true→lx 222=.bool true)∧(L 18=true→lx 223=undef)∧(L 19=true→lx 224=undef)∧(L 20=true→lx 225=.bool true)∧(L 21=true→lx 226=.bool true)∧(L 22=true→lx 227=undef)∧(L 23=true→lx 228=undef)∧(L 24=true→lx 229=undef)∧(L 25=true→lx 230=undef)∧(L 26=true→lx 231=.bool true))) rfl (by kernel_rfl) (fun jj=>undef) rfl ?_ ?_ ?_
    ·exact ⟨xd (xr _),(fun h=>by cases h),(fun h=>by cases h),(fun h=>by cases h),(fun h=>by cases h),(fun h=>by cases h),(fun h=>by cases h),(fun h=>by cases h),(fun h=>by cases h),(fun h=>by cases h),(fun h=>by cases h),(fun h=>by cases h),(fun h=>by cases h),(fun h=>by cases h),(fun h=>by cases h),(fun h=>by cases h),(fun h=>by cases h),(fun h=>by cases h),(fun h=>by cases h),(fun h=>by cases h),(fun h=>by cases h),(fun h=>by cases h),(fun h=>by cases h),(fun h=>by cases h),(fun h=>by cases h),(fun h=>by cases h),(fun h=>by cases h),(fun h=>by cases h)⟩
    ·intro L lx lw ix o K hK ho hL haf hI hcl;obtain ⟨E,f0,f1,f2,f3,f4,f5,f6,f7,f8,f9,f10,f11,f12,f13,f14,f15,f16,f17,f18,f19,f20,f21,f22,f23,f24,f25,f26⟩:=hI.out
     match ix,ho,hL,haf,hK with
     | 0,ho,hL,haf,hK =>
      cases ho
      (try dsimp only)
      refine Eq.mpr (if_pos (by rfl)) ?_;go_wp2_with fail;exact hK (fun jj=>if jj=205 then .int .i64 R else lx jj) _ ⟨E,(fun _=>rfl),f1,f2,f3,f4,f5,f6,f7,f8,f9,f10,f11,f12,f13,f14,f15,f16,f17,f18,f19,f20,f21,f22,f23,f24,f25,f26⟩
     | 1,ho,hL,haf,hK =>
      cases ho
      (try dsimp only)
      rw [f0 (haf ⟨0,.data⟩ (by simp) rfl)];refine Eq.mpr (if_pos (by rfl)) ?_;go_wp2_with fail;exact hK (fun jj=>if jj=206 then .bool true else if jj=205 then .int .i64 R else lx jj) _ ⟨E,(fun _=>rfl),(fun _=>rfl),f2,f3,f4,f5,f6,f7,f8,f9,f10,f11,f12,f13,f14,f15,f16,f17,f18,f19,f20,f21,f22,f23,f24,f25,f26⟩
     | 2,ho,hL,haf,hK =>
      cases ho
      (try dsimp only)
      rw [f1 (haf ⟨1,.data⟩ (by simp) rfl)];refine Eq.mpr (if_pos (by rfl)) ?_;go_wp2_with fail;exact hK (fun jj=>if jj=207 then .bool true else if jj=206 then .bool true else lx jj) _ ⟨E,f0,(fun _=>rfl),(fun _=>rfl),f3,f4,f5,f6,f7,f8,f9,f10,f11,f12,f13,f14,f15,f16,f17,f18,f19,f20,f21,f22,f23,f24,f25,f26⟩
     | 3,ho,hL,haf,hK =>
      cases ho
      (try dsimp only)
      rw [f2 (haf ⟨2,.guard⟩ (by simp) rfl)];refine Eq.mpr (if_neg (fun h=>Bool.noConfusion (show false=true from h))) ?_;exact hK (fun jj=>if jj=208 then undef else if jj=207 then .bool true else lx jj) _ ⟨E,f0,f1,(fun _=>rfl),(fun _=>rfl),f4,f5,f6,f7,f8,f9,f10,f11,f12,f13,f14,f15,f16,f17,f18,f19,f20,f21,f22,f23,f24,f25,f26⟩
     | 4,ho,hL,haf,hK =>
      cases ho
      (try dsimp only)
      rw [f2 (haf ⟨2,.guard⟩ (by simp) rfl)];refine Eq.mpr (if_neg (fun h=>Bool.noConfusion (show false=true from h))) ?_;exact hK (fun jj=>if jj=209 then undef else if jj=207 then .bool true else lx jj) _ ⟨E,f0,f1,(fun _=>rfl),f3,(fun _=>rfl),f5,f6,f7,f8,f9,f10,f11,f12,f13,f14,f15,f16,f17,f18,f19,f20,f21,f22,f23,f24,f25,f26⟩
     | 5,ho,hL,haf,hK =>
      cases ho
      (try dsimp only)
      rw [f2 (haf ⟨2,.data⟩ (by simp) rfl),f4 (haf ⟨4,.data⟩ (by simp) rfl)];refine Eq.mpr (if_pos (by rfl)) ?_;go_wp2_with fail;exact hK (fun jj=>if jj=210 then .bool true else if jj=207 then .bool true else if jj=209 then undef else lx jj) _ ⟨E,f0,f1,(fun _=>rfl),f3,(fun _=>rfl),(fun _=>rfl),f6,f7,f8,f9,f10,f11,f12,f13,f14,f15,f16,f17,f18,f19,f20,f21,f22,f23,f24,f25,f26⟩
     | 6,ho,hL,haf,hK =>
      cases ho
      (try dsimp only)
      rw [f5 (haf ⟨5,.data⟩ (by simp) rfl)];refine Eq.mpr (if_pos (by rfl)) ?_;go_wp2_with fail;exact hK (fun jj=>if jj=211 then .bool true else if jj=210 then .bool true else lx jj) _ ⟨E,f0,f1,f2,f3,f4,(fun _=>rfl),(fun _=>rfl),f7,f8,f9,f10,f11,f12,f13,f14,f15,f16,f17,f18,f19,f20,f21,f22,f23,f24,f25,f26⟩
     | 7,ho,hL,haf,hK =>
      cases ho
      (try dsimp only)
      rw [f6 (haf ⟨6,.guard⟩ (by simp) rfl)];refine Eq.mpr (if_neg (fun h=>Bool.noConfusion (show false=true from h))) ?_;exact hK (fun jj=>if jj=212 then undef else if jj=211 then .bool true else lx jj) _ ⟨E,f0,f1,f2,f3,f4,f5,(fun _=>rfl),(fun _=>rfl),f8,f9,f10,f11,f12,f13,f14,f15,f16,f17,f18,f19,f20,f21,f22,f23,f24,f25,f26⟩
     | 8,ho,hL,haf,hK =>
      cases ho
      (try dsimp only)
      rw [f6 (haf ⟨6,.guard⟩ (by simp) rfl)];refine Eq.mpr (if_neg (fun h=>Bool.noConfusion (show false=true from h))) ?_;exact hK (fun jj=>if jj=213 then undef else if jj=211 then .bool true else lx jj) _ ⟨E,f0,f1,f2,f3,f4,f5,(fun _=>rfl),f7,(fun _=>rfl),f9,f10,f11,f12,f13,f14,f15,f16,f17,f18,f19,f20,f21,f22,f23,f24,f25,f26⟩
     | 9,ho,hL,haf,hK =>
      cases ho
      (try dsimp only)
      rw [f6 (haf ⟨6,.guard⟩ (by simp) rfl)];refine Eq.mpr (if_neg (fun h=>Bool.noConfusion (show false=true from h))) ?_;exact hK (fun jj=>if jj=214 then undef else if jj=211 then .bool true else lx jj) _ ⟨E,f0,f1,f2,f3,f4,f5,(fun _=>rfl),f7,f8,(fun _=>rfl),f10,f11,f12,f13,f14,f15,f16,f17,f18,f19,f20,f21,f22,f23,f24,f25,f26⟩
     | 10,ho,hL,haf,hK =>
      cases ho
      (try dsimp only)
      rw [f6 (haf ⟨6,.guard⟩ (by simp) rfl)];refine Eq.mpr (if_neg (fun h=>Bool.noConfusion (show false=true from h))) ?_;exact hK (fun jj=>if jj=215 then undef else if jj=211 then .bool true else lx jj) _ ⟨E,f0,f1,f2,f3,f4,f5,(fun _=>rfl),f7,f8,f9,(fun _=>rfl),f11,f12,f13,f14,f15,f16,f17,f18,f19,f20,f21,f22,f23,f24,f25,f26⟩
     | 11,ho,hL,haf,hK =>
      cases ho
      (try dsimp only)
      rw [f6 (haf ⟨6,.guard⟩ (by simp) rfl)];refine Eq.mpr (if_neg (fun h=>Bool.noConfusion (show false=true from h))) ?_;exact hK (fun jj=>if jj=216 then undef else if jj=211 then .bool true else lx jj) _ ⟨E,f0,f1,f2,f3,f4,f5,(fun _=>rfl),f7,f8,f9,f10,(fun _=>rfl),f12,f13,f14,f15,f16,f17,f18,f19,f20,f21,f22,f23,f24,f25,f26⟩
     | 12,ho,hL,haf,hK =>
      cases ho
      (try dsimp only)
      rw [f6 (haf ⟨6,.data⟩ (by simp) rfl),f11 (haf ⟨11,.data⟩ (by simp) rfl)];refine Eq.mpr (if_pos (by rfl)) ?_;go_wp2_with fail;exact hK (fun jj=>if jj=217 then .bool true else if jj=211 then .bool true else if jj=216 then undef else lx jj) _ ⟨E,f0,f1,f2,f3,f4,f5,(fun _=>rfl),f7,f8,f9,f10,(fun _=>rfl),(fun _=>rfl),f13,f14,f15,f16,f17,f18,f19,f20,f21,f22,f23,f24,f25,f26⟩
     | 13,ho,hL,haf,hK =>
      cases ho
      (try dsimp only)
      rw [f12 (haf ⟨12,.data⟩ (by simp) rfl)];refine Eq.mpr (if_pos (by rfl)) ?_;go_wp2_with fail;exact hK (fun jj=>if jj=218 then .bool true else if jj=217 then .bool true else lx jj) _ ⟨E,f0,f1,f2,f3,f4,f5,f6,f7,f8,f9,f10,f11,(fun _=>rfl),(fun _=>rfl),f14,f15,f16,f17,f18,f19,f20,f21,f22,f23,f24,f25,f26⟩
     | 14,ho,hL,haf,hK =>
      cases ho
      (try dsimp only)
      rw [f13 (haf ⟨13,.guard⟩ (by simp) rfl)];refine Eq.mpr (if_neg (fun h=>Bool.noConfusion (show false=true from h))) ?_;exact hK (fun jj=>if jj=219 then undef else if jj=218 then .bool true else lx jj) _ ⟨E,f0,f1,f2,f3,f4,f5,f6,f7,f8,f9,f10,f11,f12,(fun _=>rfl),(fun _=>rfl),f15,f16,f17,f18,f19,f20,f21,f22,f23,f24,f25,f26⟩
     | 15,ho,hL,haf,hK =>
      cases ho
      (try dsimp only)
      rw [f13 (haf ⟨13,.guard⟩ (by simp) rfl)];refine Eq.mpr (if_neg (fun h=>Bool.noConfusion (show false=true from h))) ?_;exact hK (fun jj=>if jj=220 then undef else if jj=218 then .bool true else lx jj) _ ⟨E,f0,f1,f2,f3,f4,f5,f6,f7,f8,f9,f10,f11,f12,(fun _=>rfl),f14,(fun _=>rfl),f16,f17,f18,f19,f20,f21,f22,f23,f24,f25,f26⟩
     | 16,ho,hL,haf,hK =>
      cases ho
      (try dsimp only)
      rw [f13 (haf ⟨13,.data⟩ (by simp) rfl),f15 (haf ⟨15,.data⟩ (by simp) rfl)];refine Eq.mpr (if_pos (by rfl)) ?_;go_wp2_with fail;exact hK (fun jj=>if jj=221 then .bool true else if jj=218 then .bool true else if jj=220 then undef else lx jj) _ ⟨E,f0,f1,f2,f3,f4,f5,f6,f7,f8,f9,f10,f11,f12,(fun _=>rfl),f14,(fun _=>rfl),(fun _=>rfl),f17,f18,f19,f20,f21,f22,f23,f24,f25,f26⟩
     | 17,ho,hL,haf,hK =>
      cases ho
      (try dsimp only)
      rw [f16 (haf ⟨16,.data⟩ (by simp) rfl)];refine Eq.mpr (if_pos (by rfl)) ?_;go_wp2_with fail;exact hK (fun jj=>if jj=222 then .bool true else if jj=221 then .bool true else lx jj) _ ⟨E,f0,f1,f2,f3,f4,f5,f6,f7,f8,f9,f10,f11,f12,f13,f14,f15,(fun _=>rfl),(fun _=>rfl),f18,f19,f20,f21,f22,f23,f24,f25,f26⟩
     | 18,ho,hL,haf,hK =>
      cases ho
      (try dsimp only)
      rw [f17 (haf ⟨17,.guard⟩ (by simp) rfl)];refine Eq.mpr (if_neg (fun h=>Bool.noConfusion (show false=true from h))) ?_;exact hK (fun jj=>if jj=223 then undef else if jj=222 then .bool true else lx jj) _ ⟨E,f0,f1,f2,f3,f4,f5,f6,f7,f8,f9,f10,f11,f12,f13,f14,f15,f16,(fun _=>rfl),(fun _=>rfl),f19,f20,f21,f22,f23,f24,f25,f26⟩
     | 19,ho,hL,haf,hK =>
      cases ho
      (try dsimp only)
      rw [f17 (haf ⟨17,.guard⟩ (by simp) rfl)];refine Eq.mpr (if_neg (fun h=>Bool.noConfusion (show false=true from h))) ?_;exact hK (fun jj=>if jj=224 then undef else if jj=222 then .bool true else lx jj) _ ⟨E,f0,f1,f2,f3,f4,f5,f6,f7,f8,f9,f10,f11,f12,f13,f14,f15,f16,(fun _=>rfl),f18,(fun _=>rfl),f20,f21,f22,f23,f24,f25,f26⟩
     | 20,ho,hL,haf,hK =>
      cases ho
      (try dsimp only)
      rw [f17 (haf ⟨17,.data⟩ (by simp) rfl),f19 (haf ⟨19,.data⟩ (by simp) rfl)];refine Eq.mpr (if_pos (by rfl)) ?_;go_wp2_with fail;exact hK (fun jj=>if jj=225 then .bool true else if jj=222 then .bool true else if jj=224 then undef else lx jj) _ ⟨E,f0,f1,f2,f3,f4,f5,f6,f7,f8,f9,f10,f11,f12,f13,f14,f15,f16,(fun _=>rfl),f18,(fun _=>rfl),(fun _=>rfl),f21,f22,f23,f24,f25,f26⟩
     | 21,ho,hL,haf,hK =>
      cases ho
      (try dsimp only)
      rw [f20 (haf ⟨20,.data⟩ (by simp) rfl)];refine Eq.mpr (if_pos (by rfl)) ?_;go_wp2_with fail;exact hK (fun jj=>if jj=226 then .bool true else if jj=225 then .bool true else lx jj) _ ⟨E,f0,f1,f2,f3,f4,f5,f6,f7,f8,f9,f10,f11,f12,f13,f14,f15,f16,f17,f18,f19,(fun _=>rfl),(fun _=>rfl),f22,f23,f24,f25,f26⟩
     | 22,ho,hL,haf,hK =>
      cases ho
      (try dsimp only)
      rw [f21 (haf ⟨21,.guard⟩ (by simp) rfl)];refine Eq.mpr (if_neg (fun h=>Bool.noConfusion (show false=true from h))) ?_;exact hK (fun jj=>if jj=227 then undef else if jj=226 then .bool true else lx jj) _ ⟨E,f0,f1,f2,f3,f4,f5,f6,f7,f8,f9,f10,f11,f12,f13,f14,f15,f16,f17,f18,f19,f20,(fun _=>rfl),(fun _=>rfl),f23,f24,f25,f26⟩
     | 23,ho,hL,haf,hK =>
      cases ho
      (try dsimp only)
      rw [f21 (haf ⟨21,.guard⟩ (by simp) rfl)];refine Eq.mpr (if_neg (fun h=>Bool.noConfusion (show false=true from h))) ?_;exact hK (fun jj=>if jj=228 then undef else if jj=226 then .bool true else lx jj) _ ⟨E,f0,f1,f2,f3,f4,f5,f6,f7,f8,f9,f10,f11,f12,f13,f14,f15,f16,f17,f18,f19,f20,(fun _=>rfl),f22,(fun _=>rfl),f24,f25,f26⟩
     | 24,ho,hL,haf,hK =>
      cases ho
      (try dsimp only)
      rw [f21 (haf ⟨21,.guard⟩ (by simp) rfl)];refine Eq.mpr (if_neg (fun h=>Bool.noConfusion (show false=true from h))) ?_;exact hK (fun jj=>if jj=229 then undef else if jj=226 then .bool true else lx jj) _ ⟨E,f0,f1,f2,f3,f4,f5,f6,f7,f8,f9,f10,f11,f12,f13,f14,f15,f16,f17,f18,f19,f20,(fun _=>rfl),f22,f23,(fun _=>rfl),f25,f26⟩
     | 25,ho,hL,haf,hK =>
      cases ho
      (try dsimp only)
      rw [f21 (haf ⟨21,.guard⟩ (by simp) rfl)];refine Eq.mpr (if_neg (fun h=>Bool.noConfusion (show false=true from h))) ?_;exact hK (fun jj=>if jj=230 then undef else if jj=226 then .bool true else lx jj) _ ⟨E,f0,f1,f2,f3,f4,f5,f6,f7,f8,f9,f10,f11,f12,f13,f14,f15,f16,f17,f18,f19,f20,(fun _=>rfl),f22,f23,f24,(fun _=>rfl),f26⟩
     | 26,ho,hL,haf,hK =>
      cases ho
      (try dsimp only)
      rw [f21 (haf ⟨21,.data⟩ (by simp) rfl),f25 (haf ⟨25,.data⟩ (by simp) rfl)];refine Eq.mpr (if_pos (by rfl)) ?_;go_wp2_with fail;exact hK (fun jj=>if jj=231 then .bool true else if jj=226 then .bool true else if jj=230 then undef else lx jj) _ ⟨E,f0,f1,f2,f3,f4,f5,f6,f7,f8,f9,f10,f11,f12,f13,f14,f15,f16,f17,f18,f19,f20,(fun _=>rfl),f22,f23,f24,(fun _=>rfl),(fun _=>rfl)⟩
     | k+27,ho,_,_,_=>simp at ho
    ·intro L lx w9 hall hI;obtain ⟨E,f0,f1,f2,f3,f4,f5,f6,f7,f8,f9,f10,f11,f12,f13,f14,f15,f16,f17,f18,f19,f20,f21,f22,f23,f24,f25,f26⟩:=hI.out
     (try dsimp only)
     rw [f0 (hall 0 (by simp)),f1 (hall 1 (by simp)),f2 (hall 2 (by simp)),f3 (hall 3 (by simp)),f4 (hall 4 (by simp)),f5 (hall 5 (by simp)),f6 (hall 6 (by simp)),f7 (hall 7 (by simp)),f8 (hall 8 (by simp)),f9 (hall 9 (by simp)),f10 (hall 10 (by simp)),f11 (hall 11 (by simp)),f12 (hall 12 (by simp)),f13 (hall 13 (by simp)),f14 (hall 14 (by simp)),f15 (hall 15 (by simp)),f16 (hall 16 (by simp)),f17 (hall 17 (by simp)),f18 (hall 18 (by simp)),f19 (hall 19 (by simp)),f20 (hall 20 (by simp)),f21 (hall 21 (by simp)),f22 (hall 22 (by simp)),f23 (hall 23 (by simp)),f24 (hall 24 (by simp)),f25 (hall 25 (by simp)),f26 (hall 26 (by simp))];clear hI hall f0 f1 f2 f3 f4 f5 f6 f7 f8 f9 f10 f11 f12 f13 f14 f15 f16 f17 f18 f19 f20 f21 f22 f23 f24 f25 f26;go_wp2_with fail;go_ret;exact ⟨ret_bool HB.out,xt Y1 E⟩
   have g1:decide (R<1)=false:=decide_eq_false t1;by_cases t2:20<R
   ·have HB:Hid (false=Q):=(by show _=_;rw [← HQ.out,HMK.out,hBA];simp [side12,hRN,t2]);have g2:decide (20<R)=true:=decide_eq_true t2;clear hRN;have a0:=(VE 0 _ rfl).1;have a1:=(VE 1 _ rfl).1;have a2:=(VE 2 _ rfl).1;have a3:=(VE 3 _ rfl).1;have a4:=(VE 4 _ rfl).1;have a5:=(VE 5 _ rfl).1;have a6:=(VE 6 _ rfl).1;have a7:=(VE 7 _ rfl).1;have a8:=(VE 8 _ rfl).1;have a9:=(VE 9 _ rfl).1;have a10:=(VE 10 _ rfl).1;have a11:=(VE 11 _ rfl).1;have a12:=(VE 12 _ rfl).1;have a13:=(VE 13 _ rfl).1;have a14:=(VE 14 _ rfl).1;have d14:=(VE2 14 _ rfl).1;have n0:=(VN 0 _ rfl).1;have n1:=(VN 1 _ rfl).1;have n2:=(VN 2 _ rfl).1;have n3:=(VN 3 _ rfl).1;have n4:=(VN 4 _ rfl).1;have n5:=(VN 5 _ rfl).1;have n6:=(VN 6 _ rfl).1;have n7:=(VN 7 _ rfl).1;have n8:=(VN 8 _ rfl).1;have n9:=(VN 9 _ rfl).1;have n10:=(VN 10 _ rfl).1;have n11:=(VN 11 _ rfl).1;have n12:=(VN 12 _ rfl).1;have n13:=(VN 13 _ rfl).1;go_enter Tryz.func88,Tryz.ntmps88;go_wp2_with fail;clear a0 a1 a2 a3 a4 a5 a6 a7 a8 a9 a10 a11 a12 a13 a14 d14;refine (bareS _ _ _ _ _ _ _ _ _ _ _ _ _ _ _).mono ?_;rintro e w1 ⟨rfl,e1⟩;have V1:=VN.later e1;have Y1:=xt X e1;clear n0 n1 n2 n3 n4 n5 n6 n7 n8 n9 n10 n11 n12 n13;rw [hBA];have b0:=(V1 0 _ rfl).1;have b1:=(V1 1 _ rfl).1;have b2:=(V1 2 _ rfl).1;have b3:=(V1 3 _ rfl).1;have b4:=(V1 4 _ rfl).1;have b5:=(V1 5 _ rfl).1;have b6:=(V1 6 _ rfl).1;have b7:=(V1 7 _ rfl).1;have b8:=(V1 8 _ rfl).1;have b9:=(V1 9 _ rfl).1;have b10:=(V1 10 _ rfl).1;have b11:=(V1 11 _ rfl).1;have b12:=(V1 12 _ rfl).1;have b13:=(V1 13 _ rfl).1;go_wp2_with fail;refine (numS _ t _ rfl).mono ?_;rintro e w2 ⟨rfl,rfl⟩;rw [HRN.out];go_wp2_with fail;clear b0 b1 b2 b3 b4 b5 b6 b7 b8 b9 b10 b11 b12 b13;refine wp_region_letters_c (fun lx:Nat→Value=>{ tmps:=#[exV 12 t neg d x r c rf cf r2 c2 rf2 cf2 m (Value.slice p kk cap),Value.bool many,Value.pointer (some ⟨w.heap.size,0,none⟩),undef,Value.bool false,Value.pointer (some ⟨w.heap.size+1,0,none⟩),Value.int .i64 (kk:Int),Value.int .i64 R,undef,undef,Value.pointer (some ⟨w.heap.size,0,none⟩),Value.agg #[Value.int .i64 12,sV t,Value.bool neg,Value.int .i64 d,Value.int .i64 x,Value.int .i64 r,Value.int .i64 c,Value.bool rf,Value.bool cf,Value.int .i64 r2,Value.int .i64 c2,Value.bool rf2,Value.bool cf2,Value.int .i64 m],Value.pointer (some ⟨w.heap.size,14,none⟩),Value.slice p kk cap,Value.int .i64 (kk:Int),Value.pointer (some ⟨w.heap.size+1,13,none⟩),Value.int .i64 m,Value.int .i64 (kk:Int),Value.bool false,Value.pointer (some ⟨w.heap.size+1,0,none⟩),Value.int .i64 12,Value.bool false,Value.bool false,undef,undef,undef,undef,undef,undef,undef,undef,undef,undef,undef,undef,undef,undef,undef,undef,undef,undef,undef,undef,undef,undef,undef,undef,undef,undef,undef,undef,undef,undef,Value.bool false,Value.bool false,undef,undef,undef,undef,undef,undef,undef,undef,undef,undef,undef,undef,undef,undef,undef,undef,undef,undef,undef,undef,undef,undef,undef,undef,Value.bool false,Value.bool false,undef,undef,undef,undef,undef,undef,undef,undef,undef,undef,undef,undef,undef,undef,undef,undef,undef,undef,undef,undef,undef,undef,undef,Value.agg #[Value.int .i64 12,sV t,Value.bool neg,Value.int .i64 d,Value.int .i64 x,Value.int .i64 r,Value.int .i64 c,Value.bool rf,Value.bool cf,Value.int .i64 r2,Value.int .i64 c2,Value.bool rf2,Value.bool cf2,Value.int .i64 m],Value.bool true,Value.bool false,Value.pointer (some ⟨w.heap.size+1,0,none⟩),Value.int .i64 12,Value.bool false,Value.bool false,undef,undef,undef,undef,undef,undef,undef,Value.bool false,Value.bool false,undef,undef,undef,undef,undef,undef,undef,undef,undef,undef,undef,undef,Value.bool false,Value.bool false,undef,undef,undef,undef,undef,undef,undef,undef,Value.bool false,Value.bool false,undef,undef,undef,undef,undef,undef,undef,Value.bool false,Value.bool false,undef,undef,undef,undef,undef,undef,undef,undef,undef,undef,Value.bool false,Value.bool false,Value.bool false,undef,undef,undef,undef,undef,undef,undef,Value.bool false,Value.bool false,undef,undef,undef,undef,undef,undef,undef,undef,Value.bool false,Value.bool false,undef,undef,undef,undef,undef,undef,undef,undef,undef,undef,undef,undef,undef,undef,undef,Value.bool true,Value.bool true,Value.pointer (some ⟨w.heap.size+1,1,none⟩),sV t,Value.int .i64 R,lx 205,lx 206,lx 207,lx 208,lx 209,lx 210,lx 211,lx 212,lx 213,lx 214,lx 215,lx 216,lx 217,lx 218,lx 219,lx 220,lx 221,lx 222,lx 223,lx 224,lx 225,lx 226,lx 227,lx 228,lx 229,lx 230,lx 231,undef,undef,undef,undef,undef,undef,undef,undef,undef,undef,undef],defers:=[] }) (fun L lx lw=>Hid (Ext w2 lw∧(L 0=true→lx 205=.int .i64 R)∧(L 1=true→lx 206=.bool false)∧(L 2=true→lx 207=.bool false)∧(L 3=true→lx 208=.int .i64 R)∧(L 4=true→lx 209=.bool true)∧(L 5=true→lx 210=.bool true)∧(L 6=true→lx 211=.bool true)∧(L 7=true→lx 212=undef)∧(L 8=true→lx 213=undef)∧(L 9=true→lx 214=undef)∧(L 10=true→lx 215=undef)∧(L 11=true→lx 216=undef)∧(L 12=true→lx 217=.bool true)∧(L 13=true→lx 218=.bool true)∧(L 14=true→lx 219=undef)∧(L 15=true→lx 220=undef)∧(L 16=true→lx 221=.bool true)∧(L 17=true→lx 222=.bool true)∧(L 18=true→lx 223=undef)∧(L 19=true→lx 224=undef)∧(L 20=true→lx 225=.bool true)∧(L 21=true→lx 226=.bool true)∧(L 22=true→lx 227=undef)∧(L 23=true→lx 228=undef)∧(L 24=true→lx 229=undef)∧(L 25=true→lx 230=undef)∧(L 26=true→lx 231=.bool true))) rfl (by kernel_rfl) (fun jj=>undef) rfl ?_ ?_ ?_
    ·exact ⟨xd (xr _),(fun h=>by cases h),(fun h=>by cases h),(fun h=>by cases h),(fun h=>by cases h),(fun h=>by cases h),(fun h=>by cases h),(fun h=>by cases h),(fun h=>by cases h),(fun h=>by cases h),(fun h=>by cases h),(fun h=>by cases h),(fun h=>by cases h),(fun h=>by cases h),(fun h=>by cases h),(fun h=>by cases h),(fun h=>by cases h),(fun h=>by cases h),(fun h=>by cases h),(fun h=>by cases h),(fun h=>by cases h),(fun h=>by cases h),(fun h=>by cases h),(fun h=>by cases h),(fun h=>by cases h),(fun h=>by cases h),(fun h=>by cases h),(fun h=>by cases h)⟩
    ·intro L lx lw ix o K hK ho hL haf hI hcl;obtain ⟨E,f0,f1,f2,f3,f4,f5,f6,f7,f8,f9,f10,f11,f12,f13,f14,f15,f16,f17,f18,f19,f20,f21,f22,f23,f24,f25,f26⟩:=hI.out
     match ix,ho,hL,haf,hK with
     | 0,ho,hL,haf,hK =>
      cases ho
      (try dsimp only)
      refine Eq.mpr (if_pos (by rfl)) ?_;go_wp2_with fail;exact hK (fun jj=>if jj=205 then .int .i64 R else lx jj) _ ⟨E,(fun _=>rfl),f1,f2,f3,f4,f5,f6,f7,f8,f9,f10,f11,f12,f13,f14,f15,f16,f17,f18,f19,f20,f21,f22,f23,f24,f25,f26⟩
     | 1,ho,hL,haf,hK =>
      cases ho
      (try dsimp only)
      rw [f0 (haf ⟨0,.data⟩ (by simp) rfl)];refine Eq.mpr (if_pos (by rfl)) ?_;go_wp2_with fail;exact hK (fun jj=>if jj=206 then .bool false else if jj=205 then .int .i64 R else lx jj) _ ⟨E,(fun _=>rfl),(fun _=>rfl),f2,f3,f4,f5,f6,f7,f8,f9,f10,f11,f12,f13,f14,f15,f16,f17,f18,f19,f20,f21,f22,f23,f24,f25,f26⟩
     | 2,ho,hL,haf,hK =>
      cases ho
      (try dsimp only)
      rw [f1 (haf ⟨1,.data⟩ (by simp) rfl)];refine Eq.mpr (if_pos (by rfl)) ?_;go_wp2_with fail;exact hK (fun jj=>if jj=207 then .bool false else if jj=206 then .bool false else lx jj) _ ⟨E,f0,(fun _=>rfl),(fun _=>rfl),f3,f4,f5,f6,f7,f8,f9,f10,f11,f12,f13,f14,f15,f16,f17,f18,f19,f20,f21,f22,f23,f24,f25,f26⟩
     | 3,ho,hL,haf,hK =>
      cases ho
      (try dsimp only)
      rw [f2 (haf ⟨2,.guard⟩ (by simp) rfl)];refine Eq.mpr (if_pos (by rfl)) ?_;go_wp2_with fail;exact hK (fun jj=>if jj=208 then .int .i64 R else if jj=207 then .bool false else lx jj) _ ⟨E,f0,f1,(fun _=>rfl),(fun _=>rfl),f4,f5,f6,f7,f8,f9,f10,f11,f12,f13,f14,f15,f16,f17,f18,f19,f20,f21,f22,f23,f24,f25,f26⟩
     | 4,ho,hL,haf,hK =>
      cases ho
      (try dsimp only)
      rw [f2 (haf ⟨2,.guard⟩ (by simp) rfl),f3 (haf ⟨3,.data⟩ (by simp) rfl)];refine Eq.mpr (if_pos (by rfl)) ?_;go_wp2_with fail;exact hK (fun jj=>if jj=209 then .bool true else if jj=207 then .bool false else if jj=208 then .int .i64 R else lx jj) _ ⟨E,f0,f1,(fun _=>rfl),(fun _=>rfl),(fun _=>rfl),f5,f6,f7,f8,f9,f10,f11,f12,f13,f14,f15,f16,f17,f18,f19,f20,f21,f22,f23,f24,f25,f26⟩
     | 5,ho,hL,haf,hK =>
      cases ho
      (try dsimp only)
      rw [f2 (haf ⟨2,.data⟩ (by simp) rfl),f4 (haf ⟨4,.data⟩ (by simp) rfl)];refine Eq.mpr (if_pos (by rfl)) ?_;go_wp2_with fail;exact hK (fun jj=>if jj=210 then .bool true else if jj=207 then .bool false else if jj=209 then .bool true else lx jj) _ ⟨E,f0,f1,(fun _=>rfl),f3,(fun _=>rfl),(fun _=>rfl),f6,f7,f8,f9,f10,f11,f12,f13,f14,f15,f16,f17,f18,f19,f20,f21,f22,f23,f24,f25,f26⟩
     | 6,ho,hL,haf,hK =>
      cases ho
      (try dsimp only)
      rw [f5 (haf ⟨5,.data⟩ (by simp) rfl)];refine Eq.mpr (if_pos (by rfl)) ?_;go_wp2_with fail;exact hK (fun jj=>if jj=211 then .bool true else if jj=210 then .bool true else lx jj) _ ⟨E,f0,f1,f2,f3,f4,(fun _=>rfl),(fun _=>rfl),f7,f8,f9,f10,f11,f12,f13,f14,f15,f16,f17,f18,f19,f20,f21,f22,f23,f24,f25,f26⟩
     | 7,ho,hL,haf,hK =>
      cases ho
      (try dsimp only)
      rw [f6 (haf ⟨6,.guard⟩ (by simp) rfl)];refine Eq.mpr (if_neg (fun h=>Bool.noConfusion (show false=true from h))) ?_;exact hK (fun jj=>if jj=212 then undef else if jj=211 then .bool true else lx jj) _ ⟨E,f0,f1,f2,f3,f4,f5,(fun _=>rfl),(fun _=>rfl),f8,f9,f10,f11,f12,f13,f14,f15,f16,f17,f18,f19,f20,f21,f22,f23,f24,f25,f26⟩
     | 8,ho,hL,haf,hK =>
      cases ho
      (try dsimp only)
      rw [f6 (haf ⟨6,.guard⟩ (by simp) rfl)];refine Eq.mpr (if_neg (fun h=>Bool.noConfusion (show false=true from h))) ?_;exact hK (fun jj=>if jj=213 then undef else if jj=211 then .bool true else lx jj) _ ⟨E,f0,f1,f2,f3,f4,f5,(fun _=>rfl),f7,(fun _=>rfl),f9,f10,f11,f12,f13,f14,f15,f16,f17,f18,f19,f20,f21,f22,f23,f24,f25,f26⟩
     | 9,ho,hL,haf,hK =>
      cases ho
      (try dsimp only)
      rw [f6 (haf ⟨6,.guard⟩ (by simp) rfl)];refine Eq.mpr (if_neg (fun h=>Bool.noConfusion (show false=true from h))) ?_;exact hK (fun jj=>if jj=214 then undef else if jj=211 then .bool true else lx jj) _ ⟨E,f0,f1,f2,f3,f4,f5,(fun _=>rfl),f7,f8,(fun _=>rfl),f10,f11,f12,f13,f14,f15,f16,f17,f18,f19,f20,f21,f22,f23,f24,f25,f26⟩
     | 10,ho,hL,haf,hK =>
      cases ho
      (try dsimp only)
      rw [f6 (haf ⟨6,.guard⟩ (by simp) rfl)];refine Eq.mpr (if_neg (fun h=>Bool.noConfusion (show false=true from h))) ?_;exact hK (fun jj=>if jj=215 then undef else if jj=211 then .bool true else lx jj) _ ⟨E,f0,f1,f2,f3,f4,f5,(fun _=>rfl),f7,f8,f9,(fun _=>rfl),f11,f12,f13,f14,f15,f16,f17,f18,f19,f20,f21,f22,f23,f24,f25,f26⟩
     | 11,ho,hL,haf,hK =>
      cases ho
      (try dsimp only)
      rw [f6 (haf ⟨6,.guard⟩ (by simp) rfl)];refine Eq.mpr (if_neg (fun h=>Bool.noConfusion (show false=true from h))) ?_;exact hK (fun jj=>if jj=216 then undef else if jj=211 then .bool true else lx jj) _ ⟨E,f0,f1,f2,f3,f4,f5,(fun _=>rfl),f7,f8,f9,f10,(fun _=>rfl),f12,f13,f14,f15,f16,f17,f18,f19,f20,f21,f22,f23,f24,f25,f26⟩
     | 12,ho,hL,haf,hK =>
      cases ho
      (try dsimp only)
      rw [f6 (haf ⟨6,.data⟩ (by simp) rfl),f11 (haf ⟨11,.data⟩ (by simp) rfl)];refine Eq.mpr (if_pos (by rfl)) ?_;go_wp2_with fail;exact hK (fun jj=>if jj=217 then .bool true else if jj=211 then .bool true else if jj=216 then undef else lx jj) _ ⟨E,f0,f1,f2,f3,f4,f5,(fun _=>rfl),f7,f8,f9,f10,(fun _=>rfl),(fun _=>rfl),f13,f14,f15,f16,f17,f18,f19,f20,f21,f22,f23,f24,f25,f26⟩
     | 13,ho,hL,haf,hK =>
      cases ho
      (try dsimp only)
      rw [f12 (haf ⟨12,.data⟩ (by simp) rfl)];refine Eq.mpr (if_pos (by rfl)) ?_;go_wp2_with fail;exact hK (fun jj=>if jj=218 then .bool true else if jj=217 then .bool true else lx jj) _ ⟨E,f0,f1,f2,f3,f4,f5,f6,f7,f8,f9,f10,f11,(fun _=>rfl),(fun _=>rfl),f14,f15,f16,f17,f18,f19,f20,f21,f22,f23,f24,f25,f26⟩
     | 14,ho,hL,haf,hK =>
      cases ho
      (try dsimp only)
      rw [f13 (haf ⟨13,.guard⟩ (by simp) rfl)];refine Eq.mpr (if_neg (fun h=>Bool.noConfusion (show false=true from h))) ?_;exact hK (fun jj=>if jj=219 then undef else if jj=218 then .bool true else lx jj) _ ⟨E,f0,f1,f2,f3,f4,f5,f6,f7,f8,f9,f10,f11,f12,(fun _=>rfl),(fun _=>rfl),f15,f16,f17,f18,f19,f20,f21,f22,f23,f24,f25,f26⟩
     | 15,ho,hL,haf,hK =>
      cases ho
      (try dsimp only)
      rw [f13 (haf ⟨13,.guard⟩ (by simp) rfl)];refine Eq.mpr (if_neg (fun h=>Bool.noConfusion (show false=true from h))) ?_;exact hK (fun jj=>if jj=220 then undef else if jj=218 then .bool true else lx jj) _ ⟨E,f0,f1,f2,f3,f4,f5,f6,f7,f8,f9,f10,f11,f12,(fun _=>rfl),f14,(fun _=>rfl),f16,f17,f18,f19,f20,f21,f22,f23,f24,f25,f26⟩
     | 16,ho,hL,haf,hK =>
      cases ho
      (try dsimp only)
      rw [f13 (haf ⟨13,.data⟩ (by simp) rfl),f15 (haf ⟨15,.data⟩ (by simp) rfl)];refine Eq.mpr (if_pos (by rfl)) ?_;go_wp2_with fail;exact hK (fun jj=>if jj=221 then .bool true else if jj=218 then .bool true else if jj=220 then undef else lx jj) _ ⟨E,f0,f1,f2,f3,f4,f5,f6,f7,f8,f9,f10,f11,f12,(fun _=>rfl),f14,(fun _=>rfl),(fun _=>rfl),f17,f18,f19,f20,f21,f22,f23,f24,f25,f26⟩
     | 17,ho,hL,haf,hK =>
      cases ho
      (try dsimp only)
      rw [f16 (haf ⟨16,.data⟩ (by simp) rfl)];refine Eq.mpr (if_pos (by rfl)) ?_;go_wp2_with fail;exact hK (fun jj=>if jj=222 then .bool true else if jj=221 then .bool true else lx jj) _ ⟨E,f0,f1,f2,f3,f4,f5,f6,f7,f8,f9,f10,f11,f12,f13,f14,f15,(fun _=>rfl),(fun _=>rfl),f18,f19,f20,f21,f22,f23,f24,f25,f26⟩
     | 18,ho,hL,haf,hK =>
      cases ho
      (try dsimp only)
      rw [f17 (haf ⟨17,.guard⟩ (by simp) rfl)];refine Eq.mpr (if_neg (fun h=>Bool.noConfusion (show false=true from h))) ?_;exact hK (fun jj=>if jj=223 then undef else if jj=222 then .bool true else lx jj) _ ⟨E,f0,f1,f2,f3,f4,f5,f6,f7,f8,f9,f10,f11,f12,f13,f14,f15,f16,(fun _=>rfl),(fun _=>rfl),f19,f20,f21,f22,f23,f24,f25,f26⟩
     | 19,ho,hL,haf,hK =>
      cases ho
      (try dsimp only)
      rw [f17 (haf ⟨17,.guard⟩ (by simp) rfl)];refine Eq.mpr (if_neg (fun h=>Bool.noConfusion (show false=true from h))) ?_;exact hK (fun jj=>if jj=224 then undef else if jj=222 then .bool true else lx jj) _ ⟨E,f0,f1,f2,f3,f4,f5,f6,f7,f8,f9,f10,f11,f12,f13,f14,f15,f16,(fun _=>rfl),f18,(fun _=>rfl),f20,f21,f22,f23,f24,f25,f26⟩
     | 20,ho,hL,haf,hK =>
      cases ho
      (try dsimp only)
      rw [f17 (haf ⟨17,.data⟩ (by simp) rfl),f19 (haf ⟨19,.data⟩ (by simp) rfl)];refine Eq.mpr (if_pos (by rfl)) ?_;go_wp2_with fail;exact hK (fun jj=>if jj=225 then .bool true else if jj=222 then .bool true else if jj=224 then undef else lx jj) _ ⟨E,f0,f1,f2,f3,f4,f5,f6,f7,f8,f9,f10,f11,f12,f13,f14,f15,f16,(fun _=>rfl),f18,(fun _=>rfl),(fun _=>rfl),f21,f22,f23,f24,f25,f26⟩
     | 21,ho,hL,haf,hK =>
      cases ho
      (try dsimp only)
      rw [f20 (haf ⟨20,.data⟩ (by simp) rfl)];refine Eq.mpr (if_pos (by rfl)) ?_;go_wp2_with fail;exact hK (fun jj=>if jj=226 then .bool true else if jj=225 then .bool true else lx jj) _ ⟨E,f0,f1,f2,f3,f4,f5,f6,f7,f8,f9,f10,f11,f12,f13,f14,f15,f16,f17,f18,f19,(fun _=>rfl),(fun _=>rfl),f22,f23,f24,f25,f26⟩
     | 22,ho,hL,haf,hK =>
      cases ho
      (try dsimp only)
      rw [f21 (haf ⟨21,.guard⟩ (by simp) rfl)];refine Eq.mpr (if_neg (fun h=>Bool.noConfusion (show false=true from h))) ?_;exact hK (fun jj=>if jj=227 then undef else if jj=226 then .bool true else lx jj) _ ⟨E,f0,f1,f2,f3,f4,f5,f6,f7,f8,f9,f10,f11,f12,f13,f14,f15,f16,f17,f18,f19,f20,(fun _=>rfl),(fun _=>rfl),f23,f24,f25,f26⟩
     | 23,ho,hL,haf,hK =>
      cases ho
      (try dsimp only)
      rw [f21 (haf ⟨21,.guard⟩ (by simp) rfl)];refine Eq.mpr (if_neg (fun h=>Bool.noConfusion (show false=true from h))) ?_;exact hK (fun jj=>if jj=228 then undef else if jj=226 then .bool true else lx jj) _ ⟨E,f0,f1,f2,f3,f4,f5,f6,f7,f8,f9,f10,f11,f12,f13,f14,f15,f16,f17,f18,f19,f20,(fun _=>rfl),f22,(fun _=>rfl),f24,f25,f26⟩
     | 24,ho,hL,haf,hK =>
      cases ho
      (try dsimp only)
      rw [f21 (haf ⟨21,.guard⟩ (by simp) rfl)];refine Eq.mpr (if_neg (fun h=>Bool.noConfusion (show false=true from h))) ?_;exact hK (fun jj=>if jj=229 then undef else if jj=226 then .bool true else lx jj) _ ⟨E,f0,f1,f2,f3,f4,f5,f6,f7,f8,f9,f10,f11,f12,f13,f14,f15,f16,f17,f18,f19,f20,(fun _=>rfl),f22,f23,(fun _=>rfl),f25,f26⟩
     | 25,ho,hL,haf,hK =>
      cases ho
      (try dsimp only)
      rw [f21 (haf ⟨21,.guard⟩ (by simp) rfl)];refine Eq.mpr (if_neg (fun h=>Bool.noConfusion (show false=true from h))) ?_;exact hK (fun jj=>if jj=230 then undef else if jj=226 then .bool true else lx jj) _ ⟨E,f0,f1,f2,f3,f4,f5,f6,f7,f8,f9,f10,f11,f12,f13,f14,f15,f16,f17,f18,f19,f20,(fun _=>rfl),f22,f23,f24,(fun _=>rfl),f26⟩
     | 26,ho,hL,haf,hK =>
      cases ho
      (try dsimp only)
      rw [f21 (haf ⟨21,.data⟩ (by simp) rfl),f25 (haf ⟨25,.data⟩ (by simp) rfl)];refine Eq.mpr (if_pos (by rfl)) ?_;go_wp2_with fail;exact hK (fun jj=>if jj=231 then .bool true else if jj=226 then .bool true else if jj=230 then undef else lx jj) _ ⟨E,f0,f1,f2,f3,f4,f5,f6,f7,f8,f9,f10,f11,f12,f13,f14,f15,f16,f17,f18,f19,f20,(fun _=>rfl),f22,f23,f24,(fun _=>rfl),(fun _=>rfl)⟩
     | k+27,ho,_,_,_=>simp at ho
    ·intro L lx w9 hall hI;obtain ⟨E,f0,f1,f2,f3,f4,f5,f6,f7,f8,f9,f10,f11,f12,f13,f14,f15,f16,f17,f18,f19,f20,f21,f22,f23,f24,f25,f26⟩:=hI.out
     (try dsimp only)
     rw [f0 (hall 0 (by simp)),f1 (hall 1 (by simp)),f2 (hall 2 (by simp)),f3 (hall 3 (by simp)),f4 (hall 4 (by simp)),f5 (hall 5 (by simp)),f6 (hall 6 (by simp)),f7 (hall 7 (by simp)),f8 (hall 8 (by simp)),f9 (hall 9 (by simp)),f10 (hall 10 (by simp)),f11 (hall 11 (by simp)),f12 (hall 12 (by simp)),f13 (hall 13 (by simp)),f14 (hall 14 (by simp)),f15 (hall 15 (by simp)),f16 (hall 16 (by simp)),f17 (hall 17 (by simp)),f18 (hall 18 (by simp)),f19 (hall 19 (by simp)),f20 (hall 20 (by simp)),f21 (hall 21 (by simp)),f22 (hall 22 (by simp)),f23 (hall 23 (by simp)),f24 (hall 24 (by simp)),f25 (hall 25 (by simp)),f26 (hall 26 (by simp))];clear hI hall f0 f1 f2 f3 f4 f5 f6 f7 f8 f9 f10 f11 f12 f13 f14 f15 f16 f17 f18 f19 f20 f21 f22 f23 f24 f25 f26;go_wp2_with fail;go_ret;exact ⟨ret_bool HB.out,xt Y1 E⟩
   have g2:decide (20<R)=false:=decide_eq_false t2;obtain ⟨ri,rfl⟩:∃ ri:Nat,R=(ri:Int):=⟨R.toNat,by omega⟩;obtain ⟨D,hD⟩:∃ D,Lib.decDigits ri=D:=⟨_,rfl⟩;have LN:Hid (∀ W,Calls Tryz.prog 101 #[.int .i64 (ri:Int)] W fun e w'=>e=.returned (sV D)∧Ext W w'):=fun W=>by rw [← hD];exact l1NumS ri (by omega) W
   have hS0:side12 t kk=!(!(D == t) || decide (kk<1) || decide (100<kk) || !((kk:Int).tmod (ri:Int) == 0)):=by
    have q1:¬ (ri:Int)<1:=t1;have q2:¬ 20<(ri:Int):=t2;unfold side12;rw [hRN,decide_eq_false q1,decide_eq_false q2,Int.toNat_natCast,hD];rfl
   clear hRN hD;cases t3:(D == t)
   ·have HB:Hid (false=Q):=(by show _=_;rw [← HQ.out,HMK.out,hBA,hS0,t3];simp);have g3:(D != t)=true:=(by simp [bne,t3]);clear hS0;have a0:=(VE 0 _ rfl).1;have a1:=(VE 1 _ rfl).1;have a2:=(VE 2 _ rfl).1;have a3:=(VE 3 _ rfl).1;have a4:=(VE 4 _ rfl).1;have a5:=(VE 5 _ rfl).1;have a6:=(VE 6 _ rfl).1;have a7:=(VE 7 _ rfl).1;have a8:=(VE 8 _ rfl).1;have a9:=(VE 9 _ rfl).1;have a10:=(VE 10 _ rfl).1;have a11:=(VE 11 _ rfl).1;have a12:=(VE 12 _ rfl).1;have a13:=(VE 13 _ rfl).1;have a14:=(VE 14 _ rfl).1;have d14:=(VE2 14 _ rfl).1;have n0:=(VN 0 _ rfl).1;have n1:=(VN 1 _ rfl).1;have n2:=(VN 2 _ rfl).1;have n3:=(VN 3 _ rfl).1;have n4:=(VN 4 _ rfl).1;have n5:=(VN 5 _ rfl).1;have n6:=(VN 6 _ rfl).1;have n7:=(VN 7 _ rfl).1;have n8:=(VN 8 _ rfl).1;have n9:=(VN 9 _ rfl).1;have n10:=(VN 10 _ rfl).1;have n11:=(VN 11 _ rfl).1;have n12:=(VN 12 _ rfl).1;have n13:=(VN 13 _ rfl).1;go_enter Tryz.func88,Tryz.ntmps88;go_wp2_with fail;clear a0 a1 a2 a3 a4 a5 a6 a7 a8 a9 a10 a11 a12 a13 a14 d14;refine (bareS _ _ _ _ _ _ _ _ _ _ _ _ _ _ _).mono ?_;rintro e w1 ⟨rfl,e1⟩;have V1:=VN.later e1;have Y1:=xt X e1;clear n0 n1 n2 n3 n4 n5 n6 n7 n8 n9 n10 n11 n12 n13;rw [hBA];have b0:=(V1 0 _ rfl).1;have b1:=(V1 1 _ rfl).1;have b2:=(V1 2 _ rfl).1;have b3:=(V1 3 _ rfl).1;have b4:=(V1 4 _ rfl).1;have b5:=(V1 5 _ rfl).1;have b6:=(V1 6 _ rfl).1;have b7:=(V1 7 _ rfl).1;have b8:=(V1 8 _ rfl).1;have b9:=(V1 9 _ rfl).1;have b10:=(V1 10 _ rfl).1;have b11:=(V1 11 _ rfl).1;have b12:=(V1 12 _ rfl).1;have b13:=(V1 13 _ rfl).1;go_wp2_with fail;refine (numS _ t _ rfl).mono ?_;rintro e w2 ⟨rfl,rfl⟩;rw [HRN.out];go_wp2_with fail;clear b0 b1 b2 b3 b4 b5 b6 b7 b8 b9 b10 b11 b12 b13;refine wp_region_letters_c (fun lx:Nat→Value=>{ tmps:=#[exV 12 t neg d x r c rf cf r2 c2 rf2 cf2 m (Value.slice p kk cap),Value.bool many,Value.pointer (some ⟨w.heap.size,0,none⟩),undef,Value.bool false,Value.pointer (some ⟨w.heap.size+1,0,none⟩),Value.int .i64 (kk:Int),Value.int .i64 (ri:Int),undef,undef,Value.pointer (some ⟨w.heap.size,0,none⟩),Value.agg #[Value.int .i64 12,sV t,Value.bool neg,Value.int .i64 d,Value.int .i64 x,Value.int .i64 r,Value.int .i64 c,Value.bool rf,Value.bool cf,Value.int .i64 r2,Value.int .i64 c2,Value.bool rf2,Value.bool cf2,Value.int .i64 m],Value.pointer (some ⟨w.heap.size,14,none⟩),Value.slice p kk cap,Value.int .i64 (kk:Int),Value.pointer (some ⟨w.heap.size+1,13,none⟩),Value.int .i64 m,Value.int .i64 (kk:Int),Value.bool false,Value.pointer (some ⟨w.heap.size+1,0,none⟩),Value.int .i64 12,Value.bool false,Value.bool false,undef,undef,undef,undef,undef,undef,undef,undef,undef,undef,undef,undef,undef,undef,undef,undef,undef,undef,undef,undef,undef,undef,undef,undef,undef,undef,undef,undef,undef,undef,Value.bool false,Value.bool false,undef,undef,undef,undef,undef,undef,undef,undef,undef,undef,undef,undef,undef,undef,undef,undef,undef,undef,undef,undef,undef,undef,undef,undef,Value.bool false,Value.bool false,undef,undef,undef,undef,undef,undef,undef,undef,undef,undef,undef,undef,undef,undef,undef,undef,undef,undef,undef,undef,undef,undef,undef,Value.agg #[Value.int .i64 12,sV t,Value.bool neg,Value.int .i64 d,Value.int .i64 x,Value.int .i64 r,Value.int .i64 c,Value.bool rf,Value.bool cf,Value.int .i64 r2,Value.int .i64 c2,Value.bool rf2,Value.bool cf2,Value.int .i64 m],Value.bool true,Value.bool false,Value.pointer (some ⟨w.heap.size+1,0,none⟩),Value.int .i64 12,Value.bool false,Value.bool false,undef,undef,undef,undef,undef,undef,undef,Value.bool false,Value.bool false,undef,undef,undef,undef,undef,undef,undef,undef,undef,undef,undef,undef,Value.bool false,Value.bool false,undef,undef,undef,undef,undef,undef,undef,undef,Value.bool false,Value.bool false,undef,undef,undef,undef,undef,undef,undef,Value.bool false,Value.bool false,undef,undef,undef,undef,undef,undef,undef,undef,undef,undef,Value.bool false,Value.bool false,Value.bool false,undef,undef,undef,undef,undef,undef,undef,Value.bool false,Value.bool false,undef,undef,undef,undef,undef,undef,undef,undef,Value.bool false,Value.bool false,undef,undef,undef,undef,undef,undef,undef,undef,undef,undef,undef,undef,undef,undef,undef,Value.bool true,Value.bool true,Value.pointer (some ⟨w.heap.size+1,1,none⟩),sV t,Value.int .i64 (ri:Int),lx 205,lx 206,lx 207,lx 208,lx 209,lx 210,lx 211,lx 212,lx 213,lx 214,lx 215,lx 216,lx 217,lx 218,lx 219,lx 220,lx 221,lx 222,lx 223,lx 224,lx 225,lx 226,lx 227,lx 228,lx 229,lx 230,lx 231,undef,undef,undef,undef,undef,undef,undef,undef,undef,undef,undef],defers:=[] }) (fun L lx lw=>Hid (Ext w2 lw∧(L 0=true→lx 205=.int .i64 (ri:Int))∧(L 1=true→lx 206=.bool false)∧(L 2=true→lx 207=.bool false)∧(L 3=true→lx 208=.int .i64 (ri:Int))∧(L 4=true→lx 209=.bool false)∧(L 5=true→lx 210=.bool false)∧(L 6=true→lx 211=.bool false)∧(L 7=true→lx 212=.int .i64 (ri:Int))∧(L 8=true→lx 213=sV D)∧(L 9=true→lx 214=.pointer (some ⟨w.heap.size+1,1,none⟩))∧(L 10=true→lx 215=sV t)∧(L 11=true→lx 216=.bool true)∧(L 12=true→lx 217=.bool true)∧(L 13=true→lx 218=.bool true)∧(L 14=true→lx 219=undef)∧(L 15=true→lx 220=undef)∧(L 16=true→lx 221=.bool true)∧(L 17=true→lx 222=.bool true)∧(L 18=true→lx 223=undef)∧(L 19=true→lx 224=undef)∧(L 20=true→lx 225=.bool true)∧(L 21=true→lx 226=.bool true)∧(L 22=true→lx 227=undef)∧(L 23=true→lx 228=undef)∧(L 24=true→lx 229=undef)∧(L 25=true→lx 230=undef)∧(L 26=true→lx 231=.bool true))) rfl (by kernel_rfl) (fun jj=>undef) rfl ?_ ?_ ?_
    ·exact ⟨xd (xr _),(fun h=>by cases h),(fun h=>by cases h),(fun h=>by cases h),(fun h=>by cases h),(fun h=>by cases h),(fun h=>by cases h),(fun h=>by cases h),(fun h=>by cases h),(fun h=>by cases h),(fun h=>by cases h),(fun h=>by cases h),(fun h=>by cases h),(fun h=>by cases h),(fun h=>by cases h),(fun h=>by cases h),(fun h=>by cases h),(fun h=>by cases h),(fun h=>by cases h),(fun h=>by cases h),(fun h=>by cases h),(fun h=>by cases h),(fun h=>by cases h),(fun h=>by cases h),(fun h=>by cases h),(fun h=>by cases h),(fun h=>by cases h),(fun h=>by cases h)⟩
    ·intro L lx lw ix o K hK ho hL haf hI hcl;obtain ⟨E,f0,f1,f2,f3,f4,f5,f6,f7,f8,f9,f10,f11,f12,f13,f14,f15,f16,f17,f18,f19,f20,f21,f22,f23,f24,f25,f26⟩:=hI.out
     match ix,ho,hL,haf,hK with
     | 0,ho,hL,haf,hK =>
      cases ho
      (try dsimp only)
      refine Eq.mpr (if_pos (by rfl)) ?_;go_wp2_with fail;exact hK (fun jj=>if jj=205 then .int .i64 (ri:Int) else lx jj) _ ⟨E,(fun _=>rfl),f1,f2,f3,f4,f5,f6,f7,f8,f9,f10,f11,f12,f13,f14,f15,f16,f17,f18,f19,f20,f21,f22,f23,f24,f25,f26⟩
     | 1,ho,hL,haf,hK =>
      cases ho
      (try dsimp only)
      rw [f0 (haf ⟨0,.data⟩ (by simp) rfl)];refine Eq.mpr (if_pos (by rfl)) ?_;go_wp2_with fail;exact hK (fun jj=>if jj=206 then .bool false else if jj=205 then .int .i64 (ri:Int) else lx jj) _ ⟨E,(fun _=>rfl),(fun _=>rfl),f2,f3,f4,f5,f6,f7,f8,f9,f10,f11,f12,f13,f14,f15,f16,f17,f18,f19,f20,f21,f22,f23,f24,f25,f26⟩
     | 2,ho,hL,haf,hK =>
      cases ho
      (try dsimp only)
      rw [f1 (haf ⟨1,.data⟩ (by simp) rfl)];refine Eq.mpr (if_pos (by rfl)) ?_;go_wp2_with fail;exact hK (fun jj=>if jj=207 then .bool false else if jj=206 then .bool false else lx jj) _ ⟨E,f0,(fun _=>rfl),(fun _=>rfl),f3,f4,f5,f6,f7,f8,f9,f10,f11,f12,f13,f14,f15,f16,f17,f18,f19,f20,f21,f22,f23,f24,f25,f26⟩
     | 3,ho,hL,haf,hK =>
      cases ho
      (try dsimp only)
      rw [f2 (haf ⟨2,.guard⟩ (by simp) rfl)];refine Eq.mpr (if_pos (by rfl)) ?_;go_wp2_with fail;exact hK (fun jj=>if jj=208 then .int .i64 (ri:Int) else if jj=207 then .bool false else lx jj) _ ⟨E,f0,f1,(fun _=>rfl),(fun _=>rfl),f4,f5,f6,f7,f8,f9,f10,f11,f12,f13,f14,f15,f16,f17,f18,f19,f20,f21,f22,f23,f24,f25,f26⟩
     | 4,ho,hL,haf,hK =>
      cases ho
      (try dsimp only)
      rw [f2 (haf ⟨2,.guard⟩ (by simp) rfl),f3 (haf ⟨3,.data⟩ (by simp) rfl)];refine Eq.mpr (if_pos (by rfl)) ?_;go_wp2_with fail;exact hK (fun jj=>if jj=209 then .bool false else if jj=207 then .bool false else if jj=208 then .int .i64 (ri:Int) else lx jj) _ ⟨E,f0,f1,(fun _=>rfl),(fun _=>rfl),(fun _=>rfl),f5,f6,f7,f8,f9,f10,f11,f12,f13,f14,f15,f16,f17,f18,f19,f20,f21,f22,f23,f24,f25,f26⟩
     | 5,ho,hL,haf,hK =>
      cases ho
      (try dsimp only)
      rw [f2 (haf ⟨2,.data⟩ (by simp) rfl),f4 (haf ⟨4,.data⟩ (by simp) rfl)];refine Eq.mpr (if_pos (by rfl)) ?_;go_wp2_with fail;exact hK (fun jj=>if jj=210 then .bool false else if jj=207 then .bool false else if jj=209 then .bool false else lx jj) _ ⟨E,f0,f1,(fun _=>rfl),f3,(fun _=>rfl),(fun _=>rfl),f6,f7,f8,f9,f10,f11,f12,f13,f14,f15,f16,f17,f18,f19,f20,f21,f22,f23,f24,f25,f26⟩
     | 6,ho,hL,haf,hK =>
      cases ho
      (try dsimp only)
      rw [f5 (haf ⟨5,.data⟩ (by simp) rfl)];refine Eq.mpr (if_pos (by rfl)) ?_;go_wp2_with fail;exact hK (fun jj=>if jj=211 then .bool false else if jj=210 then .bool false else lx jj) _ ⟨E,f0,f1,f2,f3,f4,(fun _=>rfl),(fun _=>rfl),f7,f8,f9,f10,f11,f12,f13,f14,f15,f16,f17,f18,f19,f20,f21,f22,f23,f24,f25,f26⟩
     | 7,ho,hL,haf,hK =>
      cases ho
      (try dsimp only)
      rw [f6 (haf ⟨6,.guard⟩ (by simp) rfl)];refine Eq.mpr (if_pos (by rfl)) ?_;go_wp2_with fail;exact hK (fun jj=>if jj=212 then .int .i64 (ri:Int) else if jj=211 then .bool false else lx jj) _ ⟨E,f0,f1,f2,f3,f4,f5,(fun _=>rfl),(fun _=>rfl),f8,f9,f10,f11,f12,f13,f14,f15,f16,f17,f18,f19,f20,f21,f22,f23,f24,f25,f26⟩
     | 8,ho,hL,haf,hK =>
      cases ho
      (try dsimp only)
      rw [f6 (haf ⟨6,.guard⟩ (by simp) rfl),f7 (haf ⟨7,.data⟩ (by simp) rfl)];refine Eq.mpr (if_pos (by rfl)) ?_;go_wp2_with fail;refine (LN.out lw).mono ?_;rintro rr w' ⟨rfl,e'⟩;go_wp2_with fail;exact hK (fun jj=>if jj=213 then sV D else if jj=211 then .bool false else if jj=212 then .int .i64 (ri:Int) else lx jj) _ ⟨(xt E e'),f0,f1,f2,f3,f4,f5,(fun _=>rfl),(fun _=>rfl),(fun _=>rfl),f9,f10,f11,f12,f13,f14,f15,f16,f17,f18,f19,f20,f21,f22,f23,f24,f25,f26⟩
     | 9,ho,hL,haf,hK =>
      cases ho
      (try dsimp only)
      rw [f6 (haf ⟨6,.guard⟩ (by simp) rfl)];refine Eq.mpr (if_pos (by rfl)) ?_;go_wp2_with fail;exact hK (fun jj=>if jj=214 then .pointer (some ⟨w.heap.size+1,1,none⟩) else if jj=211 then .bool false else lx jj) _ ⟨E,f0,f1,f2,f3,f4,f5,(fun _=>rfl),f7,f8,(fun _=>rfl),f10,f11,f12,f13,f14,f15,f16,f17,f18,f19,f20,f21,f22,f23,f24,f25,f26⟩
     | 10,ho,hL,haf,hK =>
      cases ho
      (try dsimp only)
      rw [f6 (haf ⟨6,.guard⟩ (by simp) rfl),f9 (haf ⟨9,.data⟩ (by simp) rfl)];refine Eq.mpr (if_pos (by rfl)) ?_;have c1:=((V1.later E) 1 _ rfl).1;go_wp2_with fail;exact hK (fun jj=>if jj=215 then sV t else if jj=211 then .bool false else if jj=214 then .pointer (some ⟨w.heap.size+1,1,none⟩) else lx jj) _ ⟨E,f0,f1,f2,f3,f4,f5,(fun _=>rfl),f7,f8,(fun _=>rfl),(fun _=>rfl),f11,f12,f13,f14,f15,f16,f17,f18,f19,f20,f21,f22,f23,f24,f25,f26⟩
     | 11,ho,hL,haf,hK =>
      cases ho
      (try dsimp only)
      rw [f6 (haf ⟨6,.guard⟩ (by simp) rfl),f8 (haf ⟨8,.data⟩ (by simp) rfl),f10 (haf ⟨10,.data⟩ (by simp) rfl)];refine Eq.mpr (if_pos (by rfl)) ?_;go_wp2_with fail;exact hK (fun jj=>if jj=216 then .bool true else if jj=211 then .bool false else if jj=213 then sV D else if jj=215 then sV t else lx jj) _ ⟨E,f0,f1,f2,f3,f4,f5,(fun _=>rfl),f7,(fun _=>rfl),f9,(fun _=>rfl),(fun _=>rfl),f12,f13,f14,f15,f16,f17,f18,f19,f20,f21,f22,f23,f24,f25,f26⟩
     | 12,ho,hL,haf,hK =>
      cases ho
      (try dsimp only)
      rw [f6 (haf ⟨6,.data⟩ (by simp) rfl),f11 (haf ⟨11,.data⟩ (by simp) rfl)];refine Eq.mpr (if_pos (by rfl)) ?_;go_wp2_with fail;exact hK (fun jj=>if jj=217 then .bool true else if jj=211 then .bool false else if jj=216 then .bool true else lx jj) _ ⟨E,f0,f1,f2,f3,f4,f5,(fun _=>rfl),f7,f8,f9,f10,(fun _=>rfl),(fun _=>rfl),f13,f14,f15,f16,f17,f18,f19,f20,f21,f22,f23,f24,f25,f26⟩
     | 13,ho,hL,haf,hK =>
      cases ho
      (try dsimp only)
      rw [f12 (haf ⟨12,.data⟩ (by simp) rfl)];refine Eq.mpr (if_pos (by rfl)) ?_;go_wp2_with fail;exact hK (fun jj=>if jj=218 then .bool true else if jj=217 then .bool true else lx jj) _ ⟨E,f0,f1,f2,f3,f4,f5,f6,f7,f8,f9,f10,f11,(fun _=>rfl),(fun _=>rfl),f14,f15,f16,f17,f18,f19,f20,f21,f22,f23,f24,f25,f26⟩
     | 14,ho,hL,haf,hK =>
      cases ho
      (try dsimp only)
      rw [f13 (haf ⟨13,.guard⟩ (by simp) rfl)];refine Eq.mpr (if_neg (fun h=>Bool.noConfusion (show false=true from h))) ?_;exact hK (fun jj=>if jj=219 then undef else if jj=218 then .bool true else lx jj) _ ⟨E,f0,f1,f2,f3,f4,f5,f6,f7,f8,f9,f10,f11,f12,(fun _=>rfl),(fun _=>rfl),f15,f16,f17,f18,f19,f20,f21,f22,f23,f24,f25,f26⟩
     | 15,ho,hL,haf,hK =>
      cases ho
      (try dsimp only)
      rw [f13 (haf ⟨13,.guard⟩ (by simp) rfl)];refine Eq.mpr (if_neg (fun h=>Bool.noConfusion (show false=true from h))) ?_;exact hK (fun jj=>if jj=220 then undef else if jj=218 then .bool true else lx jj) _ ⟨E,f0,f1,f2,f3,f4,f5,f6,f7,f8,f9,f10,f11,f12,(fun _=>rfl),f14,(fun _=>rfl),f16,f17,f18,f19,f20,f21,f22,f23,f24,f25,f26⟩
     | 16,ho,hL,haf,hK =>
      cases ho
      (try dsimp only)
      rw [f13 (haf ⟨13,.data⟩ (by simp) rfl),f15 (haf ⟨15,.data⟩ (by simp) rfl)];refine Eq.mpr (if_pos (by rfl)) ?_;go_wp2_with fail;exact hK (fun jj=>if jj=221 then .bool true else if jj=218 then .bool true else if jj=220 then undef else lx jj) _ ⟨E,f0,f1,f2,f3,f4,f5,f6,f7,f8,f9,f10,f11,f12,(fun _=>rfl),f14,(fun _=>rfl),(fun _=>rfl),f17,f18,f19,f20,f21,f22,f23,f24,f25,f26⟩
     | 17,ho,hL,haf,hK =>
      cases ho
      (try dsimp only)
      rw [f16 (haf ⟨16,.data⟩ (by simp) rfl)];refine Eq.mpr (if_pos (by rfl)) ?_;go_wp2_with fail;exact hK (fun jj=>if jj=222 then .bool true else if jj=221 then .bool true else lx jj) _ ⟨E,f0,f1,f2,f3,f4,f5,f6,f7,f8,f9,f10,f11,f12,f13,f14,f15,(fun _=>rfl),(fun _=>rfl),f18,f19,f20,f21,f22,f23,f24,f25,f26⟩
     | 18,ho,hL,haf,hK =>
      cases ho
      (try dsimp only)
      rw [f17 (haf ⟨17,.guard⟩ (by simp) rfl)];refine Eq.mpr (if_neg (fun h=>Bool.noConfusion (show false=true from h))) ?_;exact hK (fun jj=>if jj=223 then undef else if jj=222 then .bool true else lx jj) _ ⟨E,f0,f1,f2,f3,f4,f5,f6,f7,f8,f9,f10,f11,f12,f13,f14,f15,f16,(fun _=>rfl),(fun _=>rfl),f19,f20,f21,f22,f23,f24,f25,f26⟩
     | 19,ho,hL,haf,hK =>
      cases ho
      (try dsimp only)
      rw [f17 (haf ⟨17,.guard⟩ (by simp) rfl)];refine Eq.mpr (if_neg (fun h=>Bool.noConfusion (show false=true from h))) ?_;exact hK (fun jj=>if jj=224 then undef else if jj=222 then .bool true else lx jj) _ ⟨E,f0,f1,f2,f3,f4,f5,f6,f7,f8,f9,f10,f11,f12,f13,f14,f15,f16,(fun _=>rfl),f18,(fun _=>rfl),f20,f21,f22,f23,f24,f25,f26⟩
     | 20,ho,hL,haf,hK =>
      cases ho
      (try dsimp only)
      rw [f17 (haf ⟨17,.data⟩ (by simp) rfl),f19 (haf ⟨19,.data⟩ (by simp) rfl)];refine Eq.mpr (if_pos (by rfl)) ?_;go_wp2_with fail;exact hK (fun jj=>if jj=225 then .bool true else if jj=222 then .bool true else if jj=224 then undef else lx jj) _ ⟨E,f0,f1,f2,f3,f4,f5,f6,f7,f8,f9,f10,f11,f12,f13,f14,f15,f16,(fun _=>rfl),f18,(fun _=>rfl),(fun _=>rfl),f21,f22,f23,f24,f25,f26⟩
     | 21,ho,hL,haf,hK =>
      cases ho
      (try dsimp only)
      rw [f20 (haf ⟨20,.data⟩ (by simp) rfl)];refine Eq.mpr (if_pos (by rfl)) ?_;go_wp2_with fail;exact hK (fun jj=>if jj=226 then .bool true else if jj=225 then .bool true else lx jj) _ ⟨E,f0,f1,f2,f3,f4,f5,f6,f7,f8,f9,f10,f11,f12,f13,f14,f15,f16,f17,f18,f19,(fun _=>rfl),(fun _=>rfl),f22,f23,f24,f25,f26⟩
     | 22,ho,hL,haf,hK =>
      cases ho
      (try dsimp only)
      rw [f21 (haf ⟨21,.guard⟩ (by simp) rfl)];refine Eq.mpr (if_neg (fun h=>Bool.noConfusion (show false=true from h))) ?_;exact hK (fun jj=>if jj=227 then undef else if jj=226 then .bool true else lx jj) _ ⟨E,f0,f1,f2,f3,f4,f5,f6,f7,f8,f9,f10,f11,f12,f13,f14,f15,f16,f17,f18,f19,f20,(fun _=>rfl),(fun _=>rfl),f23,f24,f25,f26⟩
     | 23,ho,hL,haf,hK =>
      cases ho
      (try dsimp only)
      rw [f21 (haf ⟨21,.guard⟩ (by simp) rfl)];refine Eq.mpr (if_neg (fun h=>Bool.noConfusion (show false=true from h))) ?_;exact hK (fun jj=>if jj=228 then undef else if jj=226 then .bool true else lx jj) _ ⟨E,f0,f1,f2,f3,f4,f5,f6,f7,f8,f9,f10,f11,f12,f13,f14,f15,f16,f17,f18,f19,f20,(fun _=>rfl),f22,(fun _=>rfl),f24,f25,f26⟩
     | 24,ho,hL,haf,hK =>
      cases ho
      (try dsimp only)
      rw [f21 (haf ⟨21,.guard⟩ (by simp) rfl)];refine Eq.mpr (if_neg (fun h=>Bool.noConfusion (show false=true from h))) ?_;exact hK (fun jj=>if jj=229 then undef else if jj=226 then .bool true else lx jj) _ ⟨E,f0,f1,f2,f3,f4,f5,f6,f7,f8,f9,f10,f11,f12,f13,f14,f15,f16,f17,f18,f19,f20,(fun _=>rfl),f22,f23,(fun _=>rfl),f25,f26⟩
     | 25,ho,hL,haf,hK =>
      cases ho
      (try dsimp only)
      rw [f21 (haf ⟨21,.guard⟩ (by simp) rfl)];refine Eq.mpr (if_neg (fun h=>Bool.noConfusion (show false=true from h))) ?_;exact hK (fun jj=>if jj=230 then undef else if jj=226 then .bool true else lx jj) _ ⟨E,f0,f1,f2,f3,f4,f5,f6,f7,f8,f9,f10,f11,f12,f13,f14,f15,f16,f17,f18,f19,f20,(fun _=>rfl),f22,f23,f24,(fun _=>rfl),f26⟩
     | 26,ho,hL,haf,hK =>
      cases ho
      (try dsimp only)
      rw [f21 (haf ⟨21,.data⟩ (by simp) rfl),f25 (haf ⟨25,.data⟩ (by simp) rfl)];refine Eq.mpr (if_pos (by rfl)) ?_;go_wp2_with fail;exact hK (fun jj=>if jj=231 then .bool true else if jj=226 then .bool true else if jj=230 then undef else lx jj) _ ⟨E,f0,f1,f2,f3,f4,f5,f6,f7,f8,f9,f10,f11,f12,f13,f14,f15,f16,f17,f18,f19,f20,(fun _=>rfl),f22,f23,f24,(fun _=>rfl),(fun _=>rfl)⟩
     | k+27,ho,_,_,_=>simp at ho
    ·intro L lx w9 hall hI;obtain ⟨E,f0,f1,f2,f3,f4,f5,f6,f7,f8,f9,f10,f11,f12,f13,f14,f15,f16,f17,f18,f19,f20,f21,f22,f23,f24,f25,f26⟩:=hI.out
     (try dsimp only)
     rw [f0 (hall 0 (by simp)),f1 (hall 1 (by simp)),f2 (hall 2 (by simp)),f3 (hall 3 (by simp)),f4 (hall 4 (by simp)),f5 (hall 5 (by simp)),f6 (hall 6 (by simp)),f7 (hall 7 (by simp)),f8 (hall 8 (by simp)),f9 (hall 9 (by simp)),f10 (hall 10 (by simp)),f11 (hall 11 (by simp)),f12 (hall 12 (by simp)),f13 (hall 13 (by simp)),f14 (hall 14 (by simp)),f15 (hall 15 (by simp)),f16 (hall 16 (by simp)),f17 (hall 17 (by simp)),f18 (hall 18 (by simp)),f19 (hall 19 (by simp)),f20 (hall 20 (by simp)),f21 (hall 21 (by simp)),f22 (hall 22 (by simp)),f23 (hall 23 (by simp)),f24 (hall 24 (by simp)),f25 (hall 25 (by simp)),f26 (hall 26 (by simp))];clear hI hall f0 f1 f2 f3 f4 f5 f6 f7 f8 f9 f10 f11 f12 f13 f14 f15 f16 f17 f18 f19 f20 f21 f22 f23 f24 f25 f26;go_wp2_with fail;go_ret;exact ⟨ret_bool HB.out,xt Y1 E⟩
   have g3:(D != t)=false:=by simp [bne,t3]
   by_cases t4:kk<1
   ·have HB:Hid (false=Q):=(by show _=_;rw [← HQ.out,HMK.out,hBA,hS0,t3,decide_eq_true t4];simp);have g4:decide ((kk:Int)<1)=true:=decide_eq_true (by omega);have g4':(kk:Int)<1:=(by omega);clear hS0 t4;have a0:=(VE 0 _ rfl).1;have a1:=(VE 1 _ rfl).1;have a2:=(VE 2 _ rfl).1;have a3:=(VE 3 _ rfl).1;have a4:=(VE 4 _ rfl).1;have a5:=(VE 5 _ rfl).1;have a6:=(VE 6 _ rfl).1;have a7:=(VE 7 _ rfl).1;have a8:=(VE 8 _ rfl).1;have a9:=(VE 9 _ rfl).1;have a10:=(VE 10 _ rfl).1;have a11:=(VE 11 _ rfl).1;have a12:=(VE 12 _ rfl).1;have a13:=(VE 13 _ rfl).1;have a14:=(VE 14 _ rfl).1;have d14:=(VE2 14 _ rfl).1;have n0:=(VN 0 _ rfl).1;have n1:=(VN 1 _ rfl).1;have n2:=(VN 2 _ rfl).1;have n3:=(VN 3 _ rfl).1;have n4:=(VN 4 _ rfl).1;have n5:=(VN 5 _ rfl).1;have n6:=(VN 6 _ rfl).1;have n7:=(VN 7 _ rfl).1;have n8:=(VN 8 _ rfl).1;have n9:=(VN 9 _ rfl).1;have n10:=(VN 10 _ rfl).1;have n11:=(VN 11 _ rfl).1;have n12:=(VN 12 _ rfl).1;have n13:=(VN 13 _ rfl).1;go_enter Tryz.func88,Tryz.ntmps88;go_wp2_with fail;clear a0 a1 a2 a3 a4 a5 a6 a7 a8 a9 a10 a11 a12 a13 a14 d14;refine (bareS _ _ _ _ _ _ _ _ _ _ _ _ _ _ _).mono ?_;rintro e w1 ⟨rfl,e1⟩;have V1:=VN.later e1;have Y1:=xt X e1;clear n0 n1 n2 n3 n4 n5 n6 n7 n8 n9 n10 n11 n12 n13;rw [hBA];have b0:=(V1 0 _ rfl).1;have b1:=(V1 1 _ rfl).1;have b2:=(V1 2 _ rfl).1;have b3:=(V1 3 _ rfl).1;have b4:=(V1 4 _ rfl).1;have b5:=(V1 5 _ rfl).1;have b6:=(V1 6 _ rfl).1;have b7:=(V1 7 _ rfl).1;have b8:=(V1 8 _ rfl).1;have b9:=(V1 9 _ rfl).1;have b10:=(V1 10 _ rfl).1;have b11:=(V1 11 _ rfl).1;have b12:=(V1 12 _ rfl).1;have b13:=(V1 13 _ rfl).1;go_wp2_with fail;refine (numS _ t _ rfl).mono ?_;rintro e w2 ⟨rfl,rfl⟩;rw [HRN.out];go_wp2_with fail;clear b0 b1 b2 b3 b4 b5 b6 b7 b8 b9 b10 b11 b12 b13;refine wp_region_letters_c (fun lx:Nat→Value=>{ tmps:=#[exV 12 t neg d x r c rf cf r2 c2 rf2 cf2 m (Value.slice p kk cap),Value.bool many,Value.pointer (some ⟨w.heap.size,0,none⟩),undef,Value.bool false,Value.pointer (some ⟨w.heap.size+1,0,none⟩),Value.int .i64 (kk:Int),Value.int .i64 (ri:Int),undef,undef,Value.pointer (some ⟨w.heap.size,0,none⟩),Value.agg #[Value.int .i64 12,sV t,Value.bool neg,Value.int .i64 d,Value.int .i64 x,Value.int .i64 r,Value.int .i64 c,Value.bool rf,Value.bool cf,Value.int .i64 r2,Value.int .i64 c2,Value.bool rf2,Value.bool cf2,Value.int .i64 m],Value.pointer (some ⟨w.heap.size,14,none⟩),Value.slice p kk cap,Value.int .i64 (kk:Int),Value.pointer (some ⟨w.heap.size+1,13,none⟩),Value.int .i64 m,Value.int .i64 (kk:Int),Value.bool false,Value.pointer (some ⟨w.heap.size+1,0,none⟩),Value.int .i64 12,Value.bool false,Value.bool false,undef,undef,undef,undef,undef,undef,undef,undef,undef,undef,undef,undef,undef,undef,undef,undef,undef,undef,undef,undef,undef,undef,undef,undef,undef,undef,undef,undef,undef,undef,Value.bool false,Value.bool false,undef,undef,undef,undef,undef,undef,undef,undef,undef,undef,undef,undef,undef,undef,undef,undef,undef,undef,undef,undef,undef,undef,undef,undef,Value.bool false,Value.bool false,undef,undef,undef,undef,undef,undef,undef,undef,undef,undef,undef,undef,undef,undef,undef,undef,undef,undef,undef,undef,undef,undef,undef,Value.agg #[Value.int .i64 12,sV t,Value.bool neg,Value.int .i64 d,Value.int .i64 x,Value.int .i64 r,Value.int .i64 c,Value.bool rf,Value.bool cf,Value.int .i64 r2,Value.int .i64 c2,Value.bool rf2,Value.bool cf2,Value.int .i64 m],Value.bool true,Value.bool false,Value.pointer (some ⟨w.heap.size+1,0,none⟩),Value.int .i64 12,Value.bool false,Value.bool false,undef,undef,undef,undef,undef,undef,undef,Value.bool false,Value.bool false,undef,undef,undef,undef,undef,undef,undef,undef,undef,undef,undef,undef,Value.bool false,Value.bool false,undef,undef,undef,undef,undef,undef,undef,undef,Value.bool false,Value.bool false,undef,undef,undef,undef,undef,undef,undef,Value.bool false,Value.bool false,undef,undef,undef,undef,undef,undef,undef,undef,undef,undef,Value.bool false,Value.bool false,Value.bool false,undef,undef,undef,undef,undef,undef,undef,Value.bool false,Value.bool false,undef,undef,undef,undef,undef,undef,undef,undef,Value.bool false,Value.bool false,undef,undef,undef,undef,undef,undef,undef,undef,undef,undef,undef,undef,undef,undef,undef,Value.bool true,Value.bool true,Value.pointer (some ⟨w.heap.size+1,1,none⟩),sV t,Value.int .i64 (ri:Int),lx 205,lx 206,lx 207,lx 208,lx 209,lx 210,lx 211,lx 212,lx 213,lx 214,lx 215,lx 216,lx 217,lx 218,lx 219,lx 220,lx 221,lx 222,lx 223,lx 224,lx 225,lx 226,lx 227,lx 228,lx 229,lx 230,lx 231,undef,undef,undef,undef,undef,undef,undef,undef,undef,undef,undef],defers:=[] }) (fun L lx lw=>Hid (Ext w2 lw∧(L 0=true→lx 205=.int .i64 (ri:Int))∧(L 1=true→lx 206=.bool false)∧(L 2=true→lx 207=.bool false)∧(L 3=true→lx 208=.int .i64 (ri:Int))∧(L 4=true→lx 209=.bool false)∧(L 5=true→lx 210=.bool false)∧(L 6=true→lx 211=.bool false)∧(L 7=true→lx 212=.int .i64 (ri:Int))∧(L 8=true→lx 213=sV D)∧(L 9=true→lx 214=.pointer (some ⟨w.heap.size+1,1,none⟩))∧(L 10=true→lx 215=sV t)∧(L 11=true→lx 216=.bool false)∧(L 12=true→lx 217=.bool false)∧(L 13=true→lx 218=.bool false)∧(L 14=true→lx 219=.int .i64 (kk:Int))∧(L 15=true→lx 220=.bool true)∧(L 16=true→lx 221=.bool true)∧(L 17=true→lx 222=.bool true)∧(L 18=true→lx 223=undef)∧(L 19=true→lx 224=undef)∧(L 20=true→lx 225=.bool true)∧(L 21=true→lx 226=.bool true)∧(L 22=true→lx 227=undef)∧(L 23=true→lx 228=undef)∧(L 24=true→lx 229=undef)∧(L 25=true→lx 230=undef)∧(L 26=true→lx 231=.bool true))) rfl (by kernel_rfl) (fun jj=>undef) rfl ?_ ?_ ?_
    ·exact ⟨xd (xr _),(fun h=>by cases h),(fun h=>by cases h),(fun h=>by cases h),(fun h=>by cases h),(fun h=>by cases h),(fun h=>by cases h),(fun h=>by cases h),(fun h=>by cases h),(fun h=>by cases h),(fun h=>by cases h),(fun h=>by cases h),(fun h=>by cases h),(fun h=>by cases h),(fun h=>by cases h),(fun h=>by cases h),(fun h=>by cases h),(fun h=>by cases h),(fun h=>by cases h),(fun h=>by cases h),(fun h=>by cases h),(fun h=>by cases h),(fun h=>by cases h),(fun h=>by cases h),(fun h=>by cases h),(fun h=>by cases h),(fun h=>by cases h),(fun h=>by cases h)⟩
    ·intro L lx lw ix o K hK ho hL haf hI hcl;obtain ⟨E,f0,f1,f2,f3,f4,f5,f6,f7,f8,f9,f10,f11,f12,f13,f14,f15,f16,f17,f18,f19,f20,f21,f22,f23,f24,f25,f26⟩:=hI.out
     match ix,ho,hL,haf,hK with
     | 0,ho,hL,haf,hK =>
      cases ho
      (try dsimp only)
      refine Eq.mpr (if_pos (by rfl)) ?_;go_wp2_with fail;exact hK (fun jj=>if jj=205 then .int .i64 (ri:Int) else lx jj) _ ⟨E,(fun _=>rfl),f1,f2,f3,f4,f5,f6,f7,f8,f9,f10,f11,f12,f13,f14,f15,f16,f17,f18,f19,f20,f21,f22,f23,f24,f25,f26⟩
     | 1,ho,hL,haf,hK =>
      cases ho
      (try dsimp only)
      rw [f0 (haf ⟨0,.data⟩ (by simp) rfl)];refine Eq.mpr (if_pos (by rfl)) ?_;go_wp2_with fail;exact hK (fun jj=>if jj=206 then .bool false else if jj=205 then .int .i64 (ri:Int) else lx jj) _ ⟨E,(fun _=>rfl),(fun _=>rfl),f2,f3,f4,f5,f6,f7,f8,f9,f10,f11,f12,f13,f14,f15,f16,f17,f18,f19,f20,f21,f22,f23,f24,f25,f26⟩
     | 2,ho,hL,haf,hK =>
      cases ho
      (try dsimp only)
      rw [f1 (haf ⟨1,.data⟩ (by simp) rfl)];refine Eq.mpr (if_pos (by rfl)) ?_;go_wp2_with fail;exact hK (fun jj=>if jj=207 then .bool false else if jj=206 then .bool false else lx jj) _ ⟨E,f0,(fun _=>rfl),(fun _=>rfl),f3,f4,f5,f6,f7,f8,f9,f10,f11,f12,f13,f14,f15,f16,f17,f18,f19,f20,f21,f22,f23,f24,f25,f26⟩
     | 3,ho,hL,haf,hK =>
      cases ho
      (try dsimp only)
      rw [f2 (haf ⟨2,.guard⟩ (by simp) rfl)];refine Eq.mpr (if_pos (by rfl)) ?_;go_wp2_with fail;exact hK (fun jj=>if jj=208 then .int .i64 (ri:Int) else if jj=207 then .bool false else lx jj) _ ⟨E,f0,f1,(fun _=>rfl),(fun _=>rfl),f4,f5,f6,f7,f8,f9,f10,f11,f12,f13,f14,f15,f16,f17,f18,f19,f20,f21,f22,f23,f24,f25,f26⟩
     | 4,ho,hL,haf,hK =>
      cases ho
      (try dsimp only)
      rw [f2 (haf ⟨2,.guard⟩ (by simp) rfl),f3 (haf ⟨3,.data⟩ (by simp) rfl)];refine Eq.mpr (if_pos (by rfl)) ?_;go_wp2_with fail;exact hK (fun jj=>if jj=209 then .bool false else if jj=207 then .bool false else if jj=208 then .int .i64 (ri:Int) else lx jj) _ ⟨E,f0,f1,(fun _=>rfl),(fun _=>rfl),(fun _=>rfl),f5,f6,f7,f8,f9,f10,f11,f12,f13,f14,f15,f16,f17,f18,f19,f20,f21,f22,f23,f24,f25,f26⟩
     | 5,ho,hL,haf,hK =>
      cases ho
      (try dsimp only)
      rw [f2 (haf ⟨2,.data⟩ (by simp) rfl),f4 (haf ⟨4,.data⟩ (by simp) rfl)];refine Eq.mpr (if_pos (by rfl)) ?_;go_wp2_with fail;exact hK (fun jj=>if jj=210 then .bool false else if jj=207 then .bool false else if jj=209 then .bool false else lx jj) _ ⟨E,f0,f1,(fun _=>rfl),f3,(fun _=>rfl),(fun _=>rfl),f6,f7,f8,f9,f10,f11,f12,f13,f14,f15,f16,f17,f18,f19,f20,f21,f22,f23,f24,f25,f26⟩
     | 6,ho,hL,haf,hK =>
      cases ho
      (try dsimp only)
      rw [f5 (haf ⟨5,.data⟩ (by simp) rfl)];refine Eq.mpr (if_pos (by rfl)) ?_;go_wp2_with fail;exact hK (fun jj=>if jj=211 then .bool false else if jj=210 then .bool false else lx jj) _ ⟨E,f0,f1,f2,f3,f4,(fun _=>rfl),(fun _=>rfl),f7,f8,f9,f10,f11,f12,f13,f14,f15,f16,f17,f18,f19,f20,f21,f22,f23,f24,f25,f26⟩
     | 7,ho,hL,haf,hK =>
      cases ho
      (try dsimp only)
      rw [f6 (haf ⟨6,.guard⟩ (by simp) rfl)];refine Eq.mpr (if_pos (by rfl)) ?_;go_wp2_with fail;exact hK (fun jj=>if jj=212 then .int .i64 (ri:Int) else if jj=211 then .bool false else lx jj) _ ⟨E,f0,f1,f2,f3,f4,f5,(fun _=>rfl),(fun _=>rfl),f8,f9,f10,f11,f12,f13,f14,f15,f16,f17,f18,f19,f20,f21,f22,f23,f24,f25,f26⟩
     | 8,ho,hL,haf,hK =>
      cases ho
      (try dsimp only)
      rw [f6 (haf ⟨6,.guard⟩ (by simp) rfl),f7 (haf ⟨7,.data⟩ (by simp) rfl)];refine Eq.mpr (if_pos (by rfl)) ?_;go_wp2_with fail;refine (LN.out lw).mono ?_;rintro rr w' ⟨rfl,e'⟩;go_wp2_with fail;exact hK (fun jj=>if jj=213 then sV D else if jj=211 then .bool false else if jj=212 then .int .i64 (ri:Int) else lx jj) _ ⟨(xt E e'),f0,f1,f2,f3,f4,f5,(fun _=>rfl),(fun _=>rfl),(fun _=>rfl),f9,f10,f11,f12,f13,f14,f15,f16,f17,f18,f19,f20,f21,f22,f23,f24,f25,f26⟩
     | 9,ho,hL,haf,hK =>
      cases ho
      (try dsimp only)
      rw [f6 (haf ⟨6,.guard⟩ (by simp) rfl)];refine Eq.mpr (if_pos (by rfl)) ?_;go_wp2_with fail;exact hK (fun jj=>if jj=214 then .pointer (some ⟨w.heap.size+1,1,none⟩) else if jj=211 then .bool false else lx jj) _ ⟨E,f0,f1,f2,f3,f4,f5,(fun _=>rfl),f7,f8,(fun _=>rfl),f10,f11,f12,f13,f14,f15,f16,f17,f18,f19,f20,f21,f22,f23,f24,f25,f26⟩
     | 10,ho,hL,haf,hK =>
      cases ho
      (try dsimp only)
      rw [f6 (haf ⟨6,.guard⟩ (by simp) rfl),f9 (haf ⟨9,.data⟩ (by simp) rfl)];refine Eq.mpr (if_pos (by rfl)) ?_;have c1:=((V1.later E) 1 _ rfl).1;go_wp2_with fail;exact hK (fun jj=>if jj=215 then sV t else if jj=211 then .bool false else if jj=214 then .pointer (some ⟨w.heap.size+1,1,none⟩) else lx jj) _ ⟨E,f0,f1,f2,f3,f4,f5,(fun _=>rfl),f7,f8,(fun _=>rfl),(fun _=>rfl),f11,f12,f13,f14,f15,f16,f17,f18,f19,f20,f21,f22,f23,f24,f25,f26⟩
     | 11,ho,hL,haf,hK =>
      cases ho
      (try dsimp only)
      rw [f6 (haf ⟨6,.guard⟩ (by simp) rfl),f8 (haf ⟨8,.data⟩ (by simp) rfl),f10 (haf ⟨10,.data⟩ (by simp) rfl)];refine Eq.mpr (if_pos (by rfl)) ?_;go_wp2_with fail;exact hK (fun jj=>if jj=216 then .bool false else if jj=211 then .bool false else if jj=213 then sV D else if jj=215 then sV t else lx jj) _ ⟨E,f0,f1,f2,f3,f4,f5,(fun _=>rfl),f7,(fun _=>rfl),f9,(fun _=>rfl),(fun _=>rfl),f12,f13,f14,f15,f16,f17,f18,f19,f20,f21,f22,f23,f24,f25,f26⟩
     | 12,ho,hL,haf,hK =>
      cases ho
      (try dsimp only)
      rw [f6 (haf ⟨6,.data⟩ (by simp) rfl),f11 (haf ⟨11,.data⟩ (by simp) rfl)];refine Eq.mpr (if_pos (by rfl)) ?_;go_wp2_with fail;exact hK (fun jj=>if jj=217 then .bool false else if jj=211 then .bool false else if jj=216 then .bool false else lx jj) _ ⟨E,f0,f1,f2,f3,f4,f5,(fun _=>rfl),f7,f8,f9,f10,(fun _=>rfl),(fun _=>rfl),f13,f14,f15,f16,f17,f18,f19,f20,f21,f22,f23,f24,f25,f26⟩
     | 13,ho,hL,haf,hK =>
      cases ho
      (try dsimp only)
      rw [f12 (haf ⟨12,.data⟩ (by simp) rfl)];refine Eq.mpr (if_pos (by rfl)) ?_;go_wp2_with fail;exact hK (fun jj=>if jj=218 then .bool false else if jj=217 then .bool false else lx jj) _ ⟨E,f0,f1,f2,f3,f4,f5,f6,f7,f8,f9,f10,f11,(fun _=>rfl),(fun _=>rfl),f14,f15,f16,f17,f18,f19,f20,f21,f22,f23,f24,f25,f26⟩
     | 14,ho,hL,haf,hK =>
      cases ho
      (try dsimp only)
      rw [f13 (haf ⟨13,.guard⟩ (by simp) rfl)];refine Eq.mpr (if_pos (by rfl)) ?_;go_wp2_with fail;exact hK (fun jj=>if jj=219 then .int .i64 (kk:Int) else if jj=218 then .bool false else lx jj) _ ⟨E,f0,f1,f2,f3,f4,f5,f6,f7,f8,f9,f10,f11,f12,(fun _=>rfl),(fun _=>rfl),f15,f16,f17,f18,f19,f20,f21,f22,f23,f24,f25,f26⟩
     | 15,ho,hL,haf,hK =>
      cases ho
      (try dsimp only)
      rw [f13 (haf ⟨13,.guard⟩ (by simp) rfl),f14 (haf ⟨14,.data⟩ (by simp) rfl)];refine Eq.mpr (if_pos (by rfl)) ?_;go_wp2_with fail;exact hK (fun jj=>if jj=220 then .bool true else if jj=218 then .bool false else if jj=219 then .int .i64 (kk:Int) else lx jj) _ ⟨E,f0,f1,f2,f3,f4,f5,f6,f7,f8,f9,f10,f11,f12,(fun _=>rfl),(fun _=>rfl),(fun _=>rfl),f16,f17,f18,f19,f20,f21,f22,f23,f24,f25,f26⟩
     | 16,ho,hL,haf,hK =>
      cases ho
      (try dsimp only)
      rw [f13 (haf ⟨13,.data⟩ (by simp) rfl),f15 (haf ⟨15,.data⟩ (by simp) rfl)];refine Eq.mpr (if_pos (by rfl)) ?_;go_wp2_with fail;exact hK (fun jj=>if jj=221 then .bool true else if jj=218 then .bool false else if jj=220 then .bool true else lx jj) _ ⟨E,f0,f1,f2,f3,f4,f5,f6,f7,f8,f9,f10,f11,f12,(fun _=>rfl),f14,(fun _=>rfl),(fun _=>rfl),f17,f18,f19,f20,f21,f22,f23,f24,f25,f26⟩
     | 17,ho,hL,haf,hK =>
      cases ho
      (try dsimp only)
      rw [f16 (haf ⟨16,.data⟩ (by simp) rfl)];refine Eq.mpr (if_pos (by rfl)) ?_;go_wp2_with fail;exact hK (fun jj=>if jj=222 then .bool true else if jj=221 then .bool true else lx jj) _ ⟨E,f0,f1,f2,f3,f4,f5,f6,f7,f8,f9,f10,f11,f12,f13,f14,f15,(fun _=>rfl),(fun _=>rfl),f18,f19,f20,f21,f22,f23,f24,f25,f26⟩
     | 18,ho,hL,haf,hK =>
      cases ho
      (try dsimp only)
      rw [f17 (haf ⟨17,.guard⟩ (by simp) rfl)];refine Eq.mpr (if_neg (fun h=>Bool.noConfusion (show false=true from h))) ?_;exact hK (fun jj=>if jj=223 then undef else if jj=222 then .bool true else lx jj) _ ⟨E,f0,f1,f2,f3,f4,f5,f6,f7,f8,f9,f10,f11,f12,f13,f14,f15,f16,(fun _=>rfl),(fun _=>rfl),f19,f20,f21,f22,f23,f24,f25,f26⟩
     | 19,ho,hL,haf,hK =>
      cases ho
      (try dsimp only)
      rw [f17 (haf ⟨17,.guard⟩ (by simp) rfl)];refine Eq.mpr (if_neg (fun h=>Bool.noConfusion (show false=true from h))) ?_;exact hK (fun jj=>if jj=224 then undef else if jj=222 then .bool true else lx jj) _ ⟨E,f0,f1,f2,f3,f4,f5,f6,f7,f8,f9,f10,f11,f12,f13,f14,f15,f16,(fun _=>rfl),f18,(fun _=>rfl),f20,f21,f22,f23,f24,f25,f26⟩
     | 20,ho,hL,haf,hK =>
      cases ho
      (try dsimp only)
      rw [f17 (haf ⟨17,.data⟩ (by simp) rfl),f19 (haf ⟨19,.data⟩ (by simp) rfl)];refine Eq.mpr (if_pos (by rfl)) ?_;go_wp2_with fail;exact hK (fun jj=>if jj=225 then .bool true else if jj=222 then .bool true else if jj=224 then undef else lx jj) _ ⟨E,f0,f1,f2,f3,f4,f5,f6,f7,f8,f9,f10,f11,f12,f13,f14,f15,f16,(fun _=>rfl),f18,(fun _=>rfl),(fun _=>rfl),f21,f22,f23,f24,f25,f26⟩
     | 21,ho,hL,haf,hK =>
      cases ho
      (try dsimp only)
      rw [f20 (haf ⟨20,.data⟩ (by simp) rfl)];refine Eq.mpr (if_pos (by rfl)) ?_;go_wp2_with fail;exact hK (fun jj=>if jj=226 then .bool true else if jj=225 then .bool true else lx jj) _ ⟨E,f0,f1,f2,f3,f4,f5,f6,f7,f8,f9,f10,f11,f12,f13,f14,f15,f16,f17,f18,f19,(fun _=>rfl),(fun _=>rfl),f22,f23,f24,f25,f26⟩
     | 22,ho,hL,haf,hK =>
      cases ho
      (try dsimp only)
      rw [f21 (haf ⟨21,.guard⟩ (by simp) rfl)];refine Eq.mpr (if_neg (fun h=>Bool.noConfusion (show false=true from h))) ?_;exact hK (fun jj=>if jj=227 then undef else if jj=226 then .bool true else lx jj) _ ⟨E,f0,f1,f2,f3,f4,f5,f6,f7,f8,f9,f10,f11,f12,f13,f14,f15,f16,f17,f18,f19,f20,(fun _=>rfl),(fun _=>rfl),f23,f24,f25,f26⟩
     | 23,ho,hL,haf,hK =>
      cases ho
      (try dsimp only)
      rw [f21 (haf ⟨21,.guard⟩ (by simp) rfl)];refine Eq.mpr (if_neg (fun h=>Bool.noConfusion (show false=true from h))) ?_;exact hK (fun jj=>if jj=228 then undef else if jj=226 then .bool true else lx jj) _ ⟨E,f0,f1,f2,f3,f4,f5,f6,f7,f8,f9,f10,f11,f12,f13,f14,f15,f16,f17,f18,f19,f20,(fun _=>rfl),f22,(fun _=>rfl),f24,f25,f26⟩
     | 24,ho,hL,haf,hK =>
      cases ho
      (try dsimp only)
      rw [f21 (haf ⟨21,.guard⟩ (by simp) rfl)];refine Eq.mpr (if_neg (fun h=>Bool.noConfusion (show false=true from h))) ?_;exact hK (fun jj=>if jj=229 then undef else if jj=226 then .bool true else lx jj) _ ⟨E,f0,f1,f2,f3,f4,f5,f6,f7,f8,f9,f10,f11,f12,f13,f14,f15,f16,f17,f18,f19,f20,(fun _=>rfl),f22,f23,(fun _=>rfl),f25,f26⟩
     | 25,ho,hL,haf,hK =>
      cases ho
      (try dsimp only)
      rw [f21 (haf ⟨21,.guard⟩ (by simp) rfl)];refine Eq.mpr (if_neg (fun h=>Bool.noConfusion (show false=true from h))) ?_;exact hK (fun jj=>if jj=230 then undef else if jj=226 then .bool true else lx jj) _ ⟨E,f0,f1,f2,f3,f4,f5,f6,f7,f8,f9,f10,f11,f12,f13,f14,f15,f16,f17,f18,f19,f20,(fun _=>rfl),f22,f23,f24,(fun _=>rfl),f26⟩
     | 26,ho,hL,haf,hK =>
      cases ho
      (try dsimp only)
      rw [f21 (haf ⟨21,.data⟩ (by simp) rfl),f25 (haf ⟨25,.data⟩ (by simp) rfl)];refine Eq.mpr (if_pos (by rfl)) ?_;go_wp2_with fail;exact hK (fun jj=>if jj=231 then .bool true else if jj=226 then .bool true else if jj=230 then undef else lx jj) _ ⟨E,f0,f1,f2,f3,f4,f5,f6,f7,f8,f9,f10,f11,f12,f13,f14,f15,f16,f17,f18,f19,f20,(fun _=>rfl),f22,f23,f24,(fun _=>rfl),(fun _=>rfl)⟩
     | k+27,ho,_,_,_=>simp at ho
    ·intro L lx w9 hall hI;obtain ⟨E,f0,f1,f2,f3,f4,f5,f6,f7,f8,f9,f10,f11,f12,f13,f14,f15,f16,f17,f18,f19,f20,f21,f22,f23,f24,f25,f26⟩:=hI.out
     (try dsimp only)
     rw [f0 (hall 0 (by simp)),f1 (hall 1 (by simp)),f2 (hall 2 (by simp)),f3 (hall 3 (by simp)),f4 (hall 4 (by simp)),f5 (hall 5 (by simp)),f6 (hall 6 (by simp)),f7 (hall 7 (by simp)),f8 (hall 8 (by simp)),f9 (hall 9 (by simp)),f10 (hall 10 (by simp)),f11 (hall 11 (by simp)),f12 (hall 12 (by simp)),f13 (hall 13 (by simp)),f14 (hall 14 (by simp)),f15 (hall 15 (by simp)),f16 (hall 16 (by simp)),f17 (hall 17 (by simp)),f18 (hall 18 (by simp)),f19 (hall 19 (by simp)),f20 (hall 20 (by simp)),f21 (hall 21 (by simp)),f22 (hall 22 (by simp)),f23 (hall 23 (by simp)),f24 (hall 24 (by simp)),f25 (hall 25 (by simp)),f26 (hall 26 (by simp))];clear hI hall f0 f1 f2 f3 f4 f5 f6 f7 f8 f9 f10 f11 f12 f13 f14 f15 f16 f17 f18 f19 f20 f21 f22 f23 f24 f25 f26;go_wp2_with fail;go_ret;exact ⟨ret_bool HB.out,xt Y1 E⟩
   have g4:decide ((kk:Int)<1)=false:=decide_eq_false (by omega);have g4':¬ (kk:Int)<1:=by omega
   by_cases t5:100<kk
   ·have HB:Hid (false=Q):=(by show _=_;rw [← HQ.out,HMK.out,hBA,hS0,t3,decide_eq_false t4,decide_eq_true t5];simp);have g5:decide (100<(kk:Int))=true:=decide_eq_true (by omega);have g5':100<(kk:Int):=(by omega);clear hS0 t4 t5;have a0:=(VE 0 _ rfl).1;have a1:=(VE 1 _ rfl).1;have a2:=(VE 2 _ rfl).1;have a3:=(VE 3 _ rfl).1;have a4:=(VE 4 _ rfl).1;have a5:=(VE 5 _ rfl).1;have a6:=(VE 6 _ rfl).1;have a7:=(VE 7 _ rfl).1;have a8:=(VE 8 _ rfl).1;have a9:=(VE 9 _ rfl).1;have a10:=(VE 10 _ rfl).1;have a11:=(VE 11 _ rfl).1;have a12:=(VE 12 _ rfl).1;have a13:=(VE 13 _ rfl).1;have a14:=(VE 14 _ rfl).1;have d14:=(VE2 14 _ rfl).1;have n0:=(VN 0 _ rfl).1;have n1:=(VN 1 _ rfl).1;have n2:=(VN 2 _ rfl).1;have n3:=(VN 3 _ rfl).1;have n4:=(VN 4 _ rfl).1;have n5:=(VN 5 _ rfl).1;have n6:=(VN 6 _ rfl).1;have n7:=(VN 7 _ rfl).1;have n8:=(VN 8 _ rfl).1;have n9:=(VN 9 _ rfl).1;have n10:=(VN 10 _ rfl).1;have n11:=(VN 11 _ rfl).1;have n12:=(VN 12 _ rfl).1;have n13:=(VN 13 _ rfl).1;go_enter Tryz.func88,Tryz.ntmps88;go_wp2_with fail;clear a0 a1 a2 a3 a4 a5 a6 a7 a8 a9 a10 a11 a12 a13 a14 d14;refine (bareS _ _ _ _ _ _ _ _ _ _ _ _ _ _ _).mono ?_;rintro e w1 ⟨rfl,e1⟩;have V1:=VN.later e1;have Y1:=xt X e1;clear n0 n1 n2 n3 n4 n5 n6 n7 n8 n9 n10 n11 n12 n13;rw [hBA];have b0:=(V1 0 _ rfl).1;have b1:=(V1 1 _ rfl).1;have b2:=(V1 2 _ rfl).1;have b3:=(V1 3 _ rfl).1;have b4:=(V1 4 _ rfl).1;have b5:=(V1 5 _ rfl).1;have b6:=(V1 6 _ rfl).1;have b7:=(V1 7 _ rfl).1;have b8:=(V1 8 _ rfl).1;have b9:=(V1 9 _ rfl).1;have b10:=(V1 10 _ rfl).1;have b11:=(V1 11 _ rfl).1;have b12:=(V1 12 _ rfl).1;have b13:=(V1 13 _ rfl).1;go_wp2_with fail;refine (numS _ t _ rfl).mono ?_;rintro e w2 ⟨rfl,rfl⟩;rw [HRN.out];go_wp2_with fail;clear b0 b1 b2 b3 b4 b5 b6 b7 b8 b9 b10 b11 b12 b13;refine wp_region_letters_c (fun lx:Nat→Value=>{ tmps:=#[exV 12 t neg d x r c rf cf r2 c2 rf2 cf2 m (Value.slice p kk cap),Value.bool many,Value.pointer (some ⟨w.heap.size,0,none⟩),undef,Value.bool false,Value.pointer (some ⟨w.heap.size+1,0,none⟩),Value.int .i64 (kk:Int),Value.int .i64 (ri:Int),undef,undef,Value.pointer (some ⟨w.heap.size,0,none⟩),Value.agg #[Value.int .i64 12,sV t,Value.bool neg,Value.int .i64 d,Value.int .i64 x,Value.int .i64 r,Value.int .i64 c,Value.bool rf,Value.bool cf,Value.int .i64 r2,Value.int .i64 c2,Value.bool rf2,Value.bool cf2,Value.int .i64 m],Value.pointer (some ⟨w.heap.size,14,none⟩),Value.slice p kk cap,Value.int .i64 (kk:Int),Value.pointer (some ⟨w.heap.size+1,13,none⟩),Value.int .i64 m,Value.int .i64 (kk:Int),Value.bool false,Value.pointer (some ⟨w.heap.size+1,0,none⟩),Value.int .i64 12,Value.bool false,Value.bool false,undef,undef,undef,undef,undef,undef,undef,undef,undef,undef,undef,undef,undef,undef,undef,undef,undef,undef,undef,undef,undef,undef,undef,undef,undef,undef,undef,undef,undef,undef,Value.bool false,Value.bool false,undef,undef,undef,undef,undef,undef,undef,undef,undef,undef,undef,undef,undef,undef,undef,undef,undef,undef,undef,undef,undef,undef,undef,undef,Value.bool false,Value.bool false,undef,undef,undef,undef,undef,undef,undef,undef,undef,undef,undef,undef,undef,undef,undef,undef,undef,undef,undef,undef,undef,undef,undef,Value.agg #[Value.int .i64 12,sV t,Value.bool neg,Value.int .i64 d,Value.int .i64 x,Value.int .i64 r,Value.int .i64 c,Value.bool rf,Value.bool cf,Value.int .i64 r2,Value.int .i64 c2,Value.bool rf2,Value.bool cf2,Value.int .i64 m],Value.bool true,Value.bool false,Value.pointer (some ⟨w.heap.size+1,0,none⟩),Value.int .i64 12,Value.bool false,Value.bool false,undef,undef,undef,undef,undef,undef,undef,Value.bool false,Value.bool false,undef,undef,undef,undef,undef,undef,undef,undef,undef,undef,undef,undef,Value.bool false,Value.bool false,undef,undef,undef,undef,undef,undef,undef,undef,Value.bool false,Value.bool false,undef,undef,undef,undef,undef,undef,undef,Value.bool false,Value.bool false,undef,undef,undef,undef,undef,undef,undef,undef,undef,undef,Value.bool false,Value.bool false,Value.bool false,undef,undef,undef,undef,undef,undef,undef,Value.bool false,Value.bool false,undef,undef,undef,undef,undef,undef,undef,undef,Value.bool false,Value.bool false,undef,undef,undef,undef,undef,undef,undef,undef,undef,undef,undef,undef,undef,undef,undef,Value.bool true,Value.bool true,Value.pointer (some ⟨w.heap.size+1,1,none⟩),sV t,Value.int .i64 (ri:Int),lx 205,lx 206,lx 207,lx 208,lx 209,lx 210,lx 211,lx 212,lx 213,lx 214,lx 215,lx 216,lx 217,lx 218,lx 219,lx 220,lx 221,lx 222,lx 223,lx 224,lx 225,lx 226,lx 227,lx 228,lx 229,lx 230,lx 231,undef,undef,undef,undef,undef,undef,undef,undef,undef,undef,undef],defers:=[] }) (fun L lx lw=>Hid (Ext w2 lw∧(L 0=true→lx 205=.int .i64 (ri:Int))∧(L 1=true→lx 206=.bool false)∧(L 2=true→lx 207=.bool false)∧(L 3=true→lx 208=.int .i64 (ri:Int))∧(L 4=true→lx 209=.bool false)∧(L 5=true→lx 210=.bool false)∧(L 6=true→lx 211=.bool false)∧(L 7=true→lx 212=.int .i64 (ri:Int))∧(L 8=true→lx 213=sV D)∧(L 9=true→lx 214=.pointer (some ⟨w.heap.size+1,1,none⟩))∧(L 10=true→lx 215=sV t)∧(L 11=true→lx 216=.bool false)∧(L 12=true→lx 217=.bool false)∧(L 13=true→lx 218=.bool false)∧(L 14=true→lx 219=.int .i64 (kk:Int))∧(L 15=true→lx 220=.bool false)∧(L 16=true→lx 221=.bool false)∧(L 17=true→lx 222=.bool false)∧(L 18=true→lx 223=.int .i64 (kk:Int))∧(L 19=true→lx 224=.bool true)∧(L 20=true→lx 225=.bool true)∧(L 21=true→lx 226=.bool true)∧(L 22=true→lx 227=undef)∧(L 23=true→lx 228=undef)∧(L 24=true→lx 229=undef)∧(L 25=true→lx 230=undef)∧(L 26=true→lx 231=.bool true))) rfl (by kernel_rfl) (fun jj=>undef) rfl ?_ ?_ ?_
    ·exact ⟨xd (xr _),(fun h=>by cases h),(fun h=>by cases h),(fun h=>by cases h),(fun h=>by cases h),(fun h=>by cases h),(fun h=>by cases h),(fun h=>by cases h),(fun h=>by cases h),(fun h=>by cases h),(fun h=>by cases h),(fun h=>by cases h),(fun h=>by cases h),(fun h=>by cases h),(fun h=>by cases h),(fun h=>by cases h),(fun h=>by cases h),(fun h=>by cases h),(fun h=>by cases h),(fun h=>by cases h),(fun h=>by cases h),(fun h=>by cases h),(fun h=>by cases h),(fun h=>by cases h),(fun h=>by cases h),(fun h=>by cases h),(fun h=>by cases h),(fun h=>by cases h)⟩
    ·intro L lx lw ix o K hK ho hL haf hI hcl;obtain ⟨E,f0,f1,f2,f3,f4,f5,f6,f7,f8,f9,f10,f11,f12,f13,f14,f15,f16,f17,f18,f19,f20,f21,f22,f23,f24,f25,f26⟩:=hI.out
     match ix,ho,hL,haf,hK with
     | 0,ho,hL,haf,hK =>
      cases ho
      (try dsimp only)
      refine Eq.mpr (if_pos (by rfl)) ?_;go_wp2_with fail;exact hK (fun jj=>if jj=205 then .int .i64 (ri:Int) else lx jj) _ ⟨E,(fun _=>rfl),f1,f2,f3,f4,f5,f6,f7,f8,f9,f10,f11,f12,f13,f14,f15,f16,f17,f18,f19,f20,f21,f22,f23,f24,f25,f26⟩
     | 1,ho,hL,haf,hK =>
      cases ho
      (try dsimp only)
      rw [f0 (haf ⟨0,.data⟩ (by simp) rfl)];refine Eq.mpr (if_pos (by rfl)) ?_;go_wp2_with fail;exact hK (fun jj=>if jj=206 then .bool false else if jj=205 then .int .i64 (ri:Int) else lx jj) _ ⟨E,(fun _=>rfl),(fun _=>rfl),f2,f3,f4,f5,f6,f7,f8,f9,f10,f11,f12,f13,f14,f15,f16,f17,f18,f19,f20,f21,f22,f23,f24,f25,f26⟩
     | 2,ho,hL,haf,hK =>
      cases ho
      (try dsimp only)
      rw [f1 (haf ⟨1,.data⟩ (by simp) rfl)];refine Eq.mpr (if_pos (by rfl)) ?_;go_wp2_with fail;exact hK (fun jj=>if jj=207 then .bool false else if jj=206 then .bool false else lx jj) _ ⟨E,f0,(fun _=>rfl),(fun _=>rfl),f3,f4,f5,f6,f7,f8,f9,f10,f11,f12,f13,f14,f15,f16,f17,f18,f19,f20,f21,f22,f23,f24,f25,f26⟩
     | 3,ho,hL,haf,hK =>
      cases ho
      (try dsimp only)
      rw [f2 (haf ⟨2,.guard⟩ (by simp) rfl)];refine Eq.mpr (if_pos (by rfl)) ?_;go_wp2_with fail;exact hK (fun jj=>if jj=208 then .int .i64 (ri:Int) else if jj=207 then .bool false else lx jj) _ ⟨E,f0,f1,(fun _=>rfl),(fun _=>rfl),f4,f5,f6,f7,f8,f9,f10,f11,f12,f13,f14,f15,f16,f17,f18,f19,f20,f21,f22,f23,f24,f25,f26⟩
     | 4,ho,hL,haf,hK =>
      cases ho
      (try dsimp only)
      rw [f2 (haf ⟨2,.guard⟩ (by simp) rfl),f3 (haf ⟨3,.data⟩ (by simp) rfl)];refine Eq.mpr (if_pos (by rfl)) ?_;go_wp2_with fail;exact hK (fun jj=>if jj=209 then .bool false else if jj=207 then .bool false else if jj=208 then .int .i64 (ri:Int) else lx jj) _ ⟨E,f0,f1,(fun _=>rfl),(fun _=>rfl),(fun _=>rfl),f5,f6,f7,f8,f9,f10,f11,f12,f13,f14,f15,f16,f17,f18,f19,f20,f21,f22,f23,f24,f25,f26⟩
     | 5,ho,hL,haf,hK =>
      cases ho
      (try dsimp only)
      rw [f2 (haf ⟨2,.data⟩ (by simp) rfl),f4 (haf ⟨4,.data⟩ (by simp) rfl)];refine Eq.mpr (if_pos (by rfl)) ?_;go_wp2_with fail;exact hK (fun jj=>if jj=210 then .bool false else if jj=207 then .bool false else if jj=209 then .bool false else lx jj) _ ⟨E,f0,f1,(fun _=>rfl),f3,(fun _=>rfl),(fun _=>rfl),f6,f7,f8,f9,f10,f11,f12,f13,f14,f15,f16,f17,f18,f19,f20,f21,f22,f23,f24,f25,f26⟩
     | 6,ho,hL,haf,hK =>
      cases ho
      (try dsimp only)
      rw [f5 (haf ⟨5,.data⟩ (by simp) rfl)];refine Eq.mpr (if_pos (by rfl)) ?_;go_wp2_with fail;exact hK (fun jj=>if jj=211 then .bool false else if jj=210 then .bool false else lx jj) _ ⟨E,f0,f1,f2,f3,f4,(fun _=>rfl),(fun _=>rfl),f7,f8,f9,f10,f11,f12,f13,f14,f15,f16,f17,f18,f19,f20,f21,f22,f23,f24,f25,f26⟩
     | 7,ho,hL,haf,hK =>
      cases ho
      (try dsimp only)
      rw [f6 (haf ⟨6,.guard⟩ (by simp) rfl)];refine Eq.mpr (if_pos (by rfl)) ?_;go_wp2_with fail;exact hK (fun jj=>if jj=212 then .int .i64 (ri:Int) else if jj=211 then .bool false else lx jj) _ ⟨E,f0,f1,f2,f3,f4,f5,(fun _=>rfl),(fun _=>rfl),f8,f9,f10,f11,f12,f13,f14,f15,f16,f17,f18,f19,f20,f21,f22,f23,f24,f25,f26⟩
     | 8,ho,hL,haf,hK =>
      cases ho
      (try dsimp only)
      rw [f6 (haf ⟨6,.guard⟩ (by simp) rfl),f7 (haf ⟨7,.data⟩ (by simp) rfl)];refine Eq.mpr (if_pos (by rfl)) ?_;go_wp2_with fail;refine (LN.out lw).mono ?_;rintro rr w' ⟨rfl,e'⟩;go_wp2_with fail;exact hK (fun jj=>if jj=213 then sV D else if jj=211 then .bool false else if jj=212 then .int .i64 (ri:Int) else lx jj) _ ⟨(xt E e'),f0,f1,f2,f3,f4,f5,(fun _=>rfl),(fun _=>rfl),(fun _=>rfl),f9,f10,f11,f12,f13,f14,f15,f16,f17,f18,f19,f20,f21,f22,f23,f24,f25,f26⟩
     | 9,ho,hL,haf,hK =>
      cases ho
      (try dsimp only)
      rw [f6 (haf ⟨6,.guard⟩ (by simp) rfl)];refine Eq.mpr (if_pos (by rfl)) ?_;go_wp2_with fail;exact hK (fun jj=>if jj=214 then .pointer (some ⟨w.heap.size+1,1,none⟩) else if jj=211 then .bool false else lx jj) _ ⟨E,f0,f1,f2,f3,f4,f5,(fun _=>rfl),f7,f8,(fun _=>rfl),f10,f11,f12,f13,f14,f15,f16,f17,f18,f19,f20,f21,f22,f23,f24,f25,f26⟩
     | 10,ho,hL,haf,hK =>
      cases ho
      (try dsimp only)
      rw [f6 (haf ⟨6,.guard⟩ (by simp) rfl),f9 (haf ⟨9,.data⟩ (by simp) rfl)];refine Eq.mpr (if_pos (by rfl)) ?_;have c1:=((V1.later E) 1 _ rfl).1;go_wp2_with fail;exact hK (fun jj=>if jj=215 then sV t else if jj=211 then .bool false else if jj=214 then .pointer (some ⟨w.heap.size+1,1,none⟩) else lx jj) _ ⟨E,f0,f1,f2,f3,f4,f5,(fun _=>rfl),f7,f8,(fun _=>rfl),(fun _=>rfl),f11,f12,f13,f14,f15,f16,f17,f18,f19,f20,f21,f22,f23,f24,f25,f26⟩
     | 11,ho,hL,haf,hK =>
      cases ho
      (try dsimp only)
      rw [f6 (haf ⟨6,.guard⟩ (by simp) rfl),f8 (haf ⟨8,.data⟩ (by simp) rfl),f10 (haf ⟨10,.data⟩ (by simp) rfl)];refine Eq.mpr (if_pos (by rfl)) ?_;go_wp2_with fail;exact hK (fun jj=>if jj=216 then .bool false else if jj=211 then .bool false else if jj=213 then sV D else if jj=215 then sV t else lx jj) _ ⟨E,f0,f1,f2,f3,f4,f5,(fun _=>rfl),f7,(fun _=>rfl),f9,(fun _=>rfl),(fun _=>rfl),f12,f13,f14,f15,f16,f17,f18,f19,f20,f21,f22,f23,f24,f25,f26⟩
     | 12,ho,hL,haf,hK =>
      cases ho
      (try dsimp only)
      rw [f6 (haf ⟨6,.data⟩ (by simp) rfl),f11 (haf ⟨11,.data⟩ (by simp) rfl)];refine Eq.mpr (if_pos (by rfl)) ?_;go_wp2_with fail;exact hK (fun jj=>if jj=217 then .bool false else if jj=211 then .bool false else if jj=216 then .bool false else lx jj) _ ⟨E,f0,f1,f2,f3,f4,f5,(fun _=>rfl),f7,f8,f9,f10,(fun _=>rfl),(fun _=>rfl),f13,f14,f15,f16,f17,f18,f19,f20,f21,f22,f23,f24,f25,f26⟩
     | 13,ho,hL,haf,hK =>
      cases ho
      (try dsimp only)
      rw [f12 (haf ⟨12,.data⟩ (by simp) rfl)];refine Eq.mpr (if_pos (by rfl)) ?_;go_wp2_with fail;exact hK (fun jj=>if jj=218 then .bool false else if jj=217 then .bool false else lx jj) _ ⟨E,f0,f1,f2,f3,f4,f5,f6,f7,f8,f9,f10,f11,(fun _=>rfl),(fun _=>rfl),f14,f15,f16,f17,f18,f19,f20,f21,f22,f23,f24,f25,f26⟩
     | 14,ho,hL,haf,hK =>
      cases ho
      (try dsimp only)
      rw [f13 (haf ⟨13,.guard⟩ (by simp) rfl)];refine Eq.mpr (if_pos (by rfl)) ?_;go_wp2_with fail;exact hK (fun jj=>if jj=219 then .int .i64 (kk:Int) else if jj=218 then .bool false else lx jj) _ ⟨E,f0,f1,f2,f3,f4,f5,f6,f7,f8,f9,f10,f11,f12,(fun _=>rfl),(fun _=>rfl),f15,f16,f17,f18,f19,f20,f21,f22,f23,f24,f25,f26⟩
     | 15,ho,hL,haf,hK =>
      cases ho
      (try dsimp only)
      rw [f13 (haf ⟨13,.guard⟩ (by simp) rfl),f14 (haf ⟨14,.data⟩ (by simp) rfl)];refine Eq.mpr (if_pos (by rfl)) ?_;go_wp2_with fail;exact hK (fun jj=>if jj=220 then .bool false else if jj=218 then .bool false else if jj=219 then .int .i64 (kk:Int) else lx jj) _ ⟨E,f0,f1,f2,f3,f4,f5,f6,f7,f8,f9,f10,f11,f12,(fun _=>rfl),(fun _=>rfl),(fun _=>rfl),f16,f17,f18,f19,f20,f21,f22,f23,f24,f25,f26⟩
     | 16,ho,hL,haf,hK =>
      cases ho
      (try dsimp only)
      rw [f13 (haf ⟨13,.data⟩ (by simp) rfl),f15 (haf ⟨15,.data⟩ (by simp) rfl)];refine Eq.mpr (if_pos (by rfl)) ?_;go_wp2_with fail;exact hK (fun jj=>if jj=221 then .bool false else if jj=218 then .bool false else if jj=220 then .bool false else lx jj) _ ⟨E,f0,f1,f2,f3,f4,f5,f6,f7,f8,f9,f10,f11,f12,(fun _=>rfl),f14,(fun _=>rfl),(fun _=>rfl),f17,f18,f19,f20,f21,f22,f23,f24,f25,f26⟩
     | 17,ho,hL,haf,hK =>
      cases ho
      (try dsimp only)
      rw [f16 (haf ⟨16,.data⟩ (by simp) rfl)];refine Eq.mpr (if_pos (by rfl)) ?_;go_wp2_with fail;exact hK (fun jj=>if jj=222 then .bool false else if jj=221 then .bool false else lx jj) _ ⟨E,f0,f1,f2,f3,f4,f5,f6,f7,f8,f9,f10,f11,f12,f13,f14,f15,(fun _=>rfl),(fun _=>rfl),f18,f19,f20,f21,f22,f23,f24,f25,f26⟩
     | 18,ho,hL,haf,hK =>
      cases ho
      (try dsimp only)
      rw [f17 (haf ⟨17,.guard⟩ (by simp) rfl)];refine Eq.mpr (if_pos (by rfl)) ?_;go_wp2_with fail;exact hK (fun jj=>if jj=223 then .int .i64 (kk:Int) else if jj=222 then .bool false else lx jj) _ ⟨E,f0,f1,f2,f3,f4,f5,f6,f7,f8,f9,f10,f11,f12,f13,f14,f15,f16,(fun _=>rfl),(fun _=>rfl),f19,f20,f21,f22,f23,f24,f25,f26⟩
     | 19,ho,hL,haf,hK =>
      cases ho
      (try dsimp only)
      rw [f17 (haf ⟨17,.guard⟩ (by simp) rfl),f18 (haf ⟨18,.data⟩ (by simp) rfl)];refine Eq.mpr (if_pos (by rfl)) ?_;go_wp2_with fail;exact hK (fun jj=>if jj=224 then .bool true else if jj=222 then .bool false else if jj=223 then .int .i64 (kk:Int) else lx jj) _ ⟨E,f0,f1,f2,f3,f4,f5,f6,f7,f8,f9,f10,f11,f12,f13,f14,f15,f16,(fun _=>rfl),(fun _=>rfl),(fun _=>rfl),f20,f21,f22,f23,f24,f25,f26⟩
     | 20,ho,hL,haf,hK =>
      cases ho
      (try dsimp only)
      rw [f17 (haf ⟨17,.data⟩ (by simp) rfl),f19 (haf ⟨19,.data⟩ (by simp) rfl)];refine Eq.mpr (if_pos (by rfl)) ?_;go_wp2_with fail;exact hK (fun jj=>if jj=225 then .bool true else if jj=222 then .bool false else if jj=224 then .bool true else lx jj) _ ⟨E,f0,f1,f2,f3,f4,f5,f6,f7,f8,f9,f10,f11,f12,f13,f14,f15,f16,(fun _=>rfl),f18,(fun _=>rfl),(fun _=>rfl),f21,f22,f23,f24,f25,f26⟩
     | 21,ho,hL,haf,hK =>
      cases ho
      (try dsimp only)
      rw [f20 (haf ⟨20,.data⟩ (by simp) rfl)];refine Eq.mpr (if_pos (by rfl)) ?_;go_wp2_with fail;exact hK (fun jj=>if jj=226 then .bool true else if jj=225 then .bool true else lx jj) _ ⟨E,f0,f1,f2,f3,f4,f5,f6,f7,f8,f9,f10,f11,f12,f13,f14,f15,f16,f17,f18,f19,(fun _=>rfl),(fun _=>rfl),f22,f23,f24,f25,f26⟩
     | 22,ho,hL,haf,hK =>
      cases ho
      (try dsimp only)
      rw [f21 (haf ⟨21,.guard⟩ (by simp) rfl)];refine Eq.mpr (if_neg (fun h=>Bool.noConfusion (show false=true from h))) ?_;exact hK (fun jj=>if jj=227 then undef else if jj=226 then .bool true else lx jj) _ ⟨E,f0,f1,f2,f3,f4,f5,f6,f7,f8,f9,f10,f11,f12,f13,f14,f15,f16,f17,f18,f19,f20,(fun _=>rfl),(fun _=>rfl),f23,f24,f25,f26⟩
     | 23,ho,hL,haf,hK =>
      cases ho
      (try dsimp only)
      rw [f21 (haf ⟨21,.guard⟩ (by simp) rfl)];refine Eq.mpr (if_neg (fun h=>Bool.noConfusion (show false=true from h))) ?_;exact hK (fun jj=>if jj=228 then undef else if jj=226 then .bool true else lx jj) _ ⟨E,f0,f1,f2,f3,f4,f5,f6,f7,f8,f9,f10,f11,f12,f13,f14,f15,f16,f17,f18,f19,f20,(fun _=>rfl),f22,(fun _=>rfl),f24,f25,f26⟩
     | 24,ho,hL,haf,hK =>
      cases ho
      (try dsimp only)
      rw [f21 (haf ⟨21,.guard⟩ (by simp) rfl)];refine Eq.mpr (if_neg (fun h=>Bool.noConfusion (show false=true from h))) ?_;exact hK (fun jj=>if jj=229 then undef else if jj=226 then .bool true else lx jj) _ ⟨E,f0,f1,f2,f3,f4,f5,f6,f7,f8,f9,f10,f11,f12,f13,f14,f15,f16,f17,f18,f19,f20,(fun _=>rfl),f22,f23,(fun _=>rfl),f25,f26⟩
     | 25,ho,hL,haf,hK =>
      cases ho
      (try dsimp only)
      rw [f21 (haf ⟨21,.guard⟩ (by simp) rfl)];refine Eq.mpr (if_neg (fun h=>Bool.noConfusion (show false=true from h))) ?_;exact hK (fun jj=>if jj=230 then undef else if jj=226 then .bool true else lx jj) _ ⟨E,f0,f1,f2,f3,f4,f5,f6,f7,f8,f9,f10,f11,f12,f13,f14,f15,f16,f17,f18,f19,f20,(fun _=>rfl),f22,f23,f24,(fun _=>rfl),f26⟩
     | 26,ho,hL,haf,hK =>
      cases ho
      (try dsimp only)
      rw [f21 (haf ⟨21,.data⟩ (by simp) rfl),f25 (haf ⟨25,.data⟩ (by simp) rfl)];refine Eq.mpr (if_pos (by rfl)) ?_;go_wp2_with fail;exact hK (fun jj=>if jj=231 then .bool true else if jj=226 then .bool true else if jj=230 then undef else lx jj) _ ⟨E,f0,f1,f2,f3,f4,f5,f6,f7,f8,f9,f10,f11,f12,f13,f14,f15,f16,f17,f18,f19,f20,(fun _=>rfl),f22,f23,f24,(fun _=>rfl),(fun _=>rfl)⟩
     | k+27,ho,_,_,_=>simp at ho
    ·intro L lx w9 hall hI;obtain ⟨E,f0,f1,f2,f3,f4,f5,f6,f7,f8,f9,f10,f11,f12,f13,f14,f15,f16,f17,f18,f19,f20,f21,f22,f23,f24,f25,f26⟩:=hI.out
     (try dsimp only)
     rw [f0 (hall 0 (by simp)),f1 (hall 1 (by simp)),f2 (hall 2 (by simp)),f3 (hall 3 (by simp)),f4 (hall 4 (by simp)),f5 (hall 5 (by simp)),f6 (hall 6 (by simp)),f7 (hall 7 (by simp)),f8 (hall 8 (by simp)),f9 (hall 9 (by simp)),f10 (hall 10 (by simp)),f11 (hall 11 (by simp)),f12 (hall 12 (by simp)),f13 (hall 13 (by simp)),f14 (hall 14 (by simp)),f15 (hall 15 (by simp)),f16 (hall 16 (by simp)),f17 (hall 17 (by simp)),f18 (hall 18 (by simp)),f19 (hall 19 (by simp)),f20 (hall 20 (by simp)),f21 (hall 21 (by simp)),f22 (hall 22 (by simp)),f23 (hall 23 (by simp)),f24 (hall 24 (by simp)),f25 (hall 25 (by simp)),f26 (hall 26 (by simp))];clear hI hall f0 f1 f2 f3 f4 f5 f6 f7 f8 f9 f10 f11 f12 f13 f14 f15 f16 f17 f18 f19 f20 f21 f22 f23 f24 f25 f26;go_wp2_with fail;go_ret;exact ⟨ret_bool HB.out,xt Y1 E⟩
   have g5:decide (100<(kk:Int))=false:=decide_eq_false (by omega);have g5':¬ 100<(kk:Int):=by omega
   obtain ⟨z,hz⟩:∃ z,(kk:Int).tmod (ri:Int)=z:=⟨_,rfl⟩;have hri:¬ (ri:Int)=0:=by omega
   have hri2:((ri:Int) == 0)=false:=by simp;omega
   rw [hz] at hS0;cases t6:(z == 0)
   ·have HB:Hid (false=Q):=(by show _=_;rw [← HQ.out,HMK.out,hBA,hS0,t3,decide_eq_false t4,decide_eq_false t5,t6];simp);have g6:(z != 0)=true:=(by simp [bne,t6]);have g6':¬ z=0:=(by intro q;rw [q] at t6;cases t6);clear hS0 t4 t5;have a0:=(VE 0 _ rfl).1;have a1:=(VE 1 _ rfl).1;have a2:=(VE 2 _ rfl).1;have a3:=(VE 3 _ rfl).1;have a4:=(VE 4 _ rfl).1;have a5:=(VE 5 _ rfl).1;have a6:=(VE 6 _ rfl).1;have a7:=(VE 7 _ rfl).1;have a8:=(VE 8 _ rfl).1;have a9:=(VE 9 _ rfl).1;have a10:=(VE 10 _ rfl).1;have a11:=(VE 11 _ rfl).1;have a12:=(VE 12 _ rfl).1;have a13:=(VE 13 _ rfl).1;have a14:=(VE 14 _ rfl).1;have d14:=(VE2 14 _ rfl).1;have n0:=(VN 0 _ rfl).1;have n1:=(VN 1 _ rfl).1;have n2:=(VN 2 _ rfl).1;have n3:=(VN 3 _ rfl).1;have n4:=(VN 4 _ rfl).1;have n5:=(VN 5 _ rfl).1;have n6:=(VN 6 _ rfl).1;have n7:=(VN 7 _ rfl).1;have n8:=(VN 8 _ rfl).1;have n9:=(VN 9 _ rfl).1;have n10:=(VN 10 _ rfl).1;have n11:=(VN 11 _ rfl).1;have n12:=(VN 12 _ rfl).1;have n13:=(VN 13 _ rfl).1;go_enter Tryz.func88,Tryz.ntmps88;go_wp2_with fail;clear a0 a1 a2 a3 a4 a5 a6 a7 a8 a9 a10 a11 a12 a13 a14 d14;refine (bareS _ _ _ _ _ _ _ _ _ _ _ _ _ _ _).mono ?_;rintro e w1 ⟨rfl,e1⟩;have V1:=VN.later e1;have Y1:=xt X e1;clear n0 n1 n2 n3 n4 n5 n6 n7 n8 n9 n10 n11 n12 n13;rw [hBA];have b0:=(V1 0 _ rfl).1;have b1:=(V1 1 _ rfl).1;have b2:=(V1 2 _ rfl).1;have b3:=(V1 3 _ rfl).1;have b4:=(V1 4 _ rfl).1;have b5:=(V1 5 _ rfl).1;have b6:=(V1 6 _ rfl).1;have b7:=(V1 7 _ rfl).1;have b8:=(V1 8 _ rfl).1;have b9:=(V1 9 _ rfl).1;have b10:=(V1 10 _ rfl).1;have b11:=(V1 11 _ rfl).1;have b12:=(V1 12 _ rfl).1;have b13:=(V1 13 _ rfl).1;go_wp2_with fail;refine (numS _ t _ rfl).mono ?_;rintro e w2 ⟨rfl,rfl⟩;rw [HRN.out];go_wp2_with fail;clear b0 b1 b2 b3 b4 b5 b6 b7 b8 b9 b10 b11 b12 b13;refine wp_region_letters_c (fun lx:Nat→Value=>{ tmps:=#[exV 12 t neg d x r c rf cf r2 c2 rf2 cf2 m (Value.slice p kk cap),Value.bool many,Value.pointer (some ⟨w.heap.size,0,none⟩),undef,Value.bool false,Value.pointer (some ⟨w.heap.size+1,0,none⟩),Value.int .i64 (kk:Int),Value.int .i64 (ri:Int),undef,undef,Value.pointer (some ⟨w.heap.size,0,none⟩),Value.agg #[Value.int .i64 12,sV t,Value.bool neg,Value.int .i64 d,Value.int .i64 x,Value.int .i64 r,Value.int .i64 c,Value.bool rf,Value.bool cf,Value.int .i64 r2,Value.int .i64 c2,Value.bool rf2,Value.bool cf2,Value.int .i64 m],Value.pointer (some ⟨w.heap.size,14,none⟩),Value.slice p kk cap,Value.int .i64 (kk:Int),Value.pointer (some ⟨w.heap.size+1,13,none⟩),Value.int .i64 m,Value.int .i64 (kk:Int),Value.bool false,Value.pointer (some ⟨w.heap.size+1,0,none⟩),Value.int .i64 12,Value.bool false,Value.bool false,undef,undef,undef,undef,undef,undef,undef,undef,undef,undef,undef,undef,undef,undef,undef,undef,undef,undef,undef,undef,undef,undef,undef,undef,undef,undef,undef,undef,undef,undef,Value.bool false,Value.bool false,undef,undef,undef,undef,undef,undef,undef,undef,undef,undef,undef,undef,undef,undef,undef,undef,undef,undef,undef,undef,undef,undef,undef,undef,Value.bool false,Value.bool false,undef,undef,undef,undef,undef,undef,undef,undef,undef,undef,undef,undef,undef,undef,undef,undef,undef,undef,undef,undef,undef,undef,undef,Value.agg #[Value.int .i64 12,sV t,Value.bool neg,Value.int .i64 d,Value.int .i64 x,Value.int .i64 r,Value.int .i64 c,Value.bool rf,Value.bool cf,Value.int .i64 r2,Value.int .i64 c2,Value.bool rf2,Value.bool cf2,Value.int .i64 m],Value.bool true,Value.bool false,Value.pointer (some ⟨w.heap.size+1,0,none⟩),Value.int .i64 12,Value.bool false,Value.bool false,undef,undef,undef,undef,undef,undef,undef,Value.bool false,Value.bool false,undef,undef,undef,undef,undef,undef,undef,undef,undef,undef,undef,undef,Value.bool false,Value.bool false,undef,undef,undef,undef,undef,undef,undef,undef,Value.bool false,Value.bool false,undef,undef,undef,undef,undef,undef,undef,Value.bool false,Value.bool false,undef,undef,undef,undef,undef,undef,undef,undef,undef,undef,Value.bool false,Value.bool false,Value.bool false,undef,undef,undef,undef,undef,undef,undef,Value.bool false,Value.bool false,undef,undef,undef,undef,undef,undef,undef,undef,Value.bool false,Value.bool false,undef,undef,undef,undef,undef,undef,undef,undef,undef,undef,undef,undef,undef,undef,undef,Value.bool true,Value.bool true,Value.pointer (some ⟨w.heap.size+1,1,none⟩),sV t,Value.int .i64 (ri:Int),lx 205,lx 206,lx 207,lx 208,lx 209,lx 210,lx 211,lx 212,lx 213,lx 214,lx 215,lx 216,lx 217,lx 218,lx 219,lx 220,lx 221,lx 222,lx 223,lx 224,lx 225,lx 226,lx 227,lx 228,lx 229,lx 230,lx 231,undef,undef,undef,undef,undef,undef,undef,undef,undef,undef,undef],defers:=[] }) (fun L lx lw=>Hid (Ext w2 lw∧(L 0=true→lx 205=.int .i64 (ri:Int))∧(L 1=true→lx 206=.bool false)∧(L 2=true→lx 207=.bool false)∧(L 3=true→lx 208=.int .i64 (ri:Int))∧(L 4=true→lx 209=.bool false)∧(L 5=true→lx 210=.bool false)∧(L 6=true→lx 211=.bool false)∧(L 7=true→lx 212=.int .i64 (ri:Int))∧(L 8=true→lx 213=sV D)∧(L 9=true→lx 214=.pointer (some ⟨w.heap.size+1,1,none⟩))∧(L 10=true→lx 215=sV t)∧(L 11=true→lx 216=.bool false)∧(L 12=true→lx 217=.bool false)∧(L 13=true→lx 218=.bool false)∧(L 14=true→lx 219=.int .i64 (kk:Int))∧(L 15=true→lx 220=.bool false)∧(L 16=true→lx 221=.bool false)∧(L 17=true→lx 222=.bool false)∧(L 18=true→lx 223=.int .i64 (kk:Int))∧(L 19=true→lx 224=.bool false)∧(L 20=true→lx 225=.bool false)∧(L 21=true→lx 226=.bool false)∧(L 22=true→lx 227=.int .i64 (kk:Int))∧(L 23=true→lx 228=.int .i64 (ri:Int))∧(L 24=true→lx 229=.int .i64 z)∧(L 25=true→lx 230=.bool true)∧(L 26=true→lx 231=.bool true))) rfl (by kernel_rfl) (fun jj=>undef) rfl ?_ ?_ ?_
    ·exact ⟨xd (xr _),(fun h=>by cases h),(fun h=>by cases h),(fun h=>by cases h),(fun h=>by cases h),(fun h=>by cases h),(fun h=>by cases h),(fun h=>by cases h),(fun h=>by cases h),(fun h=>by cases h),(fun h=>by cases h),(fun h=>by cases h),(fun h=>by cases h),(fun h=>by cases h),(fun h=>by cases h),(fun h=>by cases h),(fun h=>by cases h),(fun h=>by cases h),(fun h=>by cases h),(fun h=>by cases h),(fun h=>by cases h),(fun h=>by cases h),(fun h=>by cases h),(fun h=>by cases h),(fun h=>by cases h),(fun h=>by cases h),(fun h=>by cases h),(fun h=>by cases h)⟩
    ·intro L lx lw ix o K hK ho hL haf hI hcl;obtain ⟨E,f0,f1,f2,f3,f4,f5,f6,f7,f8,f9,f10,f11,f12,f13,f14,f15,f16,f17,f18,f19,f20,f21,f22,f23,f24,f25,f26⟩:=hI.out
     match ix,ho,hL,haf,hK with
     | 0,ho,hL,haf,hK =>
      cases ho
      (try dsimp only)
      refine Eq.mpr (if_pos (by rfl)) ?_;go_wp2_with fail;exact hK (fun jj=>if jj=205 then .int .i64 (ri:Int) else lx jj) _ ⟨E,(fun _=>rfl),f1,f2,f3,f4,f5,f6,f7,f8,f9,f10,f11,f12,f13,f14,f15,f16,f17,f18,f19,f20,f21,f22,f23,f24,f25,f26⟩
     | 1,ho,hL,haf,hK =>
      cases ho
      (try dsimp only)
      rw [f0 (haf ⟨0,.data⟩ (by simp) rfl)];refine Eq.mpr (if_pos (by rfl)) ?_;go_wp2_with fail;exact hK (fun jj=>if jj=206 then .bool false else if jj=205 then .int .i64 (ri:Int) else lx jj) _ ⟨E,(fun _=>rfl),(fun _=>rfl),f2,f3,f4,f5,f6,f7,f8,f9,f10,f11,f12,f13,f14,f15,f16,f17,f18,f19,f20,f21,f22,f23,f24,f25,f26⟩
     | 2,ho,hL,haf,hK =>
      cases ho
      (try dsimp only)
      rw [f1 (haf ⟨1,.data⟩ (by simp) rfl)];refine Eq.mpr (if_pos (by rfl)) ?_;go_wp2_with fail;exact hK (fun jj=>if jj=207 then .bool false else if jj=206 then .bool false else lx jj) _ ⟨E,f0,(fun _=>rfl),(fun _=>rfl),f3,f4,f5,f6,f7,f8,f9,f10,f11,f12,f13,f14,f15,f16,f17,f18,f19,f20,f21,f22,f23,f24,f25,f26⟩
     | 3,ho,hL,haf,hK =>
      cases ho
      (try dsimp only)
      rw [f2 (haf ⟨2,.guard⟩ (by simp) rfl)];refine Eq.mpr (if_pos (by rfl)) ?_;go_wp2_with fail;exact hK (fun jj=>if jj=208 then .int .i64 (ri:Int) else if jj=207 then .bool false else lx jj) _ ⟨E,f0,f1,(fun _=>rfl),(fun _=>rfl),f4,f5,f6,f7,f8,f9,f10,f11,f12,f13,f14,f15,f16,f17,f18,f19,f20,f21,f22,f23,f24,f25,f26⟩
     | 4,ho,hL,haf,hK =>
      cases ho
      (try dsimp only)
      rw [f2 (haf ⟨2,.guard⟩ (by simp) rfl),f3 (haf ⟨3,.data⟩ (by simp) rfl)];refine Eq.mpr (if_pos (by rfl)) ?_;go_wp2_with fail;exact hK (fun jj=>if jj=209 then .bool false else if jj=207 then .bool false else if jj=208 then .int .i64 (ri:Int) else lx jj) _ ⟨E,f0,f1,(fun _=>rfl),(fun _=>rfl),(fun _=>rfl),f5,f6,f7,f8,f9,f10,f11,f12,f13,f14,f15,f16,f17,f18,f19,f20,f21,f22,f23,f24,f25,f26⟩
     | 5,ho,hL,haf,hK =>
      cases ho
      (try dsimp only)
      rw [f2 (haf ⟨2,.data⟩ (by simp) rfl),f4 (haf ⟨4,.data⟩ (by simp) rfl)];refine Eq.mpr (if_pos (by rfl)) ?_;go_wp2_with fail;exact hK (fun jj=>if jj=210 then .bool false else if jj=207 then .bool false else if jj=209 then .bool false else lx jj) _ ⟨E,f0,f1,(fun _=>rfl),f3,(fun _=>rfl),(fun _=>rfl),f6,f7,f8,f9,f10,f11,f12,f13,f14,f15,f16,f17,f18,f19,f20,f21,f22,f23,f24,f25,f26⟩
     | 6,ho,hL,haf,hK =>
      cases ho
      (try dsimp only)
      rw [f5 (haf ⟨5,.data⟩ (by simp) rfl)];refine Eq.mpr (if_pos (by rfl)) ?_;go_wp2_with fail;exact hK (fun jj=>if jj=211 then .bool false else if jj=210 then .bool false else lx jj) _ ⟨E,f0,f1,f2,f3,f4,(fun _=>rfl),(fun _=>rfl),f7,f8,f9,f10,f11,f12,f13,f14,f15,f16,f17,f18,f19,f20,f21,f22,f23,f24,f25,f26⟩
     | 7,ho,hL,haf,hK =>
      cases ho
      (try dsimp only)
      rw [f6 (haf ⟨6,.guard⟩ (by simp) rfl)];refine Eq.mpr (if_pos (by rfl)) ?_;go_wp2_with fail;exact hK (fun jj=>if jj=212 then .int .i64 (ri:Int) else if jj=211 then .bool false else lx jj) _ ⟨E,f0,f1,f2,f3,f4,f5,(fun _=>rfl),(fun _=>rfl),f8,f9,f10,f11,f12,f13,f14,f15,f16,f17,f18,f19,f20,f21,f22,f23,f24,f25,f26⟩
     | 8,ho,hL,haf,hK =>
      cases ho
      (try dsimp only)
      rw [f6 (haf ⟨6,.guard⟩ (by simp) rfl),f7 (haf ⟨7,.data⟩ (by simp) rfl)];refine Eq.mpr (if_pos (by rfl)) ?_;go_wp2_with fail;refine (LN.out lw).mono ?_;rintro rr w' ⟨rfl,e'⟩;go_wp2_with fail;exact hK (fun jj=>if jj=213 then sV D else if jj=211 then .bool false else if jj=212 then .int .i64 (ri:Int) else lx jj) _ ⟨(xt E e'),f0,f1,f2,f3,f4,f5,(fun _=>rfl),(fun _=>rfl),(fun _=>rfl),f9,f10,f11,f12,f13,f14,f15,f16,f17,f18,f19,f20,f21,f22,f23,f24,f25,f26⟩
     | 9,ho,hL,haf,hK =>
      cases ho
      (try dsimp only)
      rw [f6 (haf ⟨6,.guard⟩ (by simp) rfl)];refine Eq.mpr (if_pos (by rfl)) ?_;go_wp2_with fail;exact hK (fun jj=>if jj=214 then .pointer (some ⟨w.heap.size+1,1,none⟩) else if jj=211 then .bool false else lx jj) _ ⟨E,f0,f1,f2,f3,f4,f5,(fun _=>rfl),f7,f8,(fun _=>rfl),f10,f11,f12,f13,f14,f15,f16,f17,f18,f19,f20,f21,f22,f23,f24,f25,f26⟩
     | 10,ho,hL,haf,hK =>
      cases ho
      (try dsimp only)
      rw [f6 (haf ⟨6,.guard⟩ (by simp) rfl),f9 (haf ⟨9,.data⟩ (by simp) rfl)];refine Eq.mpr (if_pos (by rfl)) ?_;have c1:=((V1.later E) 1 _ rfl).1;go_wp2_with fail;exact hK (fun jj=>if jj=215 then sV t else if jj=211 then .bool false else if jj=214 then .pointer (some ⟨w.heap.size+1,1,none⟩) else lx jj) _ ⟨E,f0,f1,f2,f3,f4,f5,(fun _=>rfl),f7,f8,(fun _=>rfl),(fun _=>rfl),f11,f12,f13,f14,f15,f16,f17,f18,f19,f20,f21,f22,f23,f24,f25,f26⟩
     | 11,ho,hL,haf,hK =>
      cases ho
      (try dsimp only)
      rw [f6 (haf ⟨6,.guard⟩ (by simp) rfl),f8 (haf ⟨8,.data⟩ (by simp) rfl),f10 (haf ⟨10,.data⟩ (by simp) rfl)];refine Eq.mpr (if_pos (by rfl)) ?_;go_wp2_with fail;exact hK (fun jj=>if jj=216 then .bool false else if jj=211 then .bool false else if jj=213 then sV D else if jj=215 then sV t else lx jj) _ ⟨E,f0,f1,f2,f3,f4,f5,(fun _=>rfl),f7,(fun _=>rfl),f9,(fun _=>rfl),(fun _=>rfl),f12,f13,f14,f15,f16,f17,f18,f19,f20,f21,f22,f23,f24,f25,f26⟩
     | 12,ho,hL,haf,hK =>
      cases ho
      (try dsimp only)
      rw [f6 (haf ⟨6,.data⟩ (by simp) rfl),f11 (haf ⟨11,.data⟩ (by simp) rfl)];refine Eq.mpr (if_pos (by rfl)) ?_;go_wp2_with fail;exact hK (fun jj=>if jj=217 then .bool false else if jj=211 then .bool false else if jj=216 then .bool false else lx jj) _ ⟨E,f0,f1,f2,f3,f4,f5,(fun _=>rfl),f7,f8,f9,f10,(fun _=>rfl),(fun _=>rfl),f13,f14,f15,f16,f17,f18,f19,f20,f21,f22,f23,f24,f25,f26⟩
     | 13,ho,hL,haf,hK =>
      cases ho
      (try dsimp only)
      rw [f12 (haf ⟨12,.data⟩ (by simp) rfl)];refine Eq.mpr (if_pos (by rfl)) ?_;go_wp2_with fail;exact hK (fun jj=>if jj=218 then .bool false else if jj=217 then .bool false else lx jj) _ ⟨E,f0,f1,f2,f3,f4,f5,f6,f7,f8,f9,f10,f11,(fun _=>rfl),(fun _=>rfl),f14,f15,f16,f17,f18,f19,f20,f21,f22,f23,f24,f25,f26⟩
     | 14,ho,hL,haf,hK =>
      cases ho
      (try dsimp only)
      rw [f13 (haf ⟨13,.guard⟩ (by simp) rfl)];refine Eq.mpr (if_pos (by rfl)) ?_;go_wp2_with fail;exact hK (fun jj=>if jj=219 then .int .i64 (kk:Int) else if jj=218 then .bool false else lx jj) _ ⟨E,f0,f1,f2,f3,f4,f5,f6,f7,f8,f9,f10,f11,f12,(fun _=>rfl),(fun _=>rfl),f15,f16,f17,f18,f19,f20,f21,f22,f23,f24,f25,f26⟩
     | 15,ho,hL,haf,hK =>
      cases ho
      (try dsimp only)
      rw [f13 (haf ⟨13,.guard⟩ (by simp) rfl),f14 (haf ⟨14,.data⟩ (by simp) rfl)];refine Eq.mpr (if_pos (by rfl)) ?_;go_wp2_with fail;exact hK (fun jj=>if jj=220 then .bool false else if jj=218 then .bool false else if jj=219 then .int .i64 (kk:Int) else lx jj) _ ⟨E,f0,f1,f2,f3,f4,f5,f6,f7,f8,f9,f10,f11,f12,(fun _=>rfl),(fun _=>rfl),(fun _=>rfl),f16,f17,f18,f19,f20,f21,f22,f23,f24,f25,f26⟩
     | 16,ho,hL,haf,hK =>
      cases ho
      (try dsimp only)
      rw [f13 (haf ⟨13,.data⟩ (by simp) rfl),f15 (haf ⟨15,.data⟩ (by simp) rfl)];refine Eq.mpr (if_pos (by rfl)) ?_;go_wp2_with fail;exact hK (fun jj=>if jj=221 then .bool false else if jj=218 then .bool false else if jj=220 then .bool false else lx jj) _ ⟨E,f0,f1,f2,f3,f4,f5,f6,f7,f8,f9,f10,f11,f12,(fun _=>rfl),f14,(fun _=>rfl),(fun _=>rfl),f17,f18,f19,f20,f21,f22,f23,f24,f25,f26⟩
     | 17,ho,hL,haf,hK =>
      cases ho
      (try dsimp only)
      rw [f16 (haf ⟨16,.data⟩ (by simp) rfl)];refine Eq.mpr (if_pos (by rfl)) ?_;go_wp2_with fail;exact hK (fun jj=>if jj=222 then .bool false else if jj=221 then .bool false else lx jj) _ ⟨E,f0,f1,f2,f3,f4,f5,f6,f7,f8,f9,f10,f11,f12,f13,f14,f15,(fun _=>rfl),(fun _=>rfl),f18,f19,f20,f21,f22,f23,f24,f25,f26⟩
     | 18,ho,hL,haf,hK =>
      cases ho
      (try dsimp only)
      rw [f17 (haf ⟨17,.guard⟩ (by simp) rfl)];refine Eq.mpr (if_pos (by rfl)) ?_;go_wp2_with fail;exact hK (fun jj=>if jj=223 then .int .i64 (kk:Int) else if jj=222 then .bool false else lx jj) _ ⟨E,f0,f1,f2,f3,f4,f5,f6,f7,f8,f9,f10,f11,f12,f13,f14,f15,f16,(fun _=>rfl),(fun _=>rfl),f19,f20,f21,f22,f23,f24,f25,f26⟩
     | 19,ho,hL,haf,hK =>
      cases ho
      (try dsimp only)
      rw [f17 (haf ⟨17,.guard⟩ (by simp) rfl),f18 (haf ⟨18,.data⟩ (by simp) rfl)];refine Eq.mpr (if_pos (by rfl)) ?_;go_wp2_with fail;exact hK (fun jj=>if jj=224 then .bool false else if jj=222 then .bool false else if jj=223 then .int .i64 (kk:Int) else lx jj) _ ⟨E,f0,f1,f2,f3,f4,f5,f6,f7,f8,f9,f10,f11,f12,f13,f14,f15,f16,(fun _=>rfl),(fun _=>rfl),(fun _=>rfl),f20,f21,f22,f23,f24,f25,f26⟩
     | 20,ho,hL,haf,hK =>
      cases ho
      (try dsimp only)
      rw [f17 (haf ⟨17,.data⟩ (by simp) rfl),f19 (haf ⟨19,.data⟩ (by simp) rfl)];refine Eq.mpr (if_pos (by rfl)) ?_;go_wp2_with fail;exact hK (fun jj=>if jj=225 then .bool false else if jj=222 then .bool false else if jj=224 then .bool false else lx jj) _ ⟨E,f0,f1,f2,f3,f4,f5,f6,f7,f8,f9,f10,f11,f12,f13,f14,f15,f16,(fun _=>rfl),f18,(fun _=>rfl),(fun _=>rfl),f21,f22,f23,f24,f25,f26⟩
     | 21,ho,hL,haf,hK =>
      cases ho
      (try dsimp only)
      rw [f20 (haf ⟨20,.data⟩ (by simp) rfl)];refine Eq.mpr (if_pos (by rfl)) ?_;go_wp2_with fail;exact hK (fun jj=>if jj=226 then .bool false else if jj=225 then .bool false else lx jj) _ ⟨E,f0,f1,f2,f3,f4,f5,f6,f7,f8,f9,f10,f11,f12,f13,f14,f15,f16,f17,f18,f19,(fun _=>rfl),(fun _=>rfl),f22,f23,f24,f25,f26⟩
     | 22,ho,hL,haf,hK =>
      cases ho
      (try dsimp only)
      rw [f21 (haf ⟨21,.guard⟩ (by simp) rfl)];refine Eq.mpr (if_pos (by rfl)) ?_;go_wp2_with fail;exact hK (fun jj=>if jj=227 then .int .i64 (kk:Int) else if jj=226 then .bool false else lx jj) _ ⟨E,f0,f1,f2,f3,f4,f5,f6,f7,f8,f9,f10,f11,f12,f13,f14,f15,f16,f17,f18,f19,f20,(fun _=>rfl),(fun _=>rfl),f23,f24,f25,f26⟩
     | 23,ho,hL,haf,hK =>
      cases ho
      (try dsimp only)
      rw [f21 (haf ⟨21,.guard⟩ (by simp) rfl)];refine Eq.mpr (if_pos (by rfl)) ?_;go_wp2_with fail;exact hK (fun jj=>if jj=228 then .int .i64 (ri:Int) else if jj=226 then .bool false else lx jj) _ ⟨E,f0,f1,f2,f3,f4,f5,f6,f7,f8,f9,f10,f11,f12,f13,f14,f15,f16,f17,f18,f19,f20,(fun _=>rfl),f22,(fun _=>rfl),f24,f25,f26⟩
     | 24,ho,hL,haf,hK =>
      cases ho
      (try dsimp only)
      rw [f21 (haf ⟨21,.guard⟩ (by simp) rfl),f22 (haf ⟨22,.data⟩ (by simp) rfl),f23 (haf ⟨23,.data⟩ (by simp) rfl)];refine Eq.mpr (if_pos (by rfl)) ?_;go_wp2_with fail;exact hK (fun jj=>if jj=229 then .int .i64 z else if jj=226 then .bool false else if jj=227 then .int .i64 (kk:Int) else if jj=228 then .int .i64 (ri:Int) else lx jj) _ ⟨E,f0,f1,f2,f3,f4,f5,f6,f7,f8,f9,f10,f11,f12,f13,f14,f15,f16,f17,f18,f19,f20,(fun _=>rfl),(fun _=>rfl),(fun _=>rfl),(fun _=>rfl),f25,f26⟩
     | 25,ho,hL,haf,hK =>
      cases ho
      (try dsimp only)
      rw [f21 (haf ⟨21,.guard⟩ (by simp) rfl),f24 (haf ⟨24,.data⟩ (by simp) rfl)];refine Eq.mpr (if_pos (by rfl)) ?_;go_wp2_with fail;exact hK (fun jj=>if jj=230 then .bool true else if jj=226 then .bool false else if jj=229 then .int .i64 z else lx jj) _ ⟨E,f0,f1,f2,f3,f4,f5,f6,f7,f8,f9,f10,f11,f12,f13,f14,f15,f16,f17,f18,f19,f20,(fun _=>rfl),f22,f23,(fun _=>rfl),(fun _=>rfl),f26⟩
     | 26,ho,hL,haf,hK =>
      cases ho
      (try dsimp only)
      rw [f21 (haf ⟨21,.data⟩ (by simp) rfl),f25 (haf ⟨25,.data⟩ (by simp) rfl)];refine Eq.mpr (if_pos (by rfl)) ?_;go_wp2_with fail;exact hK (fun jj=>if jj=231 then .bool true else if jj=226 then .bool false else if jj=230 then .bool true else lx jj) _ ⟨E,f0,f1,f2,f3,f4,f5,f6,f7,f8,f9,f10,f11,f12,f13,f14,f15,f16,f17,f18,f19,f20,(fun _=>rfl),f22,f23,f24,(fun _=>rfl),(fun _=>rfl)⟩
     | k+27,ho,_,_,_=>simp at ho
    ·intro L lx w9 hall hI;obtain ⟨E,f0,f1,f2,f3,f4,f5,f6,f7,f8,f9,f10,f11,f12,f13,f14,f15,f16,f17,f18,f19,f20,f21,f22,f23,f24,f25,f26⟩:=hI.out
     (try dsimp only)
     rw [f0 (hall 0 (by simp)),f1 (hall 1 (by simp)),f2 (hall 2 (by simp)),f3 (hall 3 (by simp)),f4 (hall 4 (by simp)),f5 (hall 5 (by simp)),f6 (hall 6 (by simp)),f7 (hall 7 (by simp)),f8 (hall 8 (by simp)),f9 (hall 9 (by simp)),f10 (hall 10 (by simp)),f11 (hall 11 (by simp)),f12 (hall 12 (by simp)),f13 (hall 13 (by simp)),f14 (hall 14 (by simp)),f15 (hall 15 (by simp)),f16 (hall 16 (by simp)),f17 (hall 17 (by simp)),f18 (hall 18 (by simp)),f19 (hall 19 (by simp)),f20 (hall 20 (by simp)),f21 (hall 21 (by simp)),f22 (hall 22 (by simp)),f23 (hall 23 (by simp)),f24 (hall 24 (by simp)),f25 (hall 25 (by simp)),f26 (hall 26 (by simp))];clear hI hall f0 f1 f2 f3 f4 f5 f6 f7 f8 f9 f10 f11 f12 f13 f14 f15 f16 f17 f18 f19 f20 f21 f22 f23 f24 f25 f26;go_wp2_with fail;go_ret;exact ⟨ret_bool HB.out,xt Y1 E⟩
   have g6:(z != 0)=false:=by simp [bne,t6]
   have g6':z=0:=by simpa using t6
   have HS:Hid (side12 t kk=true):=by show _=_;rw [hS0,t3,decide_eq_false t4,decide_eq_false t5,t6];rfl
   clear hS0 t4 t5 t6 g6';have a0:=(VE 0 _ rfl).1;have a1:=(VE 1 _ rfl).1;have a2:=(VE 2 _ rfl).1;have a3:=(VE 3 _ rfl).1;have a4:=(VE 4 _ rfl).1;have a5:=(VE 5 _ rfl).1;have a6:=(VE 6 _ rfl).1;have a7:=(VE 7 _ rfl).1;have a8:=(VE 8 _ rfl).1;have a9:=(VE 9 _ rfl).1;have a10:=(VE 10 _ rfl).1;have a11:=(VE 11 _ rfl).1;have a12:=(VE 12 _ rfl).1;have a13:=(VE 13 _ rfl).1;have a14:=(VE 14 _ rfl).1;have d14:=(VE2 14 _ rfl).1;have n0:=(VN 0 _ rfl).1;have n1:=(VN 1 _ rfl).1;have n2:=(VN 2 _ rfl).1;have n3:=(VN 3 _ rfl).1;have n4:=(VN 4 _ rfl).1;have n5:=(VN 5 _ rfl).1;have n6:=(VN 6 _ rfl).1;have n7:=(VN 7 _ rfl).1;have n8:=(VN 8 _ rfl).1;have n9:=(VN 9 _ rfl).1;have n10:=(VN 10 _ rfl).1;have n11:=(VN 11 _ rfl).1;have n12:=(VN 12 _ rfl).1;have n13:=(VN 13 _ rfl).1;go_enter Tryz.func88,Tryz.ntmps88;go_wp2_with fail;clear a0 a1 a2 a3 a4 a5 a6 a7 a8 a9 a10 a11 a12 a13 a14 d14;refine (bareS _ _ _ _ _ _ _ _ _ _ _ _ _ _ _).mono ?_;rintro e w1 ⟨rfl,e1⟩;have V1:=VN.later e1;have Y1:=xt X e1;clear n0 n1 n2 n3 n4 n5 n6 n7 n8 n9 n10 n11 n12 n13;rw [hBA];have b0:=(V1 0 _ rfl).1;have b1:=(V1 1 _ rfl).1;have b2:=(V1 2 _ rfl).1;have b3:=(V1 3 _ rfl).1;have b4:=(V1 4 _ rfl).1;have b5:=(V1 5 _ rfl).1;have b6:=(V1 6 _ rfl).1;have b7:=(V1 7 _ rfl).1;have b8:=(V1 8 _ rfl).1;have b9:=(V1 9 _ rfl).1;have b10:=(V1 10 _ rfl).1;have b11:=(V1 11 _ rfl).1;have b12:=(V1 12 _ rfl).1;have b13:=(V1 13 _ rfl).1;go_wp2_with fail;refine (numS _ t _ rfl).mono ?_;rintro e w2 ⟨rfl,rfl⟩;rw [HRN.out];go_wp2_with fail;clear b0 b1 b2 b3 b4 b5 b6 b7 b8 b9 b10 b11 b12 b13;refine wp_region_letters_c (fun lx:Nat→Value=>{ tmps:=#[exV 12 t neg d x r c rf cf r2 c2 rf2 cf2 m (Value.slice p kk cap),Value.bool many,Value.pointer (some ⟨w.heap.size,0,none⟩),undef,Value.bool false,Value.pointer (some ⟨w.heap.size+1,0,none⟩),Value.int .i64 (kk:Int),Value.int .i64 (ri:Int),undef,undef,Value.pointer (some ⟨w.heap.size,0,none⟩),Value.agg #[Value.int .i64 12,sV t,Value.bool neg,Value.int .i64 d,Value.int .i64 x,Value.int .i64 r,Value.int .i64 c,Value.bool rf,Value.bool cf,Value.int .i64 r2,Value.int .i64 c2,Value.bool rf2,Value.bool cf2,Value.int .i64 m],Value.pointer (some ⟨w.heap.size,14,none⟩),Value.slice p kk cap,Value.int .i64 (kk:Int),Value.pointer (some ⟨w.heap.size+1,13,none⟩),Value.int .i64 m,Value.int .i64 (kk:Int),Value.bool false,Value.pointer (some ⟨w.heap.size+1,0,none⟩),Value.int .i64 12,Value.bool false,Value.bool false,undef,undef,undef,undef,undef,undef,undef,undef,undef,undef,undef,undef,undef,undef,undef,undef,undef,undef,undef,undef,undef,undef,undef,undef,undef,undef,undef,undef,undef,undef,Value.bool false,Value.bool false,undef,undef,undef,undef,undef,undef,undef,undef,undef,undef,undef,undef,undef,undef,undef,undef,undef,undef,undef,undef,undef,undef,undef,undef,Value.bool false,Value.bool false,undef,undef,undef,undef,undef,undef,undef,undef,undef,undef,undef,undef,undef,undef,undef,undef,undef,undef,undef,undef,undef,undef,undef,Value.agg #[Value.int .i64 12,sV t,Value.bool neg,Value.int .i64 d,Value.int .i64 x,Value.int .i64 r,Value.int .i64 c,Value.bool rf,Value.bool cf,Value.int .i64 r2,Value.int .i64 c2,Value.bool rf2,Value.bool cf2,Value.int .i64 m],Value.bool true,Value.bool false,Value.pointer (some ⟨w.heap.size+1,0,none⟩),Value.int .i64 12,Value.bool false,Value.bool false,undef,undef,undef,undef,undef,undef,undef,Value.bool false,Value.bool false,undef,undef,undef,undef,undef,undef,undef,undef,undef,undef,undef,undef,Value.bool false,Value.bool false,undef,undef,undef,undef,undef,undef,undef,undef,Value.bool false,Value.bool false,undef,undef,undef,undef,undef,undef,undef,Value.bool false,Value.bool false,undef,undef,undef,undef,undef,undef,undef,undef,undef,undef,Value.bool false,Value.bool false,Value.bool false,undef,undef,undef,undef,undef,undef,undef,Value.bool false,Value.bool false,undef,undef,undef,undef,undef,undef,undef,undef,Value.bool false,Value.bool false,undef,undef,undef,undef,undef,undef,undef,undef,undef,undef,undef,undef,undef,undef,undef,Value.bool true,Value.bool true,Value.pointer (some ⟨w.heap.size+1,1,none⟩),sV t,Value.int .i64 (ri:Int),lx 205,lx 206,lx 207,lx 208,lx 209,lx 210,lx 211,lx 212,lx 213,lx 214,lx 215,lx 216,lx 217,lx 218,lx 219,lx 220,lx 221,lx 222,lx 223,lx 224,lx 225,lx 226,lx 227,lx 228,lx 229,lx 230,lx 231,undef,undef,undef,undef,undef,undef,undef,undef,undef,undef,undef],defers:=[] }) (fun L lx lw=>Hid (Ext w2 lw∧(L 0=true→lx 205=.int .i64 (ri:Int))∧(L 1=true→lx 206=.bool false)∧(L 2=true→lx 207=.bool false)∧(L 3=true→lx 208=.int .i64 (ri:Int))∧(L 4=true→lx 209=.bool false)∧(L 5=true→lx 210=.bool false)∧(L 6=true→lx 211=.bool false)∧(L 7=true→lx 212=.int .i64 (ri:Int))∧(L 8=true→lx 213=sV D)∧(L 9=true→lx 214=.pointer (some ⟨w.heap.size+1,1,none⟩))∧(L 10=true→lx 215=sV t)∧(L 11=true→lx 216=.bool false)∧(L 12=true→lx 217=.bool false)∧(L 13=true→lx 218=.bool false)∧(L 14=true→lx 219=.int .i64 (kk:Int))∧(L 15=true→lx 220=.bool false)∧(L 16=true→lx 221=.bool false)∧(L 17=true→lx 222=.bool false)∧(L 18=true→lx 223=.int .i64 (kk:Int))∧(L 19=true→lx 224=.bool false)∧(L 20=true→lx 225=.bool false)∧(L 21=true→lx 226=.bool false)∧(L 22=true→lx 227=.int .i64 (kk:Int))∧(L 23=true→lx 228=.int .i64 (ri:Int))∧(L 24=true→lx 229=.int .i64 z)∧(L 25=true→lx 230=.bool false)∧(L 26=true→lx 231=.bool false))) rfl (by kernel_rfl) (fun jj=>undef) rfl ?_ ?_ ?_
   ·exact ⟨xd (xr _),(fun h=>by cases h),(fun h=>by cases h),(fun h=>by cases h),(fun h=>by cases h),(fun h=>by cases h),(fun h=>by cases h),(fun h=>by cases h),(fun h=>by cases h),(fun h=>by cases h),(fun h=>by cases h),(fun h=>by cases h),(fun h=>by cases h),(fun h=>by cases h),(fun h=>by cases h),(fun h=>by cases h),(fun h=>by cases h),(fun h=>by cases h),(fun h=>by cases h),(fun h=>by cases h),(fun h=>by cases h),(fun h=>by cases h),(fun h=>by cases h),(fun h=>by cases h),(fun h=>by cases h),(fun h=>by cases h),(fun h=>by cases h),(fun h=>by cases h)⟩
   ·intro L lx lw ix o K hK ho hL haf hI hcl;obtain ⟨E,f0,f1,f2,f3,f4,f5,f6,f7,f8,f9,f10,f11,f12,f13,f14,f15,f16,f17,f18,f19,f20,f21,f22,f23,f24,f25,f26⟩:=hI.out
    match ix,ho,hL,haf,hK with
    | 0,ho,hL,haf,hK =>
     cases ho
     (try dsimp only)
     refine Eq.mpr (if_pos (by rfl)) ?_;go_wp2_with fail;exact hK (fun jj=>if jj=205 then .int .i64 (ri:Int) else lx jj) _ ⟨E,(fun _=>rfl),f1,f2,f3,f4,f5,f6,f7,f8,f9,f10,f11,f12,f13,f14,f15,f16,f17,f18,f19,f20,f21,f22,f23,f24,f25,f26⟩
    | 1,ho,hL,haf,hK =>
     cases ho
     (try dsimp only)
     rw [f0 (haf ⟨0,.data⟩ (by simp) rfl)];refine Eq.mpr (if_pos (by rfl)) ?_;go_wp2_with fail;exact hK (fun jj=>if jj=206 then .bool false else if jj=205 then .int .i64 (ri:Int) else lx jj) _ ⟨E,(fun _=>rfl),(fun _=>rfl),f2,f3,f4,f5,f6,f7,f8,f9,f10,f11,f12,f13,f14,f15,f16,f17,f18,f19,f20,f21,f22,f23,f24,f25,f26⟩
    | 2,ho,hL,haf,hK =>
     cases ho
     (try dsimp only)
     rw [f1 (haf ⟨1,.data⟩ (by simp) rfl)];refine Eq.mpr (if_pos (by rfl)) ?_;go_wp2_with fail;exact hK (fun jj=>if jj=207 then .bool false else if jj=206 then .bool false else lx jj) _ ⟨E,f0,(fun _=>rfl),(fun _=>rfl),f3,f4,f5,f6,f7,f8,f9,f10,f11,f12,f13,f14,f15,f16,f17,f18,f19,f20,f21,f22,f23,f24,f25,f26⟩
    | 3,ho,hL,haf,hK =>
     cases ho
     (try dsimp only)
     rw [f2 (haf ⟨2,.guard⟩ (by simp) rfl)];refine Eq.mpr (if_pos (by rfl)) ?_;go_wp2_with fail;exact hK (fun jj=>if jj=208 then .int .i64 (ri:Int) else if jj=207 then .bool false else lx jj) _ ⟨E,f0,f1,(fun _=>rfl),(fun _=>rfl),f4,f5,f6,f7,f8,f9,f10,f11,f12,f13,f14,f15,f16,f17,f18,f19,f20,f21,f22,f23,f24,f25,f26⟩
    | 4,ho,hL,haf,hK =>
     cases ho
     (try dsimp only)
     rw [f2 (haf ⟨2,.guard⟩ (by simp) rfl),f3 (haf ⟨3,.data⟩ (by simp) rfl)];refine Eq.mpr (if_pos (by rfl)) ?_;go_wp2_with fail;exact hK (fun jj=>if jj=209 then .bool false else if jj=207 then .bool false else if jj=208 then .int .i64 (ri:Int) else lx jj) _ ⟨E,f0,f1,(fun _=>rfl),(fun _=>rfl),(fun _=>rfl),f5,f6,f7,f8,f9,f10,f11,f12,f13,f14,f15,f16,f17,f18,f19,f20,f21,f22,f23,f24,f25,f26⟩
    | 5,ho,hL,haf,hK =>
     cases ho
     (try dsimp only)
     rw [f2 (haf ⟨2,.data⟩ (by simp) rfl),f4 (haf ⟨4,.data⟩ (by simp) rfl)];refine Eq.mpr (if_pos (by rfl)) ?_;go_wp2_with fail;exact hK (fun jj=>if jj=210 then .bool false else if jj=207 then .bool false else if jj=209 then .bool false else lx jj) _ ⟨E,f0,f1,(fun _=>rfl),f3,(fun _=>rfl),(fun _=>rfl),f6,f7,f8,f9,f10,f11,f12,f13,f14,f15,f16,f17,f18,f19,f20,f21,f22,f23,f24,f25,f26⟩
    | 6,ho,hL,haf,hK =>
     cases ho
     (try dsimp only)
     rw [f5 (haf ⟨5,.data⟩ (by simp) rfl)];refine Eq.mpr (if_pos (by rfl)) ?_;go_wp2_with fail;exact hK (fun jj=>if jj=211 then .bool false else if jj=210 then .bool false else lx jj) _ ⟨E,f0,f1,f2,f3,f4,(fun _=>rfl),(fun _=>rfl),f7,f8,f9,f10,f11,f12,f13,f14,f15,f16,f17,f18,f19,f20,f21,f22,f23,f24,f25,f26⟩
    | 7,ho,hL,haf,hK =>
     cases ho
     (try dsimp only)
     rw [f6 (haf ⟨6,.guard⟩ (by simp) rfl)];refine Eq.mpr (if_pos (by rfl)) ?_;go_wp2_with fail;exact hK (fun jj=>if jj=212 then .int .i64 (ri:Int) else if jj=211 then .bool false else lx jj) _ ⟨E,f0,f1,f2,f3,f4,f5,(fun _=>rfl),(fun _=>rfl),f8,f9,f10,f11,f12,f13,f14,f15,f16,f17,f18,f19,f20,f21,f22,f23,f24,f25,f26⟩
    | 8,ho,hL,haf,hK =>
     cases ho
     (try dsimp only)
     rw [f6 (haf ⟨6,.guard⟩ (by simp) rfl),f7 (haf ⟨7,.data⟩ (by simp) rfl)];refine Eq.mpr (if_pos (by rfl)) ?_;go_wp2_with fail;refine (LN.out lw).mono ?_;rintro rr w' ⟨rfl,e'⟩;go_wp2_with fail;exact hK (fun jj=>if jj=213 then sV D else if jj=211 then .bool false else if jj=212 then .int .i64 (ri:Int) else lx jj) _ ⟨(xt E e'),f0,f1,f2,f3,f4,f5,(fun _=>rfl),(fun _=>rfl),(fun _=>rfl),f9,f10,f11,f12,f13,f14,f15,f16,f17,f18,f19,f20,f21,f22,f23,f24,f25,f26⟩
    | 9,ho,hL,haf,hK =>
     cases ho
     (try dsimp only)
     rw [f6 (haf ⟨6,.guard⟩ (by simp) rfl)];refine Eq.mpr (if_pos (by rfl)) ?_;go_wp2_with fail;exact hK (fun jj=>if jj=214 then .pointer (some ⟨w.heap.size+1,1,none⟩) else if jj=211 then .bool false else lx jj) _ ⟨E,f0,f1,f2,f3,f4,f5,(fun _=>rfl),f7,f8,(fun _=>rfl),f10,f11,f12,f13,f14,f15,f16,f17,f18,f19,f20,f21,f22,f23,f24,f25,f26⟩
    | 10,ho,hL,haf,hK =>
     cases ho
     (try dsimp only)
     rw [f6 (haf ⟨6,.guard⟩ (by simp) rfl),f9 (haf ⟨9,.data⟩ (by simp) rfl)];refine Eq.mpr (if_pos (by rfl)) ?_;have c1:=((V1.later E) 1 _ rfl).1;go_wp2_with fail;exact hK (fun jj=>if jj=215 then sV t else if jj=211 then .bool false else if jj=214 then .pointer (some ⟨w.heap.size+1,1,none⟩) else lx jj) _ ⟨E,f0,f1,f2,f3,f4,f5,(fun _=>rfl),f7,f8,(fun _=>rfl),(fun _=>rfl),f11,f12,f13,f14,f15,f16,f17,f18,f19,f20,f21,f22,f23,f24,f25,f26⟩
    | 11,ho,hL,haf,hK =>
     cases ho
     (try dsimp only)
     rw [f6 (haf ⟨6,.guard⟩ (by simp) rfl),f8 (haf ⟨8,.data⟩ (by simp) rfl),f10 (haf ⟨10,.data⟩ (by simp) rfl)];refine Eq.mpr (if_pos (by rfl)) ?_;go_wp2_with fail;exact hK (fun jj=>if jj=216 then .bool false else if jj=211 then .bool false else if jj=213 then sV D else if jj=215 then sV t else lx jj) _ ⟨E,f0,f1,f2,f3,f4,f5,(fun _=>rfl),f7,(fun _=>rfl),f9,(fun _=>rfl),(fun _=>rfl),f12,f13,f14,f15,f16,f17,f18,f19,f20,f21,f22,f23,f24,f25,f26⟩
    | 12,ho,hL,haf,hK =>
     cases ho
     (try dsimp only)
     rw [f6 (haf ⟨6,.data⟩ (by simp) rfl),f11 (haf ⟨11,.data⟩ (by simp) rfl)];refine Eq.mpr (if_pos (by rfl)) ?_;go_wp2_with fail;exact hK (fun jj=>if jj=217 then .bool false else if jj=211 then .bool false else if jj=216 then .bool false else lx jj) _ ⟨E,f0,f1,f2,f3,f4,f5,(fun _=>rfl),f7,f8,f9,f10,(fun _=>rfl),(fun _=>rfl),f13,f14,f15,f16,f17,f18,f19,f20,f21,f22,f23,f24,f25,f26⟩
    | 13,ho,hL,haf,hK =>
     cases ho
     (try dsimp only)
     rw [f12 (haf ⟨12,.data⟩ (by simp) rfl)];refine Eq.mpr (if_pos (by rfl)) ?_;go_wp2_with fail;exact hK (fun jj=>if jj=218 then .bool false else if jj=217 then .bool false else lx jj) _ ⟨E,f0,f1,f2,f3,f4,f5,f6,f7,f8,f9,f10,f11,(fun _=>rfl),(fun _=>rfl),f14,f15,f16,f17,f18,f19,f20,f21,f22,f23,f24,f25,f26⟩
    | 14,ho,hL,haf,hK =>
     cases ho
     (try dsimp only)
     rw [f13 (haf ⟨13,.guard⟩ (by simp) rfl)];refine Eq.mpr (if_pos (by rfl)) ?_;go_wp2_with fail;exact hK (fun jj=>if jj=219 then .int .i64 (kk:Int) else if jj=218 then .bool false else lx jj) _ ⟨E,f0,f1,f2,f3,f4,f5,f6,f7,f8,f9,f10,f11,f12,(fun _=>rfl),(fun _=>rfl),f15,f16,f17,f18,f19,f20,f21,f22,f23,f24,f25,f26⟩
    | 15,ho,hL,haf,hK =>
     cases ho
     (try dsimp only)
     rw [f13 (haf ⟨13,.guard⟩ (by simp) rfl),f14 (haf ⟨14,.data⟩ (by simp) rfl)];refine Eq.mpr (if_pos (by rfl)) ?_;go_wp2_with fail;exact hK (fun jj=>if jj=220 then .bool false else if jj=218 then .bool false else if jj=219 then .int .i64 (kk:Int) else lx jj) _ ⟨E,f0,f1,f2,f3,f4,f5,f6,f7,f8,f9,f10,f11,f12,(fun _=>rfl),(fun _=>rfl),(fun _=>rfl),f16,f17,f18,f19,f20,f21,f22,f23,f24,f25,f26⟩
    | 16,ho,hL,haf,hK =>
     cases ho
     (try dsimp only)
     rw [f13 (haf ⟨13,.data⟩ (by simp) rfl),f15 (haf ⟨15,.data⟩ (by simp) rfl)];refine Eq.mpr (if_pos (by rfl)) ?_;go_wp2_with fail;exact hK (fun jj=>if jj=221 then .bool false else if jj=218 then .bool false else if jj=220 then .bool false else lx jj) _ ⟨E,f0,f1,f2,f3,f4,f5,f6,f7,f8,f9,f10,f11,f12,(fun _=>rfl),f14,(fun _=>rfl),(fun _=>rfl),f17,f18,f19,f20,f21,f22,f23,f24,f25,f26⟩
    | 17,ho,hL,haf,hK =>
     cases ho
     (try dsimp only)
     rw [f16 (haf ⟨16,.data⟩ (by simp) rfl)];refine Eq.mpr (if_pos (by rfl)) ?_;go_wp2_with fail;exact hK (fun jj=>if jj=222 then .bool false else if jj=221 then .bool false else lx jj) _ ⟨E,f0,f1,f2,f3,f4,f5,f6,f7,f8,f9,f10,f11,f12,f13,f14,f15,(fun _=>rfl),(fun _=>rfl),f18,f19,f20,f21,f22,f23,f24,f25,f26⟩
    | 18,ho,hL,haf,hK =>
     cases ho
     (try dsimp only)
     rw [f17 (haf ⟨17,.guard⟩ (by simp) rfl)];refine Eq.mpr (if_pos (by rfl)) ?_;go_wp2_with fail;exact hK (fun jj=>if jj=223 then .int .i64 (kk:Int) else if jj=222 then .bool false else lx jj) _ ⟨E,f0,f1,f2,f3,f4,f5,f6,f7,f8,f9,f10,f11,f12,f13,f14,f15,f16,(fun _=>rfl),(fun _=>rfl),f19,f20,f21,f22,f23,f24,f25,f26⟩
    | 19,ho,hL,haf,hK =>
     cases ho
     (try dsimp only)
     rw [f17 (haf ⟨17,.guard⟩ (by simp) rfl),f18 (haf ⟨18,.data⟩ (by simp) rfl)];refine Eq.mpr (if_pos (by rfl)) ?_;go_wp2_with fail;exact hK (fun jj=>if jj=224 then .bool false else if jj=222 then .bool false else if jj=223 then .int .i64 (kk:Int) else lx jj) _ ⟨E,f0,f1,f2,f3,f4,f5,f6,f7,f8,f9,f10,f11,f12,f13,f14,f15,f16,(fun _=>rfl),(fun _=>rfl),(fun _=>rfl),f20,f21,f22,f23,f24,f25,f26⟩
    | 20,ho,hL,haf,hK =>
     cases ho
     (try dsimp only)
     rw [f17 (haf ⟨17,.data⟩ (by simp) rfl),f19 (haf ⟨19,.data⟩ (by simp) rfl)];refine Eq.mpr (if_pos (by rfl)) ?_;go_wp2_with fail;exact hK (fun jj=>if jj=225 then .bool false else if jj=222 then .bool false else if jj=224 then .bool false else lx jj) _ ⟨E,f0,f1,f2,f3,f4,f5,f6,f7,f8,f9,f10,f11,f12,f13,f14,f15,f16,(fun _=>rfl),f18,(fun _=>rfl),(fun _=>rfl),f21,f22,f23,f24,f25,f26⟩
    | 21,ho,hL,haf,hK =>
     cases ho
     (try dsimp only)
     rw [f20 (haf ⟨20,.data⟩ (by simp) rfl)];refine Eq.mpr (if_pos (by rfl)) ?_;go_wp2_with fail;exact hK (fun jj=>if jj=226 then .bool false else if jj=225 then .bool false else lx jj) _ ⟨E,f0,f1,f2,f3,f4,f5,f6,f7,f8,f9,f10,f11,f12,f13,f14,f15,f16,f17,f18,f19,(fun _=>rfl),(fun _=>rfl),f22,f23,f24,f25,f26⟩
    | 22,ho,hL,haf,hK =>
     cases ho
     (try dsimp only)
     rw [f21 (haf ⟨21,.guard⟩ (by simp) rfl)];refine Eq.mpr (if_pos (by rfl)) ?_;go_wp2_with fail;exact hK (fun jj=>if jj=227 then .int .i64 (kk:Int) else if jj=226 then .bool false else lx jj) _ ⟨E,f0,f1,f2,f3,f4,f5,f6,f7,f8,f9,f10,f11,f12,f13,f14,f15,f16,f17,f18,f19,f20,(fun _=>rfl),(fun _=>rfl),f23,f24,f25,f26⟩
    | 23,ho,hL,haf,hK =>
     cases ho
     (try dsimp only)
     rw [f21 (haf ⟨21,.guard⟩ (by simp) rfl)];refine Eq.mpr (if_pos (by rfl)) ?_;go_wp2_with fail;exact hK (fun jj=>if jj=228 then .int .i64 (ri:Int) else if jj=226 then .bool false else lx jj) _ ⟨E,f0,f1,f2,f3,f4,f5,f6,f7,f8,f9,f10,f11,f12,f13,f14,f15,f16,f17,f18,f19,f20,(fun _=>rfl),f22,(fun _=>rfl),f24,f25,f26⟩
    | 24,ho,hL,haf,hK =>
     cases ho
     (try dsimp only)
     rw [f21 (haf ⟨21,.guard⟩ (by simp) rfl),f22 (haf ⟨22,.data⟩ (by simp) rfl),f23 (haf ⟨23,.data⟩ (by simp) rfl)];refine Eq.mpr (if_pos (by rfl)) ?_;go_wp2_with fail;exact hK (fun jj=>if jj=229 then .int .i64 z else if jj=226 then .bool false else if jj=227 then .int .i64 (kk:Int) else if jj=228 then .int .i64 (ri:Int) else lx jj) _ ⟨E,f0,f1,f2,f3,f4,f5,f6,f7,f8,f9,f10,f11,f12,f13,f14,f15,f16,f17,f18,f19,f20,(fun _=>rfl),(fun _=>rfl),(fun _=>rfl),(fun _=>rfl),f25,f26⟩
    | 25,ho,hL,haf,hK =>
     cases ho
     (try dsimp only)
     rw [f21 (haf ⟨21,.guard⟩ (by simp) rfl),f24 (haf ⟨24,.data⟩ (by simp) rfl)];refine Eq.mpr (if_pos (by rfl)) ?_;go_wp2_with fail;exact hK (fun jj=>if jj=230 then .bool false else if jj=226 then .bool false else if jj=229 then .int .i64 z else lx jj) _ ⟨E,f0,f1,f2,f3,f4,f5,f6,f7,f8,f9,f10,f11,f12,f13,f14,f15,f16,f17,f18,f19,f20,(fun _=>rfl),f22,f23,(fun _=>rfl),(fun _=>rfl),f26⟩
    | 26,ho,hL,haf,hK =>
     cases ho
     (try dsimp only)
     rw [f21 (haf ⟨21,.data⟩ (by simp) rfl),f25 (haf ⟨25,.data⟩ (by simp) rfl)];refine Eq.mpr (if_pos (by rfl)) ?_;go_wp2_with fail;exact hK (fun jj=>if jj=231 then .bool false else if jj=226 then .bool false else if jj=230 then .bool false else lx jj) _ ⟨E,f0,f1,f2,f3,f4,f5,f6,f7,f8,f9,f10,f11,f12,f13,f14,f15,f16,f17,f18,f19,f20,(fun _=>rfl),f22,f23,f24,(fun _=>rfl),(fun _=>rfl)⟩
    | k+27,ho,_,_,_=>simp at ho
   ·intro L lx w9 hall hI;obtain ⟨E,f0,f1,f2,f3,f4,f5,f6,f7,f8,f9,f10,f11,f12,f13,f14,f15,f16,f17,f18,f19,f20,f21,f22,f23,f24,f25,f26⟩:=hI.out
    (try dsimp only)
    rw [f0 (hall 0 (by simp)),f1 (hall 1 (by simp)),f2 (hall 2 (by simp)),f3 (hall 3 (by simp)),f4 (hall 4 (by simp)),f5 (hall 5 (by simp)),f6 (hall 6 (by simp)),f7 (hall 7 (by simp)),f8 (hall 8 (by simp)),f9 (hall 9 (by simp)),f10 (hall 10 (by simp)),f11 (hall 11 (by simp)),f12 (hall 12 (by simp)),f13 (hall 13 (by simp)),f14 (hall 14 (by simp)),f15 (hall 15 (by simp)),f16 (hall 16 (by simp)),f17 (hall 17 (by simp)),f18 (hall 18 (by simp)),f19 (hall 19 (by simp)),f20 (hall 20 (by simp)),f21 (hall 21 (by simp)),f22 (hall 22 (by simp)),f23 (hall 23 (by simp)),f24 (hall 24 (by simp)),f25 (hall 25 (by simp)),f26 (hall 26 (by simp))];clear hI hall f0 f1 f2 f3 f4 f5 f6 f7 f8 f9 f10 f11 f12 f13 f14 f15 f16 f17 f18 f19 f20 f21 f22 f23 f24 f25 f26;have a14:=((VE2.later (xt e1 E)) 14 _ rfl).1;have Y2:=xt Y1 E;have HV5:Hid (Ext w w9):=Y2;go_wp2_with fail;go_loopw [235] (fun i wr=>∃ j:Nat,j≤kk∧i=.int .i64 j∧Hid (Ext w wr∧∀ (q:Nat) e,q<j→ks[q]?=some e→constE e=true)) (fun i _=>kk - (intOf i).toNat)
    case atStart=>exact ⟨0,by omega,rfl,HV5.out,fun q e hq=>absurd hq (by omega)⟩
    case round =>
     obtain ⟨j,hj,rfl,HO⟩:=hrel;by_cases hlt:j<kk
     ·have i2:(j:Int)<(kk:Int):=(by omega);obtain ⟨e,he⟩:∃ e,ks[j]?=some e:=⟨_,List.getElem?_eq_getElem (by rw [HKL.out];exact hlt)⟩;obtain ⟨cap',g,sk,ev,HRA,hks⟩:=(HKI.out wr HO.out.1).row he;obtain rfl:p=some ⟨g,0,none⟩:=(Value.slice.inj ev).1;have HEL:Hid (ks[j]?=some e):=he;obtain ⟨⟨ek,et,en,ed,ex,er,ec,ef,eg,er2,ec2,ef2,eg2,eq⟩,ekids⟩:=e;have HRA:wr.rangeAt g (j * 15) (NT.exL ⟨ek,et,en,ed,ex,er,ec,ef,eg,er2,ec2,ef2,eg2,eq⟩ sk):=HRA;have VZ:=vec_made wr [.int .i64 0,.string ⟨#[]⟩,.bool false,.int .i64 0,.int .i64 0,.int .i64 0,.int .i64 0,.bool false,.bool false,.int .i64 0,.int .i64 0,.bool false,.bool false,.int .i64 0,.slice none 0 0] 86;have XZ:=x1 wr (.cells [.int .i64 0,.string ⟨#[]⟩,.bool false,.int .i64 0,.int .i64 0,.int .i64 0,.int .i64 0,.bool false,.bool false,.int .i64 0,.int .i64 0,.bool false,.bool false,.int .i64 0,.slice none 0 0].toArray 86);obtain ⟨wz,hz9⟩:∃ q,wr.alloc (.cells [.int .i64 0,.string ⟨#[]⟩,.bool false,.int .i64 0,.int .i64 0,.int .i64 0,.int .i64 0,.bool false,.bool false,.int .i64 0,.int .i64 0,.bool false,.bool false,.int .i64 0,.slice none 0 0].toArray 86)=q:=⟨_,rfl⟩;rw [hz9] at VZ XZ;have VT:=VZ.there;have VR:=World.rangeAt_setCells_same wz wr.heap.size 0 (NT.exL ⟨ek,et,en,ed,ex,er,ec,ef,eg,er2,ec2,ef2,eg2,eq⟩ sk) VT;have XR:=Ext.setCells (b:=wr.heap.size) (Nat.le_refl _) (NT.exL ⟨ek,et,en,ed,ex,er,ec,ef,eg,er2,ec2,ef2,eg2,eq⟩ sk) 0 wz XZ;obtain ⟨w5,h5⟩:∃ q,wz.setCells wr.heap.size 0 (NT.exL ⟨ek,et,en,ed,ex,er,ec,ef,eg,er2,ec2,ef2,eg2,eq⟩ sk)=q:=⟨_,rfl⟩;rw [h5] at VR XR;obtain ⟨pk,nk,ck,rfl⟩:∃ pk nk ck,sk=.slice pk nk ck:=(by obtain ⟨q1,q2,q3,_⟩:=hks.slice;exact ⟨_,_,_,q3⟩);have one:((NT.exL ⟨ek,et,en,ed,ex,er,ec,ef,eg,er2,ec2,ef2,eg2,eq⟩ (.slice pk nk ck)).toArray).all (·.oneCell')=true:=(by simp [Value.oneCell']);have CC:=constS ⟨ek,et,en,ed,ex,er,ec,ef,eg,er2,ec2,ef2,eg2,eq⟩ (.slice pk nk ck) ekids U w5 (hks.keep (fun k hk=>XR.block k (Nat.lt_of_lt_of_le (HUL.out k hk) HO.out.1.size)) (fun _ h=>h));obtain ⟨z9,hz10⟩:∃ z,constE (.mk ⟨ek,et,en,ed,ex,er,ec,ef,eg,er2,ec2,ef2,eg2,eq⟩ ekids)=z:=⟨_,rfl⟩;have HZ9:Hid (constE (.mk ⟨ek,et,en,ed,ex,er,ec,ef,eg,er2,ec2,ef2,eg2,eq⟩ ekids)=z9):=hz10;rw [hz10] at CC;have ghi:(g,j * 15)=(g,j * 15):=rfl;clear hz10 hks he ev VZ XZ ghi;go_wp2_with (first | (refine wpList_load_mid rfl 86 (.tmp 237) rfl g (j * 15) rfl (NT.exL ⟨ek,et,en,ed,ex,er,ec,ef,eg,er2,ec2,ef2,eg2,eq⟩ (.slice pk nk ck)) _ HRA Tryz.underlying86 rfl hi15E ?_) | (refine wpList_store_mid rfl _ _ _ rfl wr.heap.size 0 (NT.exL ⟨ek,et,en,ed,ex,er,ec,ef,eg,er2,ec2,ef2,eg2,eq⟩ (.slice pk nk ck)).toArray rfl rfl VT hi15E one ?_;show wpList _ _ _ _ _ (wz.setCells wr.heap.size 0 (NT.exL ⟨ek,et,en,ed,ex,er,ec,ef,eg,er2,ec2,ef2,eg2,eq⟩ (.slice pk nk ck)));rw [h5];go_frame) | (refine wpList_load_mid rfl 86 (.tmp 9) rfl wr.heap.size 0 rfl (NT.exL ⟨ek,et,en,ed,ex,er,ec,ef,eg,er2,ec2,ef2,eg2,eq⟩ (.slice pk nk ck)) _ VR Tryz.underlying86 rfl hi15E ?_));refine CC.mono ?_;rintro e w6 ⟨rfl,e6⟩;have Y6:=xt (xt HO.out.1 XR) e6;cases z9
      ·have HB:Hid (false=Q):=by
        show _=_;have hall:ks.all constE=false:=by
         cases hq:ks.all constE with
         | false=>rfl
         | true =>
          have:=(List.all_eq_true.1 hq) _ (List.mem_of_getElem? HEL.out);rw [HZ9.out] at this;cases this
        rw [← HQ.out,hall];simp
       clear HO HRA VR VT XR CC;go_wp2_with fail;go_ret;exact ⟨ret_bool HB.out,Y6⟩
      ·have HM:Hid (Ext w w6∧∀ (q:Nat) e,q<j+1→ks[q]?=some e→constE e=true):=⟨Y6,fun q e hq hqe=>by
        by_cases q1:q=j
        ·subst q1;rw [HEL.out] at hqe;cases hqe;exact HZ9.out
        ·exact HO.out.2 q e (by omega) hqe⟩
       clear HO HRA VR VT XR CC;go_wp2_with fail;go_roundw
       case rel=>exact ⟨j+1,by omega,by go_num,HM⟩
       case measure=>simp [intOf];omega
     ·obtain rfl:j=kk:=(by omega);have i2:¬ (j:Int)<(j:Int):=(by omega);have HB:Hid (true=Q):=by
       show _=_;have hall:ks.all constE=true:=by
        rw [List.all_eq_true];intro e he;obtain ⟨q,hq,rfl⟩:=List.getElem_of_mem he;exact HO.out.2 q _ (by rw [← HKL.out];exact hq) (List.getElem?_eq_getElem hq)
       rw [← HQ.out,HMK.out,hBA,HS.out,hall];rfl
      have Y3:=HO.out.1;clear HO;go_wp2_with fail;go_ret;exact ⟨ret_bool HB.out,Y3⟩
 ·have HMK:Hid (decide (m=(kk:Int))=false):=decide_eq_false q;have gMK:(m != (kk:Int))=true:=by simp [q]
  clear q;have HB:Hid (false=Q):=by show _=_;rw [← HQ.out,HMK.out];simp
  have a0:=(VE 0 _ rfl).1;have a1:=(VE 1 _ rfl).1;have a2:=(VE 2 _ rfl).1;have a3:=(VE 3 _ rfl).1;have a4:=(VE 4 _ rfl).1;have a5:=(VE 5 _ rfl).1;have a6:=(VE 6 _ rfl).1;have a7:=(VE 7 _ rfl).1;have a8:=(VE 8 _ rfl).1;have a9:=(VE 9 _ rfl).1;have a10:=(VE 10 _ rfl).1;have a11:=(VE 11 _ rfl).1;have a12:=(VE 12 _ rfl).1;have a13:=(VE 13 _ rfl).1;have a14:=(VE 14 _ rfl).1;have d14:=(VE2 14 _ rfl).1;have n0:=(VN 0 _ rfl).1;have n1:=(VN 1 _ rfl).1;have n2:=(VN 2 _ rfl).1;have n3:=(VN 3 _ rfl).1;have n4:=(VN 4 _ rfl).1;have n5:=(VN 5 _ rfl).1;have n6:=(VN 6 _ rfl).1;have n7:=(VN 7 _ rfl).1;have n8:=(VN 8 _ rfl).1;have n9:=(VN 9 _ rfl).1;have n10:=(VN 10 _ rfl).1;have n11:=(VN 11 _ rfl).1;have n12:=(VN 12 _ rfl).1;have n13:=(VN 13 _ rfl).1;go_enter Tryz.func88,Tryz.ntmps88;go_wp2_with fail;clear a0 a1 a2 a3 a4 a5 a6 a7 a8 a9 a10 a11 a12 a13 a14 d14;go_ret;exact ⟨ret_bool HB.out,X⟩
end Go.Proofs.YtnbagcclckekkaaGreatDoor

