import Derived.Test.YteliaeejooekbaaGreatDoorMg22
import Derived.Test.YteliaeejooekbaaGreatDoorFq4
set_option maxRecDepth 8000
set_option maxHeartbeats 4000000
namespace Go.Proofs.YteliaeejooekbaaGreatDoor
open Go.RowKit
theorem zTY (t:List UInt8) (neg:Bool) (d:Int) (x:Int) (r:Int) (c:Int) (rf:Bool) (cf:Bool) (r2:Int) (c2:Int) (rf2:Bool) (cf2:Bool) (m:Int) (w:World) (hl:t.length<=1048576) (d1 : -9223372036854775808<=d) (d2:d<=9223372036854775807) (hT:Tens w) (hE:zBC w) (hO:zC1 w) (LW:LibW w) (IT:zC2 w) :
  Calls Tryz.prog 115 #[ndV 0 t neg d x r c rf cf r2 c2 rf2 cf2 m] w fun e w'=>e=.returned (.bool (zAB 0 t neg d x r c rf cf r2 c2 rf2 cf2 m))/\Ext w w':=by
 obtain ⟨Q,hQ⟩:=nm (zAB 0 t neg d x r c rf cf r2 c2 rf2 cf2 m);have HQ:Hid _:=hQ;rw [hQ];clear hQ;obtain ⟨wa,ha,X,VN,-⟩:=zAC w [iQ 0,sV t,.bool neg,iQ d,iQ x,iQ r,iQ c,.bool rf,.bool cf,iQ r2,iQ c2,.bool rf2,.bool cf2,iQ m] 73;have TA:=hT.l X;have EA:=hE.l X;have OA:=hO.l X;have LA:=LW.l X;have hU:True:=by have _:=IT;have _:=hl;have _:=d1;have _:=d2;have _:=TA;have _:=EA;have _:=OA;have _:=LA;trivial
 clear hT hE hO LW hU;by_cases he:t=[]/\neg=false/\d=0/\x=0/\r=0/\c=0/\rf=false/\cf=false/\r2=0/\c2=0/\rf2=false/\cf2=false/\m=0
 ·obtain ⟨rfl,rfl,rfl,rfl,rfl,rfl,rfl,rfl,rfl,rfl,rfl,rfl,rfl⟩:=he;have HB:Hid (false=Q):=by show _=_;rw [<- HQ.out];simp [zAB]
  go_enter Tryz.func115,Tryz.ntmps115;have CT:=fun W=>zBZ 0 [] false 0 0 0 0 false false 0 0 false false 0 W;rw [show zAF 0 [] false 0 0 0 0 false false 0 0 false false 0=[iQ 0,sV [],.bool false,iQ 0,iQ 0,iQ 0,iQ 0,.bool false,.bool false,iQ 0,iQ 0,.bool false,.bool false,iQ 0] by simp [zAF]] at CT;obtain ⟨a0,a1,a2,a3,a4,a5,a6,a7,a8,a9,a10,a11,a12,a13⟩:=VN.e14;go_wp2_with fail;refine zA2 rfl (by kernel_rfl) ?_
  repeat (go_big_quiet_step (first | (go_at_call 61;exact zA6 (CT _))))
  refine zA7 fun w1 Y=>?_;obtain ⟨b0,b1,b2,b3,b4,b5,b6,b7,b8,b9,b10,b11,b12,b13⟩:=(VN.l Y).c14;clear CT a0 a1 a2 a3 a4 a5 a6 a7 a8 a9 a10 a11 a12 a13;go_wp2_with fail;go_ret;exact ⟨zA1 HB.out,xt X Y⟩
 ·have HB:Hid (false=Q):=by show _=_;rw [<- HQ.out];simp [zAB]
  go_enter Tryz.func115,Tryz.ntmps115;have CT:=fun W=>zBZ 0 t neg d x r c rf cf r2 c2 rf2 cf2 m W;rw [show zAF 0 t neg d x r c rf cf r2 c2 rf2 cf2 m=[iQ 0,sV [],.bool false,iQ 0,iQ 0,iQ 0,iQ 0,.bool false,.bool false,iQ 0,iQ 0,.bool false,.bool false,iQ 0] by simp [zAF]] at CT;obtain ⟨a0,a1,a2,a3,a4,a5,a6,a7,a8,a9,a10,a11,a12,a13⟩:=VN.e14;have hne:=fun W=>zBG 0 t neg d x r c rf cf r2 c2 rf2 cf2 m 0 [] false 0 0 0 0 false false 0 0 false false 0 W;rw [decide_eq_false (by simpa using he)] at hne;go_wp2_with fail;refine zA2 rfl (by kernel_rfl) ?_
  repeat (go_big_quiet_step (first | (go_at_call 61;exact zA6 (CT _))))
  refine zA7 fun w1 Y=>?_;obtain ⟨b0,b1,b2,b3,b4,b5,b6,b7,b8,b9,b10,b11,b12,b13⟩:=(VN.l Y).c14;clear CT a0 a1 a2 a3 a4 a5 a6 a7 a8 a9 a10 a11 a12 a13 hne;go_wp2_with fail;go_ret;exact ⟨zA1 HB.out,xt X Y⟩
theorem zTO (k:Int) (t:List UInt8) (neg:Bool) (d:Int) (x:Int) (r:Int) (c:Int) (rf:Bool) (cf:Bool) (r2:Int) (c2:Int) (rf2:Bool) (cf2:Bool) (m:Int) (w:World) (h0:k ≠ 0) (h1:k ≠ 1) (h2:k ≠ 2) (h3:k ≠ 3) (h4:k ≠ 4) (h7:k ≠ 7) (h5:k ≠ 5) (h6:k ≠ 6) (h13:k ≠ 13) (h8:k ≠ 8) (h9:k ≠ 9) (h10:k ≠ 10) (h11:k ≠ 11) (h12:k ≠ 12) :
  Calls Tryz.prog 115 #[ndV k t neg d x r c rf cf r2 c2 rf2 cf2 m] w fun e w'=>e=.returned (.bool false)/\Ext w w':=by
 obtain ⟨wa,ha,X,VN,-⟩:=zAC w [iQ k,sV t,.bool neg,iQ d,iQ x,iQ r,iQ c,.bool rf,.bool cf,iQ r2,iQ c2,.bool rf2,.bool cf2,iQ m] 73;have CT:=fun W=>zBZ k t neg d x r c rf cf r2 c2 rf2 cf2 m W;rw [show zAF k t neg d x r c rf cf r2 c2 rf2 cf2 m=[iQ 0,sV [],.bool false,iQ 0,iQ 0,iQ 0,iQ 0,.bool false,.bool false,iQ 0,iQ 0,.bool false,.bool false,iQ 0] by simp [zAF,h1,h2,h3,h4,h7,h5,h6,h13,h8,h9,h10,h11,h12]] at CT;obtain ⟨a0,a1,a2,a3,a4,a5,a6,a7,a8,a9,a10,a11,a12,a13⟩:=VN.e14;have hne:=fun W=>zBG k t neg d x r c rf cf r2 c2 rf2 cf2 m 0 [] false 0 0 0 0 false false 0 0 false false 0 W;rw [decide_eq_false (fun h=>h0 h.1)] at hne;clear h1 h2 h3 h4 h7 h5 h6 h13 h8 h9 h10 h11 h12;go_enter Tryz.func115,Tryz.ntmps115;go_wp2_with fail;refine zA2 rfl (by kernel_rfl) ?_
 repeat (go_big_quiet_step (first | (go_at_call 61;exact zA6 (CT _))))
 refine zA7 fun w1 Y=>?_;obtain ⟨b0,b1,b2,b3,b4,b5,b6,b7,b8,b9,b10,b11,b12,b13⟩:=(VN.l Y).c14;clear CT hne a0 a1 a2 a3 a4 a5 a6 a7 a8 a9 a10 a11 a12 a13;go_wp2_with fail;go_ret;exact ⟨rfl,xt X Y⟩
theorem goodNI (k:Int) (t:List UInt8) (neg:Bool) (d:Int) (x:Int) (r:Int) (c:Int) (rf:Bool) (cf:Bool) (r2:Int) (c2:Int) (rf2:Bool) (cf2:Bool) (m:Int) (w:World) (hl:t.length<=1048576) (d1 : -9223372036854775808<=d) (d2:d<=9223372036854775807) (hT:Tens w) (hE:zBC w) (hO:zC1 w) (LW:LibW w) (IT:zC2 w) :
  Calls Tryz.prog 115 #[ndV k t neg d x r c rf cf r2 c2 rf2 cf2 m] w fun e w'=>e=.returned (.bool (zAB k t neg d x r c rf cf r2 c2 rf2 cf2 m))/\Ext w w':=by
 by_cases h0:k=0
 ·subst h0;exact zTY t neg d x r c rf cf r2 c2 rf2 cf2 m w hl d1 d2 hT hE hO LW IT
 by_cases h1:k=1
 ·subst h1;exact zTX t neg d x r c rf cf r2 c2 rf2 cf2 m w hl d1 d2 hT hE hO LW IT
 by_cases h2:k=2
 ·subst h2;exact zTW t neg d x r c rf cf r2 c2 rf2 cf2 m w hl d1 d2 hT hE hO LW IT
 by_cases h3:k=3
 ·subst h3;exact zTV t neg d x r c rf cf r2 c2 rf2 cf2 m w hl d1 d2 hT hE hO LW IT
 by_cases h4:k=4
 ·subst h4;exact zTU t neg d x r c rf cf r2 c2 rf2 cf2 m w hl d1 d2 hT hE hO LW IT
 by_cases h7:k=7
 ·subst h7;exact zTR t neg d x r c rf cf r2 c2 rf2 cf2 m w hl d1 d2 hT hE hO LW IT
 by_cases h5:k=5
 ·subst h5;exact zTT t neg d x r c rf cf r2 c2 rf2 cf2 m w hl d1 d2 hT hE hO LW IT
 by_cases h6:k=6
 ·subst h6;exact zTS t neg d x r c rf cf r2 c2 rf2 cf2 m w hl d1 d2 hT hE hO LW IT
 by_cases h13:k=13
 ·subst h13;exact zR5 t neg d x r c rf cf r2 c2 rf2 cf2 m w hl d1 d2 hT hE hO LW IT
 by_cases h8:k=8
 ·subst h8;exact zTQ t neg d x r c rf cf r2 c2 rf2 cf2 m w hl d1 d2 hT hE hO LW IT
 by_cases h9:k=9
 ·subst h9;exact zTP t neg d x r c rf cf r2 c2 rf2 cf2 m w hl d1 d2 hT hE hO LW IT
 by_cases h10:k=10
 ·subst h10;exact zR8 t neg d x r c rf cf r2 c2 rf2 cf2 m w hl d1 d2 hT hE hO LW IT
 by_cases h11:k=11
 ·subst h11;exact zR7 t neg d x r c rf cf r2 c2 rf2 cf2 m w hl d1 d2 hT hE hO LW IT
 by_cases h12:k=12
 ·subst h12;exact zR6 t neg d x r c rf cf r2 c2 rf2 cf2 m w hl d1 d2 hT hE hO LW IT
 rw [show zAB k t neg d x r c rf cf r2 c2 rf2 cf2 m=false by simp [zAB,h1,h2,h3,h4,h7,h5,h6,h13,h8,h9,h10,h11,h12]];exact zTO k t neg d x r c rf cf r2 c2 rf2 cf2 m w h0 h1 h2 h3 h4 h7 h5 h6 h13 h8 h9 h10 h11 h12
end Go.Proofs.YteliaeejooekbaaGreatDoor
