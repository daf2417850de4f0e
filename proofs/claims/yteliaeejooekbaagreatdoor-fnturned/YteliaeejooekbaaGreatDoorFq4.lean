import Derived.Test.YteliaeejooekbaaGreatDoorMg22
import Derived.Deep.DeepCutAuto
set_option maxRecDepth 8000
set_option maxHeartbeats 4000000
namespace Go.Proofs.YteliaeejooekbaaGreatDoor
open Go.RowKit
theorem zR7 (t:List UInt8) (neg:Bool) (d:Int) (x:Int) (r:Int) (c:Int) (rf:Bool) (cf:Bool) (r2:Int) (c2:Int) (rf2:Bool) (cf2:Bool) (m:Int) (w:World) (hl:t.length<=1048576) (d1 : -9223372036854775808<=d) (d2:d<=9223372036854775807) (hT:Tens w) (hE:zBC w) (hO:zC1 w) (LW:LibW w) (IT:zC2 w) :
  Calls Tryz.prog 115 #[ndV 11 t neg d x r c rf cf r2 c2 rf2 cf2 m] w fun e w'=>e=.returned (.bool (zAB 11 t neg d x r c rf cf r2 c2 rf2 cf2 m))/\Ext w w':=by
 obtain ⟨Q,hQ⟩:=nm (zAB 11 t neg d x r c rf cf r2 c2 rf2 cf2 m);have HQ:Hid _:=hQ;rw [hQ];clear hQ;obtain ⟨wa,ha,X,VN,-⟩:=zAC w [iQ 11,sV t,.bool neg,iQ d,iQ x,iQ r,iQ c,.bool rf,.bool cf,iQ r2,iQ c2,.bool rf2,.bool cf2,iQ m] 73;have TA:=hT.l X;have EA:=hE.l X;have OA:=hO.l X;have LA:=LW.l X;have hU:True:=by have _:=IT;have _:=hl;have _:=d1;have _:=d2;have _:=TA;have _:=EA;have _:=OA;have _:=LA;trivial
 clear hT hE hO LW hU;by_cases he:neg=false/\d=0/\x=0/\r=0/\c=0/\rf=false/\cf=false/\r2=0/\c2=0/\rf2=false/\cf2=false
 ·obtain ⟨rfl,rfl,rfl,rfl,rfl,rfl,rfl,rfl,rfl,rfl,rfl⟩:=he;go_enter Tryz.func115,Tryz.ntmps115;have CT:=fun W=>zBZ 11 t false 0 0 0 0 false false 0 0 false false m W;rw [show zAF 11 t false 0 0 0 0 false false 0 0 false false m=[iQ 11,sV t,.bool false,iQ 0,iQ 0,iQ 0,iQ 0,.bool false,.bool false,iQ 0,iQ 0,.bool false,.bool false,iQ m] by simp [zAF]] at CT;obtain ⟨a0,a1,a2,a3,a4,a5,a6,a7,a8,a9,a10,a11,a12,a13⟩:=VN.e14;go_wp2_with fail;refine zA2 rfl (by kernel_rfl) ?_
  repeat (go_big_quiet_step (first | (go_at_call 61;exact zA6 (CT _))))
  refine zA7 fun w1 Y=>?_;obtain ⟨b0,b1,b2,b3,b4,b5,b6,b7,b8,b9,b10,b11,b12,b13⟩:=(VN.l Y).c14;clear CT a0 a1 a2 a3 a4 a5 a6 a7 a8 a9 a10 a11 a12 a13;obtain ⟨g,hg⟩:=nm (zCL t);obtain ⟨u,hu⟩:=nm (t.map upC);obtain ⟨p,hp⟩:=nm ((t == u));have HB0:Hid ((g && p && (decide (0<=m) && decide (m<=30)))=Q):=by show _=_;rw [<- HQ.out];simp [zAB,hg,hu,hp]
  have CN:Hid (∀ W,Ext w1 W->Calls Tryz.prog 136 #[sV t] W fun e w'=>e=.returned (.bool g)/\Ext W w'):=fun W x=>by rw [<- hg];exact zVX t W hl (LA.l (xt Y x)) IT (xt X (xt Y x))
  have CC:Hid (∀ W,Calls Tryz.prog 138 #[sV t] W fun e w'=>e=.returned (sV u)/\Ext W w'):=fun W=>by rw [<- hu];exact capsI t W (by omega)
  go_upto_region 21 with fail;clear hg hu IT LA OA EA TA hl;cases g
  ·have HB:Hid _:=HB0;have c1:=fun p:ExtW w1=>cell_later p.ext b1;have c13:=fun p:ExtW w1=>cell_later p.ext b13;refine zA2 rfl (by kernel_rfl) ?_
   repeat (go_big_quiet_step (first | (go_at_call 136;exact zA6 (CN.out _ (ExtW.ext _))) | (go_at_call 138;exact zA6 (CC.out _))))
   refine zA7 fun wl X5=>?_;go_wp2_with fail;go_ret;exact ⟨zA1 HB.out,xt (xt X Y) X5⟩
  ·cases p
   ·have HB:Hid _:=HB0;have c1:=fun p:ExtW w1=>cell_later p.ext b1;have c13:=fun p:ExtW w1=>cell_later p.ext b13;refine zA2 rfl (by kernel_rfl) ?_
    repeat (go_big_quiet_step (first | (go_at_call 136;exact zA6 (CN.out _ (ExtW.ext _))) | (go_at_call 138;exact zA6 (CC.out _))))
    refine zA7 fun wl X5=>?_;go_wp2_with fail;go_ret;exact ⟨zA1 HB.out,xt (xt X Y) X5⟩
   ·by_cases q1:0<=m
    ·have g1:decide (0<=m)=true:=decide_eq_true q1;by_cases q2:m<=30
     ·have g2:decide (m<=30)=true:=decide_eq_true q2;have HB:Hid (true=Q):=(by show _=_;rw [<- HB0.out,g1,g2];rfl);have c1:=fun p:ExtW w1=>cell_later p.ext b1;have c13:=fun p:ExtW w1=>cell_later p.ext b13;refine zA2 rfl (by kernel_rfl) ?_
      repeat (go_big_quiet_step (first | (go_at_call 136;exact zA6 (CN.out _ (ExtW.ext _))) | (go_at_call 138;exact zA6 (CC.out _))))
      refine zA7 fun wl X5=>?_;go_wp2_with fail;go_ret;exact ⟨zA1 HB.out,xt (xt X Y) X5⟩
     ·have g2:decide (m<=30)=false:=decide_eq_false q2;have HB:Hid (false=Q):=(by show _=_;rw [<- HB0.out,g1,g2];rfl);have c1:=fun p:ExtW w1=>cell_later p.ext b1;have c13:=fun p:ExtW w1=>cell_later p.ext b13;refine zA2 rfl (by kernel_rfl) ?_
      repeat (go_big_quiet_step (first | (go_at_call 136;exact zA6 (CN.out _ (ExtW.ext _))) | (go_at_call 138;exact zA6 (CC.out _))))
      refine zA7 fun wl X5=>?_;go_wp2_with fail;go_ret;exact ⟨zA1 HB.out,xt (xt X Y) X5⟩
    ·have g1:decide (0<=m)=false:=decide_eq_false q1;have HB:Hid (false=Q):=(by show _=_;rw [<- HB0.out,g1];rfl);have c1:=fun p:ExtW w1=>cell_later p.ext b1;have c13:=fun p:ExtW w1=>cell_later p.ext b13;refine zA2 rfl (by kernel_rfl) ?_
     repeat (go_big_quiet_step (first | (go_at_call 136;exact zA6 (CN.out _ (ExtW.ext _))) | (go_at_call 138;exact zA6 (CC.out _))))
     refine zA7 fun wl X5=>?_;go_wp2_with fail;go_ret;exact ⟨zA1 HB.out,xt (xt X Y) X5⟩
 ·have HB:Hid (false=Q):=by show _=_;rw [<- HQ.out];unfold zAB;rw [if_neg (by decide),if_neg (by decide),if_neg (by decide),if_neg (by decide),if_neg (by decide),if_neg (by decide),if_neg (by decide),if_neg (by decide),if_neg (by decide),if_neg (by decide),if_neg (by decide),if_pos rfl,decide_eq_false he];rfl
  go_enter Tryz.func115,Tryz.ntmps115;have CT:=fun W=>zBZ 11 t neg d x r c rf cf r2 c2 rf2 cf2 m W;rw [show zAF 11 t neg d x r c rf cf r2 c2 rf2 cf2 m=[iQ 11,sV t,.bool false,iQ 0,iQ 0,iQ 0,iQ 0,.bool false,.bool false,iQ 0,iQ 0,.bool false,.bool false,iQ m] by simp [zAF]] at CT;obtain ⟨a0,a1,a2,a3,a4,a5,a6,a7,a8,a9,a10,a11,a12,a13⟩:=VN.e14;have hne:=fun W=>zBG 11 t neg d x r c rf cf r2 c2 rf2 cf2 m 11 t false 0 0 0 0 false false 0 0 false false m W;rw [decide_eq_false (by simpa using he)] at hne;go_wp2_with fail;refine zA2 rfl (by kernel_rfl) ?_
  repeat (go_big_quiet_step (first | (go_at_call 61;exact zA6 (CT _))))
  refine zA7 fun w1 Y=>?_;obtain ⟨b0,b1,b2,b3,b4,b5,b6,b7,b8,b9,b10,b11,b12,b13⟩:=(VN.l Y).c14;clear CT a0 a1 a2 a3 a4 a5 a6 a7 a8 a9 a10 a11 a12 a13 hne;go_wp2_with fail;go_ret;exact ⟨zA1 HB.out,xt X Y⟩
end Go.Proofs.YteliaeejooekbaaGreatDoor
