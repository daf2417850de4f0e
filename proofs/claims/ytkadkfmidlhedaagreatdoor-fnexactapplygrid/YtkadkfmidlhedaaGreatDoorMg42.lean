/-
  Several texts in one: V9k, V9l, V7e.
-/
import Derived.Test.YtkadkfmidlhedaaGreatDoorMg25
import Derived.Test.YtkadkfmidlhedaaGreatDoorMg41
import Derived.Test.YtkadkfmidlhedaaGreatDoorMg2
namespace Go.Proofs.YtkadkfmidlhedaaGreatDoor
open Go.RowKit
theorem enter_reck:∀ ar w,(callFunc 203 ar).run Tryz.prog w=.ok (.enter 203 ar) w:=fun ar w=>by kernel_rfl
theorem reckV_none {o:Nat} {k:Int} {n:Bool} {d x:Int} {t:List UInt8} {k':Int} {n':Bool} {d' x':Int} {t':List UInt8} (h:numD k n d x t=none):reckV o k n d x t k' n' d' x' t'=errW:=by
 unfold reckV;rw [h]
theorem reckV_none' {o:Nat} {k:Int} {n:Bool} {d x:Int} {t:List UInt8} {k':Int} {n':Bool} {d' x':Int} {t':List UInt8} {a:Bool × Int × Int} (h:numD k n d x t=some a) (h':numD k' n' d' x' t'=none):reckV o k n d x t k' n' d' x' t'=errW:=by
 unfold reckV;rw [h];simp only;rw [h']
theorem reckV_some {o:Nat} {k:Int} {n:Bool} {d x:Int} {t:List UInt8} {k':Int} {n':Bool} {d' x':Int} {t':List UInt8} {a b:Bool × Int × Int} (h:numD k n d x t=some a) (h':numD k' n' d' x' t'=some b):reckV o k n d x t k' n' d' x' t'=stepV o a.1 a.2.1 a.2.2 b.1 b.2.1 b.2.2:=by
 unfold reckV;rw [h];simp only;rw [h']
def Step (o f:Nat):Prop:=(∀ ar w,(callFunc f ar).run Tryz.prog w=.ok (.enter f ar) w) ∧
 ∀ (n:Bool) (d e:Int) (n':Bool) (d' e':Int),goodB n d e=true→goodB n' d' e'=true→∀ W,Tens W→Calls Tryz.prog f #[decV n d e,decV n' d' e'] W fun rr w'=>rr=.returned (stepV o n d e n' d' e')∧Ext W w'
theorem good_bnd {n:Bool} {d e:Int} (h:goodB n d e=true) : -9223372036854775808≤d∧d≤9223372036854775807:=by
 have:=good_all h;omega
theorem step_plus:Step 0 151:=⟨fun ar w=>by kernel_rfl,fun n d e n' d' e' ga gb W hT=>plus1I n d e n' d' e' W (good_bnd ga).1 (good_bnd ga).2 (good_bnd gb).1 (good_bnd gb).2 hT⟩
theorem step_minus:Step 1 154:=⟨fun ar w=>by kernel_rfl,fun n d e n' d' e' ga gb W hT=>minus1I n d e n' d' e' W (good_bnd ga).1 (good_bnd ga).2 (good_bnd gb).1 (good_bnd gb).2 hT⟩
theorem step_times:Step 2 156:=⟨fun ar w=>by kernel_rfl,fun n d e n' d' e' ga gb W hT=>times1I n d e n' d' e' W (good_bnd ga).1 (good_bnd ga).2 (good_bnd gb).1 (good_bnd gb).2 hT⟩
theorem step_over:Step 3 158:=⟨fun ar w=>by kernel_rfl,fun n d e n' d' e' ga gb W hT=>over1I n d e n' d' e' W (good_bnd ga).1 (good_bnd ga).2 (good_bnd gb).1 (good_bnd gb).2 hT gb⟩
theorem step_power:Step 4 160:=⟨fun ar w=>by kernel_rfl,fun n d e n' d' e' ga gb W hT=>powerI n d e n' d' e' W ga gb hT⟩
theorem reckI (o f:Nat) (S:Step o f) (k:Int) (n:Bool) (d x:Int) (t:List UInt8) (k':Int) (n':Bool) (d' x':Int) (t':List UInt8) (w:World) (hl:t.length≤1048576) (hl':t'.length≤1048576) (d1 : -9223372036854775808≤d) (d2:d≤9223372036854775807) (d1' : -9223372036854775808≤d') (d2':d'≤9223372036854775807) (hT:Tens w) (hE:ErrTab w) (ga:goodV k n d x t=true) (gb:goodV k' n' d' x' t'=true) (h4:k ≠ 4) (h4':k' ≠ 4) :
  Calls Tryz.prog 150 #[valV k n d x t,valV k' n' d' x' t',fnV f] w fun e w'=>e=.returned (reckV o k n d x t k' n' d' x' t')∧Ext w w':=by
 have NA:∀ w1,Ext w w1→Calls Tryz.prog 89 #[valV k n d x t] w1 fun e w'=>e=.returned (numOf k n d x t)∧Ext w1 w':=fun w1 h=>by
  have:=numOfI k n d x t w1 hl d1 d2 (hT.later h) (hE.later h);unfold numOfV at this;rw [if_pos ga] at this;exact this
 have NB:∀ w1,Ext w w1→Calls Tryz.prog 89 #[valV k' n' d' x' t'] w1 fun e w'=>e=.returned (numOf k' n' d' x' t')∧Ext w1 w':=fun w1 h=>by
  have:=numOfI k' n' d' x' t' w1 hl' d1' d2' (hT.later h) (hE.later h);unfold numOfV at this;rw [if_pos gb] at this;exact this
 cases hA:numD k n d x t with
 | none =>
  rw [reckV_none hA];rw [numOf_none hA] at NA;obtain ⟨kb,nb,db,xb,tb,hb⟩:=numOf_val k' n' d' x' t';rw [hb] at NB;exact reckW k n d x t k' n' d' x' t' f w _ _ _ _ _ kb nb db xb tb NA NB fun w1 p _ _=>of_left _ _ _ _ kb nb db xb tb _ w1
 | some a =>
  obtain ⟨an,ad,ae⟩:=a;obtain ⟨ea,gA⟩:=numOf_some ga h4 hA;rw [ea] at NA;cases hB:numD k' n' d' x' t' with
  | none =>
   rw [reckV_none' hA hB];rw [numOf_none hB] at NB;exact reckW k n d x t k' n' d' x' t' f w _ _ _ _ _ _ _ _ _ _ NA NB fun w1 p _ _=>of_right _ _ _ _ _ _ _ _ _ _ (by decide) w1
  | some b =>
   obtain ⟨bn,bd,be⟩:=b;obtain ⟨eb,gB⟩:=numOf_some gb h4' hB;rw [eb] at NB;rw [reckV_some hA hB];obtain ⟨k2,n2,d2,x2,t2,hv⟩:=stepV_val o an ad ae bn bd be;have SS:=S.2 an ad ae bn bd be gA gB;rw [hv] at SS;show Calls _ _ _ _ fun e w'=>e=.returned (stepV o an ad ae bn bd be)∧_;rw [hv];refine reckW k n d x t k' n' d' x' t' f w _ _ _ _ _ _ _ _ _ _ NA NB fun w1 p h1 hp=>?_;refine of_cap _ _ _ _ _ _ _ _ _ _ _ _ enter_reck (by decide) (by decide) w1 fun w2 h2=>?_;exact reck1 _ _ _ _ _ _ _ _ _ _ f p S.1 w2 (cell_later h2 hp) fun w3 h3=>SS w3 (hT.later (xt (xt h1 h2) h3))
set_option maxRecDepth 8000 in
set_option maxHeartbeats 2000000 in
theorem plusMI (k:Int) (n:Bool) (d x:Int) (t:List UInt8) (k':Int) (n':Bool) (d' x':Int) (t':List UInt8) (w:World) (hl:t.length≤1048576) (hl':t'.length≤1048576) (d1 : -9223372036854775808≤d) (d2:d≤9223372036854775807) (d1' : -9223372036854775808≤d') (d2':d'≤9223372036854775807) (hT:Tens w) (hE:ErrTab w) (ga:goodV k n d x t=true) (gb:goodV k' n' d' x' t'=true) (h4:k ≠ 4) (h4':k' ≠ 4) :
  Calls Tryz.prog 106 #[valV k n d x t,valV k' n' d' x' t'] w fun e w'=>e=.returned (reckV 0 k n d x t k' n' d' x' t')∧Ext w w':=by
 obtain ⟨k2,n2,dd2,x2,t2,hv⟩:=reckV_val 0 k n d x t k' n' d' x' t';have HV:Hid (reckV 0 k n d x t k' n' d' x' t'=valV k2 n2 dd2 x2 t2):=hv;rw [hv];clear hv;obtain ⟨u0,u1,u2,h0,h1,h2,s0,s1,s2,B0,B1,B2,X⟩:=mkB3 w [.int .i64 k,.bool n,.int .i64 d,.int .i64 x,sV t] [.int .i64 k',.bool n',.int .i64 d',.int .i64 x',sV t'] [.int .i64 0,.bool false,.int .i64 0,.int .i64 0,sV []] 26 26 26;obtain ⟨a0,a1,a2,a3,a4⟩:=Vec.five (B0);obtain ⟨c0,c1,c2,c3,c4⟩:=Vec.five (B1);have HP:Hid (Calls Tryz.prog 150 #[valV k n d x t,valV k' n' d' x' t',fnV 151] u2 fun e w'=>e=.returned (reckV 0 k n d x t k' n' d' x' t')∧Ext u2 w'):=reckI 0 _ step_plus k n d x t k' n' d' x' t' u2 hl hl' d1 d2 d1' d2' (hT.later X) (hE.later X) ga gb h4 h4';clear hl hl' d1 d2 d1' d2' hT hE ga gb h4 h4';go_enter Tryz.func106,Tryz.ntmps106;go_wp2_with fail;clear h0 s0 h1 s1 h2 s2 a0 a1 a2 a3 a4 c0 c1 c2 c3 c4;refine (HP.out).mono ?_;rintro e w1 ⟨rfl,e1⟩;rw [HV.out];obtain ⟨wy,hy,FX,⟨b0,b1,b2,b3,b4⟩,⟨fb0,fb1,fb2,fb3,fb4⟩,fd0,fd1,fd2,fd3,fd4⟩:=fin5 (B2.later e1) (xt X e1) (by omega) k2 n2 dd2 x2 t2;go_wp2_with fail;exact bodyPost_ret (v:=valV k2 n2 dd2 x2 t2) (by simp [results,Tryz.results106,go_sem,fd0,fd1,fd2,fd3,fd4]) rfl ⟨rfl,FX⟩
set_option maxRecDepth 8000 in
set_option maxHeartbeats 2000000 in
theorem minusMI (k:Int) (n:Bool) (d x:Int) (t:List UInt8) (k':Int) (n':Bool) (d' x':Int) (t':List UInt8) (w:World) (hl:t.length≤1048576) (hl':t'.length≤1048576) (d1 : -9223372036854775808≤d) (d2:d≤9223372036854775807) (d1' : -9223372036854775808≤d') (d2':d'≤9223372036854775807) (hT:Tens w) (hE:ErrTab w) (ga:goodV k n d x t=true) (gb:goodV k' n' d' x' t'=true) (h4:k ≠ 4) (h4':k' ≠ 4) :
  Calls Tryz.prog 107 #[valV k n d x t,valV k' n' d' x' t'] w fun e w'=>e=.returned (reckV 1 k n d x t k' n' d' x' t')∧Ext w w':=by
 obtain ⟨k2,n2,dd2,x2,t2,hv⟩:=reckV_val 1 k n d x t k' n' d' x' t';have HV:Hid (reckV 1 k n d x t k' n' d' x' t'=valV k2 n2 dd2 x2 t2):=hv;rw [hv];clear hv;obtain ⟨u0,u1,u2,h0,h1,h2,s0,s1,s2,B0,B1,B2,X⟩:=mkB3 w [.int .i64 k,.bool n,.int .i64 d,.int .i64 x,sV t] [.int .i64 k',.bool n',.int .i64 d',.int .i64 x',sV t'] [.int .i64 0,.bool false,.int .i64 0,.int .i64 0,sV []] 26 26 26;obtain ⟨a0,a1,a2,a3,a4⟩:=Vec.five (B0);obtain ⟨c0,c1,c2,c3,c4⟩:=Vec.five (B1);have HP:Hid (Calls Tryz.prog 150 #[valV k n d x t,valV k' n' d' x' t',fnV 154] u2 fun e w'=>e=.returned (reckV 1 k n d x t k' n' d' x' t')∧Ext u2 w'):=reckI 1 _ step_minus k n d x t k' n' d' x' t' u2 hl hl' d1 d2 d1' d2' (hT.later X) (hE.later X) ga gb h4 h4';clear hl hl' d1 d2 d1' d2' hT hE ga gb h4 h4';go_enter Tryz.func107,Tryz.ntmps107;go_wp2_with fail;clear h0 s0 h1 s1 h2 s2 a0 a1 a2 a3 a4 c0 c1 c2 c3 c4;refine (HP.out).mono ?_;rintro e w1 ⟨rfl,e1⟩;rw [HV.out];obtain ⟨wy,hy,FX,⟨b0,b1,b2,b3,b4⟩,⟨fb0,fb1,fb2,fb3,fb4⟩,fd0,fd1,fd2,fd3,fd4⟩:=fin5 (B2.later e1) (xt X e1) (by omega) k2 n2 dd2 x2 t2;go_wp2_with fail;exact bodyPost_ret (v:=valV k2 n2 dd2 x2 t2) (by simp [results,Tryz.results107,go_sem,fd0,fd1,fd2,fd3,fd4]) rfl ⟨rfl,FX⟩
set_option maxRecDepth 8000 in
set_option maxHeartbeats 2000000 in
theorem timesMI (k:Int) (n:Bool) (d x:Int) (t:List UInt8) (k':Int) (n':Bool) (d' x':Int) (t':List UInt8) (w:World) (hl:t.length≤1048576) (hl':t'.length≤1048576) (d1 : -9223372036854775808≤d) (d2:d≤9223372036854775807) (d1' : -9223372036854775808≤d') (d2':d'≤9223372036854775807) (hT:Tens w) (hE:ErrTab w) (ga:goodV k n d x t=true) (gb:goodV k' n' d' x' t'=true) (h4:k ≠ 4) (h4':k' ≠ 4) :
  Calls Tryz.prog 108 #[valV k n d x t,valV k' n' d' x' t'] w fun e w'=>e=.returned (reckV 2 k n d x t k' n' d' x' t')∧Ext w w':=by
 obtain ⟨k2,n2,dd2,x2,t2,hv⟩:=reckV_val 2 k n d x t k' n' d' x' t';have HV:Hid (reckV 2 k n d x t k' n' d' x' t'=valV k2 n2 dd2 x2 t2):=hv;rw [hv];clear hv;obtain ⟨u0,u1,u2,h0,h1,h2,s0,s1,s2,B0,B1,B2,X⟩:=mkB3 w [.int .i64 k,.bool n,.int .i64 d,.int .i64 x,sV t] [.int .i64 k',.bool n',.int .i64 d',.int .i64 x',sV t'] [.int .i64 0,.bool false,.int .i64 0,.int .i64 0,sV []] 26 26 26;obtain ⟨a0,a1,a2,a3,a4⟩:=Vec.five (B0);obtain ⟨c0,c1,c2,c3,c4⟩:=Vec.five (B1);have HP:Hid (Calls Tryz.prog 150 #[valV k n d x t,valV k' n' d' x' t',fnV 156] u2 fun e w'=>e=.returned (reckV 2 k n d x t k' n' d' x' t')∧Ext u2 w'):=reckI 2 _ step_times k n d x t k' n' d' x' t' u2 hl hl' d1 d2 d1' d2' (hT.later X) (hE.later X) ga gb h4 h4';clear hl hl' d1 d2 d1' d2' hT hE ga gb h4 h4';go_enter Tryz.func108,Tryz.ntmps108;go_wp2_with fail;clear h0 s0 h1 s1 h2 s2 a0 a1 a2 a3 a4 c0 c1 c2 c3 c4;refine (HP.out).mono ?_;rintro e w1 ⟨rfl,e1⟩;rw [HV.out];obtain ⟨wy,hy,FX,⟨b0,b1,b2,b3,b4⟩,⟨fb0,fb1,fb2,fb3,fb4⟩,fd0,fd1,fd2,fd3,fd4⟩:=fin5 (B2.later e1) (xt X e1) (by omega) k2 n2 dd2 x2 t2;go_wp2_with fail;exact bodyPost_ret (v:=valV k2 n2 dd2 x2 t2) (by simp [results,Tryz.results108,go_sem,fd0,fd1,fd2,fd3,fd4]) rfl ⟨rfl,FX⟩
set_option maxRecDepth 8000 in
set_option maxHeartbeats 2000000 in
theorem overMI (k:Int) (n:Bool) (d x:Int) (t:List UInt8) (k':Int) (n':Bool) (d' x':Int) (t':List UInt8) (w:World) (hl:t.length≤1048576) (hl':t'.length≤1048576) (d1 : -9223372036854775808≤d) (d2:d≤9223372036854775807) (d1' : -9223372036854775808≤d') (d2':d'≤9223372036854775807) (hT:Tens w) (hE:ErrTab w) (ga:goodV k n d x t=true) (gb:goodV k' n' d' x' t'=true) (h4:k ≠ 4) (h4':k' ≠ 4) :
  Calls Tryz.prog 109 #[valV k n d x t,valV k' n' d' x' t'] w fun e w'=>e=.returned (reckV 3 k n d x t k' n' d' x' t')∧Ext w w':=by
 obtain ⟨k2,n2,dd2,x2,t2,hv⟩:=reckV_val 3 k n d x t k' n' d' x' t';have HV:Hid (reckV 3 k n d x t k' n' d' x' t'=valV k2 n2 dd2 x2 t2):=hv;rw [hv];clear hv;obtain ⟨u0,u1,u2,h0,h1,h2,s0,s1,s2,B0,B1,B2,X⟩:=mkB3 w [.int .i64 k,.bool n,.int .i64 d,.int .i64 x,sV t] [.int .i64 k',.bool n',.int .i64 d',.int .i64 x',sV t'] [.int .i64 0,.bool false,.int .i64 0,.int .i64 0,sV []] 26 26 26;obtain ⟨a0,a1,a2,a3,a4⟩:=Vec.five (B0);obtain ⟨c0,c1,c2,c3,c4⟩:=Vec.five (B1);have HP:Hid (Calls Tryz.prog 150 #[valV k n d x t,valV k' n' d' x' t',fnV 158] u2 fun e w'=>e=.returned (reckV 3 k n d x t k' n' d' x' t')∧Ext u2 w'):=reckI 3 _ step_over k n d x t k' n' d' x' t' u2 hl hl' d1 d2 d1' d2' (hT.later X) (hE.later X) ga gb h4 h4';clear hl hl' d1 d2 d1' d2' hT hE ga gb h4 h4';go_enter Tryz.func109,Tryz.ntmps109;go_wp2_with fail;clear h0 s0 h1 s1 h2 s2 a0 a1 a2 a3 a4 c0 c1 c2 c3 c4;refine (HP.out).mono ?_;rintro e w1 ⟨rfl,e1⟩;rw [HV.out];obtain ⟨wy,hy,FX,⟨b0,b1,b2,b3,b4⟩,⟨fb0,fb1,fb2,fb3,fb4⟩,fd0,fd1,fd2,fd3,fd4⟩:=fin5 (B2.later e1) (xt X e1) (by omega) k2 n2 dd2 x2 t2;go_wp2_with fail;exact bodyPost_ret (v:=valV k2 n2 dd2 x2 t2) (by simp [results,Tryz.results109,go_sem,fd0,fd1,fd2,fd3,fd4]) rfl ⟨rfl,FX⟩
set_option maxRecDepth 8000 in
set_option maxHeartbeats 2000000 in
theorem powerMI (k:Int) (n:Bool) (d x:Int) (t:List UInt8) (k':Int) (n':Bool) (d' x':Int) (t':List UInt8) (w:World) (hl:t.length≤1048576) (hl':t'.length≤1048576) (d1 : -9223372036854775808≤d) (d2:d≤9223372036854775807) (d1' : -9223372036854775808≤d') (d2':d'≤9223372036854775807) (hT:Tens w) (hE:ErrTab w) (ga:goodV k n d x t=true) (gb:goodV k' n' d' x' t'=true) (h4:k ≠ 4) (h4':k' ≠ 4) :
  Calls Tryz.prog 110 #[valV k n d x t,valV k' n' d' x' t'] w fun e w'=>e=.returned (reckV 4 k n d x t k' n' d' x' t')∧Ext w w':=by
 obtain ⟨k2,n2,dd2,x2,t2,hv⟩:=reckV_val 4 k n d x t k' n' d' x' t';have HV:Hid (reckV 4 k n d x t k' n' d' x' t'=valV k2 n2 dd2 x2 t2):=hv;rw [hv];clear hv;obtain ⟨u0,u1,u2,h0,h1,h2,s0,s1,s2,B0,B1,B2,X⟩:=mkB3 w [.int .i64 k,.bool n,.int .i64 d,.int .i64 x,sV t] [.int .i64 k',.bool n',.int .i64 d',.int .i64 x',sV t'] [.int .i64 0,.bool false,.int .i64 0,.int .i64 0,sV []] 26 26 26;obtain ⟨a0,a1,a2,a3,a4⟩:=Vec.five (B0);obtain ⟨c0,c1,c2,c3,c4⟩:=Vec.five (B1);have HP:Hid (Calls Tryz.prog 150 #[valV k n d x t,valV k' n' d' x' t',fnV 160] u2 fun e w'=>e=.returned (reckV 4 k n d x t k' n' d' x' t')∧Ext u2 w'):=reckI 4 _ step_power k n d x t k' n' d' x' t' u2 hl hl' d1 d2 d1' d2' (hT.later X) (hE.later X) ga gb h4 h4';clear hl hl' d1 d2 d1' d2' hT hE ga gb h4 h4';go_enter Tryz.func110,Tryz.ntmps110;go_wp2_with fail;clear h0 s0 h1 s1 h2 s2 a0 a1 a2 a3 a4 c0 c1 c2 c3 c4;refine (HP.out).mono ?_;rintro e w1 ⟨rfl,e1⟩;rw [HV.out];obtain ⟨wy,hy,FX,⟨b0,b1,b2,b3,b4⟩,⟨fb0,fb1,fb2,fb3,fb4⟩,fd0,fd1,fd2,fd3,fd4⟩:=fin5 (B2.later e1) (xt X e1) (by omega) k2 n2 dd2 x2 t2;go_wp2_with fail;exact bodyPost_ret (v:=valV k2 n2 dd2 x2 t2) (by simp [results,Tryz.results110,go_sem,fd0,fd1,fd2,fd3,fd4]) rfl ⟨rfl,FX⟩
def MakesI (o f:Nat):Prop:=(∀ ar w,(callFunc f ar).run Tryz.prog w=.ok (.enter f ar) w) ∧
 ∀ (k:Int) (n:Bool) (d x:Int) (t:List UInt8) (k':Int) (n':Bool) (d' x':Int) (t':List UInt8) (w:World) (_:t.length≤1048576) (_:t'.length≤1048576) (_ : -9223372036854775808≤d) (_:d≤9223372036854775807) (_ : -9223372036854775808≤d') (_:d'≤9223372036854775807) (_:Tens w) (_:ErrTab w) (_:ItoaC w) (_:goodV k n d x t=true) (_:goodV k' n' d' x' t'=true) (_:k ≠ 4) (_:k' ≠ 4),
  Calls Tryz.prog f #[valV k n d x t,valV k' n' d' x' t'] w fun e w'=>e=.returned (makeV o k n d x t k' n' d' x' t')∧Ext w w'
theorem makes_0:MakesI 0 106:=⟨fun ar w=>by kernel_rfl,fun k n d x t k' n' d' x' t' w hl hl' d1 d2 d1' d2' hT hE hI ga gb h4 h4'=>by
  have:=plusMI k n d x t k' n' d' x' t' w hl hl' d1 d2 d1' d2' hT hE ga gb h4 h4';exact this⟩
theorem makes_1:MakesI 1 107:=⟨fun ar w=>by kernel_rfl,fun k n d x t k' n' d' x' t' w hl hl' d1 d2 d1' d2' hT hE hI ga gb h4 h4'=>by
  have:=minusMI k n d x t k' n' d' x' t' w hl hl' d1 d2 d1' d2' hT hE ga gb h4 h4';exact this⟩
theorem makes_2:MakesI 2 108:=⟨fun ar w=>by kernel_rfl,fun k n d x t k' n' d' x' t' w hl hl' d1 d2 d1' d2' hT hE hI ga gb h4 h4'=>by
  have:=timesMI k n d x t k' n' d' x' t' w hl hl' d1 d2 d1' d2' hT hE ga gb h4 h4';exact this⟩
theorem makes_3:MakesI 3 109:=⟨fun ar w=>by kernel_rfl,fun k n d x t k' n' d' x' t' w hl hl' d1 d2 d1' d2' hT hE hI ga gb h4 h4'=>by
  have:=overMI k n d x t k' n' d' x' t' w hl hl' d1 d2 d1' d2' hT hE ga gb h4 h4';exact this⟩
theorem makes_4:MakesI 4 110:=⟨fun ar w=>by kernel_rfl,fun k n d x t k' n' d' x' t' w hl hl' d1 d2 d1' d2' hT hE hI ga gb h4 h4'=>by
  have:=powerMI k n d x t k' n' d' x' t' w hl hl' d1 d2 d1' d2' hT hE ga gb h4 h4';exact this⟩
theorem makes_5:MakesI 5 111:=⟨fun ar w=>by kernel_rfl,fun k n d x t k' n' d' x' t' w hl hl' d1 d2 d1' d2' hT hE hI ga gb h4 h4'=>by
  exact joinedI k n d x t k' n' d' x' t' w (by omega) (by omega) d1 d2 d1' d2' hT hE hI ga gb⟩
theorem makes_6:MakesI 6 112:=⟨fun ar w=>by kernel_rfl,fun k n d x t k' n' d' x' t' w hl hl' d1 d2 d1' d2' hT hE hI ga gb h4 h4'=>by
  exact sameI k n d x t k' n' d' x' t' w (by omega) (by omega) d1 d2 d1' d2' hT hE⟩
theorem makes_7:MakesI 7 113:=⟨fun ar w=>by kernel_rfl,fun k n d x t k' n' d' x' t' w hl hl' d1 d2 d1' d2' hT hE hI ga gb h4 h4'=>by
  exact unlikeI k n d x t k' n' d' x' t' w (by omega) (by omega) d1 d2 d1' d2' hT hE⟩
theorem makes_8:MakesI 8 114:=⟨fun ar w=>by kernel_rfl,fun k n d x t k' n' d' x' t' w hl hl' d1 d2 d1' d2' hT hE hI ga gb h4 h4'=>by
  exact belowI k n d x t k' n' d' x' t' w (by omega) (by omega) d1 d2 d1' d2' hT hE⟩
theorem makes_9:MakesI 9 115:=⟨fun ar w=>by kernel_rfl,fun k n d x t k' n' d' x' t' w hl hl' d1 d2 d1' d2' hT hE hI ga gb h4 h4'=>by
  exact aboveI k n d x t k' n' d' x' t' w (by omega) (by omega) d1 d2 d1' d2' hT hE⟩
theorem makes_10:MakesI 10 116:=⟨fun ar w=>by kernel_rfl,fun k n d x t k' n' d' x' t' w hl hl' d1 d2 d1' d2' hT hE hI ga gb h4 h4'=>by
  exact notAboveI k n d x t k' n' d' x' t' w (by omega) (by omega) d1 d2 d1' d2' hT hE⟩
theorem makes_11:MakesI 11 117:=⟨fun ar w=>by kernel_rfl,fun k n d x t k' n' d' x' t' w hl hl' d1 d2 d1' d2' hT hE hI ga gb h4 h4'=>by
  exact notBelowI k n d x t k' n' d' x' t' w (by omega) (by omega) d1 d2 d1' d2' hT hE⟩
theorem opN_at {op:List UInt8} {o:Nat} (h:opN op=some o):signL[o]?=some op:=by
 unfold opN at h;rw [List.findIdx?_eq_some_iff_getElem] at h;obtain ⟨hlt,h1,_⟩:=h;rw [List.getElem?_eq_getElem hlt];exact congrArg some (by simpa using h1)
theorem opN_no {op:List UInt8} (h:opN op=none):∀ p ∈ workL,p.1 ≠ op:=by
 unfold opN at h;rw [List.findIdx?_eq_none_iff] at h;intro p hp e;have hm:p.1 ∈ signL:=by
  simp only [workL,List.mem_cons,List.not_mem_nil,or_false] at hp
  rcases hp with rfl | rfl | rfl | rfl | rfl | rfl | rfl | rfl | rfl | rfl | rfl | rfl <;> decide
 have:=h _ hm;simp [e] at this
theorem work_one:∀ p ∈ workL,∀ q ∈ workL,p.1=q.1→p.2=q.2:=by
 have h:(workL.map Prod.fst).Nodup:=by decide
 intro p hp q hq e;obtain ⟨i,hi,rfl⟩:=List.getElem_of_mem hp;obtain ⟨j,hj,rfl⟩:=List.getElem_of_mem hq;have:=(List.getElem_inj (xs:=workL.map Prod.fst) (i:=i) (j:=j) (h₀:=by simpa using hi) (h₁:=by simpa using hj) h).1 (by simpa using e);subst this;rfl
theorem op_work {op:List UInt8} {o:Nat} (h:opN op=some o):∃ f,(op,fnV f) ∈ workL∧(∀ p ∈ workL,p.1=op→p.2=fnV f)∧MakesI o f:=by
 have h1:=opN_at h;have h2:o<12:=(List.getElem?_eq_some_iff.1 h1).1
 match o,h1,h2 with
 | 0,h1,_ =>
  cases h1;exact ⟨106,by simp [workL],fun p hp e=>work_one p hp (_,_) (by simp [workL]) e,makes_0⟩
 | 1,h1,_ =>
  cases h1;exact ⟨107,by simp [workL],fun p hp e=>work_one p hp (_,_) (by simp [workL]) e,makes_1⟩
 | 2,h1,_ =>
  cases h1;exact ⟨108,by simp [workL],fun p hp e=>work_one p hp (_,_) (by simp [workL]) e,makes_2⟩
 | 3,h1,_ =>
  cases h1;exact ⟨109,by simp [workL],fun p hp e=>work_one p hp (_,_) (by simp [workL]) e,makes_3⟩
 | 4,h1,_ =>
  cases h1;exact ⟨110,by simp [workL],fun p hp e=>work_one p hp (_,_) (by simp [workL]) e,makes_4⟩
 | 5,h1,_ =>
  cases h1;exact ⟨111,by simp [workL],fun p hp e=>work_one p hp (_,_) (by simp [workL]) e,makes_5⟩
 | 6,h1,_ =>
  cases h1;exact ⟨112,by simp [workL],fun p hp e=>work_one p hp (_,_) (by simp [workL]) e,makes_6⟩
 | 7,h1,_ =>
  cases h1;exact ⟨113,by simp [workL],fun p hp e=>work_one p hp (_,_) (by simp [workL]) e,makes_7⟩
 | 8,h1,_ =>
  cases h1;exact ⟨114,by simp [workL],fun p hp e=>work_one p hp (_,_) (by simp [workL]) e,makes_8⟩
 | 9,h1,_ =>
  cases h1;exact ⟨115,by simp [workL],fun p hp e=>work_one p hp (_,_) (by simp [workL]) e,makes_9⟩
 | 10,h1,_ =>
  cases h1;exact ⟨116,by simp [workL],fun p hp e=>work_one p hp (_,_) (by simp [workL]) e,makes_10⟩
 | 11,h1,_ =>
  cases h1;exact ⟨117,by simp [workL],fun p hp e=>work_one p hp (_,_) (by simp [workL]) e,makes_11⟩
theorem ofI (o f:Nat) (M:MakesI o f) (k:Int) (n:Bool) (d x:Int) (t:List UInt8) (k':Int) (n':Bool) (d' x':Int) (t':List UInt8) (w:World) (hl:t.length≤1048576) (hl':t'.length≤1048576) (d1 : -9223372036854775808≤d) (d2:d≤9223372036854775807) (d1' : -9223372036854775808≤d') (d2':d'≤9223372036854775807) (hT:Tens w) (hE:ErrTab w) (hI:ItoaC w) (ga:goodV k n d x t=true) (gb:goodV k' n' d' x' t'=true) :
  Calls Tryz.prog 64 #[fnV f,valV k n d x t,valV k' n' d' x' t'] w fun e w'=>e=.returned (workV o k n d x t k' n' d' x' t')∧Ext w w':=by
 unfold workV;by_cases h4:k=4
 ·subst h4;rw [if_pos rfl];exact of_left n d x t k' n' d' x' t' (fnV f) w
 ·rw [if_neg h4];by_cases h4':k'=4
  ·subst h4';rw [if_pos rfl];exact of_right k n d x t n' d' x' t' (fnV f) h4 w
  ·rw [if_neg h4'];obtain ⟨k2,n2,dd2,x2,t2,hv⟩:=makeV_val o k n d x t k' n' d' x' t';rw [hv];refine of_go k n d x t k' n' d' x' t' f M.1 h4 h4' w fun w1 h1=>?_;have:=M.2 k n d x t k' n' d' x' t' w1 hl hl' d1 d2 d1' d2' (hT.later h1) (hE.later h1) (hI.later h1) ga gb h4 h4';rw [hv] at this;exact this
theorem xdNv {a b:World} (h:Ext a b) (n:Nat):Ext a (b.drewN n):=⟨h.os,h.tape,h.output,h.size,h.block⟩
set_option maxRecDepth 8000 in
set_option maxHeartbeats 2000000 in
theorem goodGI (r c:Int) (v:Value) (l:List VT) (w:World) (h:ValsIn w v l) (hl:l.length≤2000000) (ht:∀ e ∈ l,e.t.length≤2000000) (hd:∀ e ∈ l,-9223372036854775808≤e.d∧e.d≤9223372036854775807) (hT:Tens w) (hE:ErrTab w) :
  Calls Tryz.prog 62 #[grV r c v] w fun e w'=>e=.returned (.bool (goodG r c l))∧Ext w w':=by
 obtain ⟨p,cap,rfl,hcap,hrow⟩:=h;obtain ⟨n,hn⟩:∃ n,l.length=n:=⟨_,rfl⟩;have HN:Hid (l.length=n):=hn;have HG:Hid (goodG r c l=(gsidesB r c n && l.all VT.good)):=by show _=_;unfold goodG;rw [hn]
 obtain ⟨R,hR⟩:∃ R,goodG r c l=R:=⟨_,rfl⟩;rw [hR] at HG ⊢;rw [hn] at hcap hl hrow ⊢;have HRow:Hid (0<n→∃ b o,p=some ⟨b,o,none⟩∧RowV w b o l):=hrow;have HT:Hid (∀ e ∈ l,e.t.length≤2000000):=ht;have X0:=x1 w (.cells #[.int .i64 r,.int .i64 c,.slice p n cap] 35);have HD:Hid (∀ e ∈ l,-9223372036854775808≤e.d∧e.d≤9223372036854775807):=hd;have HTT:Hid (Tens w):=hT;have HEE:Hid (ErrTab w):=hE;clear hn hrow hR ht hd hT hE;by_cases h1:r<1
 ·have HF:Hid (false=R):=by show _=_;rw [HG.out,show gsidesB r c n=false by simp [gsidesB];omega];rfl
  have g1:decide (r<1)=true:=by simpa using h1
  go_enter Tryz.func62,Tryz.ntmps62;go_wp2_with fail;go_quiet (fail);go_wp2_with fail;go_ret;exact ⟨ret_bool HF.out,xdNv X0 _⟩
 have g1:decide (r<1)=false:=by simpa using h1
 by_cases h2:c<1
 ·have HF:Hid (false=R):=by show _=_;rw [HG.out,show gsidesB r c n=false by simp [gsidesB];omega];rfl
  have g2:decide (c<1)=true:=by simpa using h2
  go_enter Tryz.func62,Tryz.ntmps62;go_wp2_with fail;go_quiet (fail);go_wp2_with fail;go_ret;exact ⟨ret_bool HF.out,xdNv X0 _⟩
 have g2:decide (c<1)=false:=by simpa using h2
 have hdiv:r≤2000 / c ↔ r * c≤2000:=Int.le_ediv_iff_mul_le (by omega);have htd:Int.tdiv 2000 c=2000 / c:=Int.tdiv_eq_ediv_of_nonneg (by omega);obtain ⟨dv,hdv⟩:∃ dv,2000 / c=dv:=⟨_,rfl⟩;have dv0:0≤dv:=by rw [← hdv];exact Int.ediv_nonneg (by omega) (by omega)
 have dv1:dv≤2000:=by rw [← hdv];exact Int.ediv_le_self c (by omega)
 rw [hdv] at hdiv htd;clear hdv;by_cases h5:dv<r
 ·have HF:Hid (false=R):=by
   show _=_;rw [HG.out,show gsidesB r c n=false by simp only [gsidesB,decide_eq_false_iff_not];omega];rfl
  have g5:decide (dv<r)=true:=by simpa using h5
  clear hdiv;go_enter Tryz.func62,Tryz.ntmps62;go_wp2_with fail;go_quiet (fail);go_wp2_with fail;go_ret;exact ⟨ret_bool HF.out,xdNv X0 _⟩
 have g5:decide (dv<r)=false:=by simpa using h5
 obtain ⟨m,hm⟩:∃ m,r * c=m:=⟨_,rfl⟩;rw [hm] at hdiv;have m2:m≤2000:=by omega
 have m1:1≤m:=by rw [← hm];have:=Int.mul_le_mul_of_nonneg_left (show (1:Int)≤c by omega) (show 0≤r by omega);omega
 have hwr:IntKind.i64.wrap (r * c)=m:=by rw [hm,IntKind.wrap_i64];omega
 have HS:Hid (gsidesB r c n=decide (m≤2000∧(n:Int)=m)):=by
  show _=_;unfold gsidesB;rw [hm];exact decide_eq_decide.2 (by omega)
 clear hdiv;by_cases h6:(n:Int) ≠ m
 ·have HF:Hid (false=R):=by show _=_;rw [HG.out,HS.out,decide_eq_false (by omega)];rfl
  clear hm;have g6:((n:Int) != m)=true:=by simpa using h6
  go_enter Tryz.func62,Tryz.ntmps62;go_wp2_with fail;go_quiet (fail);go_wp2_with fail;go_ret;exact ⟨ret_bool HF.out,xdNv X0 _⟩
 have h6':(n:Int)=m:=by omega
 have HF:Hid (l.all VT.good=R):=by show _=_;rw [HG.out,HS.out,decide_eq_true (by omega)];rfl
 clear hm h6 HS HG;subst h6';go_enter Tryz.func62,Tryz.ntmps62;go_wp2_with fail;go_quiet (fail);go_wp2_with fail;clear hwr htd;go_loopw [35] (fun i wr=>∃ k:Nat,k≤n∧i=.int .i64 k∧Hid ((l.take k).all VT.good=true)∧Ext w wr) (fun i _=>n - (intOf i).toNat)
 case atStart=>exact ⟨0,by omega,rfl,by show _=_;simp,xdNv X0 _⟩
 case round =>
  obtain ⟨k,hk,rfl,HA,X⟩:=hrel;by_cases hlt:k<n
  ·obtain ⟨e,he⟩:∃ e,l[k]?=some e:=⟨_,List.getElem?_eq_getElem (by rw [HN.out];exact hlt)⟩;obtain ⟨b,o,rfl,hR⟩:=HRow.out (by omega);obtain ⟨a0,a1,a2,a3,a4⟩:=(hR.later X).five he;have het:=HT.out e (List.mem_of_getElem? he);have HY:Hid ((l.take (k+1)).all VT.good=e.good):=by show _=_;rw [all_step he,HA.out];rfl
   have HZ:Hid (e.good=false→l.all VT.good=false):=fun hb=>all_bad he hb;have Y:=x1 wr (.cells #[.int .i64 e.k,.bool e.n,.int .i64 e.d,.int .i64 e.x,sV e.t] 26);have hed:=HD.out e (List.mem_of_getElem? he);have C:=goodVI e.k e.n e.d e.x e.t _ het hed.1 hed.2 (HTT.out.later (xt X Y)) (HEE.out.later (xt X Y));change Calls _ _ _ _ fun r w'=>r=.returned (.bool e.good)∧_ at C;clear hed;obtain ⟨q,hq⟩:∃ q,e.good=q:=⟨_,rfl⟩;rw [hq] at C HY HZ;clear hq;obtain ⟨ek,en,ed,ex,et⟩:=e;have i2:(k:Int)<(n:Int):=by omega
   clear hR he HA;dsimp only at a0 a1 a2 a3 a4 C Y;go_wp2_with fail;clear a0 a1 a2 a3 a4;refine C.mono ?_;rintro rr w' ⟨rfl,E⟩;cases q
   ·have HB:Hid (false=R):=(by show _=_;rw [← HF.out];exact (HZ.out rfl).symm);go_wp2_with fail;go_ret;exact ⟨ret_bool HB.out,xt (xt X Y) E⟩
   ·go_wp2_with fail;go_roundw
    case rel=>exact ⟨k+1,by omega,by go_num,HY,xt (xt X Y) E⟩
    case measure=>simp [intOf];omega
  ·obtain rfl:k=n:=by omega
   have HB:Hid (true=R):=by
    show _=_;rw [← HF.out];have:=HA.out;rw [List.take_of_length_le (by rw [HN.out];exact Nat.le_refl _)] at this;exact this.symm
   clear HA;go_wp2_with fail;go_ret;exact ⟨ret_bool HB.out,X⟩
end Go.Proofs.YtkadkfmidlhedaaGreatDoor

