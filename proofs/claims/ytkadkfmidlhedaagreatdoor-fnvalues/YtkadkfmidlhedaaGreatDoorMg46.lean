/-
  Several texts in one: V9k, V9l.
-/
import Derived.Test.YtkadkfmidlhedaaGreatDoorMg44
import Derived.Test.YtkadkfmidlhedaaGreatDoorMg45
namespace Go.Proofs.YtkadkfmidlhedaaGreatDoor
open Go.RowKit
theorem enter_reck:∀ ar w,(callFunc 203 ar).run Tryz.prog w=.ok (.enter 203 ar) w:=fun ar w=>by kernel_rfl
theorem reckV_none {o:Nat} {k:Int} {n:Bool} {d x:Int} {t:List UInt8} {k':Int} {n':Bool} {d' x':Int} {t':List UInt8} (h:numD k n d x t=none):reckV o k n d x t k' n' d' x' t'=errW:=by
 unfold reckV;rw [h]
theorem reckV_none' {o:Nat} {k:Int} {n:Bool} {d x:Int} {t:List UInt8} {k':Int} {n':Bool} {d' x':Int} {t':List UInt8} {a:Bool × Int × Int} (h:numD k n d x t=some a) (h':numD k' n' d' x' t'=none):reckV o k n d x t k' n' d' x' t'=errW:=by
 unfold reckV;rw [h];simp only;rw [h']
theorem reckV_some {o:Nat} {k:Int} {n:Bool} {d x:Int} {t:List UInt8} {k':Int} {n':Bool} {d' x':Int} {t':List UInt8} {a b:Bool × Int × Int} (h:numD k n d x t=some a) (h':numD k' n' d' x' t'=some b):reckV o k n d x t k' n' d' x' t'=stepV o a.1 a.2.1 a.2.2 b.1 b.2.1 b.2.2:=by
 unfold reckV;rw [h];simp only;rw [h']
def Step (o f:Nat):Prop:=(∀ ar w,(callFunc f ar).run Tryz.prog w=.ok (.enter f ar) w) ∧
 ∀ (n:Bool) (d e:Int) (n':Bool) (d' e':Int),goodB n d e=true→goodB n' d' e'=true→∀ W,Tens W→Calls Tryz.prog f #[decV n d e,decV n' d' e'] W fun rr w'=>rr=.returned (stepV o n d e n' d' e')∧Ext W w'
theorem good_bnd {n:Bool} {d e:Int} (h:goodB n d e=true) : -9223372036854775808≤d∧d≤9223372036854775807:=by
 have:=good_all h;omega
theorem step_plus:Step 0 151:=⟨fun ar w=>by kernel_rfl,fun n d e n' d' e' ga gb W hT=>plus1I n d e n' d' e' W (good_bnd ga).1 (good_bnd ga).2 (good_bnd gb).1 (good_bnd gb).2 hT⟩
theorem step_minus:Step 1 154:=⟨fun ar w=>by kernel_rfl,fun n d e n' d' e' ga gb W hT=>minus1I n d e n' d' e' W (good_bnd ga).1 (good_bnd ga).2 (good_bnd gb).1 (good_bnd gb).2 hT⟩
theorem step_times:Step 2 156:=⟨fun ar w=>by kernel_rfl,fun n d e n' d' e' ga gb W hT=>times1I n d e n' d' e' W (good_bnd ga).1 (good_bnd ga).2 (good_bnd gb).1 (good_bnd gb).2 hT⟩
theorem step_over:Step 3 158:=⟨fun ar w=>by kernel_rfl,fun n d e n' d' e' ga gb W hT=>over1I n d e n' d' e' W (good_bnd ga).1 (good_bnd ga).2 (good_bnd gb).1 (good_bnd gb).2 hT gb⟩
theorem step_power:Step 4 160:=⟨fun ar w=>by kernel_rfl,fun n d e n' d' e' ga gb W hT=>powerI n d e n' d' e' W ga gb hT⟩
theorem reckI (o f:Nat) (S:Step o f) (k:Int) (n:Bool) (d x:Int) (t:List UInt8) (k':Int) (n':Bool) (d' x':Int) (t':List UInt8) (w:World) (hl:t.length≤1048576) (hl':t'.length≤1048576) (d1 : -9223372036854775808≤d) (d2:d≤9223372036854775807) (d1' : -9223372036854775808≤d') (d2':d'≤9223372036854775807) (hT:Tens w) (hE:ErrTab w) (ga:goodV k n d x t=true) (gb:goodV k' n' d' x' t'=true) (h4:k ≠ 4) (h4':k' ≠ 4) :
  Calls Tryz.prog 150 #[valV k n d x t,valV k' n' d' x' t',fnV f] w fun e w'=>e=.returned (reckV o k n d x t k' n' d' x' t')∧Ext w w':=by
 have NA:∀ w1,Ext w w1→Calls Tryz.prog 89 #[valV k n d x t] w1 fun e w'=>e=.returned (numOf k n d x t)∧Ext w1 w':=fun w1 h=>by
  have:=numOfI k n d x t w1 hl d1 d2 (hT.later h) (hE.later h);unfold numOfV at this;rw [if_pos ga] at this;exact this
 have NB:∀ w1,Ext w w1→Calls Tryz.prog 89 #[valV k' n' d' x' t'] w1 fun e w'=>e=.returned (numOf k' n' d' x' t')∧Ext w1 w':=fun w1 h=>by
  have:=numOfI k' n' d' x' t' w1 hl' d1' d2' (hT.later h) (hE.later h);unfold numOfV at this;rw [if_pos gb] at this;exact this
 cases hA:numD k n d x t with
 | none =>
  rw [reckV_none hA];rw [numOf_none hA] at NA;obtain ⟨kb,nb,db,xb,tb,hb⟩:=numOf_val k' n' d' x' t';rw [hb] at NB;exact reckW k n d x t k' n' d' x' t' f w _ _ _ _ _ kb nb db xb tb NA NB fun w1 p _ _=>of_left _ _ _ _ kb nb db xb tb _ w1
 | some a =>
  obtain ⟨an,ad,ae⟩:=a;obtain ⟨ea,gA⟩:=numOf_some ga h4 hA;rw [ea] at NA;cases hB:numD k' n' d' x' t' with
  | none =>
   rw [reckV_none' hA hB];rw [numOf_none hB] at NB;exact reckW k n d x t k' n' d' x' t' f w _ _ _ _ _ _ _ _ _ _ NA NB fun w1 p _ _=>of_right _ _ _ _ _ _ _ _ _ _ (by decide) w1
  | some b =>
   obtain ⟨bn,bd,be⟩:=b;obtain ⟨eb,gB⟩:=numOf_some gb h4' hB;rw [eb] at NB;rw [reckV_some hA hB];obtain ⟨k2,n2,d2,x2,t2,hv⟩:=stepV_val o an ad ae bn bd be;have SS:=S.2 an ad ae bn bd be gA gB;rw [hv] at SS;show Calls _ _ _ _ fun e w'=>e=.returned (stepV o an ad ae bn bd be)∧_;rw [hv];refine reckW k n d x t k' n' d' x' t' f w _ _ _ _ _ _ _ _ _ _ NA NB fun w1 p h1 hp=>?_;refine of_cap _ _ _ _ _ _ _ _ _ _ _ _ enter_reck (by decide) (by decide) w1 fun w2 h2=>?_;exact reck1 _ _ _ _ _ _ _ _ _ _ f p S.1 w2 (cell_later h2 hp) fun w3 h3=>SS w3 (hT.later (xt (xt h1 h2) h3))
set_option maxRecDepth 8000 in
set_option maxHeartbeats 2000000 in
theorem plusMI (k:Int) (n:Bool) (d x:Int) (t:List UInt8) (k':Int) (n':Bool) (d' x':Int) (t':List UInt8) (w:World) (hl:t.length≤1048576) (hl':t'.length≤1048576) (d1 : -9223372036854775808≤d) (d2:d≤9223372036854775807) (d1' : -9223372036854775808≤d') (d2':d'≤9223372036854775807) (hT:Tens w) (hE:ErrTab w) (ga:goodV k n d x t=true) (gb:goodV k' n' d' x' t'=true) (h4:k ≠ 4) (h4':k' ≠ 4) :
  Calls Tryz.prog 106 #[valV k n d x t,valV k' n' d' x' t'] w fun e w'=>e=.returned (reckV 0 k n d x t k' n' d' x' t')∧Ext w w':=by
 obtain ⟨k2,n2,dd2,x2,t2,hv⟩:=reckV_val 0 k n d x t k' n' d' x' t';have HV:Hid (reckV 0 k n d x t k' n' d' x' t'=valV k2 n2 dd2 x2 t2):=hv;rw [hv];clear hv;obtain ⟨u0,u1,u2,h0,h1,h2,s0,s1,s2,B0,B1,B2,X⟩:=mkB3 w [.int .i64 k,.bool n,.int .i64 d,.int .i64 x,sV t] [.int .i64 k',.bool n',.int .i64 d',.int .i64 x',sV t'] [.int .i64 0,.bool false,.int .i64 0,.int .i64 0,sV []] 26 26 26;obtain ⟨a0,a1,a2,a3,a4⟩:=Vec.five (B0);obtain ⟨c0,c1,c2,c3,c4⟩:=Vec.five (B1);have HP:Hid (Calls Tryz.prog 150 #[valV k n d x t,valV k' n' d' x' t',fnV 151] u2 fun e w'=>e=.returned (reckV 0 k n d x t k' n' d' x' t')∧Ext u2 w'):=reckI 0 _ step_plus k n d x t k' n' d' x' t' u2 hl hl' d1 d2 d1' d2' (hT.later X) (hE.later X) ga gb h4 h4';clear hl hl' d1 d2 d1' d2' hT hE ga gb h4 h4';go_enter Tryz.func106,Tryz.ntmps106;go_wp2_with fail;clear h0 s0 h1 s1 h2 s2 a0 a1 a2 a3 a4 c0 c1 c2 c3 c4;refine (HP.out).mono ?_;rintro e w1 ⟨rfl,e1⟩;rw [HV.out];obtain ⟨wy,hy,FX,⟨b0,b1,b2,b3,b4⟩,⟨fb0,fb1,fb2,fb3,fb4⟩,fd0,fd1,fd2,fd3,fd4⟩:=fin5 (B2.later e1) (xt X e1) (by omega) k2 n2 dd2 x2 t2;go_wp2_with fail;exact bodyPost_ret (v:=valV k2 n2 dd2 x2 t2) (by simp [results,Tryz.results106,go_sem,fd0,fd1,fd2,fd3,fd4]) rfl ⟨rfl,FX⟩
set_option maxRecDepth 8000 in
set_option maxHeartbeats 2000000 in
theorem minusMI (k:Int) (n:Bool) (d x:Int) (t:List UInt8) (k':Int) (n':Bool) (d' x':Int) (t':List UInt8) (w:World) (hl:t.length≤1048576) (hl':t'.length≤1048576) (d1 : -9223372036854775808≤d) (d2:d≤9223372036854775807) (d1' : -9223372036854775808≤d') (d2':d'≤9223372036854775807) (hT:Tens w) (hE:ErrTab w) (ga:goodV k n d x t=true) (gb:goodV k' n' d' x' t'=true) (h4:k ≠ 4) (h4':k' ≠ 4) :
  Calls Tryz.prog 107 #[valV k n d x t,valV k' n' d' x' t'] w fun e w'=>e=.returned (reckV 1 k n d x t k' n' d' x' t')∧Ext w w':=by
 obtain ⟨k2,n2,dd2,x2,t2,hv⟩:=reckV_val 1 k n d x t k' n' d' x' t';have HV:Hid (reckV 1 k n d x t k' n' d' x' t'=valV k2 n2 dd2 x2 t2):=hv;rw [hv];clear hv;obtain ⟨u0,u1,u2,h0,h1,h2,s0,s1,s2,B0,B1,B2,X⟩:=mkB3 w [.int .i64 k,.bool n,.int .i64 d,.int .i64 x,sV t] [.int .i64 k',.bool n',.int .i64 d',.int .i64 x',sV t'] [.int .i64 0,.bool false,.int .i64 0,.int .i64 0,sV []] 26 26 26;obtain ⟨a0,a1,a2,a3,a4⟩:=Vec.five (B0);obtain ⟨c0,c1,c2,c3,c4⟩:=Vec.five (B1);have HP:Hid (Calls Tryz.prog 150 #[valV k n d x t,valV k' n' d' x' t',fnV 154] u2 fun e w'=>e=.returned (reckV 1 k n d x t k' n' d' x' t')∧Ext u2 w'):=reckI 1 _ step_minus k n d x t k' n' d' x' t' u2 hl hl' d1 d2 d1' d2' (hT.later X) (hE.later X) ga gb h4 h4';clear hl hl' d1 d2 d1' d2' hT hE ga gb h4 h4';go_enter Tryz.func107,Tryz.ntmps107;go_wp2_with fail;clear h0 s0 h1 s1 h2 s2 a0 a1 a2 a3 a4 c0 c1 c2 c3 c4;refine (HP.out).mono ?_;rintro e w1 ⟨rfl,e1⟩;rw [HV.out];obtain ⟨wy,hy,FX,⟨b0,b1,b2,b3,b4⟩,⟨fb0,fb1,fb2,fb3,fb4⟩,fd0,fd1,fd2,fd3,fd4⟩:=fin5 (B2.later e1) (xt X e1) (by omega) k2 n2 dd2 x2 t2;go_wp2_with fail;exact bodyPost_ret (v:=valV k2 n2 dd2 x2 t2) (by simp [results,Tryz.results107,go_sem,fd0,fd1,fd2,fd3,fd4]) rfl ⟨rfl,FX⟩
set_option maxRecDepth 8000 in
set_option maxHeartbeats 2000000 in
theorem timesMI (k:Int) (n:Bool) (d x:Int) (t:List UInt8) (k':Int) (n':Bool) (d' x':Int) (t':List UInt8) (w:World) (hl:t.length≤1048576) (hl':t'.length≤1048576) (d1 : -9223372036854775808≤d) (d2:d≤9223372036854775807) (d1' : -9223372036854775808≤d') (d2':d'≤9223372036854775807) (hT:Tens w) (hE:ErrTab w) (ga:goodV k n d x t=true) (gb:goodV k' n' d' x' t'=true) (h4:k ≠ 4) (h4':k' ≠ 4) :
  Calls Tryz.prog 108 #[valV k n d x t,valV k' n' d' x' t'] w fun e w'=>e=.returned (reckV 2 k n d x t k' n' d' x' t')∧Ext w w':=by
 obtain ⟨k2,n2,dd2,x2,t2,hv⟩:=reckV_val 2 k n d x t k' n' d' x' t';have HV:Hid (reckV 2 k n d x t k' n' d' x' t'=valV k2 n2 dd2 x2 t2):=hv;rw [hv];clear hv;obtain ⟨u0,u1,u2,h0,h1,h2,s0,s1,s2,B0,B1,B2,X⟩:=mkB3 w [.int .i64 k,.bool n,.int .i64 d,.int .i64 x,sV t] [.int .i64 k',.bool n',.int .i64 d',.int .i64 x',sV t'] [.int .i64 0,.bool false,.int .i64 0,.int .i64 0,sV []] 26 26 26;obtain ⟨a0,a1,a2,a3,a4⟩:=Vec.five (B0);obtain ⟨c0,c1,c2,c3,c4⟩:=Vec.five (B1);have HP:Hid (Calls Tryz.prog 150 #[valV k n d x t,valV k' n' d' x' t',fnV 156] u2 fun e w'=>e=.returned (reckV 2 k n d x t k' n' d' x' t')∧Ext u2 w'):=reckI 2 _ step_times k n d x t k' n' d' x' t' u2 hl hl' d1 d2 d1' d2' (hT.later X) (hE.later X) ga gb h4 h4';clear hl hl' d1 d2 d1' d2' hT hE ga gb h4 h4';go_enter Tryz.func108,Tryz.ntmps108;go_wp2_with fail;clear h0 s0 h1 s1 h2 s2 a0 a1 a2 a3 a4 c0 c1 c2 c3 c4;refine (HP.out).mono ?_;rintro e w1 ⟨rfl,e1⟩;rw [HV.out];obtain ⟨wy,hy,FX,⟨b0,b1,b2,b3,b4⟩,⟨fb0,fb1,fb2,fb3,fb4⟩,fd0,fd1,fd2,fd3,fd4⟩:=fin5 (B2.later e1) (xt X e1) (by omega) k2 n2 dd2 x2 t2;go_wp2_with fail;exact bodyPost_ret (v:=valV k2 n2 dd2 x2 t2) (by simp [results,Tryz.results108,go_sem,fd0,fd1,fd2,fd3,fd4]) rfl ⟨rfl,FX⟩
set_option maxRecDepth 8000 in
set_option maxHeartbeats 2000000 in
theorem overMI (k:Int) (n:Bool) (d x:Int) (t:List UInt8) (k':Int) (n':Bool) (d' x':Int) (t':List UInt8) (w:World) (hl:t.length≤1048576) (hl':t'.length≤1048576) (d1 : -9223372036854775808≤d) (d2:d≤9223372036854775807) (d1' : -9223372036854775808≤d') (d2':d'≤9223372036854775807) (hT:Tens w) (hE:ErrTab w) (ga:goodV k n d x t=true) (gb:goodV k' n' d' x' t'=true) (h4:k ≠ 4) (h4':k' ≠ 4) :
  Calls Tryz.prog 109 #[valV k n d x t,valV k' n' d' x' t'] w fun e w'=>e=.returned (reckV 3 k n d x t k' n' d' x' t')∧Ext w w':=by
 obtain ⟨k2,n2,dd2,x2,t2,hv⟩:=reckV_val 3 k n d x t k' n' d' x' t';have HV:Hid (reckV 3 k n d x t k' n' d' x' t'=valV k2 n2 dd2 x2 t2):=hv;rw [hv];clear hv;obtain ⟨u0,u1,u2,h0,h1,h2,s0,s1,s2,B0,B1,B2,X⟩:=mkB3 w [.int .i64 k,.bool n,.int .i64 d,.int .i64 x,sV t] [.int .i64 k',.bool n',.int .i64 d',.int .i64 x',sV t'] [.int .i64 0,.bool false,.int .i64 0,.int .i64 0,sV []] 26 26 26;obtain ⟨a0,a1,a2,a3,a4⟩:=Vec.five (B0);obtain ⟨c0,c1,c2,c3,c4⟩:=Vec.five (B1);have HP:Hid (Calls Tryz.prog 150 #[valV k n d x t,valV k' n' d' x' t',fnV 158] u2 fun e w'=>e=.returned (reckV 3 k n d x t k' n' d' x' t')∧Ext u2 w'):=reckI 3 _ step_over k n d x t k' n' d' x' t' u2 hl hl' d1 d2 d1' d2' (hT.later X) (hE.later X) ga gb h4 h4';clear hl hl' d1 d2 d1' d2' hT hE ga gb h4 h4';go_enter Tryz.func109,Tryz.ntmps109;go_wp2_with fail;clear h0 s0 h1 s1 h2 s2 a0 a1 a2 a3 a4 c0 c1 c2 c3 c4;refine (HP.out).mono ?_;rintro e w1 ⟨rfl,e1⟩;rw [HV.out];obtain ⟨wy,hy,FX,⟨b0,b1,b2,b3,b4⟩,⟨fb0,fb1,fb2,fb3,fb4⟩,fd0,fd1,fd2,fd3,fd4⟩:=fin5 (B2.later e1) (xt X e1) (by omega) k2 n2 dd2 x2 t2;go_wp2_with fail;exact bodyPost_ret (v:=valV k2 n2 dd2 x2 t2) (by simp [results,Tryz.results109,go_sem,fd0,fd1,fd2,fd3,fd4]) rfl ⟨rfl,FX⟩
set_option maxRecDepth 8000 in
set_option maxHeartbeats 2000000 in
theorem powerMI (k:Int) (n:Bool) (d x:Int) (t:List UInt8) (k':Int) (n':Bool) (d' x':Int) (t':List UInt8) (w:World) (hl:t.length≤1048576) (hl':t'.length≤1048576) (d1 : -9223372036854775808≤d) (d2:d≤9223372036854775807) (d1' : -9223372036854775808≤d') (d2':d'≤9223372036854775807) (hT:Tens w) (hE:ErrTab w) (ga:goodV k n d x t=true) (gb:goodV k' n' d' x' t'=true) (h4:k ≠ 4) (h4':k' ≠ 4) :
  Calls Tryz.prog 110 #[valV k n d x t,valV k' n' d' x' t'] w fun e w'=>e=.returned (reckV 4 k n d x t k' n' d' x' t')∧Ext w w':=by
 obtain ⟨k2,n2,dd2,x2,t2,hv⟩:=reckV_val 4 k n d x t k' n' d' x' t';have HV:Hid (reckV 4 k n d x t k' n' d' x' t'=valV k2 n2 dd2 x2 t2):=hv;rw [hv];clear hv;obtain ⟨u0,u1,u2,h0,h1,h2,s0,s1,s2,B0,B1,B2,X⟩:=mkB3 w [.int .i64 k,.bool n,.int .i64 d,.int .i64 x,sV t] [.int .i64 k',.bool n',.int .i64 d',.int .i64 x',sV t'] [.int .i64 0,.bool false,.int .i64 0,.int .i64 0,sV []] 26 26 26;obtain ⟨a0,a1,a2,a3,a4⟩:=Vec.five (B0);obtain ⟨c0,c1,c2,c3,c4⟩:=Vec.five (B1);have HP:Hid (Calls Tryz.prog 150 #[valV k n d x t,valV k' n' d' x' t',fnV 160] u2 fun e w'=>e=.returned (reckV 4 k n d x t k' n' d' x' t')∧Ext u2 w'):=reckI 4 _ step_power k n d x t k' n' d' x' t' u2 hl hl' d1 d2 d1' d2' (hT.later X) (hE.later X) ga gb h4 h4';clear hl hl' d1 d2 d1' d2' hT hE ga gb h4 h4';go_enter Tryz.func110,Tryz.ntmps110;go_wp2_with fail;clear h0 s0 h1 s1 h2 s2 a0 a1 a2 a3 a4 c0 c1 c2 c3 c4;refine (HP.out).mono ?_;rintro e w1 ⟨rfl,e1⟩;rw [HV.out];obtain ⟨wy,hy,FX,⟨b0,b1,b2,b3,b4⟩,⟨fb0,fb1,fb2,fb3,fb4⟩,fd0,fd1,fd2,fd3,fd4⟩:=fin5 (B2.later e1) (xt X e1) (by omega) k2 n2 dd2 x2 t2;go_wp2_with fail;exact bodyPost_ret (v:=valV k2 n2 dd2 x2 t2) (by simp [results,Tryz.results110,go_sem,fd0,fd1,fd2,fd3,fd4]) rfl ⟨rfl,FX⟩
def MakesI (o f:Nat):Prop:=(∀ ar w,(callFunc f ar).run Tryz.prog w=.ok (.enter f ar) w) ∧
 ∀ (k:Int) (n:Bool) (d x:Int) (t:List UInt8) (k':Int) (n':Bool) (d' x':Int) (t':List UInt8) (w:World) (_:t.length≤1048576) (_:t'.length≤1048576) (_ : -9223372036854775808≤d) (_:d≤9223372036854775807) (_ : -9223372036854775808≤d') (_:d'≤9223372036854775807) (_:Tens w) (_:ErrTab w) (_:ItoaC w) (_:goodV k n d x t=true) (_:goodV k' n' d' x' t'=true) (_:k ≠ 4) (_:k' ≠ 4),
  Calls Tryz.prog f #[valV k n d x t,valV k' n' d' x' t'] w fun e w'=>e=.returned (makeV o k n d x t k' n' d' x' t')∧Ext w w'
theorem makes_0:MakesI 0 106:=⟨fun ar w=>by kernel_rfl,fun k n d x t k' n' d' x' t' w hl hl' d1 d2 d1' d2' hT hE hI ga gb h4 h4'=>by
  have:=plusMI k n d x t k' n' d' x' t' w hl hl' d1 d2 d1' d2' hT hE ga gb h4 h4';exact this⟩
theorem makes_1:MakesI 1 107:=⟨fun ar w=>by kernel_rfl,fun k n d x t k' n' d' x' t' w hl hl' d1 d2 d1' d2' hT hE hI ga gb h4 h4'=>by
  have:=minusMI k n d x t k' n' d' x' t' w hl hl' d1 d2 d1' d2' hT hE ga gb h4 h4';exact this⟩
theorem makes_2:MakesI 2 108:=⟨fun ar w=>by kernel_rfl,fun k n d x t k' n' d' x' t' w hl hl' d1 d2 d1' d2' hT hE hI ga gb h4 h4'=>by
  have:=timesMI k n d x t k' n' d' x' t' w hl hl' d1 d2 d1' d2' hT hE ga gb h4 h4';exact this⟩
theorem makes_3:MakesI 3 109:=⟨fun ar w=>by kernel_rfl,fun k n d x t k' n' d' x' t' w hl hl' d1 d2 d1' d2' hT hE hI ga gb h4 h4'=>by
  have:=overMI k n d x t k' n' d' x' t' w hl hl' d1 d2 d1' d2' hT hE ga gb h4 h4';exact this⟩
theorem makes_4:MakesI 4 110:=⟨fun ar w=>by kernel_rfl,fun k n d x t k' n' d' x' t' w hl hl' d1 d2 d1' d2' hT hE hI ga gb h4 h4'=>by
  have:=powerMI k n d x t k' n' d' x' t' w hl hl' d1 d2 d1' d2' hT hE ga gb h4 h4';exact this⟩
theorem makes_5:MakesI 5 111:=⟨fun ar w=>by kernel_rfl,fun k n d x t k' n' d' x' t' w hl hl' d1 d2 d1' d2' hT hE hI ga gb h4 h4'=>by
  exact joinedI k n d x t k' n' d' x' t' w (by omega) (by omega) d1 d2 d1' d2' hT hE hI ga gb⟩
theorem makes_6:MakesI 6 112:=⟨fun ar w=>by kernel_rfl,fun k n d x t k' n' d' x' t' w hl hl' d1 d2 d1' d2' hT hE hI ga gb h4 h4'=>by
  exact sameI k n d x t k' n' d' x' t' w (by omega) (by omega) d1 d2 d1' d2' hT hE⟩
theorem makes_7:MakesI 7 113:=⟨fun ar w=>by kernel_rfl,fun k n d x t k' n' d' x' t' w hl hl' d1 d2 d1' d2' hT hE hI ga gb h4 h4'=>by
  exact unlikeI k n d x t k' n' d' x' t' w (by omega) (by omega) d1 d2 d1' d2' hT hE⟩
theorem makes_8:MakesI 8 114:=⟨fun ar w=>by kernel_rfl,fun k n d x t k' n' d' x' t' w hl hl' d1 d2 d1' d2' hT hE hI ga gb h4 h4'=>by
  exact belowI k n d x t k' n' d' x' t' w (by omega) (by omega) d1 d2 d1' d2' hT hE⟩
theorem makes_9:MakesI 9 115:=⟨fun ar w=>by kernel_rfl,fun k n d x t k' n' d' x' t' w hl hl' d1 d2 d1' d2' hT hE hI ga gb h4 h4'=>by
  exact aboveI k n d x t k' n' d' x' t' w (by omega) (by omega) d1 d2 d1' d2' hT hE⟩
theorem makes_10:MakesI 10 116:=⟨fun ar w=>by kernel_rfl,fun k n d x t k' n' d' x' t' w hl hl' d1 d2 d1' d2' hT hE hI ga gb h4 h4'=>by
  exact notAboveI k n d x t k' n' d' x' t' w (by omega) (by omega) d1 d2 d1' d2' hT hE⟩
theorem makes_11:MakesI 11 117:=⟨fun ar w=>by kernel_rfl,fun k n d x t k' n' d' x' t' w hl hl' d1 d2 d1' d2' hT hE hI ga gb h4 h4'=>by
  exact notBelowI k n d x t k' n' d' x' t' w (by omega) (by omega) d1 d2 d1' d2' hT hE⟩
theorem opN_at {op:List UInt8} {o:Nat} (h:opN op=some o):signL[o]?=some op:=by
 unfold opN at h;rw [List.findIdx?_eq_some_iff_getElem] at h;obtain ⟨hlt,h1,_⟩:=h;rw [List.getElem?_eq_getElem hlt];exact congrArg some (by simpa using h1)
theorem opN_no {op:List UInt8} (h:opN op=none):∀ p ∈ workL,p.1 ≠ op:=by
 unfold opN at h;rw [List.findIdx?_eq_none_iff] at h;intro p hp e;have hm:p.1 ∈ signL:=by
  simp only [workL,List.mem_cons,List.not_mem_nil,or_false] at hp
  rcases hp with rfl | rfl | rfl | rfl | rfl | rfl | rfl | rfl | rfl | rfl | rfl | rfl <;> decide
 have:=h _ hm;simp [e] at this
theorem work_one:∀ p ∈ workL,∀ q ∈ workL,p.1=q.1→p.2=q.2:=by
 have h:(workL.map Prod.fst).Nodup:=by decide
 intro p hp q hq e;obtain ⟨i,hi,rfl⟩:=List.getElem_of_mem hp;obtain ⟨j,hj,rfl⟩:=List.getElem_of_mem hq;have:=(List.getElem_inj (xs:=workL.map Prod.fst) (i:=i) (j:=j) (h₀:=by simpa using hi) (h₁:=by simpa using hj) h).1 (by simpa using e);subst this;rfl
theorem op_work {op:List UInt8} {o:Nat} (h:opN op=some o):∃ f,(op,fnV f) ∈ workL∧(∀ p ∈ workL,p.1=op→p.2=fnV f)∧MakesI o f:=by
 have h1:=opN_at h;have h2:o<12:=(List.getElem?_eq_some_iff.1 h1).1
 match o,h1,h2 with
 | 0,h1,_ =>
  cases h1;exact ⟨106,by simp [workL],fun p hp e=>work_one p hp (_,_) (by simp [workL]) e,makes_0⟩
 | 1,h1,_ =>
  cases h1;exact ⟨107,by simp [workL],fun p hp e=>work_one p hp (_,_) (by simp [workL]) e,makes_1⟩
 | 2,h1,_ =>
  cases h1;exact ⟨108,by simp [workL],fun p hp e=>work_one p hp (_,_) (by simp [workL]) e,makes_2⟩
 | 3,h1,_ =>
  cases h1;exact ⟨109,by simp [workL],fun p hp e=>work_one p hp (_,_) (by simp [workL]) e,makes_3⟩
 | 4,h1,_ =>
  cases h1;exact ⟨110,by simp [workL],fun p hp e=>work_one p hp (_,_) (by simp [workL]) e,makes_4⟩
 | 5,h1,_ =>
  cases h1;exact ⟨111,by simp [workL],fun p hp e=>work_one p hp (_,_) (by simp [workL]) e,makes_5⟩
 | 6,h1,_ =>
  cases h1;exact ⟨112,by simp [workL],fun p hp e=>work_one p hp (_,_) (by simp [workL]) e,makes_6⟩
 | 7,h1,_ =>
  cases h1;exact ⟨113,by simp [workL],fun p hp e=>work_one p hp (_,_) (by simp [workL]) e,makes_7⟩
 | 8,h1,_ =>
  cases h1;exact ⟨114,by simp [workL],fun p hp e=>work_one p hp (_,_) (by simp [workL]) e,makes_8⟩
 | 9,h1,_ =>
  cases h1;exact ⟨115,by simp [workL],fun p hp e=>work_one p hp (_,_) (by simp [workL]) e,makes_9⟩
 | 10,h1,_ =>
  cases h1;exact ⟨116,by simp [workL],fun p hp e=>work_one p hp (_,_) (by simp [workL]) e,makes_10⟩
 | 11,h1,_ =>
  cases h1;exact ⟨117,by simp [workL],fun p hp e=>work_one p hp (_,_) (by simp [workL]) e,makes_11⟩
theorem ofI (o f:Nat) (M:MakesI o f) (k:Int) (n:Bool) (d x:Int) (t:List UInt8) (k':Int) (n':Bool) (d' x':Int) (t':List UInt8) (w:World) (hl:t.length≤1048576) (hl':t'.length≤1048576) (d1 : -9223372036854775808≤d) (d2:d≤9223372036854775807) (d1' : -9223372036854775808≤d') (d2':d'≤9223372036854775807) (hT:Tens w) (hE:ErrTab w) (hI:ItoaC w) (ga:goodV k n d x t=true) (gb:goodV k' n' d' x' t'=true) :
  Calls Tryz.prog 64 #[fnV f,valV k n d x t,valV k' n' d' x' t'] w fun e w'=>e=.returned (workV o k n d x t k' n' d' x' t')∧Ext w w':=by
 unfold workV;by_cases h4:k=4
 ·subst h4;rw [if_pos rfl];exact of_left n d x t k' n' d' x' t' (fnV f) w
 ·rw [if_neg h4];by_cases h4':k'=4
  ·subst h4';rw [if_pos rfl];exact of_right k n d x t n' d' x' t' (fnV f) h4 w
  ·rw [if_neg h4'];obtain ⟨k2,n2,dd2,x2,t2,hv⟩:=makeV_val o k n d x t k' n' d' x' t';rw [hv];refine of_go k n d x t k' n' d' x' t' f M.1 h4 h4' w fun w1 h1=>?_;have:=M.2 k n d x t k' n' d' x' t' w1 hl hl' d1 d2 d1' d2' (hT.later h1) (hE.later h1) (hI.later h1) ga gb h4 h4';rw [hv] at this;exact this
set_option maxRecDepth 8000 in
set_option maxHeartbeats 2000000 in
theorem applyI (op:List UInt8) (k:Int) (n:Bool) (d x:Int) (t:List UInt8) (k':Int) (n':Bool) (d' x':Int) (t':List UInt8) (w:World) (ho:op.length≤1048576) (hl:t.length≤1048576) (hl':t'.length≤1048576) (d1 : -9223372036854775808≤d) (d2:d≤9223372036854775807) (d1' : -9223372036854775808≤d') (d2':d'≤9223372036854775807) (hT:Tens w) (hE:ErrTab w) (hI:ItoaC w) :
  Calls Tryz.prog 18 #[sV op,valV k n d x t,valV k' n' d' x' t'] w fun e w'=>e=.returned (applyV op k n d x t k' n' d' x' t')∧Ext w w':=by
 obtain ⟨R,hR⟩:∃ R,applyV op k n d x t k' n' d' x' t'=R:=⟨_,rfl⟩;have HR0:Hid (applyV op k n d x t k' n' d' x' t'=R):=hR;rw [hR];clear hR;obtain ⟨u0,u1,u2,h0,h1,h2,s0,s1,s2,B0,B1,B2,X⟩:=mkB3 w [.int .i64 k,.bool n,.int .i64 d,.int .i64 x,sV t] [.int .i64 k',.bool n',.int .i64 d',.int .i64 x',sV t'] [.int .i64 0,.bool false,.int .i64 0,.int .i64 0,sV []] 26 26 26;cases hop:opN op with
 | none =>
  have HR:Hid (evV nameT=R):=by show _=_;rw [← HR0.out];unfold applyV;rw [hop]
  go_enter Tryz.func18,Tryz.ntmps18;go_wp2_with fail;clear h0 h1 h2 s0 s1 s2;refine (worksI u2).mono ?_;rintro e w1 ⟨m,rfl,WM,e1⟩;have LK:=WM.lost workL_len ho (opN_no hop);clear WM hop HR0 hT hE hI hl hl' d1 d2 d1' d2' ho;go_wp2_with fail;clear LK;refine (errVI nameT w1).mono ?_;rintro e w2 ⟨rfl,e2⟩;obtain ⟨wy,hy,FX,⟨b0,b1,b2,b3,b4⟩,⟨fb0,fb1,fb2,fb3,fb4⟩,fd0,fd1,fd2,fd3,fd4⟩:=fin5 ((B2.later e1).later e2) (xt (xt X e1) e2) (by omega) 4 false 0 0 nameT;go_wp2_with fail;exact bodyPost_ret (v:=valV 4 false 0 0 nameT) (by simp [results,Tryz.results18,go_sem,fd0,fd1,fd2,fd3,fd4]) rfl ⟨congrArg Ending.returned HR.out,FX⟩
 | some o =>
  obtain ⟨f,hm,hu,M⟩:=op_work hop;have HR1:Hid ((if (goodV k n d x t && goodV k' n' d' x' t')=true then workV o k n d x t k' n' d' x' t' else errW)=R):=by show _=_;rw [← HR0.out];unfold applyV;rw [hop]
  clear HR0;go_enter Tryz.func18,Tryz.ntmps18;go_wp2_with fail;clear h0 h1 h2 s0 s1 s2;refine (worksI u2).mono ?_;rintro e w1 ⟨m,rfl,WM,e1⟩;have LK:=WM.found workL_len hm hu;have C0:=B0.later e1;have C1:=B1.later e1;have C2:=B2.later e1;have X1:=xt X e1;clear WM hop hm hu ho B0 B1 B2 X;obtain ⟨a0,a1,a2,a3,a4⟩:=Vec.five (C0);go_wp2_with fail;clear LK a0 a1 a2 a3 a4;refine (goodVI k n d x t w1 (by omega) d1 d2 (hT.later X1) (hE.later X1)).mono ?_;rintro e w2 ⟨rfl,e2⟩;have D1:=C1.later e2;have D0:=C0.later e2;have D2:=C2.later e2;have X2:=xt X1 e2;clear C0 C1 C2;obtain ⟨g,hg⟩:∃ g,goodV k n d x t=g:=⟨_,rfl⟩;rw [hg] at HR1 ⊢;cases g
  ·have HR:Hid (errW=R):=HR1;clear HR1 hg;go_wp2_with fail;refine (errVI errT w2).mono ?_;rintro e w3 ⟨rfl,e3⟩;obtain ⟨wy,hy,FX,⟨b0,b1,b2,b3,b4⟩,⟨fb0,fb1,fb2,fb3,fb4⟩,fd0,fd1,fd2,fd3,fd4⟩:=fin5 (D2.later e3) (xt X2 e3) (by omega) 4 false 0 0 errT;go_wp2_with fail;exact bodyPost_ret (v:=valV 4 false 0 0 errT) (by simp [results,Tryz.results18,go_sem,fd0,fd1,fd2,fd3,fd4]) rfl ⟨congrArg Ending.returned HR.out,FX⟩
  ·obtain ⟨c0,c1,c2,c3,c4⟩:=Vec.five (D1);go_wp2_with fail;clear c0 c1 c2 c3 c4;refine (goodVI k' n' d' x' t' w2 (by omega) d1' d2' (hT.later X2) (hE.later X2)).mono ?_;rintro e w3 ⟨rfl,e3⟩;have E0:=D0.later e3;have E1:=D1.later e3;have E2:=D2.later e3;have X3:=xt X2 e3;clear D0 D1 D2;obtain ⟨g',hg'⟩:∃ g,goodV k' n' d' x' t'=g:=⟨_,rfl⟩;rw [hg'] at HR1 ⊢;cases g'
   ·have HR:Hid (errW=R):=HR1;clear HR1 hg hg';go_wp2_with fail;refine (errVI errT w3).mono ?_;rintro e w4 ⟨rfl,e4⟩;obtain ⟨wy,hy,FX,⟨b0,b1,b2,b3,b4⟩,⟨fb0,fb1,fb2,fb3,fb4⟩,fd0,fd1,fd2,fd3,fd4⟩:=fin5 (E2.later e4) (xt X3 e4) (by omega) 4 false 0 0 errT;go_wp2_with fail;exact bodyPost_ret (v:=valV 4 false 0 0 errT) (by simp [results,Tryz.results18,go_sem,fd0,fd1,fd2,fd3,fd4]) rfl ⟨congrArg Ending.returned HR.out,FX⟩
   ·have HR2:Hid (workV o k n d x t k' n' d' x' t'=R):=HR1;obtain ⟨k2,n2,dd2,x2,t2,hv⟩:=workV_val o k n d x t k' n' d' x' t';have HR:Hid (valV k2 n2 dd2 x2 t2=R):=(by show _=_;rw [← HR2.out,hv]);have HP:Hid (Calls Tryz.prog 64 #[fnV f,valV k n d x t,valV k' n' d' x' t'] w3 fun e w'=>e=.returned (valV k2 n2 dd2 x2 t2)∧Ext w3 w'):=by
     show Calls _ _ _ _ _;rw [← hv];exact ofI o f M k n d x t k' n' d' x' t' w3 hl hl' d1 d2 d1' d2' (hT.later X3) (hE.later X3) (hI.later X3) hg hg'
    clear HR1 HR2 hv hg hg' hT hE hI hl hl' d1 d2 d1' d2' M;obtain ⟨a0,a1,a2,a3,a4⟩:=Vec.five (E0);obtain ⟨c0,c1,c2,c3,c4⟩:=Vec.five (E1);go_wp2_with fail;clear a0 a1 a2 a3 a4 c0 c1 c2 c3 c4;refine (HP.out).mono ?_;rintro e w4 ⟨rfl,e4⟩;obtain ⟨wy,hy,FX,⟨b0,b1,b2,b3,b4⟩,⟨fb0,fb1,fb2,fb3,fb4⟩,fd0,fd1,fd2,fd3,fd4⟩:=fin5 (E2.later e4) (xt X3 e4) (by omega) k2 n2 dd2 x2 t2;go_wp2_with fail;exact bodyPost_ret (v:=valV k2 n2 dd2 x2 t2) (by simp [results,Tryz.results18,go_sem,fd0,fd1,fd2,fd3,fd4]) rfl ⟨congrArg Ending.returned HR.out,FX⟩
end Go.Proofs.YtkadkfmidlhedaaGreatDoor

