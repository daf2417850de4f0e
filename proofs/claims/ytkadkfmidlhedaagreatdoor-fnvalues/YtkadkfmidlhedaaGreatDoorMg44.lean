/-
  Several texts in one: V9k, V9l.
-/
import Derived.Test.YtkadkfmidlhedaaGreatDoorMg42
import Derived.Test.YtkadkfmidlhedaaGreatDoorMg43
set_option maxRecDepth 8000
set_option maxHeartbeats 2000000
namespace Go.Proofs.YtkadkfmidlhedaaGreatDoor
open Go.RowKit
theorem zMS:∀ ar w,(callFunc 203 ar).run Tryz.prog w=.ok (.enter 203 ar) w:=fun ar w=>by kernel_rfl
theorem zHR {o:Nat} {k:Int} {n:Bool} {d x:Int} {t:List UInt8} {k':Int} {n':Bool} {d' x':Int} {t':List UInt8} (h:numD k n d x t=none):zC3 o k n d x t k' n' d' x' t'=errW:=by
 unfold zC3;rw [h]
theorem zGU {o:Nat} {k:Int} {n:Bool} {d x:Int} {t:List UInt8} {k':Int} {n':Bool} {d' x':Int} {t':List UInt8} {a:Bool × Int × Int} (h:numD k n d x t=some a) (h':numD k' n' d' x' t'=none):zC3 o k n d x t k' n' d' x' t'=errW:=by
 unfold zC3;rw [h];simp only;rw [h']
theorem zHQ {o:Nat} {k:Int} {n:Bool} {d x:Int} {t:List UInt8} {k':Int} {n':Bool} {d' x':Int} {t':List UInt8} {a b:Bool × Int × Int} (h:numD k n d x t=some a) (h':numD k' n' d' x' t'=some b):zC3 o k n d x t k' n' d' x' t'=zIC o a.1 a.2.1 a.2.2 b.1 b.2.1 b.2.2:=by
 unfold zC3;rw [h];simp only;rw [h']
def Step (o f:Nat):Prop:=(∀ ar w,(callFunc f ar).run Tryz.prog w=.ok (.enter f ar) w) /\
 ∀ (n:Bool) (d e:Int) (n':Bool) (d' e':Int),zA1 n d e=true->zA1 n' d' e'=true->∀ W,Tens W->Calls Tryz.prog f #[decV n d e,decV n' d' e'] W fun rr w'=>rr=.returned (zIC o n d e n' d' e')/\Ext W w'
theorem zAT {n:Bool} {d e:Int} (h:zA1 n d e=true) : -9223372036854775808<=d/\d<=9223372036854775807:=by
 have:=zC2 h;omega
theorem zNO:Step 0 151:=⟨fun ar w=>by kernel_rfl,fun n d e n' d' e' ga gb W hT=>zVT n d e n' d' e' W (zAT ga).1 (zAT ga).2 (zAT gb).1 (zAT gb).2 hT⟩
theorem zM7:Step 1 154:=⟨fun ar w=>by kernel_rfl,fun n d e n' d' e' ga gb W hT=>zTN n d e n' d' e' W (zAT ga).1 (zAT ga).2 (zAT gb).1 (zAT gb).2 hT⟩
theorem zM5:Step 2 156:=⟨fun ar w=>by kernel_rfl,fun n d e n' d' e' ga gb W hT=>zT0 n d e n' d' e' W (zAT ga).1 (zAT ga).2 (zAT gb).1 (zAT gb).2 hT⟩
theorem zNP:Step 3 158:=⟨fun ar w=>by kernel_rfl,fun n d e n' d' e' ga gb W hT=>zVW n d e n' d' e' W (zAT ga).1 (zAT ga).2 (zAT gb).1 (zAT gb).2 hT gb⟩
theorem zM6:Step 4 160:=⟨fun ar w=>by kernel_rfl,fun n d e n' d' e' ga gb W hT=>zVQ n d e n' d' e' W ga gb hT⟩
theorem zO8 (o f:Nat) (S:Step o f) (k:Int) (n:Bool) (d x:Int) (t:List UInt8) (k':Int) (n':Bool) (d' x':Int) (t':List UInt8) (w:World) (hl:t.length<=1048576) (hl':t'.length<=1048576) (d1 : -9223372036854775808<=d) (d2:d<=9223372036854775807) (d1' : -9223372036854775808<=d') (d2':d'<=9223372036854775807) (hT:Tens w) (hE:zAH w) (ga:zA4 k n d x t=true) (gb:zA4 k' n' d' x' t'=true) (h4:k ≠ 4) (h4':k' ≠ 4) :
  Calls Tryz.prog 150 #[valV k n d x t,valV k' n' d' x' t',fnV f] w fun e w'=>e=.returned (zC3 o k n d x t k' n' d' x' t')/\Ext w w':=by
 have NA:∀ w1,Ext w w1->Calls Tryz.prog 89 #[valV k n d x t] w1 fun e w'=>e=.returned (zCI k n d x t)/\Ext w1 w':=fun w1 h=>by
  have:=zSB k n d x t w1 hl d1 d2 (hT.l h) (hE.l h);unfold zGZ at this;rw [if_pos ga] at this;exact this
 have NB:∀ w1,Ext w w1->Calls Tryz.prog 89 #[valV k' n' d' x' t'] w1 fun e w'=>e=.returned (zCI k' n' d' x' t')/\Ext w1 w':=fun w1 h=>by
  have:=zSB k' n' d' x' t' w1 hl' d1' d2' (hT.l h) (hE.l h);unfold zGZ at this;rw [if_pos gb] at this;exact this
 cases hA:numD k n d x t with
 | none =>
  rw [zHR hA];rw [zEI hA] at NA;obtain ⟨kb,nb,db,xb,tb,hb⟩:=zOP k' n' d' x' t';rw [hb] at NB;exact zTF k n d x t k' n' d' x' t' f w _ _ _ _ _ kb nb db xb tb NA NB fun w1 p _ _=>zOO _ _ _ _ kb nb db xb tb _ w1
 | some a =>
  obtain ⟨an,ad,ae⟩:=a;obtain ⟨ea,gA⟩:=zEH ga h4 hA;rw [ea] at NA;cases hB:numD k' n' d' x' t' with
  | none =>
   rw [zGU hA hB];rw [zEI hB] at NB;exact zTF k n d x t k' n' d' x' t' f w _ _ _ _ _ _ _ _ _ _ NA NB fun w1 p _ _=>zL6 _ _ _ _ _ _ _ _ _ _ (by decide) w1
  | some b =>
   obtain ⟨bn,bd,be⟩:=b;obtain ⟨eb,gB⟩:=zEH gb h4' hB;rw [eb] at NB;rw [zHQ hA hB];obtain ⟨k2,n2,d2,x2,t2,hv⟩:=zGO o an ad ae bn bd be;have SS:=S.2 an ad ae bn bd be gA gB;rw [hv] at SS;show Calls _ _ _ _ fun e w'=>e=.returned (zIC o an ad ae bn bd be)/\_;rw [hv];refine zTF k n d x t k' n' d' x' t' f w _ _ _ _ _ _ _ _ _ _ NA NB fun w1 p h1 hp=>?_;refine zVY _ _ _ _ _ _ _ _ _ _ _ _ zMS (by decide) (by decide) w1 fun w2 h2=>?_;exact zX5 _ _ _ _ _ _ _ _ _ _ f p S.1 w2 (cell_later h2 hp) fun w3 h3=>SS w3 (hT.l (xt (xt h1 h2) h3))
theorem zVS (k:Int) (n:Bool) (d x:Int) (t:List UInt8) (k':Int) (n':Bool) (d' x':Int) (t':List UInt8) (w:World) (hl:t.length<=1048576) (hl':t'.length<=1048576) (d1 : -9223372036854775808<=d) (d2:d<=9223372036854775807) (d1' : -9223372036854775808<=d') (d2':d'<=9223372036854775807) (hT:Tens w) (hE:zAH w) (ga:zA4 k n d x t=true) (gb:zA4 k' n' d' x' t'=true) (h4:k ≠ 4) (h4':k' ≠ 4) :
  Calls Tryz.prog 106 #[valV k n d x t,valV k' n' d' x' t'] w fun e w'=>e=.returned (zC3 0 k n d x t k' n' d' x' t')/\Ext w w':=by
 obtain ⟨k2,n2,dd2,x2,t2,hv⟩:=zD2 0 k n d x t k' n' d' x' t';have HV:Hid (zC3 0 k n d x t k' n' d' x' t'=valV k2 n2 dd2 x2 t2):=hv;rw [hv];clear hv;obtain ⟨u0,u1,u2,h0,h1,h2,s0,s1,s2,B0,B1,B2,X⟩:=mkB3 w [iQ k,.bool n,iQ d,iQ x,sV t] [iQ k',.bool n',iQ d',iQ x',sV t'] [iQ 0,.bool false,iQ 0,iQ 0,sV []] 26 26 26;obtain ⟨a0,a1,a2,a3,a4⟩:=Vec.five (B0);obtain ⟨c0,c1,c2,c3,c4⟩:=Vec.five (B1);have HP:Hid (Calls Tryz.prog 150 #[valV k n d x t,valV k' n' d' x' t',fnV 151] u2 fun e w'=>e=.returned (zC3 0 k n d x t k' n' d' x' t')/\Ext u2 w'):=zO8 0 _ zNO k n d x t k' n' d' x' t' u2 hl hl' d1 d2 d1' d2' (hT.l X) (hE.l X) ga gb h4 h4';clear hl hl' d1 d2 d1' d2' hT hE ga gb h4 h4';go_enter Tryz.func106,Tryz.ntmps106;go_wp2_with fail;clear h0 s0 h1 s1 h2 s2 a0 a1 a2 a3 a4 c0 c1 c2 c3 c4;refine (HP.out).mono ?_;rintro e w1 ⟨rfl,e1⟩;rw [HV.out];obtain ⟨wy,hy,FX,⟨b0,b1,b2,b3,b4⟩,⟨fb0,fb1,fb2,fb3,fb4⟩,fd0,fd1,fd2,fd3,fd4⟩:=fin5 (B2.l e1) (xt X e1) (by omega) k2 n2 dd2 x2 t2;go_wp2_with fail;exact bodyPost_ret (v:=valV k2 n2 dd2 x2 t2) (by simp [results,Tryz.results106,go_sem,fd0,fd1,fd2,fd3,fd4]) rfl ⟨rfl,FX⟩
theorem zTM (k:Int) (n:Bool) (d x:Int) (t:List UInt8) (k':Int) (n':Bool) (d' x':Int) (t':List UInt8) (w:World) (hl:t.length<=1048576) (hl':t'.length<=1048576) (d1 : -9223372036854775808<=d) (d2:d<=9223372036854775807) (d1' : -9223372036854775808<=d') (d2':d'<=9223372036854775807) (hT:Tens w) (hE:zAH w) (ga:zA4 k n d x t=true) (gb:zA4 k' n' d' x' t'=true) (h4:k ≠ 4) (h4':k' ≠ 4) :
  Calls Tryz.prog 107 #[valV k n d x t,valV k' n' d' x' t'] w fun e w'=>e=.returned (zC3 1 k n d x t k' n' d' x' t')/\Ext w w':=by
 obtain ⟨k2,n2,dd2,x2,t2,hv⟩:=zD2 1 k n d x t k' n' d' x' t';have HV:Hid (zC3 1 k n d x t k' n' d' x' t'=valV k2 n2 dd2 x2 t2):=hv;rw [hv];clear hv;obtain ⟨u0,u1,u2,h0,h1,h2,s0,s1,s2,B0,B1,B2,X⟩:=mkB3 w [iQ k,.bool n,iQ d,iQ x,sV t] [iQ k',.bool n',iQ d',iQ x',sV t'] [iQ 0,.bool false,iQ 0,iQ 0,sV []] 26 26 26;obtain ⟨a0,a1,a2,a3,a4⟩:=Vec.five (B0);obtain ⟨c0,c1,c2,c3,c4⟩:=Vec.five (B1);have HP:Hid (Calls Tryz.prog 150 #[valV k n d x t,valV k' n' d' x' t',fnV 154] u2 fun e w'=>e=.returned (zC3 1 k n d x t k' n' d' x' t')/\Ext u2 w'):=zO8 1 _ zM7 k n d x t k' n' d' x' t' u2 hl hl' d1 d2 d1' d2' (hT.l X) (hE.l X) ga gb h4 h4';clear hl hl' d1 d2 d1' d2' hT hE ga gb h4 h4';go_enter Tryz.func107,Tryz.ntmps107;go_wp2_with fail;clear h0 s0 h1 s1 h2 s2 a0 a1 a2 a3 a4 c0 c1 c2 c3 c4;refine (HP.out).mono ?_;rintro e w1 ⟨rfl,e1⟩;rw [HV.out];obtain ⟨wy,hy,FX,⟨b0,b1,b2,b3,b4⟩,⟨fb0,fb1,fb2,fb3,fb4⟩,fd0,fd1,fd2,fd3,fd4⟩:=fin5 (B2.l e1) (xt X e1) (by omega) k2 n2 dd2 x2 t2;go_wp2_with fail;exact bodyPost_ret (v:=valV k2 n2 dd2 x2 t2) (by simp [results,Tryz.results107,go_sem,fd0,fd1,fd2,fd3,fd4]) rfl ⟨rfl,FX⟩
theorem zSZ (k:Int) (n:Bool) (d x:Int) (t:List UInt8) (k':Int) (n':Bool) (d' x':Int) (t':List UInt8) (w:World) (hl:t.length<=1048576) (hl':t'.length<=1048576) (d1 : -9223372036854775808<=d) (d2:d<=9223372036854775807) (d1' : -9223372036854775808<=d') (d2':d'<=9223372036854775807) (hT:Tens w) (hE:zAH w) (ga:zA4 k n d x t=true) (gb:zA4 k' n' d' x' t'=true) (h4:k ≠ 4) (h4':k' ≠ 4) :
  Calls Tryz.prog 108 #[valV k n d x t,valV k' n' d' x' t'] w fun e w'=>e=.returned (zC3 2 k n d x t k' n' d' x' t')/\Ext w w':=by
 obtain ⟨k2,n2,dd2,x2,t2,hv⟩:=zD2 2 k n d x t k' n' d' x' t';have HV:Hid (zC3 2 k n d x t k' n' d' x' t'=valV k2 n2 dd2 x2 t2):=hv;rw [hv];clear hv;obtain ⟨u0,u1,u2,h0,h1,h2,s0,s1,s2,B0,B1,B2,X⟩:=mkB3 w [iQ k,.bool n,iQ d,iQ x,sV t] [iQ k',.bool n',iQ d',iQ x',sV t'] [iQ 0,.bool false,iQ 0,iQ 0,sV []] 26 26 26;obtain ⟨a0,a1,a2,a3,a4⟩:=Vec.five (B0);obtain ⟨c0,c1,c2,c3,c4⟩:=Vec.five (B1);have HP:Hid (Calls Tryz.prog 150 #[valV k n d x t,valV k' n' d' x' t',fnV 156] u2 fun e w'=>e=.returned (zC3 2 k n d x t k' n' d' x' t')/\Ext u2 w'):=zO8 2 _ zM5 k n d x t k' n' d' x' t' u2 hl hl' d1 d2 d1' d2' (hT.l X) (hE.l X) ga gb h4 h4';clear hl hl' d1 d2 d1' d2' hT hE ga gb h4 h4';go_enter Tryz.func108,Tryz.ntmps108;go_wp2_with fail;clear h0 s0 h1 s1 h2 s2 a0 a1 a2 a3 a4 c0 c1 c2 c3 c4;refine (HP.out).mono ?_;rintro e w1 ⟨rfl,e1⟩;rw [HV.out];obtain ⟨wy,hy,FX,⟨b0,b1,b2,b3,b4⟩,⟨fb0,fb1,fb2,fb3,fb4⟩,fd0,fd1,fd2,fd3,fd4⟩:=fin5 (B2.l e1) (xt X e1) (by omega) k2 n2 dd2 x2 t2;go_wp2_with fail;exact bodyPost_ret (v:=valV k2 n2 dd2 x2 t2) (by simp [results,Tryz.results108,go_sem,fd0,fd1,fd2,fd3,fd4]) rfl ⟨rfl,FX⟩
theorem zVV (k:Int) (n:Bool) (d x:Int) (t:List UInt8) (k':Int) (n':Bool) (d' x':Int) (t':List UInt8) (w:World) (hl:t.length<=1048576) (hl':t'.length<=1048576) (d1 : -9223372036854775808<=d) (d2:d<=9223372036854775807) (d1' : -9223372036854775808<=d') (d2':d'<=9223372036854775807) (hT:Tens w) (hE:zAH w) (ga:zA4 k n d x t=true) (gb:zA4 k' n' d' x' t'=true) (h4:k ≠ 4) (h4':k' ≠ 4) :
  Calls Tryz.prog 109 #[valV k n d x t,valV k' n' d' x' t'] w fun e w'=>e=.returned (zC3 3 k n d x t k' n' d' x' t')/\Ext w w':=by
 obtain ⟨k2,n2,dd2,x2,t2,hv⟩:=zD2 3 k n d x t k' n' d' x' t';have HV:Hid (zC3 3 k n d x t k' n' d' x' t'=valV k2 n2 dd2 x2 t2):=hv;rw [hv];clear hv;obtain ⟨u0,u1,u2,h0,h1,h2,s0,s1,s2,B0,B1,B2,X⟩:=mkB3 w [iQ k,.bool n,iQ d,iQ x,sV t] [iQ k',.bool n',iQ d',iQ x',sV t'] [iQ 0,.bool false,iQ 0,iQ 0,sV []] 26 26 26;obtain ⟨a0,a1,a2,a3,a4⟩:=Vec.five (B0);obtain ⟨c0,c1,c2,c3,c4⟩:=Vec.five (B1);have HP:Hid (Calls Tryz.prog 150 #[valV k n d x t,valV k' n' d' x' t',fnV 158] u2 fun e w'=>e=.returned (zC3 3 k n d x t k' n' d' x' t')/\Ext u2 w'):=zO8 3 _ zNP k n d x t k' n' d' x' t' u2 hl hl' d1 d2 d1' d2' (hT.l X) (hE.l X) ga gb h4 h4';clear hl hl' d1 d2 d1' d2' hT hE ga gb h4 h4';go_enter Tryz.func109,Tryz.ntmps109;go_wp2_with fail;clear h0 s0 h1 s1 h2 s2 a0 a1 a2 a3 a4 c0 c1 c2 c3 c4;refine (HP.out).mono ?_;rintro e w1 ⟨rfl,e1⟩;rw [HV.out];obtain ⟨wy,hy,FX,⟨b0,b1,b2,b3,b4⟩,⟨fb0,fb1,fb2,fb3,fb4⟩,fd0,fd1,fd2,fd3,fd4⟩:=fin5 (B2.l e1) (xt X e1) (by omega) k2 n2 dd2 x2 t2;go_wp2_with fail;exact bodyPost_ret (v:=valV k2 n2 dd2 x2 t2) (by simp [results,Tryz.results109,go_sem,fd0,fd1,fd2,fd3,fd4]) rfl ⟨rfl,FX⟩
theorem zTG (k:Int) (n:Bool) (d x:Int) (t:List UInt8) (k':Int) (n':Bool) (d' x':Int) (t':List UInt8) (w:World) (hl:t.length<=1048576) (hl':t'.length<=1048576) (d1 : -9223372036854775808<=d) (d2:d<=9223372036854775807) (d1' : -9223372036854775808<=d') (d2':d'<=9223372036854775807) (hT:Tens w) (hE:zAH w) (ga:zA4 k n d x t=true) (gb:zA4 k' n' d' x' t'=true) (h4:k ≠ 4) (h4':k' ≠ 4) :
  Calls Tryz.prog 110 #[valV k n d x t,valV k' n' d' x' t'] w fun e w'=>e=.returned (zC3 4 k n d x t k' n' d' x' t')/\Ext w w':=by
 obtain ⟨k2,n2,dd2,x2,t2,hv⟩:=zD2 4 k n d x t k' n' d' x' t';have HV:Hid (zC3 4 k n d x t k' n' d' x' t'=valV k2 n2 dd2 x2 t2):=hv;rw [hv];clear hv;obtain ⟨u0,u1,u2,h0,h1,h2,s0,s1,s2,B0,B1,B2,X⟩:=mkB3 w [iQ k,.bool n,iQ d,iQ x,sV t] [iQ k',.bool n',iQ d',iQ x',sV t'] [iQ 0,.bool false,iQ 0,iQ 0,sV []] 26 26 26;obtain ⟨a0,a1,a2,a3,a4⟩:=Vec.five (B0);obtain ⟨c0,c1,c2,c3,c4⟩:=Vec.five (B1);have HP:Hid (Calls Tryz.prog 150 #[valV k n d x t,valV k' n' d' x' t',fnV 160] u2 fun e w'=>e=.returned (zC3 4 k n d x t k' n' d' x' t')/\Ext u2 w'):=zO8 4 _ zM6 k n d x t k' n' d' x' t' u2 hl hl' d1 d2 d1' d2' (hT.l X) (hE.l X) ga gb h4 h4';clear hl hl' d1 d2 d1' d2' hT hE ga gb h4 h4';go_enter Tryz.func110,Tryz.ntmps110;go_wp2_with fail;clear h0 s0 h1 s1 h2 s2 a0 a1 a2 a3 a4 c0 c1 c2 c3 c4;refine (HP.out).mono ?_;rintro e w1 ⟨rfl,e1⟩;rw [HV.out];obtain ⟨wy,hy,FX,⟨b0,b1,b2,b3,b4⟩,⟨fb0,fb1,fb2,fb3,fb4⟩,fd0,fd1,fd2,fd3,fd4⟩:=fin5 (B2.l e1) (xt X e1) (by omega) k2 n2 dd2 x2 t2;go_wp2_with fail;exact bodyPost_ret (v:=valV k2 n2 dd2 x2 t2) (by simp [results,Tryz.results110,go_sem,fd0,fd1,fd2,fd3,fd4]) rfl ⟨rfl,FX⟩
def zC7 (o f:Nat):Prop:=(∀ ar w,(callFunc f ar).run Tryz.prog w=.ok (.enter f ar) w) /\
 ∀ (k:Int) (n:Bool) (d x:Int) (t:List UInt8) (k':Int) (n':Bool) (d' x':Int) (t':List UInt8) (w:World) (_:t.length<=1048576) (_:t'.length<=1048576) (_ : -9223372036854775808<=d) (_:d<=9223372036854775807) (_ : -9223372036854775808<=d') (_:d'<=9223372036854775807) (_:Tens w) (_:zAH w) (_:zEN w) (_:zA4 k n d x t=true) (_:zA4 k' n' d' x' t'=true) (_:k ≠ 4) (_:k' ≠ 4),
  Calls Tryz.prog f #[valV k n d x t,valV k' n' d' x' t'] w fun e w'=>e=.returned (zR0 o k n d x t k' n' d' x' t')/\Ext w w'
theorem zTX:zC7 0 106:=⟨fun ar w=>by kernel_rfl,fun k n d x t k' n' d' x' t' w hl hl' d1 d2 d1' d2' hT hE hI ga gb h4 h4'=>by
  have:=zVS k n d x t k' n' d' x' t' w hl hl' d1 d2 d1' d2' hT hE ga gb h4 h4';exact this⟩
theorem zTW:zC7 1 107:=⟨fun ar w=>by kernel_rfl,fun k n d x t k' n' d' x' t' w hl hl' d1 d2 d1' d2' hT hE hI ga gb h4 h4'=>by
  have:=zTM k n d x t k' n' d' x' t' w hl hl' d1 d2 d1' d2' hT hE ga gb h4 h4';exact this⟩
theorem zTV:zC7 2 108:=⟨fun ar w=>by kernel_rfl,fun k n d x t k' n' d' x' t' w hl hl' d1 d2 d1' d2' hT hE hI ga gb h4 h4'=>by
  have:=zSZ k n d x t k' n' d' x' t' w hl hl' d1 d2 d1' d2' hT hE ga gb h4 h4';exact this⟩
theorem zTU:zC7 3 109:=⟨fun ar w=>by kernel_rfl,fun k n d x t k' n' d' x' t' w hl hl' d1 d2 d1' d2' hT hE hI ga gb h4 h4'=>by
  have:=zVV k n d x t k' n' d' x' t' w hl hl' d1 d2 d1' d2' hT hE ga gb h4 h4';exact this⟩
theorem zTT:zC7 4 110:=⟨fun ar w=>by kernel_rfl,fun k n d x t k' n' d' x' t' w hl hl' d1 d2 d1' d2' hT hE hI ga gb h4 h4'=>by
  have:=zTG k n d x t k' n' d' x' t' w hl hl' d1 d2 d1' d2' hT hE ga gb h4 h4';exact this⟩
theorem zTS:zC7 5 111:=⟨fun ar w=>by kernel_rfl,fun k n d x t k' n' d' x' t' w hl hl' d1 d2 d1' d2' hT hE hI ga gb h4 h4'=>by
  exact zUF k n d x t k' n' d' x' t' w (by omega) (by omega) d1 d2 d1' d2' hT hE hI ga gb⟩
theorem zTR:zC7 6 112:=⟨fun ar w=>by kernel_rfl,fun k n d x t k' n' d' x' t' w hl hl' d1 d2 d1' d2' hT hE hI ga gb h4 h4'=>by
  exact zX2 k n d x t k' n' d' x' t' w (by omega) (by omega) d1 d2 d1' d2' hT hE⟩
theorem zTQ:zC7 7 113:=⟨fun ar w=>by kernel_rfl,fun k n d x t k' n' d' x' t' w hl hl' d1 d2 d1' d2' hT hE hI ga gb h4 h4'=>by
  exact zSX k n d x t k' n' d' x' t' w (by omega) (by omega) d1 d2 d1' d2' hT hE⟩
theorem zTP:zC7 8 114:=⟨fun ar w=>by kernel_rfl,fun k n d x t k' n' d' x' t' w hl hl' d1 d2 d1' d2' hT hE hI ga gb h4 h4'=>by
  exact zWN k n d x t k' n' d' x' t' w (by omega) (by omega) d1 d2 d1' d2' hT hE⟩
theorem zTO:zC7 9 115:=⟨fun ar w=>by kernel_rfl,fun k n d x t k' n' d' x' t' w hl hl' d1 d2 d1' d2' hT hE hI ga gb h4 h4'=>by
  exact zWQ k n d x t k' n' d' x' t' w (by omega) (by omega) d1 d2 d1' d2' hT hE⟩
theorem zQZ:zC7 10 116:=⟨fun ar w=>by kernel_rfl,fun k n d x t k' n' d' x' t' w hl hl' d1 d2 d1' d2' hT hE hI ga gb h4 h4'=>by
  exact zOR k n d x t k' n' d' x' t' w (by omega) (by omega) d1 d2 d1' d2' hT hE⟩
theorem zQY:zC7 11 117:=⟨fun ar w=>by kernel_rfl,fun k n d x t k' n' d' x' t' w hl hl' d1 d2 d1' d2' hT hE hI ga gb h4 h4'=>by
  exact zOQ k n d x t k' n' d' x' t' w (by omega) (by omega) d1 d2 d1' d2' hT hE⟩
theorem zSA {op:List UInt8} {o:Nat} (h:opN op=some o):zQC[o]?=some op:=by
 unfold opN at h;rw [List.findIdx?_eq_some_iff_getElem] at h;obtain ⟨hlt,h1,_⟩:=h;rw [List.getElem?_eq_getElem hlt];exact congrArg some (by simpa using h1)
theorem zS9 {op:List UInt8} (h:opN op=none):∀ p ∈ zB1,p.1 ≠ op:=by
 unfold opN at h;rw [List.findIdx?_eq_none_iff] at h;intro p hp e;have hm:p.1 ∈ zQC:=by
  simp only [zB1,List.mem_cons,List.not_mem_nil,or_false] at hp
  rcases hp with rfl | rfl | rfl | rfl | rfl | rfl | rfl | rfl | rfl | rfl | rfl | rfl <;> decide
 have:=h _ hm;simp [e] at this
theorem zBD:∀ p ∈ zB1,∀ q ∈ zB1,p.1=q.1->p.2=q.2:=by
 have h:(zB1.map Prod.fst).Nodup:=by decide
 intro p hp q hq e;obtain ⟨i,hi,rfl⟩:=List.getElem_of_mem hp;obtain ⟨j,hj,rfl⟩:=List.getElem_of_mem hq;have:=(List.getElem_inj (xs:=zB1.map Prod.fst) (i:=i) (j:=j) (h₀:=by simpa using hi) (h₁:=by simpa using hj) h).1 (by simpa using e);subst this;rfl
theorem zOM {op:List UInt8} {o:Nat} (h:opN op=some o):∃ f,(op,fnV f) ∈ zB1/\(∀ p ∈ zB1,p.1=op->p.2=fnV f)/\zC7 o f:=by
 have h1:=zSA h;have h2:o<12:=(List.getElem?_eq_some_iff.1 h1).1
 match o,h1,h2 with
 | 0,h1,_ =>
  cases h1;exact ⟨106,by simp [zB1],fun p hp e=>zBD p hp (_,_) (by simp [zB1]) e,zTX⟩
 | 1,h1,_ =>
  cases h1;exact ⟨107,by simp [zB1],fun p hp e=>zBD p hp (_,_) (by simp [zB1]) e,zTW⟩
 | 2,h1,_ =>
  cases h1;exact ⟨108,by simp [zB1],fun p hp e=>zBD p hp (_,_) (by simp [zB1]) e,zTV⟩
 | 3,h1,_ =>
  cases h1;exact ⟨109,by simp [zB1],fun p hp e=>zBD p hp (_,_) (by simp [zB1]) e,zTU⟩
 | 4,h1,_ =>
  cases h1;exact ⟨110,by simp [zB1],fun p hp e=>zBD p hp (_,_) (by simp [zB1]) e,zTT⟩
 | 5,h1,_ =>
  cases h1;exact ⟨111,by simp [zB1],fun p hp e=>zBD p hp (_,_) (by simp [zB1]) e,zTS⟩
 | 6,h1,_ =>
  cases h1;exact ⟨112,by simp [zB1],fun p hp e=>zBD p hp (_,_) (by simp [zB1]) e,zTR⟩
 | 7,h1,_ =>
  cases h1;exact ⟨113,by simp [zB1],fun p hp e=>zBD p hp (_,_) (by simp [zB1]) e,zTQ⟩
 | 8,h1,_ =>
  cases h1;exact ⟨114,by simp [zB1],fun p hp e=>zBD p hp (_,_) (by simp [zB1]) e,zTP⟩
 | 9,h1,_ =>
  cases h1;exact ⟨115,by simp [zB1],fun p hp e=>zBD p hp (_,_) (by simp [zB1]) e,zTO⟩
 | 10,h1,_ =>
  cases h1;exact ⟨116,by simp [zB1],fun p hp e=>zBD p hp (_,_) (by simp [zB1]) e,zQZ⟩
 | 11,h1,_ =>
  cases h1;exact ⟨117,by simp [zB1],fun p hp e=>zBD p hp (_,_) (by simp [zB1]) e,zQY⟩
theorem ofI (o f:Nat) (M:zC7 o f) (k:Int) (n:Bool) (d x:Int) (t:List UInt8) (k':Int) (n':Bool) (d' x':Int) (t':List UInt8) (w:World) (hl:t.length<=1048576) (hl':t'.length<=1048576) (d1 : -9223372036854775808<=d) (d2:d<=9223372036854775807) (d1' : -9223372036854775808<=d') (d2':d'<=9223372036854775807) (hT:Tens w) (hE:zAH w) (hI:zEN w) (ga:zA4 k n d x t=true) (gb:zA4 k' n' d' x' t'=true) :
  Calls Tryz.prog 64 #[fnV f,valV k n d x t,valV k' n' d' x' t'] w fun e w'=>e=.returned (zFJ o k n d x t k' n' d' x' t')/\Ext w w':=by
 unfold zFJ;by_cases h4:k=4
 ·subst h4;rw [if_pos rfl];exact zOO n d x t k' n' d' x' t' (fnV f) w
 ·rw [if_neg h4];by_cases h4':k'=4
  ·subst h4';rw [if_pos rfl];exact zL6 k n d x t n' d' x' t' (fnV f) h4 w
  ·rw [if_neg h4'];obtain ⟨k2,n2,dd2,x2,t2,hv⟩:=zJD o k n d x t k' n' d' x' t';rw [hv];refine zXC k n d x t k' n' d' x' t' f M.1 h4 h4' w fun w1 h1=>?_;have:=M.2 k n d x t k' n' d' x' t' w1 hl hl' d1 d2 d1' d2' (hT.l h1) (hE.l h1) (hI.l h1) ga gb h4 h4';rw [hv] at this;exact this
theorem zWP (op:List UInt8) (k:Int) (n:Bool) (d x:Int) (t:List UInt8) (k':Int) (n':Bool) (d' x':Int) (t':List UInt8) (w:World) (ho:op.length<=1048576) (hl:t.length<=1048576) (hl':t'.length<=1048576) (d1 : -9223372036854775808<=d) (d2:d<=9223372036854775807) (d1' : -9223372036854775808<=d') (d2':d'<=9223372036854775807) (hT:Tens w) (hE:zAH w) (hI:zEN w) :
  Calls Tryz.prog 18 #[sV op,valV k n d x t,valV k' n' d' x' t'] w fun e w'=>e=.returned (zDS op k n d x t k' n' d' x' t')/\Ext w w':=by
 obtain ⟨R,hR⟩:=nm (zDS op k n d x t k' n' d' x' t');have HR0:Hid (zDS op k n d x t k' n' d' x' t'=R):=hR;rw [hR];clear hR;obtain ⟨u0,u1,u2,h0,h1,h2,s0,s1,s2,B0,B1,B2,X⟩:=mkB3 w [iQ k,.bool n,iQ d,iQ x,sV t] [iQ k',.bool n',iQ d',iQ x',sV t'] [iQ 0,.bool false,iQ 0,iQ 0,sV []] 26 26 26;cases hop:opN op with
 | none =>
  have HR:Hid (evV zIJ=R):=by show _=_;rw [<- HR0.out];unfold zDS;rw [hop]
  go_enter Tryz.func18,Tryz.ntmps18;go_wp2_with fail;clear h0 h1 h2 s0 s1 s2;refine (zN7 u2).mono ?_;rintro e w1 ⟨m,rfl,WM,e1⟩;have LK:=WM.lost zF1 ho (zS9 hop);clear WM hop HR0 hT hE hI hl hl' d1 d2 d1' d2' ho;go_wp2_with fail;clear LK;refine (zDL zIJ w1).mono ?_;rintro e w2 ⟨rfl,e2⟩;obtain ⟨wy,hy,FX,⟨b0,b1,b2,b3,b4⟩,⟨fb0,fb1,fb2,fb3,fb4⟩,fd0,fd1,fd2,fd3,fd4⟩:=fin5 ((B2.l e1).l e2) (xt (xt X e1) e2) (by omega) 4 false 0 0 zIJ;go_wp2_with fail;exact bodyPost_ret (v:=valV 4 false 0 0 zIJ) (by simp [results,Tryz.results18,go_sem,fd0,fd1,fd2,fd3,fd4]) rfl ⟨congrArg Ending.returned HR.out,FX⟩
 | some o =>
  obtain ⟨f,hm,hu,M⟩:=zOM hop;have HR1:Hid ((if (zA4 k n d x t && zA4 k' n' d' x' t')=true then zFJ o k n d x t k' n' d' x' t' else errW)=R):=by show _=_;rw [<- HR0.out];unfold zDS;rw [hop]
  clear HR0;go_enter Tryz.func18,Tryz.ntmps18;go_wp2_with fail;clear h0 h1 h2 s0 s1 s2;refine (zN7 u2).mono ?_;rintro e w1 ⟨m,rfl,WM,e1⟩;have LK:=WM.found zF1 hm hu;have C0:=B0.l e1;have C1:=B1.l e1;have C2:=B2.l e1;have X1:=xt X e1;clear WM hop hm hu ho B0 B1 B2 X;obtain ⟨a0,a1,a2,a3,a4⟩:=Vec.five (C0);go_wp2_with fail;clear LK a0 a1 a2 a3 a4;refine (zD6 k n d x t w1 (by omega) d1 d2 (hT.l X1) (hE.l X1)).mono ?_;rintro e w2 ⟨rfl,e2⟩;have D1:=C1.l e2;have D0:=C0.l e2;have D2:=C2.l e2;have X2:=xt X1 e2;clear C0 C1 C2;obtain ⟨g,hg⟩:=nm (zA4 k n d x t);rw [hg] at HR1 ⊢;cases g
  ·have HR:Hid (errW=R):=HR1;clear HR1 hg;go_wp2_with fail;refine (zDL errT w2).mono ?_;rintro e w3 ⟨rfl,e3⟩;obtain ⟨wy,hy,FX,⟨b0,b1,b2,b3,b4⟩,⟨fb0,fb1,fb2,fb3,fb4⟩,fd0,fd1,fd2,fd3,fd4⟩:=fin5 (D2.l e3) (xt X2 e3) (by omega) 4 false 0 0 errT;go_wp2_with fail;exact bodyPost_ret (v:=valV 4 false 0 0 errT) (by simp [results,Tryz.results18,go_sem,fd0,fd1,fd2,fd3,fd4]) rfl ⟨congrArg Ending.returned HR.out,FX⟩
  ·obtain ⟨c0,c1,c2,c3,c4⟩:=Vec.five (D1);go_wp2_with fail;clear c0 c1 c2 c3 c4;refine (zD6 k' n' d' x' t' w2 (by omega) d1' d2' (hT.l X2) (hE.l X2)).mono ?_;rintro e w3 ⟨rfl,e3⟩;have E0:=D0.l e3;have E1:=D1.l e3;have E2:=D2.l e3;have X3:=xt X2 e3;clear D0 D1 D2;obtain ⟨g',hg'⟩:=nm (zA4 k' n' d' x' t');rw [hg'] at HR1 ⊢;cases g'
   ·have HR:Hid (errW=R):=HR1;clear HR1 hg hg';go_wp2_with fail;refine (zDL errT w3).mono ?_;rintro e w4 ⟨rfl,e4⟩;obtain ⟨wy,hy,FX,⟨b0,b1,b2,b3,b4⟩,⟨fb0,fb1,fb2,fb3,fb4⟩,fd0,fd1,fd2,fd3,fd4⟩:=fin5 (E2.l e4) (xt X3 e4) (by omega) 4 false 0 0 errT;go_wp2_with fail;exact bodyPost_ret (v:=valV 4 false 0 0 errT) (by simp [results,Tryz.results18,go_sem,fd0,fd1,fd2,fd3,fd4]) rfl ⟨congrArg Ending.returned HR.out,FX⟩
   ·have HR2:Hid (zFJ o k n d x t k' n' d' x' t'=R):=HR1;obtain ⟨k2,n2,dd2,x2,t2,hv⟩:=zGI o k n d x t k' n' d' x' t';have HR:Hid (valV k2 n2 dd2 x2 t2=R):=(by show _=_;rw [<- HR2.out,hv]);have HP:Hid (Calls Tryz.prog 64 #[fnV f,valV k n d x t,valV k' n' d' x' t'] w3 fun e w'=>e=.returned (valV k2 n2 dd2 x2 t2)/\Ext w3 w'):=by
     show Calls _ _ _ _ _;rw [<- hv];exact ofI o f M k n d x t k' n' d' x' t' w3 hl hl' d1 d2 d1' d2' (hT.l X3) (hE.l X3) (hI.l X3) hg hg'
    clear HR1 HR2 hv hg hg' hT hE hI hl hl' d1 d2 d1' d2' M;obtain ⟨a0,a1,a2,a3,a4⟩:=Vec.five (E0);obtain ⟨c0,c1,c2,c3,c4⟩:=Vec.five (E1);go_wp2_with fail;clear a0 a1 a2 a3 a4 c0 c1 c2 c3 c4;refine (HP.out).mono ?_;rintro e w4 ⟨rfl,e4⟩;obtain ⟨wy,hy,FX,⟨b0,b1,b2,b3,b4⟩,⟨fb0,fb1,fb2,fb3,fb4⟩,fd0,fd1,fd2,fd3,fd4⟩:=fin5 (E2.l e4) (xt X3 e4) (by omega) k2 n2 dd2 x2 t2;go_wp2_with fail;exact bodyPost_ret (v:=valV k2 n2 dd2 x2 t2) (by simp [results,Tryz.results18,go_sem,fd0,fd1,fd2,fd3,fd4]) rfl ⟨congrArg Ending.returned HR.out,FX⟩
end Go.Proofs.YtkadkfmidlhedaaGreatDoor

