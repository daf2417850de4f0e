/-
  Several texts in one: V9o, V6n.
-/
import Derived.Test.YtkadkfmidlhedaaGreatDoorMg32
import Derived.Test.YtkadkfmidlhedaaGreatDoorMg22
import Derived.Test.YtkadkfmidlhedaaGreatDoorMg0
import Derived.Lib.Bytealg
set_option maxRecDepth 8000
set_option maxHeartbeats 2000000
namespace Go.Proofs.YtkadkfmidlhedaaGreatDoor
open Go.RowKit
theorem zOO (n:Bool) (d x:Int) (t:List UInt8) (k':Int) (n':Bool) (d' x':Int) (t':List UInt8) (fv:Value) (w:World) :
  Calls Tryz.prog 64 #[fv,valV 4 n d x t,valV k' n' d' x' t'] w fun e w'=>e=.returned (valV 4 n d x t)/\Ext w w':=by
 obtain ⟨u0,u1,u2,h0,h1,h2,s0,s1,s2,B0,B1,B2,X⟩:=mkB3 w [iQ 4,.bool n,iQ d,iQ x,sV t] [iQ k',.bool n',iQ d',iQ x',sV t'] [iQ 0,.bool false,iQ 0,iQ 0,sV []] 26 26 26;obtain ⟨a0,a1,a2,a3,a4⟩:=Vec.five (B0);obtain ⟨c0,c1,c2,c3,c4⟩:=Vec.five (B1);go_enter Tryz.func64,Tryz.ntmps64;go_wp2_with fail;clear h0 s0 h1 s1 h2 s2 a0 a1 a2 a3 a4 c0 c1 c2 c3 c4;refine (zF7 4 n d x t u2).mono ?_;rintro e w1 ⟨rfl,e1⟩;obtain ⟨a0,a1,a2,a3,a4⟩:=Vec.five ((B0.l e1));rw [show decide ((4:Int)=4)=true from rfl];obtain ⟨wy,hy,FX,⟨b0,b1,b2,b3,b4⟩,⟨fb0,fb1,fb2,fb3,fb4⟩,fd0,fd1,fd2,fd3,fd4⟩:=fin5 (B2.l e1) (xt X e1) (by omega) 4 n d x t;go_wp2_with fail;exact bodyPost_ret (v:=valV 4 n d x t) (by simp [results,Tryz.results64,go_sem,fd0,fd1,fd2,fd3,fd4]) rfl ⟨rfl,FX⟩
theorem zL6 (k:Int) (n:Bool) (d x:Int) (t:List UInt8) (n':Bool) (d' x':Int) (t':List UInt8) (fv:Value) (h4:k ≠ 4) (w:World) :
  Calls Tryz.prog 64 #[fv,valV k n d x t,valV 4 n' d' x' t'] w fun e w'=>e=.returned (valV 4 n' d' x' t')/\Ext w w':=by
 obtain ⟨u0,u1,u2,h0,h1,h2,s0,s1,s2,B0,B1,B2,X⟩:=mkB3 w [iQ k,.bool n,iQ d,iQ x,sV t] [iQ 4,.bool n',iQ d',iQ x',sV t'] [iQ 0,.bool false,iQ 0,iQ 0,sV []] 26 26 26;obtain ⟨a0,a1,a2,a3,a4⟩:=Vec.five (B0);obtain ⟨c0,c1,c2,c3,c4⟩:=Vec.five (B1);go_enter Tryz.func64,Tryz.ntmps64;go_wp2_with fail;clear h0 s0 h1 s1 h2 s2 a0 a1 a2 a3 a4 c0 c1 c2 c3 c4;refine (zF7 k n d x t u2).mono ?_;rintro e w1 ⟨rfl,e1⟩;rw [decide_eq_false h4];obtain ⟨c0,c1,c2,c3,c4⟩:=Vec.five ((B1.l e1));go_wp2_with fail;clear c0 c1 c2 c3 c4;refine (zF7 4 n' d' x' t' w1).mono ?_;rintro e w2 ⟨rfl,e2⟩;rw [show decide ((4:Int)=4)=true from rfl];obtain ⟨c0,c1,c2,c3,c4⟩:=Vec.five (((B1.l e1).l e2));obtain ⟨wy,hy,FX,⟨b0,b1,b2,b3,b4⟩,⟨fb0,fb1,fb2,fb3,fb4⟩,fd0,fd1,fd2,fd3,fd4⟩:=fin5 ((B2.l e1).l e2) (xt (xt X e1) e2) (by omega) 4 n' d' x' t';go_wp2_with fail;exact bodyPost_ret (v:=valV 4 n' d' x' t') (by simp [results,Tryz.results64,go_sem,fd0,fd1,fd2,fd3,fd4]) rfl ⟨rfl,FX⟩
theorem zXC (k:Int) (n:Bool) (d x:Int) (t:List UInt8) (k':Int) (n':Bool) (d' x':Int) (t':List UInt8) (f:Nat) (HF:∀ ar w,(callFunc f ar).run Tryz.prog w=.ok (.enter f ar) w) (h4:k ≠ 4) (h4':k' ≠ 4) (w:World) {k2:Int} {n2:Bool} {d2 x2:Int} {t2:List UInt8}
  (H:∀ w1,Ext w w1->Calls Tryz.prog f #[valV k n d x t,valV k' n' d' x' t'] w1 fun e w'=>e=.returned (valV k2 n2 d2 x2 t2)/\Ext w1 w') :
  Calls Tryz.prog 64 #[.func (.func f) #[] #[],valV k n d x t,valV k' n' d' x' t'] w fun e w'=>e=.returned (valV k2 n2 d2 x2 t2)/\Ext w w':=by
 obtain ⟨u0,u1,u2,h0,h1,h2,s0,s1,s2,B0,B1,B2,X⟩:=mkB3 w [iQ k,.bool n,iQ d,iQ x,sV t] [iQ k',.bool n',iQ d',iQ x',sV t'] [iQ 0,.bool false,iQ 0,iQ 0,sV []] 26 26 26;obtain ⟨a0,a1,a2,a3,a4⟩:=Vec.five (B0);obtain ⟨c0,c1,c2,c3,c4⟩:=Vec.five (B1);go_enter Tryz.func64,Tryz.ntmps64;go_wp2_with fail;clear h0 s0 h1 s1 h2 s2 a0 a1 a2 a3 a4 c0 c1 c2 c3 c4;refine (zF7 k n d x t u2).mono ?_;rintro e w1 ⟨rfl,e1⟩;rw [decide_eq_false h4];obtain ⟨c0,c1,c2,c3,c4⟩:=Vec.five ((B1.l e1));go_wp2_with fail;clear c0 c1 c2 c3 c4;refine (zF7 k' n' d' x' t' w1).mono ?_;rintro e w2 ⟨rfl,e2⟩;rw [decide_eq_false h4'];have Xw:=xt (xt X e1) e2;have C0:=(B0.l e1).l e2;have C1:=(B1.l e1).l e2;have C2:=(B2.l e1).l e2;clear B0 B1 B2 X e1 e2;obtain ⟨a0,a1,a2,a3,a4⟩:=Vec.five (C0);obtain ⟨c0,c1,c2,c3,c4⟩:=Vec.five (C1);go_wp2_with fail;clear a0 a1 a2 a3 a4 c0 c1 c2 c3 c4;refine (H w2 Xw).mono ?_;rintro e w3 ⟨rfl,e3⟩;obtain ⟨wy,hy,FX,⟨b0,b1,b2,b3,b4⟩,⟨fb0,fb1,fb2,fb3,fb4⟩,fd0,fd1,fd2,fd3,fd4⟩:=fin5 (C2.l e3) (xt Xw e3) (by omega) k2 n2 d2 x2 t2;go_wp2_with fail;exact bodyPost_ret (v:=valV k2 n2 d2 x2 t2) (by simp [results,Tryz.results64,go_sem,fd0,fd1,fd2,fd3,fd4]) rfl ⟨rfl,FX⟩
theorem zVY (k:Int) (n:Bool) (d x:Int) (t:List UInt8) (k':Int) (n':Bool) (d' x':Int) (t':List UInt8) (p:Value) (f:Nat) (HF:∀ ar w,(callFunc f ar).run Tryz.prog w=.ok (.enter f ar) w) (h4:k ≠ 4) (h4':k' ≠ 4) (w:World) {k2:Int} {n2:Bool} {d2 x2:Int} {t2:List UInt8}
  (H:∀ w1,Ext w w1->Calls Tryz.prog f #[valV k n d x t,valV k' n' d' x' t',p] w1 fun e w'=>e=.returned (valV k2 n2 d2 x2 t2)/\Ext w1 w') :
  Calls Tryz.prog 64 #[.func (.func f) #[] #[p],valV k n d x t,valV k' n' d' x' t'] w fun e w'=>e=.returned (valV k2 n2 d2 x2 t2)/\Ext w w':=by
 obtain ⟨u0,u1,u2,h0,h1,h2,s0,s1,s2,B0,B1,B2,X⟩:=mkB3 w [iQ k,.bool n,iQ d,iQ x,sV t] [iQ k',.bool n',iQ d',iQ x',sV t'] [iQ 0,.bool false,iQ 0,iQ 0,sV []] 26 26 26;obtain ⟨a0,a1,a2,a3,a4⟩:=Vec.five (B0);obtain ⟨c0,c1,c2,c3,c4⟩:=Vec.five (B1);go_enter Tryz.func64,Tryz.ntmps64;go_wp2_with fail;clear h0 s0 h1 s1 h2 s2 a0 a1 a2 a3 a4 c0 c1 c2 c3 c4;refine (zF7 k n d x t u2).mono ?_;rintro e w1 ⟨rfl,e1⟩;rw [decide_eq_false h4];obtain ⟨c0,c1,c2,c3,c4⟩:=Vec.five ((B1.l e1));go_wp2_with fail;clear c0 c1 c2 c3 c4;refine (zF7 k' n' d' x' t' w1).mono ?_;rintro e w2 ⟨rfl,e2⟩;rw [decide_eq_false h4'];have Xw:=xt (xt X e1) e2;have C0:=(B0.l e1).l e2;have C1:=(B1.l e1).l e2;have C2:=(B2.l e1).l e2;clear B0 B1 B2 X e1 e2;obtain ⟨a0,a1,a2,a3,a4⟩:=Vec.five (C0);obtain ⟨c0,c1,c2,c3,c4⟩:=Vec.five (C1);go_wp2_with fail;clear a0 a1 a2 a3 a4 c0 c1 c2 c3 c4;refine (H w2 Xw).mono ?_;rintro e w3 ⟨rfl,e3⟩;obtain ⟨wy,hy,FX,⟨b0,b1,b2,b3,b4⟩,⟨fb0,fb1,fb2,fb3,fb4⟩,fd0,fd1,fd2,fd3,fd4⟩:=fin5 (C2.l e3) (xt Xw e3) (by omega) k2 n2 d2 x2 t2;go_wp2_with fail;exact bodyPost_ret (v:=valV k2 n2 d2 x2 t2) (by simp [results,Tryz.results64,go_sem,fd0,fd1,fd2,fd3,fd4]) rfl ⟨rfl,FX⟩
theorem zJP:∀ a b:List UInt8,Lib.compareBytes a b = -1\/Lib.compareBytes a b=0\/Lib.compareBytes a b=1
 | [],[]=>Or.inr (Or.inl rfl)
 | [],_ :: _=>Or.inl rfl
 | _ :: _,[]=>Or.inr (Or.inr rfl)
 | a :: x,b :: y=>by
  unfold Lib.compareBytes
  split
  ·exact Or.inl rfl
  ·split
   ·exact Or.inr (Or.inr rfl)
   ·exact zJP x y
theorem zLU:∀ a b:List UInt8,Op.bytesLess a b=decide (Lib.compareBytes a b = -1)
 | [],[]=>rfl
 | [],_ :: _=>rfl
 | _ :: _,[]=>rfl
 | a :: x,b :: y=>by
  unfold Lib.compareBytes Op.bytesLess;have ih:=zLU x y;by_cases h:a<b
  ·simp [h]
  ·by_cases h2:b<a
   ·have:¬ a=b:=fun e=>(by subst e;exact absurd h2 (UInt8.lt_irrefl a));simp [h,h2,this]
   ·have e:a=b:=UInt8.le_antisymm (UInt8.not_lt.1 h2) (UInt8.not_lt.1 h);subst e;simp [UInt8.lt_irrefl,ih]
theorem zLT:∀ a b:List UInt8,(a == b)=decide (Lib.compareBytes a b=0)
 | [],[]=>rfl
 | [],_ :: _=>rfl
 | _ :: _,[]=>rfl
 | a :: x,b :: y=>by
  unfold Lib.compareBytes;have ih:=zLT x y;by_cases h:a<b
  ·have:¬ a=b:=fun e=>by subst e;exact absurd h (UInt8.lt_irrefl a)
   simp [h,this]
  ·by_cases h2:b<a
   ·have:¬ a=b:=fun e=>(by subst e;exact absurd h2 (UInt8.lt_irrefl a));simp [h,h2,this]
   ·have e:a=b:=UInt8.le_antisymm (UInt8.not_lt.1 h2) (UInt8.not_lt.1 h);subst e;rw [if_neg (UInt8.lt_irrefl a),if_neg (UInt8.lt_irrefl a),<- ih];simp
end Go.Proofs.YtkadkfmidlhedaaGreatDoor

