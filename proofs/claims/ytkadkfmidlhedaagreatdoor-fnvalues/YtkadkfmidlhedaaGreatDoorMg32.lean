/-
  Several texts in one: V6k, V9w, Fb, V6p.
-/
import Derived.Test.YtkadkfmidlhedaaGreatDoorMg22
import Derived.Test.YtkadkfmidlhedaaGreatDoorV6j
import Derived.Test.YtkadkfmidlhedaaGreatDoorReN
import Derived.Test.YtkadkfmidlhedaaGreatDoorMg3
import Derived.StringKeys
import Derived.MapKept
import Derived.Carry
import Derived.Test.YtkadkfmidlhedaaGreatDoorMg1
set_option maxRecDepth 8000
set_option maxHeartbeats 2000000
namespace Go.Proofs.YtkadkfmidlhedaaGreatDoor
open Go.RowKit
def numR (r:DR):Value:=if r.ok then valV 1 r.neg r.d r.e [] else errW
def zCI (k:Int) (n:Bool) (d x:Int) (t:List UInt8):Value:=
 if k=0 then valV 1 false 0 0 [] else if k=2 then numR (zAU (zBL t)) else
 if k=3 then (if t == zAX then valV 1 false 1 0 [] else valV 1 false 0 0 []) else valV k n d x t
def zGZ (k:Int) (n:Bool) (d x:Int) (t:List UInt8):Value:=if zA4 k n d x t then zCI k n d x t else errW
theorem zL9 (r:DR):∃ k2 n2 d2 x2 t2,numR r=valV k2 n2 d2 x2 t2:=by
 unfold numR
 split
 ·exact ⟨_,_,_,_,_,rfl⟩
 ·exact ⟨_,_,_,_,_,rfl⟩
theorem zOP (k:Int) (n:Bool) (d x:Int) (t:List UInt8):∃ k2 n2 d2 x2 t2,zCI k n d x t=valV k2 n2 d2 x2 t2:=by
 unfold zCI
 split
 ·exact ⟨_,_,_,_,_,rfl⟩
 ·split
  ·exact zL9 _
  ·split
   ·split
    ·exact ⟨_,_,_,_,_,rfl⟩
    ·exact ⟨_,_,_,_,_,rfl⟩
   ·exact ⟨_,_,_,_,_,rfl⟩
theorem zWW (l:List UInt8) (w:World) (hl:l.length<=2000000) :
  Calls Tryz.prog 143 #[sV l,.string ⟨#[32]⟩] w fun e w'=>e=.returned (sV (zBL l))/\Ext w w':=by
 have h:=Any.strings_Trim_laid layTrim (by kernel_rfl) (bs l) ⟨#[32]⟩ w (by rw [zIS];omega) (by decide) (ascii_of_all (by decide));rw [zPB] at h;rw [<- zJY];exact h
theorem oneS (w:World):Calls Tryz.prog 162 #[] w fun e w'=>e=.returned (decV false 1 0)/\Ext w w':=by
 go_enter Tryz.func162,Tryz.ntmps162
 go_wp2
 exact bodyPost_ret (v:=decV false 1 0) (by simp [results,Tryz.results162,go_sem]) rfl ⟨rfl,x1 _ _⟩
theorem zVK (k:Int) (n:Bool) (d x:Int) (t:List UInt8) (w:World) (hl:t.length<=1048576) (hT:Tens w) :
  Calls Tryz.prog 129 #[valV k n d x t] w fun e w'=>e=.returned (numR (zAU (zBL t)))/\Ext w w':=by
 obtain ⟨R,hR⟩:=nm (numR (zAU (zBL t)));have HRN:Hid (numR (zAU (zBL t))=R):=hR;rw [hR];clear hR;obtain ⟨wa,wb,ha,hb,sa,_,B1,B2,X⟩:=mkB2 w [iQ k,.bool n,iQ d,iQ x,sV t] [iQ 0,.bool false,iQ 0,iQ 0,sV []] 26 26;obtain ⟨a0,a1,a2,a3,a4⟩:=Vec.five B1;go_enter Tryz.func129,Tryz.ntmps129;go_wp2_with fail;clear ha hb sa a0 a1 a2 a3 a4;refine (zWW t wb (by omega)).mono ?_;rintro e w1 ⟨rfl,e1⟩;have hlt:=zKW t;obtain ⟨u,hu⟩:=nm (zBL t);rw [hu] at HRN hlt ⊢;clear hu;go_wp2_with fail;refine (zVL u w1 (by omega) (hT.l (xt X e1))).mono ?_;rintro e w2 ⟨rfl,e2⟩;have C2:=(B2.l e1).l e2;have X2:=xt (xt X e1) e2;clear B1 B2 e1 e2 hT hlt hl;obtain ⟨ok,rn,rd,re,hq⟩:∃ ok rn rd re,zAU u=(⟨ok,rn,rd,re⟩:DR):=⟨_,_,_,_,rfl⟩;have HRR:Hid (numR ⟨ok,rn,rd,re⟩=R):=by show _=_;rw [<- hq];exact HRN.out
 rw [hq];clear hq HRN;have Y0:=x1 w2 (.cells #[.bool ok,.bool rn,iQ rd,iQ re] 79);obtain ⟨wz,hz⟩:=nm (w2.alloc (.cells #[.bool ok,.bool rn,iQ rd,iQ re] 79));have Br:=zA5 w2 [.bool ok,.bool rn,iQ rd,iQ re] 79;change Vec (w2.alloc (.cells #[.bool ok,.bool rn,iQ rd,iQ re] 79)) _ _ at Br;rw [hz] at Y0 Br;have r0:=(Br 0 _ rfl).1;have r1:=(Br 1 _ rfl).1;have r2:=(Br 2 _ rfl).1;have r3:=(Br 3 _ rfl).1;have D2:=(C2).l Y0;have XD:=xt (X2) Y0;cases ok
 ·have HR:Hid (errW=R):=HRR;go_wp2_with fail;clear r0 r1 r2 r3 hz Br;refine (zDL errT wz).mono ?_;rintro e w8 ⟨rfl,e8⟩;obtain ⟨wy,hy,FX,⟨b0,b1,b2,b3,b4⟩,⟨fb0,fb1,fb2,fb3,fb4⟩,fd0,fd1,fd2,fd3,fd4⟩:=fin5 (D2.l e8) (xt XD e8) (by omega) (4) (false) (0) (0) (errT);go_wp2_with fail;exact bodyPost_ret (v:=errW) (by simp [results,Tryz.results129,go_sem,fd0,fd1,fd2,fd3,fd4]) rfl ⟨congrArg Ending.returned HR.out,FX⟩
 ·have HR:Hid (valV 1 rn rd re []=R):=HRR;go_wp2_with fail;clear r0 r1 r2 r3 hz Br;refine (zKB rn rd re wz).mono ?_;rintro e w8 ⟨rfl,e8⟩;obtain ⟨wy,hy,FX,⟨b0,b1,b2,b3,b4⟩,⟨fb0,fb1,fb2,fb3,fb4⟩,fd0,fd1,fd2,fd3,fd4⟩:=fin5 (D2.l e8) (xt XD e8) (by omega) (1) (rn) (rd) (re) ([]);go_wp2_with fail;exact bodyPost_ret (v:=valV 1 rn rd re []) (by simp [results,Tryz.results129,go_sem,fd0,fd1,fd2,fd3,fd4]) rfl ⟨congrArg Ending.returned HR.out,FX⟩
theorem zSB (k:Int) (n:Bool) (d x:Int) (t:List UInt8) (w:World) (hl:t.length<=1048576) (d1 : -9223372036854775808<=d) (d2:d<=9223372036854775807) (hT:Tens w) (hE:zAH w) :
  Calls Tryz.prog 89 #[valV k n d x t] w fun e w'=>e=.returned (zGZ k n d x t)/\Ext w w':=by
 obtain ⟨R,hR⟩:=nm (zGZ k n d x t);have HR0:Hid (zGZ k n d x t=R):=hR;rw [hR];clear hR;obtain ⟨wa,wb,ha,hb,sa,_,B1,B2,X⟩:=mkB2 w [iQ k,.bool n,iQ d,iQ x,sV t] [iQ 0,.bool false,iQ 0,iQ 0,sV []] 26 26;obtain ⟨a0,a1,a2,a3,a4⟩:=Vec.five B1;go_enter Tryz.func89,Tryz.ntmps89;go_wp2_with fail;clear ha hb sa a0 a1 a2 a3 a4;refine (zD6 k n d x t wb (by omega) d1 d2 (hT.l X) (hE.l X)).mono ?_;rintro e w1 ⟨rfl,e1⟩;have C1:=B1.l e1;have C2:=B2.l e1;have X1:=xt X e1;have T1:=hT.l X1;clear B1 B2 hE hT d1 d2;obtain ⟨g,hg⟩:=nm (zA4 k n d x t);rw [hg];cases g
 ·have HR:Hid (errW=R):=by show _=_;rw [<- HR0.out];simp [zGZ,hg]
  clear hg T1;go_wp2_with fail;refine (zDL errT _).mono ?_;rintro e w2 ⟨rfl,e2⟩;obtain ⟨wy,hy,FX,⟨b0,b1,b2,b3,b4⟩,⟨fb0,fb1,fb2,fb3,fb4⟩,fd0,fd1,fd2,fd3,fd4⟩:=fin5 (C2.l e2) (xt X1 e2) (by omega) (4) (false) (0) (0) (errT);go_wp2_with fail;exact bodyPost_ret (v:=errW) (by simp [results,Tryz.results89,go_sem,fd0,fd1,fd2,fd3,fd4]) rfl ⟨congrArg Ending.returned HR.out,FX⟩
 ·have HR1:Hid (zCI k n d x t=R):=by show _=_;rw [<- HR0.out];simp [zGZ,hg]
  obtain ⟨a0,a1,a2,a3,a4⟩:=Vec.five C1;by_cases h0:k=0
  ·subst h0;have HR:Hid (valV 1 false 0 0 []=R):=by show _=_;rw [<- HR1.out];simp [zCI]
   clear hg T1;go_wp2_with fail;clear a0 a1 a2 a3 a4;refine (zKB false 0 0 _).mono ?_;rintro e w2 ⟨rfl,e2⟩;obtain ⟨wy,hy,FX,⟨b0,b1,b2,b3,b4⟩,⟨fb0,fb1,fb2,fb3,fb4⟩,fd0,fd1,fd2,fd3,fd4⟩:=fin5 (C2.l e2) (xt X1 e2) (by omega) (1) (false) (0) (0) ([]);go_wp2_with fail;exact bodyPost_ret (v:=valV 1 false 0 0 []) (by simp [results,Tryz.results89,go_sem,fd0,fd1,fd2,fd3,fd4]) rfl ⟨congrArg Ending.returned HR.out,FX⟩
  ·by_cases h2:k=2
   ·subst h2;clear hg;have HR2:Hid (numR (zAU (zBL t))=R):=(by show _=_;rw [<- HR1.out];simp [zCI]);go_wp2_with fail;clear a0 a1 a2 a3 a4;refine (zVK 2 n d x t _ hl T1).mono ?_;rintro e w2 ⟨rfl,e2⟩;obtain ⟨k2,n2,d2,x2,t2,hv⟩:=zL9 (zAU (zBL t));have HR:Hid (valV k2 n2 d2 x2 t2=R):=(by show _=_;rw [<- HR2.out,hv]);rw [hv];clear hv T1;obtain ⟨wy,hy,FX,⟨b0,b1,b2,b3,b4⟩,⟨fb0,fb1,fb2,fb3,fb4⟩,fd0,fd1,fd2,fd3,fd4⟩:=fin5 (C2.l e2) (xt X1 e2) (by omega) (k2) (n2) (d2) (x2) (t2);go_wp2_with fail;exact bodyPost_ret (v:=valV k2 n2 d2 x2 t2) (by simp [results,Tryz.results89,go_sem,fd0,fd1,fd2,fd3,fd4]) rfl ⟨congrArg Ending.returned HR.out,FX⟩
   ·by_cases h3:k=3
    ·subst h3;obtain ⟨rfl,rfl,rfl⟩:=zC0 hg (by decide);clear hg T1 h0 h2;obtain ⟨p,hp⟩:=nm ((t == zAX));have HR2:Hid ((if p then valV 1 false 1 0 [] else valV 1 false 0 0 [])=R):=(by show _=_;rw [<- HR1.out];simp [zCI,hp]);cases p
     ·have HR:Hid (valV 1 false 0 0 []=R):=(by show _=_;rw [<- HR2.out];rfl);go_wp2_with fail;go_region_with (go_at_call 50;refine (zE8 true _).mono ?_;rintro e w2 ⟨rfl,e2⟩;have C3:=C1.l (xt (xd (xr _)) e2);have c0:=(C3 0 _ rfl).1;have c1:=(C3 1 _ rfl).1;have c2:=(C3 2 _ rfl).1;have c3:=(C3 3 _ rfl).1;have c4:=(C3 4 _ rfl).1)
      all_goals
       go_wp2_with fail;clear hp;refine (zKB false 0 0 _).mono ?_;rintro e w3 ⟨rfl,e3⟩;obtain ⟨wy,hy,FX,⟨b0,b1,b2,b3,b4⟩,⟨fb0,fb1,fb2,fb3,fb4⟩,fd0,fd1,fd2,fd3,fd4⟩:=fin5 ((C2.l (xt (xd (xr _)) e2)).l e3) (xt (xt X1 (xt (xd (xr _)) e2)) e3) (by omega) (1) (false) (0) (0) ([]);go_wp2_with fail;exact bodyPost_ret (v:=valV 1 false 0 0 []) (by simp [results,Tryz.results89,go_sem,fd0,fd1,fd2,fd3,fd4]) rfl ⟨congrArg Ending.returned HR.out,FX⟩
     ·have HR:Hid (valV 1 false 1 0 []=R):=(by show _=_;rw [<- HR2.out];rfl);go_wp2_with fail;go_region_with (go_at_call 50;refine (zE8 true _).mono ?_;rintro e w2 ⟨rfl,e2⟩;have C3:=C1.l (xt (xd (xr _)) e2);have c0:=(C3 0 _ rfl).1;have c1:=(C3 1 _ rfl).1;have c2:=(C3 2 _ rfl).1;have c3:=(C3 3 _ rfl).1;have c4:=(C3 4 _ rfl).1)
      all_goals
       go_wp2_with fail;clear hp;refine (zKB false 1 0 _).mono ?_;rintro e w3 ⟨rfl,e3⟩;obtain ⟨wy,hy,FX,⟨b0,b1,b2,b3,b4⟩,⟨fb0,fb1,fb2,fb3,fb4⟩,fd0,fd1,fd2,fd3,fd4⟩:=fin5 ((C2.l (xt (xd (xr _)) e2)).l e3) (xt (xt X1 (xt (xd (xr _)) e2)) e3) (by omega) (1) (false) (1) (0) ([]);go_wp2_with fail;exact bodyPost_ret (v:=valV 1 false 1 0 []) (by simp [results,Tryz.results89,go_sem,fd0,fd1,fd2,fd3,fd4]) rfl ⟨congrArg Ending.returned HR.out,FX⟩
    ·have HR:Hid (valV k n d x t=R):=(by show _=_;rw [<- HR1.out];simp [zCI,h0,h2,h3]);obtain ⟨wy,hy,FX,⟨b0,b1,b2,b3,b4⟩,⟨fb0,fb1,fb2,fb3,fb4⟩,fd0,fd1,fd2,fd3,fd4⟩:=fin5 (C2) (X1) (by omega) (k) (n) (d) (x) (t);go_wp2_with fail;exact bodyPost_ret (v:=valV k n d x t) (by simp [results,Tryz.results89,go_sem,fd0,fd1,fd2,fd3,fd4]) rfl ⟨congrArg Ending.returned HR.out,FX⟩
theorem zSO (k:Int) (n:Bool) (d x:Int) (t:List UInt8) (w:World) (hl:t.length<=1048576) :
  Calls Tryz.prog 120 #[valV k n d x t] w fun e w'=>e=.returned (zCI k n d x t)/\Ext w w':=by
 obtain ⟨R,hR⟩:=nm (zCI k n d x t);have HR0:Hid (zCI k n d x t=R):=hR;rw [hR];clear hR;obtain ⟨wa,wb,ha,hb,sa,_,B1,B2,X⟩:=mkB2 w [iQ k,.bool n,iQ d,iQ x,sV t] [iQ 0,.bool false,iQ 0,iQ 0,sV []] 26 26;obtain ⟨a0,a1,a2,a3,a4⟩:=Vec.five B1;go_enter Tryz.func120,Tryz.ntmps120;by_cases h0:k=0
 ·subst h0;have HR:Hid (valV 1 false 0 0 []=R):=by show _=_;rw [<- HR0.out];simp [zCI]
  go_wp2_with fail;clear ha hb sa a0 a1 a2 a3 a4;refine (zEV false 0 0 wb).mono ?_;rintro e w2 ⟨rfl,e2⟩;obtain ⟨wy,hy,FX,⟨b0,b1,b2,b3,b4⟩,⟨fb0,fb1,fb2,fb3,fb4⟩,fd0,fd1,fd2,fd3,fd4⟩:=fin5 (B2.l e2) (xt X e2) (by omega) (1) (false) (0) (0) ([]);go_wp2_with fail;exact bodyPost_ret (v:=valV 1 false 0 0 []) (by simp [results,Tryz.results120,go_sem,fd0,fd1,fd2,fd3,fd4]) rfl ⟨congrArg Ending.returned HR.out,FX⟩
 ·by_cases h3:k=3
  ·subst h3;obtain ⟨p,hp⟩:=nm ((t == [84,82,85,69]));have HR2:Hid ((if p then valV 1 false 1 0 [] else valV 1 false 0 0 [])=R):=by show _=_;rw [<- HR0.out];simp [zCI,hp]
   cases p
   ·have HR:Hid (valV 1 false 0 0 []=R):=(by show _=_;rw [<- HR2.out];rfl);go_wp2_with fail;clear ha hb sa a0 a1 a2 a3 a4 hp;refine (zEV false 0 0 wb).mono ?_;rintro e w2 ⟨rfl,e2⟩;obtain ⟨wy,hy,FX,⟨b0,b1,b2,b3,b4⟩,⟨fb0,fb1,fb2,fb3,fb4⟩,fd0,fd1,fd2,fd3,fd4⟩:=fin5 (B2.l e2) (xt X e2) (by omega) (1) (false) (0) (0) ([]);go_wp2_with fail;exact bodyPost_ret (v:=valV 1 false 0 0 []) (by simp [results,Tryz.results120,go_sem,fd0,fd1,fd2,fd3,fd4]) rfl ⟨congrArg Ending.returned HR.out,FX⟩
   ·have HR:Hid (valV 1 false 1 0 []=R):=(by show _=_;rw [<- HR2.out];rfl);go_wp2_with fail;clear ha hb sa a0 a1 a2 a3 a4 hp;refine (oneS wb).mono ?_;rintro e w2 ⟨rfl,e2⟩;go_wp2_with fail;refine (zEV false 1 0 w2).mono ?_;rintro e w3 ⟨rfl,e3⟩;obtain ⟨wy,hy,FX,⟨b0,b1,b2,b3,b4⟩,⟨fb0,fb1,fb2,fb3,fb4⟩,fd0,fd1,fd2,fd3,fd4⟩:=fin5 ((B2.l e2).l e3) (xt (xt X e2) e3) (by omega) (1) (false) (1) (0) ([]);go_wp2_with fail;exact bodyPost_ret (v:=valV 1 false 1 0 []) (by simp [results,Tryz.results120,go_sem,fd0,fd1,fd2,fd3,fd4]) rfl ⟨congrArg Ending.returned HR.out,FX⟩
  ·by_cases h2:k=2
   ·subst h2;have HRN:Hid (numR (zAU (zBL t))=R):=(by show _=_;rw [<- HR0.out];simp [zCI]);go_wp2_with fail;clear ha hb sa a0 a1 a2 a3 a4;refine (zVE t wb (by omega)).mono ?_;rintro e w9 ⟨rfl,rfl⟩;have hlt:=zKW t;obtain ⟨u,hu⟩:=nm (zBL t);rw [hu] at HRN hlt ⊢;clear hu;go_wp2_with fail;refine (zX6 u w9 (by omega)).mono ?_;rintro e w2 ⟨rfl,e2⟩;have C2:=B2.l e2;have X2:=xt X e2;clear B1 B2 e2 hlt hl h0 h3 HR0;obtain ⟨ok,rn,rd,re,hq⟩:∃ ok rn rd re,zAU u=(⟨ok,rn,rd,re⟩:DR):=⟨_,_,_,_,rfl⟩;have HRR:Hid (numR ⟨ok,rn,rd,re⟩=R):=(by show _=_;rw [<- hq];exact HRN.out);rw [hq];clear hq HRN;have Y0:=x1 w2 (.cells #[.bool ok,.bool rn,iQ rd,iQ re] 79);obtain ⟨wz,hz⟩:=nm (w2.alloc (.cells #[.bool ok,.bool rn,iQ rd,iQ re] 79));have Br:=zA5 w2 [.bool ok,.bool rn,iQ rd,iQ re] 79;change Vec (w2.alloc (.cells #[.bool ok,.bool rn,iQ rd,iQ re] 79)) _ _ at Br;rw [hz] at Y0 Br;have r0:=(Br 0 _ rfl).1;have r1:=(Br 1 _ rfl).1;have r2:=(Br 2 _ rfl).1;have r3:=(Br 3 _ rfl).1;have D2:=(C2).l Y0;have XD:=xt (X2) Y0;cases ok
    ·have HR:Hid (errW=R):=HRR;go_wp2_with fail;clear r0 r1 r2 r3 hz Br;refine (zB2 errT wz).mono ?_;rintro e w8 ⟨rfl,e8⟩;obtain ⟨wy,hy,FX,⟨b0,b1,b2,b3,b4⟩,⟨fb0,fb1,fb2,fb3,fb4⟩,fd0,fd1,fd2,fd3,fd4⟩:=fin5 (D2.l e8) (xt XD e8) (by omega) (4) (false) (0) (0) (errT);go_wp2_with fail;exact bodyPost_ret (v:=errW) (by simp [results,Tryz.results120,go_sem,fd0,fd1,fd2,fd3,fd4]) rfl ⟨congrArg Ending.returned HR.out,FX⟩
    ·have HR:Hid (valV 1 rn rd re []=R):=HRR;go_wp2_with fail;clear r0 r1 r2 r3 hz Br;refine (zEV rn rd re wz).mono ?_;rintro e w8 ⟨rfl,e8⟩;obtain ⟨wy,hy,FX,⟨b0,b1,b2,b3,b4⟩,⟨fb0,fb1,fb2,fb3,fb4⟩,fd0,fd1,fd2,fd3,fd4⟩:=fin5 (D2.l e8) (xt XD e8) (by omega) (1) (rn) (rd) (re) ([]);go_wp2_with fail;exact bodyPost_ret (v:=valV 1 rn rd re []) (by simp [results,Tryz.results120,go_sem,fd0,fd1,fd2,fd3,fd4]) rfl ⟨congrArg Ending.returned HR.out,FX⟩
   ·have HR:Hid (valV k n d x t=R):=(by show _=_;rw [<- HR0.out];simp [zCI,h0,h2,h3]);obtain ⟨wy,hy,FX,⟨b0,b1,b2,b3,b4⟩,⟨fb0,fb1,fb2,fb3,fb4⟩,fd0,fd1,fd2,fd3,fd4⟩:=fin5 (B2) (X) (by omega) (k) (n) (d) (x) (t);go_wp2_with fail;exact bodyPost_ret (v:=valV k n d x t) (by simp [results,Tryz.results120,go_sem,fd0,fd1,fd2,fd3,fd4]) rfl ⟨congrArg Ending.returned HR.out,FX⟩
theorem zFK:WideMaps.KeyLaw Tryz.prog 9:=WideMaps.string_law Tryz.underlying9
theorem zGN {l:List UInt8} (h:l.length<=1000000):∃ x,keyOf Tryz.prog 9 (sV l)=some x:=
 ⟨_,WideMaps.keyOf_string_mk Tryz.underlying9 (show l.length<=maxLen by unfold maxLen;omega)⟩
theorem zGH:Tryz.prog.underlying 93=some (.map 9 91):=by kernel_rfl
def zDO (w:World) (m:Nat) (L:List (List UInt8 × Value)):Prop:=
 ∃ es clock,w.heap[m]?=some (.map es clock)/\es.toList.map (fun e=>(e.key,e.val))=L.map (fun p=>(sV p.1,p.2))
theorem zDO.lt {w:World} {m:Nat} {L:List (List UInt8 × Value)} (h:zDO w m L):m<w.heap.size:=by
 obtain ⟨es,c,hb,_⟩:=h
 rcases Nat.lt_or_ge m w.heap.size with h' | h'
 ·exact h'
 ·rw [Array.getElem?_eq_none h'] at hb;cases hb
theorem zDO.keyed {L:List (List UInt8 × Value)} {es:Array MapEntry} (he:es.toList.map (fun e=>(e.key,e.val))=L.map (fun p=>(sV p.1,p.2))) :
  ∀ e ∈ es.toList,∃ p ∈ L,e.key=sV p.1/\e.val=p.2:=fun e hm=>by
 have:(e.key,e.val) ∈ es.toList.map (fun e=>(e.key,e.val)):=List.mem_map.2 ⟨e,hm,rfl⟩;rw [he] at this;obtain ⟨k,hk,hkk⟩:=List.mem_map.1 this;exact ⟨k,hk,(congrArg Prod.fst hkk).symm,(congrArg Prod.snd hkk).symm⟩
theorem zNY {a b:List UInt8} (h:sV a=sV b):a=b:=by
 have:a.toArray=b.toArray:=by simpa using h
 exact List.toArray_inj this
theorem zPD {a w:World} (h:Ext a w) {m:Nat} (hm:a.heap.size<=m) (o:Obj):Ext a { w with heap:=w.heap.setIfInBounds m o }:=
 ⟨h.os,h.tape,h.output,by simpa using h.size,fun k hk=>by
  show (w.heap.setIfInBounds m o)[k]?=_;rw [Array.getElem?_setIfInBounds_ne (by omega)];exact h.block k hk⟩
theorem zDO.insert {a w:World} {m:Nat} {L:List (List UInt8 × Value)} (h:zDO w m L) (X:Ext a w) (hm:a.heap.size<=m) (hL:∀ p ∈ L,p.1.length<=1000000) {l:List UInt8} (hl:l.length<=1000000) (v:Value) (hn:∀ p ∈ L,p.1 ≠ l) :
  ∃ u,(Instr.mapUpdate 93 (.map (some m)) (sV l) v).run Tryz.prog w=.ok () u/\zDO u m (L++[(l,v)])/\Ext a u:=by
 have hlt:=h.lt;obtain ⟨es,clock,hb,he⟩:=h;obtain ⟨x,hx⟩:=zGN hl;have hkeys:∀ e ∈ es.toList,∃ l,keyOf Tryz.prog 9 e.key=some l:=fun e hm=>by
  obtain ⟨p,hp,hj,_⟩:=zDO.keyed he e hm;rw [hj];exact zGN (hL p hp)
 rcases zFK.find w hx es.toList hkeys with ⟨h1,h2⟩ | ⟨j,e0,h1,h2,h3⟩
 ·refine ⟨{ w with heap:=w.heap.setIfInBounds m (.map (es.push ⟨sV l,v,clock⟩) (clock+1)) },?_,⟨es.push ⟨sV l,v,clock⟩,clock+1,?_,?_⟩,zPD X hm _⟩
  ·simp [Instr.mapUpdate,run_underlying zGH,MapKept.run_getObj_map hb,zFK.check w false hx,h1,MapKept.run_setObj_map _ hb,Result.andThen]
  ·show (w.heap.setIfInBounds m _)[m]?=_;rw [Array.getElem?_setIfInBounds_self_of_lt hlt]
  ·rw [Array.toList_push,List.map_append,he,List.map_append];rfl
 ·exfalso;obtain ⟨p,hp,hik,_⟩:=zDO.keyed he e0 (List.mem_of_getElem? h2);rw [h3] at hik;exact hn p hp (zNY hik).symm
theorem zDO.found {w:World} {m:Nat} {L:List (List UInt8 × Value)} (h:zDO w m L) (hL:∀ p ∈ L,p.1.length<=1000000) {l:List UInt8} {v:Value} (hm:(l,v) ∈ L) (hu:∀ p ∈ L,p.1=l->p.2=v) :
  (Instr.lookup 93 (.map (some m)) (sV l) true).run Tryz.prog w=.ok (.tuple #[v,.bool true]) w:=by
 obtain ⟨es,clock,hb,he⟩:=h;obtain ⟨x,hx⟩:=zGN (hL _ hm);have hkeys:∀ e ∈ es.toList,∃ l,keyOf Tryz.prog 9 e.key=some l:=fun e hm=>by
  obtain ⟨p,hp,hj,_⟩:=zDO.keyed he e hm;rw [hj];exact zGN (hL p hp)
 rcases zFK.find w hx es.toList hkeys with ⟨h1,h2⟩ | ⟨j,e0,h1,h2,h3⟩
 ·exfalso;have:(sV l,v) ∈ L.map (fun p=>(sV p.1,p.2)):=List.mem_map.2 ⟨_,hm,rfl⟩;rw [<- he] at this;obtain ⟨e,hm,hee⟩:=List.mem_map.1 this;exact h2 e hm (congrArg Prod.fst hee)
 ·obtain ⟨p,hp,hik,hv⟩:=zDO.keyed he e0 (List.mem_of_getElem? h2);rw [h3] at hik;have hv2:=hu p hp (zNY hik).symm;rw [hv2] at hv;simp [Instr.lookup,run_underlying zGH,MapKept.run_getObj_map hb,zFK.check w _ hx,h1,Result.andThen,hv]
theorem zDO.lost {w:World} {m:Nat} {L:List (List UInt8 × Value)} (h:zDO w m L) (hL:∀ p ∈ L,p.1.length<=1000000) {l:List UInt8} (hl:l.length<=1048576) (hn:∀ p ∈ L,p.1 ≠ l) :
  (Instr.lookup 93 (.map (some m)) (sV l) true).run Tryz.prog w=.ok (.tuple #[.nilFunc,.bool false]) w:=by
 obtain ⟨es,clock,hb,he⟩:=h;obtain ⟨x,hx⟩:∃ x,keyOf Tryz.prog 9 (sV l)=some x:=⟨_,WideMaps.keyOf_string_mk Tryz.underlying9 (show l.length<=maxLen by unfold maxLen;omega)⟩;have hkeys:∀ e ∈ es.toList,∃ l,keyOf Tryz.prog 9 e.key=some l:=fun e hm=>by
  obtain ⟨p,hp,hj,_⟩:=zDO.keyed he e hm;rw [hj];exact zGN (hL p hp)
 have hz:∀ u:World,(zeroValue 91).run Tryz.prog u=.ok .nilFunc u:=fun u=>by kernel_rfl
 rcases zFK.find w hx es.toList hkeys with ⟨h1,h2⟩ | ⟨j,e0,h1,h2,h3⟩
 ·exact by simp [Instr.lookup,run_underlying zGH,MapKept.run_getObj_map hb,zFK.check w _ hx,h1,Result.andThen,hz w]
 ·exfalso;obtain ⟨p,hp,hik,_⟩:=zDO.keyed he e0 (List.mem_of_getElem? h2);rw [h3] at hik;exact hn p hp (zNY hik).symm
abbrev fnV (f:Nat):Value:=.func (.func f) #[] #[]
def zB1:List (List UInt8 × Value):=[([43],fnV 106),([45],fnV 107),([42],fnV 108),([47],fnV 109),([94],fnV 110),([38],fnV 111),([61],fnV 112),([60,62],fnV 113),([60],fnV 114),([62],fnV 115),([60,61],fnV 116),([62,61],fnV 117)]
theorem zF1:∀ p ∈ zB1,p.1.length<=1000000:=by
 intro p hp;simp only [zB1,List.mem_cons,List.not_mem_nil,or_false] at hp
 rcases hp with rfl | rfl | rfl | rfl | rfl | rfl | rfl | rfl | rfl | rfl | rfl | rfl <;> simp
theorem zN7 (w:World):Calls Tryz.prog 61 #[] w fun e w'=>∃ m,e=.returned (.map (some m))/\zDO w' m zB1/\Ext w w':=by
 have hm:(Instr.makeMap 93 none).run Tryz.prog w=.ok (.map (some w.heap.size)) (w.alloc (.map #[] 0)):=run_makeMap _ w;have X0:=x1 w (.map #[] 0);have W0:zDO (w.alloc (.map #[] 0)) w.heap.size []:=⟨#[],0,(MapKept.heap_alloc w _).1,rfl⟩;obtain ⟨u0,h0⟩:=nm (w.alloc (.map #[] 0));rw [h0] at hm X0 W0;clear h0;obtain ⟨u1,r1,W1,X1⟩:=W0.insert X0 (Nat.le_refl _) (l:=[43]) (by simp) (by decide) (fnV 106) (by simp);obtain ⟨u2,r2,W2,X2⟩:=W1.insert X1 (Nat.le_refl _) (l:=[45]) (by simp) (by decide) (fnV 107) (by simp);obtain ⟨u3,r3,W3,X3⟩:=W2.insert X2 (Nat.le_refl _) (l:=[42]) (by simp) (by decide) (fnV 108) (by simp);obtain ⟨u4,r4,W4,X4⟩:=W3.insert X3 (Nat.le_refl _) (l:=[47]) (by simp) (by decide) (fnV 109) (by simp);obtain ⟨u5,r5,W5,X5⟩:=W4.insert X4 (Nat.le_refl _) (l:=[94]) (by simp) (by decide) (fnV 110) (by simp);obtain ⟨u6,r6,W6,X6⟩:=W5.insert X5 (Nat.le_refl _) (l:=[38]) (by simp) (by decide) (fnV 111) (by simp);obtain ⟨u7,r7,W7,X7⟩:=W6.insert X6 (Nat.le_refl _) (l:=[61]) (by simp) (by decide) (fnV 112) (by simp);obtain ⟨u8,r8,W8,X8⟩:=W7.insert X7 (Nat.le_refl _) (l:=[60,62]) (by simp) (by decide) (fnV 113) (by simp);obtain ⟨u9,r9,W9,X9⟩:=W8.insert X8 (Nat.le_refl _) (l:=[60]) (by simp) (by decide) (fnV 114) (by simp);obtain ⟨u10,r10,W10,X10⟩:=W9.insert X9 (Nat.le_refl _) (l:=[62]) (by simp) (by decide) (fnV 115) (by simp);obtain ⟨u11,r11,W11,X11⟩:=W10.insert X10 (Nat.le_refl _) (l:=[60,61]) (by simp) (by decide) (fnV 116) (by simp);obtain ⟨u12,r12,W12,X12⟩:=W11.insert X11 (Nat.le_refl _) (l:=[62,61]) (by simp) (by decide) (fnV 117) (by simp);have WF:Hid (zDO u12 w.heap.size zB1):=W12;clear W0 W1 W2 W3 W4 W5 W6 W7 W8 W9 W10 W11 W12;clear X0 X1 X2 X3 X4 X5 X6 X7 X8 X9 X10 X11;go_enter Tryz.func61,Tryz.ntmps61;go_wp2_with fail;go_ret;exact ⟨_,rfl,WF.out,X12⟩
theorem zV2 (l:List UInt8) (w:World) (hl:l.length<=2000000) :
  Calls Tryz.prog 41 #[sV l] w fun e w'=>e=.returned (sV (l.map upC))/\Ext w w':=by
 obtain ⟨cap,wb,hcv,hcap,X0,V0⟩:=zI4 l w;obtain ⟨n,hn⟩:=nm (l.length);rw [hn] at hcv hcap hl;have HN:Hid (l.length=n):=hn;have V0':Hid (Vec wb w.heap.size (encB (upK l 0))):=by show Vec _ _ _;rw [zKT];exact V0
 clear hn V0;go_enter Tryz.func41,Tryz.ntmps41;go_wp2_with fail;clear hcv;go_loopw [10] (fun i wr=>∃ k:Nat,k<=n/\i=.int .i64 k/\Hid (Vec wr w.heap.size (encB (upK l k)))/\Ext w wr) (fun i _=>n - (intOf i).toNat)
 case atStart=>exact ⟨0,by omega,rfl,V0',X0⟩
 case round =>
  obtain ⟨k,hk,rfl,V,X⟩:=hrel;by_cases hlt:k<n
  ·obtain ⟨c,hc⟩:∃ c,l[k]?=some c:=⟨_,List.getElem?_eq_getElem (by rw [HN.out];exact hlt)⟩;obtain ⟨a0,f0⟩:=V.out k _ (zKI (zKU hc));have i1:(0:Int)<=(k:Int):=by omega
   have i2:(k:Int)<(n:Int):=by omega
   have hz:c.toNat<256:=UInt8.toNat_lt c;have VP:=V.out.put k (by rw [zH6,zEC,HN.out];exact hlt) (.int .u8 ((upC c).toNat:Int));have es:(encB (upK l k)).set k (.int .u8 ((upC c).toNat:Int))=encB (upK l (k+1)):=by rw [zGB hc];simp [encB,List.map_set]
   rw [es] at VP;by_cases hs:97<=c.toNat/\c.toNat<=122
   ·have eu:=zIT hs;rw [eu] at VP;have HV:Hid (Vec (wr.setCell ⟨w.heap.size,k,none⟩ (.int .u8 ((c.toNat:Int) - 32))) w.heap.size (encB (upK l (k+1)))):=VP;obtain ⟨z,ez⟩:∃ z:Int,(c.toNat:Int)=z:=⟨_,rfl⟩;rw [ez] at a0 HV;have z1:97<=z:=(by omega);have z2:z<=122:=(by omega);clear V VP es eu hc hs ez hz;go_wp2_with fail;go_roundw
    case rel=>exact ⟨k+1,by omega,by go_num,by first | exact HV | (show Vec _ _ _;have:=HV.out;rw [show z - 97+65=z - 32 by omega];exact this),xset X (Nat.le_refl _) _⟩
    case measure=>simp [intOf];omega
   ·have eu:=zIU hs;have HV:Hid (Vec wr w.heap.size (encB (upK l (k+1)))):=by
     show Vec _ _ _;have:upK l (k+1)=upK l k:=by
      rw [zGB hc,eu];exact List.ext_getElem? fun i=>by
       rw [List.getElem?_set]
       split
       ·next e=>subst e;rw [if_pos (by rw [zEC,HN.out];exact hlt)];exact (zKU hc).symm
       ·rfl
     rw [this];exact V.out
    obtain ⟨z,ez⟩:∃ z:Int,(c.toNat:Int)=z:=⟨_,rfl⟩;rw [ez] at a0;have z3:0<=z/\z<=255:=(by omega);have z4:z<97\/122<z:=(by omega);clear V VP es eu hc hs ez hz
    rcases z4 with z4 | z4
    ·go_wp2_with fail;go_roundw
     case rel=>exact ⟨k+1,by omega,by go_num,HV,X⟩
     case measure=>simp [intOf];omega
    ·have z5:97<=z:=(by omega);go_wp2_with fail;go_roundw
     case rel=>exact ⟨k+1,by omega,by go_num,HV,X⟩
     case measure=>simp [intOf];omega
  ·obtain rfl:k=n:=by omega
   have hb:=zI5 (l.map upC) w.heap.size cap wr (by have:=V.out;rw [<- HN.out,zNA] at this;exact this);rw [List.length_map,HN.out] at hb;go_wp2_with fail;go_ret;exact ⟨rfl,X⟩
theorem zWI (l:List UInt8) (w:World) (hl:l.length<=2000000) :
  Calls Tryz.prog 97 #[sV l] w fun e w'=>e=.returned (sV (l.map upC))/\Ext w w':=by
 obtain ⟨cap,wb,hcv,hcap,X0,V0⟩:=zI4 l w;obtain ⟨n,hn⟩:=nm (l.length);rw [hn] at hcv hcap hl;have HN:Hid (l.length=n):=hn;have V0':Hid (Vec wb w.heap.size (encB (upK l 0))):=by show Vec _ _ _;rw [zKT];exact V0
 clear hn V0;go_enter Tryz.func97,Tryz.ntmps97;go_wp2_with fail;clear hcv;go_loopw [10] (fun i wr=>∃ k:Nat,k<=n/\i=.int .i64 k/\Hid (Vec wr w.heap.size (encB (upK l k)))/\Ext w wr) (fun i _=>n - (intOf i).toNat)
 case atStart=>exact ⟨0,by omega,rfl,V0',X0⟩
 case round =>
  obtain ⟨k,hk,rfl,V,X⟩:=hrel;by_cases hlt:k<n
  ·obtain ⟨c,hc⟩:∃ c,l[k]?=some c:=⟨_,List.getElem?_eq_getElem (by rw [HN.out];exact hlt)⟩;obtain ⟨a0,f0⟩:=V.out k _ (zKI (zKU hc));have i1:(0:Int)<=(k:Int):=by omega
   have i2:(k:Int)<(n:Int):=by omega
   have hz:c.toNat<256:=UInt8.toNat_lt c;have VP:=V.out.put k (by rw [zH6,zEC,HN.out];exact hlt) (.int .u8 ((upC c).toNat:Int));have es:(encB (upK l k)).set k (.int .u8 ((upC c).toNat:Int))=encB (upK l (k+1)):=by rw [zGB hc];simp [encB,List.map_set]
   rw [es] at VP;by_cases hs:97<=c.toNat/\c.toNat<=122
   ·have eu:=zIT hs;rw [eu] at VP;have HV:Hid (Vec (wr.setCell ⟨w.heap.size,k,none⟩ (.int .u8 ((c.toNat:Int) - 32))) w.heap.size (encB (upK l (k+1)))):=VP;obtain ⟨z,ez⟩:∃ z:Int,(c.toNat:Int)=z:=⟨_,rfl⟩;rw [ez] at a0 HV;have z1:97<=z:=(by omega);have z2:z<=122:=(by omega);clear V VP es eu hc hs ez hz;go_wp2_with fail;go_roundw
    case rel=>exact ⟨k+1,by omega,by go_num,HV,xset X (Nat.le_refl _) _⟩
    case measure=>simp [intOf];omega
   ·have eu:=zIU hs;have HV:Hid (Vec wr w.heap.size (encB (upK l (k+1)))):=by
     show Vec _ _ _;have:upK l (k+1)=upK l k:=by
      rw [zGB hc,eu];exact List.ext_getElem? fun i=>by
       rw [List.getElem?_set]
       split
       ·next e=>subst e;rw [if_pos (by rw [zEC,HN.out];exact hlt)];exact (zKU hc).symm
       ·rfl
     rw [this];exact V.out
    obtain ⟨z,ez⟩:∃ z:Int,(c.toNat:Int)=z:=⟨_,rfl⟩;rw [ez] at a0;have z3:0<=z/\z<=255:=(by omega);have z4:z<97\/122<z:=(by omega);clear V VP es eu hc hs ez hz
    rcases z4 with z4 | z4
    ·go_wp2_with fail;go_roundw
     case rel=>exact ⟨k+1,by omega,by go_num,HV,X⟩
     case measure=>simp [intOf];omega
    ·have z5:97<=z:=(by omega);go_wp2_with fail;go_roundw
     case rel=>exact ⟨k+1,by omega,by go_num,HV,X⟩
     case measure=>simp [intOf];omega
  ·obtain rfl:k=n:=by omega
   have hb:=zI5 (l.map upC) w.heap.size cap wr (by have:=V.out;rw [<- HN.out,zNA] at this;exact this);rw [List.length_map,HN.out] at hb;go_wp2_with fail;go_ret;exact ⟨rfl,X⟩
theorem numE (w:World) (hT:Tens w) (hE:zAH w) :
  Calls Tryz.prog 89 #[valV 0 false 0 0 []] w fun e w'=>e=.returned (valV 1 false 0 0 [])/\Ext w w':=by
 obtain ⟨R,hR⟩:=nm (valV 1 false 0 0 []);have HR:Hid (valV 1 false 0 0 []=R):=hR;rw [hR];clear hR;obtain ⟨wa,wb,ha,hb,sa,_,B1,B2,X⟩:=mkB2 w [iQ 0,.bool false,iQ 0,iQ 0,sV []] [iQ 0,.bool false,iQ 0,iQ 0,sV []] 26 26;obtain ⟨a0,a1,a2,a3,a4⟩:=Vec.five B1;go_enter Tryz.func89,Tryz.ntmps89;go_wp2_with fail;clear ha hb sa a0 a1 a2 a3 a4;refine (zD6 0 false 0 0 [] wb (by decide) (by decide) (by decide) (hT.l X) (hE.l X)).mono ?_;rintro e w1 ⟨rfl,e1⟩;rw [show zA4 0 false 0 0 []=true by decide];have C1:=B1.l e1;have C2:=B2.l e1;have X1:=xt X e1;obtain ⟨a0,a1,a2,a3,a4⟩:=Vec.five C1;go_wp2_with fail;clear a0 a1 a2 a3 a4;refine (zKB false 0 0 _).mono ?_;rintro e w2 ⟨rfl,e2⟩;obtain ⟨wy,hy,FX,⟨b0,b1,b2,b3,b4⟩,⟨fb0,fb1,fb2,fb3,fb4⟩,fd0,fd1,fd2,fd3,fd4⟩:=fin5 (C2.l e2) (xt X1 e2) (by omega) (1) (false) (0) (0) ([]);go_wp2_with fail;exact bodyPost_ret (v:=valV 1 false 0 0 []) (by simp [results,Tryz.results89,go_sem,fd0,fd1,fd2,fd3,fd4]) rfl ⟨congrArg Ending.returned HR.out,FX⟩
theorem zWZ (w:World) (hT:Tens w) (hE:zAH w) :
  Calls Tryz.prog 55 #[valV 0 false 0 0 []] w fun e w'=>e=.returned (valV 2 false 0 0 [])/\Ext w w':=by
 obtain ⟨R,hR⟩:=nm (valV 2 false 0 0 []);have HR:Hid (valV 2 false 0 0 []=R):=hR;rw [hR];clear hR;obtain ⟨wa,wb,ha,hb,sa,_,B1,B2,X⟩:=mkB2 w [iQ 0,.bool false,iQ 0,iQ 0,sV []] [iQ 0,.bool false,iQ 0,iQ 0,sV []] 26 26;obtain ⟨a0,a1,a2,a3,a4⟩:=Vec.five B1;go_enter Tryz.func55,Tryz.ntmps55;go_wp2_with fail;clear ha hb sa a0 a1 a2 a3 a4;refine (zD6 0 false 0 0 [] wb (by decide) (by decide) (by decide) (hT.l X) (hE.l X)).mono ?_;rintro e w1 ⟨rfl,e1⟩;rw [show zA4 0 false 0 0 []=true by decide];have C1:=B1.l e1;have C2:=B2.l e1;have X1:=xt X e1;obtain ⟨a0,a1,a2,a3,a4⟩:=Vec.five C1;go_wp2_with fail;clear a0 a1 a2 a3 a4;refine (zIW [] _).mono ?_;rintro e w2 ⟨rfl,e2⟩;obtain ⟨wy,hy,FX,⟨b0,b1,b2,b3,b4⟩,⟨fb0,fb1,fb2,fb3,fb4⟩,fd0,fd1,fd2,fd3,fd4⟩:=fin5 (C2.l e2) (xt X1 e2) (by omega) (2) (false) (0) (0) ([]);go_wp2_with fail;exact bodyPost_ret (v:=valV 2 false 0 0 []) (by simp [results,Tryz.results55,go_sem,fd0,fd1,fd2,fd3,fd4]) rfl ⟨congrArg Ending.returned HR.out,FX⟩
theorem zXI (w:World) (hT:Tens w) (hE:zAH w) :
  Calls Tryz.prog 90 #[valV 0 false 0 0 []] w fun e w'=>e=.returned (valV 3 false 0 0 zAA)/\Ext w w':=by
 obtain ⟨R,hR⟩:=nm (valV 3 false 0 0 zAA);have HR:Hid (valV 3 false 0 0 zAA=R):=hR;rw [hR];clear hR;obtain ⟨wa,wb,ha,hb,sa,_,B1,B2,X⟩:=mkB2 w [iQ 0,.bool false,iQ 0,iQ 0,sV []] [iQ 0,.bool false,iQ 0,iQ 0,sV []] 26 26;obtain ⟨a0,a1,a2,a3,a4⟩:=Vec.five B1;go_enter Tryz.func90,Tryz.ntmps90;go_wp2_with fail;clear ha hb sa a0 a1 a2 a3 a4;refine (zD6 0 false 0 0 [] wb (by decide) (by decide) (by decide) (hT.l X) (hE.l X)).mono ?_;rintro e w1 ⟨rfl,e1⟩;rw [show zA4 0 false 0 0 []=true by decide];have C1:=B1.l e1;have C2:=B2.l e1;have X1:=xt X e1;obtain ⟨a0,a1,a2,a3,a4⟩:=Vec.five C1;go_wp2_with fail;clear a0 a1 a2 a3 a4;refine (zE8 false _).mono ?_;rintro e w2 ⟨rfl,e2⟩;obtain ⟨wy,hy,FX,⟨b0,b1,b2,b3,b4⟩,⟨fb0,fb1,fb2,fb3,fb4⟩,fd0,fd1,fd2,fd3,fd4⟩:=fin5 (C2.l e2) (xt X1 e2) (by omega) (3) (false) (0) (0) (zAA);go_wp2_with fail;exact bodyPost_ret (v:=valV 3 false 0 0 zAA) (by simp [results,Tryz.results90,go_sem,fd0,fd1,fd2,fd3,fd4]) rfl ⟨congrArg Ending.returned HR.out,FX⟩
def zAR (k:Int) (n:Bool) (d x:Int) (t:List UInt8) (k':Int):Value:=
 if k ≠ 0 then valV k n d x t else if k'=1 then valV 1 false 0 0 [] else if k'=2 then valV 2 false 0 0 [] else if k'=3 then valV 3 false 0 0 zAA else valV k n d x t
theorem zF7 (k:Int) (n:Bool) (d x:Int) (t:List UInt8) (w:World) :
  Calls Tryz.prog 35 #[valV k n d x t] w fun e w'=>e=.returned (.bool (decide (k=4)))/\Ext w w':=by
 have X:=x1 w (.cells #[iQ k,.bool n,iQ d,iQ x,sV t] 26);by_cases h:k=4
 ·subst h;go_enter Tryz.func35,Tryz.ntmps35;go_wp2_with fail;go_ret;exact ⟨rfl,X⟩
 ·rw [show decide (k=4)=false by simpa using h];have hb:(k == 4)=false:=by simpa using h
  go_enter Tryz.func35,Tryz.ntmps35;go_wp2_with fail;go_ret;exact ⟨rfl,X⟩
theorem zQ2 (k:Int) (n:Bool) (d x:Int) (t:List UInt8) (k':Int) (n':Bool) (d' x':Int) (t':List UInt8) (w:World) (hT:Tens w) (hE:zAH w) (hg:zA4 k n d x t=true) :
  Calls Tryz.prog 36 #[valV k n d x t,valV k' n' d' x' t'] w fun e w'=>e=.returned (zAR k n d x t k')/\Ext w w':=by
 obtain ⟨R,hR⟩:=nm (zAR k n d x t k');have HR0:Hid (zAR k n d x t k'=R):=hR;rw [hR];clear hR;have X1:=x1 w (.cells #[iQ k,.bool n,iQ d,iQ x,sV t] 26);have B1:=zA5 w (valL k n d x t) 26;obtain ⟨wa,ha⟩:=nm (w.alloc (.cells #[iQ k,.bool n,iQ d,iQ x,sV t] 26));have X2:=x1 wa (.cells #[iQ k',.bool n',iQ d',iQ x',sV t'] 26);have B2:=zA5 wa (valL k' n' d' x' t') 26;obtain ⟨wb,hb⟩:=nm (wa.alloc (.cells #[iQ k',.bool n',iQ d',iQ x',sV t'] 26));have sa:wa.heap.size=w.heap.size+1:=by rw [<- ha,World.size_alloc]
 have sb:wb.heap.size=w.heap.size+1+1:=by rw [<- hb,World.size_alloc,sa]
 change Vec (w.alloc (.cells #[iQ k,.bool n,iQ d,iQ x,sV t] 26)) _ _ at B1;change Vec (wa.alloc (.cells #[iQ k',.bool n',iQ d',iQ x',sV t'] 26)) _ _ at B2;rw [ha] at X1 B1;rw [hb] at X2 B2;rw [sa] at B2;have B1:=B1.l X2;have X:=xt X1 X2;have X3:=x1 wb (.cells #[iQ 0,.bool false,iQ 0,iQ 0,sV []] 26);have B3:=zA5 wb (valL 0 false 0 0 []) 26;obtain ⟨wc,hc⟩:=nm (wb.alloc (.cells #[iQ 0,.bool false,iQ 0,iQ 0,sV []] 26));change Vec (wb.alloc (.cells #[iQ 0,.bool false,iQ 0,iQ 0,sV []] 26)) _ _ at B3;rw [hc] at X3 B3;rw [sb] at B3;have B1:=B1.l X3;have B2:=B2.l X3;have X:=xt X X3;clear X1 X2 X3;obtain ⟨a0,a1,a2,a3,a4⟩:=Vec.five B1;obtain ⟨c0,c1,c2,c3,c4⟩:=Vec.five B2;go_enter Tryz.func36,Tryz.ntmps36;by_cases h0:k=0
 ·subst h0;obtain ⟨rfl,rfl,rfl⟩:=zC0 hg (by decide);obtain rfl:=zCL hg;have T1:=hT.l X;have E1:=hE.l X;clear hg hT hE;by_cases h1:k'=1
  ·subst h1;have HR:Hid (valV 1 false 0 0 []=R):=by show _=_;rw [<- HR0.out];simp [zAR]
   go_wp2_with fail;clear ha hb hc sa sb a0 a1 a2 a3 a4 c0 c1 c2 c3 c4;refine (numE wc T1 E1).mono ?_;rintro e w2 ⟨rfl,e2⟩;obtain ⟨wy,hy,FX,⟨b0,b1,b2,b3,b4⟩,⟨fb0,fb1,fb2,fb3,fb4⟩,fd0,fd1,fd2,fd3,fd4⟩:=fin5 (B3.l e2) (xt X e2) (by omega) (1) (false) (0) (0) ([]);go_wp2_with fail;exact bodyPost_ret (v:=valV 1 false 0 0 []) (by simp [results,Tryz.results36,go_sem,fd0,fd1,fd2,fd3,fd4]) rfl ⟨congrArg Ending.returned HR.out,FX⟩
  ·by_cases h2:k'=2
   ·subst h2;have HR:Hid (valV 2 false 0 0 []=R):=(by show _=_;rw [<- HR0.out];simp [zAR]);go_wp2_with fail;clear ha hb hc sa sb a0 a1 a2 a3 a4 c0 c1 c2 c3 c4;refine (zWZ wc T1 E1).mono ?_;rintro e w2 ⟨rfl,e2⟩;obtain ⟨wy,hy,FX,⟨b0,b1,b2,b3,b4⟩,⟨fb0,fb1,fb2,fb3,fb4⟩,fd0,fd1,fd2,fd3,fd4⟩:=fin5 (B3.l e2) (xt X e2) (by omega) (2) (false) (0) (0) ([]);go_wp2_with fail;exact bodyPost_ret (v:=valV 2 false 0 0 []) (by simp [results,Tryz.results36,go_sem,fd0,fd1,fd2,fd3,fd4]) rfl ⟨congrArg Ending.returned HR.out,FX⟩
   ·by_cases h3:k'=3
    ·subst h3;have HR:Hid (valV 3 false 0 0 zAA=R):=(by show _=_;rw [<- HR0.out];simp [zAR]);go_wp2_with fail;clear ha hb hc sa sb a0 a1 a2 a3 a4 c0 c1 c2 c3 c4;refine (zXI wc T1 E1).mono ?_;rintro e w2 ⟨rfl,e2⟩;obtain ⟨wy,hy,FX,⟨b0,b1,b2,b3,b4⟩,⟨fb0,fb1,fb2,fb3,fb4⟩,fd0,fd1,fd2,fd3,fd4⟩:=fin5 (B3.l e2) (xt X e2) (by omega) (3) (false) (0) (0) (zAA);go_wp2_with fail;exact bodyPost_ret (v:=valV 3 false 0 0 zAA) (by simp [results,Tryz.results36,go_sem,fd0,fd1,fd2,fd3,fd4]) rfl ⟨congrArg Ending.returned HR.out,FX⟩
    ·have HR:Hid (valV 0 false 0 0 []=R):=(by show _=_;rw [<- HR0.out];simp [zAR,h1,h2,h3]);obtain ⟨wy,hy,FX,⟨b0,b1,b2,b3,b4⟩,⟨fb0,fb1,fb2,fb3,fb4⟩,fd0,fd1,fd2,fd3,fd4⟩:=fin5 (B3) (X) (by omega) (0) (false) (0) (0) ([]);go_wp2_with fail;exact bodyPost_ret (v:=valV 0 false 0 0 []) (by simp [results,Tryz.results36,go_sem,fd0,fd1,fd2,fd3,fd4]) rfl ⟨congrArg Ending.returned HR.out,FX⟩
 ·have HR:Hid (valV k n d x t=R):=by show _=_;rw [<- HR0.out];simp [zAR,h0]
  obtain ⟨wy,hy,FX,⟨b0,b1,b2,b3,b4⟩,⟨fb0,fb1,fb2,fb3,fb4⟩,fd0,fd1,fd2,fd3,fd4⟩:=fin5 (B3) (X) (by omega) (k) (n) (d) (x) (t);go_wp2_with fail;exact bodyPost_ret (v:=valV k n d x t) (by simp [results,Tryz.results36,go_sem,fd0,fd1,fd2,fd3,fd4]) rfl ⟨congrArg Ending.returned HR.out,FX⟩
theorem zW3 (k:Int) (n:Bool) (d x:Int) (t:List UInt8) (k':Int) (n':Bool) (d' x':Int) (t':List UInt8) (w:World)  :
  Calls Tryz.prog 94 #[valV k n d x t,valV k' n' d' x' t'] w fun e w'=>e=.returned (zAR k n d x t k')/\Ext w w':=by
 obtain ⟨R,hR⟩:=nm (zAR k n d x t k');have HR0:Hid (zAR k n d x t k'=R):=hR;rw [hR];clear hR;have X1:=x1 w (.cells #[iQ k,.bool n,iQ d,iQ x,sV t] 26);have B1:=zA5 w (valL k n d x t) 26;obtain ⟨wa,ha⟩:=nm (w.alloc (.cells #[iQ k,.bool n,iQ d,iQ x,sV t] 26));have X2:=x1 wa (.cells #[iQ k',.bool n',iQ d',iQ x',sV t'] 26);have B2:=zA5 wa (valL k' n' d' x' t') 26;obtain ⟨wb,hb⟩:=nm (wa.alloc (.cells #[iQ k',.bool n',iQ d',iQ x',sV t'] 26));have sa:wa.heap.size=w.heap.size+1:=by rw [<- ha,World.size_alloc]
 have sb:wb.heap.size=w.heap.size+1+1:=by rw [<- hb,World.size_alloc,sa]
 change Vec (w.alloc (.cells #[iQ k,.bool n,iQ d,iQ x,sV t] 26)) _ _ at B1;change Vec (wa.alloc (.cells #[iQ k',.bool n',iQ d',iQ x',sV t'] 26)) _ _ at B2;rw [ha] at X1 B1;rw [hb] at X2 B2;rw [sa] at B2;have B1:=B1.l X2;have X:=xt X1 X2;have X3:=x1 wb (.cells #[iQ 0,.bool false,iQ 0,iQ 0,sV []] 26);have B3:=zA5 wb (valL 0 false 0 0 []) 26;obtain ⟨wc,hc⟩:=nm (wb.alloc (.cells #[iQ 0,.bool false,iQ 0,iQ 0,sV []] 26));change Vec (wb.alloc (.cells #[iQ 0,.bool false,iQ 0,iQ 0,sV []] 26)) _ _ at B3;rw [hc] at X3 B3;rw [sb] at B3;have B1:=B1.l X3;have B2:=B2.l X3;have X:=xt X X3;clear X1 X2 X3;obtain ⟨a0,a1,a2,a3,a4⟩:=Vec.five B1;obtain ⟨c0,c1,c2,c3,c4⟩:=Vec.five B2;go_enter Tryz.func94,Tryz.ntmps94;by_cases h0:k=0
 ·subst h0;by_cases h1:k'=1
  ·subst h1;have HR:Hid (valV 1 false 0 0 []=R):=by show _=_;rw [<- HR0.out];simp [zAR]
   go_wp2_with fail;clear ha hb hc sa sb a0 a1 a2 a3 a4 c0 c1 c2 c3 c4;refine (zEV false 0 0 wc).mono ?_;rintro e w2 ⟨rfl,e2⟩;obtain ⟨wy,hy,FX,⟨b0,b1,b2,b3,b4⟩,⟨fb0,fb1,fb2,fb3,fb4⟩,fd0,fd1,fd2,fd3,fd4⟩:=fin5 (B3.l e2) (xt X e2) (by omega) (1) (false) (0) (0) ([]);go_wp2_with fail;exact bodyPost_ret (v:=valV 1 false 0 0 []) (by simp [results,Tryz.results94,go_sem,fd0,fd1,fd2,fd3,fd4]) rfl ⟨congrArg Ending.returned HR.out,FX⟩
  ·by_cases h2:k'=2
   ·subst h2;have HR:Hid (valV 2 false 0 0 []=R):=(by show _=_;rw [<- HR0.out];simp [zAR]);go_wp2_with fail;clear ha hb hc sa sb a0 a1 a2 a3 a4 c0 c1 c2 c3 c4;refine (zG0 [] wc).mono ?_;rintro e w2 ⟨rfl,e2⟩;obtain ⟨wy,hy,FX,⟨b0,b1,b2,b3,b4⟩,⟨fb0,fb1,fb2,fb3,fb4⟩,fd0,fd1,fd2,fd3,fd4⟩:=fin5 (B3.l e2) (xt X e2) (by omega) (2) (false) (0) (0) ([]);go_wp2_with fail;exact bodyPost_ret (v:=valV 2 false 0 0 []) (by simp [results,Tryz.results94,go_sem,fd0,fd1,fd2,fd3,fd4]) rfl ⟨congrArg Ending.returned HR.out,FX⟩
   ·by_cases h3:k'=3
    ·subst h3;have HR:Hid (valV 3 false 0 0 zAA=R):=(by show _=_;rw [<- HR0.out];simp [zAR]);go_wp2_with fail;clear ha hb hc sa sb a0 a1 a2 a3 a4 c0 c1 c2 c3 c4;refine (zFH false wc).mono ?_;rintro e w2 ⟨rfl,e2⟩;obtain ⟨wy,hy,FX,⟨b0,b1,b2,b3,b4⟩,⟨fb0,fb1,fb2,fb3,fb4⟩,fd0,fd1,fd2,fd3,fd4⟩:=fin5 (B3.l e2) (xt X e2) (by omega) (3) (false) (0) (0) (zAA);go_wp2_with fail;exact bodyPost_ret (v:=valV 3 false 0 0 zAA) (by simp [results,Tryz.results94,go_sem,fd0,fd1,fd2,fd3,fd4]) rfl ⟨congrArg Ending.returned HR.out,FX⟩
    ·have HR:Hid (valV 0 n d x t=R):=(by show _=_;rw [<- HR0.out];simp [zAR,h1,h2,h3]);obtain ⟨wy,hy,FX,⟨b0,b1,b2,b3,b4⟩,⟨fb0,fb1,fb2,fb3,fb4⟩,fd0,fd1,fd2,fd3,fd4⟩:=fin5 (B3) (X) (by omega) (0) (n) (d) (x) (t);go_wp2_with fail;exact bodyPost_ret (v:=valV 0 n d x t) (by simp [results,Tryz.results94,go_sem,fd0,fd1,fd2,fd3,fd4]) rfl ⟨congrArg Ending.returned HR.out,FX⟩
 ·have HR:Hid (valV k n d x t=R):=by show _=_;rw [<- HR0.out];simp [zAR,h0]
  obtain ⟨wy,hy,FX,⟨b0,b1,b2,b3,b4⟩,⟨fb0,fb1,fb2,fb3,fb4⟩,fd0,fd1,fd2,fd3,fd4⟩:=fin5 (B3) (X) (by omega) (k) (n) (d) (x) (t);go_wp2_with fail;exact bodyPost_ret (v:=valV k n d x t) (by simp [results,Tryz.results94,go_sem,fd0,fd1,fd2,fd3,fd4]) rfl ⟨congrArg Ending.returned HR.out,FX⟩
end Go.Proofs.YtkadkfmidlhedaaGreatDoor

