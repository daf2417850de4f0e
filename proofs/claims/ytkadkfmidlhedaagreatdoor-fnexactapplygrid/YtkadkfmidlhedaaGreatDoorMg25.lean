/-
  Several texts in one: V6k, Rf, Ri, Rg, V9r.
-/
import Derived.Test.YtkadkfmidlhedaaGreatDoorMg4
import Derived.Test.YtkadkfmidlhedaaGreatDoorMg7
import Derived.Test.YtkadkfmidlhedaaGreatDoorReN
import Derived.Test.YtkadkfmidlhedaaGreatDoorMg0
import Derived.Orders
import Derived.Test.YtkadkfmidlhedaaGreatDoorMg5
namespace Go.Proofs.YtkadkfmidlhedaaGreatDoor
open Go.RowKit
def numR (r:DR):Value:=if r.ok then valV 1 r.neg r.d r.e [] else errW
def numOf (k:Int) (n:Bool) (d x:Int) (t:List UInt8):Value:=
 if k=0 then valV 1 false 0 0 [] else if k=2 then numR (readR (trimB t)) else
 if k=3 then (if t == trueT then valV 1 false 1 0 [] else valV 1 false 0 0 []) else valV k n d x t
def numOfV (k:Int) (n:Bool) (d x:Int) (t:List UInt8):Value:=if goodV k n d x t then numOf k n d x t else errW
theorem numR_val (r:DR):∃ k2 n2 d2 x2 t2,numR r=valV k2 n2 d2 x2 t2:=by
 unfold numR
 split
 ·exact ⟨_,_,_,_,_,rfl⟩
 ·exact ⟨_,_,_,_,_,rfl⟩
theorem numOf_val (k:Int) (n:Bool) (d x:Int) (t:List UInt8):∃ k2 n2 d2 x2 t2,numOf k n d x t=valV k2 n2 d2 x2 t2:=by
 unfold numOf
 split
 ·exact ⟨_,_,_,_,_,rfl⟩
 ·split
  ·exact numR_val _
  ·split
   ·split
    ·exact ⟨_,_,_,_,_,rfl⟩
    ·exact ⟨_,_,_,_,_,rfl⟩
   ·exact ⟨_,_,_,_,_,rfl⟩
theorem trimI (l:List UInt8) (w:World) (hl:l.length≤2000000) :
  Calls Tryz.prog 143 #[sV l,.string ⟨#[32]⟩] w fun e w'=>e=.returned (sV (trimB l))∧Ext w w':=by
 have h:=Any.strings_Trim_laid layTrim (by kernel_rfl) (bs l) ⟨#[32]⟩ w (by rw [bs_size];omega) (by decide) (ascii_of_all (by decide));rw [fTrimD] at h;rw [← trimS_blank];exact h
set_option maxHeartbeats 1000000 in
theorem oneS (w:World):Calls Tryz.prog 162 #[] w fun e w'=>e=.returned (decV false 1 0)∧Ext w w':=by
 go_enter Tryz.func162,Tryz.ntmps162
 go_wp2
 exact bodyPost_ret (v:=decV false 1 0) (by simp [results,Tryz.results162,go_sem]) rfl ⟨rfl,x1 _ _⟩
set_option maxRecDepth 8000 in
set_option maxHeartbeats 2000000 in
theorem readVI (k:Int) (n:Bool) (d x:Int) (t:List UInt8) (w:World) (hl:t.length≤1048576) (hT:Tens w) :
  Calls Tryz.prog 129 #[valV k n d x t] w fun e w'=>e=.returned (numR (readR (trimB t)))∧Ext w w':=by
 obtain ⟨R,hR⟩:∃ R,numR (readR (trimB t))=R:=⟨_,rfl⟩;have HRN:Hid (numR (readR (trimB t))=R):=hR;rw [hR];clear hR;obtain ⟨wa,wb,ha,hb,sa,_,B1,B2,X⟩:=mkB2 w [.int .i64 k,.bool n,.int .i64 d,.int .i64 x,sV t] [.int .i64 0,.bool false,.int .i64 0,.int .i64 0,sV []] 26 26;obtain ⟨a0,a1,a2,a3,a4⟩:=Vec.five B1;go_enter Tryz.func129,Tryz.ntmps129;go_wp2_with fail;clear ha hb sa a0 a1 a2 a3 a4;refine (trimI t wb (by omega)).mono ?_;rintro e w1 ⟨rfl,e1⟩;have hlt:=trimB_le t;obtain ⟨u,hu⟩:∃ u,trimB t=u:=⟨_,rfl⟩;rw [hu] at HRN hlt ⊢;clear hu;go_wp2_with fail;refine (readI u w1 (by omega) (hT.later (xt X e1))).mono ?_;rintro e w2 ⟨rfl,e2⟩;have C2:=(B2.later e1).later e2;have X2:=xt (xt X e1) e2;clear B1 B2 e1 e2 hT hlt hl;obtain ⟨ok,rn,rd,re,hq⟩:∃ ok rn rd re,readR u=(⟨ok,rn,rd,re⟩:DR):=⟨_,_,_,_,rfl⟩;have HRR:Hid (numR ⟨ok,rn,rd,re⟩=R):=by show _=_;rw [← hq];exact HRN.out
 rw [hq];clear hq HRN;have Y0:=x1 w2 (.cells #[.bool ok,.bool rn,.int .i64 rd,.int .i64 re] 79);obtain ⟨wz,hz⟩:∃ wz,w2.alloc (.cells #[.bool ok,.bool rn,.int .i64 rd,.int .i64 re] 79)=wz:=⟨_,rfl⟩;have Br:=vec_made w2 [.bool ok,.bool rn,.int .i64 rd,.int .i64 re] 79;change Vec (w2.alloc (.cells #[.bool ok,.bool rn,.int .i64 rd,.int .i64 re] 79)) _ _ at Br;rw [hz] at Y0 Br;have r0:=(Br 0 _ rfl).1;have r1:=(Br 1 _ rfl).1;have r2:=(Br 2 _ rfl).1;have r3:=(Br 3 _ rfl).1;have D2:=(C2).later Y0;have XD:=xt (X2) Y0;cases ok
 ·have HR:Hid (errW=R):=HRR;go_wp2_with fail;clear r0 r1 r2 r3 hz Br;refine (errVI errT wz).mono ?_;rintro e w8 ⟨rfl,e8⟩;obtain ⟨wy,hy,FX,⟨b0,b1,b2,b3,b4⟩,⟨fb0,fb1,fb2,fb3,fb4⟩,fd0,fd1,fd2,fd3,fd4⟩:=fin5 (D2.later e8) (xt XD e8) (by omega) (4) (false) (0) (0) (errT);go_wp2_with fail;exact bodyPost_ret (v:=errW) (by simp [results,Tryz.results129,go_sem,fd0,fd1,fd2,fd3,fd4]) rfl ⟨congrArg Ending.returned HR.out,FX⟩
 ·have HR:Hid (valV 1 rn rd re []=R):=HRR;go_wp2_with fail;clear r0 r1 r2 r3 hz Br;refine (numVI rn rd re wz).mono ?_;rintro e w8 ⟨rfl,e8⟩;obtain ⟨wy,hy,FX,⟨b0,b1,b2,b3,b4⟩,⟨fb0,fb1,fb2,fb3,fb4⟩,fd0,fd1,fd2,fd3,fd4⟩:=fin5 (D2.later e8) (xt XD e8) (by omega) (1) (rn) (rd) (re) ([]);go_wp2_with fail;exact bodyPost_ret (v:=valV 1 rn rd re []) (by simp [results,Tryz.results129,go_sem,fd0,fd1,fd2,fd3,fd4]) rfl ⟨congrArg Ending.returned HR.out,FX⟩
set_option maxRecDepth 8000 in
set_option maxHeartbeats 2000000 in
theorem numOfI (k:Int) (n:Bool) (d x:Int) (t:List UInt8) (w:World) (hl:t.length≤1048576) (d1 : -9223372036854775808≤d) (d2:d≤9223372036854775807) (hT:Tens w) (hE:ErrTab w) :
  Calls Tryz.prog 89 #[valV k n d x t] w fun e w'=>e=.returned (numOfV k n d x t)∧Ext w w':=by
 obtain ⟨R,hR⟩:∃ R,numOfV k n d x t=R:=⟨_,rfl⟩;have HR0:Hid (numOfV k n d x t=R):=hR;rw [hR];clear hR;obtain ⟨wa,wb,ha,hb,sa,_,B1,B2,X⟩:=mkB2 w [.int .i64 k,.bool n,.int .i64 d,.int .i64 x,sV t] [.int .i64 0,.bool false,.int .i64 0,.int .i64 0,sV []] 26 26;obtain ⟨a0,a1,a2,a3,a4⟩:=Vec.five B1;go_enter Tryz.func89,Tryz.ntmps89;go_wp2_with fail;clear ha hb sa a0 a1 a2 a3 a4;refine (goodVI k n d x t wb (by omega) d1 d2 (hT.later X) (hE.later X)).mono ?_;rintro e w1 ⟨rfl,e1⟩;have C1:=B1.later e1;have C2:=B2.later e1;have X1:=xt X e1;have T1:=hT.later X1;clear B1 B2 hE hT d1 d2;obtain ⟨g,hg⟩:∃ g,goodV k n d x t=g:=⟨_,rfl⟩;rw [hg];cases g
 ·have HR:Hid (errW=R):=by show _=_;rw [← HR0.out];simp [numOfV,hg]
  clear hg T1;go_wp2_with fail;refine (errVI errT _).mono ?_;rintro e w2 ⟨rfl,e2⟩;obtain ⟨wy,hy,FX,⟨b0,b1,b2,b3,b4⟩,⟨fb0,fb1,fb2,fb3,fb4⟩,fd0,fd1,fd2,fd3,fd4⟩:=fin5 (C2.later e2) (xt X1 e2) (by omega) (4) (false) (0) (0) (errT);go_wp2_with fail;exact bodyPost_ret (v:=errW) (by simp [results,Tryz.results89,go_sem,fd0,fd1,fd2,fd3,fd4]) rfl ⟨congrArg Ending.returned HR.out,FX⟩
 ·have HR1:Hid (numOf k n d x t=R):=by show _=_;rw [← HR0.out];simp [numOfV,hg]
  obtain ⟨a0,a1,a2,a3,a4⟩:=Vec.five C1;by_cases h0:k=0
  ·subst h0;have HR:Hid (valV 1 false 0 0 []=R):=by show _=_;rw [← HR1.out];simp [numOf]
   clear hg T1;go_wp2_with fail;clear a0 a1 a2 a3 a4;refine (numVI false 0 0 _).mono ?_;rintro e w2 ⟨rfl,e2⟩;obtain ⟨wy,hy,FX,⟨b0,b1,b2,b3,b4⟩,⟨fb0,fb1,fb2,fb3,fb4⟩,fd0,fd1,fd2,fd3,fd4⟩:=fin5 (C2.later e2) (xt X1 e2) (by omega) (1) (false) (0) (0) ([]);go_wp2_with fail;exact bodyPost_ret (v:=valV 1 false 0 0 []) (by simp [results,Tryz.results89,go_sem,fd0,fd1,fd2,fd3,fd4]) rfl ⟨congrArg Ending.returned HR.out,FX⟩
  ·by_cases h2:k=2
   ·subst h2;clear hg;have HR2:Hid (numR (readR (trimB t))=R):=(by show _=_;rw [← HR1.out];simp [numOf]);go_wp2_with fail;clear a0 a1 a2 a3 a4;refine (readVI 2 n d x t _ hl T1).mono ?_;rintro e w2 ⟨rfl,e2⟩;obtain ⟨k2,n2,d2,x2,t2,hv⟩:=numR_val (readR (trimB t));have HR:Hid (valV k2 n2 d2 x2 t2=R):=(by show _=_;rw [← HR2.out,hv]);rw [hv];clear hv T1;obtain ⟨wy,hy,FX,⟨b0,b1,b2,b3,b4⟩,⟨fb0,fb1,fb2,fb3,fb4⟩,fd0,fd1,fd2,fd3,fd4⟩:=fin5 (C2.later e2) (xt X1 e2) (by omega) (k2) (n2) (d2) (x2) (t2);go_wp2_with fail;exact bodyPost_ret (v:=valV k2 n2 d2 x2 t2) (by simp [results,Tryz.results89,go_sem,fd0,fd1,fd2,fd3,fd4]) rfl ⟨congrArg Ending.returned HR.out,FX⟩
   ·by_cases h3:k=3
    ·subst h3;obtain ⟨rfl,rfl,rfl⟩:=goodV_zero hg (by decide);clear hg T1 h0 h2;obtain ⟨p,hp⟩:∃ p,(t == trueT)=p:=⟨_,rfl⟩;have HR2:Hid ((if p then valV 1 false 1 0 [] else valV 1 false 0 0 [])=R):=(by show _=_;rw [← HR1.out];simp [numOf,hp]);cases p
     ·have HR:Hid (valV 1 false 0 0 []=R):=(by show _=_;rw [← HR2.out];rfl);go_wp2_with fail;go_region_with (go_at_call 50;refine (boolVI true _).mono ?_;rintro e w2 ⟨rfl,e2⟩;have C3:=C1.later (xt (xd (xr _)) e2);have c0:=(C3 0 _ rfl).1;have c1:=(C3 1 _ rfl).1;have c2:=(C3 2 _ rfl).1;have c3:=(C3 3 _ rfl).1;have c4:=(C3 4 _ rfl).1)
      all_goals
       go_wp2_with fail;clear hp;refine (numVI false 0 0 _).mono ?_;rintro e w3 ⟨rfl,e3⟩;obtain ⟨wy,hy,FX,⟨b0,b1,b2,b3,b4⟩,⟨fb0,fb1,fb2,fb3,fb4⟩,fd0,fd1,fd2,fd3,fd4⟩:=fin5 ((C2.later (xt (xd (xr _)) e2)).later e3) (xt (xt X1 (xt (xd (xr _)) e2)) e3) (by omega) (1) (false) (0) (0) ([]);go_wp2_with fail;exact bodyPost_ret (v:=valV 1 false 0 0 []) (by simp [results,Tryz.results89,go_sem,fd0,fd1,fd2,fd3,fd4]) rfl ⟨congrArg Ending.returned HR.out,FX⟩
     ·have HR:Hid (valV 1 false 1 0 []=R):=(by show _=_;rw [← HR2.out];rfl);go_wp2_with fail;go_region_with (go_at_call 50;refine (boolVI true _).mono ?_;rintro e w2 ⟨rfl,e2⟩;have C3:=C1.later (xt (xd (xr _)) e2);have c0:=(C3 0 _ rfl).1;have c1:=(C3 1 _ rfl).1;have c2:=(C3 2 _ rfl).1;have c3:=(C3 3 _ rfl).1;have c4:=(C3 4 _ rfl).1)
      all_goals
       go_wp2_with fail;clear hp;refine (numVI false 1 0 _).mono ?_;rintro e w3 ⟨rfl,e3⟩;obtain ⟨wy,hy,FX,⟨b0,b1,b2,b3,b4⟩,⟨fb0,fb1,fb2,fb3,fb4⟩,fd0,fd1,fd2,fd3,fd4⟩:=fin5 ((C2.later (xt (xd (xr _)) e2)).later e3) (xt (xt X1 (xt (xd (xr _)) e2)) e3) (by omega) (1) (false) (1) (0) ([]);go_wp2_with fail;exact bodyPost_ret (v:=valV 1 false 1 0 []) (by simp [results,Tryz.results89,go_sem,fd0,fd1,fd2,fd3,fd4]) rfl ⟨congrArg Ending.returned HR.out,FX⟩
    ·have HR:Hid (valV k n d x t=R):=(by show _=_;rw [← HR1.out];simp [numOf,h0,h2,h3]);obtain ⟨wy,hy,FX,⟨b0,b1,b2,b3,b4⟩,⟨fb0,fb1,fb2,fb3,fb4⟩,fd0,fd1,fd2,fd3,fd4⟩:=fin5 (C2) (X1) (by omega) (k) (n) (d) (x) (t);go_wp2_with fail;exact bodyPost_ret (v:=valV k n d x t) (by simp [results,Tryz.results89,go_sem,fd0,fd1,fd2,fd3,fd4]) rfl ⟨congrArg Ending.returned HR.out,FX⟩
set_option maxRecDepth 8000 in
set_option maxHeartbeats 2000000 in
theorem asNumS (k:Int) (n:Bool) (d x:Int) (t:List UInt8) (w:World) (hl:t.length≤1048576) :
  Calls Tryz.prog 120 #[valV k n d x t] w fun e w'=>e=.returned (numOf k n d x t)∧Ext w w':=by
 obtain ⟨R,hR⟩:∃ R,numOf k n d x t=R:=⟨_,rfl⟩;have HR0:Hid (numOf k n d x t=R):=hR;rw [hR];clear hR;obtain ⟨wa,wb,ha,hb,sa,_,B1,B2,X⟩:=mkB2 w [.int .i64 k,.bool n,.int .i64 d,.int .i64 x,sV t] [.int .i64 0,.bool false,.int .i64 0,.int .i64 0,sV []] 26 26;obtain ⟨a0,a1,a2,a3,a4⟩:=Vec.five B1;go_enter Tryz.func120,Tryz.ntmps120;by_cases h0:k=0
 ·subst h0;have HR:Hid (valV 1 false 0 0 []=R):=by show _=_;rw [← HR0.out];simp [numOf]
  go_wp2_with fail;clear ha hb sa a0 a1 a2 a3 a4;refine (numVS false 0 0 wb).mono ?_;rintro e w2 ⟨rfl,e2⟩;obtain ⟨wy,hy,FX,⟨b0,b1,b2,b3,b4⟩,⟨fb0,fb1,fb2,fb3,fb4⟩,fd0,fd1,fd2,fd3,fd4⟩:=fin5 (B2.later e2) (xt X e2) (by omega) (1) (false) (0) (0) ([]);go_wp2_with fail;exact bodyPost_ret (v:=valV 1 false 0 0 []) (by simp [results,Tryz.results120,go_sem,fd0,fd1,fd2,fd3,fd4]) rfl ⟨congrArg Ending.returned HR.out,FX⟩
 ·by_cases h3:k=3
  ·subst h3;obtain ⟨p,hp⟩:∃ p,(t == [84,82,85,69])=p:=⟨_,rfl⟩;have HR2:Hid ((if p then valV 1 false 1 0 [] else valV 1 false 0 0 [])=R):=by show _=_;rw [← HR0.out];simp [numOf,hp]
   cases p
   ·have HR:Hid (valV 1 false 0 0 []=R):=(by show _=_;rw [← HR2.out];rfl);go_wp2_with fail;clear ha hb sa a0 a1 a2 a3 a4 hp;refine (numVS false 0 0 wb).mono ?_;rintro e w2 ⟨rfl,e2⟩;obtain ⟨wy,hy,FX,⟨b0,b1,b2,b3,b4⟩,⟨fb0,fb1,fb2,fb3,fb4⟩,fd0,fd1,fd2,fd3,fd4⟩:=fin5 (B2.later e2) (xt X e2) (by omega) (1) (false) (0) (0) ([]);go_wp2_with fail;exact bodyPost_ret (v:=valV 1 false 0 0 []) (by simp [results,Tryz.results120,go_sem,fd0,fd1,fd2,fd3,fd4]) rfl ⟨congrArg Ending.returned HR.out,FX⟩
   ·have HR:Hid (valV 1 false 1 0 []=R):=(by show _=_;rw [← HR2.out];rfl);go_wp2_with fail;clear ha hb sa a0 a1 a2 a3 a4 hp;refine (oneS wb).mono ?_;rintro e w2 ⟨rfl,e2⟩;go_wp2_with fail;refine (numVS false 1 0 w2).mono ?_;rintro e w3 ⟨rfl,e3⟩;obtain ⟨wy,hy,FX,⟨b0,b1,b2,b3,b4⟩,⟨fb0,fb1,fb2,fb3,fb4⟩,fd0,fd1,fd2,fd3,fd4⟩:=fin5 ((B2.later e2).later e3) (xt (xt X e2) e3) (by omega) (1) (false) (1) (0) ([]);go_wp2_with fail;exact bodyPost_ret (v:=valV 1 false 1 0 []) (by simp [results,Tryz.results120,go_sem,fd0,fd1,fd2,fd3,fd4]) rfl ⟨congrArg Ending.returned HR.out,FX⟩
  ·by_cases h2:k=2
   ·subst h2;have HRN:Hid (numR (readR (trimB t))=R):=(by show _=_;rw [← HR0.out];simp [numOf]);go_wp2_with fail;clear ha hb sa a0 a1 a2 a3 a4;refine (trimSp t wb (by omega)).mono ?_;rintro e w9 ⟨rfl,rfl⟩;have hlt:=trimB_le t;obtain ⟨u,hu⟩:∃ u,trimB t=u:=⟨_,rfl⟩;rw [hu] at HRN hlt ⊢;clear hu;go_wp2_with fail;refine (readS u w9 (by omega)).mono ?_;rintro e w2 ⟨rfl,e2⟩;have C2:=B2.later e2;have X2:=xt X e2;clear B1 B2 e2 hlt hl h0 h3 HR0;obtain ⟨ok,rn,rd,re,hq⟩:∃ ok rn rd re,readR u=(⟨ok,rn,rd,re⟩:DR):=⟨_,_,_,_,rfl⟩;have HRR:Hid (numR ⟨ok,rn,rd,re⟩=R):=(by show _=_;rw [← hq];exact HRN.out);rw [hq];clear hq HRN;have Y0:=x1 w2 (.cells #[.bool ok,.bool rn,.int .i64 rd,.int .i64 re] 79);obtain ⟨wz,hz⟩:∃ wz,w2.alloc (.cells #[.bool ok,.bool rn,.int .i64 rd,.int .i64 re] 79)=wz:=⟨_,rfl⟩;have Br:=vec_made w2 [.bool ok,.bool rn,.int .i64 rd,.int .i64 re] 79;change Vec (w2.alloc (.cells #[.bool ok,.bool rn,.int .i64 rd,.int .i64 re] 79)) _ _ at Br;rw [hz] at Y0 Br;have r0:=(Br 0 _ rfl).1;have r1:=(Br 1 _ rfl).1;have r2:=(Br 2 _ rfl).1;have r3:=(Br 3 _ rfl).1;have D2:=(C2).later Y0;have XD:=xt (X2) Y0;cases ok
    ·have HR:Hid (errW=R):=HRR;go_wp2_with fail;clear r0 r1 r2 r3 hz Br;refine (errVS errT wz).mono ?_;rintro e w8 ⟨rfl,e8⟩;obtain ⟨wy,hy,FX,⟨b0,b1,b2,b3,b4⟩,⟨fb0,fb1,fb2,fb3,fb4⟩,fd0,fd1,fd2,fd3,fd4⟩:=fin5 (D2.later e8) (xt XD e8) (by omega) (4) (false) (0) (0) (errT);go_wp2_with fail;exact bodyPost_ret (v:=errW) (by simp [results,Tryz.results120,go_sem,fd0,fd1,fd2,fd3,fd4]) rfl ⟨congrArg Ending.returned HR.out,FX⟩
    ·have HR:Hid (valV 1 rn rd re []=R):=HRR;go_wp2_with fail;clear r0 r1 r2 r3 hz Br;refine (numVS rn rd re wz).mono ?_;rintro e w8 ⟨rfl,e8⟩;obtain ⟨wy,hy,FX,⟨b0,b1,b2,b3,b4⟩,⟨fb0,fb1,fb2,fb3,fb4⟩,fd0,fd1,fd2,fd3,fd4⟩:=fin5 (D2.later e8) (xt XD e8) (by omega) (1) (rn) (rd) (re) ([]);go_wp2_with fail;exact bodyPost_ret (v:=valV 1 rn rd re []) (by simp [results,Tryz.results120,go_sem,fd0,fd1,fd2,fd3,fd4]) rfl ⟨congrArg Ending.returned HR.out,FX⟩
   ·have HR:Hid (valV k n d x t=R):=(by show _=_;rw [← HR0.out];simp [numOf,h0,h2,h3]);obtain ⟨wy,hy,FX,⟨b0,b1,b2,b3,b4⟩,⟨fb0,fb1,fb2,fb3,fb4⟩,fd0,fd1,fd2,fd3,fd4⟩:=fin5 (B2) (X) (by omega) (k) (n) (d) (x) (t);go_wp2_with fail;exact bodyPost_ret (v:=valV k n d x t) (by simp [results,Tryz.results120,go_sem,fd0,fd1,fd2,fd3,fd4]) rfl ⟨congrArg Ending.returned HR.out,FX⟩
section
variable {P:Program} {ops:Array Oper} {Q:Exit→Act→World→Prop} {md:Region.Mode}
def rfOk (md:Region.Mode) (ops:Array Oper):Bool:=
 (List.range ops.size).all fun i =>
  match ops[i]? with
  | none=>true
  | some o=>o.guard.isNone && (o.after.all fun e=>!Region.binds md e || decide (e.on<i)) &&
    o.op.operands.all fun x=>match x with
     | .tmp d=>(List.range ops.size).all fun j=>!((ops[j]?).bind (·.dst) == some d) || o.after.any fun e=>Region.binds md e && e.on == j
     | _=>true
theorem rfOk_spec (h:rfOk md ops=true) {i:Nat} {o:Oper} (hi:ops[i]?=some o) :
  o.guard=none∧(∀ e ∈ o.after,Region.binds md e=true→e.on<i) ∧
  ∀ d,.tmp d ∈ o.op.operands→∀ j oj,ops[j]?=some oj→oj.dst=some d→∃ e ∈ o.after,Region.binds md e=true∧e.on=j:=by
 have hlt:i<ops.size:=by
  rcases Nat.lt_or_ge i ops.size with h' | h'
  ·exact h'
  ·rw [Array.getElem?_eq_none h'] at hi;cases hi
 have h1:=(List.all_eq_true.1 h) i (List.mem_range.2 hlt);rw [hi] at h1;simp only [Bool.and_eq_true] at h1;obtain ⟨⟨hg,ha⟩,hx⟩:=h1;refine ⟨by cases hgo:o.guard <;> simp_all,fun e he hb=>?_,fun d hd j oj hj hdj=>?_⟩
 ·have:=(Array.all_eq_true_iff_forall_mem.1 ha) e he;simpa [hb] using this
 ·have h2:=(Array.all_eq_true_iff_forall_mem.1 hx) _ hd;have hjlt:j<ops.size:=by
   rcases Nat.lt_or_ge j ops.size with h' | h'
   ·exact h'
   ·rw [Array.getElem?_eq_none h'] at hj;cases hj
  have h3:=(List.all_eq_true.1 h2) j (List.mem_range.2 hjlt);rw [hj] at h3;simp only [Option.bind_some,hdj,beq_self_eq_true,Bool.not_true,Bool.false_or] at h3;obtain ⟨e,he,hee⟩:∃ e ∈ o.after,(Region.binds md e && e.on == j)=true:=by
   rw [Array.any_eq_true'] at h3;exact h3
  simp only [Bool.and_eq_true,beq_iff_eq] at hee;exact ⟨e,he,hee.1,hee.2⟩
structure RS (ops:Array Oper) (md:Region.Mode) (A:Act) (listed:Array Bool) (a:Act):Prop where
 size:listed.size=ops.size
 defers:a.defers=A.defers
 tsize:a.tmps.size=A.tmps.size
 vals:∀ d,(∀ i o,ops[i]?=some o→o.dst=some d→listed.getD i false=true)→a.tmps[d]?=A.tmps[d]?
 closed:∀ i o,ops[i]?=some o→listed.getD i false=true→∀ e ∈ o.after,Region.binds md e=true→listed.getD e.on false=true
theorem put_same {A:Act} {d:Nat} {v:Value} (h:A.put (some d) v=A) (hd:d<A.tmps.size):A.tmps[d]?=some v:=by
 have h1:(A.tmps.setIfInBounds d v)=A.tmps:=congrArg Act.tmps h;rw [← h1];simp [hd]
theorem RS.put {A:Act} {listed:Array Bool} {a:Act} (h:RS ops md A listed a) {i:Nat} {o:Oper} (ho:ops[i]?=some o) (hi:i ∈ Region.ready md ops listed) {v:Value}
  (hv:A.put o.dst v=A):RS ops md A (listed.setIfInBounds i true) (a.put o.dst v):=by
 obtain ⟨hun,o',ho',hall⟩:=mem_ready.1 hi;have:o'=o:=by rw [ho] at ho';exact (Option.some.inj ho').symm
 subst this;have hback:∀ j,j ≠ i→(listed.setIfInBounds i true).getD j false=true→listed.getD j false=true:=fun j hj hh=>by
  rw [getD_set_ne false (Ne.symm hj)] at hh;exact hh
 refine ⟨by simp [h.size],?_,?_,?_,?_⟩
 ·cases o'.dst <;> exact h.defers
 ·cases hd:o'.dst <;> simp [Act.put,h.tsize]
 ·intro d' hpre;cases hd:o'.dst with
  | none =>
   refine h.vals d' fun j oj hj hdj=>hback j (fun e=>?_) (hpre j oj hj hdj);subst e;rw [ho] at hj;cases hj;rw [hd] at hdj;cases hdj
  | some d =>
   rw [hd] at hv;show (a.tmps.setIfInBounds d v)[d']?=_;by_cases e:d=d'
   ·subst e
    rcases Nat.lt_or_ge d A.tmps.size with hlt | hge
    ·rw [put_same hv hlt];simp [h.tsize,hlt]
    ·rw [Array.getElem?_eq_none hge,Array.getElem?_eq_none (by simp [h.tsize,hge])]
   ·rw [Array.getElem?_setIfInBounds_ne e];refine h.vals d' fun j oj hj hdj=>hback j (fun e'=>?_) (hpre j oj hj hdj);subst e';rw [ho] at hj;cases hj;rw [hd] at hdj;exact e (Option.some.inj hdj)
 ·intro j oj hj hl e he hb;by_cases hji:j=i
  ·subst hji;rw [ho] at hj;cases hj;exact getD_set_true (hall e he hb)
  ·exact getD_set_true (h.closed j oj hj (hback j hji hl) e he hb)
theorem RS.step {A:Act} {listed:Array Bool} {a:Act} {w:World} (h:RS ops md A listed a) (hc:rfOk md ops=true) (hs:Region.noSelect ops=true)
  {i:Nat} {o:Oper} (ho:ops[i]?=some o) (hi:i ∈ Region.ready md ops listed) {J:World→Prop}
  (hw:o.wp P A w (fun a' w'=>a'=A∧J w') (fun _ _ _=>False)) :
  wpOp P ops Q i (fun a' w'=>RS ops md A (listed.setIfInBounds i true) a'∧J w') a w:=by
 obtain ⟨hun,o',ho',hall⟩:=mem_ready.1 hi;have:o'=o:=by rw [ho] at ho';exact (Option.some.inj ho').symm
 subst this;obtain ⟨hg,_,hdat⟩:=rfOk_spec hc ho;have hev:execOp a.eval o'=execOp A.eval o':=execOp_congr o' (fun cs b=>Region.noSelect_spec hs i o' cs b ho) fun x hx=>by
  cases x with
  | tmp d =>
   show a.tmps.getD d undef=A.tmps.getD d undef;have:=h.vals d fun j oj hj hdj=>by
    obtain ⟨e,he,hb,hon⟩:=hdat d hx j oj hj hdj;rw [← hon];exact hall e he hb
   simp only [Array.getD_eq_getD_getElem?,this]
  | _=>rfl
 unfold wpOp;simp only [ho,Region.wanted,hg,if_true];refine .inl ?_;unfold Oper.wp at *;rw [hev];generalize (execOp A.eval o').run P w=r at *;have hp:∀ v w',A.put o'.dst v=A∧J w'→RS ops md A (listed.setIfInBounds i true) (a.put o'.dst v)∧J w':=fun v w' hh=>⟨h.put ho hi hh.1,hh.2⟩;cases r with
 | ok n w' =>
  cases n <;> simp only [Oper.upon] at hw ⊢
  case value u=>exact hp _ _ hw
  case skip=>exact hp _ _ hw
  case defer d =>
   exfalso;have:=congrArg Act.defers hw.1;cases hd:o'.dst <;> simp [Act.put,hd] at this
  case enter f args =>
   refine Calls.mono hw fun e w'' he=>?_;cases e with
   | returned u=>exact hp _ _ he
   | panicked c=>exact he.elim
   | outgrown=>obtain ⟨_,_,hh⟩:=he;exact hh.elim
  case row row args=>exact Rows.mono hw fun u w'' he=>hp _ _ he
 | halt x w'=>cases x <;> simp only [Oper.upon] at hw ⊢
theorem all_listed (hc:rfOk md ops=true) {listed:Array Bool} (hsz:listed.size=ops.size) (hr:Region.ready md ops listed=[]):∀ i,i<ops.size→listed.getD i false=true:=by
 intro i
 induction i using Nat.strongRecOn with
 | ind i ih =>
  intro hi;cases hl:listed.getD i false with
  | true=>rfl
  | false =>
   exfalso;have hlt:i<listed.size:=by omega
   have h1:listed.getD i true=false:=by
    rw [Array.getD_eq_getD_getElem?,Array.getElem?_eq_getElem hlt] at hl ⊢;exact hl
   have ho:ops[i]?=some ops[i]:=Array.getElem?_eq_getElem hi;obtain ⟨_,hlow,_⟩:=rfOk_spec hc ho;have:i ∈ Region.ready md ops listed:=mem_ready.2 ⟨h1,_,ho,fun e he hb=>ih e.on (hlow e he hb) (Nat.lt_trans (hlow e he hb) hi)⟩;rw [hr] at this;cases this
theorem RS.done {A:Act} {listed:Array Bool} {a:Act} (h:RS ops md A listed a) (hall:∀ i,i<ops.size→listed.getD i false=true):a=A:=by
 obtain ⟨at',ad⟩:=a;obtain ⟨At,Ad⟩:=A;have h1:at'=At:=Array.ext_getElem? fun d=>h.vals d fun i o ho _=>hall i (by
  rcases Nat.lt_or_ge i ops.size with h' | h'
  ·exact h'
  ·rw [Array.getElem?_eq_none h'] at ho;cases ho)
 have h2:ad=Ad:=h.defers;rw [h1,h2]
theorem count_set {listed:Array Bool} {i:Nat} (h:listed.getD i true=false):(listed.setIfInBounds i true).toList.count false+1=listed.toList.count false:=by
 have hlt:i<listed.size:=by
  rcases Nat.lt_or_ge i listed.size with h' | h'
  ·exact h'
  ·rw [Array.getD_eq_getD_getElem?,Array.getElem?_eq_none h'] at h;cases h
 have hv:listed[i]=false:=by
  rw [Array.getD_eq_getD_getElem?,Array.getElem?_eq_getElem hlt] at h;exact h
 rw [Array.toList_setIfInBounds,List.count_set (by simpa using hlt)];have hv':listed.toList[i]'(by simpa using hlt)=false:=by simpa using hv
 have hpos:0<listed.toList.count false:=List.count_pos_iff.2 (by rw [← hv'];exact List.getElem_mem _);simp only [hv',beq_self_eq_true,if_true];rw [if_neg (by decide)];omega
theorem RS.start {A a:Act} (hd:a.defers=A.defers) (ht:a.tmps.size=A.tmps.size) (hv:∀ d,(∀ (i:Nat) (o:Oper),ops[i]?=some o→o.dst ≠ some d)→a.tmps[d]?=A.tmps[d]?) :
  RS ops md A (Array.replicate ops.size false) a:=by
 have hno:∀ i,(Array.replicate ops.size false).getD i false ≠ true:=fun i=>by
  rw [Array.getD_eq_getD_getElem?]
  rcases Nat.lt_or_ge i ops.size with h' | h'
  ·rw [Array.getElem?_eq_getElem (by simpa using h')];simp
  ·rw [Array.getElem?_eq_none (by simpa using h')];simp
 refine ⟨by simp,hd,ht,fun d hpre=>hv d fun i o ho hdo=>hno i (hpre i o ho hdo),fun i o _ hl=>absurd hl (hno i)⟩
section
variable {ρ:Operand→Value} {o:Oper} {w w':World} {v:Value}
end
end
section
variable {P:Program} {ops:Array Oper} {Q:Exit→Act→World→Prop} {md:Region.Mode}
theorem wpAny_inv (J:Array Bool→Act→World→Prop)
  (step:∀ listed a w i o,J listed a w→i ∈ Region.ready md ops listed→ops[i]?=some o→wpOp P ops Q i (fun a' w'=>J (listed.setIfInBounds i true) a' w') a w)
  (fin:∀ listed a w,Region.ready md ops listed=[]→J listed a w→Q .normal a w) :
  ∀ (fuel:Nat) (listed:Array Bool) (a:Act) (w:World),listed.toList.count false≤fuel→J listed a w→wpAny P md ops Q fuel listed a w:=by
 intro fuel
 induction fuel with
 | zero =>
  intro listed a w hf hJ;have hr:Region.ready md ops listed=[]:=by
   cases hr:Region.ready md ops listed with
   | nil=>rfl
   | cons x xs =>
    have:=count_set (mem_ready.1 (hr ▸ List.mem_cons_self:x ∈ Region.ready md ops listed)).1;omega
  exact ⟨hr,fin listed a w hr hJ⟩
 | succ fuel ih =>
  intro listed a w hf hJ;refine ⟨fun hr=>fin listed a w hr hJ,fun i hi=>?_⟩;obtain ⟨hun,o,ho,_⟩:=mem_ready.1 hi;refine wpOp_mono (fun a' w' hh=>ih _ a' w' ?_ hh) (step listed a w i o hJ hi ho);have:=count_set hun;omega
theorem wp_region_inv {id:Nat} {a:Act} {w:World} (J:Array Bool→Act→World→Prop) (hm:P.follows .mixedOrders=true)
  (hJ:J (Array.replicate ops.size false) a { w with drawn:=w.drawn+1 })
  (step:∀ listed a w i o,J listed a w→i ∈ Region.ready .any ops listed→ops[i]?=some o→wpOp P ops Q i (fun a' w'=>J (listed.setIfInBounds i true) a' w') a w)
  (fin:∀ listed a w,Region.ready .any ops listed=[]→J listed a w→Q .normal a w):(Code.region id ops true).wp P Q a w:=
 wp_region_any hm (wpAny_inv J step fin ops.size _ a _ (by simp) hJ)
end
section
variable {P:Program} {ops:Array Oper} {Q:Exit→Act→World→Prop}
theorem wpOp_of_ops {i:Nat} {o:Oper} {K:Act→World→Prop} {a:Act} {w:World} (ho:ops[i]?=some o) (hg:o.guard=none)
  (h:wpList P #[o] (Exit.then K Q) [o] a w):wpOp P ops Q i K a w:=by
 unfold wpOp;simp only [ho,Region.wanted,hg,if_true];simp only [wpList,Region.wanted,hg,if_true] at h
 rcases h with h | ⟨h1,h2⟩
 ·left;unfold Oper.wp at *;generalize (execOp a.eval o).run P w=r at *;cases r with
  | ok n w' =>
   cases n
   case enter f args =>
    refine Calls.mono h fun e w'' he=>?_;cases e <;> exact he
   all_goals exact h
  | halt x w'=>cases x <;> exact h
 ·exact .inr ⟨h1,h2⟩
theorem wp_region_letters {X:Type} {id:Nat} {a:Act} {w:World} (F:X→Act) (I:(Nat→Bool)→X→World→Prop) (hm:P.follows .mixedOrders=true) (hc:rfOk .any ops=true)
  (x0:X) (h0:a=F x0) (hI:I (fun _=>false) x0 { w with drawn:=w.drawn+1 })
  (step:∀ L x w i o (K:Act→World→Prop),(∀ x' w',I (fun j=>if j=i then true else L j) x' w'→K (F x') w')→ops[i]?=some o→L i=false→(∀ e ∈ o.after,Region.binds .any e=true→L e.on=true)→I L x w →
   wpList P #[o] (Exit.then K Q) [o] (F x) w)
  (fin:∀ L x w,(∀ j,j<ops.size→L j=true)→I L x w→Q .normal (F x) w):(Code.region id ops true).wp P Q a w:=by
 refine wp_region_inv (fun listed a w=>listed.size=ops.size∧∃ x,a=F x∧I (fun j=>listed.getD j false) x w) hm ?_ ?_ ?_
 ·refine ⟨by simp,x0,h0,?_⟩;have e:(fun j=>(Array.replicate ops.size false).getD j false)=fun _=>false:=by
   funext j
   rw [Array.getD_eq_getD_getElem?]
   rcases Nat.lt_or_ge j ops.size with h' | h'
   ·rw [Array.getElem?_eq_getElem (by simpa using h')];simp
   ·rw [Array.getElem?_eq_none (by simpa using h')];simp
  rw [e];exact hI
 ·rintro listed a w i o ⟨hs,x,rfl,hx⟩ hi ho;obtain ⟨hun,o',ho',hall⟩:=mem_ready.1 hi;have:o'=o:=by rw [ho] at ho';exact (Option.some.inj ho').symm
  subst this;obtain ⟨hg,_,_⟩:=rfOk_spec hc ho;have hlt:i<listed.size:=by
   rcases Nat.lt_or_ge i listed.size with h' | h'
   ·exact h'
   ·rw [Array.getD_eq_getD_getElem?,Array.getElem?_eq_none h'] at hun;cases hun
  have hun':listed.getD i false=false:=by
   rw [Array.getD_eq_getD_getElem?,Array.getElem?_eq_getElem hlt] at hun ⊢;exact hun
  refine wpOp_mono ?_ (wpOp_of_ops ho hg (step _ x w i o' (fun a' w'=>∃ x',a'=F x'∧I (fun j=>if j=i then true else listed.getD j false) x' w') (fun x' w' h=>⟨x',rfl,h⟩) ho hun' hall hx));rintro a' w' ⟨x',rfl,hx'⟩;refine ⟨by simp [hs],x',rfl,?_⟩;have e:(fun j=>(listed.setIfInBounds i true).getD j false)=fun j=>if j=i then true else listed.getD j false:=by
   funext j
   by_cases hj:j=i
   ·subst hj;rw [if_pos rfl,Array.getD_eq_getD_getElem?,Array.getElem?_setIfInBounds_self_of_lt hlt];rfl
   ·rw [if_neg hj,getD_set_ne false (fun e=>hj e.symm)]
  rw [e];exact hx'
 ·rintro listed a w hr ⟨hs,x,rfl,hx⟩;exact fin _ x w (all_listed hc hs hr) hx
end
set_option maxRecDepth 8000 in
set_option maxHeartbeats 2000000 in
theorem reck1 (k:Int) (n:Bool) (d x:Int) (t:List UInt8) (k':Int) (n':Bool) (d' x':Int) (t':List UInt8) (f p:Nat) (HF:∀ ar w,(callFunc f ar).run Tryz.prog w=.ok (.enter f ar) w) (w:World) (hp:w.cell? ⟨p,0,none⟩=some (fnV f)) {k2:Int} {n2:Bool} {d2 x2:Int} {t2:List UInt8}
  (H:∀ w1,Ext w w1→Calls Tryz.prog f #[decV n d x,decV n' d' x'] w1 fun e w'=>e=.returned (valV k2 n2 d2 x2 t2)∧Ext w1 w') :
  Calls Tryz.prog 203 #[valV k n d x t,valV k' n' d' x' t',.pointer (some ⟨p,0,none⟩)] w fun e w'=>e=.returned (valV k2 n2 d2 x2 t2)∧Ext w w':=by
 obtain ⟨u0,u1,u2,h0,h1,h2,s0,s1,s2,B0,B1,B2,X⟩:=mkB3 w [.int .i64 k,.bool n,.int .i64 d,.int .i64 x,sV t] [.int .i64 k',.bool n',.int .i64 d',.int .i64 x',sV t'] [.int .i64 0,.bool false,.int .i64 0,.int .i64 0,sV []] 26 26 26;obtain ⟨a0,a1,a2,a3,a4⟩:=Vec.five (B0);obtain ⟨c0,c1,c2,c3,c4⟩:=Vec.five (B1);have q0:=cell_later X hp;go_enter Tryz.func203,Tryz.ntmps203;go_wp2_with fail;clear h0 s0 h1 s1 h2 s2 a0 a1 a2 a3 a4 c0 c1 c2 c3 c4 q0;refine (H u2 X).mono ?_;rintro e w1 ⟨rfl,e1⟩;obtain ⟨wy,hy,FX,⟨b0,b1,b2,b3,b4⟩,⟨fb0,fb1,fb2,fb3,fb4⟩,fd0,fd1,fd2,fd3,fd4⟩:=fin5 (B2.later e1) (xt X e1) (by omega) k2 n2 d2 x2 t2;go_wp2_with fail;exact bodyPost_ret (v:=valV k2 n2 d2 x2 t2) (by simp [results,Tryz.results203,go_sem,fd0,fd1,fd2,fd3,fd4]) rfl ⟨rfl,FX⟩
set_option maxRecDepth 8000 in
set_option maxHeartbeats 2000000 in
theorem reckW (k:Int) (n:Bool) (d x:Int) (t:List UInt8) (k':Int) (n':Bool) (d' x':Int) (t':List UInt8) (f:Nat) (w:World) (ka:Int) (na:Bool) (da xa:Int) (ta:List UInt8) (kb:Int) (nb:Bool) (db xb:Int) (tb:List UInt8) {k2:Int} {n2:Bool} {d2 x2:Int} {t2:List UInt8}
  (HA:∀ w1,Ext w w1→Calls Tryz.prog 89 #[valV k n d x t] w1 fun e w'=>e=.returned (valV ka na da xa ta)∧Ext w1 w')
  (HB:∀ w1,Ext w w1→Calls Tryz.prog 89 #[valV k' n' d' x' t'] w1 fun e w'=>e=.returned (valV kb nb db xb tb)∧Ext w1 w')
  (HO:∀ w1 p,Ext w w1→w1.cell? ⟨p,0,none⟩=some (fnV f)→Calls Tryz.prog 64 #[.func (.func 203) #[] #[.pointer (some ⟨p,0,none⟩)],valV ka na da xa ta,valV kb nb db xb tb] w1 fun e w'=>e=.returned (valV k2 n2 d2 x2 t2)∧Ext w1 w') :
  Calls Tryz.prog 150 #[valV k n d x t,valV k' n' d' x' t',fnV f] w fun e w'=>e=.returned (valV k2 n2 d2 x2 t2)∧Ext w w':=by
 obtain ⟨u0,u1,u2,u3,h0,h1,h2,h3,s0,s1,s2,s3,B0,B1,B2,B3,X⟩:=mkB4 w [.int .i64 k,.bool n,.int .i64 d,.int .i64 x,sV t] [.int .i64 k',.bool n',.int .i64 d',.int .i64 x',sV t'] [fnV f] [.int .i64 0,.bool false,.int .i64 0,.int .i64 0,sV []] 26 26 155 26;obtain ⟨a0,a1,a2,a3,a4⟩:=Vec.five (B0);obtain ⟨c0,c1,c2,c3,c4⟩:=Vec.five (B1);go_enter Tryz.func150,Tryz.ntmps150;go_wp2_with fail;clear h0 s0 h1 s1 h2 s2 h3 s3 a0 a1 a2 a3 a4 c0 c1 c2 c3 c4;refine wp_region_letters (fun lx:Nat→Value=>{ tmps:=#[valV k n d x t,valV k' n' d' x' t',fnV f,Value.pointer (some ⟨w.heap.size,0,none⟩),Value.pointer (some ⟨w.heap.size+1,0,none⟩),Value.pointer (some ⟨w.heap.size+1+1,0,none⟩),Value.pointer (some ⟨w.heap.size+1+1+1,0,none⟩),Value.func (Fn.func 203) #[] #[Value.pointer (some ⟨w.heap.size+1+1,0,none⟩)],Value.func (Fn.func 203) #[] #[Value.pointer (some ⟨w.heap.size+1+1,0,none⟩)],lx 9,lx 10,lx 11,lx 12,lx 13,lx 14],defers:=[] }) (fun L lx lw=>Hid (Ext w lw∧Vec lw (w.heap.size) [.int .i64 k,.bool n,.int .i64 d,.int .i64 x,sV t]∧Vec lw (w.heap.size+1) [.int .i64 k',.bool n',.int .i64 d',.int .i64 x',sV t']∧Vec lw (w.heap.size+1+1) [fnV f]∧(L 0=true→lx 9=Value.func (Fn.func 203) #[] #[Value.pointer (some ⟨w.heap.size+1+1,0,none⟩)])∧(L 1=true→lx 10=valV k n d x t)∧(L 2=true→lx 11=valV ka na da xa ta)∧(L 3=true→lx 12=valV k' n' d' x' t')∧(L 4=true→lx 13=valV kb nb db xb tb)∧(L 5=true→lx 14=valV k2 n2 d2 x2 t2)∧(L 6=false→Vec lw (w.heap.size+1+1+1) [.int .i64 0,.bool false,.int .i64 0,.int .i64 0,sV []])∧(L 6=true→Vec lw (w.heap.size+1+1+1) [.int .i64 k2,.bool n2,.int .i64 d2,.int .i64 x2,sV t2]))) rfl (by kernel_rfl) (fun jj=>undef) rfl ?_ ?_ ?_
 ·exact ⟨xd X,B0.later (xd (xr _)),B1.later (xd (xr _)),B2.later (xd (xr _)),(fun h=>by cases h),(fun h=>by cases h),(fun h=>by cases h),(fun h=>by cases h),(fun h=>by cases h),(fun h=>by cases h),fun _=>B3.later (xd (xr _)),(fun h=>by cases h)⟩
 ·intro L lx wl i o K hK ho hL haf hI;obtain ⟨X,f0,f1,f2,f3,f4,f5,f6,f7,f8,f9,f10⟩:=hI.out
  match i,ho,hL,haf,hK with
  | 0,ho,hL,haf,hK =>
   simp only [List.getElem?_toArray,List.getElem?_cons_zero,Option.some.injEq] at ho;subst ho
   (try dsimp only)
   go_wp2_with fail;exact hK (fun jj=>if jj=9 then Value.func (Fn.func 203) #[] #[Value.pointer (some ⟨w.heap.size+1+1,0,none⟩)] else lx jj) _ ⟨X,f0,f1,f2,(fun _=>rfl),f4,f5,f6,f7,f8,f9,f10⟩
  | 1,ho,hL,haf,hK =>
   simp only [List.getElem?_toArray,List.getElem?_cons_zero,List.getElem?_cons_succ,Option.some.injEq] at ho;subst ho
   (try dsimp only)
   obtain ⟨a0,a1,a2,a3,a4⟩:=Vec.five (f0);go_wp2_with fail;exact hK (fun jj=>if jj=10 then valV k n d x t else lx jj) _ ⟨X,f0,f1,f2,f3,(fun _=>rfl),f5,f6,f7,f8,f9,f10⟩
  | 2,ho,hL,haf,hK =>
   simp only [List.getElem?_toArray,List.getElem?_cons_zero,List.getElem?_cons_succ,Option.some.injEq] at ho;subst ho
   (try dsimp only)
   rw [f4 (haf ⟨1,.data⟩ (by simp) rfl)];go_wp2_with fail;refine (HA wl X).mono ?_;rintro rr w' ⟨rfl,E⟩;go_wp2_with fail;exact hK (fun jj=>if jj=11 then valV ka na da xa ta else if jj=10 then valV k n d x t else lx jj) _ ⟨xt X E,(f0.later E),(f1.later E),(f2.later E),f3,(fun _=>rfl),(fun _=>rfl),f6,f7,f8,(fun h=>(f9 h).later E),(fun h=>(f10 h).later E)⟩
  | 3,ho,hL,haf,hK =>
   simp only [List.getElem?_toArray,List.getElem?_cons_zero,List.getElem?_cons_succ,Option.some.injEq] at ho;subst ho
   (try dsimp only)
   obtain ⟨a0,a1,a2,a3,a4⟩:=Vec.five (f1);go_wp2_with fail;exact hK (fun jj=>if jj=12 then valV k' n' d' x' t' else lx jj) _ ⟨X,f0,f1,f2,f3,f4,f5,(fun _=>rfl),f7,f8,f9,f10⟩
  | 4,ho,hL,haf,hK =>
   simp only [List.getElem?_toArray,List.getElem?_cons_zero,List.getElem?_cons_succ,Option.some.injEq] at ho;subst ho
   (try dsimp only)
   rw [f6 (haf ⟨3,.data⟩ (by simp) rfl)];go_wp2_with fail;refine (HB wl X).mono ?_;rintro rr w' ⟨rfl,E⟩;go_wp2_with fail;exact hK (fun jj=>if jj=13 then valV kb nb db xb tb else if jj=12 then valV k' n' d' x' t' else lx jj) _ ⟨xt X E,(f0.later E),(f1.later E),(f2.later E),f3,f4,f5,(fun _=>rfl),(fun _=>rfl),f8,(fun h=>(f9 h).later E),(fun h=>(f10 h).later E)⟩
  | 5,ho,hL,haf,hK =>
   simp only [List.getElem?_toArray,List.getElem?_cons_zero,List.getElem?_cons_succ,Option.some.injEq] at ho;subst ho
   (try dsimp only)
   rw [f3 (haf ⟨0,.data⟩ (by simp) rfl),f5 (haf ⟨2,.data⟩ (by simp) rfl),f7 (haf ⟨4,.data⟩ (by simp) rfl)];go_wp2_with fail;refine (HO wl _ X (f2 0 _ rfl).1).mono ?_;rintro rr w' ⟨rfl,E⟩;go_wp2_with fail;exact hK (fun jj=>if jj=14 then valV k2 n2 d2 x2 t2 else if jj=9 then Value.func (Fn.func 203) #[] #[Value.pointer (some ⟨w.heap.size+1+1,0,none⟩)] else if jj=11 then valV ka na da xa ta else if jj=13 then valV kb nb db xb tb else lx jj) _ ⟨xt X E,(f0.later E),(f1.later E),(f2.later E),(fun _=>rfl),f4,(fun _=>rfl),f6,(fun _=>rfl),(fun _=>rfl),(fun h=>(f9 h).later E),(fun h=>(f10 h).later E)⟩
  | 6,ho,hL,haf,hK =>
   simp only [List.getElem?_toArray,List.getElem?_cons_zero,List.getElem?_cons_succ,Option.some.injEq] at ho;subst ho
   (try dsimp only)
   rw [f8 (haf ⟨5,.data⟩ (by simp) rfl)];have bx:=f9 hL;obtain ⟨b0,b1,b2,b3,b4⟩:=Vec.five (bx);obtain ⟨fb0,fb1,fb2,fb3,fb4⟩:=Vec.fiveF (bx);have hX:=Ext.setL (b:=w.heap.size+1+1+1) (by omega) [.int .i64 k2,.bool n2,.int .i64 d2,.int .i64 x2,sV t2] 0 X;have hB:=bx.put5 (.int .i64 k2) (.bool n2) (.int .i64 d2) (.int .i64 x2) (sV t2);go_wp2_with fail;exact hK (fun jj=>if jj=14 then valV k2 n2 d2 x2 t2 else lx jj) _ ⟨hX,(Vec.farL (k:=w.heap.size+1+1+1) (by omega) [.int .i64 k2,.bool n2,.int .i64 d2,.int .i64 x2,sV t2] 0 f0),(Vec.farL (k:=w.heap.size+1+1+1) (by omega) [.int .i64 k2,.bool n2,.int .i64 d2,.int .i64 x2,sV t2] 0 f1),(Vec.farL (k:=w.heap.size+1+1+1) (by omega) [.int .i64 k2,.bool n2,.int .i64 d2,.int .i64 x2,sV t2] 0 f2),f3,f4,f5,f6,f7,(fun _=>rfl),(fun h=>by cases h),(fun _=>hB)⟩
  | k+7,ho,_,_,_=>simp at ho
 ·intro L lx wr hall hI;obtain ⟨XR,f0,f1,f2,f3,f4,f5,f6,f7,f8,f9,f10⟩:=hI.out;clear hI;have G0:=f0;have G1:=f1;have G2:=f2;replace f3:=f3 (hall 0 (by simp));replace f4:=f4 (hall 1 (by simp));replace f5:=f5 (hall 2 (by simp));replace f6:=f6 (hall 3 (by simp));replace f7:=f7 (hall 4 (by simp));replace f8:=f8 (hall 5 (by simp));have BR:=f10 (hall 6 (by simp))
  (try dsimp only)
  rw [f3,f4,f5,f6,f7,f8];clear hall f0 f1 f2 f3 f4 f5 f6 f7 f8 f9 f10;obtain ⟨fd0,fd1,fd2,fd3,fd4⟩:=Vec.five (BR);clear BR HA HB HO B0 B1 B2 B3;go_wp2_with fail;exact bodyPost_ret (v:=valV k2 n2 d2 x2 t2) (by simp [results,Tryz.results150,go_sem,fd0,fd1,fd2,fd3,fd4]) rfl ⟨rfl,XR⟩
end Go.Proofs.YtkadkfmidlhedaaGreatDoor

