/-
  Several texts in one: V6k, V9w, V9o, V9c.
-/
import Derived.Test.YtiaakhogigddbaaGreatDoorMg4
import Derived.Test.YtiaakhogigddbaaGreatDoorMg15
import Derived.Test.YtiaakhogigddbaaGreatDoorReN
import Derived.StringKeys
import Derived.MapKept
import Derived.Carry
import Derived.Test.YtiaakhogigddbaaGreatDoorMg11
namespace Go.Proofs.YtiaakhogigddbaaGreatDoor
open Go.RowKit
def numR (r:DR):Value:=if r.ok then valV 1 r.neg r.d r.e [] else errW
def numOf (k:Int) (n:Bool) (d x:Int) (t:List UInt8):Value:=
 if k=0 then valV 1 false 0 0 [] else if k=2 then numR (readR (trimB t)) else
 if k=3 then (if t == trueT then valV 1 false 1 0 [] else valV 1 false 0 0 []) else valV k n d x t
def numOfV (k:Int) (n:Bool) (d x:Int) (t:List UInt8):Value:=if goodV k n d x t then numOf k n d x t else errW
theorem numR_val (r:DR):∃ k2 n2 d2 x2 t2,numR r=valV k2 n2 d2 x2 t2:=by
 unfold numR
 split
 ·exact ⟨_,_,_,_,_,rfl⟩
 ·exact ⟨_,_,_,_,_,rfl⟩
theorem numOf_val (k:Int) (n:Bool) (d x:Int) (t:List UInt8):∃ k2 n2 d2 x2 t2,numOf k n d x t=valV k2 n2 d2 x2 t2:=by
 unfold numOf
 split
 ·exact ⟨_,_,_,_,_,rfl⟩
 ·split
  ·exact numR_val _
  ·split
   ·split
    ·exact ⟨_,_,_,_,_,rfl⟩
    ·exact ⟨_,_,_,_,_,rfl⟩
   ·exact ⟨_,_,_,_,_,rfl⟩
theorem trimI (l:List UInt8) (w:World) (hl:l.length≤2000000) :
  Calls Tryz.prog 171 #[sV l,.string ⟨#[32]⟩] w fun e w'=>e=.returned (sV (trimB l))∧Ext w w':=by
 have h:=Any.strings_Trim_laid layTrim (by kernel_rfl) (bs l) ⟨#[32]⟩ w (by rw [bs_size];omega) (by decide) (ascii_of_all (by decide));rw [fTrimD] at h;rw [← trimS_blank];exact h
set_option maxHeartbeats 1000000 in
theorem oneS (w:World):Calls Tryz.prog 86 #[] w fun e w'=>e=.returned (decV false 1 0)∧Ext w w':=by
 go_enter Tryz.func86,Tryz.ntmps86
 go_wp2
 exact bodyPost_ret (v:=decV false 1 0) (by simp [results,Tryz.results86,go_sem]) rfl ⟨rfl,x1 _ _⟩
set_option maxRecDepth 8000 in
set_option maxHeartbeats 2000000 in
theorem readVI (k:Int) (n:Bool) (d x:Int) (t:List UInt8) (w:World) (hl:t.length≤1048576) (hT:Tens w) :
  Calls Tryz.prog 149 #[valV k n d x t] w fun e w'=>e=.returned (numR (readR (trimB t)))∧Ext w w':=by
 obtain ⟨R,hR⟩:∃ R,numR (readR (trimB t))=R:=⟨_,rfl⟩;have HRN:Hid (numR (readR (trimB t))=R):=hR;rw [hR];clear hR;obtain ⟨wa,wb,ha,hb,sa,_,B1,B2,X⟩:=mkB2 w [.int .i64 k,.bool n,.int .i64 d,.int .i64 x,sV t] [.int .i64 0,.bool false,.int .i64 0,.int .i64 0,sV []] 39 39;obtain ⟨a0,a1,a2,a3,a4⟩:=Vec.five B1;go_enter Tryz.func149,Tryz.ntmps149;go_wp2_with fail;clear ha hb sa a0 a1 a2 a3 a4;refine (trimI t wb (by omega)).mono ?_;rintro e w1 ⟨rfl,e1⟩;have hlt:=trimB_le t;obtain ⟨u,hu⟩:∃ u,trimB t=u:=⟨_,rfl⟩;rw [hu] at HRN hlt ⊢;clear hu;go_wp2_with fail;refine (readI u w1 (by omega) (hT.later (xt X e1))).mono ?_;rintro e w2 ⟨rfl,e2⟩;have C2:=(B2.later e1).later e2;have X2:=xt (xt X e1) e2;clear B1 B2 e1 e2 hT hlt hl;obtain ⟨ok,rn,rd,re,hq⟩:∃ ok rn rd re,readR u=(⟨ok,rn,rd,re⟩:DR):=⟨_,_,_,_,rfl⟩;have HRR:Hid (numR ⟨ok,rn,rd,re⟩=R):=by show _=_;rw [← hq];exact HRN.out
 rw [hq];clear hq HRN;have Y0:=x1 w2 (.cells #[.bool ok,.bool rn,.int .i64 rd,.int .i64 re] 103);obtain ⟨wz,hz⟩:∃ wz,w2.alloc (.cells #[.bool ok,.bool rn,.int .i64 rd,.int .i64 re] 103)=wz:=⟨_,rfl⟩;have Br:=vec_made w2 [.bool ok,.bool rn,.int .i64 rd,.int .i64 re] 103;change Vec (w2.alloc (.cells #[.bool ok,.bool rn,.int .i64 rd,.int .i64 re] 103)) _ _ at Br;rw [hz] at Y0 Br;have r0:=(Br 0 _ rfl).1;have r1:=(Br 1 _ rfl).1;have r2:=(Br 2 _ rfl).1;have r3:=(Br 3 _ rfl).1;have D2:=(C2).later Y0;have XD:=xt (X2) Y0;cases ok
 ·have HR:Hid (errW=R):=HRR;go_wp2_with fail;clear r0 r1 r2 r3 hz Br;refine (errVI errT wz).mono ?_;rintro e w8 ⟨rfl,e8⟩;obtain ⟨wy,hy,FX,⟨b0,b1,b2,b3,b4⟩,⟨fb0,fb1,fb2,fb3,fb4⟩,fd0,fd1,fd2,fd3,fd4⟩:=fin5 (D2.later e8) (xt XD e8) (by omega) (4) (false) (0) (0) (errT);go_wp2_with fail;exact bodyPost_ret (v:=errW) (by simp [results,Tryz.results149,go_sem,fd0,fd1,fd2,fd3,fd4]) rfl ⟨congrArg Ending.returned HR.out,FX⟩
 ·have HR:Hid (valV 1 rn rd re []=R):=HRR;go_wp2_with fail;clear r0 r1 r2 r3 hz Br;refine (numVI rn rd re wz).mono ?_;rintro e w8 ⟨rfl,e8⟩;obtain ⟨wy,hy,FX,⟨b0,b1,b2,b3,b4⟩,⟨fb0,fb1,fb2,fb3,fb4⟩,fd0,fd1,fd2,fd3,fd4⟩:=fin5 (D2.later e8) (xt XD e8) (by omega) (1) (rn) (rd) (re) ([]);go_wp2_with fail;exact bodyPost_ret (v:=valV 1 rn rd re []) (by simp [results,Tryz.results149,go_sem,fd0,fd1,fd2,fd3,fd4]) rfl ⟨congrArg Ending.returned HR.out,FX⟩
set_option maxRecDepth 8000 in
set_option maxHeartbeats 2000000 in
theorem numOfI (k:Int) (n:Bool) (d x:Int) (t:List UInt8) (w:World) (hl:t.length≤1048576) (d1 : -9223372036854775808≤d) (d2:d≤9223372036854775807) (hT:Tens w) (hE:ErrTab w) :
  Calls Tryz.prog 110 #[valV k n d x t] w fun e w'=>e=.returned (numOfV k n d x t)∧Ext w w':=by
 obtain ⟨R,hR⟩:∃ R,numOfV k n d x t=R:=⟨_,rfl⟩;have HR0:Hid (numOfV k n d x t=R):=hR;rw [hR];clear hR;obtain ⟨wa,wb,ha,hb,sa,_,B1,B2,X⟩:=mkB2 w [.int .i64 k,.bool n,.int .i64 d,.int .i64 x,sV t] [.int .i64 0,.bool false,.int .i64 0,.int .i64 0,sV []] 39 39;obtain ⟨a0,a1,a2,a3,a4⟩:=Vec.five B1;go_enter Tryz.func110,Tryz.ntmps110;go_wp2_with fail;clear ha hb sa a0 a1 a2 a3 a4;refine (goodVI k n d x t wb (by omega) d1 d2 (hT.later X) (hE.later X)).mono ?_;rintro e w1 ⟨rfl,e1⟩;have C1:=B1.later e1;have C2:=B2.later e1;have X1:=xt X e1;have T1:=hT.later X1;clear B1 B2 hE hT d1 d2;obtain ⟨g,hg⟩:∃ g,goodV k n d x t=g:=⟨_,rfl⟩;rw [hg];cases g
 ·have HR:Hid (errW=R):=by show _=_;rw [← HR0.out];simp [numOfV,hg]
  clear hg T1;go_wp2_with fail;refine (errVI errT _).mono ?_;rintro e w2 ⟨rfl,e2⟩;obtain ⟨wy,hy,FX,⟨b0,b1,b2,b3,b4⟩,⟨fb0,fb1,fb2,fb3,fb4⟩,fd0,fd1,fd2,fd3,fd4⟩:=fin5 (C2.later e2) (xt X1 e2) (by omega) (4) (false) (0) (0) (errT);go_wp2_with fail;exact bodyPost_ret (v:=errW) (by simp [results,Tryz.results110,go_sem,fd0,fd1,fd2,fd3,fd4]) rfl ⟨congrArg Ending.returned HR.out,FX⟩
 ·have HR1:Hid (numOf k n d x t=R):=by show _=_;rw [← HR0.out];simp [numOfV,hg]
  obtain ⟨a0,a1,a2,a3,a4⟩:=Vec.five C1;by_cases h0:k=0
  ·subst h0;have HR:Hid (valV 1 false 0 0 []=R):=by show _=_;rw [← HR1.out];simp [numOf]
   clear hg T1;go_wp2_with fail;clear a0 a1 a2 a3 a4;refine (numVI false 0 0 _).mono ?_;rintro e w2 ⟨rfl,e2⟩;obtain ⟨wy,hy,FX,⟨b0,b1,b2,b3,b4⟩,⟨fb0,fb1,fb2,fb3,fb4⟩,fd0,fd1,fd2,fd3,fd4⟩:=fin5 (C2.later e2) (xt X1 e2) (by omega) (1) (false) (0) (0) ([]);go_wp2_with fail;exact bodyPost_ret (v:=valV 1 false 0 0 []) (by simp [results,Tryz.results110,go_sem,fd0,fd1,fd2,fd3,fd4]) rfl ⟨congrArg Ending.returned HR.out,FX⟩
  ·by_cases h2:k=2
   ·subst h2;clear hg;have HR2:Hid (numR (readR (trimB t))=R):=(by show _=_;rw [← HR1.out];simp [numOf]);go_wp2_with fail;clear a0 a1 a2 a3 a4;refine (readVI 2 n d x t _ hl T1).mono ?_;rintro e w2 ⟨rfl,e2⟩;obtain ⟨k2,n2,d2,x2,t2,hv⟩:=numR_val (readR (trimB t));have HR:Hid (valV k2 n2 d2 x2 t2=R):=(by show _=_;rw [← HR2.out,hv]);rw [hv];clear hv T1;obtain ⟨wy,hy,FX,⟨b0,b1,b2,b3,b4⟩,⟨fb0,fb1,fb2,fb3,fb4⟩,fd0,fd1,fd2,fd3,fd4⟩:=fin5 (C2.later e2) (xt X1 e2) (by omega) (k2) (n2) (d2) (x2) (t2);go_wp2_with fail;exact bodyPost_ret (v:=valV k2 n2 d2 x2 t2) (by simp [results,Tryz.results110,go_sem,fd0,fd1,fd2,fd3,fd4]) rfl ⟨congrArg Ending.returned HR.out,FX⟩
   ·by_cases h3:k=3
    ·subst h3;obtain ⟨rfl,rfl,rfl⟩:=goodV_zero hg (by decide);clear hg T1 h0 h2;obtain ⟨p,hp⟩:∃ p,(t == trueT)=p:=⟨_,rfl⟩;have HR2:Hid ((if p then valV 1 false 1 0 [] else valV 1 false 0 0 [])=R):=(by show _=_;rw [← HR1.out];simp [numOf,hp]);cases p
     ·have HR:Hid (valV 1 false 0 0 []=R):=(by show _=_;rw [← HR2.out];rfl);go_wp2_with fail;go_region_with (go_at_call 48;refine (boolVI true _).mono ?_;rintro e w2 ⟨rfl,e2⟩;have C3:=C1.later (xt (xd (xr _)) e2);have c0:=(C3 0 _ rfl).1;have c1:=(C3 1 _ rfl).1;have c2:=(C3 2 _ rfl).1;have c3:=(C3 3 _ rfl).1;have c4:=(C3 4 _ rfl).1)
      all_goals
       go_wp2_with fail;clear hp;refine (numVI false 0 0 _).mono ?_;rintro e w3 ⟨rfl,e3⟩;obtain ⟨wy,hy,FX,⟨b0,b1,b2,b3,b4⟩,⟨fb0,fb1,fb2,fb3,fb4⟩,fd0,fd1,fd2,fd3,fd4⟩:=fin5 ((C2.later (xt (xd (xr _)) e2)).later e3) (xt (xt X1 (xt (xd (xr _)) e2)) e3) (by omega) (1) (false) (0) (0) ([]);go_wp2_with fail;exact bodyPost_ret (v:=valV 1 false 0 0 []) (by simp [results,Tryz.results110,go_sem,fd0,fd1,fd2,fd3,fd4]) rfl ⟨congrArg Ending.returned HR.out,FX⟩
     ·have HR:Hid (valV 1 false 1 0 []=R):=(by show _=_;rw [← HR2.out];rfl);go_wp2_with fail;go_region_with (go_at_call 48;refine (boolVI true _).mono ?_;rintro e w2 ⟨rfl,e2⟩;have C3:=C1.later (xt (xd (xr _)) e2);have c0:=(C3 0 _ rfl).1;have c1:=(C3 1 _ rfl).1;have c2:=(C3 2 _ rfl).1;have c3:=(C3 3 _ rfl).1;have c4:=(C3 4 _ rfl).1)
      all_goals
       go_wp2_with fail;clear hp;refine (numVI false 1 0 _).mono ?_;rintro e w3 ⟨rfl,e3⟩;obtain ⟨wy,hy,FX,⟨b0,b1,b2,b3,b4⟩,⟨fb0,fb1,fb2,fb3,fb4⟩,fd0,fd1,fd2,fd3,fd4⟩:=fin5 ((C2.later (xt (xd (xr _)) e2)).later e3) (xt (xt X1 (xt (xd (xr _)) e2)) e3) (by omega) (1) (false) (1) (0) ([]);go_wp2_with fail;exact bodyPost_ret (v:=valV 1 false 1 0 []) (by simp [results,Tryz.results110,go_sem,fd0,fd1,fd2,fd3,fd4]) rfl ⟨congrArg Ending.returned HR.out,FX⟩
    ·have HR:Hid (valV k n d x t=R):=(by show _=_;rw [← HR1.out];simp [numOf,h0,h2,h3]);obtain ⟨wy,hy,FX,⟨b0,b1,b2,b3,b4⟩,⟨fb0,fb1,fb2,fb3,fb4⟩,fd0,fd1,fd2,fd3,fd4⟩:=fin5 (C2) (X1) (by omega) (k) (n) (d) (x) (t);go_wp2_with fail;exact bodyPost_ret (v:=valV k n d x t) (by simp [results,Tryz.results110,go_sem,fd0,fd1,fd2,fd3,fd4]) rfl ⟨congrArg Ending.returned HR.out,FX⟩
set_option maxRecDepth 8000 in
set_option maxHeartbeats 2000000 in
theorem asNumS (k:Int) (n:Bool) (d x:Int) (t:List UInt8) (w:World) (hl:t.length≤1048576) :
  Calls Tryz.prog 65 #[valV k n d x t] w fun e w'=>e=.returned (numOf k n d x t)∧Ext w w':=by
 obtain ⟨R,hR⟩:∃ R,numOf k n d x t=R:=⟨_,rfl⟩;have HR0:Hid (numOf k n d x t=R):=hR;rw [hR];clear hR;obtain ⟨wa,wb,ha,hb,sa,_,B1,B2,X⟩:=mkB2 w [.int .i64 k,.bool n,.int .i64 d,.int .i64 x,sV t] [.int .i64 0,.bool false,.int .i64 0,.int .i64 0,sV []] 39 39;obtain ⟨a0,a1,a2,a3,a4⟩:=Vec.five B1;go_enter Tryz.func65,Tryz.ntmps65;by_cases h0:k=0
 ·subst h0;have HR:Hid (valV 1 false 0 0 []=R):=by show _=_;rw [← HR0.out];simp [numOf]
  go_wp2_with fail;clear ha hb sa a0 a1 a2 a3 a4;refine (numVS false 0 0 wb).mono ?_;rintro e w2 ⟨rfl,e2⟩;obtain ⟨wy,hy,FX,⟨b0,b1,b2,b3,b4⟩,⟨fb0,fb1,fb2,fb3,fb4⟩,fd0,fd1,fd2,fd3,fd4⟩:=fin5 (B2.later e2) (xt X e2) (by omega) (1) (false) (0) (0) ([]);go_wp2_with fail;exact bodyPost_ret (v:=valV 1 false 0 0 []) (by simp [results,Tryz.results65,go_sem,fd0,fd1,fd2,fd3,fd4]) rfl ⟨congrArg Ending.returned HR.out,FX⟩
 ·by_cases h3:k=3
  ·subst h3;obtain ⟨p,hp⟩:∃ p,(t == [84,82,85,69])=p:=⟨_,rfl⟩;have HR2:Hid ((if p then valV 1 false 1 0 [] else valV 1 false 0 0 [])=R):=by show _=_;rw [← HR0.out];simp [numOf,hp]
   cases p
   ·have HR:Hid (valV 1 false 0 0 []=R):=(by show _=_;rw [← HR2.out];rfl);go_wp2_with fail;clear ha hb sa a0 a1 a2 a3 a4 hp;refine (numVS false 0 0 wb).mono ?_;rintro e w2 ⟨rfl,e2⟩;obtain ⟨wy,hy,FX,⟨b0,b1,b2,b3,b4⟩,⟨fb0,fb1,fb2,fb3,fb4⟩,fd0,fd1,fd2,fd3,fd4⟩:=fin5 (B2.later e2) (xt X e2) (by omega) (1) (false) (0) (0) ([]);go_wp2_with fail;exact bodyPost_ret (v:=valV 1 false 0 0 []) (by simp [results,Tryz.results65,go_sem,fd0,fd1,fd2,fd3,fd4]) rfl ⟨congrArg Ending.returned HR.out,FX⟩
   ·have HR:Hid (valV 1 false 1 0 []=R):=(by show _=_;rw [← HR2.out];rfl);go_wp2_with fail;clear ha hb sa a0 a1 a2 a3 a4 hp;refine (oneS wb).mono ?_;rintro e w2 ⟨rfl,e2⟩;go_wp2_with fail;refine (numVS false 1 0 w2).mono ?_;rintro e w3 ⟨rfl,e3⟩;obtain ⟨wy,hy,FX,⟨b0,b1,b2,b3,b4⟩,⟨fb0,fb1,fb2,fb3,fb4⟩,fd0,fd1,fd2,fd3,fd4⟩:=fin5 ((B2.later e2).later e3) (xt (xt X e2) e3) (by omega) (1) (false) (1) (0) ([]);go_wp2_with fail;exact bodyPost_ret (v:=valV 1 false 1 0 []) (by simp [results,Tryz.results65,go_sem,fd0,fd1,fd2,fd3,fd4]) rfl ⟨congrArg Ending.returned HR.out,FX⟩
  ·by_cases h2:k=2
   ·subst h2;have HRN:Hid (numR (readR (trimB t))=R):=(by show _=_;rw [← HR0.out];simp [numOf]);go_wp2_with fail;clear ha hb sa a0 a1 a2 a3 a4;refine (trimSp t wb (by omega)).mono ?_;rintro e w9 ⟨rfl,rfl⟩;have hlt:=trimB_le t;obtain ⟨u,hu⟩:∃ u,trimB t=u:=⟨_,rfl⟩;rw [hu] at HRN hlt ⊢;clear hu;go_wp2_with fail;refine (readS u w9 (by omega)).mono ?_;rintro e w2 ⟨rfl,e2⟩;have C2:=B2.later e2;have X2:=xt X e2;clear B1 B2 e2 hlt hl h0 h3 HR0;obtain ⟨ok,rn,rd,re,hq⟩:∃ ok rn rd re,readR u=(⟨ok,rn,rd,re⟩:DR):=⟨_,_,_,_,rfl⟩;have HRR:Hid (numR ⟨ok,rn,rd,re⟩=R):=(by show _=_;rw [← hq];exact HRN.out);rw [hq];clear hq HRN;have Y0:=x1 w2 (.cells #[.bool ok,.bool rn,.int .i64 rd,.int .i64 re] 103);obtain ⟨wz,hz⟩:∃ wz,w2.alloc (.cells #[.bool ok,.bool rn,.int .i64 rd,.int .i64 re] 103)=wz:=⟨_,rfl⟩;have Br:=vec_made w2 [.bool ok,.bool rn,.int .i64 rd,.int .i64 re] 103;change Vec (w2.alloc (.cells #[.bool ok,.bool rn,.int .i64 rd,.int .i64 re] 103)) _ _ at Br;rw [hz] at Y0 Br;have r0:=(Br 0 _ rfl).1;have r1:=(Br 1 _ rfl).1;have r2:=(Br 2 _ rfl).1;have r3:=(Br 3 _ rfl).1;have D2:=(C2).later Y0;have XD:=xt (X2) Y0;cases ok
    ·have HR:Hid (errW=R):=HRR;go_wp2_with fail;clear r0 r1 r2 r3 hz Br;refine (errVS errT wz).mono ?_;rintro e w8 ⟨rfl,e8⟩;obtain ⟨wy,hy,FX,⟨b0,b1,b2,b3,b4⟩,⟨fb0,fb1,fb2,fb3,fb4⟩,fd0,fd1,fd2,fd3,fd4⟩:=fin5 (D2.later e8) (xt XD e8) (by omega) (4) (false) (0) (0) (errT);go_wp2_with fail;exact bodyPost_ret (v:=errW) (by simp [results,Tryz.results65,go_sem,fd0,fd1,fd2,fd3,fd4]) rfl ⟨congrArg Ending.returned HR.out,FX⟩
    ·have HR:Hid (valV 1 rn rd re []=R):=HRR;go_wp2_with fail;clear r0 r1 r2 r3 hz Br;refine (numVS rn rd re wz).mono ?_;rintro e w8 ⟨rfl,e8⟩;obtain ⟨wy,hy,FX,⟨b0,b1,b2,b3,b4⟩,⟨fb0,fb1,fb2,fb3,fb4⟩,fd0,fd1,fd2,fd3,fd4⟩:=fin5 (D2.later e8) (xt XD e8) (by omega) (1) (rn) (rd) (re) ([]);go_wp2_with fail;exact bodyPost_ret (v:=valV 1 rn rd re []) (by simp [results,Tryz.results65,go_sem,fd0,fd1,fd2,fd3,fd4]) rfl ⟨congrArg Ending.returned HR.out,FX⟩
   ·have HR:Hid (valV k n d x t=R):=(by show _=_;rw [← HR0.out];simp [numOf,h0,h2,h3]);obtain ⟨wy,hy,FX,⟨b0,b1,b2,b3,b4⟩,⟨fb0,fb1,fb2,fb3,fb4⟩,fd0,fd1,fd2,fd3,fd4⟩:=fin5 (B2) (X) (by omega) (k) (n) (d) (x) (t);go_wp2_with fail;exact bodyPost_ret (v:=valV k n d x t) (by simp [results,Tryz.results65,go_sem,fd0,fd1,fd2,fd3,fd4]) rfl ⟨congrArg Ending.returned HR.out,FX⟩
theorem str_law:WideMaps.KeyLaw Tryz.prog 9:=WideMaps.string_law Tryz.underlying9
theorem str_key {l:List UInt8} (h:l.length≤1000000):∃ x,keyOf Tryz.prog 9 (sV l)=some x:=
 ⟨_,WideMaps.keyOf_string_mk Tryz.underlying9 (show l.length≤maxLen by unfold maxLen;omega)⟩
theorem work_type:Tryz.prog.underlying 87=some (.map 9 85):=by kernel_rfl
def Works (w:World) (m:Nat) (L:List (List UInt8 × Value)):Prop:=
 ∃ es clock,w.heap[m]?=some (.map es clock)∧es.toList.map (fun e=>(e.key,e.val))=L.map (fun p=>(sV p.1,p.2))
theorem Works.lt {w:World} {m:Nat} {L:List (List UInt8 × Value)} (h:Works w m L):m<w.heap.size:=by
 obtain ⟨es,c,hb,_⟩:=h
 rcases Nat.lt_or_ge m w.heap.size with h' | h'
 ·exact h'
 ·rw [Array.getElem?_eq_none h'] at hb;cases hb
theorem Works.keyed {L:List (List UInt8 × Value)} {es:Array MapEntry} (he:es.toList.map (fun e=>(e.key,e.val))=L.map (fun p=>(sV p.1,p.2))) :
  ∀ e ∈ es.toList,∃ p ∈ L,e.key=sV p.1∧e.val=p.2:=fun e hm=>by
 have:(e.key,e.val) ∈ es.toList.map (fun e=>(e.key,e.val)):=List.mem_map.2 ⟨e,hm,rfl⟩;rw [he] at this;obtain ⟨k,hk,hkk⟩:=List.mem_map.1 this;exact ⟨k,hk,(congrArg Prod.fst hkk).symm,(congrArg Prod.snd hkk).symm⟩
theorem sV_inj {a b:List UInt8} (h:sV a=sV b):a=b:=by
 have:a.toArray=b.toArray:=by simpa using h
 exact List.toArray_inj this
theorem ext_block {a w:World} (h:Ext a w) {m:Nat} (hm:a.heap.size≤m) (o:Obj):Ext a { w with heap:=w.heap.setIfInBounds m o }:=
 ⟨h.os,h.tape,h.output,by simpa using h.size,fun k hk=>by
  show (w.heap.setIfInBounds m o)[k]?=_;rw [Array.getElem?_setIfInBounds_ne (by omega)];exact h.block k hk⟩
theorem Works.insert {a w:World} {m:Nat} {L:List (List UInt8 × Value)} (h:Works w m L) (X:Ext a w) (hm:a.heap.size≤m) (hL:∀ p ∈ L,p.1.length≤1000000) {l:List UInt8} (hl:l.length≤1000000) (v:Value) (hn:∀ p ∈ L,p.1 ≠ l) :
  ∃ u,(Instr.mapUpdate 87 (.map (some m)) (sV l) v).run Tryz.prog w=.ok () u∧Works u m (L++[(l,v)])∧Ext a u:=by
 have hlt:=h.lt;obtain ⟨es,clock,hb,he⟩:=h;obtain ⟨x,hx⟩:=str_key hl;have hkeys:∀ e ∈ es.toList,∃ l,keyOf Tryz.prog 9 e.key=some l:=fun e hm=>by
  obtain ⟨p,hp,hj,_⟩:=Works.keyed he e hm;rw [hj];exact str_key (hL p hp)
 rcases str_law.find w hx es.toList hkeys with ⟨h1,h2⟩ | ⟨j,e0,h1,h2,h3⟩
 ·refine ⟨{ w with heap:=w.heap.setIfInBounds m (.map (es.push ⟨sV l,v,clock⟩) (clock+1)) },?_,⟨es.push ⟨sV l,v,clock⟩,clock+1,?_,?_⟩,ext_block X hm _⟩
  ·simp [Instr.mapUpdate,run_underlying work_type,MapKept.run_getObj_map hb,str_law.check w false hx,h1,MapKept.run_setObj_map _ hb,Result.andThen]
  ·show (w.heap.setIfInBounds m _)[m]?=_;rw [Array.getElem?_setIfInBounds_self_of_lt hlt]
  ·rw [Array.toList_push,List.map_append,he,List.map_append];rfl
 ·exfalso;obtain ⟨p,hp,hik,_⟩:=Works.keyed he e0 (List.mem_of_getElem? h2);rw [h3] at hik;exact hn p hp (sV_inj hik).symm
theorem Works.found {w:World} {m:Nat} {L:List (List UInt8 × Value)} (h:Works w m L) (hL:∀ p ∈ L,p.1.length≤1000000) {l:List UInt8} {v:Value} (hm:(l,v) ∈ L) (hu:∀ p ∈ L,p.1=l→p.2=v) :
  (Instr.lookup 87 (.map (some m)) (sV l) true).run Tryz.prog w=.ok (.tuple #[v,.bool true]) w:=by
 obtain ⟨es,clock,hb,he⟩:=h;obtain ⟨x,hx⟩:=str_key (hL _ hm);have hkeys:∀ e ∈ es.toList,∃ l,keyOf Tryz.prog 9 e.key=some l:=fun e hm=>by
  obtain ⟨p,hp,hj,_⟩:=Works.keyed he e hm;rw [hj];exact str_key (hL p hp)
 rcases str_law.find w hx es.toList hkeys with ⟨h1,h2⟩ | ⟨j,e0,h1,h2,h3⟩
 ·exfalso;have:(sV l,v) ∈ L.map (fun p=>(sV p.1,p.2)):=List.mem_map.2 ⟨_,hm,rfl⟩;rw [← he] at this;obtain ⟨e,hm,hee⟩:=List.mem_map.1 this;exact h2 e hm (congrArg Prod.fst hee)
 ·obtain ⟨p,hp,hik,hv⟩:=Works.keyed he e0 (List.mem_of_getElem? h2);rw [h3] at hik;have hv2:=hu p hp (sV_inj hik).symm;rw [hv2] at hv;simp [Instr.lookup,run_underlying work_type,MapKept.run_getObj_map hb,str_law.check w _ hx,h1,Result.andThen,hv]
theorem Works.lost {w:World} {m:Nat} {L:List (List UInt8 × Value)} (h:Works w m L) (hL:∀ p ∈ L,p.1.length≤1000000) {l:List UInt8} (hl:l.length≤1048576) (hn:∀ p ∈ L,p.1 ≠ l) :
  (Instr.lookup 87 (.map (some m)) (sV l) true).run Tryz.prog w=.ok (.tuple #[.nilFunc,.bool false]) w:=by
 obtain ⟨es,clock,hb,he⟩:=h;obtain ⟨x,hx⟩:∃ x,keyOf Tryz.prog 9 (sV l)=some x:=⟨_,WideMaps.keyOf_string_mk Tryz.underlying9 (show l.length≤maxLen by unfold maxLen;omega)⟩;have hkeys:∀ e ∈ es.toList,∃ l,keyOf Tryz.prog 9 e.key=some l:=fun e hm=>by
  obtain ⟨p,hp,hj,_⟩:=Works.keyed he e hm;rw [hj];exact str_key (hL p hp)
 have hz:∀ u:World,(zeroValue 85).run Tryz.prog u=.ok .nilFunc u:=fun u=>by kernel_rfl
 rcases str_law.find w hx es.toList hkeys with ⟨h1,h2⟩ | ⟨j,e0,h1,h2,h3⟩
 ·exact by simp [Instr.lookup,run_underlying work_type,MapKept.run_getObj_map hb,str_law.check w _ hx,h1,Result.andThen,hz w]
 ·exfalso;obtain ⟨p,hp,hik,_⟩:=Works.keyed he e0 (List.mem_of_getElem? h2);rw [h3] at hik;exact hn p hp (sV_inj hik).symm
abbrev fnV (f:Nat):Value:=.func (.func f) #[] #[]
def workL:List (List UInt8 × Value):=[([43],fnV 94),([45],fnV 95),([42],fnV 96),([47],fnV 97),([94],fnV 98),([38],fnV 99),([61],fnV 100),([60,62],fnV 101),([60],fnV 102),([62],fnV 103),([60,61],fnV 104),([62,61],fnV 105)]
theorem workL_len:∀ p ∈ workL,p.1.length≤1000000:=by
 intro p hp;simp only [workL,List.mem_cons,List.not_mem_nil,or_false] at hp
 rcases hp with rfl | rfl | rfl | rfl | rfl | rfl | rfl | rfl | rfl | rfl | rfl | rfl <;> simp
set_option maxRecDepth 8000 in
set_option maxHeartbeats 2000000 in
theorem worksI (w:World):Calls Tryz.prog 70 #[] w fun e w'=>∃ m,e=.returned (.map (some m))∧Works w' m workL∧Ext w w':=by
 have hm:(Instr.makeMap 87 none).run Tryz.prog w=.ok (.map (some w.heap.size)) (w.alloc (.map #[] 0)):=run_makeMap _ w;have X0:=x1 w (.map #[] 0);have W0:Works (w.alloc (.map #[] 0)) w.heap.size []:=⟨#[],0,(MapKept.heap_alloc w _).1,rfl⟩;obtain ⟨u0,h0⟩:∃ u,w.alloc (.map #[] 0)=u:=⟨_,rfl⟩;rw [h0] at hm X0 W0;clear h0;obtain ⟨u1,r1,W1,X1⟩:=W0.insert X0 (Nat.le_refl _) (l:=[43]) (by simp) (by decide) (fnV 94) (by simp);obtain ⟨u2,r2,W2,X2⟩:=W1.insert X1 (Nat.le_refl _) (l:=[45]) (by simp) (by decide) (fnV 95) (by simp);obtain ⟨u3,r3,W3,X3⟩:=W2.insert X2 (Nat.le_refl _) (l:=[42]) (by simp) (by decide) (fnV 96) (by simp);obtain ⟨u4,r4,W4,X4⟩:=W3.insert X3 (Nat.le_refl _) (l:=[47]) (by simp) (by decide) (fnV 97) (by simp);obtain ⟨u5,r5,W5,X5⟩:=W4.insert X4 (Nat.le_refl _) (l:=[94]) (by simp) (by decide) (fnV 98) (by simp);obtain ⟨u6,r6,W6,X6⟩:=W5.insert X5 (Nat.le_refl _) (l:=[38]) (by simp) (by decide) (fnV 99) (by simp);obtain ⟨u7,r7,W7,X7⟩:=W6.insert X6 (Nat.le_refl _) (l:=[61]) (by simp) (by decide) (fnV 100) (by simp);obtain ⟨u8,r8,W8,X8⟩:=W7.insert X7 (Nat.le_refl _) (l:=[60,62]) (by simp) (by decide) (fnV 101) (by simp);obtain ⟨u9,r9,W9,X9⟩:=W8.insert X8 (Nat.le_refl _) (l:=[60]) (by simp) (by decide) (fnV 102) (by simp);obtain ⟨u10,r10,W10,X10⟩:=W9.insert X9 (Nat.le_refl _) (l:=[62]) (by simp) (by decide) (fnV 103) (by simp);obtain ⟨u11,r11,W11,X11⟩:=W10.insert X10 (Nat.le_refl _) (l:=[60,61]) (by simp) (by decide) (fnV 104) (by simp);obtain ⟨u12,r12,W12,X12⟩:=W11.insert X11 (Nat.le_refl _) (l:=[62,61]) (by simp) (by decide) (fnV 105) (by simp);have WF:Hid (Works u12 w.heap.size workL):=W12;clear W0 W1 W2 W3 W4 W5 W6 W7 W8 W9 W10 W11 W12;clear X0 X1 X2 X3 X4 X5 X6 X7 X8 X9 X10 X11;go_enter Tryz.func70,Tryz.ntmps70;go_wp2_with fail;go_ret;exact ⟨_,rfl,WF.out,X12⟩
set_option maxRecDepth 8000 in
set_option maxHeartbeats 2000000 in
theorem of_left (n:Bool) (d x:Int) (t:List UInt8) (k':Int) (n':Bool) (d' x':Int) (t':List UInt8) (fv:Value) (w:World) :
  Calls Tryz.prog 72 #[fv,valV 4 n d x t,valV k' n' d' x' t'] w fun e w'=>e=.returned (valV 4 n d x t)∧Ext w w':=by
 obtain ⟨u0,u1,u2,h0,h1,h2,s0,s1,s2,B0,B1,B2,X⟩:=mkB3 w [.int .i64 4,.bool n,.int .i64 d,.int .i64 x,sV t] [.int .i64 k',.bool n',.int .i64 d',.int .i64 x',sV t'] [.int .i64 0,.bool false,.int .i64 0,.int .i64 0,sV []] 39 39 39;obtain ⟨a0,a1,a2,a3,a4⟩:=Vec.five (B0);obtain ⟨c0,c1,c2,c3,c4⟩:=Vec.five (B1);go_enter Tryz.func72,Tryz.ntmps72;go_wp2_with fail;clear h0 s0 h1 s1 h2 s2 a0 a1 a2 a3 a4 c0 c1 c2 c3 c4;refine (isErrI 4 n d x t u2).mono ?_;rintro e w1 ⟨rfl,e1⟩;obtain ⟨a0,a1,a2,a3,a4⟩:=Vec.five ((B0.later e1));rw [show decide ((4:Int)=4)=true from rfl];obtain ⟨wy,hy,FX,⟨b0,b1,b2,b3,b4⟩,⟨fb0,fb1,fb2,fb3,fb4⟩,fd0,fd1,fd2,fd3,fd4⟩:=fin5 (B2.later e1) (xt X e1) (by omega) 4 n d x t;go_wp2_with fail;exact bodyPost_ret (v:=valV 4 n d x t) (by simp [results,Tryz.results72,go_sem,fd0,fd1,fd2,fd3,fd4]) rfl ⟨rfl,FX⟩
set_option maxRecDepth 8000 in
set_option maxHeartbeats 2000000 in
theorem of_right (k:Int) (n:Bool) (d x:Int) (t:List UInt8) (n':Bool) (d' x':Int) (t':List UInt8) (fv:Value) (h4:k ≠ 4) (w:World) :
  Calls Tryz.prog 72 #[fv,valV k n d x t,valV 4 n' d' x' t'] w fun e w'=>e=.returned (valV 4 n' d' x' t')∧Ext w w':=by
 obtain ⟨u0,u1,u2,h0,h1,h2,s0,s1,s2,B0,B1,B2,X⟩:=mkB3 w [.int .i64 k,.bool n,.int .i64 d,.int .i64 x,sV t] [.int .i64 4,.bool n',.int .i64 d',.int .i64 x',sV t'] [.int .i64 0,.bool false,.int .i64 0,.int .i64 0,sV []] 39 39 39;obtain ⟨a0,a1,a2,a3,a4⟩:=Vec.five (B0);obtain ⟨c0,c1,c2,c3,c4⟩:=Vec.five (B1);go_enter Tryz.func72,Tryz.ntmps72;go_wp2_with fail;clear h0 s0 h1 s1 h2 s2 a0 a1 a2 a3 a4 c0 c1 c2 c3 c4;refine (isErrI k n d x t u2).mono ?_;rintro e w1 ⟨rfl,e1⟩;rw [decide_eq_false h4];obtain ⟨c0,c1,c2,c3,c4⟩:=Vec.five ((B1.later e1));go_wp2_with fail;clear c0 c1 c2 c3 c4;refine (isErrI 4 n' d' x' t' w1).mono ?_;rintro e w2 ⟨rfl,e2⟩;rw [show decide ((4:Int)=4)=true from rfl];obtain ⟨c0,c1,c2,c3,c4⟩:=Vec.five (((B1.later e1).later e2));obtain ⟨wy,hy,FX,⟨b0,b1,b2,b3,b4⟩,⟨fb0,fb1,fb2,fb3,fb4⟩,fd0,fd1,fd2,fd3,fd4⟩:=fin5 ((B2.later e1).later e2) (xt (xt X e1) e2) (by omega) 4 n' d' x' t';go_wp2_with fail;exact bodyPost_ret (v:=valV 4 n' d' x' t') (by simp [results,Tryz.results72,go_sem,fd0,fd1,fd2,fd3,fd4]) rfl ⟨rfl,FX⟩
set_option maxRecDepth 8000 in
set_option maxHeartbeats 2000000 in
theorem of_go (k:Int) (n:Bool) (d x:Int) (t:List UInt8) (k':Int) (n':Bool) (d' x':Int) (t':List UInt8) (f:Nat) (HF:∀ ar w,(callFunc f ar).run Tryz.prog w=.ok (.enter f ar) w) (h4:k ≠ 4) (h4':k' ≠ 4) (w:World) {k2:Int} {n2:Bool} {d2 x2:Int} {t2:List UInt8}
  (H:∀ w1,Ext w w1→Calls Tryz.prog f #[valV k n d x t,valV k' n' d' x' t'] w1 fun e w'=>e=.returned (valV k2 n2 d2 x2 t2)∧Ext w1 w') :
  Calls Tryz.prog 72 #[.func (.func f) #[] #[],valV k n d x t,valV k' n' d' x' t'] w fun e w'=>e=.returned (valV k2 n2 d2 x2 t2)∧Ext w w':=by
 obtain ⟨u0,u1,u2,h0,h1,h2,s0,s1,s2,B0,B1,B2,X⟩:=mkB3 w [.int .i64 k,.bool n,.int .i64 d,.int .i64 x,sV t] [.int .i64 k',.bool n',.int .i64 d',.int .i64 x',sV t'] [.int .i64 0,.bool false,.int .i64 0,.int .i64 0,sV []] 39 39 39;obtain ⟨a0,a1,a2,a3,a4⟩:=Vec.five (B0);obtain ⟨c0,c1,c2,c3,c4⟩:=Vec.five (B1);go_enter Tryz.func72,Tryz.ntmps72;go_wp2_with fail;clear h0 s0 h1 s1 h2 s2 a0 a1 a2 a3 a4 c0 c1 c2 c3 c4;refine (isErrI k n d x t u2).mono ?_;rintro e w1 ⟨rfl,e1⟩;rw [decide_eq_false h4];obtain ⟨c0,c1,c2,c3,c4⟩:=Vec.five ((B1.later e1));go_wp2_with fail;clear c0 c1 c2 c3 c4;refine (isErrI k' n' d' x' t' w1).mono ?_;rintro e w2 ⟨rfl,e2⟩;rw [decide_eq_false h4'];have Xw:=xt (xt X e1) e2;have C0:=(B0.later e1).later e2;have C1:=(B1.later e1).later e2;have C2:=(B2.later e1).later e2;clear B0 B1 B2 X e1 e2;obtain ⟨a0,a1,a2,a3,a4⟩:=Vec.five (C0);obtain ⟨c0,c1,c2,c3,c4⟩:=Vec.five (C1);go_wp2_with fail;clear a0 a1 a2 a3 a4 c0 c1 c2 c3 c4;refine (H w2 Xw).mono ?_;rintro e w3 ⟨rfl,e3⟩;obtain ⟨wy,hy,FX,⟨b0,b1,b2,b3,b4⟩,⟨fb0,fb1,fb2,fb3,fb4⟩,fd0,fd1,fd2,fd3,fd4⟩:=fin5 (C2.later e3) (xt Xw e3) (by omega) k2 n2 d2 x2 t2;go_wp2_with fail;exact bodyPost_ret (v:=valV k2 n2 d2 x2 t2) (by simp [results,Tryz.results72,go_sem,fd0,fd1,fd2,fd3,fd4]) rfl ⟨rfl,FX⟩
set_option maxRecDepth 8000 in
set_option maxHeartbeats 2000000 in
theorem of_cap (k:Int) (n:Bool) (d x:Int) (t:List UInt8) (k':Int) (n':Bool) (d' x':Int) (t':List UInt8) (p:Value) (f:Nat) (HF:∀ ar w,(callFunc f ar).run Tryz.prog w=.ok (.enter f ar) w) (h4:k ≠ 4) (h4':k' ≠ 4) (w:World) {k2:Int} {n2:Bool} {d2 x2:Int} {t2:List UInt8}
  (H:∀ w1,Ext w w1→Calls Tryz.prog f #[valV k n d x t,valV k' n' d' x' t',p] w1 fun e w'=>e=.returned (valV k2 n2 d2 x2 t2)∧Ext w1 w') :
  Calls Tryz.prog 72 #[.func (.func f) #[] #[p],valV k n d x t,valV k' n' d' x' t'] w fun e w'=>e=.returned (valV k2 n2 d2 x2 t2)∧Ext w w':=by
 obtain ⟨u0,u1,u2,h0,h1,h2,s0,s1,s2,B0,B1,B2,X⟩:=mkB3 w [.int .i64 k,.bool n,.int .i64 d,.int .i64 x,sV t] [.int .i64 k',.bool n',.int .i64 d',.int .i64 x',sV t'] [.int .i64 0,.bool false,.int .i64 0,.int .i64 0,sV []] 39 39 39;obtain ⟨a0,a1,a2,a3,a4⟩:=Vec.five (B0);obtain ⟨c0,c1,c2,c3,c4⟩:=Vec.five (B1);go_enter Tryz.func72,Tryz.ntmps72;go_wp2_with fail;clear h0 s0 h1 s1 h2 s2 a0 a1 a2 a3 a4 c0 c1 c2 c3 c4;refine (isErrI k n d x t u2).mono ?_;rintro e w1 ⟨rfl,e1⟩;rw [decide_eq_false h4];obtain ⟨c0,c1,c2,c3,c4⟩:=Vec.five ((B1.later e1));go_wp2_with fail;clear c0 c1 c2 c3 c4;refine (isErrI k' n' d' x' t' w1).mono ?_;rintro e w2 ⟨rfl,e2⟩;rw [decide_eq_false h4'];have Xw:=xt (xt X e1) e2;have C0:=(B0.later e1).later e2;have C1:=(B1.later e1).later e2;have C2:=(B2.later e1).later e2;clear B0 B1 B2 X e1 e2;obtain ⟨a0,a1,a2,a3,a4⟩:=Vec.five (C0);obtain ⟨c0,c1,c2,c3,c4⟩:=Vec.five (C1);go_wp2_with fail;clear a0 a1 a2 a3 a4 c0 c1 c2 c3 c4;refine (H w2 Xw).mono ?_;rintro e w3 ⟨rfl,e3⟩;obtain ⟨wy,hy,FX,⟨b0,b1,b2,b3,b4⟩,⟨fb0,fb1,fb2,fb3,fb4⟩,fd0,fd1,fd2,fd3,fd4⟩:=fin5 (C2.later e3) (xt Xw e3) (by omega) k2 n2 d2 x2 t2;go_wp2_with fail;exact bodyPost_ret (v:=valV k2 n2 d2 x2 t2) (by simp [results,Tryz.results72,go_sem,fd0,fd1,fd2,fd3,fd4]) rfl ⟨rfl,FX⟩
def ordB (o:Nat) (c:Int):Bool:=
 if o=6 then c == 0 else if o=7 then c != 0 else if o=8 then decide (c<0) else if o=9 then decide (0<c) else if o=10 then decide (c≤0) else decide (0≤c)
set_option maxRecDepth 8000 in
set_option maxHeartbeats 2000000 in
theorem sameI (k:Int) (n:Bool) (d x:Int) (t:List UInt8) (k':Int) (n':Bool) (d' x':Int) (t':List UInt8) (w:World) (hl:t.length≤2000000) (hl':t'.length≤2000000) (d1 : -9223372036854775808≤d) (d2:d≤9223372036854775807) (d1' : -9223372036854775808≤d') (d2':d'≤9223372036854775807) (hT:Tens w) (hE:ErrTab w) :
  Calls Tryz.prog 100 #[valV k n d x t,valV k' n' d' x' t'] w fun e w'=>e=.returned (boolW (ordB 6 (compareV k n d x t k' n' d' x' t')))∧Ext w w':=by
 obtain ⟨c,hc⟩:∃ c,compareV k n d x t k' n' d' x' t'=c:=⟨_,rfl⟩;have HC:Hid (compareV k n d x t k' n' d' x' t'=c):=hc;rw [hc];clear hc;obtain ⟨u0,u1,u2,h0,h1,h2,s0,s1,s2,B0,B1,B2,X⟩:=mkB3 w [.int .i64 k,.bool n,.int .i64 d,.int .i64 x,sV t] [.int .i64 k',.bool n',.int .i64 d',.int .i64 x',sV t'] [.int .i64 0,.bool false,.int .i64 0,.int .i64 0,sV []] 39 39 39;obtain ⟨a0,a1,a2,a3,a4⟩:=Vec.five (B0);obtain ⟨c0,c1,c2,c3,c4⟩:=Vec.five (B1);change Calls _ _ _ _ fun e w'=>e=.returned (valV 3 false 0 0 (if (c == 0)=true then trueT else falseT))∧_;obtain ⟨tt,htt⟩:∃ tt,(if (c == 0)=true then trueT else falseT)=tt:=⟨_,rfl⟩;have CB:Hid (∀ W,Calls Tryz.prog 48 #[.bool (c == 0)] W fun e w'=>e=.returned (valV 3 false 0 0 tt)∧Ext W w'):=fun W=>by rw [← htt];exact boolVI _ W
 rw [htt];clear htt;go_enter Tryz.func100,Tryz.ntmps100;go_wp2_with fail;clear h0 s0 h1 s1 h2 s2 a0 a1 a2 a3 a4 c0 c1 c2 c3 c4;refine (compareI k n d x t k' n' d' x' t' u2 hl hl' d1 d2 d1' d2' (hT.later X) (hE.later X)).mono ?_;rintro e w1 ⟨rfl,e1⟩;rw [HC.out];have Xw:=xt X e1;have C2:=B2.later e1;clear B0 B1 B2 hT hE d1 d2 d1' d2' hl hl' HC;go_wp2_with fail;refine (CB.out w1).mono ?_;rintro e w2 ⟨rfl,e2⟩;obtain ⟨wy,hy,FX,⟨b0,b1,b2,b3,b4⟩,⟨fb0,fb1,fb2,fb3,fb4⟩,fd0,fd1,fd2,fd3,fd4⟩:=fin5 (C2.later e2) (xt Xw e2) (by omega) 3 false 0 0 tt;go_wp2_with fail;exact bodyPost_ret (v:=valV 3 false 0 0 tt) (by simp [results,Tryz.results100,go_sem,fd0,fd1,fd2,fd3,fd4]) rfl ⟨rfl,FX⟩
set_option maxRecDepth 8000 in
set_option maxHeartbeats 2000000 in
theorem unlikeI (k:Int) (n:Bool) (d x:Int) (t:List UInt8) (k':Int) (n':Bool) (d' x':Int) (t':List UInt8) (w:World) (hl:t.length≤2000000) (hl':t'.length≤2000000) (d1 : -9223372036854775808≤d) (d2:d≤9223372036854775807) (d1' : -9223372036854775808≤d') (d2':d'≤9223372036854775807) (hT:Tens w) (hE:ErrTab w) :
  Calls Tryz.prog 101 #[valV k n d x t,valV k' n' d' x' t'] w fun e w'=>e=.returned (boolW (ordB 7 (compareV k n d x t k' n' d' x' t')))∧Ext w w':=by
 obtain ⟨c,hc⟩:∃ c,compareV k n d x t k' n' d' x' t'=c:=⟨_,rfl⟩;have HC:Hid (compareV k n d x t k' n' d' x' t'=c):=hc;rw [hc];clear hc;obtain ⟨u0,u1,u2,h0,h1,h2,s0,s1,s2,B0,B1,B2,X⟩:=mkB3 w [.int .i64 k,.bool n,.int .i64 d,.int .i64 x,sV t] [.int .i64 k',.bool n',.int .i64 d',.int .i64 x',sV t'] [.int .i64 0,.bool false,.int .i64 0,.int .i64 0,sV []] 39 39 39;obtain ⟨a0,a1,a2,a3,a4⟩:=Vec.five (B0);obtain ⟨c0,c1,c2,c3,c4⟩:=Vec.five (B1);change Calls _ _ _ _ fun e w'=>e=.returned (valV 3 false 0 0 (if (c != 0)=true then trueT else falseT))∧_;obtain ⟨tt,htt⟩:∃ tt,(if (c != 0)=true then trueT else falseT)=tt:=⟨_,rfl⟩;have CB:Hid (∀ W,Calls Tryz.prog 48 #[.bool (c != 0)] W fun e w'=>e=.returned (valV 3 false 0 0 tt)∧Ext W w'):=fun W=>by rw [← htt];exact boolVI _ W
 rw [htt];clear htt;go_enter Tryz.func101,Tryz.ntmps101;go_wp2_with fail;clear h0 s0 h1 s1 h2 s2 a0 a1 a2 a3 a4 c0 c1 c2 c3 c4;refine (compareI k n d x t k' n' d' x' t' u2 hl hl' d1 d2 d1' d2' (hT.later X) (hE.later X)).mono ?_;rintro e w1 ⟨rfl,e1⟩;rw [HC.out];have Xw:=xt X e1;have C2:=B2.later e1;clear B0 B1 B2 hT hE d1 d2 d1' d2' hl hl' HC;go_wp2_with fail;refine (CB.out w1).mono ?_;rintro e w2 ⟨rfl,e2⟩;obtain ⟨wy,hy,FX,⟨b0,b1,b2,b3,b4⟩,⟨fb0,fb1,fb2,fb3,fb4⟩,fd0,fd1,fd2,fd3,fd4⟩:=fin5 (C2.later e2) (xt Xw e2) (by omega) 3 false 0 0 tt;go_wp2_with fail;exact bodyPost_ret (v:=valV 3 false 0 0 tt) (by simp [results,Tryz.results101,go_sem,fd0,fd1,fd2,fd3,fd4]) rfl ⟨rfl,FX⟩
set_option maxRecDepth 8000 in
set_option maxHeartbeats 2000000 in
theorem belowI (k:Int) (n:Bool) (d x:Int) (t:List UInt8) (k':Int) (n':Bool) (d' x':Int) (t':List UInt8) (w:World) (hl:t.length≤2000000) (hl':t'.length≤2000000) (d1 : -9223372036854775808≤d) (d2:d≤9223372036854775807) (d1' : -9223372036854775808≤d') (d2':d'≤9223372036854775807) (hT:Tens w) (hE:ErrTab w) :
  Calls Tryz.prog 102 #[valV k n d x t,valV k' n' d' x' t'] w fun e w'=>e=.returned (boolW (ordB 8 (compareV k n d x t k' n' d' x' t')))∧Ext w w':=by
 obtain ⟨c,hc⟩:∃ c,compareV k n d x t k' n' d' x' t'=c:=⟨_,rfl⟩;have HC:Hid (compareV k n d x t k' n' d' x' t'=c):=hc;rw [hc];clear hc;obtain ⟨u0,u1,u2,h0,h1,h2,s0,s1,s2,B0,B1,B2,X⟩:=mkB3 w [.int .i64 k,.bool n,.int .i64 d,.int .i64 x,sV t] [.int .i64 k',.bool n',.int .i64 d',.int .i64 x',sV t'] [.int .i64 0,.bool false,.int .i64 0,.int .i64 0,sV []] 39 39 39;obtain ⟨a0,a1,a2,a3,a4⟩:=Vec.five (B0);obtain ⟨c0,c1,c2,c3,c4⟩:=Vec.five (B1);change Calls _ _ _ _ fun e w'=>e=.returned (valV 3 false 0 0 (if (decide (c<0))=true then trueT else falseT))∧_;obtain ⟨tt,htt⟩:∃ tt,(if (decide (c<0))=true then trueT else falseT)=tt:=⟨_,rfl⟩;have CB:Hid (∀ W,Calls Tryz.prog 48 #[.bool (decide (c<0))] W fun e w'=>e=.returned (valV 3 false 0 0 tt)∧Ext W w'):=fun W=>by rw [← htt];exact boolVI _ W
 rw [htt];clear htt;go_enter Tryz.func102,Tryz.ntmps102;go_wp2_with fail;clear h0 s0 h1 s1 h2 s2 a0 a1 a2 a3 a4 c0 c1 c2 c3 c4;refine (compareI k n d x t k' n' d' x' t' u2 hl hl' d1 d2 d1' d2' (hT.later X) (hE.later X)).mono ?_;rintro e w1 ⟨rfl,e1⟩;rw [HC.out];have Xw:=xt X e1;have C2:=B2.later e1;clear B0 B1 B2 hT hE d1 d2 d1' d2' hl hl' HC;go_wp2_with fail;refine (CB.out w1).mono ?_;rintro e w2 ⟨rfl,e2⟩;obtain ⟨wy,hy,FX,⟨b0,b1,b2,b3,b4⟩,⟨fb0,fb1,fb2,fb3,fb4⟩,fd0,fd1,fd2,fd3,fd4⟩:=fin5 (C2.later e2) (xt Xw e2) (by omega) 3 false 0 0 tt;go_wp2_with fail;exact bodyPost_ret (v:=valV 3 false 0 0 tt) (by simp [results,Tryz.results102,go_sem,fd0,fd1,fd2,fd3,fd4]) rfl ⟨rfl,FX⟩
set_option maxRecDepth 8000 in
set_option maxHeartbeats 2000000 in
theorem aboveI (k:Int) (n:Bool) (d x:Int) (t:List UInt8) (k':Int) (n':Bool) (d' x':Int) (t':List UInt8) (w:World) (hl:t.length≤2000000) (hl':t'.length≤2000000) (d1 : -9223372036854775808≤d) (d2:d≤9223372036854775807) (d1' : -9223372036854775808≤d') (d2':d'≤9223372036854775807) (hT:Tens w) (hE:ErrTab w) :
  Calls Tryz.prog 103 #[valV k n d x t,valV k' n' d' x' t'] w fun e w'=>e=.returned (boolW (ordB 9 (compareV k n d x t k' n' d' x' t')))∧Ext w w':=by
 obtain ⟨c,hc⟩:∃ c,compareV k n d x t k' n' d' x' t'=c:=⟨_,rfl⟩;have HC:Hid (compareV k n d x t k' n' d' x' t'=c):=hc;rw [hc];clear hc;obtain ⟨u0,u1,u2,h0,h1,h2,s0,s1,s2,B0,B1,B2,X⟩:=mkB3 w [.int .i64 k,.bool n,.int .i64 d,.int .i64 x,sV t] [.int .i64 k',.bool n',.int .i64 d',.int .i64 x',sV t'] [.int .i64 0,.bool false,.int .i64 0,.int .i64 0,sV []] 39 39 39;obtain ⟨a0,a1,a2,a3,a4⟩:=Vec.five (B0);obtain ⟨c0,c1,c2,c3,c4⟩:=Vec.five (B1);change Calls _ _ _ _ fun e w'=>e=.returned (valV 3 false 0 0 (if (decide (0<c))=true then trueT else falseT))∧_;obtain ⟨tt,htt⟩:∃ tt,(if (decide (0<c))=true then trueT else falseT)=tt:=⟨_,rfl⟩;have CB:Hid (∀ W,Calls Tryz.prog 48 #[.bool (decide (0<c))] W fun e w'=>e=.returned (valV 3 false 0 0 tt)∧Ext W w'):=fun W=>by rw [← htt];exact boolVI _ W
 rw [htt];clear htt;go_enter Tryz.func103,Tryz.ntmps103;go_wp2_with fail;clear h0 s0 h1 s1 h2 s2 a0 a1 a2 a3 a4 c0 c1 c2 c3 c4;refine (compareI k n d x t k' n' d' x' t' u2 hl hl' d1 d2 d1' d2' (hT.later X) (hE.later X)).mono ?_;rintro e w1 ⟨rfl,e1⟩;rw [HC.out];have Xw:=xt X e1;have C2:=B2.later e1;clear B0 B1 B2 hT hE d1 d2 d1' d2' hl hl' HC;go_wp2_with fail;refine (CB.out w1).mono ?_;rintro e w2 ⟨rfl,e2⟩;obtain ⟨wy,hy,FX,⟨b0,b1,b2,b3,b4⟩,⟨fb0,fb1,fb2,fb3,fb4⟩,fd0,fd1,fd2,fd3,fd4⟩:=fin5 (C2.later e2) (xt Xw e2) (by omega) 3 false 0 0 tt;go_wp2_with fail;exact bodyPost_ret (v:=valV 3 false 0 0 tt) (by simp [results,Tryz.results103,go_sem,fd0,fd1,fd2,fd3,fd4]) rfl ⟨rfl,FX⟩
set_option maxRecDepth 8000 in
set_option maxHeartbeats 2000000 in
theorem notAboveI (k:Int) (n:Bool) (d x:Int) (t:List UInt8) (k':Int) (n':Bool) (d' x':Int) (t':List UInt8) (w:World) (hl:t.length≤2000000) (hl':t'.length≤2000000) (d1 : -9223372036854775808≤d) (d2:d≤9223372036854775807) (d1' : -9223372036854775808≤d') (d2':d'≤9223372036854775807) (hT:Tens w) (hE:ErrTab w) :
  Calls Tryz.prog 104 #[valV k n d x t,valV k' n' d' x' t'] w fun e w'=>e=.returned (boolW (ordB 10 (compareV k n d x t k' n' d' x' t')))∧Ext w w':=by
 obtain ⟨c,hc⟩:∃ c,compareV k n d x t k' n' d' x' t'=c:=⟨_,rfl⟩;have HC:Hid (compareV k n d x t k' n' d' x' t'=c):=hc;rw [hc];clear hc;obtain ⟨u0,u1,u2,h0,h1,h2,s0,s1,s2,B0,B1,B2,X⟩:=mkB3 w [.int .i64 k,.bool n,.int .i64 d,.int .i64 x,sV t] [.int .i64 k',.bool n',.int .i64 d',.int .i64 x',sV t'] [.int .i64 0,.bool false,.int .i64 0,.int .i64 0,sV []] 39 39 39;obtain ⟨a0,a1,a2,a3,a4⟩:=Vec.five (B0);obtain ⟨c0,c1,c2,c3,c4⟩:=Vec.five (B1);change Calls _ _ _ _ fun e w'=>e=.returned (valV 3 false 0 0 (if (decide (c≤0))=true then trueT else falseT))∧_;obtain ⟨tt,htt⟩:∃ tt,(if (decide (c≤0))=true then trueT else falseT)=tt:=⟨_,rfl⟩;have CB:Hid (∀ W,Calls Tryz.prog 48 #[.bool (decide (c≤0))] W fun e w'=>e=.returned (valV 3 false 0 0 tt)∧Ext W w'):=fun W=>by rw [← htt];exact boolVI _ W
 rw [htt];clear htt;go_enter Tryz.func104,Tryz.ntmps104;go_wp2_with fail;clear h0 s0 h1 s1 h2 s2 a0 a1 a2 a3 a4 c0 c1 c2 c3 c4;refine (compareI k n d x t k' n' d' x' t' u2 hl hl' d1 d2 d1' d2' (hT.later X) (hE.later X)).mono ?_;rintro e w1 ⟨rfl,e1⟩;rw [HC.out];have Xw:=xt X e1;have C2:=B2.later e1;clear B0 B1 B2 hT hE d1 d2 d1' d2' hl hl' HC;go_wp2_with fail;refine (CB.out w1).mono ?_;rintro e w2 ⟨rfl,e2⟩;obtain ⟨wy,hy,FX,⟨b0,b1,b2,b3,b4⟩,⟨fb0,fb1,fb2,fb3,fb4⟩,fd0,fd1,fd2,fd3,fd4⟩:=fin5 (C2.later e2) (xt Xw e2) (by omega) 3 false 0 0 tt;go_wp2_with fail;exact bodyPost_ret (v:=valV 3 false 0 0 tt) (by simp [results,Tryz.results104,go_sem,fd0,fd1,fd2,fd3,fd4]) rfl ⟨rfl,FX⟩
set_option maxRecDepth 8000 in
set_option maxHeartbeats 2000000 in
theorem notBelowI (k:Int) (n:Bool) (d x:Int) (t:List UInt8) (k':Int) (n':Bool) (d' x':Int) (t':List UInt8) (w:World) (hl:t.length≤2000000) (hl':t'.length≤2000000) (d1 : -9223372036854775808≤d) (d2:d≤9223372036854775807) (d1' : -9223372036854775808≤d') (d2':d'≤9223372036854775807) (hT:Tens w) (hE:ErrTab w) :
  Calls Tryz.prog 105 #[valV k n d x t,valV k' n' d' x' t'] w fun e w'=>e=.returned (boolW (ordB 11 (compareV k n d x t k' n' d' x' t')))∧Ext w w':=by
 obtain ⟨c,hc⟩:∃ c,compareV k n d x t k' n' d' x' t'=c:=⟨_,rfl⟩;have HC:Hid (compareV k n d x t k' n' d' x' t'=c):=hc;rw [hc];clear hc;obtain ⟨u0,u1,u2,h0,h1,h2,s0,s1,s2,B0,B1,B2,X⟩:=mkB3 w [.int .i64 k,.bool n,.int .i64 d,.int .i64 x,sV t] [.int .i64 k',.bool n',.int .i64 d',.int .i64 x',sV t'] [.int .i64 0,.bool false,.int .i64 0,.int .i64 0,sV []] 39 39 39;obtain ⟨a0,a1,a2,a3,a4⟩:=Vec.five (B0);obtain ⟨c0,c1,c2,c3,c4⟩:=Vec.five (B1);change Calls _ _ _ _ fun e w'=>e=.returned (valV 3 false 0 0 (if (decide (0≤c))=true then trueT else falseT))∧_;obtain ⟨tt,htt⟩:∃ tt,(if (decide (0≤c))=true then trueT else falseT)=tt:=⟨_,rfl⟩;have CB:Hid (∀ W,Calls Tryz.prog 48 #[.bool (decide (0≤c))] W fun e w'=>e=.returned (valV 3 false 0 0 tt)∧Ext W w'):=fun W=>by rw [← htt];exact boolVI _ W
 rw [htt];clear htt;go_enter Tryz.func105,Tryz.ntmps105;go_wp2_with fail;clear h0 s0 h1 s1 h2 s2 a0 a1 a2 a3 a4 c0 c1 c2 c3 c4;refine (compareI k n d x t k' n' d' x' t' u2 hl hl' d1 d2 d1' d2' (hT.later X) (hE.later X)).mono ?_;rintro e w1 ⟨rfl,e1⟩;rw [HC.out];have Xw:=xt X e1;have C2:=B2.later e1;clear B0 B1 B2 hT hE d1 d2 d1' d2' hl hl' HC;go_wp2_with fail;refine (CB.out w1).mono ?_;rintro e w2 ⟨rfl,e2⟩;obtain ⟨wy,hy,FX,⟨b0,b1,b2,b3,b4⟩,⟨fb0,fb1,fb2,fb3,fb4⟩,fd0,fd1,fd2,fd3,fd4⟩:=fin5 (C2.later e2) (xt Xw e2) (by omega) 3 false 0 0 tt;go_wp2_with fail;exact bodyPost_ret (v:=valV 3 false 0 0 tt) (by simp [results,Tryz.results105,go_sem,fd0,fd1,fd2,fd3,fd4]) rfl ⟨rfl,FX⟩
end Go.Proofs.YtiaakhogigddbaaGreatDoor

