/-
  Several texts in one: V9l, V9v, V9y.
-/
import Derived.Test.YtiaakhogigddbaaGreatDoorMg42
import Derived.Test.YtiaakhogigddbaaGreatDoorMg41
namespace Go.Proofs.YtiaakhogigddbaaGreatDoor
open Go.RowKit
theorem opN_at {op:List UInt8} {o:Nat} (h:opN op=some o):signL[o]?=some op:=by
 unfold opN at h;rw [List.findIdx?_eq_some_iff_getElem] at h;obtain ⟨hlt,h1,_⟩:=h;rw [List.getElem?_eq_getElem hlt];exact congrArg some (by simpa using h1)
theorem opN_no {op:List UInt8} (h:opN op=none):∀ p ∈ workL,p.1 ≠ op:=by
 unfold opN at h;rw [List.findIdx?_eq_none_iff] at h;intro p hp e;have hm:p.1 ∈ signL:=by
  simp only [workL,List.mem_cons,List.not_mem_nil,or_false] at hp
  rcases hp with rfl | rfl | rfl | rfl | rfl | rfl | rfl | rfl | rfl | rfl | rfl | rfl <;> decide
 have:=h _ hm;simp [e] at this
theorem work_one:∀ p ∈ workL,∀ q ∈ workL,p.1=q.1→p.2=q.2:=by
 have h:(workL.map Prod.fst).Nodup:=by decide
 intro p hp q hq e;obtain ⟨i,hi,rfl⟩:=List.getElem_of_mem hp;obtain ⟨j,hj,rfl⟩:=List.getElem_of_mem hq;have:=(List.getElem_inj (xs:=workL.map Prod.fst) (i:=i) (j:=j) (h₀:=by simpa using hi) (h₁:=by simpa using hj) h).1 (by simpa using e);subst this;rfl
theorem op_work {op:List UInt8} {o:Nat} (h:opN op=some o):∃ f,(op,fnV f) ∈ workL∧(∀ p ∈ workL,p.1=op→p.2=fnV f)∧MakesI o f:=by
 have h1:=opN_at h;have h2:o<12:=(List.getElem?_eq_some_iff.1 h1).1
 match o,h1,h2 with
 | 0,h1,_ =>
  cases h1;exact ⟨94,by simp [workL],fun p hp e=>work_one p hp (_,_) (by simp [workL]) e,makes_0⟩
 | 1,h1,_ =>
  cases h1;exact ⟨95,by simp [workL],fun p hp e=>work_one p hp (_,_) (by simp [workL]) e,makes_1⟩
 | 2,h1,_ =>
  cases h1;exact ⟨96,by simp [workL],fun p hp e=>work_one p hp (_,_) (by simp [workL]) e,makes_2⟩
 | 3,h1,_ =>
  cases h1;exact ⟨97,by simp [workL],fun p hp e=>work_one p hp (_,_) (by simp [workL]) e,makes_3⟩
 | 4,h1,_ =>
  cases h1;exact ⟨98,by simp [workL],fun p hp e=>work_one p hp (_,_) (by simp [workL]) e,makes_4⟩
 | 5,h1,_ =>
  cases h1;exact ⟨99,by simp [workL],fun p hp e=>work_one p hp (_,_) (by simp [workL]) e,makes_5⟩
 | 6,h1,_ =>
  cases h1;exact ⟨100,by simp [workL],fun p hp e=>work_one p hp (_,_) (by simp [workL]) e,makes_6⟩
 | 7,h1,_ =>
  cases h1;exact ⟨101,by simp [workL],fun p hp e=>work_one p hp (_,_) (by simp [workL]) e,makes_7⟩
 | 8,h1,_ =>
  cases h1;exact ⟨102,by simp [workL],fun p hp e=>work_one p hp (_,_) (by simp [workL]) e,makes_8⟩
 | 9,h1,_ =>
  cases h1;exact ⟨103,by simp [workL],fun p hp e=>work_one p hp (_,_) (by simp [workL]) e,makes_9⟩
 | 10,h1,_ =>
  cases h1;exact ⟨104,by simp [workL],fun p hp e=>work_one p hp (_,_) (by simp [workL]) e,makes_10⟩
 | 11,h1,_ =>
  cases h1;exact ⟨105,by simp [workL],fun p hp e=>work_one p hp (_,_) (by simp [workL]) e,makes_11⟩
theorem ofI (o f:Nat) (M:MakesI o f) (k:Int) (n:Bool) (d x:Int) (t:List UInt8) (k':Int) (n':Bool) (d' x':Int) (t':List UInt8) (w:World) (hl:t.length≤1048576) (hl':t'.length≤1048576) (d1 : -9223372036854775808≤d) (d2:d≤9223372036854775807) (d1' : -9223372036854775808≤d') (d2':d'≤9223372036854775807) (hT:Tens w) (hE:ErrTab w) (hI:ItoaC w) (ga:goodV k n d x t=true) (gb:goodV k' n' d' x' t'=true) :
  Calls Tryz.prog 72 #[fnV f,valV k n d x t,valV k' n' d' x' t'] w fun e w'=>e=.returned (workV o k n d x t k' n' d' x' t')∧Ext w w':=by
 unfold workV;by_cases h4:k=4
 ·subst h4;rw [if_pos rfl];exact of_left n d x t k' n' d' x' t' (fnV f) w
 ·rw [if_neg h4];by_cases h4':k'=4
  ·subst h4';rw [if_pos rfl];exact of_right k n d x t n' d' x' t' (fnV f) h4 w
  ·rw [if_neg h4'];obtain ⟨k2,n2,dd2,x2,t2,hv⟩:=makeV_val o k n d x t k' n' d' x' t';rw [hv];refine of_go k n d x t k' n' d' x' t' f M.1 h4 h4' w fun w1 h1=>?_;have:=M.2 k n d x t k' n' d' x' t' w1 hl hl' d1 d2 d1' d2' (hT.later h1) (hE.later h1) (hI.later h1) ga gb h4 h4';rw [hv] at this;exact this
set_option maxRecDepth 8000 in
set_option maxHeartbeats 2000000 in
theorem applyI (op:List UInt8) (k:Int) (n:Bool) (d x:Int) (t:List UInt8) (k':Int) (n':Bool) (d' x':Int) (t':List UInt8) (w:World) (ho:op.length≤1048576) (hl:t.length≤1048576) (hl':t'.length≤1048576) (d1 : -9223372036854775808≤d) (d2:d≤9223372036854775807) (d1' : -9223372036854775808≤d') (d2':d'≤9223372036854775807) (hT:Tens w) (hE:ErrTab w) (hI:ItoaC w) :
  Calls Tryz.prog 47 #[sV op,valV k n d x t,valV k' n' d' x' t'] w fun e w'=>e=.returned (applyV op k n d x t k' n' d' x' t')∧Ext w w':=by
 obtain ⟨R,hR⟩:∃ R,applyV op k n d x t k' n' d' x' t'=R:=⟨_,rfl⟩;have HR0:Hid (applyV op k n d x t k' n' d' x' t'=R):=hR;rw [hR];clear hR;obtain ⟨u0,u1,u2,h0,h1,h2,s0,s1,s2,B0,B1,B2,X⟩:=mkB3 w [.int .i64 k,.bool n,.int .i64 d,.int .i64 x,sV t] [.int .i64 k',.bool n',.int .i64 d',.int .i64 x',sV t'] [.int .i64 0,.bool false,.int .i64 0,.int .i64 0,sV []] 39 39 39;cases hop:opN op with
 | none =>
  have HR:Hid (evV nameT=R):=by show _=_;rw [← HR0.out];unfold applyV;rw [hop]
  go_enter Tryz.func47,Tryz.ntmps47;go_wp2_with fail;clear h0 h1 h2 s0 s1 s2;refine (worksI u2).mono ?_;rintro e w1 ⟨m,rfl,WM,e1⟩;have LK:=WM.lost workL_len ho (opN_no hop);clear WM hop HR0 hT hE hI hl hl' d1 d2 d1' d2' ho;go_wp2_with fail;clear LK;refine (errVI nameT w1).mono ?_;rintro e w2 ⟨rfl,e2⟩;obtain ⟨wy,hy,FX,⟨b0,b1,b2,b3,b4⟩,⟨fb0,fb1,fb2,fb3,fb4⟩,fd0,fd1,fd2,fd3,fd4⟩:=fin5 ((B2.later e1).later e2) (xt (xt X e1) e2) (by omega) 4 false 0 0 nameT;go_wp2_with fail;exact bodyPost_ret (v:=valV 4 false 0 0 nameT) (by simp [results,Tryz.results47,go_sem,fd0,fd1,fd2,fd3,fd4]) rfl ⟨congrArg Ending.returned HR.out,FX⟩
 | some o =>
  obtain ⟨f,hm,hu,M⟩:=op_work hop;have HR1:Hid ((if (goodV k n d x t && goodV k' n' d' x' t')=true then workV o k n d x t k' n' d' x' t' else errW)=R):=by show _=_;rw [← HR0.out];unfold applyV;rw [hop]
  clear HR0;go_enter Tryz.func47,Tryz.ntmps47;go_wp2_with fail;clear h0 h1 h2 s0 s1 s2;refine (worksI u2).mono ?_;rintro e w1 ⟨m,rfl,WM,e1⟩;have LK:=WM.found workL_len hm hu;have C0:=B0.later e1;have C1:=B1.later e1;have C2:=B2.later e1;have X1:=xt X e1;clear WM hop hm hu ho B0 B1 B2 X;obtain ⟨a0,a1,a2,a3,a4⟩:=Vec.five (C0);go_wp2_with fail;clear LK a0 a1 a2 a3 a4;refine (goodVI k n d x t w1 (by omega) d1 d2 (hT.later X1) (hE.later X1)).mono ?_;rintro e w2 ⟨rfl,e2⟩;have D1:=C1.later e2;have D0:=C0.later e2;have D2:=C2.later e2;have X2:=xt X1 e2;clear C0 C1 C2;obtain ⟨g,hg⟩:∃ g,goodV k n d x t=g:=⟨_,rfl⟩;rw [hg] at HR1 ⊢;cases g
  ·have HR:Hid (errW=R):=HR1;clear HR1 hg;go_wp2_with fail;refine (errVI errT w2).mono ?_;rintro e w3 ⟨rfl,e3⟩;obtain ⟨wy,hy,FX,⟨b0,b1,b2,b3,b4⟩,⟨fb0,fb1,fb2,fb3,fb4⟩,fd0,fd1,fd2,fd3,fd4⟩:=fin5 (D2.later e3) (xt X2 e3) (by omega) 4 false 0 0 errT;go_wp2_with fail;exact bodyPost_ret (v:=valV 4 false 0 0 errT) (by simp [results,Tryz.results47,go_sem,fd0,fd1,fd2,fd3,fd4]) rfl ⟨congrArg Ending.returned HR.out,FX⟩
  ·obtain ⟨c0,c1,c2,c3,c4⟩:=Vec.five (D1);go_wp2_with fail;clear c0 c1 c2 c3 c4;refine (goodVI k' n' d' x' t' w2 (by omega) d1' d2' (hT.later X2) (hE.later X2)).mono ?_;rintro e w3 ⟨rfl,e3⟩;have E0:=D0.later e3;have E1:=D1.later e3;have E2:=D2.later e3;have X3:=xt X2 e3;clear D0 D1 D2;obtain ⟨g',hg'⟩:∃ g,goodV k' n' d' x' t'=g:=⟨_,rfl⟩;rw [hg'] at HR1 ⊢;cases g'
   ·have HR:Hid (errW=R):=HR1;clear HR1 hg hg';go_wp2_with fail;refine (errVI errT w3).mono ?_;rintro e w4 ⟨rfl,e4⟩;obtain ⟨wy,hy,FX,⟨b0,b1,b2,b3,b4⟩,⟨fb0,fb1,fb2,fb3,fb4⟩,fd0,fd1,fd2,fd3,fd4⟩:=fin5 (E2.later e4) (xt X3 e4) (by omega) 4 false 0 0 errT;go_wp2_with fail;exact bodyPost_ret (v:=valV 4 false 0 0 errT) (by simp [results,Tryz.results47,go_sem,fd0,fd1,fd2,fd3,fd4]) rfl ⟨congrArg Ending.returned HR.out,FX⟩
   ·have HR2:Hid (workV o k n d x t k' n' d' x' t'=R):=HR1;obtain ⟨k2,n2,dd2,x2,t2,hv⟩:=workV_val o k n d x t k' n' d' x' t';have HR:Hid (valV k2 n2 dd2 x2 t2=R):=(by show _=_;rw [← HR2.out,hv]);have HP:Hid (Calls Tryz.prog 72 #[fnV f,valV k n d x t,valV k' n' d' x' t'] w3 fun e w'=>e=.returned (valV k2 n2 dd2 x2 t2)∧Ext w3 w'):=by
     show Calls _ _ _ _ _;rw [← hv];exact ofI o f M k n d x t k' n' d' x' t' w3 hl hl' d1 d2 d1' d2' (hT.later X3) (hE.later X3) (hI.later X3) hg hg'
    clear HR1 HR2 hv hg hg' hT hE hI hl hl' d1 d2 d1' d2' M;obtain ⟨a0,a1,a2,a3,a4⟩:=Vec.five (E0);obtain ⟨c0,c1,c2,c3,c4⟩:=Vec.five (E1);go_wp2_with fail;clear a0 a1 a2 a3 a4 c0 c1 c2 c3 c4;refine (HP.out).mono ?_;rintro e w4 ⟨rfl,e4⟩;obtain ⟨wy,hy,FX,⟨b0,b1,b2,b3,b4⟩,⟨fb0,fb1,fb2,fb3,fb4⟩,fd0,fd1,fd2,fd3,fd4⟩:=fin5 (E2.later e4) (xt X3 e4) (by omega) k2 n2 dd2 x2 t2;go_wp2_with fail;exact bodyPost_ret (v:=valV k2 n2 dd2 x2 t2) (by simp [results,Tryz.results47,go_sem,fd0,fd1,fd2,fd3,fd4]) rfl ⟨congrArg Ending.returned HR.out,FX⟩
set_option maxRecDepth 8000 in
set_option maxHeartbeats 2000000 in
theorem l6reck (o:Nat) (op:List UInt8) (lv:Int) (hlv:(lv == 1)=false) (h38:(op == [38])=false)
  (HLv:Hid (∀ W,Calls Tryz.prog 63 #[sV op] W fun e w'=>e=.returned (.int .i64 lv)∧w'=W))
  (HS:∀ (n:Bool) (d e:Int) (n':Bool) (d' e':Int),goodB n d e=true→goodB n' d' e'=true→∀ W,Calls Tryz.prog 66 #[sV op,decV n d e,decV n' d' e'] W fun rr w'=>rr=.returned (stepV o n d e n' d' e')∧Ext W w')
  (k:Int) (n:Bool) (d x:Int) (t:List UInt8) (k':Int) (n':Bool) (d' x':Int) (t':List UInt8) (w:World) (hl:t.length≤1048576) (hl':t'.length≤1048576) (ga:goodV k n d x t=true) (gb:goodV k' n' d' x' t'=true) (h4:k ≠ 4) (h4':k' ≠ 4) :
  Calls Tryz.prog 38 #[sV op,valV k n d x t,valV k' n' d' x' t'] w fun e w'=>e=.returned (reckV o k n d x t k' n' d' x' t')∧Ext w w':=by
 have hk4:(k == 4)=false:=by simpa using h4
 have hk4':(k' == 4)=false:=by simpa using h4'
 have CA:Hid (∀ W,Calls Tryz.prog 65 #[valV k n d x t] W fun e w'=>e=.returned (numOf k n d x t)∧Ext W w'):=fun W=>asNumS k n d x t W hl;have CB:Hid (∀ W,Calls Tryz.prog 65 #[valV k' n' d' x' t'] W fun e w'=>e=.returned (numOf k' n' d' x' t')∧Ext W w'):=fun W=>asNumS k' n' d' x' t' W hl';cases hA:numD k n d x t with
 | none =>
  rw [reckV_none hA];rw [numOf_none hA] at CA;clear CB HS hA hl hl' ga gb h4 h4';obtain ⟨u0,u1,u2,h0,h1,h2,s0,s1,s2,B0,B1,B2,X⟩:=mkB3 w [.int .i64 k,.bool n,.int .i64 d,.int .i64 x,sV t] [.int .i64 k',.bool n',.int .i64 d',.int .i64 x',sV t'] [.int .i64 0,.bool false,.int .i64 0,.int .i64 0,sV []] 39 39 39;obtain ⟨a0,a1,a2,a3,a4⟩:=Vec.five (B0);obtain ⟨c0,c1,c2,c3,c4⟩:=Vec.five (B1);go_enter Tryz.func38,Tryz.ntmps38;go_wp2_with fail;refine (HLv.out u2).mono ?_;rintro e w0 ⟨rfl,rfl⟩;go_wp2_with fail;clear h0 s0 h1 s1 h2 s2 a0 a1 a2 a3 a4 c0 c1 c2 c3 c4 hk4 hk4';refine (CA.out w0).mono ?_;rintro e w1 ⟨rfl,e1⟩;obtain ⟨wz,wa1,hwz,hwa1,BN,Y,⟨z0,z1,z2,z3,z4⟩,fz0,fz1,fz2,fz3,fz4⟩:=newB w1 (4) (false) (0) (0) (errT);obtain ⟨g0,g1,g2,g3,g4⟩:=Vec.five (BN);have C2:=(B2.later e1).later Y;have Xy:=xt (xt X e1) Y;clear BN B0 B1 B2 CA;obtain ⟨wy,hy,FX,⟨b0,b1,b2,b3,b4⟩,⟨fb0,fb1,fb2,fb3,fb4⟩,fd0,fd1,fd2,fd3,fd4⟩:=fin5 (C2) (Xy) (by omega) 4 false 0 0 errT;go_wp2_with fail;exact bodyPost_ret (v:=valV 4 false 0 0 errT) (by simp [results,Tryz.results38,go_sem,fd0,fd1,fd2,fd3,fd4]) rfl ⟨rfl,FX⟩
 | some a =>
  obtain ⟨an,ad,ae⟩:=a;obtain ⟨ea,gA⟩:=numOf_some ga h4 hA;rw [ea] at CA;cases hB:numD k' n' d' x' t' with
  | none =>
   rw [reckV_none' hA hB];rw [numOf_none hB] at CB;clear HS hA hB hl hl' ga gb h4 h4' ea gA;obtain ⟨u0,u1,u2,h0,h1,h2,s0,s1,s2,B0,B1,B2,X⟩:=mkB3 w [.int .i64 k,.bool n,.int .i64 d,.int .i64 x,sV t] [.int .i64 k',.bool n',.int .i64 d',.int .i64 x',sV t'] [.int .i64 0,.bool false,.int .i64 0,.int .i64 0,sV []] 39 39 39;obtain ⟨a0,a1,a2,a3,a4⟩:=Vec.five (B0);obtain ⟨c0,c1,c2,c3,c4⟩:=Vec.five (B1);go_enter Tryz.func38,Tryz.ntmps38;go_wp2_with fail;refine (HLv.out u2).mono ?_;rintro e w0 ⟨rfl,rfl⟩;go_wp2_with fail;clear h0 s0 h1 s1 h2 s2 a0 a1 a2 a3 a4 c0 c1 c2 c3 c4 hk4 hk4';refine (CA.out w0).mono ?_;rintro e w1 ⟨rfl,e1⟩;obtain ⟨wz,wa1,hwz,hwa1,BN,Y,⟨z0,z1,z2,z3,z4⟩,fz0,fz1,fz2,fz3,fz4⟩:=newB w1 (1) (an) (ad) (ae) ([]);obtain ⟨g0,g1,g2,g3,g4⟩:=Vec.five (BN);have C1:=(B1.later e1).later Y;have C2:=(B2.later e1).later Y;have Xy:=xt (xt X e1) Y;clear B0 B1 B2 CA X;obtain ⟨c0,c1,c2,c3,c4⟩:=Vec.five (C1);go_wp2_with fail;clear z0 fz0 z1 fz1 z2 fz2 z3 fz3 z4 fz4 g0 g1 g2 g3 g4 c0 c1 c2 c3 c4 hwz hwa1;refine (CB.out wa1).mono ?_;rintro e w2 ⟨rfl,e2⟩;obtain ⟨wt,wu,hwt,hwu,BM,Y2,⟨z0,z1,z2,z3,z4⟩,fz0,fz1,fz2,fz3,fz4⟩:=newB w2 (4) (false) (0) (0) (errT);obtain ⟨g0,g1,g2,g3,g4⟩:=Vec.five (BM);have D2:=(C2.later e2).later Y2;have Xu:=xt (xt Xy e2) Y2;clear BM BN C1 C2 CB;obtain ⟨wy,hy,FX,⟨b0,b1,b2,b3,b4⟩,⟨fb0,fb1,fb2,fb3,fb4⟩,fd0,fd1,fd2,fd3,fd4⟩:=fin5 (D2) (Xu) (by omega) 4 false 0 0 errT;go_wp2_with fail;exact bodyPost_ret (v:=valV 4 false 0 0 errT) (by simp [results,Tryz.results38,go_sem,fd0,fd1,fd2,fd3,fd4]) rfl ⟨rfl,FX⟩
  | some b =>
   obtain ⟨bn,bd,be⟩:=b;obtain ⟨eb,gB⟩:=numOf_some gb h4' hB;rw [eb] at CB;rw [reckV_some hA hB];show Calls _ _ _ _ fun e w'=>e=.returned (stepV o an ad ae bn bd be)∧_;have CS:Hid (∀ W,Calls Tryz.prog 66 #[sV op,decV an ad ae,decV bn bd be] W fun rr w'=>rr=.returned (stepV o an ad ae bn bd be)∧Ext W w'):=HS an ad ae bn bd be gA gB;obtain ⟨k2,n2,dd2,x2,t2,hv⟩:=stepV_val o an ad ae bn bd be;rw [hv] at CS ⊢;clear HS hA hB hl hl' ga gb h4 h4' ea gA eb gB hv;obtain ⟨u0,u1,u2,h0,h1,h2,s0,s1,s2,B0,B1,B2,X⟩:=mkB3 w [.int .i64 k,.bool n,.int .i64 d,.int .i64 x,sV t] [.int .i64 k',.bool n',.int .i64 d',.int .i64 x',sV t'] [.int .i64 0,.bool false,.int .i64 0,.int .i64 0,sV []] 39 39 39;obtain ⟨a0,a1,a2,a3,a4⟩:=Vec.five (B0);obtain ⟨c0,c1,c2,c3,c4⟩:=Vec.five (B1);go_enter Tryz.func38,Tryz.ntmps38;go_wp2_with fail;refine (HLv.out u2).mono ?_;rintro e w0 ⟨rfl,rfl⟩;go_wp2_with fail;clear h0 s0 h1 s1 h2 s2 a0 a1 a2 a3 a4 c0 c1 c2 c3 c4 hk4 hk4';refine (CA.out w0).mono ?_;rintro e w1 ⟨rfl,e1⟩;obtain ⟨wz,wa1,hwz,hwa1,BN,Y,⟨z0,z1,z2,z3,z4⟩,fz0,fz1,fz2,fz3,fz4⟩:=newB w1 (1) (an) (ad) (ae) ([]);obtain ⟨g0,g1,g2,g3,g4⟩:=Vec.five (BN);have C1:=(B1.later e1).later Y;have C2:=(B2.later e1).later Y;have Xy:=xt (xt X e1) Y;clear B0 B1 B2 CA X;obtain ⟨c0,c1,c2,c3,c4⟩:=Vec.five (C1);go_wp2_with fail;clear z0 fz0 z1 fz1 z2 fz2 z3 fz3 z4 fz4 g0 g1 g2 g3 g4 c0 c1 c2 c3 c4 hwz hwa1;refine (CB.out wa1).mono ?_;rintro e w2 ⟨rfl,e2⟩;obtain ⟨wt,wu,hwt,hwu,BM,Y2,⟨z0,z1,z2,z3,z4⟩,fz0,fz1,fz2,fz3,fz4⟩:=newB w2 (1) (bn) (bd) (be) ([]);have BN2:=(BN.later e2).later Y2;obtain ⟨g0,g1,g2,g3,g4⟩:=Vec.five (BM);obtain ⟨i0,i1,i2,i3,i4⟩:=Vec.five (BN2);have D2:=(C2.later e2).later Y2;have Xu:=xt (xt Xy e2) Y2;clear BM BN BN2 C1 C2 CB;go_wp2_with fail;clear z0 fz0 z1 fz1 z2 fz2 z3 fz3 z4 fz4 g0 g1 g2 g3 g4 i0 i1 i2 i3 i4 hwt hwu;refine (CS.out wu).mono ?_;rintro e w3 ⟨rfl,e3⟩;obtain ⟨wy,hy,FX,⟨b0,b1,b2,b3,b4⟩,⟨fb0,fb1,fb2,fb3,fb4⟩,fd0,fd1,fd2,fd3,fd4⟩:=fin5 (D2.later e3) (xt Xu e3) (by omega) k2 n2 dd2 x2 t2;go_wp2_with fail;exact bodyPost_ret (v:=valV k2 n2 dd2 x2 t2) (by simp [results,Tryz.results38,go_sem,fd0,fd1,fd2,fd3,fd4]) rfl ⟨rfl,FX⟩
theorem l6ApplyS (op:List UInt8) (o:Nat) (hop:opN op=some o) (k:Int) (n:Bool) (d x:Int) (t:List UInt8) (k':Int) (n':Bool) (d' x':Int) (t':List UInt8) (w:World) (hl:t.length≤1048576) (hl':t'.length≤1048576) (ga:goodV k n d x t=true) (gb:goodV k' n' d' x' t'=true) :
  Calls Tryz.prog 38 #[sV op,valV k n d x t,valV k' n' d' x' t'] w fun e w'=>e=.returned (workV o k n d x t k' n' d' x' t')∧Ext w w':=by
 unfold workV;by_cases h4:k=4
 ·subst h4;rw [if_pos rfl];exact l6left op n d x t k' n' d' x' t' w
 ·rw [if_neg h4];by_cases h4':k'=4
  ·subst h4';rw [if_pos rfl];exact l6right op k n d x t n' d' x' t' w h4
  ·rw [if_neg h4'];have h1:=opN_at hop;have h2:o<12:=(List.getElem?_eq_some_iff.1 h1).1
   match o,h1,h2 with
   | 0,h1,_ =>
    cases h1;exact l6reck 0 [43] 3 (by decide) (by decide) (fun W=>level_0 W) (fun n d e n' d' e' ga gb W=>plusS n d e n' d' e' W) k n d x t k' n' d' x' t' w hl hl' ga gb h4 h4'
   | 1,h1,_ =>
    cases h1;exact l6reck 1 [45] 3 (by decide) (by decide) (fun W=>level_1 W) (fun n d e n' d' e' ga gb W=>minusS n d e n' d' e' W) k n d x t k' n' d' x' t' w hl hl' ga gb h4 h4'
   | 2,h1,_ =>
    cases h1;exact l6reck 2 [42] 4 (by decide) (by decide) (fun W=>level_2 W) (fun n d e n' d' e' ga gb W=>timesS n d e n' d' e' W) k n d x t k' n' d' x' t' w hl hl' ga gb h4 h4'
   | 3,h1,_ =>
    cases h1;exact l6reck 3 [47] 4 (by decide) (by decide) (fun W=>level_3 W) (fun n d e n' d' e' ga gb W=>overS n d e n' d' e' W) k n d x t k' n' d' x' t' w hl hl' ga gb h4 h4'
   | 4,h1,_ =>
    cases h1;exact l6reck 4 [94] 5 (by decide) (by decide) (fun W=>level_4 W) (fun n d e n' d' e' ga gb W=>raiseS n d e n' d' e' W ga gb) k n d x t k' n' d' x' t' w hl hl' ga gb h4 h4'
   | 5,h1,_ =>
    cases h1;exact l6join k n d x t k' n' d' x' t' w ga gb h4 h4'
   | 6,h1,_ =>
    cases h1;exact l6ord_6 k n d x t k' n' d' x' t' w hl hl' ga gb h4 h4'
   | 7,h1,_ =>
    cases h1;exact l6ord_7 k n d x t k' n' d' x' t' w hl hl' ga gb h4 h4'
   | 8,h1,_ =>
    cases h1;exact l6ord_8 k n d x t k' n' d' x' t' w hl hl' ga gb h4 h4'
   | 9,h1,_ =>
    cases h1;exact l6ord_9 k n d x t k' n' d' x' t' w hl hl' ga gb h4 h4'
   | 10,h1,_ =>
    cases h1;exact l6ord_10 k n d x t k' n' d' x' t' w hl hl' ga gb h4 h4'
   | 11,h1,_ =>
    cases h1;exact l6ord_11 k n d x t k' n' d' x' t' w hl hl' ga gb h4 h4'
def eqVB (k:Int) (n:Bool) (d x:Int) (t:List UInt8) (k':Int) (n':Bool) (d' x':Int) (t':List UInt8):Bool:=decide (k=k'∧n=n'∧d=d'∧x=x'∧t=t')
set_option maxHeartbeats 1000000 in
theorem val_eql (k:Int) (n:Bool) (d x:Int) (t:List UInt8) (k':Int) (n':Bool) (d' x':Int) (t':List UInt8) (W:World) :
  (binOp BinOp.eql 39 (valV k n d x t) (valV k' n' d' x' t')).run Tryz.prog W=.ok (.bool (eqVB k n d x t k' n' d' x' t')) W:=by
 unfold eqVB;by_cases h:k=k'∧n=n'∧d=d'∧x=x'∧t=t'
 ·obtain ⟨rfl,rfl,rfl,rfl,rfl⟩:=h
  go_simp
 ·rw [decide_eq_false h];have H:Hid (¬ (k=k'∧n=n'∧d=d'∧x=x'∧t=t')):=h;clear h
  go_simp
  intros
  have:=H.out
  simp_all
set_option maxHeartbeats 1000000 in
theorem val_neq (k:Int) (n:Bool) (d x:Int) (t:List UInt8) (k':Int) (n':Bool) (d' x':Int) (t':List UInt8) (W:World) :
  (binOp BinOp.neq 39 (valV k n d x t) (valV k' n' d' x' t')).run Tryz.prog W=.ok (.bool (!(eqVB k n d x t k' n' d' x' t'))) W:=by
 unfold eqVB;by_cases h:k=k'∧n=n'∧d=d'∧x=x'∧t=t'
 ·obtain ⟨rfl,rfl,rfl,rfl,rfl⟩:=h
  go_simp
 ·rw [decide_eq_false h];have H:Hid (¬ (k=k'∧n=n'∧d=d'∧x=x'∧t=t')):=h;clear h
  go_simp
  intros
  have:=H.out
  simp_all
def okK (k:Int):Int:=if k=0 then 2 else k
def applyB (op:List UInt8) (k:Int) (n:Bool) (d x:Int) (t:List UInt8) (k':Int) (n':Bool) (d' x':Int) (t':List UInt8):Bool:=
 match opN op with
 | none=>false
 | some o=>decide (6≤o) && ordB o (compareV k n d x t k' n' d' x' t')
def meetT (op:List UInt8) (k:Int) (n:Bool) (d x:Int) (t:List UInt8) (k':Int) (n':Bool) (d' x':Int) (t':List UInt8):Bool:=
 if k=4∧k' ≠ 4 then false else
 if k=4∨k ≠ k' then ((op == [61]) && eqVB k n d x t k' n' d' x' t') || ((op == [60,62]) && !(eqVB k n d x t k' n' d' x' t'))
 else applyB op k n d x t k' n' d' x' t'
def meetB (op:List UInt8) (k:Int) (n:Bool) (d x:Int) (t:List UInt8) (k':Int) (n':Bool) (d' x':Int) (t':List UInt8):Bool:=
 goodV k n d x t && goodV k' n' d' x' t' && meetT op (okK k) n d x t (okK k') n' d' x' t'
theorem okK_good {k:Int} {n:Bool} {d x:Int} {t:List UInt8} (h:goodV k n d x t=true):goodV (okK k) n d x t=true:=by
 unfold okK
 split
 ·next h0 =>
  subst h0;obtain ⟨rfl,rfl,rfl⟩:=goodV_zero h (by decide);obtain rfl:=goodV_empty h;decide
 ·exact h
theorem okK_text {k:Int} {n:Bool} {d x:Int} {t:List UInt8} (h:goodV k n d x t=true) (h0:k=0):valV 2 false 0 0 []=valV (okK k) n d x t:=by
 subst h0;obtain ⟨rfl,rfl,rfl⟩:=goodV_zero h (by decide);obtain rfl:=goodV_empty h;rfl
theorem stepV_kind {o:Nat} {n:Bool} {d e:Int} {n':Bool} {d' e':Int} {k2:Int} {n2:Bool} {d2 x2:Int} {t2:List UInt8} (h:stepV o n d e n' d' e'=valV k2 n2 d2 x2 t2):k2 ≠ 3:=by
 rintro rfl;have put:∀ r:DR,putV r ≠ valV 3 n2 d2 x2 t2:=fun r h=>by
  unfold putV at h
  split at h
  ·simp at h
  ·simp at h
 unfold stepV powerV at h
 repeat' split at h
 all_goals first | exact put _ h | simp at h
theorem apply_true {op:List UInt8} {k:Int} {n:Bool} {d x:Int} {t:List UInt8} {k':Int} {n':Bool} {d' x':Int} {t':List UInt8} {k2:Int} {n2:Bool} {d2 x2:Int} {t2:List UInt8} (ga:goodV k n d x t=true) (gb:goodV k' n' d' x' t'=true) (h4:k ≠ 4) (h4':k' ≠ 4)
  (h:applyV op k n d x t k' n' d' x' t'=valV k2 n2 d2 x2 t2):eqVB k2 n2 d2 x2 t2 3 false 0 0 trueT=applyB op k n d x t k' n' d' x' t':=by
 have no:k2 ≠ 3→eqVB k2 n2 d2 x2 t2 3 false 0 0 trueT=false:=fun hk=>decide_eq_false fun e=>hk e.1;unfold applyV at h;unfold applyB;cases ho:opN op with
 | none =>
  rw [ho] at h;refine no fun e=>?_;subst e;simp at h
 | some o =>
  rw [ho] at h;show _=(decide (6≤o) && ordB o (compareV k n d x t k' n' d' x' t'));simp only [ga,gb,Bool.and_self,if_true] at h;unfold workV at h;rw [if_neg h4,if_neg h4'] at h;unfold makeV at h;by_cases h5:o<5
  ·rw [if_pos h5] at h;rw [show decide (6≤o)=false by simp;omega,Bool.false_and];refine no fun e=>?_;subst e;unfold reckV at h
   split at h
   ·simp at h
   ·split at h
    ·simp at h
    ·exact stepV_kind h rfl
  ·rw [if_neg h5] at h;by_cases h6:o=5
   ·rw [if_pos h6] at h;rw [show decide (6≤o)=false by simp;omega,Bool.false_and];refine no fun e=>?_;subst e;unfold joinV at h
    split at h
    ·simp at h
    ·simp at h
   ·rw [if_neg h6] at h;rw [show decide (6≤o)=true by simp;omega,Bool.true_and];cases hb:ordB o (compareV k n d x t k' n' d' x' t') with
    | false =>
     rw [hb] at h;refine decide_eq_false fun e=>?_;obtain ⟨rfl,rfl,rfl,rfl,rfl⟩:=e;simp at h
    | true =>
     rw [hb] at h;have h2:(3:Int)=k2∧false=n2∧(0:Int)=d2∧(0:Int)=x2∧sV trueT=sV t2:=(by simpa using h);obtain ⟨rfl,rfl,rfl,rfl,h3⟩:=h2;exact decide_eq_true ⟨rfl,rfl,rfl,rfl,(sV_inj h3).symm⟩
set_option maxRecDepth 8000 in
set_option maxHeartbeats 2000000 in
theorem orTextI (k:Int) (n:Bool) (d x:Int) (t:List UInt8) (w:World) (ga:goodV k n d x t=true) :
  Calls Tryz.prog 45 #[valV k n d x t] w fun e w'=>e=.returned (valV (okK k) n d x t)∧Ext w w':=by
 obtain ⟨u0,u1,e0,e1,s0,s1,B0,B1,X⟩:=mkB2 w [.int .i64 k,.bool n,.int .i64 d,.int .i64 x,sV t] [.int .i64 0,.bool false,.int .i64 0,.int .i64 0,sV []] 39 39;obtain ⟨a0,a1,a2,a3,a4⟩:=Vec.five (B0);by_cases h0:k=0
 ·rw [← okK_text ga h0];subst h0;clear ga;go_enter Tryz.func45,Tryz.ntmps45;go_wp2_with fail;clear e0 e1 s0 s1 a0 a1 a2 a3 a4;refine (textVI [] u1).mono ?_;rintro e w1 ⟨rfl,f1⟩;obtain ⟨wy,hy,FX,⟨b0,b1,b2,b3,b4⟩,⟨fb0,fb1,fb2,fb3,fb4⟩,fd0,fd1,fd2,fd3,fd4⟩:=fin5 (B1.later f1) (xt X f1) (by omega) 2 false 0 0 [];go_wp2_with fail;exact bodyPost_ret (v:=valV 2 false 0 0 []) (by simp [results,Tryz.results45,go_sem,fd0,fd1,fd2,fd3,fd4]) rfl ⟨rfl,FX⟩
 ·rw [show okK k=k from if_neg h0];clear ga;have hk:(k == 0)=false:=by simpa using h0
  go_enter Tryz.func45,Tryz.ntmps45;obtain ⟨wy,hy,FX,⟨b0,b1,b2,b3,b4⟩,⟨fb0,fb1,fb2,fb3,fb4⟩,fd0,fd1,fd2,fd3,fd4⟩:=fin5 (B1) (X) (by omega) k n d x t;go_wp2_with fail;exact bodyPost_ret (v:=valV k n d x t) (by simp [results,Tryz.results45,go_sem,fd0,fd1,fd2,fd3,fd4]) rfl ⟨rfl,FX⟩
set_option maxRecDepth 8000 in
set_option maxHeartbeats 20000000 in
theorem meetsI (op:List UInt8) (k:Int) (n:Bool) (d x:Int) (t:List UInt8) (k':Int) (n':Bool) (d' x':Int) (t':List UInt8) (w:World) (ho:op.length≤1048576) (hl:t.length≤1048576) (hl':t'.length≤1048576) (d1 : -9223372036854775808≤d) (d2:d≤9223372036854775807) (d1' : -9223372036854775808≤d') (d2':d'≤9223372036854775807) (hT:Tens w) (hE:ErrTab w) (hI:ItoaC w) :
  Calls Tryz.prog 26 #[valV k n d x t,sV op,valV k' n' d' x' t'] w fun e w'=>e=.returned (.bool (meetB op k n d x t k' n' d' x' t'))∧Ext w w':=by
 obtain ⟨R,hR⟩:∃ R,meetB op k n d x t k' n' d' x' t'=R:=⟨_,rfl⟩;have HR0:Hid (meetB op k n d x t k' n' d' x' t'=R):=hR;rw [hR];clear hR;obtain ⟨u0,u1,h0,h1,s0,s1,B0,B1,X⟩:=mkB2 w [.int .i64 k,.bool n,.int .i64 d,.int .i64 x,sV t] [.int .i64 k',.bool n',.int .i64 d',.int .i64 x',sV t'] 39 39;obtain ⟨a0,a1,a2,a3,a4⟩:=Vec.five (B0);go_enter Tryz.func26,Tryz.ntmps26;go_wp2_with fail;clear h0 h1 s0 s1 a0 a1 a2 a3 a4;refine (goodVI k n d x t u1 (by omega) d1 d2 (hT.later X) (hE.later X)).mono ?_;rintro e w2 ⟨rfl,e2⟩;have D0:=B0.later e2;have D1:=B1.later e2;have X2:=xt X e2;clear B0 B1 X;obtain ⟨g,hg⟩:∃ g,goodV k n d x t=g:=⟨_,rfl⟩;rw [hg];cases g
 ·have HR:Hid (false=R):=by show _=_;rw [← HR0.out];unfold meetB;rw [hg];rfl
  clear hT hE hI;go_wp2_with fail;go_ret;exact ⟨congrArg (fun z=>Ending.returned (.bool z)) HR.out,X2⟩
 ·obtain ⟨c0,c1,c2,c3,c4⟩:=Vec.five (D1);go_wp2_with fail;clear c0 c1 c2 c3 c4;refine (goodVI k' n' d' x' t' w2 (by omega) d1' d2' (hT.later X2) (hE.later X2)).mono ?_;rintro e w3 ⟨rfl,e3⟩;have E0:=D0.later e3;have E1:=D1.later e3;have X3:=xt X2 e3;clear D0 D1;obtain ⟨g',hg'⟩:∃ g,goodV k' n' d' x' t'=g:=⟨_,rfl⟩;rw [hg'];cases g'
  ·have HR:Hid (false=R):=by show _=_;rw [← HR0.out];unfold meetB;rw [hg,hg'];rfl
   clear hT hE hI;go_wp2_with fail;go_ret;exact ⟨congrArg (fun z=>Ending.returned (.bool z)) HR.out,X3⟩
  ·have HR1:Hid (meetT op (okK k) n d x t (okK k') n' d' x' t'=R):=by show _=_;rw [← HR0.out];unfold meetB;rw [hg,hg'];rfl
   have CA:Hid (∀ W,Calls Tryz.prog 45 #[valV k n d x t] W fun e w'=>e=.returned (valV (okK k) n d x t)∧Ext W w'):=fun W=>orTextI k n d x t W hg;have CB:Hid (∀ W,Calls Tryz.prog 45 #[valV k' n' d' x' t'] W fun e w'=>e=.returned (valV (okK k') n' d' x' t')∧Ext W w'):=fun W=>orTextI k' n' d' x' t' W hg';have GA:=okK_good hg;have GB:=okK_good hg';obtain ⟨p,hp⟩:∃ p,okK k=p:=⟨_,rfl⟩;obtain ⟨q,hq⟩:∃ q,okK k'=q:=⟨_,rfl⟩;rw [hp] at HR1 CA GA;rw [hq] at HR1 CB GB;have HG:Hid (goodV p n d x t=true∧goodV q n' d' x' t'=true):=⟨GA,GB⟩;clear HR0 hg hg' GA GB hp hq;go_wp2_with fail;refine wp_region_letters (fun lx:Nat→Value=>{ tmps:=#[valV k n d x t,sV op,valV k' n' d' x' t',.pointer (some ⟨w.heap.size,0,none⟩),undef,.pointer (some ⟨w.heap.size+1,0,none⟩),.bool false,valV k n d x t,.bool true,.bool false,.bool false,valV k' n' d' x' t',.bool true,.bool false,.bool false,lx 15,lx 16,lx 17,lx 18,undef,undef,undef,undef,undef,undef,undef,undef,undef,undef,undef,undef,undef,undef,undef,undef,undef,undef,undef,undef,undef,undef,undef,undef,undef,undef,undef,undef,undef,undef,undef,undef,undef,undef,undef,undef,undef,undef,undef,undef],defers:=[] }) (fun L lx lw=>Hid (Ext w lw∧(L 0=true→lx 15=valV k n d x t)∧(L 1=true→lx 16=valV p n d x t)∧(L 2=true→lx 17=valV k' n' d' x' t')∧(L 3=true→lx 18=valV q n' d' x' t')∧(L 4=false→Vec lw (w.heap.size) [.int .i64 k,.bool n,.int .i64 d,.int .i64 x,sV t])∧(L 4=true→Vec lw (w.heap.size) [.int .i64 p,.bool n,.int .i64 d,.int .i64 x,sV t])∧(L 4=true→L 0=true)∧(L 5=false→Vec lw (w.heap.size+1) [.int .i64 k',.bool n',.int .i64 d',.int .i64 x',sV t'])∧(L 5=true→Vec lw (w.heap.size+1) [.int .i64 q,.bool n',.int .i64 d',.int .i64 x',sV t'])∧(L 5=true→L 2=true))) rfl (by kernel_rfl) (fun jj=>undef) rfl ?_ ?_ ?_
   ·exact ⟨xd X3,(fun h=>by cases h),(fun h=>by cases h),(fun h=>by cases h),(fun h=>by cases h),fun _=>E0.later (xd (xr _)),(fun h=>by cases h),(fun h=>by cases h),fun _=>E1.later (xd (xr _)),(fun h=>by cases h),(fun h=>by cases h)⟩
   ·intro L lx wl i o K hK ho hL haf hI;obtain ⟨X,f0,f1,f2,f3,f4,f5,f6,f7,f8,f9⟩:=hI.out
    match i,ho,hL,haf,hK with
    | 0,ho,hL,haf,hK =>
     cases ho
     (try dsimp only)
     have h6:L 4=false:=by
      cases hh:L 4 with
      | false=>rfl
      | true=>have:=f6 hh;rw [hL] at this;cases this
     have bx:=f4 h6;obtain ⟨a0,a1,a2,a3,a4⟩:=Vec.five (bx);go_wp2_with fail;exact hK (fun jj=>if jj=15 then valV k n d x t else lx jj) _ ⟨X,(fun _=>rfl),f1,f2,f3,f4,f5,(fun _=>rfl),f7,f8,f9⟩
    | 1,ho,hL,haf,hK =>
     cases ho
     (try dsimp only)
     rw [f0 (haf ⟨0,.data⟩ (by simp) rfl)];go_wp2_with fail;refine (CA.out wl).mono ?_;rintro rr w' ⟨rfl,E⟩;go_wp2_with fail;exact hK (fun jj=>if jj=16 then valV p n d x t else if jj=15 then valV k n d x t else lx jj) _ ⟨xt X E,(fun _=>rfl),(fun _=>rfl),f2,f3,(fun h=>(f4 h).later E),(fun h=>(f5 h).later E),f6,(fun h=>(f7 h).later E),(fun h=>(f8 h).later E),f9⟩
    | 2,ho,hL,haf,hK =>
     cases ho
     (try dsimp only)
     have h6:L 5=false:=by
      cases hh:L 5 with
      | false=>rfl
      | true=>have:=f9 hh;rw [hL] at this;cases this
     have bx:=f7 h6;obtain ⟨a0,a1,a2,a3,a4⟩:=Vec.five (bx);go_wp2_with fail;exact hK (fun jj=>if jj=17 then valV k' n' d' x' t' else lx jj) _ ⟨X,f0,f1,(fun _=>rfl),f3,f4,f5,f6,f7,f8,(fun _=>rfl)⟩
    | 3,ho,hL,haf,hK =>
     cases ho
     (try dsimp only)
     rw [f2 (haf ⟨2,.data⟩ (by simp) rfl)];go_wp2_with fail;refine (CB.out wl).mono ?_;rintro rr w' ⟨rfl,E⟩;go_wp2_with fail;exact hK (fun jj=>if jj=18 then valV q n' d' x' t' else if jj=17 then valV k' n' d' x' t' else lx jj) _ ⟨xt X E,f0,f1,(fun _=>rfl),(fun _=>rfl),(fun h=>(f4 h).later E),(fun h=>(f5 h).later E),f6,(fun h=>(f7 h).later E),(fun h=>(f8 h).later E),f9⟩
    | 4,ho,hL,haf,hK =>
     cases ho
     (try dsimp only)
     have h0:Hid (L 0=true):=haf ⟨0,.phase⟩ (by simp) rfl;rw [f1 (haf ⟨1,.data⟩ (by simp) rfl)];have bx:=f4 hL;obtain ⟨b0,b1,b2,b3,b4⟩:=Vec.five (bx);obtain ⟨fb0,fb1,fb2,fb3,fb4⟩:=Vec.fiveF (bx);have hX:=Ext.setL (b:=w.heap.size) (by omega) [.int .i64 p,.bool n,.int .i64 d,.int .i64 x,sV t] 0 X;have hB:=bx.put5 (.int .i64 p) (.bool n) (.int .i64 d) (.int .i64 x) (sV t);go_wp2_with fail;exact hK (fun jj=>if jj=16 then valV p n d x t else lx jj) _ ⟨hX,f0,(fun _=>rfl),f2,f3,(fun h=>by cases h),(fun _=>hB),(fun _=>h0.out),(fun h=>Vec.farL (k:=w.heap.size) (by omega) [.int .i64 p,.bool n,.int .i64 d,.int .i64 x,sV t] 0 (f7 h)),(fun h=>Vec.farL (k:=w.heap.size) (by omega) [.int .i64 p,.bool n,.int .i64 d,.int .i64 x,sV t] 0 (f8 h)),f9⟩
    | 5,ho,hL,haf,hK =>
     cases ho
     (try dsimp only)
     have h2:Hid (L 2=true):=haf ⟨2,.phase⟩ (by simp) rfl;rw [f3 (haf ⟨3,.data⟩ (by simp) rfl)];have bx:=f7 hL;obtain ⟨b0,b1,b2,b3,b4⟩:=Vec.five (bx);obtain ⟨fb0,fb1,fb2,fb3,fb4⟩:=Vec.fiveF (bx);have hX:=Ext.setL (b:=w.heap.size+1) (by omega) [.int .i64 q,.bool n',.int .i64 d',.int .i64 x',sV t'] 0 X;have hB:=bx.put5 (.int .i64 q) (.bool n') (.int .i64 d') (.int .i64 x') (sV t');go_wp2_with fail;exact hK (fun jj=>if jj=18 then valV q n' d' x' t' else lx jj) _ ⟨hX,f0,f1,f2,(fun _=>rfl),(fun h=>Vec.farL (k:=w.heap.size+1) (by omega) [.int .i64 q,.bool n',.int .i64 d',.int .i64 x',sV t'] 0 (f4 h)),(fun h=>Vec.farL (k:=w.heap.size+1) (by omega) [.int .i64 q,.bool n',.int .i64 d',.int .i64 x',sV t'] 0 (f5 h)),f6,(fun h=>by cases h),(fun _=>hB),(fun _=>h2.out)⟩
    | k+6,ho,_,_,_=>simp at ho
   ·intro L lx wr hall hI;obtain ⟨XR,f0,f1,f2,f3,f4,f5,f6,f7,f8,f9⟩:=hI.out;clear hI;replace f0:=f0 (hall 0 (by simp));replace f1:=f1 (hall 1 (by simp));replace f2:=f2 (hall 2 (by simp));replace f3:=f3 (hall 3 (by simp));have BR4:=f5 (hall 4 (by simp));have BR5:=f8 (hall 5 (by simp))
    (try dsimp only)
    rw [f0,f1,f2,f3];clear hall f0 f1 f2 f3 f4 f5 f6 f7 f8 f9;clear E0 E1 CA CB;obtain ⟨E,hEq⟩:∃ E,eqVB p n d x t q n' d' x' t'=E:=⟨_,rfl⟩;have VE:=fun W=>val_eql p n d x t q n' d' x' t' W;have VN:=fun W=>val_neq p n d x t q n' d' x' t' W;rw [hEq] at VE VN;obtain ⟨o1,ho1⟩:∃ o,(op == [61])=o:=⟨_,rfl⟩;obtain ⟨o2,ho2⟩:∃ o,(op == [60,62])=o:=⟨_,rfl⟩;have Q0:=BR4;have Q1:=BR5;clear BR4 BR5;obtain ⟨a0,a1,a2,a3,a4⟩:=Vec.five (Q0);obtain ⟨c0,c1,c2,c3,c4⟩:=Vec.five (Q1);go_wp2_with fail;clear a0 a1 a2 a3 a4 c0 c1 c2 c3 c4;refine (isErrI p n d x t wr).mono ?_;rintro e w4 ⟨rfl,e4⟩;have XS:=xt XR e4;have R0:=Q0.later e4;have R1:=Q1.later e4;clear Q0 Q1;obtain ⟨a0,a1,a2,a3,a4⟩:=Vec.five (R0);obtain ⟨c0,c1,c2,c3,c4⟩:=Vec.five (R1);by_cases p4:p=4
    ·subst p4;rw [show decide ((4:Int)=4)=true from rfl];go_wp2_with fail;clear a0 a1 a2 a3 a4 c0 c1 c2 c3 c4;refine (isErrI q n' d' x' t' w4).mono ?_;rintro e w5 ⟨rfl,e5⟩;have XT:=xt XS e5;have U0:=R0.later e5;have U1:=R1.later e5;clear R0 R1;by_cases q4:q=4
     ·subst q4;rw [show decide ((4:Int)=4)=true from rfl];have HR2:Hid (((o1 && E) || (o2 && !E))=R):=(by show _=_;rw [← HR1.out];unfold meetT;rw [if_neg (by intro h;exact h.2 rfl),if_pos (by exact Or.inl rfl),hEq,ho1,ho2]);obtain ⟨a0,a1,a2,a3,a4⟩:=Vec.five (U0);obtain ⟨c0,c1,c2,c3,c4⟩:=Vec.five (U1);go_wp2_with fail;clear a0 a1 a2 a3 a4 c0 c1 c2 c3 c4;refine (isErrI 4 n d x t w5).mono ?_;rintro e w6 ⟨rfl,e6⟩;rw [show decide ((4:Int)=4)=true from rfl];have XU:=xt XT e6;obtain ⟨a0,a1,a2,a3,a4⟩:=Vec.five ((U0.later e6));obtain ⟨c0,c1,c2,c3,c4⟩:=Vec.five ((U1.later e6));clear HR1 U0 U1;cases o1 <;> cases E <;> cases o2
      all_goals
       clear hEq;go_wp2_with fail;go_ret;exact ⟨congrArg (fun z=>Ending.returned (.bool z)) HR2.out,XU⟩
     ·rw [decide_eq_false q4];have HR:Hid (false=R):=(by show _=_;rw [← HR1.out];unfold meetT;rw [if_pos ⟨rfl,q4⟩]);clear U0 U1;go_wp2_with fail;go_ret;exact ⟨congrArg (fun z=>Ending.returned (.bool z)) HR.out,XT⟩
    ·rw [decide_eq_false p4];go_wp2_with fail;clear a0 a1 a2 a3 a4 c0 c1 c2 c3 c4;refine (isErrI p n d x t w4).mono ?_;rintro e w5 ⟨rfl,e5⟩;rw [decide_eq_false p4];have XT:=xt XS e5;have U0:=R0.later e5;have U1:=R1.later e5;clear R0 R1;obtain ⟨a0,a1,a2,a3,a4⟩:=Vec.five (U0);obtain ⟨c0,c1,c2,c3,c4⟩:=Vec.five (U1);by_cases pq:p=q
     ·subst pq;have hpq:(p != p)=false:=(by simp);have q4:=p4;obtain ⟨k2,n2,dd2,x2,t2,hv⟩:=applyV_val op p n d x t p n' d' x' t';have HR:Hid (eqVB k2 n2 dd2 x2 t2 3 false 0 0 trueT=R):=(by show _=_;rw [apply_true HG.out.1 HG.out.2 p4 q4 hv,← HR1.out];unfold meetT;rw [if_neg (fun h=>p4 h.1),if_neg (fun h=>h.elim p4 fun h=>h rfl)]);have CP:Hid (Calls Tryz.prog 47 #[sV op,valV p n d x t,valV p n' d' x' t'] w5 fun e w'=>e=.returned (valV k2 n2 dd2 x2 t2)∧Ext w5 w'):=by
       show Calls _ _ _ _ _;rw [← hv];exact applyI op p n d x t p n' d' x' t' w5 ho hl hl' d1 d2 d1' d2' (hT.later XT) (hE.later XT) (hI.later XT)
      have CT:Hid (∀ W,Calls Tryz.prog 48 #[.bool true] W fun e w'=>e=.returned (valV 3 false 0 0 trueT)∧Ext W w'):=fun W=>boolVI true W;obtain ⟨tr,htr⟩:∃ tr,trueT=tr:=⟨_,rfl⟩;rw [htr] at CT HR;have VL:=fun W=>val_eql k2 n2 dd2 x2 t2 3 false 0 0 tr W;clear htr hv HR1 U0 U1 VE VN hEq;go_wp2_with fail;refine (CP.out).mono ?_;rintro e w6 ⟨rfl,e6⟩;go_wp2_with fail;refine (CT.out w6).mono ?_;rintro e w7 ⟨rfl,e7⟩;go_wp2_with fail;go_ret;exact ⟨congrArg (fun z=>Ending.returned (.bool z)) HR.out,xt (xt XT e6) e7⟩
     ·have hpq:(p != q)=true:=(by simpa using pq);have HR2:Hid (((o1 && E) || (o2 && !E))=R):=(by show _=_;rw [← HR1.out];unfold meetT;rw [if_neg (by intro h;exact p4 h.1),if_pos (by exact Or.inr pq),hEq,ho1,ho2]);clear HR1 U0 U1;cases o1 <;> cases E <;> cases o2
      all_goals
       clear hEq;go_wp2_with fail;go_ret;exact ⟨congrArg (fun z=>Ending.returned (.bool z)) HR2.out,XT⟩
end Go.Proofs.YtiaakhogigddbaaGreatDoor

