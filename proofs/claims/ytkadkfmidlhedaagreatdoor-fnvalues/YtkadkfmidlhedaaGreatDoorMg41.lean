/-
  Several texts in one: V6g, V6h, V8n, V9a, W9p, X9j, V6m.
-/
import Derived.Test.YtkadkfmidlhedaaGreatDoorMg22
import Derived.Test.YtkadkfmidlhedaaGreatDoorMg39
import Derived.Test.YtkadkfmidlhedaaGreatDoorMg40
import Derived.Test.YtkadkfmidlhedaaGreatDoorMg32
import Derived.Test.YtkadkfmidlhedaaGreatDoorMg35
import Derived.Test.YtkadkfmidlhedaaGreatDoorSuM
import Derived.Test.YtkadkfmidlhedaaGreatDoorPwM
import Derived.Test.YtkadkfmidlhedaaGreatDoorSqM
import Derived.Test.YtkadkfmidlhedaaGreatDoorMg24
set_option maxRecDepth 8000
set_option maxHeartbeats 2000000
namespace Go.Proofs.YtkadkfmidlhedaaGreatDoor
open Go.RowKit
def zBO (k:Int) (n:Bool) (d x:Int) (t:List UInt8):Value:=
 if k=0 then valV 2 false 0 0 [] else if k=1 then valV 2 false 0 0 (zBW n d x) else if k=3 then valV 2 false 0 0 t else valV k n d x t
def zDD (k:Int) (n:Bool) (d x:Int) (t:List UInt8):Value:=if zA4 k n d x t then zBO k n d x t else errW
theorem zVI {s:ByteArray} {l:List UInt8} (h:s.data.toList=l):(.string s:Value)=sV l:=by
 subst h;rfl
theorem zJZ (k:Int) (n:Bool) (d x:Int) (t:List UInt8) (w:World) (hl:t.length<=2000000) (d1 : -9223372036854775808<=d) (d2:d<=9223372036854775807) (hT:Tens w) (hE:zAH w) (hI:zEN w) :
  Calls Tryz.prog 55 #[valV k n d x t] w fun e w'=>e=.returned (zDD k n d x t)/\Ext w w':=by
 obtain ⟨R,hR⟩:=nm (zDD k n d x t);have HR0:Hid (zDD k n d x t=R):=hR;rw [hR];clear hR;obtain ⟨wa,wb,ha,hb,sa,_,B1,B2,X⟩:=mkB2 w [iQ k,.bool n,iQ d,iQ x,sV t] [iQ 0,.bool false,iQ 0,iQ 0,sV []] 26 26;obtain ⟨a0,a1,a2,a3,a4⟩:=Vec.five B1;go_enter Tryz.func55,Tryz.ntmps55;go_wp2_with fail;clear ha hb sa a0 a1 a2 a3 a4;refine (zD6 k n d x t wb hl d1 d2 (hT.l X) (hE.l X)).mono ?_;rintro e w1 ⟨rfl,e1⟩;have C1:=B1.l e1;have C2:=B2.l e1;have X1:=xt X e1;clear B1 B2 hE;obtain ⟨g,hg⟩:=nm (zA4 k n d x t);rw [hg];cases g
 ·have HR:Hid (errW=R):=by show _=_;rw [<- HR0.out];simp [zDD,hg]
  clear hg hT hI d1 d2;go_wp2_with fail;refine (zDL errT _).mono ?_;rintro e w2 ⟨rfl,e2⟩;obtain ⟨wy,hy,FX,⟨b0,b1,b2,b3,b4⟩,⟨fb0,fb1,fb2,fb3,fb4⟩,fd0,fd1,fd2,fd3,fd4⟩:=fin5 (C2.l e2) (xt X1 e2) (by omega) (4) (false) (0) (0) (errT);go_wp2_with fail;exact bodyPost_ret (v:=errW) (by simp [results,Tryz.results55,go_sem,fd0,fd1,fd2,fd3,fd4]) rfl ⟨congrArg Ending.returned HR.out,FX⟩
 ·have HR1:Hid (zBO k n d x t=R):=by show _=_;rw [<- HR0.out];simp [zDD,hg]
  obtain ⟨a0,a1,a2,a3,a4⟩:=Vec.five C1;by_cases h1:k=1
  ·subst h1;clear hg;go_wp2_with fail;clear a0 a1 a2 a3 a4;refine (zWY repC n d x w1 (hI.l X1) d1 d2 (hT.l X1)).mono ?_;rintro e w2 ⟨s,rfl,hs,e2⟩;have es:=zVI hs;rw [es];clear hs es hT hI d1 d2 s;have HR:Hid (valV 2 false 0 0 (zBW n d x)=R):=by show _=_;rw [<- HR1.out];simp [zBO]
   obtain ⟨u,hu⟩:=nm (zBW n d x);rw [hu] at HR ⊢;clear hu;go_wp2_with fail;refine (zIW u _).mono ?_;rintro e w3 ⟨rfl,e3⟩;obtain ⟨wy,hy,FX,⟨b0,b1,b2,b3,b4⟩,⟨fb0,fb1,fb2,fb3,fb4⟩,fd0,fd1,fd2,fd3,fd4⟩:=fin5 ((C2.l e2).l e3) (xt (xt X1 e2) e3) (by omega) (2) (false) (0) (0) (u);go_wp2_with fail;exact bodyPost_ret (v:=valV 2 false 0 0 u) (by simp [results,Tryz.results55,go_sem,fd0,fd1,fd2,fd3,fd4]) rfl ⟨congrArg Ending.returned HR.out,FX⟩
  ·obtain ⟨rfl,rfl,rfl⟩:=zC0 hg h1;clear hT hI d1 d2;by_cases h4:k=4
   ·subst h4;clear hg;have HR:Hid (valV 4 false 0 0 t=R):=(by show _=_;rw [<- HR1.out];simp [zBO]);obtain ⟨wy,hy,FX,⟨b0,b1,b2,b3,b4⟩,⟨fb0,fb1,fb2,fb3,fb4⟩,fd0,fd1,fd2,fd3,fd4⟩:=fin5 (C2) (X1) (by omega) (4) (false) (0) (0) (t);go_wp2_with fail;exact bodyPost_ret (v:=valV 4 false 0 0 t) (by simp [results,Tryz.results55,go_sem,fd0,fd1,fd2,fd3,fd4]) rfl ⟨congrArg Ending.returned HR.out,FX⟩
   ·have HR:Hid (valV 2 false 0 0 t=R):=by
     show _=_;rw [<- HR1.out];by_cases h0:k=0
     ·subst h0;rw [zCL hg];simp [zBO]
     ·by_cases h3:k=3
      ·simp [zBO,h3]
      ·have h2:k=2:=by
        simp only [zA4,h1,if_false,h0,h3,h4] at hg;by_cases h2:k=2
        ·exact h2
        ·simp [h2] at hg
       simp [zBO,h2]
    clear hg;go_wp2_with fail;clear a0 a1 a2 a3 a4;refine (zIW t _).mono ?_;rintro e w3 ⟨rfl,e3⟩;obtain ⟨wy,hy,FX,⟨b0,b1,b2,b3,b4⟩,⟨fb0,fb1,fb2,fb3,fb4⟩,fd0,fd1,fd2,fd3,fd4⟩:=fin5 (C2.l e3) (xt X1 e3) (by omega) (2) (false) (0) (0) (t);go_wp2_with fail;exact bodyPost_ret (v:=valV 2 false 0 0 t) (by simp [results,Tryz.results55,go_sem,fd0,fd1,fd2,fd3,fd4]) rfl ⟨congrArg Ending.returned HR.out,FX⟩
theorem zQ3 (k:Int) (n:Bool) (d x:Int) (t:List UInt8) (w:World)  :
  Calls Tryz.prog 118 #[valV k n d x t] w fun e w'=>e=.returned (zBO k n d x t)/\Ext w w':=by
 obtain ⟨R,hR⟩:=nm (zBO k n d x t);have HR0:Hid (zBO k n d x t=R):=hR;rw [hR];clear hR;obtain ⟨wa,wb,ha,hb,sa,_,B1,B2,X⟩:=mkB2 w [iQ k,.bool n,iQ d,iQ x,sV t] [iQ 0,.bool false,iQ 0,iQ 0,sV []] 26 26;obtain ⟨a0,a1,a2,a3,a4⟩:=Vec.five B1;go_enter Tryz.func118,Tryz.ntmps118;by_cases h0:k=0
 ·subst h0;have HR:Hid (valV 2 false 0 0 []=R):=by show _=_;rw [<- HR0.out];simp [zBO]
  go_wp2_with fail;clear ha hb sa a0 a1 a2 a3 a4;refine (zG0 [] wb).mono ?_;rintro e w2 ⟨rfl,e2⟩;obtain ⟨wy,hy,FX,⟨b0,b1,b2,b3,b4⟩,⟨fb0,fb1,fb2,fb3,fb4⟩,fd0,fd1,fd2,fd3,fd4⟩:=fin5 (B2.l e2) (xt X e2) (by omega) (2) (false) (0) (0) ([]);go_wp2_with fail;exact bodyPost_ret (v:=valV 2 false 0 0 []) (by simp [results,Tryz.results118,go_sem,fd0,fd1,fd2,fd3,fd4]) rfl ⟨congrArg Ending.returned HR.out,FX⟩
 ·by_cases h1:k=1
  ·subst h1;go_wp2_with fail;clear ha hb sa a0 a1 a2 a3 a4;refine (zWX n d x wb).mono ?_;rintro e w2 ⟨s,rfl,hs,e2⟩;have es:=zVI hs;rw [es];clear hs es s;have HR:Hid (valV 2 false 0 0 (zBW n d x)=R):=by show _=_;rw [<- HR0.out];simp [zBO]
   obtain ⟨u,hu⟩:=nm (zBW n d x);rw [hu] at HR ⊢;clear hu;go_wp2_with fail;refine (zG0 u w2).mono ?_;rintro e w3 ⟨rfl,e3⟩;obtain ⟨wy,hy,FX,⟨b0,b1,b2,b3,b4⟩,⟨fb0,fb1,fb2,fb3,fb4⟩,fd0,fd1,fd2,fd3,fd4⟩:=fin5 ((B2.l e2).l e3) (xt (xt X e2) e3) (by omega) (2) (false) (0) (0) (u);go_wp2_with fail;exact bodyPost_ret (v:=valV 2 false 0 0 u) (by simp [results,Tryz.results118,go_sem,fd0,fd1,fd2,fd3,fd4]) rfl ⟨congrArg Ending.returned HR.out,FX⟩
  ·by_cases h3:k=3
   ·subst h3;have HR:Hid (valV 2 false 0 0 t=R):=(by show _=_;rw [<- HR0.out];simp [zBO]);go_wp2_with fail;clear ha hb sa a0 a1 a2 a3 a4;refine (zG0 t wb).mono ?_;rintro e w2 ⟨rfl,e2⟩;obtain ⟨wy,hy,FX,⟨b0,b1,b2,b3,b4⟩,⟨fb0,fb1,fb2,fb3,fb4⟩,fd0,fd1,fd2,fd3,fd4⟩:=fin5 (B2.l e2) (xt X e2) (by omega) (2) (false) (0) (0) (t);go_wp2_with fail;exact bodyPost_ret (v:=valV 2 false 0 0 t) (by simp [results,Tryz.results118,go_sem,fd0,fd1,fd2,fd3,fd4]) rfl ⟨congrArg Ending.returned HR.out,FX⟩
   ·have HR:Hid (valV k n d x t=R):=(by show _=_;rw [<- HR0.out];simp [zBO,h0,h1,h3]);obtain ⟨wy,hy,FX,⟨b0,b1,b2,b3,b4⟩,⟨fb0,fb1,fb2,fb3,fb4⟩,fd0,fd1,fd2,fd3,fd4⟩:=fin5 (B2) (X) (by omega) (k) (n) (d) (x) (t);go_wp2_with fail;exact bodyPost_ret (v:=valV k n d x t) (by simp [results,Tryz.results118,go_sem,fd0,fd1,fd2,fd3,fd4]) rfl ⟨congrArg Ending.returned HR.out,FX⟩
def zCY (k:Int) (n:Bool) (d x:Int) (t:List UInt8):List UInt8:=if k=0 then [] else if k=1 then zBW n d x else t
def zHI (k:Int) (n:Bool) (d x:Int) (t:List UInt8):List UInt8:=if zA4 k n d x t then zCY k n d x t else []
theorem zD8 (k:Int) (n:Bool) (d x:Int) (t:List UInt8) (W:World):(Instr.field 26 (valV k n d x t) 2).run Tryz.prog W=.ok (sV t) W:=by kernel_rfl
theorem zDC (k:Int) (n:Bool) (d x:Int) (t:List UInt8):∃ k2 n2 d2 x2,zBO k n d x t=valV k2 n2 d2 x2 (zCY k n d x t):=by
 unfold zBO zCY
 split
 ·exact ⟨_,_,_,_,rfl⟩
 ·split
  ·exact ⟨_,_,_,_,rfl⟩
  ·split
   ·exact ⟨_,_,_,_,rfl⟩
   ·exact ⟨_,_,_,_,rfl⟩
theorem zX1 (k:Int) (n:Bool) (d x:Int) (t:List UInt8) (w:World) (hl:t.length<=2000000) (d1 : -9223372036854775808<=d) (d2:d<=9223372036854775807) (hT:Tens w) (hE:zAH w) (hI:zEN w) :
  Calls Tryz.prog 13 #[valV k n d x t] w fun e w'=>e=.returned (sV (zHI k n d x t))/\Ext w w':=by
 obtain ⟨R,hR⟩:=nm (zHI k n d x t);have HR0:Hid (zHI k n d x t=R):=hR;rw [hR];clear hR;have X:=x1 w (.cells #[iQ k,.bool n,iQ d,iQ x,sV t] 26);have B1:=zA5 w (valL k n d x t) 26;obtain ⟨wa,ha⟩:=nm (w.alloc (.cells #[iQ k,.bool n,iQ d,iQ x,sV t] 26));change Vec (w.alloc (.cells #[iQ k,.bool n,iQ d,iQ x,sV t] 26)) _ _ at B1;rw [ha] at X B1;obtain ⟨a0,a1,a2,a3,a4⟩:=Vec.five B1;go_enter Tryz.func13,Tryz.ntmps13;go_wp2_with fail;clear ha a0 a1 a2 a3 a4;refine (zD6 k n d x t wa hl d1 d2 (hT.l X) (hE.l X)).mono ?_;rintro e w1 ⟨rfl,e1⟩;have C1:=B1.l e1;have X1:=xt X e1;clear B1;obtain ⟨g,hg⟩:=nm (zA4 k n d x t);rw [hg];cases g
 ·have HR:Hid ([]=R):=by show _=_;rw [<- HR0.out];simp [zHI,hg]
  clear hg;go_wp2_with fail;go_ret;exact ⟨congrArg (fun l=>Ending.returned (sV l)) HR.out,X1⟩
 ·have HR:Hid (zCY k n d x t=R):=by show _=_;rw [<- HR0.out];simp [zHI,hg]
  obtain ⟨a0,a1,a2,a3,a4⟩:=Vec.five C1;go_wp2_with fail;clear a0 a1 a2 a3 a4;refine (zJZ k n d x t w1 hl d1 d2 (hT.l X1) (hE.l X1) (hI.l X1)).mono ?_;rintro e w2 ⟨rfl,e2⟩;obtain ⟨k2,n2,d2,x2,hv⟩:=zDC k n d x t;rw [show zDD k n d x t=zBO k n d x t by simp [zDD,hg],hv];obtain ⟨u,hu⟩:=nm (zCY k n d x t);rw [hu] at HR ⊢;clear hv hu hg;have hf:=fun W=>zD8 k2 n2 d2 x2 u W;go_wp2_with fail;go_ret;exact ⟨congrArg (fun l=>Ending.returned (sV l)) HR.out,xt X1 e2⟩
theorem zGR (u:Nat):(Lib.decDigits u).all zAC=true:=by
 induction u using Nat.strongRecOn with
 | ind u ih =>
  rw [Lib.decDigits]
  split
  ·next h =>
   have:zAC (UInt8.ofNat (48+u))=true:=by
    have e:(UInt8.ofNat (48+u)).toNat=48+u:=(by rw [UInt8.toNat_ofNat'];omega);unfold zAC;rw [e];exact decide_eq_true (by omega)
   rw [List.all_cons,this];rfl
  ·next h =>
   have e:(UInt8.ofNat (48+u % 10)).toNat=48+u % 10:=by rw [UInt8.toNat_ofNat'];omega
   have:zAC (UInt8.ofNat (48+u % 10))=true:=by
    unfold zAC;rw [e];exact decide_eq_true (by omega)
   rw [List.all_append,ih (u / 10) (by omega),List.all_cons,this];rfl
theorem zJ4 (k:Nat):(List.replicate k (48:UInt8)).all zAC=true:=by
 rw [List.all_eq_true];intro c hc;rw [(List.mem_replicate.1 hc).2];decide
theorem zMB {D:List UInt8} (h:D.all zAC=true) (k:Nat):(D.take k).all zAC=true:=by
 rw [List.all_eq_true] at h ⊢;exact fun c hc=>h c (List.mem_of_mem_take hc)
theorem zMC {D:List UInt8} (h:D.all zAC=true) (k:Nat):(D.drop k).all zAC=true:=by
 rw [List.all_eq_true] at h ⊢;exact fun c hc=>h c (List.mem_of_mem_drop hc)
theorem zK4 {D:List UInt8} (h:D.all zAC=true) (x:Int):(zAL D x).all zAC=true:=by
 have t:=fun k=>zMB h k;have p:=fun k=>zMC h k;have c46:zAC 46=true:=by decide
 have c48:zAC 48=true:=by decide
 have c69:zAC 69=true:=by decide
 have c45:zAC 45=true:=by decide
 have c43:zAC 43=true:=by decide
 unfold zAL
 split
 ·rw [List.all_append,h,zJ4];rfl
 ·split
  ·rw [List.all_append,t,List.all_cons,c46,p];rfl
  ·split
   ·rw [List.all_cons,c48,List.all_cons,c46,List.all_append,zJ4,h];rfl
   ·have a1:(if 1<D.length then 46 :: D.drop 1 else ([]:List UInt8)).all zAC=true:=by
     split
     ·rw [List.all_cons,c46,p];rfl
     ·rfl
    have a2:(if (D.length:Int) - 1+x<0 then 69 :: 45 :: Lib.decDigits (-((D.length:Int) - 1+x)).toNat else 69 :: 43 :: Lib.decDigits ((D.length:Int) - 1+x).toNat).all zAC=true:=by
     split
     ·rw [List.all_cons,c69,List.all_cons,c45,zGR];rfl
     ·rw [List.all_cons,c69,List.all_cons,c43,zGR];rfl
    rw [List.all_append,List.all_append,t,a1,a2];rfl
theorem zK3 (n:Bool) (d x:Int):(zBW n d x).all zAC=true:=by
 unfold zBW
 split
 ·split
  ·decide
  ·rw [List.all_append,zK4 (zGR _)];cases n <;> decide
 ·rfl
theorem zNF (n:Bool) (d x:Int):(zBW n d x).length<=2000:=by
 unfold zBW
 split
 ·next hg =>
  split
  ·decide
  ·next hd =>
   have hgd:0<d/\d<1000000000000000/\¬ d % 10=0 /\ -300<=x/\x<=300:=by simpa [zA1,hd] using hg
   have hl:=zJ2 (zFT hgd.1 hgd.2.1).2 hgd.2.2.2.1 hgd.2.2.2.2;rw [List.length_append];cases n <;> simp <;> omega
 ·simp
theorem zDG {k:Int} {n:Bool} {d x:Int} {t:List UInt8} (hg:zA4 k n d x t=true):(zCY k n d x t).all zAC=true/\(zCY k n d x t).length<=2000:=by
 unfold zCY
 split
 ·exact ⟨rfl,by simp⟩
 ·next h0 =>
  split
  ·exact ⟨zK3 _ _ _,by have:=zNF n d x;omega⟩
  ·next h1 =>
   simp only [zA4,h1,h0,if_false,Bool.and_eq_true] at hg;have hr:=hg.2
   split at hr
   ·have:t.all zAC=true/\t.length<=1000:=(by simpa [zEO] using hr);exact ⟨this.1,by omega⟩
   ·split at hr
    ·have:t=[84,82,85,69]\/t=[70,65,76,83,69]:=by simpa [zE9] using hr
     rcases this with rfl | rfl <;> exact ⟨by decide,by decide⟩
    ·split at hr
     ·have hm:t ∈ errL:=by
       unfold memB at hr;rw [List.any_eq_true] at hr;obtain ⟨u,hu,he⟩:=hr;have:u=t:=(by simpa using he);rw [<- this];exact hu
      have:∀ u ∈ errL,u.all zAC=true/\u.length<=2000:=(by decide);exact this t hm
     ·cases hr
abbrev zIJ:List UInt8:=[35,78,65,77,69,63]
abbrev zA3:List UInt8:=[35,78,85,77,33]
abbrev divT:List UInt8:=[35,68,73,86,47,48,33]
abbrev evV (l:List UInt8):Value:=valV 4 false 0 0 l
def putV (r:DR):Value:=if r.ok=true then valV 1 r.neg r.d r.e [] else evV zA3
noncomputable def zDF (n:Bool) (d e:Int):DR:=
 if h : -9223372036854775808<=d/\d<=9223372036854775807 then Classical.choose (zGP n d e h.1 h.2) else badR
theorem zS6 (n:Bool) (d e:Int) (a1 : -9223372036854775808<=d) (a2:d<=9223372036854775807) (w:World) :
  Calls Tryz.prog 213 #[.agg #[.bool n,iQ d,iQ e]] w fun r w'=>r=.returned (resV (zDF n d e))/\Ext w w':=by
 unfold zDF;rw [dif_pos ⟨a1,a2⟩];exact (Classical.choose_spec (zGP n d e a1 a2)).1 w
theorem zS7 (n:Bool) (d e:Int) (a1 : -9223372036854775808<=d) (a2:d<=9223372036854775807) (w:World) (hT:Tens w) :
  Calls Tryz.prog 207 #[.agg #[.bool n,iQ d,iQ e]] w fun r w'=>r=.returned (resV (zDF n d e))/\Ext w w':=by
 unfold zDF;rw [dif_pos ⟨a1,a2⟩];exact (Classical.choose_spec (zGP n d e a1 a2)).2 w hT
def zDK (n:Bool) (d e:Int):Bool:=!n && decide (d=5) && decide (e = -1)
noncomputable def zAS (n:Bool) (d e:Int) (n':Bool) (d' e':Int):Value:=
 if d=0/\d'=0 then evV zA3 else if d=0/\n'=true then evV divT else
 if zCA n' d' e'=true then putV (powR n d e (intR n' d' e')) else if zDK n' d' e'=true then putV (zDF n d e) else evV zA3
noncomputable def zIC (o:Nat) (n:Bool) (d e:Int) (n':Bool) (d' e':Int):Value:=
 if o=0 then putV (addR n d e n' d' e') else if o=1 then putV (subR n d e n' d' e') else if o=2 then putV (mulR n d e n' d' e') else
 if o=3 then (if d'=0 then evV divT else putV (divR n d e n' d' e')) else zAS n d e n' d' e'
theorem zC1 (r:DR):∃ k2 n2 d2 x2 t2,putV r=valV k2 n2 d2 x2 t2:=by
 unfold putV
 split
 ·exact ⟨_,_,_,_,_,rfl⟩
 ·exact ⟨_,_,_,_,_,rfl⟩
theorem zHV (n:Bool) (d e:Int) (n':Bool) (d' e':Int):∃ k2 n2 d2 x2 t2,zAS n d e n' d' e'=valV k2 n2 d2 x2 t2:=by
 unfold zAS
 repeat' split
 all_goals first | exact zC1 _ | exact ⟨_,_,_,_,_,rfl⟩
theorem zGO (o:Nat) (n:Bool) (d e:Int) (n':Bool) (d' e':Int):∃ k2 n2 d2 x2 t2,zIC o n d e n' d' e'=valV k2 n2 d2 x2 t2:=by
 unfold zIC
 repeat' split
 all_goals first | exact zC1 _ | exact zHV _ _ _ _ _ _ | exact ⟨_,_,_,_,_,rfl⟩
def numD (k:Int) (n:Bool) (d x:Int) (t:List UInt8):Option (Bool × Int × Int):=
 if k=0 then some (false,0,0) else
 if k=2 then (if (zAU (zBL t)).ok=true then some ((zAU (zBL t)).neg,(zAU (zBL t)).d,(zAU (zBL t)).e) else none) else
 if k=3 then (if (t == zAX)=true then some (false,1,0) else some (false,0,0)) else some (n,d,x)
theorem zEI {k:Int} {n:Bool} {d x:Int} {t:List UInt8} (h:numD k n d x t=none):zCI k n d x t=errW:=by
 unfold numD at h;unfold zCI
 split at h
 ·cases h
 ·next h0 =>
  rw [if_neg h0]
  split at h
  ·next h2 =>
   rw [if_pos h2]
   split at h
   ·cases h
   ·next hr=>unfold numR;rw [if_neg hr]
  ·split at h
   ·split at h
    ·cases h
    ·cases h
   ·cases h
theorem zOA {l:List UInt8} (h:(zAU l).ok=true):zA1 (zAU l).neg (zAU l).d (zAU l).e=true:=by
 unfold zAU zFP at h ⊢
 repeat' split at h
 all_goals first | exact absurd h (by decide) | skip
 all_goals (repeat' split)
 all_goals first | exact zOD h | contradiction | skip
theorem zEH {k:Int} {n:Bool} {d x:Int} {t:List UInt8} (hg:zA4 k n d x t=true) (h4:k ≠ 4) {a:Bool} {b c:Int} (h:numD k n d x t=some (a,b,c)) :
  zCI k n d x t=valV 1 a b c []/\zA1 a b c=true:=by
 unfold numD at h;unfold zCI
 split at h
 ·next h0 =>
  obtain ⟨rfl,rfl,rfl⟩:false=a/\0=b/\0=c:=by simpa using h
  rw [if_pos h0];exact ⟨rfl,by decide⟩
 ·next h0 =>
  rw [if_neg h0]
  split at h
  ·next h2 =>
   rw [if_pos h2]
   split at h
   ·next hr =>
    obtain ⟨rfl,rfl,rfl⟩:(zAU (zBL t)).neg=a/\(zAU (zBL t)).d=b/\(zAU (zBL t)).e=c:=(by simpa using h);exact ⟨by unfold numR;rw [if_pos hr],zOA hr⟩
   ·cases h
  ·next h2 =>
   rw [if_neg h2]
   split at h
   ·next h3 =>
    rw [if_pos h3]
    split at h
    ·next ht =>
     obtain ⟨rfl,rfl,rfl⟩:false=a/\1=b/\0=c:=(by simpa using h);rw [if_pos ht];exact ⟨rfl,by decide⟩
    ·next ht =>
     obtain ⟨rfl,rfl,rfl⟩:false=a/\0=b/\0=c:=(by simpa using h);rw [if_neg ht];exact ⟨rfl,by decide⟩
   ·next h3 =>
    rw [if_neg h3];obtain ⟨rfl,rfl,rfl⟩:n=a/\d=b/\x=c:=(by simpa using h);have h1:k=1:=by
     rcases Classical.em (k=1) with h1 | h1
     ·exact h1
     ·exfalso;simp [zA4,h0,h1,h2,h3,h4] at hg
    subst h1;obtain ⟨g1,rfl⟩:=zCK hg;exact ⟨rfl,g1⟩
noncomputable def zC3 (o:Nat) (k:Int) (n:Bool) (d x:Int) (t:List UInt8) (k':Int) (n':Bool) (d' x':Int) (t':List UInt8):Value:=
 match numD k n d x t with
 | none=>errW
 | some a=>match numD k' n' d' x' t' with
  | none=>errW
  | some b=>zIC o a.1 a.2.1 a.2.2 b.1 b.2.1 b.2.2
def zHJ (k:Int) (n:Bool) (d x:Int) (t:List UInt8) (k':Int) (n':Bool) (d' x':Int) (t':List UInt8):Value:=
 if (zCY k n d x t++zCY k' n' d' x' t').length<=1000 then valV 2 false 0 0 (zCY k n d x t++zCY k' n' d' x' t') else errW
noncomputable def zR0 (o:Nat) (k:Int) (n:Bool) (d x:Int) (t:List UInt8) (k':Int) (n':Bool) (d' x':Int) (t':List UInt8):Value:=
 if o<5 then zC3 o k n d x t k' n' d' x' t' else if o=5 then zHJ k n d x t k' n' d' x' t' else zD9 (ordB o (zA0 k n d x t k' n' d' x' t'))
noncomputable def zFJ (o:Nat) (k:Int) (n:Bool) (d x:Int) (t:List UInt8) (k':Int) (n':Bool) (d' x':Int) (t':List UInt8):Value:=
 if k=4 then valV k n d x t else if k'=4 then valV k' n' d' x' t' else zR0 o k n d x t k' n' d' x' t'
def zQC:List (List UInt8):=[[43],[45],[42],[47],[94],[38],[61],[60,62],[60],[62],[60,61],[62,61]]
def opN (l:List UInt8):Option Nat:=zQC.findIdx? fun s=>s == l
noncomputable def zDS (op:List UInt8) (k:Int) (n:Bool) (d x:Int) (t:List UInt8) (k':Int) (n':Bool) (d' x':Int) (t':List UInt8):Value:=
 match opN op with
 | none=>evV zIJ
 | some o=>if (zA4 k n d x t && zA4 k' n' d' x' t')=true then zFJ o k n d x t k' n' d' x' t' else errW
theorem zD2 (o:Nat) (k:Int) (n:Bool) (d x:Int) (t:List UInt8) (k':Int) (n':Bool) (d' x':Int) (t':List UInt8):∃ k2 n2 d2 x2 t2,zC3 o k n d x t k' n' d' x' t'=valV k2 n2 d2 x2 t2:=by
 unfold zC3
 repeat' split
 all_goals first | exact zGO _ _ _ _ _ _ _ | exact ⟨_,_,_,_,_,rfl⟩
theorem zJD (o:Nat) (k:Int) (n:Bool) (d x:Int) (t:List UInt8) (k':Int) (n':Bool) (d' x':Int) (t':List UInt8):∃ k2 n2 d2 x2 t2,zR0 o k n d x t k' n' d' x' t'=valV k2 n2 d2 x2 t2:=by
 unfold zR0 zHJ
 repeat' split
 all_goals first | exact zD2 _ _ _ _ _ _ _ _ _ _ _ | exact ⟨_,_,_,_,_,rfl⟩
theorem zGI (o:Nat) (k:Int) (n:Bool) (d x:Int) (t:List UInt8) (k':Int) (n':Bool) (d' x':Int) (t':List UInt8):∃ k2 n2 d2 x2 t2,zFJ o k n d x t k' n' d' x' t'=valV k2 n2 d2 x2 t2:=by
 unfold zFJ
 repeat' split
 all_goals first | exact zJD _ _ _ _ _ _ _ _ _ _ _ | exact ⟨_,_,_,_,_,rfl⟩
theorem zKS (o:Nat) (e f:VT):∃ v:VT,zFJ o e.k e.n e.d e.x e.t f.k f.n f.d f.x f.t=v.val:=by
 obtain ⟨k,n,d,x,t,h⟩:=zGI o e.k e.n e.d e.x e.t f.k f.n f.d f.x f.t;exact ⟨⟨k,n,d,x,t⟩,h⟩
noncomputable def zN8 (o:Nat) (e f:VT):VT:=Classical.choose (zKS o e f)
theorem zIA (o:Nat) (e f:VT):zFJ o e.k e.n e.d e.x e.t f.k f.n f.d f.x f.t=(zN8 o e f).val:=Classical.choose_spec (zKS o e f)
def naE:VT:=⟨4,false,0,0,[35,78,47,65]⟩
noncomputable def zKM (o:Nat):Option VT->Option VT->VT
 | some e,some f=>zN8 o e f
 | _,_=>naE
noncomputable def zHK (o:Nat) (r c:Int) (l:List VT) (r' c':Int) (l':List VT) (C:Int) (q:Nat):VT:=
 zKM o (cellAt r c l ((q:Int) / C) ((q:Int) % C)) (cellAt r' c' l' ((q:Int) / C) ((q:Int) % C))
def hiG (a b:Int):Int:=max a b
def zE4 (op:List UInt8) (r c:Int) (l:List VT) (r' c':Int) (l':List VT):Option Nat:=
 if (zE5 r c l && zE5 r' c' l' && decide (hiG r r' * hiG c c'<=2000))=true then opN op else none
noncomputable def zDV (op:List UInt8) (r c:Int) (l:List VT) (r' c':Int) (l':List VT):Int × Int × List VT:=
 match zE4 op r c l r' c' l' with
 | none=>(0,0,[])
 | some o=>(hiG r r',hiG c c',(List.range (hiG r r' * hiG c c').toNat).map (zHK o r c l r' c' l' (hiG c c')))
theorem zBC {op:List UInt8} {r c:Int} {l:List VT} {r' c':Int} {l':List VT} {R C:Int} {L:List VT} (h:zDV op r c l r' c' l'=(R,C,L)) (hn:zE4 op r c l r' c' l'=none):R=0/\C=0/\L=[]:=by
 unfold zDV at h;rw [hn] at h;cases h;exact ⟨rfl,rfl,rfl⟩
theorem zF9 {op:List UInt8} {r c:Int} {l:List VT} {r' c':Int} {l':List VT} {R C:Int} {L:List VT} {o:Nat} (h:zDV op r c l r' c' l'=(R,C,L)) (hn:zE4 op r c l r' c' l'=some o):R=hiG r r'/\C=hiG c c'/\L=(List.range (hiG r r' * hiG c c').toNat).map (zHK o r c l r' c' l' (hiG c c')):=by
 unfold zDV at h;rw [hn] at h;cases h;exact ⟨rfl,rfl,rfl⟩
theorem zRD {op:List UInt8} {r c:Int} {l:List VT} {r' c':Int} {l':List VT} {R C:Int} {L:List VT} (h:zDV op r c l r' c' l'=(R,C,L)):L.length<=2000:=by
 cases hn:zE4 op r c l r' c' l' with
 | none=>rw [(zBC h hn).2.2];simp
 | some o =>
  rw [(zF9 h hn).2.2,List.length_map,List.length_range];unfold zE4 at hn
  split at hn
  ·rename_i hc;simp only [Bool.and_eq_true,decide_eq_true_eq] at hc;omega
  ·cases hn
theorem zGE (A:Option VT):∃ (e:VT) (b:Bool),zKN A=.tuple #[e.val,.bool b]/\(b=true->A=some e)/\(b=false->A=none):=by
 cases A with
 | none=>exact ⟨zBG,false,rfl,(fun h=>by cases h),fun _=>rfl⟩
 | some e=>exact ⟨e,true,rfl,(fun _=>rfl),fun h=>by cases h⟩
theorem zEK {r c:Int} {l:List VT} {i j:Int} {e:VT} (h:cellAt r c l i j=some e):e ∈ l:=by
 unfold cellAt at h;by_cases hc:(if r=1 then 0 else i)<r/\(if c=1 then 0 else j)<c
 ·rw [if_pos hc] at h;exact List.mem_of_getElem? h
 ·rw [if_neg hc] at h;cases h
theorem zG8 {r c:Int} {l:List VT} (h:zE5 r c l=true):∃ e m,l=e :: m/\cellAt r c l 0 0=some e/\e.good=true:=by
 obtain ⟨hs,hg,⟨r1,_⟩,c1,_⟩:=zD7 h;have hs2:1<=r/\1<=c/\r * c<=2000/\(l.length:Int)=r * c:=of_decide_eq_true hs;have hp:1<=r * c:=by have:=Int.mul_le_mul_of_nonneg_left (show (1:Int)<=c by omega) (show 0<=r by omega);omega
 cases l with
 | nil=>simp at hs2;omega
 | cons e m =>
  refine ⟨e,m,rfl,?_,hg e (List.mem_cons_self ..)⟩;unfold cellAt;have z1:(if r=1 then (0:Int) else 0)=0:=by split <;> rfl
  have z2:(if c=1 then (0:Int) else 0)=0:=by split <;> rfl
  rw [z1,z2,if_pos (by omega)];simp
theorem zMO {op:List UInt8} {r c:Int} {l:List VT} {r' c':Int} {l':List VT} {R C:Int} {L:List VT} (h:zDV op r c l r' c' l'=(R,C,L)) (hR:R ≠ 0) :
  ∃ (e e' q:VT) (m m' k:List VT),l=e :: m/\l'=e' :: m'/\L=q :: k/\zDS op e.k e.n e.d e.x e.t e'.k e'.n e'.d e'.x e'.t=q.val:=by
 cases hn:zE4 op r c l r' c' l' with
 | none=>exact absurd (zBC h hn).1 hR
 | some o =>
  obtain ⟨h1,h2,h3⟩:=zF9 h hn;have hn':=hn;unfold zE4 at hn
  split at hn
  ·rename_i hc;simp only [Bool.and_eq_true,decide_eq_true_eq] at hc;obtain ⟨e,m,rfl,q1,g1⟩:=zG8 hc.1.1;obtain ⟨e',m',rfl,q2,g2⟩:=zG8 hc.1.2;obtain ⟨_,_,⟨r1,_⟩,c1,_⟩:=zD7 hc.1.1;have p1:1<=hiG r r':=by unfold hiG;omega
   have p2:1<=hiG c c':=by unfold hiG;omega
   have hp:1<=hiG r r' * hiG c c':=by have:=Int.mul_le_mul_of_nonneg_left p2 (show 0<=hiG r r' by omega);omega
   obtain ⟨N,hN⟩:∃ N,(hiG r r' * hiG c c').toNat=N+1:=⟨(hiG r r' * hiG c c').toNat - 1,by omega⟩;rw [hN,List.range_succ_eq_map,List.map_cons] at h3;refine ⟨e,e',_,m,m',_,rfl,rfl,h3,?_⟩;unfold zHK;rw [show ((0:Nat):Int) / hiG c c'=0 by simp,show ((0:Nat):Int) % hiG c c'=0 by simp,q1,q2];show _=(zN8 o e e').val;rw [<- zIA];unfold zDS;rw [hn];have g1':zA4 e.k e.n e.d e.x e.t=true:=g1;have g2':zA4 e'.k e'.n e'.d e'.x e'.t=true:=g2;simp only [g1',g2',Bool.and_self,if_true]
  ·cases hn
theorem zWL (w:World) (k:Int) (n:Bool) (d x:Int) (t:List UInt8) (k':Int) (n':Bool) (d' x':Int) (t':List UInt8) :
  ∃ u0 u1 y1 y2,w.alloc (.cells #[iQ 0,.bool false,iQ 0,iQ 0,sV []] 26)=u0/\u0.alloc (.cells #[iQ 0,.bool false,iQ 0,iQ 0,sV []] 26)=u1/\u0.heap.size=w.heap.size+1 /\
   (((((u1.setCell ⟨w.heap.size,0,none⟩ (iQ k)).setCell ⟨w.heap.size,1,none⟩ (.bool n)).setCell ⟨w.heap.size,2,none⟩ (iQ d)).setCell ⟨w.heap.size,3,none⟩ (iQ x)).setCell ⟨w.heap.size,4,none⟩ (sV t))=y1 /\
   (((((y1.setCell ⟨w.heap.size+1,0,none⟩ (iQ k')).setCell ⟨w.heap.size+1,1,none⟩ (.bool n')).setCell ⟨w.heap.size+1,2,none⟩ (iQ d')).setCell ⟨w.heap.size+1,3,none⟩ (iQ x')).setCell ⟨w.heap.size+1,4,none⟩ (sV t'))=y2 /\
   Vec u1 w.heap.size [iQ 0,.bool false,iQ 0,iQ 0,sV []]/\Vec y1 (w.heap.size+1) [iQ 0,.bool false,iQ 0,iQ 0,sV []]/\Vec y2 w.heap.size [iQ k,.bool n,iQ d,iQ x,sV t]/\Vec y2 (w.heap.size+1) [iQ k',.bool n',iQ d',iQ x',sV t']/\Ext w y2:=by
 obtain ⟨u0,u1,h0,h1,s0,s1,B0,B1,X⟩:=mkB2 w [iQ 0,.bool false,iQ 0,iQ 0,sV []] [iQ 0,.bool false,iQ 0,iQ 0,sV []] 26 26;have P0:=B0.put5 (iQ k) (.bool n) (iQ d) (iQ x) (sV t);have P1:=Vec.farL (k:=w.heap.size) (by omega) [iQ k,.bool n,iQ d,iQ x,sV t] 0 B1;have X1:=Ext.setL (b:=w.heap.size) (Nat.le_refl _) [iQ k,.bool n,iQ d,iQ x,sV t] 0 X;exact ⟨u0,u1,_,_,h0,h1,s0,rfl,rfl,B0,P1,Vec.farL (k:=w.heap.size+1) (by omega) [iQ k',.bool n',iQ d',iQ x',sV t'] 0 P0,P1.put5 (iQ k') (.bool n') (iQ d') (iQ x') (sV t'),Ext.setL (b:=w.heap.size+1) (Nat.le_succ _) [iQ k',.bool n',iQ d',iQ x',sV t'] 0 X1⟩
def zD1 (t:List UInt8):Value:=
 if t == [] then valV 0 false 0 0 [] else
 if (zAU t).ok then valV 1 (zAU t).neg (zAU t).d (zAU t).e [] else
 if zE9 (t.map upC) then zD9 (t.map upC == zAX) else
 if memB errL t then valV 4 false 0 0 t else
 if zA4 2 false 0 0 (Lib.trimPrefix t [39]) then valV 2 false 0 0 (Lib.trimPrefix t [39]) else errW
theorem zVF (l:List UInt8) (w:World) :
  Calls Tryz.prog 54 #[sV l,.string ⟨#[39]⟩] w fun e w'=>e=.returned (sV (Lib.trimPrefix l [39]))/\w'=w:=zGL l 39 w
theorem zVD (t:List UInt8) (w:World) (hl:t.length<=1048576) (hT:Tens w) (hE:zAH w) :
  Calls Tryz.prog 12 #[sV t] w fun e w'=>e=.returned (zD1 t)/\Ext w w':=by
 obtain ⟨R,hR⟩:=nm (zD1 t);have HR0:Hid (zD1 t=R):=hR;rw [hR];clear hR;have X:=x1 w (.cells #[iQ 0,.bool false,iQ 0,iQ 0,sV []] 26);have B2:=zA5 w (valL 0 false 0 0 []) 26;obtain ⟨wb,hb⟩:=nm (w.alloc (.cells #[iQ 0,.bool false,iQ 0,iQ 0,sV []] 26));change Vec (w.alloc (.cells #[iQ 0,.bool false,iQ 0,iQ 0,sV []] 26)) _ _ at B2;rw [hb] at X B2;go_enter Tryz.func12,Tryz.ntmps12;go_wp2_with fail;clear hb;refine (zVL t wb hl (hT.l X)).mono ?_;rintro e w1 ⟨rfl,e1⟩;obtain ⟨ok,rn,rd,re,hq⟩:∃ ok rn rd re,zAU t=(⟨ok,rn,rd,re⟩:DR):=⟨_,_,_,_,rfl⟩;have HQ:Hid (zAU t=⟨ok,rn,rd,re⟩):=hq;rw [hq];clear hq;go_wp2_with fail;refine (zV2 t w1 (by omega)).mono ?_;rintro e w2 ⟨rfl,e2⟩;obtain ⟨u,hu⟩:=nm (t.map upC);have HU:Hid (t.map upC=u):=hu;rw [hu];clear hu;have Y0:=x1 w2 (.cells #[.bool ok,.bool rn,iQ rd,iQ re] 79);obtain ⟨wz,hz⟩:=nm (w2.alloc (.cells #[.bool ok,.bool rn,iQ rd,iQ re] 79));have Br:=zA5 w2 [.bool ok,.bool rn,iQ rd,iQ re] 79;change Vec (w2.alloc (.cells #[.bool ok,.bool rn,iQ rd,iQ re] 79)) _ _ at Br;rw [hz] at Y0 Br;have r0:=(Br 0 _ rfl).1;have r1:=(Br 1 _ rfl).1;have r2:=(Br 2 _ rfl).1;have r3:=(Br 3 _ rfl).1;have D2:=((B2.l e1).l e2).l Y0;have XD:=xt (xt (xt X e1) e2) Y0;have TD:=hT.l XD;have ED:=hE.l XD;clear B2 X hT hE e1 e2 Y0;obtain ⟨p,hp⟩:=nm ((t == []));cases p
 ·cases ok
  ·obtain ⟨y,hy⟩:=nm (zE9 u);go_wp2_with fail;clear r0 r1 r2 r3 hz Br;refine (zWM u wz).mono ?_;rintro e w9 ⟨rfl,rfl⟩;have HY:Hid (zE9 u=y):=hy;rw [hy];clear hy;cases y
   ·go_wp2_with fail;refine (errI t _ ED).mono ?_;rintro e w10 ⟨rfl,rfl⟩;obtain ⟨z,hzz⟩:=nm (memB errL t);have HZ:Hid (memB errL t=z):=hzz;rw [hzz];clear hzz;cases z
    ·have HRG0:Hid ((if zA4 2 false 0 0 (Lib.trimPrefix t [39]) then valV 2 false 0 0 (Lib.trimPrefix t [39]) else errW)=R):=(by show _=_;rw [<- HR0.out];simp [zD1,hp,HQ.out,HU.out,HY.out,HZ.out]);clear hp;go_wp2_with fail;refine (zVF t _).mono ?_;rintro e w11 ⟨rfl,rfl⟩;have hlv:(Lib.trimPrefix t [39]).length<=2000000:=(by have:=zBN t [39];omega);obtain ⟨v,hv⟩:=nm (Lib.trimPrefix t [39]);have HRG:Hid ((if zA4 2 false 0 0 v then valV 2 false 0 0 v else errW)=R):=(by show _=_;rw [<- hv];exact HRG0.out);rw [hv] at hlv ⊢;clear hv HRG0;go_wp2_with fail;refine (zIW v _).mono ?_;rintro e wt ⟨rfl,et⟩;obtain ⟨wv,hwv⟩:=nm (wt.alloc (.cells #[iQ 2,.bool false,iQ 0,iQ 0,sV v] 26));have Yv:=x1 wt (.cells #[iQ 2,.bool false,iQ 0,iQ 0,sV v] 26);have Bv:=zA5 wt (valL 2 false 0 0 v) 26;change Vec (wt.alloc (.cells #[iQ 2,.bool false,iQ 0,iQ 0,sV v] 26)) _ _ at Bv;rw [hwv] at Yv Bv;have Dv:=((D2).l et).l Yv;have Xv:=xt (xt (XD) et) Yv;have a0:=(Bv 0 _ rfl).1;have a1:=(Bv 1 _ rfl).1;have a2:=(Bv 2 _ rfl).1;have a3:=(Bv 3 _ rfl).1;have a4:=(Bv 4 _ rfl).1;go_wp2_with fail;clear hwv a0 a1 a2 a3 a4;refine (zD6 2 false 0 0 v wv hlv (by decide) (by decide) (TD.l (xt et Yv)) (ED.l (xt et Yv))).mono ?_;rintro e wg ⟨rfl,eg⟩;obtain ⟨g,hg⟩:=nm (zA4 2 false 0 0 v);rw [hg] at HRG ⊢;clear hg;cases g
     ·have HR:Hid (errW=R):=HRG;go_wp2_with fail;refine (zDL errT wg).mono ?_;rintro e we ⟨rfl,ee⟩;have FV:=(Dv.l eg).l ee;have FG:=FV.put5 (iQ 4) (.bool false) (iQ 0) (iQ 0) (sV errT);have FX:=Ext.setL (b:=w.heap.size) (by omega) [iQ 4,.bool false,iQ 0,iQ 0,sV errT] 0 (xt (xt Xv eg) ee);obtain ⟨wy,hy⟩:=nm (setL we (w.heap.size) 0 [iQ 4,.bool false,iQ 0,iQ 0,sV errT]);rw [hy] at FG FX;have hy:(((((we.setCell ⟨w.heap.size,0,none⟩ (iQ 4)).setCell ⟨w.heap.size,1,none⟩ (.bool false)).setCell ⟨w.heap.size,2,none⟩ (iQ 0)).setCell ⟨w.heap.size,3,none⟩ (iQ 0)).setCell ⟨w.heap.size,4,none⟩ (sV errT))=wy:=hy;have b0:=(FV 0 _ rfl).1;have b1:=(FV 1 _ rfl).1;have b2:=(FV 2 _ rfl).1;have b3:=(FV 3 _ rfl).1;have b4:=(FV 4 _ rfl).1;have fb0:=(FV 0 _ rfl).2;have fb1:=(FV 1 _ rfl).2;have fb2:=(FV 2 _ rfl).2;have fb3:=(FV 3 _ rfl).2;have fb4:=(FV 4 _ rfl).2;have fd0:=(FG 0 _ rfl).1;have fd1:=(FG 1 _ rfl).1;have fd2:=(FG 2 _ rfl).1;have fd3:=(FG 3 _ rfl).1;have fd4:=(FG 4 _ rfl).1;clear FV FG;go_wp2_with fail;exact bodyPost_ret (v:=errW) (by simp [results,Tryz.results12,go_sem,fd0,fd1,fd2,fd3,fd4]) rfl ⟨congrArg Ending.returned HR.out,FX⟩
     ·have HR:Hid (valV 2 false 0 0 v=R):=HRG;have Bw:=Bv.l eg;have a0:=(Bw 0 _ rfl).1;have a1:=(Bw 1 _ rfl).1;have a2:=(Bw 2 _ rfl).1;have a3:=(Bw 3 _ rfl).1;have a4:=(Bw 4 _ rfl).1;have FV:=Dv.l eg;have FG:=FV.put5 (iQ 2) (.bool false) (iQ 0) (iQ 0) (sV v);have FX:=Ext.setL (b:=w.heap.size) (by omega) [iQ 2,.bool false,iQ 0,iQ 0,sV v] 0 (xt Xv eg);obtain ⟨wy,hy⟩:=nm (setL wg (w.heap.size) 0 [iQ 2,.bool false,iQ 0,iQ 0,sV v]);rw [hy] at FG FX;have hy:(((((wg.setCell ⟨w.heap.size,0,none⟩ (iQ 2)).setCell ⟨w.heap.size,1,none⟩ (.bool false)).setCell ⟨w.heap.size,2,none⟩ (iQ 0)).setCell ⟨w.heap.size,3,none⟩ (iQ 0)).setCell ⟨w.heap.size,4,none⟩ (sV v))=wy:=hy;have b0:=(FV 0 _ rfl).1;have b1:=(FV 1 _ rfl).1;have b2:=(FV 2 _ rfl).1;have b3:=(FV 3 _ rfl).1;have b4:=(FV 4 _ rfl).1;have fb0:=(FV 0 _ rfl).2;have fb1:=(FV 1 _ rfl).2;have fb2:=(FV 2 _ rfl).2;have fb3:=(FV 3 _ rfl).2;have fb4:=(FV 4 _ rfl).2;have fd0:=(FG 0 _ rfl).1;have fd1:=(FG 1 _ rfl).1;have fd2:=(FG 2 _ rfl).1;have fd3:=(FG 3 _ rfl).1;have fd4:=(FG 4 _ rfl).1;clear FV FG;go_wp2_with fail;exact bodyPost_ret (v:=valV 2 false 0 0 v) (by simp [results,Tryz.results12,go_sem,fd0,fd1,fd2,fd3,fd4]) rfl ⟨congrArg Ending.returned HR.out,FX⟩
    ·have HR:Hid (valV 4 false 0 0 t=R):=(by show _=_;rw [<- HR0.out];simp [zD1,hp,HQ.out,HU.out,HY.out,HZ.out]);clear hp;go_wp2_with fail;refine (zDL t _).mono ?_;rintro e w12 ⟨rfl,e12⟩;have FV:=D2.l e12;have FG:=FV.put5 (iQ 4) (.bool false) (iQ 0) (iQ 0) (sV t);have FX:=Ext.setL (b:=w.heap.size) (by omega) [iQ 4,.bool false,iQ 0,iQ 0,sV t] 0 (xt XD e12);obtain ⟨wy,hy⟩:=nm (setL w12 (w.heap.size) 0 [iQ 4,.bool false,iQ 0,iQ 0,sV t]);rw [hy] at FG FX;have hy:(((((w12.setCell ⟨w.heap.size,0,none⟩ (iQ 4)).setCell ⟨w.heap.size,1,none⟩ (.bool false)).setCell ⟨w.heap.size,2,none⟩ (iQ 0)).setCell ⟨w.heap.size,3,none⟩ (iQ 0)).setCell ⟨w.heap.size,4,none⟩ (sV t))=wy:=hy;have b0:=(FV 0 _ rfl).1;have b1:=(FV 1 _ rfl).1;have b2:=(FV 2 _ rfl).1;have b3:=(FV 3 _ rfl).1;have b4:=(FV 4 _ rfl).1;have fb0:=(FV 0 _ rfl).2;have fb1:=(FV 1 _ rfl).2;have fb2:=(FV 2 _ rfl).2;have fb3:=(FV 3 _ rfl).2;have fb4:=(FV 4 _ rfl).2;have fd0:=(FG 0 _ rfl).1;have fd1:=(FG 1 _ rfl).1;have fd2:=(FG 2 _ rfl).1;have fd3:=(FG 3 _ rfl).1;have fd4:=(FG 4 _ rfl).1;clear FV FG;go_wp2_with fail;exact bodyPost_ret (v:=valV 4 false 0 0 t) (by simp [results,Tryz.results12,go_sem,fd0,fd1,fd2,fd3,fd4]) rfl ⟨congrArg Ending.returned HR.out,FX⟩
   ·obtain ⟨o,ho⟩:=nm ((u == [84,82,85,69]));cases o
    ·have HR:Hid (zD9 false=R):=(by show _=_;rw [<- HR0.out];simp [zD1,hp,HQ.out,HU.out,HY.out,ho]);clear hp;go_wp2_with fail;clear ho;refine (zE8 false _).mono ?_;rintro e w12 ⟨rfl,e12⟩;have FV:=D2.l e12;have FG:=FV.put5 (iQ 3) (.bool false) (iQ 0) (iQ 0) (sV zAA);have FX:=Ext.setL (b:=w.heap.size) (by omega) [iQ 3,.bool false,iQ 0,iQ 0,sV zAA] 0 (xt XD e12);obtain ⟨wy,hy⟩:=nm (setL w12 (w.heap.size) 0 [iQ 3,.bool false,iQ 0,iQ 0,sV zAA]);rw [hy] at FG FX;have hy:(((((w12.setCell ⟨w.heap.size,0,none⟩ (iQ 3)).setCell ⟨w.heap.size,1,none⟩ (.bool false)).setCell ⟨w.heap.size,2,none⟩ (iQ 0)).setCell ⟨w.heap.size,3,none⟩ (iQ 0)).setCell ⟨w.heap.size,4,none⟩ (sV zAA))=wy:=hy;have b0:=(FV 0 _ rfl).1;have b1:=(FV 1 _ rfl).1;have b2:=(FV 2 _ rfl).1;have b3:=(FV 3 _ rfl).1;have b4:=(FV 4 _ rfl).1;have fb0:=(FV 0 _ rfl).2;have fb1:=(FV 1 _ rfl).2;have fb2:=(FV 2 _ rfl).2;have fb3:=(FV 3 _ rfl).2;have fb4:=(FV 4 _ rfl).2;have fd0:=(FG 0 _ rfl).1;have fd1:=(FG 1 _ rfl).1;have fd2:=(FG 2 _ rfl).1;have fd3:=(FG 3 _ rfl).1;have fd4:=(FG 4 _ rfl).1;clear FV FG;go_wp2_with fail;exact bodyPost_ret (v:=zD9 false) (by simp [results,Tryz.results12,go_sem,fd0,fd1,fd2,fd3,fd4]) rfl ⟨congrArg Ending.returned HR.out,FX⟩
    ·have HR:Hid (zD9 true=R):=(by show _=_;rw [<- HR0.out];simp [zD1,hp,HQ.out,HU.out,HY.out,ho]);clear hp;go_wp2_with fail;clear ho;refine (zE8 true _).mono ?_;rintro e w12 ⟨rfl,e12⟩;have FV:=D2.l e12;have FG:=FV.put5 (iQ 3) (.bool false) (iQ 0) (iQ 0) (sV zAX);have FX:=Ext.setL (b:=w.heap.size) (by omega) [iQ 3,.bool false,iQ 0,iQ 0,sV zAX] 0 (xt XD e12);obtain ⟨wy,hy⟩:=nm (setL w12 (w.heap.size) 0 [iQ 3,.bool false,iQ 0,iQ 0,sV zAX]);rw [hy] at FG FX;have hy:(((((w12.setCell ⟨w.heap.size,0,none⟩ (iQ 3)).setCell ⟨w.heap.size,1,none⟩ (.bool false)).setCell ⟨w.heap.size,2,none⟩ (iQ 0)).setCell ⟨w.heap.size,3,none⟩ (iQ 0)).setCell ⟨w.heap.size,4,none⟩ (sV zAX))=wy:=hy;have b0:=(FV 0 _ rfl).1;have b1:=(FV 1 _ rfl).1;have b2:=(FV 2 _ rfl).1;have b3:=(FV 3 _ rfl).1;have b4:=(FV 4 _ rfl).1;have fb0:=(FV 0 _ rfl).2;have fb1:=(FV 1 _ rfl).2;have fb2:=(FV 2 _ rfl).2;have fb3:=(FV 3 _ rfl).2;have fb4:=(FV 4 _ rfl).2;have fd0:=(FG 0 _ rfl).1;have fd1:=(FG 1 _ rfl).1;have fd2:=(FG 2 _ rfl).1;have fd3:=(FG 3 _ rfl).1;have fd4:=(FG 4 _ rfl).1;clear FV FG;go_wp2_with fail;exact bodyPost_ret (v:=zD9 true) (by simp [results,Tryz.results12,go_sem,fd0,fd1,fd2,fd3,fd4]) rfl ⟨congrArg Ending.returned HR.out,FX⟩
  ·have HR:Hid (valV 1 rn rd re []=R):=by show _=_;rw [<- HR0.out];simp [zD1,hp,HQ.out]
   go_wp2_with fail;clear hp r0 r1 r2 r3 hz Br;refine (zKB rn rd re wz).mono ?_;rintro e w8 ⟨rfl,e8⟩;have FV:=D2.l e8;have FG:=FV.put5 (iQ 1) (.bool rn) (iQ rd) (iQ re) (sV []);have FX:=Ext.setL (b:=w.heap.size) (by omega) [iQ 1,.bool rn,iQ rd,iQ re,sV []] 0 (xt XD e8);obtain ⟨wy,hy⟩:=nm (setL w8 (w.heap.size) 0 [iQ 1,.bool rn,iQ rd,iQ re,sV []]);rw [hy] at FG FX;have hy:(((((w8.setCell ⟨w.heap.size,0,none⟩ (iQ 1)).setCell ⟨w.heap.size,1,none⟩ (.bool rn)).setCell ⟨w.heap.size,2,none⟩ (iQ rd)).setCell ⟨w.heap.size,3,none⟩ (iQ re)).setCell ⟨w.heap.size,4,none⟩ (sV []))=wy:=hy;have b0:=(FV 0 _ rfl).1;have b1:=(FV 1 _ rfl).1;have b2:=(FV 2 _ rfl).1;have b3:=(FV 3 _ rfl).1;have b4:=(FV 4 _ rfl).1;have fb0:=(FV 0 _ rfl).2;have fb1:=(FV 1 _ rfl).2;have fb2:=(FV 2 _ rfl).2;have fb3:=(FV 3 _ rfl).2;have fb4:=(FV 4 _ rfl).2;have fd0:=(FG 0 _ rfl).1;have fd1:=(FG 1 _ rfl).1;have fd2:=(FG 2 _ rfl).1;have fd3:=(FG 3 _ rfl).1;have fd4:=(FG 4 _ rfl).1;clear FV FG;go_wp2_with fail;exact bodyPost_ret (v:=valV 1 rn rd re []) (by simp [results,Tryz.results12,go_sem,fd0,fd1,fd2,fd3,fd4]) rfl ⟨congrArg Ending.returned HR.out,FX⟩
 ·have HR:Hid (valV 0 false 0 0 []=R):=by show _=_;rw [<- HR0.out];simp [zD1,hp]
  clear r0 r1 r2 r3 Br;have FV:=D2;have FG:=FV.put5 (iQ 0) (.bool false) (iQ 0) (iQ 0) (sV []);have FX:=Ext.setL (b:=w.heap.size) (by omega) [iQ 0,.bool false,iQ 0,iQ 0,sV []] 0 (XD);obtain ⟨wy,hy⟩:=nm (setL wz (w.heap.size) 0 [iQ 0,.bool false,iQ 0,iQ 0,sV []]);rw [hy] at FG FX;have hy:(((((wz.setCell ⟨w.heap.size,0,none⟩ (iQ 0)).setCell ⟨w.heap.size,1,none⟩ (.bool false)).setCell ⟨w.heap.size,2,none⟩ (iQ 0)).setCell ⟨w.heap.size,3,none⟩ (iQ 0)).setCell ⟨w.heap.size,4,none⟩ (sV []))=wy:=hy;have b0:=(FV 0 _ rfl).1;have b1:=(FV 1 _ rfl).1;have b2:=(FV 2 _ rfl).1;have b3:=(FV 3 _ rfl).1;have b4:=(FV 4 _ rfl).1;have fb0:=(FV 0 _ rfl).2;have fb1:=(FV 1 _ rfl).2;have fb2:=(FV 2 _ rfl).2;have fb3:=(FV 3 _ rfl).2;have fb4:=(FV 4 _ rfl).2;have fd0:=(FG 0 _ rfl).1;have fd1:=(FG 1 _ rfl).1;have fd2:=(FG 2 _ rfl).1;have fd3:=(FG 3 _ rfl).1;have fd4:=(FG 4 _ rfl).1;clear FV FG;go_wp2_with fail;exact bodyPost_ret (v:=valV 0 false 0 0 []) (by simp [results,Tryz.results12,go_sem,fd0,fd1,fd2,fd3,fd4]) rfl ⟨congrArg Ending.returned HR.out,FX⟩
end Go.Proofs.YtkadkfmidlhedaaGreatDoor

