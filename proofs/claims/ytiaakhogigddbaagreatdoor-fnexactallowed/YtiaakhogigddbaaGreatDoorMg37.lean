/-
  Several texts in one: V6g, V6h, V8n, V9a.
-/
import Derived.Test.YtiaakhogigddbaaGreatDoorMg4
import Derived.Test.YtiaakhogigddbaaGreatDoorMg35
import Derived.Test.YtiaakhogigddbaaGreatDoorMg36
import Derived.Test.YtiaakhogigddbaaGreatDoorMg27
import Derived.Test.YtiaakhogigddbaaGreatDoorSuM
import Derived.Test.YtiaakhogigddbaaGreatDoorPwM
import Derived.Test.YtiaakhogigddbaaGreatDoorSqM
namespace Go.Proofs.YtiaakhogigddbaaGreatDoor
open Go.RowKit
def textOf (k:Int) (n:Bool) (d x:Int) (t:List UInt8):Value:=
 if k=0 then valV 2 false 0 0 [] else if k=1 then valV 2 false 0 0 (textT n d x) else if k=3 then valV 2 false 0 0 t else valV k n d x t
def textOfV (k:Int) (n:Bool) (d x:Int) (t:List UInt8):Value:=if goodV k n d x t then textOf k n d x t else errW
theorem sV_of {s:ByteArray} {l:List UInt8} (h:s.data.toList=l):(.string s:Value)=sV l:=by
 subst h;rfl
set_option maxRecDepth 8000 in
set_option maxHeartbeats 2000000 in
theorem textOfI (k:Int) (n:Bool) (d x:Int) (t:List UInt8) (w:World) (hl:t.length≤2000000) (d1 : -9223372036854775808≤d) (d2:d≤9223372036854775807) (hT:Tens w) (hE:ErrTab w) (hI:ItoaC w) :
  Calls Tryz.prog 111 #[valV k n d x t] w fun e w'=>e=.returned (textOfV k n d x t)∧Ext w w':=by
 obtain ⟨R,hR⟩:∃ R,textOfV k n d x t=R:=⟨_,rfl⟩;have HR0:Hid (textOfV k n d x t=R):=hR;rw [hR];clear hR;obtain ⟨wa,wb,ha,hb,sa,_,B1,B2,X⟩:=mkB2 w [.int .i64 k,.bool n,.int .i64 d,.int .i64 x,sV t] [.int .i64 0,.bool false,.int .i64 0,.int .i64 0,sV []] 39 39;obtain ⟨a0,a1,a2,a3,a4⟩:=Vec.five B1;go_enter Tryz.func111,Tryz.ntmps111;go_wp2_with fail;clear ha hb sa a0 a1 a2 a3 a4;refine (goodVI k n d x t wb hl d1 d2 (hT.later X) (hE.later X)).mono ?_;rintro e w1 ⟨rfl,e1⟩;have C1:=B1.later e1;have C2:=B2.later e1;have X1:=xt X e1;clear B1 B2 hE;obtain ⟨g,hg⟩:∃ g,goodV k n d x t=g:=⟨_,rfl⟩;rw [hg];cases g
 ·have HR:Hid (errW=R):=by show _=_;rw [← HR0.out];simp [textOfV,hg]
  clear hg hT hI d1 d2;go_wp2_with fail;refine (errVI errT _).mono ?_;rintro e w2 ⟨rfl,e2⟩;obtain ⟨wy,hy,FX,⟨b0,b1,b2,b3,b4⟩,⟨fb0,fb1,fb2,fb3,fb4⟩,fd0,fd1,fd2,fd3,fd4⟩:=fin5 (C2.later e2) (xt X1 e2) (by omega) (4) (false) (0) (0) (errT);go_wp2_with fail;exact bodyPost_ret (v:=errW) (by simp [results,Tryz.results111,go_sem,fd0,fd1,fd2,fd3,fd4]) rfl ⟨congrArg Ending.returned HR.out,FX⟩
 ·have HR1:Hid (textOf k n d x t=R):=by show _=_;rw [← HR0.out];simp [textOfV,hg]
  obtain ⟨a0,a1,a2,a3,a4⟩:=Vec.five C1;by_cases h1:k=1
  ·subst h1;clear hg;go_wp2_with fail;clear a0 a1 a2 a3 a4;refine (textI repC n d x w1 (hI.later X1) d1 d2 (hT.later X1)).mono ?_;rintro e w2 ⟨s,rfl,hs,e2⟩;have es:=sV_of hs;rw [es];clear hs es hT hI d1 d2 s;have HR:Hid (valV 2 false 0 0 (textT n d x)=R):=by show _=_;rw [← HR1.out];simp [textOf]
   obtain ⟨u,hu⟩:∃ u,textT n d x=u:=⟨_,rfl⟩;rw [hu] at HR ⊢;clear hu;go_wp2_with fail;refine (textVI u _).mono ?_;rintro e w3 ⟨rfl,e3⟩;obtain ⟨wy,hy,FX,⟨b0,b1,b2,b3,b4⟩,⟨fb0,fb1,fb2,fb3,fb4⟩,fd0,fd1,fd2,fd3,fd4⟩:=fin5 ((C2.later e2).later e3) (xt (xt X1 e2) e3) (by omega) (2) (false) (0) (0) (u);go_wp2_with fail;exact bodyPost_ret (v:=valV 2 false 0 0 u) (by simp [results,Tryz.results111,go_sem,fd0,fd1,fd2,fd3,fd4]) rfl ⟨congrArg Ending.returned HR.out,FX⟩
  ·obtain ⟨rfl,rfl,rfl⟩:=goodV_zero hg h1;clear hT hI d1 d2;by_cases h4:k=4
   ·subst h4;clear hg;have HR:Hid (valV 4 false 0 0 t=R):=(by show _=_;rw [← HR1.out];simp [textOf]);obtain ⟨wy,hy,FX,⟨b0,b1,b2,b3,b4⟩,⟨fb0,fb1,fb2,fb3,fb4⟩,fd0,fd1,fd2,fd3,fd4⟩:=fin5 (C2) (X1) (by omega) (4) (false) (0) (0) (t);go_wp2_with fail;exact bodyPost_ret (v:=valV 4 false 0 0 t) (by simp [results,Tryz.results111,go_sem,fd0,fd1,fd2,fd3,fd4]) rfl ⟨congrArg Ending.returned HR.out,FX⟩
   ·have HR:Hid (valV 2 false 0 0 t=R):=by
     show _=_;rw [← HR1.out];by_cases h0:k=0
     ·subst h0;rw [goodV_empty hg];simp [textOf]
     ·by_cases h3:k=3
      ·simp [textOf,h3]
      ·have h2:k=2:=by
        simp only [goodV,h1,if_false,h0,h3,h4] at hg;by_cases h2:k=2
        ·exact h2
        ·simp [h2] at hg
       simp [textOf,h2]
    clear hg;go_wp2_with fail;clear a0 a1 a2 a3 a4;refine (textVI t _).mono ?_;rintro e w3 ⟨rfl,e3⟩;obtain ⟨wy,hy,FX,⟨b0,b1,b2,b3,b4⟩,⟨fb0,fb1,fb2,fb3,fb4⟩,fd0,fd1,fd2,fd3,fd4⟩:=fin5 (C2.later e3) (xt X1 e3) (by omega) (2) (false) (0) (0) (t);go_wp2_with fail;exact bodyPost_ret (v:=valV 2 false 0 0 t) (by simp [results,Tryz.results111,go_sem,fd0,fd1,fd2,fd3,fd4]) rfl ⟨congrArg Ending.returned HR.out,FX⟩
set_option maxRecDepth 8000 in
set_option maxHeartbeats 2000000 in
theorem asTextS (k:Int) (n:Bool) (d x:Int) (t:List UInt8) (w:World)  :
  Calls Tryz.prog 61 #[valV k n d x t] w fun e w'=>e=.returned (textOf k n d x t)∧Ext w w':=by
 obtain ⟨R,hR⟩:∃ R,textOf k n d x t=R:=⟨_,rfl⟩;have HR0:Hid (textOf k n d x t=R):=hR;rw [hR];clear hR;obtain ⟨wa,wb,ha,hb,sa,_,B1,B2,X⟩:=mkB2 w [.int .i64 k,.bool n,.int .i64 d,.int .i64 x,sV t] [.int .i64 0,.bool false,.int .i64 0,.int .i64 0,sV []] 39 39;obtain ⟨a0,a1,a2,a3,a4⟩:=Vec.five B1;go_enter Tryz.func61,Tryz.ntmps61;by_cases h0:k=0
 ·subst h0;have HR:Hid (valV 2 false 0 0 []=R):=by show _=_;rw [← HR0.out];simp [textOf]
  go_wp2_with fail;clear ha hb sa a0 a1 a2 a3 a4;refine (textVS [] wb).mono ?_;rintro e w2 ⟨rfl,e2⟩;obtain ⟨wy,hy,FX,⟨b0,b1,b2,b3,b4⟩,⟨fb0,fb1,fb2,fb3,fb4⟩,fd0,fd1,fd2,fd3,fd4⟩:=fin5 (B2.later e2) (xt X e2) (by omega) (2) (false) (0) (0) ([]);go_wp2_with fail;exact bodyPost_ret (v:=valV 2 false 0 0 []) (by simp [results,Tryz.results61,go_sem,fd0,fd1,fd2,fd3,fd4]) rfl ⟨congrArg Ending.returned HR.out,FX⟩
 ·by_cases h1:k=1
  ·subst h1;go_wp2_with fail;clear ha hb sa a0 a1 a2 a3 a4;refine (textS n d x wb).mono ?_;rintro e w2 ⟨s,rfl,hs,e2⟩;have es:=sV_of hs;rw [es];clear hs es s;have HR:Hid (valV 2 false 0 0 (textT n d x)=R):=by show _=_;rw [← HR0.out];simp [textOf]
   obtain ⟨u,hu⟩:∃ u,textT n d x=u:=⟨_,rfl⟩;rw [hu] at HR ⊢;clear hu;go_wp2_with fail;refine (textVS u w2).mono ?_;rintro e w3 ⟨rfl,e3⟩;obtain ⟨wy,hy,FX,⟨b0,b1,b2,b3,b4⟩,⟨fb0,fb1,fb2,fb3,fb4⟩,fd0,fd1,fd2,fd3,fd4⟩:=fin5 ((B2.later e2).later e3) (xt (xt X e2) e3) (by omega) (2) (false) (0) (0) (u);go_wp2_with fail;exact bodyPost_ret (v:=valV 2 false 0 0 u) (by simp [results,Tryz.results61,go_sem,fd0,fd1,fd2,fd3,fd4]) rfl ⟨congrArg Ending.returned HR.out,FX⟩
  ·by_cases h3:k=3
   ·subst h3;have HR:Hid (valV 2 false 0 0 t=R):=(by show _=_;rw [← HR0.out];simp [textOf]);go_wp2_with fail;clear ha hb sa a0 a1 a2 a3 a4;refine (textVS t wb).mono ?_;rintro e w2 ⟨rfl,e2⟩;obtain ⟨wy,hy,FX,⟨b0,b1,b2,b3,b4⟩,⟨fb0,fb1,fb2,fb3,fb4⟩,fd0,fd1,fd2,fd3,fd4⟩:=fin5 (B2.later e2) (xt X e2) (by omega) (2) (false) (0) (0) (t);go_wp2_with fail;exact bodyPost_ret (v:=valV 2 false 0 0 t) (by simp [results,Tryz.results61,go_sem,fd0,fd1,fd2,fd3,fd4]) rfl ⟨congrArg Ending.returned HR.out,FX⟩
   ·have HR:Hid (valV k n d x t=R):=(by show _=_;rw [← HR0.out];simp [textOf,h0,h1,h3]);obtain ⟨wy,hy,FX,⟨b0,b1,b2,b3,b4⟩,⟨fb0,fb1,fb2,fb3,fb4⟩,fd0,fd1,fd2,fd3,fd4⟩:=fin5 (B2) (X) (by omega) (k) (n) (d) (x) (t);go_wp2_with fail;exact bodyPost_ret (v:=valV k n d x t) (by simp [results,Tryz.results61,go_sem,fd0,fd1,fd2,fd3,fd4]) rfl ⟨congrArg Ending.returned HR.out,FX⟩
def showT (k:Int) (n:Bool) (d x:Int) (t:List UInt8):List UInt8:=if k=0 then [] else if k=1 then textT n d x else t
theorem field_text (k:Int) (n:Bool) (d x:Int) (t:List UInt8) (W:World):(Instr.field 39 (valV k n d x t) 2).run Tryz.prog W=.ok (sV t) W:=by kernel_rfl
theorem textOf_show (k:Int) (n:Bool) (d x:Int) (t:List UInt8):∃ k2 n2 d2 x2,textOf k n d x t=valV k2 n2 d2 x2 (showT k n d x t):=by
 unfold textOf showT
 split
 ·exact ⟨_,_,_,_,rfl⟩
 ·split
  ·exact ⟨_,_,_,_,rfl⟩
  ·split
   ·exact ⟨_,_,_,_,rfl⟩
   ·exact ⟨_,_,_,_,rfl⟩
theorem shown_dec (u:Nat):(Lib.decDigits u).all shownC=true:=by
 induction u using Nat.strongRecOn with
 | ind u ih =>
  rw [Lib.decDigits]
  split
  ·next h =>
   have:shownC (UInt8.ofNat (48+u))=true:=by
    have e:(UInt8.ofNat (48+u)).toNat=48+u:=(by rw [UInt8.toNat_ofNat'];omega);unfold shownC;rw [e];exact decide_eq_true (by omega)
   rw [List.all_cons,this];rfl
  ·next h =>
   have e:(UInt8.ofNat (48+u % 10)).toNat=48+u % 10:=by rw [UInt8.toNat_ofNat'];omega
   have:shownC (UInt8.ofNat (48+u % 10))=true:=by
    unfold shownC;rw [e];exact decide_eq_true (by omega)
   rw [List.all_append,ih (u / 10) (by omega),List.all_cons,this];rfl
theorem shown_rep (k:Nat):(List.replicate k (48:UInt8)).all shownC=true:=by
 rw [List.all_eq_true];intro c hc;rw [(List.mem_replicate.1 hc).2];decide
theorem shown_take {D:List UInt8} (h:D.all shownC=true) (k:Nat):(D.take k).all shownC=true:=by
 rw [List.all_eq_true] at h ⊢;exact fun c hc=>h c (List.mem_of_mem_take hc)
theorem shown_drop {D:List UInt8} (h:D.all shownC=true) (k:Nat):(D.drop k).all shownC=true:=by
 rw [List.all_eq_true] at h ⊢;exact fun c hc=>h c (List.mem_of_mem_drop hc)
theorem shown_sizeT {D:List UInt8} (h:D.all shownC=true) (x:Int):(sizeT D x).all shownC=true:=by
 have t:=fun k=>shown_take h k;have p:=fun k=>shown_drop h k;have c46:shownC 46=true:=by decide
 have c48:shownC 48=true:=by decide
 have c69:shownC 69=true:=by decide
 have c45:shownC 45=true:=by decide
 have c43:shownC 43=true:=by decide
 unfold sizeT
 split
 ·rw [List.all_append,h,shown_rep];rfl
 ·split
  ·rw [List.all_append,t,List.all_cons,c46,p];rfl
  ·split
   ·rw [List.all_cons,c48,List.all_cons,c46,List.all_append,shown_rep,h];rfl
   ·have a1:(if 1<D.length then 46 :: D.drop 1 else ([]:List UInt8)).all shownC=true:=by
     split
     ·rw [List.all_cons,c46,p];rfl
     ·rfl
    have a2:(if (D.length:Int) - 1+x<0 then 69 :: 45 :: Lib.decDigits (-((D.length:Int) - 1+x)).toNat else 69 :: 43 :: Lib.decDigits ((D.length:Int) - 1+x).toNat).all shownC=true:=by
     split
     ·rw [List.all_cons,c69,List.all_cons,c45,shown_dec];rfl
     ·rw [List.all_cons,c69,List.all_cons,c43,shown_dec];rfl
    rw [List.all_append,List.all_append,t,a1,a2];rfl
theorem shown_textT (n:Bool) (d x:Int):(textT n d x).all shownC=true:=by
 unfold textT
 split
 ·split
  ·decide
  ·rw [List.all_append,shown_sizeT (shown_dec _)];cases n <;> decide
 ·rfl
theorem textT_len (n:Bool) (d x:Int):(textT n d x).length≤2000:=by
 unfold textT
 split
 ·next hg =>
  split
  ·decide
  ·next hd =>
   have hgd:0<d∧d<1000000000000000∧¬ d % 10=0 ∧ -300≤x∧x≤300:=by simpa [goodB,hd] using hg
   have hl:=sizeT_len (dec_len hgd.1 hgd.2.1).2 hgd.2.2.2.1 hgd.2.2.2.2;rw [List.length_append];cases n <;> simp <;> omega
 ·simp
theorem showT_plain {k:Int} {n:Bool} {d x:Int} {t:List UInt8} (hg:goodV k n d x t=true):(showT k n d x t).all shownC=true∧(showT k n d x t).length≤2000:=by
 unfold showT
 split
 ·exact ⟨rfl,by simp⟩
 ·next h0 =>
  split
  ·exact ⟨shown_textT _ _ _,by have:=textT_len n d x;omega⟩
  ·next h1 =>
   simp only [goodV,h1,h0,if_false,Bool.and_eq_true] at hg;have hr:=hg.2
   split at hr
   ·have:t.all shownC=true∧t.length≤1000:=(by simpa [printN] using hr);exact ⟨this.1,by omega⟩
   ·split at hr
    ·have:t=[84,82,85,69]∨t=[70,65,76,83,69]:=by simpa [boolB] using hr
     rcases this with rfl | rfl <;> exact ⟨by decide,by decide⟩
    ·split at hr
     ·have hm:t ∈ errL:=by
       unfold memB at hr;rw [List.any_eq_true] at hr;obtain ⟨u,hu,he⟩:=hr;have:u=t:=(by simpa using he);rw [← this];exact hu
      have:∀ u ∈ errL,u.all shownC=true∧u.length≤2000:=(by decide);exact this t hm
     ·cases hr
abbrev nameT:List UInt8:=[35,78,65,77,69,63]
abbrev numbT:List UInt8:=[35,78,85,77,33]
abbrev divT:List UInt8:=[35,68,73,86,47,48,33]
abbrev evV (l:List UInt8):Value:=valV 4 false 0 0 l
def putV (r:DR):Value:=if r.ok=true then valV 1 r.neg r.d r.e [] else evV numbT
noncomputable def sqrtR (n:Bool) (d e:Int):DR:=
 if h : -9223372036854775808≤d∧d≤9223372036854775807 then Classical.choose (sqrt_both n d e h.1 h.2) else badR
theorem sqrtSV (n:Bool) (d e:Int) (a1 : -9223372036854775808≤d) (a2:d≤9223372036854775807) (w:World) :
  Calls Tryz.prog 128 #[.agg #[.bool n,.int .i64 d,.int .i64 e]] w fun r w'=>r=.returned (resV (sqrtR n d e))∧Ext w w':=by
 unfold sqrtR;rw [dif_pos ⟨a1,a2⟩];exact (Classical.choose_spec (sqrt_both n d e a1 a2)).1 w
theorem sqrtIV (n:Bool) (d e:Int) (a1 : -9223372036854775808≤d) (a2:d≤9223372036854775807) (w:World) (hT:Tens w) :
  Calls Tryz.prog 169 #[.agg #[.bool n,.int .i64 d,.int .i64 e]] w fun r w'=>r=.returned (resV (sqrtR n d e))∧Ext w w':=by
 unfold sqrtR;rw [dif_pos ⟨a1,a2⟩];exact (Classical.choose_spec (sqrt_both n d e a1 a2)).2 w hT
def halfB (n:Bool) (d e:Int):Bool:=!n && decide (d=5) && decide (e = -1)
noncomputable def powerV (n:Bool) (d e:Int) (n':Bool) (d' e':Int):Value:=
 if d=0∧d'=0 then evV numbT else if d=0∧n'=true then evV divT else
 if intOk n' d' e'=true then putV (powR n d e (intR n' d' e')) else if halfB n' d' e'=true then putV (sqrtR n d e) else evV numbT
noncomputable def stepV (o:Nat) (n:Bool) (d e:Int) (n':Bool) (d' e':Int):Value:=
 if o=0 then putV (addR n d e n' d' e') else if o=1 then putV (subR n d e n' d' e') else if o=2 then putV (mulR n d e n' d' e') else
 if o=3 then (if d'=0 then evV divT else putV (divR n d e n' d' e')) else powerV n d e n' d' e'
theorem putV_val (r:DR):∃ k2 n2 d2 x2 t2,putV r=valV k2 n2 d2 x2 t2:=by
 unfold putV
 split
 ·exact ⟨_,_,_,_,_,rfl⟩
 ·exact ⟨_,_,_,_,_,rfl⟩
theorem powerV_val (n:Bool) (d e:Int) (n':Bool) (d' e':Int):∃ k2 n2 d2 x2 t2,powerV n d e n' d' e'=valV k2 n2 d2 x2 t2:=by
 unfold powerV
 repeat' split
 all_goals first | exact putV_val _ | exact ⟨_,_,_,_,_,rfl⟩
theorem stepV_val (o:Nat) (n:Bool) (d e:Int) (n':Bool) (d' e':Int):∃ k2 n2 d2 x2 t2,stepV o n d e n' d' e'=valV k2 n2 d2 x2 t2:=by
 unfold stepV
 repeat' split
 all_goals first | exact putV_val _ | exact powerV_val _ _ _ _ _ _ | exact ⟨_,_,_,_,_,rfl⟩
def numD (k:Int) (n:Bool) (d x:Int) (t:List UInt8):Option (Bool × Int × Int):=
 if k=0 then some (false,0,0) else
 if k=2 then (if (readR (trimB t)).ok=true then some ((readR (trimB t)).neg,(readR (trimB t)).d,(readR (trimB t)).e) else none) else
 if k=3 then (if (t == trueT)=true then some (false,1,0) else some (false,0,0)) else some (n,d,x)
theorem numOf_none {k:Int} {n:Bool} {d x:Int} {t:List UInt8} (h:numD k n d x t=none):numOf k n d x t=errW:=by
 unfold numD at h;unfold numOf
 split at h
 ·cases h
 ·next h0 =>
  rw [if_neg h0]
  split at h
  ·next h2 =>
   rw [if_pos h2]
   split at h
   ·cases h
   ·next hr=>unfold numR;rw [if_neg hr]
  ·split at h
   ·split at h
    ·cases h
    ·cases h
   ·cases h
theorem read_good {l:List UInt8} (h:(readR l).ok=true):goodB (readR l).neg (readR l).d (readR l).e=true:=by
 unfold readR mantR at h ⊢
 repeat' split at h
 all_goals first | exact absurd h (by decide) | skip
 all_goals (repeat' split)
 all_goals first | exact put_ok h | contradiction | skip
theorem numOf_some {k:Int} {n:Bool} {d x:Int} {t:List UInt8} (hg:goodV k n d x t=true) (h4:k ≠ 4) {a:Bool} {b c:Int} (h:numD k n d x t=some (a,b,c)) :
  numOf k n d x t=valV 1 a b c []∧goodB a b c=true:=by
 unfold numD at h;unfold numOf
 split at h
 ·next h0 =>
  obtain ⟨rfl,rfl,rfl⟩:false=a∧0=b∧0=c:=by simpa using h
  rw [if_pos h0];exact ⟨rfl,by decide⟩
 ·next h0 =>
  rw [if_neg h0]
  split at h
  ·next h2 =>
   rw [if_pos h2]
   split at h
   ·next hr =>
    obtain ⟨rfl,rfl,rfl⟩:(readR (trimB t)).neg=a∧(readR (trimB t)).d=b∧(readR (trimB t)).e=c:=(by simpa using h);exact ⟨by unfold numR;rw [if_pos hr],read_good hr⟩
   ·cases h
  ·next h2 =>
   rw [if_neg h2]
   split at h
   ·next h3 =>
    rw [if_pos h3]
    split at h
    ·next ht =>
     obtain ⟨rfl,rfl,rfl⟩:false=a∧1=b∧0=c:=(by simpa using h);rw [if_pos ht];exact ⟨rfl,by decide⟩
    ·next ht =>
     obtain ⟨rfl,rfl,rfl⟩:false=a∧0=b∧0=c:=(by simpa using h);rw [if_neg ht];exact ⟨rfl,by decide⟩
   ·next h3 =>
    rw [if_neg h3];obtain ⟨rfl,rfl,rfl⟩:n=a∧d=b∧x=c:=(by simpa using h);have h1:k=1:=by
     rcases Classical.em (k=1) with h1 | h1
     ·exact h1
     ·exfalso;simp [goodV,h0,h1,h2,h3,h4] at hg
    subst h1;obtain ⟨g1,rfl⟩:=goodV_num hg;exact ⟨rfl,g1⟩
noncomputable def reckV (o:Nat) (k:Int) (n:Bool) (d x:Int) (t:List UInt8) (k':Int) (n':Bool) (d' x':Int) (t':List UInt8):Value:=
 match numD k n d x t with
 | none=>errW
 | some a=>match numD k' n' d' x' t' with
  | none=>errW
  | some b=>stepV o a.1 a.2.1 a.2.2 b.1 b.2.1 b.2.2
def joinV (k:Int) (n:Bool) (d x:Int) (t:List UInt8) (k':Int) (n':Bool) (d' x':Int) (t':List UInt8):Value:=
 if (showT k n d x t++showT k' n' d' x' t').length≤1000 then valV 2 false 0 0 (showT k n d x t++showT k' n' d' x' t') else errW
noncomputable def makeV (o:Nat) (k:Int) (n:Bool) (d x:Int) (t:List UInt8) (k':Int) (n':Bool) (d' x':Int) (t':List UInt8):Value:=
 if o<5 then reckV o k n d x t k' n' d' x' t' else if o=5 then joinV k n d x t k' n' d' x' t' else boolW (ordB o (compareV k n d x t k' n' d' x' t'))
noncomputable def workV (o:Nat) (k:Int) (n:Bool) (d x:Int) (t:List UInt8) (k':Int) (n':Bool) (d' x':Int) (t':List UInt8):Value:=
 if k=4 then valV k n d x t else if k'=4 then valV k' n' d' x' t' else makeV o k n d x t k' n' d' x' t'
def signL:List (List UInt8):=[[43],[45],[42],[47],[94],[38],[61],[60,62],[60],[62],[60,61],[62,61]]
def opN (l:List UInt8):Option Nat:=signL.findIdx? fun s=>s == l
noncomputable def applyV (op:List UInt8) (k:Int) (n:Bool) (d x:Int) (t:List UInt8) (k':Int) (n':Bool) (d' x':Int) (t':List UInt8):Value:=
 match opN op with
 | none=>evV nameT
 | some o=>if (goodV k n d x t && goodV k' n' d' x' t')=true then workV o k n d x t k' n' d' x' t' else errW
theorem reckV_val (o:Nat) (k:Int) (n:Bool) (d x:Int) (t:List UInt8) (k':Int) (n':Bool) (d' x':Int) (t':List UInt8):∃ k2 n2 d2 x2 t2,reckV o k n d x t k' n' d' x' t'=valV k2 n2 d2 x2 t2:=by
 unfold reckV
 repeat' split
 all_goals first | exact stepV_val _ _ _ _ _ _ _ | exact ⟨_,_,_,_,_,rfl⟩
theorem makeV_val (o:Nat) (k:Int) (n:Bool) (d x:Int) (t:List UInt8) (k':Int) (n':Bool) (d' x':Int) (t':List UInt8):∃ k2 n2 d2 x2 t2,makeV o k n d x t k' n' d' x' t'=valV k2 n2 d2 x2 t2:=by
 unfold makeV joinV
 repeat' split
 all_goals first | exact reckV_val _ _ _ _ _ _ _ _ _ _ _ | exact ⟨_,_,_,_,_,rfl⟩
theorem workV_val (o:Nat) (k:Int) (n:Bool) (d x:Int) (t:List UInt8) (k':Int) (n':Bool) (d' x':Int) (t':List UInt8):∃ k2 n2 d2 x2 t2,workV o k n d x t k' n' d' x' t'=valV k2 n2 d2 x2 t2:=by
 unfold workV
 repeat' split
 all_goals first | exact makeV_val _ _ _ _ _ _ _ _ _ _ _ | exact ⟨_,_,_,_,_,rfl⟩
theorem applyV_val (op:List UInt8) (k:Int) (n:Bool) (d x:Int) (t:List UInt8) (k':Int) (n':Bool) (d' x':Int) (t':List UInt8):∃ k2 n2 d2 x2 t2,applyV op k n d x t k' n' d' x' t'=valV k2 n2 d2 x2 t2:=by
 unfold applyV
 repeat' split
 all_goals first | exact workV_val _ _ _ _ _ _ _ _ _ _ _ | exact ⟨_,_,_,_,_,rfl⟩
end Go.Proofs.YtiaakhogigddbaaGreatDoor

