/-
  Several texts in one: TxJ, TxLaw, V6g, V6h, V8n, V9a, W9p, X9j.
-/
import Derived.Test.YtkadkfmidlhedaaGreatDoorMg41
import Derived.Test.YtkadkfmidlhedaaGreatDoorMg3
import Derived.Test.YtkadkfmidlhedaaGreatDoorMg22
import Derived.Test.YtkadkfmidlhedaaGreatDoorMg40
import Derived.Test.YtkadkfmidlhedaaGreatDoorMg32
import Derived.Test.YtkadkfmidlhedaaGreatDoorV9c
import Derived.Test.YtkadkfmidlhedaaGreatDoorSuM
import Derived.Test.YtkadkfmidlhedaaGreatDoorPwM
import Derived.Test.YtkadkfmidlhedaaGreatDoorSqM
import Derived.Test.YtkadkfmidlhedaaGreatDoorMg24
import Derived.Test.YtkadkfmidlhedaaGreatDoorMg25
namespace Go.Proofs.YtkadkfmidlhedaaGreatDoor
open Go.RowKit
theorem sizeT_a {D:List UInt8} {x:Int} (h:0≤x∧(D.length:Int) - 1+x<15):sizeT D x=D++List.replicate x.toNat 48:=by unfold sizeT;rw [if_pos h]
theorem sizeT_b {D:List UInt8} {x:Int} (h0:x<0) (h : -5≤(D.length:Int) - 1+x) :
  sizeT D x=(if (D.length:Int)+x≤0 then 48 :: 46 :: (List.replicate (-((D.length:Int)+x)).toNat 48++D) else D.take ((D.length:Int)+x).toNat++46 :: D.drop ((D.length:Int)+x).toNat):=by
 unfold sizeT;rw [if_neg (by omega)];by_cases h1:(D.length:Int)+x≤0
 ·rw [if_neg (by omega),if_pos ⟨h0,h⟩,if_pos h1];have e : -((D.length:Int) - 1+x) - 1 = -((D.length:Int)+x):=by omega
  rw [e]
 ·rw [if_pos ⟨h0,by omega⟩,if_neg h1];have e:(D.length:Int) - 1+x+1=(D.length:Int)+x:=by omega
  rw [e]
theorem sizeT_c {D:List UInt8} {x:Int} (h1:¬ (0≤x∧(D.length:Int) - 1+x<15)) (h2:¬ (x<0 ∧ -5≤(D.length:Int) - 1+x)) :
  sizeT D x=D.take 1++(if 1<D.length then 46 :: D.drop 1 else [])++powT ((D.length:Int) - 1+x):=by
 unfold sizeT powT;rw [if_neg h1,if_neg (by omega),if_neg h2]
theorem itoa_len0 {d:Int} (h0:0≤d) (h1:d<1000000000000000):1≤(Lib.itoa d).length∧(Lib.itoa d).length≤15:=by
 unfold Lib.itoa;rw [if_neg (by omega)];exact dec_len_le 14 d.toNat (by
  have:(10:Nat) ^ (14+1)=1000000000000000:=by decide
  omega)
theorem sizeT_len {D:List UInt8} {x:Int} (l1:D.length≤15) (x0 : -300≤x) (x1:x≤300):(sizeT D x).length≤1000:=by
 have e:(10:Nat) ^ (14+1)=1000000000000000:=by decide
 have h1:=(dec_len_le 14 (-((D.length:Int) - 1+x)).toNat (by omega)).2;have h2:=(dec_len_le 14 ((D.length:Int) - 1+x).toNat (by omega)).2;unfold sizeT
 split
 ·simp;omega
 ·split
  ·simp;omega
  ·split
   ·simp;omega
   ·split <;> split <;> simp <;> omega
set_option maxRecDepth 8000 in
set_option maxHeartbeats 1000000 in
theorem sizeText_any (RP:RepC) (s:ByteArray) (D:List UInt8) (x:Int) (w0 w:World) (IT:ItoaC w0) (X0:Ext w0 w) (hs:s.data.toList=D) (l0:1≤D.length) (l1:D.length≤15) (x0 : -300≤x) (x1':x≤300) :
  Calls Tryz.prog 148 #[.string s,.int .i64 x] w fun e w'=>∃ t,e=.returned (.string t)∧t.data.toList=sizeT D x∧Ext w w':=by
 have hsz:=size_of hs;obtain ⟨L,hL⟩:∃ L,D.length=L:=⟨_,rfl⟩;by_cases ca:0≤x∧(L:Int) - 1+x<15
 ·have HZ:Hid (sizeT D x=D++List.replicate x.toNat 48):=sizeT_a (by rw [hL];exact ca);obtain ⟨c1,c2⟩:=ca;have R:Hid (∀ w:World,Calls Tryz.prog 199 #[.string ⟨#[48]⟩,.int .i64 x] w fun e w'=>∃ s,e=.returned (.string s)∧s.data.toList=List.replicate x.toNat 48∧Ext w w'):=fun w=>RP x w c1 (by omega);have HS:Hid (s.data.toList=D):=hs;rw [hL] at hsz l0 l1;clear RP IT X0 hs hL;go_enter Tryz.func148,Tryz.ntmps148;go_wp2_with fail;refine (R.out _).mono ?_;rintro e w1 ⟨t,rfl,ht,e1⟩;have htz:=size_of ht;rw [List.length_replicate] at htz;have HT:Hid (t.data.toList=List.replicate x.toNat 48):=ht;clear ht R;go_wp2_with fail;go_ret;exact ⟨_,rfl,by rw [HZ.out];simp [HS.out,HT.out],e1⟩
 ·by_cases cb:x<0 ∧ -5≤(L:Int) - 1+x
  ·have HZ:=sizeT_b (D:=D) cb.1 (by rw [hL];exact cb.2);have P:=pointed_any RP s D ((D.length:Int)+x) w hs l1 (by omega) (by omega);rw [← HZ,hL] at P;obtain ⟨c1,c2⟩:=cb;have HP:Hid (Calls Tryz.prog 200 #[.string s,.int .i64 ((L:Int)+x)] w fun e w'=>∃ t,e=.returned (.string t)∧t.data.toList=sizeT D x∧Ext w w'):=P;rw [hL] at hsz l0 l1;clear RP IT X0 hs hL HZ P ca;go_enter Tryz.func148,Tryz.ntmps148;go_wp2_with fail;refine (HP.out).mono ?_;rintro e w1 ⟨t,rfl,ht,e1⟩;have HT:Hid (t.data.toList=sizeT D x):=ht;clear ht HP;go_wp2_with fail;go_ret;exact ⟨_,rfl,HT.out,e1⟩
  ·have HZ:=sizeT_c (D:=D) (x:=x) (by rw [hL];exact ca) (by rw [hL];exact cb);have P:=powered_any s D ((D.length:Int) - 1+x) w0 w IT X0 hs l0 l1 (by omega) (by omega);rw [← HZ,hL] at P;have HP:Hid (Calls Tryz.prog 201 #[.string s,.int .i64 ((L:Int) - 1+x)] w fun e w'=>∃ t,e=.returned (.string t)∧t.data.toList=sizeT D x∧Ext w w'):=P;rw [hL] at hsz l0 l1;clear RP IT X0 hs hL HZ P;by_cases hx:x<0
   ·have ct:(L:Int) - 1+x < -5:=(by omega);clear ca cb;go_enter Tryz.func148,Tryz.ntmps148;go_wp2_with fail;refine (HP.out).mono ?_;rintro e w1 ⟨t,rfl,ht,e1⟩;have HT:Hid (t.data.toList=sizeT D x):=ht;clear ht HP;go_wp2_with fail;go_ret;exact ⟨_,rfl,HT.out,e1⟩
   ·have ct:15≤(L:Int) - 1+x:=(by omega);clear ca cb;go_enter Tryz.func148,Tryz.ntmps148;go_wp2_with fail;refine (HP.out).mono ?_;rintro e w1 ⟨t,rfl,ht,e1⟩;have HT:Hid (t.data.toList=sizeT D x):=ht;clear ht HP;go_wp2_with fail;go_ret;exact ⟨_,rfl,HT.out,e1⟩
theorem textT_good {n:Bool} {d x:Int} (h:goodB n d x=true):textT n d x=(if n then [45] else [])++sizeT (Lib.itoa d) x:=by
 obtain ⟨g0,g1,g2⟩:=good_range h;have e:Lib.itoa d=Lib.decDigits d.toNat:=by unfold Lib.itoa;rw [if_neg (by omega)]
 unfold textT;rw [if_pos h,e];by_cases hd:d=0
 ·obtain ⟨rfl,rfl⟩:=g2 hd;subst hd;rw [if_pos rfl];have e0:Lib.decDigits (0:Int).toNat=[48]:=by rw [Lib.decDigits,dif_pos (by decide)];rfl
  rw [e0];rfl
 ·rw [if_neg hd]
set_option maxRecDepth 8000 in
set_option maxHeartbeats 1000000 in
theorem textI (RP:RepC) (n:Bool) (d x:Int) (w:World) (IT:ItoaC w) (d1 : -9223372036854775808≤d) (d2:d≤9223372036854775807) (hT:Tens w) :
  Calls Tryz.prog 104 #[.agg #[.bool n,.int .i64 d,.int .i64 x]] w fun e w'=>∃ s,e=.returned (.string s)∧s.data.toList=textT n d x∧Ext w w':=by
 go_enter Tryz.func104,Tryz.ntmps104;go_wp2_with fail;refine (goodI n d x _ d1 d2 (hT.later (x1 _ _))).mono ?_;rintro r w1 ⟨rfl,e1⟩;have B:=(Box3.made w (.bool n) (.int .i64 d) (.int .i64 x) 24).later e1;have X1:=xt (x1 _ _) e1;clear e1 hT;have B':=B;obtain ⟨⟨p0,p1,p2⟩,_⟩:=B';cases hg:goodB n d x
 ·have HT:Hid (textT n d x=[]):=by simp [textT,hg,Hid]
  clear hg;go_wp2_with fail;go_ret;exact ⟨_,rfl,by rw [HT.out],X1⟩
 ·have HT:Hid (textT n d x=(if n then [45] else [])++sizeT (Lib.itoa d) x):=textT_good hg;obtain ⟨g0,g1,g2⟩:=good_range hg;obtain ⟨gx0,gx1⟩:=good_exp hg;have IC:Hid (∀ w2,Ext w1 w2→Calls Tryz.prog 149 #[.int .i64 d] w2 fun e w'=>∃ s,e=.returned (.string s)∧s.data.toList=Lib.itoa d∧Ext w2 w'):=fun w2 hx=>IT d w2 (by omega) (by omega) (xt X1 hx);have SC:Hid (∀ w2 s,Ext w1 w2→s.data.toList=Lib.itoa d→Calls Tryz.prog 148 #[.string s,.int .i64 x] w2 fun e w'=>∃ t,e=.returned (.string t)∧t.data.toList=sizeT (Lib.itoa d) x∧Ext w2 w'):=fun w2 s hx hs =>
   sizeText_any RP s (Lib.itoa d) x w w2 IT (xt X1 hx) hs (itoa_len0 g0 g1).1 (itoa_len0 g0 g1).2 gx0 gx1
  have SZ:Hid ((sizeT (Lib.itoa d) x).length≤1000):=sizeT_len (itoa_len0 g0 g1).2 gx0 gx1;clear hg g0 g1 g2 gx0 gx1 d1 d2 IT;go_wp2_with fail;go_region_held3 (fun w'=>w'.cell? ⟨w.heap.size,0,none⟩=some (.bool n)∧w'.cell? ⟨w.heap.size,1,none⟩=some (.int .i64 d)∧w'.cell? ⟨w.heap.size,2,none⟩=some (.int .i64 x)) (go_keep)
   (first
    | (go_at_call 149;refine (IC.out _ (by first | exact xd (xr _) | exact xr _)).mono ?_;rintro r w2 ⟨s,rfl,hs,e2⟩;have X2:Ext w1 w2:=xt (by first | exact xd (xr _) | exact xr _) e2;have HS:Hid (s.data.toList=Lib.itoa d):=hs;clear hs;obtain ⟨⟨a20,a21,a22⟩,_⟩:=B.later X2)
    | (go_at_call 148;refine (SC.out _ _ (xt X2 (by first | exact xr _ | exact xd (xr _))) HS.out).mono ?_;rintro r w3 ⟨t,rfl,ht,e3⟩;have X3:Ext w1 w3:=xt (xt X2 (by first | exact xr _ | exact xd (xr _))) e3;have htz:t.size≤1000:=(by rw [size_of ht];exact SZ.out);have HTT:Hid (t.data.toList=sizeT (Lib.itoa d) x):=ht;clear ht;obtain ⟨⟨a30,a31,a32⟩,_⟩:=B.later X3))
  all_goals
   cases n
   ·go_wp2_with fail;go_ret;exact ⟨_,rfl,by rw [HT.out];simp [HTT.out],xt X1 X3⟩
   ·go_wp2_with fail;go_ret;exact ⟨_,rfl,by rw [HT.out];simp [HTT.out],xt X1 X3⟩
theorem ItoaC.later {w0 w:World} (h:ItoaC w0) (x:Ext w0 w):ItoaC w:=fun n w1 a b c=>h n w1 a b (xt x c)
def textOf (k:Int) (n:Bool) (d x:Int) (t:List UInt8):Value:=
 if k=0 then valV 2 false 0 0 [] else if k=1 then valV 2 false 0 0 (textT n d x) else if k=3 then valV 2 false 0 0 t else valV k n d x t
def textOfV (k:Int) (n:Bool) (d x:Int) (t:List UInt8):Value:=if goodV k n d x t then textOf k n d x t else errW
theorem sV_of {s:ByteArray} {l:List UInt8} (h:s.data.toList=l):(.string s:Value)=sV l:=by
 subst h;rfl
set_option maxRecDepth 8000 in
set_option maxHeartbeats 2000000 in
theorem textOfI (k:Int) (n:Bool) (d x:Int) (t:List UInt8) (w:World) (hl:t.length≤2000000) (d1 : -9223372036854775808≤d) (d2:d≤9223372036854775807) (hT:Tens w) (hE:ErrTab w) (hI:ItoaC w) :
  Calls Tryz.prog 55 #[valV k n d x t] w fun e w'=>e=.returned (textOfV k n d x t)∧Ext w w':=by
 obtain ⟨R,hR⟩:∃ R,textOfV k n d x t=R:=⟨_,rfl⟩;have HR0:Hid (textOfV k n d x t=R):=hR;rw [hR];clear hR;obtain ⟨wa,wb,ha,hb,sa,_,B1,B2,X⟩:=mkB2 w [.int .i64 k,.bool n,.int .i64 d,.int .i64 x,sV t] [.int .i64 0,.bool false,.int .i64 0,.int .i64 0,sV []] 26 26;obtain ⟨a0,a1,a2,a3,a4⟩:=Vec.five B1;go_enter Tryz.func55,Tryz.ntmps55;go_wp2_with fail;clear ha hb sa a0 a1 a2 a3 a4;refine (goodVI k n d x t wb hl d1 d2 (hT.later X) (hE.later X)).mono ?_;rintro e w1 ⟨rfl,e1⟩;have C1:=B1.later e1;have C2:=B2.later e1;have X1:=xt X e1;clear B1 B2 hE;obtain ⟨g,hg⟩:∃ g,goodV k n d x t=g:=⟨_,rfl⟩;rw [hg];cases g
 ·have HR:Hid (errW=R):=by show _=_;rw [← HR0.out];simp [textOfV,hg]
  clear hg hT hI d1 d2;go_wp2_with fail;refine (errVI errT _).mono ?_;rintro e w2 ⟨rfl,e2⟩;obtain ⟨wy,hy,FX,⟨b0,b1,b2,b3,b4⟩,⟨fb0,fb1,fb2,fb3,fb4⟩,fd0,fd1,fd2,fd3,fd4⟩:=fin5 (C2.later e2) (xt X1 e2) (by omega) (4) (false) (0) (0) (errT);go_wp2_with fail;exact bodyPost_ret (v:=errW) (by simp [results,Tryz.results55,go_sem,fd0,fd1,fd2,fd3,fd4]) rfl ⟨congrArg Ending.returned HR.out,FX⟩
 ·have HR1:Hid (textOf k n d x t=R):=by show _=_;rw [← HR0.out];simp [textOfV,hg]
  obtain ⟨a0,a1,a2,a3,a4⟩:=Vec.five C1;by_cases h1:k=1
  ·subst h1;clear hg;go_wp2_with fail;clear a0 a1 a2 a3 a4;refine (textI repC n d x w1 (hI.later X1) d1 d2 (hT.later X1)).mono ?_;rintro e w2 ⟨s,rfl,hs,e2⟩;have es:=sV_of hs;rw [es];clear hs es hT hI d1 d2 s;have HR:Hid (valV 2 false 0 0 (textT n d x)=R):=by show _=_;rw [← HR1.out];simp [textOf]
   obtain ⟨u,hu⟩:∃ u,textT n d x=u:=⟨_,rfl⟩;rw [hu] at HR ⊢;clear hu;go_wp2_with fail;refine (textVI u _).mono ?_;rintro e w3 ⟨rfl,e3⟩;obtain ⟨wy,hy,FX,⟨b0,b1,b2,b3,b4⟩,⟨fb0,fb1,fb2,fb3,fb4⟩,fd0,fd1,fd2,fd3,fd4⟩:=fin5 ((C2.later e2).later e3) (xt (xt X1 e2) e3) (by omega) (2) (false) (0) (0) (u);go_wp2_with fail;exact bodyPost_ret (v:=valV 2 false 0 0 u) (by simp [results,Tryz.results55,go_sem,fd0,fd1,fd2,fd3,fd4]) rfl ⟨congrArg Ending.returned HR.out,FX⟩
  ·obtain ⟨rfl,rfl,rfl⟩:=goodV_zero hg h1;clear hT hI d1 d2;by_cases h4:k=4
   ·subst h4;clear hg;have HR:Hid (valV 4 false 0 0 t=R):=(by show _=_;rw [← HR1.out];simp [textOf]);obtain ⟨wy,hy,FX,⟨b0,b1,b2,b3,b4⟩,⟨fb0,fb1,fb2,fb3,fb4⟩,fd0,fd1,fd2,fd3,fd4⟩:=fin5 (C2) (X1) (by omega) (4) (false) (0) (0) (t);go_wp2_with fail;exact bodyPost_ret (v:=valV 4 false 0 0 t) (by simp [results,Tryz.results55,go_sem,fd0,fd1,fd2,fd3,fd4]) rfl ⟨congrArg Ending.returned HR.out,FX⟩
   ·have HR:Hid (valV 2 false 0 0 t=R):=by
     show _=_;rw [← HR1.out];by_cases h0:k=0
     ·subst h0;rw [goodV_empty hg];simp [textOf]
     ·by_cases h3:k=3
      ·simp [textOf,h3]
      ·have h2:k=2:=by
        simp only [goodV,h1,if_false,h0,h3,h4] at hg;by_cases h2:k=2
        ·exact h2
        ·simp [h2] at hg
       simp [textOf,h2]
    clear hg;go_wp2_with fail;clear a0 a1 a2 a3 a4;refine (textVI t _).mono ?_;rintro e w3 ⟨rfl,e3⟩;obtain ⟨wy,hy,FX,⟨b0,b1,b2,b3,b4⟩,⟨fb0,fb1,fb2,fb3,fb4⟩,fd0,fd1,fd2,fd3,fd4⟩:=fin5 (C2.later e3) (xt X1 e3) (by omega) (2) (false) (0) (0) (t);go_wp2_with fail;exact bodyPost_ret (v:=valV 2 false 0 0 t) (by simp [results,Tryz.results55,go_sem,fd0,fd1,fd2,fd3,fd4]) rfl ⟨congrArg Ending.returned HR.out,FX⟩
set_option maxRecDepth 8000 in
set_option maxHeartbeats 2000000 in
theorem asTextS (k:Int) (n:Bool) (d x:Int) (t:List UInt8) (w:World)  :
  Calls Tryz.prog 118 #[valV k n d x t] w fun e w'=>e=.returned (textOf k n d x t)∧Ext w w':=by
 obtain ⟨R,hR⟩:∃ R,textOf k n d x t=R:=⟨_,rfl⟩;have HR0:Hid (textOf k n d x t=R):=hR;rw [hR];clear hR;obtain ⟨wa,wb,ha,hb,sa,_,B1,B2,X⟩:=mkB2 w [.int .i64 k,.bool n,.int .i64 d,.int .i64 x,sV t] [.int .i64 0,.bool false,.int .i64 0,.int .i64 0,sV []] 26 26;obtain ⟨a0,a1,a2,a3,a4⟩:=Vec.five B1;go_enter Tryz.func118,Tryz.ntmps118;by_cases h0:k=0
 ·subst h0;have HR:Hid (valV 2 false 0 0 []=R):=by show _=_;rw [← HR0.out];simp [textOf]
  go_wp2_with fail;clear ha hb sa a0 a1 a2 a3 a4;refine (textVS [] wb).mono ?_;rintro e w2 ⟨rfl,e2⟩;obtain ⟨wy,hy,FX,⟨b0,b1,b2,b3,b4⟩,⟨fb0,fb1,fb2,fb3,fb4⟩,fd0,fd1,fd2,fd3,fd4⟩:=fin5 (B2.later e2) (xt X e2) (by omega) (2) (false) (0) (0) ([]);go_wp2_with fail;exact bodyPost_ret (v:=valV 2 false 0 0 []) (by simp [results,Tryz.results118,go_sem,fd0,fd1,fd2,fd3,fd4]) rfl ⟨congrArg Ending.returned HR.out,FX⟩
 ·by_cases h1:k=1
  ·subst h1;go_wp2_with fail;clear ha hb sa a0 a1 a2 a3 a4;refine (textS n d x wb).mono ?_;rintro e w2 ⟨s,rfl,hs,e2⟩;have es:=sV_of hs;rw [es];clear hs es s;have HR:Hid (valV 2 false 0 0 (textT n d x)=R):=by show _=_;rw [← HR0.out];simp [textOf]
   obtain ⟨u,hu⟩:∃ u,textT n d x=u:=⟨_,rfl⟩;rw [hu] at HR ⊢;clear hu;go_wp2_with fail;refine (textVS u w2).mono ?_;rintro e w3 ⟨rfl,e3⟩;obtain ⟨wy,hy,FX,⟨b0,b1,b2,b3,b4⟩,⟨fb0,fb1,fb2,fb3,fb4⟩,fd0,fd1,fd2,fd3,fd4⟩:=fin5 ((B2.later e2).later e3) (xt (xt X e2) e3) (by omega) (2) (false) (0) (0) (u);go_wp2_with fail;exact bodyPost_ret (v:=valV 2 false 0 0 u) (by simp [results,Tryz.results118,go_sem,fd0,fd1,fd2,fd3,fd4]) rfl ⟨congrArg Ending.returned HR.out,FX⟩
  ·by_cases h3:k=3
   ·subst h3;have HR:Hid (valV 2 false 0 0 t=R):=(by show _=_;rw [← HR0.out];simp [textOf]);go_wp2_with fail;clear ha hb sa a0 a1 a2 a3 a4;refine (textVS t wb).mono ?_;rintro e w2 ⟨rfl,e2⟩;obtain ⟨wy,hy,FX,⟨b0,b1,b2,b3,b4⟩,⟨fb0,fb1,fb2,fb3,fb4⟩,fd0,fd1,fd2,fd3,fd4⟩:=fin5 (B2.later e2) (xt X e2) (by omega) (2) (false) (0) (0) (t);go_wp2_with fail;exact bodyPost_ret (v:=valV 2 false 0 0 t) (by simp [results,Tryz.results118,go_sem,fd0,fd1,fd2,fd3,fd4]) rfl ⟨congrArg Ending.returned HR.out,FX⟩
   ·have HR:Hid (valV k n d x t=R):=(by show _=_;rw [← HR0.out];simp [textOf,h0,h1,h3]);obtain ⟨wy,hy,FX,⟨b0,b1,b2,b3,b4⟩,⟨fb0,fb1,fb2,fb3,fb4⟩,fd0,fd1,fd2,fd3,fd4⟩:=fin5 (B2) (X) (by omega) (k) (n) (d) (x) (t);go_wp2_with fail;exact bodyPost_ret (v:=valV k n d x t) (by simp [results,Tryz.results118,go_sem,fd0,fd1,fd2,fd3,fd4]) rfl ⟨congrArg Ending.returned HR.out,FX⟩
def showT (k:Int) (n:Bool) (d x:Int) (t:List UInt8):List UInt8:=if k=0 then [] else if k=1 then textT n d x else t
def showV (k:Int) (n:Bool) (d x:Int) (t:List UInt8):List UInt8:=if goodV k n d x t then showT k n d x t else []
theorem field_text (k:Int) (n:Bool) (d x:Int) (t:List UInt8) (W:World):(Instr.field 26 (valV k n d x t) 2).run Tryz.prog W=.ok (sV t) W:=by kernel_rfl
theorem textOf_show (k:Int) (n:Bool) (d x:Int) (t:List UInt8):∃ k2 n2 d2 x2,textOf k n d x t=valV k2 n2 d2 x2 (showT k n d x t):=by
 unfold textOf showT
 split
 ·exact ⟨_,_,_,_,rfl⟩
 ·split
  ·exact ⟨_,_,_,_,rfl⟩
  ·split
   ·exact ⟨_,_,_,_,rfl⟩
   ·exact ⟨_,_,_,_,rfl⟩
set_option maxRecDepth 8000 in
set_option maxHeartbeats 2000000 in
theorem showI (k:Int) (n:Bool) (d x:Int) (t:List UInt8) (w:World) (hl:t.length≤2000000) (d1 : -9223372036854775808≤d) (d2:d≤9223372036854775807) (hT:Tens w) (hE:ErrTab w) (hI:ItoaC w) :
  Calls Tryz.prog 13 #[valV k n d x t] w fun e w'=>e=.returned (sV (showV k n d x t))∧Ext w w':=by
 obtain ⟨R,hR⟩:∃ R,showV k n d x t=R:=⟨_,rfl⟩;have HR0:Hid (showV k n d x t=R):=hR;rw [hR];clear hR;have X:=x1 w (.cells #[.int .i64 k,.bool n,.int .i64 d,.int .i64 x,sV t] 26);have B1:=vec_made w (valL k n d x t) 26;obtain ⟨wa,ha⟩:∃ wa,w.alloc (.cells #[.int .i64 k,.bool n,.int .i64 d,.int .i64 x,sV t] 26)=wa:=⟨_,rfl⟩;change Vec (w.alloc (.cells #[.int .i64 k,.bool n,.int .i64 d,.int .i64 x,sV t] 26)) _ _ at B1;rw [ha] at X B1;obtain ⟨a0,a1,a2,a3,a4⟩:=Vec.five B1;go_enter Tryz.func13,Tryz.ntmps13;go_wp2_with fail;clear ha a0 a1 a2 a3 a4;refine (goodVI k n d x t wa hl d1 d2 (hT.later X) (hE.later X)).mono ?_;rintro e w1 ⟨rfl,e1⟩;have C1:=B1.later e1;have X1:=xt X e1;clear B1;obtain ⟨g,hg⟩:∃ g,goodV k n d x t=g:=⟨_,rfl⟩;rw [hg];cases g
 ·have HR:Hid ([]=R):=by show _=_;rw [← HR0.out];simp [showV,hg]
  clear hg;go_wp2_with fail;go_ret;exact ⟨congrArg (fun l=>Ending.returned (sV l)) HR.out,X1⟩
 ·have HR:Hid (showT k n d x t=R):=by show _=_;rw [← HR0.out];simp [showV,hg]
  obtain ⟨a0,a1,a2,a3,a4⟩:=Vec.five C1;go_wp2_with fail;clear a0 a1 a2 a3 a4;refine (textOfI k n d x t w1 hl d1 d2 (hT.later X1) (hE.later X1) (hI.later X1)).mono ?_;rintro e w2 ⟨rfl,e2⟩;obtain ⟨k2,n2,d2,x2,hv⟩:=textOf_show k n d x t;rw [show textOfV k n d x t=textOf k n d x t by simp [textOfV,hg],hv];obtain ⟨u,hu⟩:∃ u,showT k n d x t=u:=⟨_,rfl⟩;rw [hu] at HR ⊢;clear hv hu hg;have hf:=fun W=>field_text k2 n2 d2 x2 u W;go_wp2_with fail;go_ret;exact ⟨congrArg (fun l=>Ending.returned (sV l)) HR.out,xt X1 e2⟩
theorem shown_dec (u:Nat):(Lib.decDigits u).all shownC=true:=by
 induction u using Nat.strongRecOn with
 | ind u ih =>
  rw [Lib.decDigits]
  split
  ·next h =>
   have:shownC (UInt8.ofNat (48+u))=true:=by
    have e:(UInt8.ofNat (48+u)).toNat=48+u:=(by rw [UInt8.toNat_ofNat'];omega);unfold shownC;rw [e];exact decide_eq_true (by omega)
   rw [List.all_cons,this];rfl
  ·next h =>
   have e:(UInt8.ofNat (48+u % 10)).toNat=48+u % 10:=by rw [UInt8.toNat_ofNat'];omega
   have:shownC (UInt8.ofNat (48+u % 10))=true:=by
    unfold shownC;rw [e];exact decide_eq_true (by omega)
   rw [List.all_append,ih (u / 10) (by omega),List.all_cons,this];rfl
theorem shown_rep (k:Nat):(List.replicate k (48:UInt8)).all shownC=true:=by
 rw [List.all_eq_true];intro c hc;rw [(List.mem_replicate.1 hc).2];decide
theorem shown_take {D:List UInt8} (h:D.all shownC=true) (k:Nat):(D.take k).all shownC=true:=by
 rw [List.all_eq_true] at h ⊢;exact fun c hc=>h c (List.mem_of_mem_take hc)
theorem shown_drop {D:List UInt8} (h:D.all shownC=true) (k:Nat):(D.drop k).all shownC=true:=by
 rw [List.all_eq_true] at h ⊢;exact fun c hc=>h c (List.mem_of_mem_drop hc)
theorem shown_sizeT {D:List UInt8} (h:D.all shownC=true) (x:Int):(sizeT D x).all shownC=true:=by
 have t:=fun k=>shown_take h k;have p:=fun k=>shown_drop h k;have c46:shownC 46=true:=by decide
 have c48:shownC 48=true:=by decide
 have c69:shownC 69=true:=by decide
 have c45:shownC 45=true:=by decide
 have c43:shownC 43=true:=by decide
 unfold sizeT
 split
 ·rw [List.all_append,h,shown_rep];rfl
 ·split
  ·rw [List.all_append,t,List.all_cons,c46,p];rfl
  ·split
   ·rw [List.all_cons,c48,List.all_cons,c46,List.all_append,shown_rep,h];rfl
   ·have a1:(if 1<D.length then 46 :: D.drop 1 else ([]:List UInt8)).all shownC=true:=by
     split
     ·rw [List.all_cons,c46,p];rfl
     ·rfl
    have a2:(if (D.length:Int) - 1+x<0 then 69 :: 45 :: Lib.decDigits (-((D.length:Int) - 1+x)).toNat else 69 :: 43 :: Lib.decDigits ((D.length:Int) - 1+x).toNat).all shownC=true:=by
     split
     ·rw [List.all_cons,c69,List.all_cons,c45,shown_dec];rfl
     ·rw [List.all_cons,c69,List.all_cons,c43,shown_dec];rfl
    rw [List.all_append,List.all_append,t,a1,a2];rfl
theorem shown_textT (n:Bool) (d x:Int):(textT n d x).all shownC=true:=by
 unfold textT
 split
 ·split
  ·decide
  ·rw [List.all_append,shown_sizeT (shown_dec _)];cases n <;> decide
 ·rfl
theorem textT_len (n:Bool) (d x:Int):(textT n d x).length≤2000:=by
 unfold textT
 split
 ·next hg =>
  split
  ·decide
  ·next hd =>
   have hgd:0<d∧d<1000000000000000∧¬ d % 10=0 ∧ -300≤x∧x≤300:=by simpa [goodB,hd] using hg
   have hl:=sizeT_len (dec_len hgd.1 hgd.2.1).2 hgd.2.2.2.1 hgd.2.2.2.2;rw [List.length_append];cases n <;> simp <;> omega
 ·simp
theorem showT_plain {k:Int} {n:Bool} {d x:Int} {t:List UInt8} (hg:goodV k n d x t=true):(showT k n d x t).all shownC=true∧(showT k n d x t).length≤2000:=by
 unfold showT
 split
 ·exact ⟨rfl,by simp⟩
 ·next h0 =>
  split
  ·exact ⟨shown_textT _ _ _,by have:=textT_len n d x;omega⟩
  ·next h1 =>
   simp only [goodV,h1,h0,if_false,Bool.and_eq_true] at hg;have hr:=hg.2
   split at hr
   ·have:t.all shownC=true∧t.length≤1000:=(by simpa [printN] using hr);exact ⟨this.1,by omega⟩
   ·split at hr
    ·have:t=[84,82,85,69]∨t=[70,65,76,83,69]:=by simpa [boolB] using hr
     rcases this with rfl | rfl <;> exact ⟨by decide,by decide⟩
    ·split at hr
     ·have hm:t ∈ errL:=by
       unfold memB at hr;rw [List.any_eq_true] at hr;obtain ⟨u,hu,he⟩:=hr;have:u=t:=(by simpa using he);rw [← this];exact hu
      have:∀ u ∈ errL,u.all shownC=true∧u.length≤2000:=(by decide);exact this t hm
     ·cases hr
abbrev nameT:List UInt8:=[35,78,65,77,69,63]
abbrev numbT:List UInt8:=[35,78,85,77,33]
abbrev divT:List UInt8:=[35,68,73,86,47,48,33]
abbrev evV (l:List UInt8):Value:=valV 4 false 0 0 l
def putV (r:DR):Value:=if r.ok=true then valV 1 r.neg r.d r.e [] else evV numbT
noncomputable def sqrtR (n:Bool) (d e:Int):DR:=
 if h : -9223372036854775808≤d∧d≤9223372036854775807 then Classical.choose (sqrt_both n d e h.1 h.2) else badR
theorem sqrtSV (n:Bool) (d e:Int) (a1 : -9223372036854775808≤d) (a2:d≤9223372036854775807) (w:World) :
  Calls Tryz.prog 213 #[.agg #[.bool n,.int .i64 d,.int .i64 e]] w fun r w'=>r=.returned (resV (sqrtR n d e))∧Ext w w':=by
 unfold sqrtR;rw [dif_pos ⟨a1,a2⟩];exact (Classical.choose_spec (sqrt_both n d e a1 a2)).1 w
theorem sqrtIV (n:Bool) (d e:Int) (a1 : -9223372036854775808≤d) (a2:d≤9223372036854775807) (w:World) (hT:Tens w) :
  Calls Tryz.prog 207 #[.agg #[.bool n,.int .i64 d,.int .i64 e]] w fun r w'=>r=.returned (resV (sqrtR n d e))∧Ext w w':=by
 unfold sqrtR;rw [dif_pos ⟨a1,a2⟩];exact (Classical.choose_spec (sqrt_both n d e a1 a2)).2 w hT
def halfB (n:Bool) (d e:Int):Bool:=!n && decide (d=5) && decide (e = -1)
noncomputable def powerV (n:Bool) (d e:Int) (n':Bool) (d' e':Int):Value:=
 if d=0∧d'=0 then evV numbT else if d=0∧n'=true then evV divT else
 if intOk n' d' e'=true then putV (powR n d e (intR n' d' e')) else if halfB n' d' e'=true then putV (sqrtR n d e) else evV numbT
noncomputable def stepV (o:Nat) (n:Bool) (d e:Int) (n':Bool) (d' e':Int):Value:=
 if o=0 then putV (addR n d e n' d' e') else if o=1 then putV (subR n d e n' d' e') else if o=2 then putV (mulR n d e n' d' e') else
 if o=3 then (if d'=0 then evV divT else putV (divR n d e n' d' e')) else powerV n d e n' d' e'
theorem putV_val (r:DR):∃ k2 n2 d2 x2 t2,putV r=valV k2 n2 d2 x2 t2:=by
 unfold putV
 split
 ·exact ⟨_,_,_,_,_,rfl⟩
 ·exact ⟨_,_,_,_,_,rfl⟩
theorem powerV_val (n:Bool) (d e:Int) (n':Bool) (d' e':Int):∃ k2 n2 d2 x2 t2,powerV n d e n' d' e'=valV k2 n2 d2 x2 t2:=by
 unfold powerV
 repeat' split
 all_goals first | exact putV_val _ | exact ⟨_,_,_,_,_,rfl⟩
theorem stepV_val (o:Nat) (n:Bool) (d e:Int) (n':Bool) (d' e':Int):∃ k2 n2 d2 x2 t2,stepV o n d e n' d' e'=valV k2 n2 d2 x2 t2:=by
 unfold stepV
 repeat' split
 all_goals first | exact putV_val _ | exact powerV_val _ _ _ _ _ _ | exact ⟨_,_,_,_,_,rfl⟩
def numD (k:Int) (n:Bool) (d x:Int) (t:List UInt8):Option (Bool × Int × Int):=
 if k=0 then some (false,0,0) else
 if k=2 then (if (readR (trimB t)).ok=true then some ((readR (trimB t)).neg,(readR (trimB t)).d,(readR (trimB t)).e) else none) else
 if k=3 then (if (t == trueT)=true then some (false,1,0) else some (false,0,0)) else some (n,d,x)
theorem numOf_none {k:Int} {n:Bool} {d x:Int} {t:List UInt8} (h:numD k n d x t=none):numOf k n d x t=errW:=by
 unfold numD at h;unfold numOf
 split at h
 ·cases h
 ·next h0 =>
  rw [if_neg h0]
  split at h
  ·next h2 =>
   rw [if_pos h2]
   split at h
   ·cases h
   ·next hr=>unfold numR;rw [if_neg hr]
  ·split at h
   ·split at h
    ·cases h
    ·cases h
   ·cases h
theorem read_good {l:List UInt8} (h:(readR l).ok=true):goodB (readR l).neg (readR l).d (readR l).e=true:=by
 unfold readR mantR at h ⊢
 repeat' split at h
 all_goals first | exact absurd h (by decide) | skip
 all_goals (repeat' split)
 all_goals first | exact put_ok h | contradiction | skip
theorem numOf_some {k:Int} {n:Bool} {d x:Int} {t:List UInt8} (hg:goodV k n d x t=true) (h4:k ≠ 4) {a:Bool} {b c:Int} (h:numD k n d x t=some (a,b,c)) :
  numOf k n d x t=valV 1 a b c []∧goodB a b c=true:=by
 unfold numD at h;unfold numOf
 split at h
 ·next h0 =>
  obtain ⟨rfl,rfl,rfl⟩:false=a∧0=b∧0=c:=by simpa using h
  rw [if_pos h0];exact ⟨rfl,by decide⟩
 ·next h0 =>
  rw [if_neg h0]
  split at h
  ·next h2 =>
   rw [if_pos h2]
   split at h
   ·next hr =>
    obtain ⟨rfl,rfl,rfl⟩:(readR (trimB t)).neg=a∧(readR (trimB t)).d=b∧(readR (trimB t)).e=c:=(by simpa using h);exact ⟨by unfold numR;rw [if_pos hr],read_good hr⟩
   ·cases h
  ·next h2 =>
   rw [if_neg h2]
   split at h
   ·next h3 =>
    rw [if_pos h3]
    split at h
    ·next ht =>
     obtain ⟨rfl,rfl,rfl⟩:false=a∧1=b∧0=c:=(by simpa using h);rw [if_pos ht];exact ⟨rfl,by decide⟩
    ·next ht =>
     obtain ⟨rfl,rfl,rfl⟩:false=a∧0=b∧0=c:=(by simpa using h);rw [if_neg ht];exact ⟨rfl,by decide⟩
   ·next h3 =>
    rw [if_neg h3];obtain ⟨rfl,rfl,rfl⟩:n=a∧d=b∧x=c:=(by simpa using h);have h1:k=1:=by
     rcases Classical.em (k=1) with h1 | h1
     ·exact h1
     ·exfalso;simp [goodV,h0,h1,h2,h3,h4] at hg
    subst h1;obtain ⟨g1,rfl⟩:=goodV_num hg;exact ⟨rfl,g1⟩
noncomputable def reckV (o:Nat) (k:Int) (n:Bool) (d x:Int) (t:List UInt8) (k':Int) (n':Bool) (d' x':Int) (t':List UInt8):Value:=
 match numD k n d x t with
 | none=>errW
 | some a=>match numD k' n' d' x' t' with
  | none=>errW
  | some b=>stepV o a.1 a.2.1 a.2.2 b.1 b.2.1 b.2.2
def joinV (k:Int) (n:Bool) (d x:Int) (t:List UInt8) (k':Int) (n':Bool) (d' x':Int) (t':List UInt8):Value:=
 if (showT k n d x t++showT k' n' d' x' t').length≤1000 then valV 2 false 0 0 (showT k n d x t++showT k' n' d' x' t') else errW
noncomputable def makeV (o:Nat) (k:Int) (n:Bool) (d x:Int) (t:List UInt8) (k':Int) (n':Bool) (d' x':Int) (t':List UInt8):Value:=
 if o<5 then reckV o k n d x t k' n' d' x' t' else if o=5 then joinV k n d x t k' n' d' x' t' else boolW (ordB o (compareV k n d x t k' n' d' x' t'))
noncomputable def workV (o:Nat) (k:Int) (n:Bool) (d x:Int) (t:List UInt8) (k':Int) (n':Bool) (d' x':Int) (t':List UInt8):Value:=
 if k=4 then valV k n d x t else if k'=4 then valV k' n' d' x' t' else makeV o k n d x t k' n' d' x' t'
def signL:List (List UInt8):=[[43],[45],[42],[47],[94],[38],[61],[60,62],[60],[62],[60,61],[62,61]]
def opN (l:List UInt8):Option Nat:=signL.findIdx? fun s=>s == l
noncomputable def applyV (op:List UInt8) (k:Int) (n:Bool) (d x:Int) (t:List UInt8) (k':Int) (n':Bool) (d' x':Int) (t':List UInt8):Value:=
 match opN op with
 | none=>evV nameT
 | some o=>if (goodV k n d x t && goodV k' n' d' x' t')=true then workV o k n d x t k' n' d' x' t' else errW
theorem reckV_val (o:Nat) (k:Int) (n:Bool) (d x:Int) (t:List UInt8) (k':Int) (n':Bool) (d' x':Int) (t':List UInt8):∃ k2 n2 d2 x2 t2,reckV o k n d x t k' n' d' x' t'=valV k2 n2 d2 x2 t2:=by
 unfold reckV
 repeat' split
 all_goals first | exact stepV_val _ _ _ _ _ _ _ | exact ⟨_,_,_,_,_,rfl⟩
theorem makeV_val (o:Nat) (k:Int) (n:Bool) (d x:Int) (t:List UInt8) (k':Int) (n':Bool) (d' x':Int) (t':List UInt8):∃ k2 n2 d2 x2 t2,makeV o k n d x t k' n' d' x' t'=valV k2 n2 d2 x2 t2:=by
 unfold makeV joinV
 repeat' split
 all_goals first | exact reckV_val _ _ _ _ _ _ _ _ _ _ _ | exact ⟨_,_,_,_,_,rfl⟩
theorem workV_val (o:Nat) (k:Int) (n:Bool) (d x:Int) (t:List UInt8) (k':Int) (n':Bool) (d' x':Int) (t':List UInt8):∃ k2 n2 d2 x2 t2,workV o k n d x t k' n' d' x' t'=valV k2 n2 d2 x2 t2:=by
 unfold workV
 repeat' split
 all_goals first | exact makeV_val _ _ _ _ _ _ _ _ _ _ _ | exact ⟨_,_,_,_,_,rfl⟩
theorem workT_ex (o:Nat) (e f:VT):∃ v:VT,workV o e.k e.n e.d e.x e.t f.k f.n f.d f.x f.t=v.val:=by
 obtain ⟨k,n,d,x,t,h⟩:=workV_val o e.k e.n e.d e.x e.t f.k f.n f.d f.x f.t;exact ⟨⟨k,n,d,x,t⟩,h⟩
noncomputable def workT (o:Nat) (e f:VT):VT:=Classical.choose (workT_ex o e f)
theorem workT_is (o:Nat) (e f:VT):workV o e.k e.n e.d e.x e.t f.k f.n f.d f.x f.t=(workT o e f).val:=Classical.choose_spec (workT_ex o e f)
def naE:VT:=⟨4,false,0,0,[35,78,47,65]⟩
noncomputable def cellW (o:Nat):Option VT→Option VT→VT
 | some e,some f=>workT o e f
 | _,_=>naE
noncomputable def gridF (o:Nat) (r c:Int) (l:List VT) (r' c':Int) (l':List VT) (C:Int) (q:Nat):VT:=
 cellW o (cellAt r c l ((q:Int) / C) ((q:Int) % C)) (cellAt r' c' l' ((q:Int) / C) ((q:Int) % C))
def hiG (a b:Int):Int:=max a b
def gridO (op:List UInt8) (r c:Int) (l:List VT) (r' c':Int) (l':List VT):Option Nat:=
 if (goodG r c l && goodG r' c' l' && decide (hiG r r' * hiG c c'≤2000))=true then opN op else none
noncomputable def gridR (op:List UInt8) (r c:Int) (l:List VT) (r' c':Int) (l':List VT):Int × Int × List VT:=
 match gridO op r c l r' c' l' with
 | none=>(0,0,[])
 | some o=>(hiG r r',hiG c c',(List.range (hiG r r' * hiG c c').toNat).map (gridF o r c l r' c' l' (hiG c c')))
theorem grid_none {op:List UInt8} {r c:Int} {l:List VT} {r' c':Int} {l':List VT} {R C:Int} {L:List VT} (h:gridR op r c l r' c' l'=(R,C,L)) (hn:gridO op r c l r' c' l'=none):R=0∧C=0∧L=[]:=by
 unfold gridR at h;rw [hn] at h;cases h;exact ⟨rfl,rfl,rfl⟩
theorem grid_some {op:List UInt8} {r c:Int} {l:List VT} {r' c':Int} {l':List VT} {R C:Int} {L:List VT} {o:Nat} (h:gridR op r c l r' c' l'=(R,C,L)) (hn:gridO op r c l r' c' l'=some o):R=hiG r r'∧C=hiG c c'∧L=(List.range (hiG r r' * hiG c c').toNat).map (gridF o r c l r' c' l' (hiG c c')):=by
 unfold gridR at h;rw [hn] at h;cases h;exact ⟨rfl,rfl,rfl⟩
theorem grid_len {op:List UInt8} {r c:Int} {l:List VT} {r' c':Int} {l':List VT} {R C:Int} {L:List VT} (h:gridR op r c l r' c' l'=(R,C,L)):L.length≤2000:=by
 cases hn:gridO op r c l r' c' l' with
 | none=>rw [(grid_none h hn).2.2];simp
 | some o =>
  rw [(grid_some h hn).2.2,List.length_map,List.length_range];unfold gridO at hn
  split at hn
  ·rename_i hc;simp only [Bool.and_eq_true,decide_eq_true_eq] at hc;omega
  ·cases hn
theorem cellT_is (A:Option VT):∃ (e:VT) (b:Bool),cellT A=.tuple #[e.val,.bool b]∧(b=true→A=some e)∧(b=false→A=none):=by
 cases A with
 | none=>exact ⟨zeroVT,false,rfl,(fun h=>by cases h),fun _=>rfl⟩
 | some e=>exact ⟨e,true,rfl,(fun _=>rfl),fun h=>by cases h⟩
theorem cellAt_mem {r c:Int} {l:List VT} {i j:Int} {e:VT} (h:cellAt r c l i j=some e):e ∈ l:=by
 unfold cellAt at h;by_cases hc:(if r=1 then 0 else i)<r∧(if c=1 then 0 else j)<c
 ·rw [if_pos hc] at h;exact List.mem_of_getElem? h
 ·rw [if_neg hc] at h;cases h
theorem cellAt_first {r c:Int} {l:List VT} (h:goodG r c l=true):∃ e m,l=e :: m∧cellAt r c l 0 0=some e∧e.good=true:=by
 obtain ⟨hs,hg,⟨r1,_⟩,c1,_⟩:=goodG_all h;have hs2:1≤r∧1≤c∧r * c≤2000∧(l.length:Int)=r * c:=of_decide_eq_true hs;have hp:1≤r * c:=by have:=Int.mul_le_mul_of_nonneg_left (show (1:Int)≤c by omega) (show 0≤r by omega);omega
 cases l with
 | nil=>simp at hs2;omega
 | cons e m =>
  refine ⟨e,m,rfl,?_,hg e (List.mem_cons_self ..)⟩;unfold cellAt;have z1:(if r=1 then (0:Int) else 0)=0:=by split <;> rfl
  have z2:(if c=1 then (0:Int) else 0)=0:=by split <;> rfl
  rw [z1,z2,if_pos (by omega)];simp
theorem grid_first {op:List UInt8} {r c:Int} {l:List VT} {r' c':Int} {l':List VT} {R C:Int} {L:List VT} (h:gridR op r c l r' c' l'=(R,C,L)) (hR:R ≠ 0) :
  ∃ (e e' q:VT) (m m' k:List VT),l=e :: m∧l'=e' :: m'∧L=q :: k∧applyV op e.k e.n e.d e.x e.t e'.k e'.n e'.d e'.x e'.t=q.val:=by
 cases hn:gridO op r c l r' c' l' with
 | none=>exact absurd (grid_none h hn).1 hR
 | some o =>
  obtain ⟨h1,h2,h3⟩:=grid_some h hn;have hn':=hn;unfold gridO at hn
  split at hn
  ·rename_i hc;simp only [Bool.and_eq_true,decide_eq_true_eq] at hc;obtain ⟨e,m,rfl,q1,g1⟩:=cellAt_first hc.1.1;obtain ⟨e',m',rfl,q2,g2⟩:=cellAt_first hc.1.2;obtain ⟨_,_,⟨r1,_⟩,c1,_⟩:=goodG_all hc.1.1;have p1:1≤hiG r r':=by unfold hiG;omega
   have p2:1≤hiG c c':=by unfold hiG;omega
   have hp:1≤hiG r r' * hiG c c':=by have:=Int.mul_le_mul_of_nonneg_left p2 (show 0≤hiG r r' by omega);omega
   obtain ⟨N,hN⟩:∃ N,(hiG r r' * hiG c c').toNat=N+1:=⟨(hiG r r' * hiG c c').toNat - 1,by omega⟩;rw [hN,List.range_succ_eq_map,List.map_cons] at h3;refine ⟨e,e',_,m,m',_,rfl,rfl,h3,?_⟩;unfold gridF;rw [show ((0:Nat):Int) / hiG c c'=0 by simp,show ((0:Nat):Int) % hiG c c'=0 by simp,q1,q2];show _=(workT o e e').val;rw [← workT_is];unfold applyV;rw [hn];have g1':goodV e.k e.n e.d e.x e.t=true:=g1;have g2':goodV e'.k e'.n e'.d e'.x e'.t=true:=g2;simp only [g1',g2',Bool.and_self,if_true]
  ·cases hn
theorem boxes2 (w:World) (k:Int) (n:Bool) (d x:Int) (t:List UInt8) (k':Int) (n':Bool) (d' x':Int) (t':List UInt8) :
  ∃ u0 u1 y1 y2,w.alloc (.cells #[.int .i64 0,.bool false,.int .i64 0,.int .i64 0,sV []] 26)=u0∧u0.alloc (.cells #[.int .i64 0,.bool false,.int .i64 0,.int .i64 0,sV []] 26)=u1∧u0.heap.size=w.heap.size+1 ∧
   (((((u1.setCell ⟨w.heap.size,0,none⟩ (.int .i64 k)).setCell ⟨w.heap.size,1,none⟩ (.bool n)).setCell ⟨w.heap.size,2,none⟩ (.int .i64 d)).setCell ⟨w.heap.size,3,none⟩ (.int .i64 x)).setCell ⟨w.heap.size,4,none⟩ (sV t))=y1 ∧
   (((((y1.setCell ⟨w.heap.size+1,0,none⟩ (.int .i64 k')).setCell ⟨w.heap.size+1,1,none⟩ (.bool n')).setCell ⟨w.heap.size+1,2,none⟩ (.int .i64 d')).setCell ⟨w.heap.size+1,3,none⟩ (.int .i64 x')).setCell ⟨w.heap.size+1,4,none⟩ (sV t'))=y2 ∧
   Vec u1 w.heap.size [.int .i64 0,.bool false,.int .i64 0,.int .i64 0,sV []]∧Vec y1 (w.heap.size+1) [.int .i64 0,.bool false,.int .i64 0,.int .i64 0,sV []]∧Vec y2 w.heap.size [.int .i64 k,.bool n,.int .i64 d,.int .i64 x,sV t]∧Vec y2 (w.heap.size+1) [.int .i64 k',.bool n',.int .i64 d',.int .i64 x',sV t']∧Ext w y2:=by
 obtain ⟨u0,u1,h0,h1,s0,s1,B0,B1,X⟩:=mkB2 w [.int .i64 0,.bool false,.int .i64 0,.int .i64 0,sV []] [.int .i64 0,.bool false,.int .i64 0,.int .i64 0,sV []] 26 26;have P0:=B0.put5 (.int .i64 k) (.bool n) (.int .i64 d) (.int .i64 x) (sV t);have P1:=Vec.farL (k:=w.heap.size) (by omega) [.int .i64 k,.bool n,.int .i64 d,.int .i64 x,sV t] 0 B1;have X1:=Ext.setL (b:=w.heap.size) (Nat.le_refl _) [.int .i64 k,.bool n,.int .i64 d,.int .i64 x,sV t] 0 X;exact ⟨u0,u1,_,_,h0,h1,s0,rfl,rfl,B0,P1,Vec.farL (k:=w.heap.size+1) (by omega) [.int .i64 k',.bool n',.int .i64 d',.int .i64 x',sV t'] 0 P0,P1.put5 (.int .i64 k') (.bool n') (.int .i64 d') (.int .i64 x') (sV t'),Ext.setL (b:=w.heap.size+1) (Nat.le_succ _) [.int .i64 k',.bool n',.int .i64 d',.int .i64 x',sV t'] 0 X1⟩
end Go.Proofs.YtkadkfmidlhedaaGreatDoor

