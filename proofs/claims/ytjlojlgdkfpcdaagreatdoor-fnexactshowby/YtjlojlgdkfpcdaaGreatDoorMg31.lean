/-
  Several texts in one: TxJ, TxLaw, V6g, V6h, Se0, L1.
-/
import Derived.Test.YtjlojlgdkfpcdaaGreatDoorMg30
import Derived.Test.YtjlojlgdkfpcdaaGreatDoorMg3
import Derived.Test.YtjlojlgdkfpcdaaGreatDoorMg24
import Derived.Test.YtjlojlgdkfpcdaaGreatDoorMg29
namespace Go.Proofs.YtjlojlgdkfpcdaaGreatDoor
open Go.RowKit
theorem sizeT_a {D:List UInt8} {x:Int} (h:0≤x∧(D.length:Int) - 1+x<15):sizeT D x=D++List.replicate x.toNat 48:=by unfold sizeT;rw [if_pos h]
theorem sizeT_b {D:List UInt8} {x:Int} (h0:x<0) (h : -5≤(D.length:Int) - 1+x) :
  sizeT D x=(if (D.length:Int)+x≤0 then 48 :: 46 :: (List.replicate (-((D.length:Int)+x)).toNat 48++D) else D.take ((D.length:Int)+x).toNat++46 :: D.drop ((D.length:Int)+x).toNat):=by
 unfold sizeT;rw [if_neg (by omega)];by_cases h1:(D.length:Int)+x≤0
 ·rw [if_neg (by omega),if_pos ⟨h0,h⟩,if_pos h1];have e : -((D.length:Int) - 1+x) - 1 = -((D.length:Int)+x):=by omega
  rw [e]
 ·rw [if_pos ⟨h0,by omega⟩,if_neg h1];have e:(D.length:Int) - 1+x+1=(D.length:Int)+x:=by omega
  rw [e]
theorem sizeT_c {D:List UInt8} {x:Int} (h1:¬ (0≤x∧(D.length:Int) - 1+x<15)) (h2:¬ (x<0 ∧ -5≤(D.length:Int) - 1+x)) :
  sizeT D x=D.take 1++(if 1<D.length then 46 :: D.drop 1 else [])++powT ((D.length:Int) - 1+x):=by
 unfold sizeT powT;rw [if_neg h1,if_neg (by omega),if_neg h2]
theorem itoa_len0 {d:Int} (h0:0≤d) (h1:d<1000000000000000):1≤(Lib.itoa d).length∧(Lib.itoa d).length≤15:=by
 unfold Lib.itoa;rw [if_neg (by omega)];exact dec_len_le 14 d.toNat (by
  have:(10:Nat) ^ (14+1)=1000000000000000:=by decide
  omega)
theorem sizeT_len {D:List UInt8} {x:Int} (l1:D.length≤15) (x0 : -300≤x) (x1:x≤300):(sizeT D x).length≤1000:=by
 have e:(10:Nat) ^ (14+1)=1000000000000000:=by decide
 have h1:=(dec_len_le 14 (-((D.length:Int) - 1+x)).toNat (by omega)).2;have h2:=(dec_len_le 14 ((D.length:Int) - 1+x).toNat (by omega)).2;unfold sizeT
 split
 ·simp;omega
 ·split
  ·simp;omega
  ·split
   ·simp;omega
   ·split <;> split <;> simp <;> omega
set_option maxRecDepth 8000 in
set_option maxHeartbeats 1000000 in
theorem sizeText_any (RP:RepC) (s:ByteArray) (D:List UInt8) (x:Int) (w0 w:World) (IT:ItoaC w0) (X0:Ext w0 w) (hs:s.data.toList=D) (l0:1≤D.length) (l1:D.length≤15) (x0 : -300≤x) (x1':x≤300) :
  Calls Tryz.prog 179 #[.string s,.int .i64 x] w fun e w'=>∃ t,e=.returned (.string t)∧t.data.toList=sizeT D x∧Ext w w':=by
 have hsz:=size_of hs;obtain ⟨L,hL⟩:∃ L,D.length=L:=⟨_,rfl⟩;by_cases ca:0≤x∧(L:Int) - 1+x<15
 ·have HZ:Hid (sizeT D x=D++List.replicate x.toNat 48):=sizeT_a (by rw [hL];exact ca);obtain ⟨c1,c2⟩:=ca;have R:Hid (∀ w:World,Calls Tryz.prog 45 #[.string ⟨#[48]⟩,.int .i64 x] w fun e w'=>∃ s,e=.returned (.string s)∧s.data.toList=List.replicate x.toNat 48∧Ext w w'):=fun w=>RP x w c1 (by omega);have HS:Hid (s.data.toList=D):=hs;rw [hL] at hsz l0 l1;clear RP IT X0 hs hL;go_enter Tryz.func179,Tryz.ntmps179;go_wp2_with fail;refine (R.out _).mono ?_;rintro e w1 ⟨t,rfl,ht,e1⟩;have htz:=size_of ht;rw [List.length_replicate] at htz;have HT:Hid (t.data.toList=List.replicate x.toNat 48):=ht;clear ht R;go_wp2_with fail;go_ret;exact ⟨_,rfl,by rw [HZ.out];simp [HS.out,HT.out],e1⟩
 ·by_cases cb:x<0 ∧ -5≤(L:Int) - 1+x
  ·have HZ:=sizeT_b (D:=D) cb.1 (by rw [hL];exact cb.2);have P:=pointed_any RP s D ((D.length:Int)+x) w hs l1 (by omega) (by omega);rw [← HZ,hL] at P;obtain ⟨c1,c2⟩:=cb;have HP:Hid (Calls Tryz.prog 210 #[.string s,.int .i64 ((L:Int)+x)] w fun e w'=>∃ t,e=.returned (.string t)∧t.data.toList=sizeT D x∧Ext w w'):=P;rw [hL] at hsz l0 l1;clear RP IT X0 hs hL HZ P ca;go_enter Tryz.func179,Tryz.ntmps179;go_wp2_with fail;refine (HP.out).mono ?_;rintro e w1 ⟨t,rfl,ht,e1⟩;have HT:Hid (t.data.toList=sizeT D x):=ht;clear ht HP;go_wp2_with fail;go_ret;exact ⟨_,rfl,HT.out,e1⟩
  ·have HZ:=sizeT_c (D:=D) (x:=x) (by rw [hL];exact ca) (by rw [hL];exact cb);have P:=powered_any s D ((D.length:Int) - 1+x) w0 w IT X0 hs l0 l1 (by omega) (by omega);rw [← HZ,hL] at P;have HP:Hid (Calls Tryz.prog 211 #[.string s,.int .i64 ((L:Int) - 1+x)] w fun e w'=>∃ t,e=.returned (.string t)∧t.data.toList=sizeT D x∧Ext w w'):=P;rw [hL] at hsz l0 l1;clear RP IT X0 hs hL HZ P;by_cases hx:x<0
   ·have ct:(L:Int) - 1+x < -5:=(by omega);clear ca cb;go_enter Tryz.func179,Tryz.ntmps179;go_wp2_with fail;refine (HP.out).mono ?_;rintro e w1 ⟨t,rfl,ht,e1⟩;have HT:Hid (t.data.toList=sizeT D x):=ht;clear ht HP;go_wp2_with fail;go_ret;exact ⟨_,rfl,HT.out,e1⟩
   ·have ct:15≤(L:Int) - 1+x:=(by omega);clear ca cb;go_enter Tryz.func179,Tryz.ntmps179;go_wp2_with fail;refine (HP.out).mono ?_;rintro e w1 ⟨t,rfl,ht,e1⟩;have HT:Hid (t.data.toList=sizeT D x):=ht;clear ht HP;go_wp2_with fail;go_ret;exact ⟨_,rfl,HT.out,e1⟩
theorem textT_good {n:Bool} {d x:Int} (h:goodB n d x=true):textT n d x=(if n then [45] else [])++sizeT (Lib.itoa d) x:=by
 obtain ⟨g0,g1,g2⟩:=good_range h;have e:Lib.itoa d=Lib.decDigits d.toNat:=by unfold Lib.itoa;rw [if_neg (by omega)]
 unfold textT;rw [if_pos h,e];by_cases hd:d=0
 ·obtain ⟨rfl,rfl⟩:=g2 hd;subst hd;rw [if_pos rfl];have e0:Lib.decDigits (0:Int).toNat=[48]:=by rw [Lib.decDigits,dif_pos (by decide)];rfl
  rw [e0];rfl
 ·rw [if_neg hd]
set_option maxRecDepth 8000 in
set_option maxHeartbeats 1000000 in
theorem textI (RP:RepC) (n:Bool) (d x:Int) (w:World) (IT:ItoaC w) (d1 : -9223372036854775808≤d) (d2:d≤9223372036854775807) (hT:Tens w) :
  Calls Tryz.prog 124 #[.agg #[.bool n,.int .i64 d,.int .i64 x]] w fun e w'=>∃ s,e=.returned (.string s)∧s.data.toList=textT n d x∧Ext w w':=by
 go_enter Tryz.func124,Tryz.ntmps124;go_wp2_with fail;refine (goodI n d x _ d1 d2 (hT.later (x1 _ _))).mono ?_;rintro r w1 ⟨rfl,e1⟩;have B:=(Box3.made w (.bool n) (.int .i64 d) (.int .i64 x) 31).later e1;have X1:=xt (x1 _ _) e1;clear e1 hT;have B':=B;obtain ⟨⟨p0,p1,p2⟩,_⟩:=B';cases hg:goodB n d x
 ·have HT:Hid (textT n d x=[]):=by simp [textT,hg,Hid]
  clear hg;go_wp2_with fail;go_ret;exact ⟨_,rfl,by rw [HT.out],X1⟩
 ·have HT:Hid (textT n d x=(if n then [45] else [])++sizeT (Lib.itoa d) x):=textT_good hg;obtain ⟨g0,g1,g2⟩:=good_range hg;obtain ⟨gx0,gx1⟩:=good_exp hg;have IC:Hid (∀ w2,Ext w1 w2→Calls Tryz.prog 138 #[.int .i64 d] w2 fun e w'=>∃ s,e=.returned (.string s)∧s.data.toList=Lib.itoa d∧Ext w2 w'):=fun w2 hx=>IT d w2 (by omega) (by omega) (xt X1 hx);have SC:Hid (∀ w2 s,Ext w1 w2→s.data.toList=Lib.itoa d→Calls Tryz.prog 179 #[.string s,.int .i64 x] w2 fun e w'=>∃ t,e=.returned (.string t)∧t.data.toList=sizeT (Lib.itoa d) x∧Ext w2 w'):=fun w2 s hx hs =>
   sizeText_any RP s (Lib.itoa d) x w w2 IT (xt X1 hx) hs (itoa_len0 g0 g1).1 (itoa_len0 g0 g1).2 gx0 gx1
  have SZ:Hid ((sizeT (Lib.itoa d) x).length≤1000):=sizeT_len (itoa_len0 g0 g1).2 gx0 gx1;clear hg g0 g1 g2 gx0 gx1 d1 d2 IT;go_wp2_with fail;go_region_held3 (fun w'=>w'.cell? ⟨w.heap.size,0,none⟩=some (.bool n)∧w'.cell? ⟨w.heap.size,1,none⟩=some (.int .i64 d)∧w'.cell? ⟨w.heap.size,2,none⟩=some (.int .i64 x)) (go_keep)
   (first
    | (go_at_call 138;refine (IC.out _ (by first | exact xd (xr _) | exact xr _)).mono ?_;rintro r w2 ⟨s,rfl,hs,e2⟩;have X2:Ext w1 w2:=xt (by first | exact xd (xr _) | exact xr _) e2;have HS:Hid (s.data.toList=Lib.itoa d):=hs;clear hs;obtain ⟨⟨a20,a21,a22⟩,_⟩:=B.later X2)
    | (go_at_call 179;refine (SC.out _ _ (xt X2 (by first | exact xr _ | exact xd (xr _))) HS.out).mono ?_;rintro r w3 ⟨t,rfl,ht,e3⟩;have X3:Ext w1 w3:=xt (xt X2 (by first | exact xr _ | exact xd (xr _))) e3;have htz:t.size≤1000:=(by rw [size_of ht];exact SZ.out);have HTT:Hid (t.data.toList=sizeT (Lib.itoa d) x):=ht;clear ht;obtain ⟨⟨a30,a31,a32⟩,_⟩:=B.later X3))
  all_goals
   cases n
   ·go_wp2_with fail;go_ret;exact ⟨_,rfl,by rw [HT.out];simp [HTT.out],xt X1 X3⟩
   ·go_wp2_with fail;go_ret;exact ⟨_,rfl,by rw [HT.out];simp [HTT.out],xt X1 X3⟩
theorem ItoaC.later {w0 w:World} (h:ItoaC w0) (x:Ext w0 w):ItoaC w:=fun n w1 a b c=>h n w1 a b (xt x c)
def textOf (k:Int) (n:Bool) (d x:Int) (t:List UInt8):Value:=
 if k=0 then valV 2 false 0 0 [] else if k=1 then valV 2 false 0 0 (textT n d x) else if k=3 then valV 2 false 0 0 t else valV k n d x t
def textOfV (k:Int) (n:Bool) (d x:Int) (t:List UInt8):Value:=if goodV k n d x t then textOf k n d x t else errW
theorem sV_of {s:ByteArray} {l:List UInt8} (h:s.data.toList=l):(.string s:Value)=sV l:=by
 subst h;rfl
set_option maxRecDepth 8000 in
set_option maxHeartbeats 2000000 in
theorem textOfI (k:Int) (n:Bool) (d x:Int) (t:List UInt8) (w:World) (hl:t.length≤2000000) (d1 : -9223372036854775808≤d) (d2:d≤9223372036854775807) (hT:Tens w) (hE:ErrTab w) (hI:ItoaC w) :
  Calls Tryz.prog 70 #[valV k n d x t] w fun e w'=>e=.returned (textOfV k n d x t)∧Ext w w':=by
 obtain ⟨R,hR⟩:∃ R,textOfV k n d x t=R:=⟨_,rfl⟩;have HR0:Hid (textOfV k n d x t=R):=hR;rw [hR];clear hR;obtain ⟨wa,wb,ha,hb,sa,_,B1,B2,X⟩:=mkB2 w [.int .i64 k,.bool n,.int .i64 d,.int .i64 x,sV t] [.int .i64 0,.bool false,.int .i64 0,.int .i64 0,sV []] 33 33;obtain ⟨a0,a1,a2,a3,a4⟩:=Vec.five B1;go_enter Tryz.func70,Tryz.ntmps70;go_wp2_with fail;clear ha hb sa a0 a1 a2 a3 a4;refine (goodVI k n d x t wb hl d1 d2 (hT.later X) (hE.later X)).mono ?_;rintro e w1 ⟨rfl,e1⟩;have C1:=B1.later e1;have C2:=B2.later e1;have X1:=xt X e1;clear B1 B2 hE;obtain ⟨g,hg⟩:∃ g,goodV k n d x t=g:=⟨_,rfl⟩;rw [hg];cases g
 ·have HR:Hid (errW=R):=by show _=_;rw [← HR0.out];simp [textOfV,hg]
  clear hg hT hI d1 d2;go_wp2_with fail;refine (errVI errT _).mono ?_;rintro e w2 ⟨rfl,e2⟩;obtain ⟨wy,hy,FX,⟨b0,b1,b2,b3,b4⟩,⟨fb0,fb1,fb2,fb3,fb4⟩,fd0,fd1,fd2,fd3,fd4⟩:=fin5 (C2.later e2) (xt X1 e2) (by omega) (4) (false) (0) (0) (errT);go_wp2_with fail;exact bodyPost_ret (v:=errW) (by simp [results,Tryz.results70,go_sem,fd0,fd1,fd2,fd3,fd4]) rfl ⟨congrArg Ending.returned HR.out,FX⟩
 ·have HR1:Hid (textOf k n d x t=R):=by show _=_;rw [← HR0.out];simp [textOfV,hg]
  obtain ⟨a0,a1,a2,a3,a4⟩:=Vec.five C1;by_cases h1:k=1
  ·subst h1;clear hg;go_wp2_with fail;clear a0 a1 a2 a3 a4;refine (textI repC n d x w1 (hI.later X1) d1 d2 (hT.later X1)).mono ?_;rintro e w2 ⟨s,rfl,hs,e2⟩;have es:=sV_of hs;rw [es];clear hs es hT hI d1 d2 s;have HR:Hid (valV 2 false 0 0 (textT n d x)=R):=by show _=_;rw [← HR1.out];simp [textOf]
   obtain ⟨u,hu⟩:∃ u,textT n d x=u:=⟨_,rfl⟩;rw [hu] at HR ⊢;clear hu;go_wp2_with fail;refine (textVI u _).mono ?_;rintro e w3 ⟨rfl,e3⟩;obtain ⟨wy,hy,FX,⟨b0,b1,b2,b3,b4⟩,⟨fb0,fb1,fb2,fb3,fb4⟩,fd0,fd1,fd2,fd3,fd4⟩:=fin5 ((C2.later e2).later e3) (xt (xt X1 e2) e3) (by omega) (2) (false) (0) (0) (u);go_wp2_with fail;exact bodyPost_ret (v:=valV 2 false 0 0 u) (by simp [results,Tryz.results70,go_sem,fd0,fd1,fd2,fd3,fd4]) rfl ⟨congrArg Ending.returned HR.out,FX⟩
  ·obtain ⟨rfl,rfl,rfl⟩:=goodV_zero hg h1;clear hT hI d1 d2;by_cases h4:k=4
   ·subst h4;clear hg;have HR:Hid (valV 4 false 0 0 t=R):=(by show _=_;rw [← HR1.out];simp [textOf]);obtain ⟨wy,hy,FX,⟨b0,b1,b2,b3,b4⟩,⟨fb0,fb1,fb2,fb3,fb4⟩,fd0,fd1,fd2,fd3,fd4⟩:=fin5 (C2) (X1) (by omega) (4) (false) (0) (0) (t);go_wp2_with fail;exact bodyPost_ret (v:=valV 4 false 0 0 t) (by simp [results,Tryz.results70,go_sem,fd0,fd1,fd2,fd3,fd4]) rfl ⟨congrArg Ending.returned HR.out,FX⟩
   ·have HR:Hid (valV 2 false 0 0 t=R):=by
     show _=_;rw [← HR1.out];by_cases h0:k=0
     ·subst h0;rw [goodV_empty hg];simp [textOf]
     ·by_cases h3:k=3
      ·simp [textOf,h3]
      ·have h2:k=2:=by
        simp only [goodV,h1,if_false,h0,h3,h4] at hg;by_cases h2:k=2
        ·exact h2
        ·simp [h2] at hg
       simp [textOf,h2]
    clear hg;go_wp2_with fail;clear a0 a1 a2 a3 a4;refine (textVI t _).mono ?_;rintro e w3 ⟨rfl,e3⟩;obtain ⟨wy,hy,FX,⟨b0,b1,b2,b3,b4⟩,⟨fb0,fb1,fb2,fb3,fb4⟩,fd0,fd1,fd2,fd3,fd4⟩:=fin5 (C2.later e3) (xt X1 e3) (by omega) (2) (false) (0) (0) (t);go_wp2_with fail;exact bodyPost_ret (v:=valV 2 false 0 0 t) (by simp [results,Tryz.results70,go_sem,fd0,fd1,fd2,fd3,fd4]) rfl ⟨congrArg Ending.returned HR.out,FX⟩
set_option maxRecDepth 8000 in
set_option maxHeartbeats 2000000 in
theorem asTextS (k:Int) (n:Bool) (d x:Int) (t:List UInt8) (w:World)  :
  Calls Tryz.prog 79 #[valV k n d x t] w fun e w'=>e=.returned (textOf k n d x t)∧Ext w w':=by
 obtain ⟨R,hR⟩:∃ R,textOf k n d x t=R:=⟨_,rfl⟩;have HR0:Hid (textOf k n d x t=R):=hR;rw [hR];clear hR;obtain ⟨wa,wb,ha,hb,sa,_,B1,B2,X⟩:=mkB2 w [.int .i64 k,.bool n,.int .i64 d,.int .i64 x,sV t] [.int .i64 0,.bool false,.int .i64 0,.int .i64 0,sV []] 33 33;obtain ⟨a0,a1,a2,a3,a4⟩:=Vec.five B1;go_enter Tryz.func79,Tryz.ntmps79;by_cases h0:k=0
 ·subst h0;have HR:Hid (valV 2 false 0 0 []=R):=by show _=_;rw [← HR0.out];simp [textOf]
  go_wp2_with fail;clear ha hb sa a0 a1 a2 a3 a4;refine (textVS [] wb).mono ?_;rintro e w2 ⟨rfl,e2⟩;obtain ⟨wy,hy,FX,⟨b0,b1,b2,b3,b4⟩,⟨fb0,fb1,fb2,fb3,fb4⟩,fd0,fd1,fd2,fd3,fd4⟩:=fin5 (B2.later e2) (xt X e2) (by omega) (2) (false) (0) (0) ([]);go_wp2_with fail;exact bodyPost_ret (v:=valV 2 false 0 0 []) (by simp [results,Tryz.results79,go_sem,fd0,fd1,fd2,fd3,fd4]) rfl ⟨congrArg Ending.returned HR.out,FX⟩
 ·by_cases h1:k=1
  ·subst h1;go_wp2_with fail;clear ha hb sa a0 a1 a2 a3 a4;refine (textS n d x wb).mono ?_;rintro e w2 ⟨s,rfl,hs,e2⟩;have es:=sV_of hs;rw [es];clear hs es s;have HR:Hid (valV 2 false 0 0 (textT n d x)=R):=by show _=_;rw [← HR0.out];simp [textOf]
   obtain ⟨u,hu⟩:∃ u,textT n d x=u:=⟨_,rfl⟩;rw [hu] at HR ⊢;clear hu;go_wp2_with fail;refine (textVS u w2).mono ?_;rintro e w3 ⟨rfl,e3⟩;obtain ⟨wy,hy,FX,⟨b0,b1,b2,b3,b4⟩,⟨fb0,fb1,fb2,fb3,fb4⟩,fd0,fd1,fd2,fd3,fd4⟩:=fin5 ((B2.later e2).later e3) (xt (xt X e2) e3) (by omega) (2) (false) (0) (0) (u);go_wp2_with fail;exact bodyPost_ret (v:=valV 2 false 0 0 u) (by simp [results,Tryz.results79,go_sem,fd0,fd1,fd2,fd3,fd4]) rfl ⟨congrArg Ending.returned HR.out,FX⟩
  ·by_cases h3:k=3
   ·subst h3;have HR:Hid (valV 2 false 0 0 t=R):=(by show _=_;rw [← HR0.out];simp [textOf]);go_wp2_with fail;clear ha hb sa a0 a1 a2 a3 a4;refine (textVS t wb).mono ?_;rintro e w2 ⟨rfl,e2⟩;obtain ⟨wy,hy,FX,⟨b0,b1,b2,b3,b4⟩,⟨fb0,fb1,fb2,fb3,fb4⟩,fd0,fd1,fd2,fd3,fd4⟩:=fin5 (B2.later e2) (xt X e2) (by omega) (2) (false) (0) (0) (t);go_wp2_with fail;exact bodyPost_ret (v:=valV 2 false 0 0 t) (by simp [results,Tryz.results79,go_sem,fd0,fd1,fd2,fd3,fd4]) rfl ⟨congrArg Ending.returned HR.out,FX⟩
   ·have HR:Hid (valV k n d x t=R):=(by show _=_;rw [← HR0.out];simp [textOf,h0,h1,h3]);obtain ⟨wy,hy,FX,⟨b0,b1,b2,b3,b4⟩,⟨fb0,fb1,fb2,fb3,fb4⟩,fd0,fd1,fd2,fd3,fd4⟩:=fin5 (B2) (X) (by omega) (k) (n) (d) (x) (t);go_wp2_with fail;exact bodyPost_ret (v:=valV k n d x t) (by simp [results,Tryz.results79,go_sem,fd0,fd1,fd2,fd3,fd4]) rfl ⟨congrArg Ending.returned HR.out,FX⟩
def showT (k:Int) (n:Bool) (d x:Int) (t:List UInt8):List UInt8:=if k=0 then [] else if k=1 then textT n d x else t
def showV (k:Int) (n:Bool) (d x:Int) (t:List UInt8):List UInt8:=if goodV k n d x t then showT k n d x t else []
theorem field_text (k:Int) (n:Bool) (d x:Int) (t:List UInt8) (W:World):(Instr.field 33 (valV k n d x t) 2).run Tryz.prog W=.ok (sV t) W:=by kernel_rfl
theorem textOf_show (k:Int) (n:Bool) (d x:Int) (t:List UInt8):∃ k2 n2 d2 x2,textOf k n d x t=valV k2 n2 d2 x2 (showT k n d x t):=by
 unfold textOf showT
 split
 ·exact ⟨_,_,_,_,rfl⟩
 ·split
  ·exact ⟨_,_,_,_,rfl⟩
  ·split
   ·exact ⟨_,_,_,_,rfl⟩
   ·exact ⟨_,_,_,_,rfl⟩
set_option maxRecDepth 8000 in
set_option maxHeartbeats 2000000 in
theorem showI (k:Int) (n:Bool) (d x:Int) (t:List UInt8) (w:World) (hl:t.length≤2000000) (d1 : -9223372036854775808≤d) (d2:d≤9223372036854775807) (hT:Tens w) (hE:ErrTab w) (hI:ItoaC w) :
  Calls Tryz.prog 35 #[valV k n d x t] w fun e w'=>e=.returned (sV (showV k n d x t))∧Ext w w':=by
 obtain ⟨R,hR⟩:∃ R,showV k n d x t=R:=⟨_,rfl⟩;have HR0:Hid (showV k n d x t=R):=hR;rw [hR];clear hR;have X:=x1 w (.cells #[.int .i64 k,.bool n,.int .i64 d,.int .i64 x,sV t] 33);have B1:=vec_made w (valL k n d x t) 33;obtain ⟨wa,ha⟩:∃ wa,w.alloc (.cells #[.int .i64 k,.bool n,.int .i64 d,.int .i64 x,sV t] 33)=wa:=⟨_,rfl⟩;change Vec (w.alloc (.cells #[.int .i64 k,.bool n,.int .i64 d,.int .i64 x,sV t] 33)) _ _ at B1;rw [ha] at X B1;obtain ⟨a0,a1,a2,a3,a4⟩:=Vec.five B1;go_enter Tryz.func35,Tryz.ntmps35;go_wp2_with fail;clear ha a0 a1 a2 a3 a4;refine (goodVI k n d x t wa hl d1 d2 (hT.later X) (hE.later X)).mono ?_;rintro e w1 ⟨rfl,e1⟩;have C1:=B1.later e1;have X1:=xt X e1;clear B1;obtain ⟨g,hg⟩:∃ g,goodV k n d x t=g:=⟨_,rfl⟩;rw [hg];cases g
 ·have HR:Hid ([]=R):=by show _=_;rw [← HR0.out];simp [showV,hg]
  clear hg;go_wp2_with fail;go_ret;exact ⟨congrArg (fun l=>Ending.returned (sV l)) HR.out,X1⟩
 ·have HR:Hid (showT k n d x t=R):=by show _=_;rw [← HR0.out];simp [showV,hg]
  obtain ⟨a0,a1,a2,a3,a4⟩:=Vec.five C1;go_wp2_with fail;clear a0 a1 a2 a3 a4;refine (textOfI k n d x t w1 hl d1 d2 (hT.later X1) (hE.later X1) (hI.later X1)).mono ?_;rintro e w2 ⟨rfl,e2⟩;obtain ⟨k2,n2,d2,x2,hv⟩:=textOf_show k n d x t;rw [show textOfV k n d x t=textOf k n d x t by simp [textOfV,hg],hv];obtain ⟨u,hu⟩:∃ u,showT k n d x t=u:=⟨_,rfl⟩;rw [hu] at HR ⊢;clear hv hu hg;have hf:=fun W=>field_text k2 n2 d2 x2 u W;go_wp2_with fail;go_ret;exact ⟨congrArg (fun l=>Ending.returned (sV l)) HR.out,xt X1 e2⟩
set_option maxRecDepth 8000 in
set_option maxHeartbeats 2000000 in
theorem showS (k:Int) (n:Bool) (d x:Int) (t:List UInt8) (w:World) (hl:t.length≤2000000) :
  Calls Tryz.prog 38 #[valV k n d x t] w fun e w'=>e=.returned (sV (showV k n d x t))∧Ext w w':=by
 obtain ⟨R,hR⟩:∃ R,showV k n d x t=R:=⟨_,rfl⟩;have HR0:Hid (showV k n d x t=R):=hR;rw [hR];clear hR;have X:=x1 w (.cells #[.int .i64 k,.bool n,.int .i64 d,.int .i64 x,sV t] 33);have B1:=vec_made w (valL k n d x t) 33;obtain ⟨wa,ha⟩:∃ wa,w.alloc (.cells #[.int .i64 k,.bool n,.int .i64 d,.int .i64 x,sV t] 33)=wa:=⟨_,rfl⟩;change Vec (w.alloc (.cells #[.int .i64 k,.bool n,.int .i64 d,.int .i64 x,sV t] 33)) _ _ at B1;rw [ha] at X B1;obtain ⟨a0,a1,a2,a3,a4⟩:=Vec.five B1;go_enter Tryz.func38,Tryz.ntmps38;go_wp2_with fail;clear ha a0 a1 a2 a3 a4;refine (goodVS k n d x t wa hl).mono ?_;rintro e w1 ⟨rfl,e1⟩;have C1:=B1.later e1;have X1:=xt X e1;clear B1;obtain ⟨g,hg⟩:∃ g,goodV k n d x t=g:=⟨_,rfl⟩;rw [hg];cases g
 ·have HR:Hid ([]=R):=by show _=_;rw [← HR0.out];simp [showV,hg]
  clear hg;go_wp2_with fail;go_ret;exact ⟨congrArg (fun l=>Ending.returned (sV l)) HR.out,X1⟩
 ·have HR:Hid (showT k n d x t=R):=by show _=_;rw [← HR0.out];simp [showV,hg]
  obtain ⟨a0,a1,a2,a3,a4⟩:=Vec.five C1;go_wp2_with fail;clear a0 a1 a2 a3 a4;refine (asTextS k n d x t w1).mono ?_;rintro e w2 ⟨rfl,e2⟩;obtain ⟨k2,n2,d2,x2,hv⟩:=textOf_show k n d x t;rw [hv];obtain ⟨u,hu⟩:∃ u,showT k n d x t=u:=⟨_,rfl⟩;rw [hu] at HR ⊢;clear hv hu hg;have hf:=fun W=>field_text k2 n2 d2 x2 u W;go_wp2_with fail;go_ret;exact ⟨congrArg (fun l=>Ending.returned (sV l)) HR.out,xt X1 e2⟩
def goodY (f:KT):Prop:=f.bf.length≤20∧f.af.length≤20∧((f.dt=[]∧∃ wh pl mb tm:Nat,(f.wh=wh∧f.pl=pl∧f.mb=mb∧f.tm=tm)∧(1≤wh∧wh≤9)∧pl≤9∧mb≤9∧tm≤3)∨(f.dt ≠ []∧f.dt.length≤100∧∃ ps,partsF f.dt.length f.dt=some ps∧1≤ps.length∧ps.length≤12))
theorem quoS_leY {l:BL} {x:BL × BL} (h:quoS l=some x):x.1.length≤20∧x.2.length≤l.length:=by
 unfold quoS at h
 split at h
 ·obtain ⟨t,r⟩:=x;obtain ⟨h1,_,_⟩:=qT_parts h;refine ⟨?_,by rw [h1];simp;omega⟩;cases l with
  | nil=>cases h
  | cons c0 r0 =>
   have h:(if (c0 == 34)=true then (if (r0.dropWhile nq) ≠ []∧(r0.takeWhile nq) ≠ []∧(r0.takeWhile nq).length≤20∧plainB (r0.takeWhile nq)=true then some (r0.takeWhile nq,(r0.dropWhile nq).drop 1) else none) else none)=some (t,r):=h
   split at h
   ·split at h
    ·rename_i hh;cases h;exact hh.2.2.1
    ·cases h
   ·cases h
 ·cases h;simp
theorem numS_goodY {b l:BL} {x:KT × BL} (hb:b.length≤20) (h:numS b l=some x):goodY x.1∧x.2.length≤l.length:=by
 obtain ⟨g,hg⟩:∃ g,Lib.hasPrefix (l.drop 0) [35,44]=g:=⟨_,rfl⟩;obtain ⟨k2,hk2⟩:∃ k2,(if g=true then 0+2 else 0)=k2:=⟨_,rfl⟩;obtain ⟨wn,hwn⟩:∃ wn,runF 48 9 (l.drop k2)=wn:=⟨_,rfl⟩;obtain ⟨pt,hpt⟩:∃ pt,Lib.hasPrefix (l.drop (k2+wn)) [46]=pt:=⟨_,rfl⟩;obtain ⟨k4,hk4⟩:∃ k4,(if pt=true then k2+wn+1 else k2+wn)=k4:=⟨_,rfl⟩;obtain ⟨pn,hpn⟩:∃ pn,(if pt=true then runF 48 9 (l.drop k4) else 0)=pn:=⟨_,rfl⟩;obtain ⟨mn,hmn⟩:∃ mn,(if pt=true then runF 35 9 (l.drop (k4+pn)) else 0)=mn:=⟨_,rfl⟩;obtain ⟨tn,htn⟩:∃ tn,runF 37 3 (l.drop (k4+pn+mn))=tn:=⟨_,rfl⟩;have hk:=numS_at b l 0 hg hk2 hwn hpt hk4 hpn hmn htn;have bw:wn≤9:=by rw [← hwn];exact run_le _ _ _
 have bp:pn≤9:=by rw [← hpn];split;exact run_le _ _ _;omega
 have bm:mn≤9:=by rw [← hmn];split;exact run_le _ _ _;omega
 have bt:tn≤3:=by rw [← htn];exact run_le _ _ _
 rw [List.drop_zero,h] at hk
 split at hk
 ·cases hk
 ·next hw0 =>
  split at hk
  ·cases hk
  ·cases hq:quoS (l.drop (k4+pn+mn+tn)) with
   | none=>rw [hq] at hk;cases hk
   | some y =>
    rw [hq] at hk;cases hk;obtain ⟨q1,q2⟩:=quoS_leY hq;rw [List.length_drop] at q2;refine ⟨⟨hb,q1,.inl ⟨rfl,wn,pn,mn,tn,⟨rfl,rfl,rfl,rfl⟩,⟨by omega,bw⟩,bp,bm,bt⟩⟩,?_⟩;dsimp only;omega
theorem dateS_goodY {b l:BL} {x:KT × BL} (hb:b.length≤20) (hl:l.length≤100) (h:dateS b l=some x):goodY x.1∧x.2.length≤l.length:=by
 have hk:=dateS_at b l 0 (0+((l.drop 0).takeWhile sepC).length) rfl rfl;rw [List.drop_zero,h] at hk
 split at hk
 ·next hok =>
  cases hq:quoS (l.drop (0+(l.takeWhile sepC).length)) with
  | none=>rw [hq] at hk;cases hk
  | some y =>
   rw [hq] at hk;cases hk;obtain ⟨q1,q2⟩:=quoS_leY hq;rw [List.length_drop] at q2;have:=takeWhile_drop sepC l;have hlt:(l.takeWhile sepC).length≤l.length:=(List.takeWhile_sublist sepC).length_le;refine ⟨⟨hb,q1,.inr ?_⟩,?_⟩
   ·dsimp only;cases hp:partsF (l.takeWhile sepC).length (l.takeWhile sepC) with
    | none=>rw [partsOK_none hp] at hok;cases hok
    | some ps =>
     rw [partsOK_some hp,Bool.and_eq_true,decide_eq_true_eq] at hok;refine ⟨?_,by omega,ps,rfl,hok.1⟩;intro e;rw [e] at hp;have:ps=[]:=by
      have hp:partsF 0 []=some ps:=hp;rw [partsF,if_pos rfl] at hp;cases hp;rfl
     rw [this] at hok;have:=hok.1.1;simp at this
   ·dsimp only;omega
 ·cases hk
theorem secS_goodY {l:BL} {x:KT × BL} (hl:l.length≤100) (h:secS l=some x):goodY x.1∧x.2.length≤l.length:=by
 unfold secS at h;cases hq:quoS l with
 | none=>rw [hq] at h;cases h
 | some y =>
  rw [hq] at h;obtain ⟨q1,q2⟩:=quoS_leY hq;have h:(if Lib.hasPrefix y.2 [35,44] || Lib.hasPrefix y.2 [48] then numS y.1 y.2 else dateS y.1 y.2)=some x:=h
  split at h
  ·obtain ⟨g1,g2⟩:=numS_goodY q1 h;exact ⟨g1,by omega⟩
  ·obtain ⟨g1,g2⟩:=dateS_goodY q1 (by omega) h;exact ⟨g1,by omega⟩
theorem readL_goodY:∀ (k:Nat) (l:BL) (acc:List KT),l.length≤100→(∀ f ∈ acc,goodY f)→acc.length≤3→(∀ f ∈ readL k l acc,goodY f)∧(readL k l acc).length≤3:=by
 intro k
 induction k with
 | zero=>intro l acc _ _ _;exact ⟨fun f hf=>(by cases hf),Nat.zero_le _⟩
 | succ k ih =>
  intro l acc hl ha hc;simp only [readL];cases hS:secS l with
  | none=>exact ⟨fun f hf=>(by cases hf),Nat.zero_le _⟩
  | some x =>
   obtain ⟨g1,g2⟩:=secS_goodY hl hS;have hacc:∀ f ∈ acc++[x.1],goodY f:=fun f hf=>by
    rcases List.mem_append.1 hf with hf | hf
    ·exact ha f hf
    ·have:f=x.1:=(by simpa using hf);rw [this];exact g1
   dsimp only
   split
   ·exact ⟨fun f hf=>(by cases hf),Nat.zero_le _⟩
   ·next h3 =>
    have hlen:(acc++[x.1]).length≤3:=by rw [List.length_append];simp;omega
    split
    ·exact ⟨hacc,hlen⟩
    ·split
     ·exact ih _ _ (by rw [List.length_drop];omega) hacc hlen
     ·exact ⟨fun f hf=>(by cases hf),Nat.zero_le _⟩
theorem readF_goodY (c:BL):(∀ f ∈ readF c,goodY f)∧(readF c).length≤3:=by
 unfold readF
 split
 ·exact ⟨fun f hf=>(by cases hf),Nat.zero_le _⟩
 ·exact readL_goodY 4 c [] (by omega) (fun f hf=>(by cases hf)) (by simp)
def secOfK (l:List KT) (n:Bool) (d:Int):KT:=if n=true∧1<l.length then l.getD 1 zeroKT else if d=0∧2<l.length then l.getD 2 zeroKT else l.getD 0 zeroKT
noncomputable def showK (f:KT) (n:Bool) (d x:Int):BLs:=f.bf++(if f.dt=[] then numT f.wh.toNat f.pl.toNat f.mb.toNat f.gr f.tm.toNat true n d x else dateA n d x ((partsF f.dt.length f.dt).getD []))++f.af
noncomputable def showByT (k:Int) (n:Bool) (d x:Int) (t c:BLs):BLs:=
 if goodV k n d x t=true∧k=1∧readF c ≠ [] then showK (secOfK (readF c) n d) (n && !decide (1<(readF c).length)) d x else showV k n d x t
theorem numT_minus (wh pl mb tm:Nat) (gr minus n:Bool) (d e:Int):numT wh pl mb gr tm minus n d e=numT wh pl mb gr tm true (n && minus) d e:=by
 unfold numT;have:∀ s:DR,((n && minus) && true && decide (s.d ≠ 0))=(n && minus && decide (s.d ≠ 0)):=fun s=>by rw [Bool.and_true]
 simp only [this]
theorem sec_mem {l:List KT} (h:l ≠ []) (n:Bool) (d:Int):secOfK l n d ∈ l:=by
 unfold secOfK;have h1:0<l.length:=List.length_pos_iff.2 h
 split
 ·next q=>rw [List.getD,List.getElem?_eq_getElem q.2];exact List.getElem_mem _
 ·split
  ·next q=>rw [List.getD,List.getElem?_eq_getElem q.2];exact List.getElem_mem _
  ·rw [List.getD,List.getElem?_eq_getElem h1];exact List.getElem_mem _
theorem shown_len {wh pl mb tm:Nat} {gr:Bool} {d e:Int} (h1:wh≤9) (h2:pl≤9) (h3:mb≤9) (h4:tm≤3) (d0:0≤d) (d1:d<1000000000000000) (e1:e≤300):(shownZ wh pl mb gr tm d e).length≤1300:=by
 unfold shownZ numZ;have hd:=dig_len d0 d1 (e+((pl+mb:Nat):Int)).toNat;have hX:(padZ (pl+mb+1) (digZ d.toNat (e+((pl+mb:Nat):Int)).toNat)).length≤400:=by rw [padZ_len];omega
 obtain ⟨X,hXX⟩:∃ X,padZ (pl+mb+1) (digZ d.toNat (e+((pl+mb:Nat):Int)).toNat)=X:=⟨_,rfl⟩;rw [hXX] at hX;simp only [hXX];have hA:(aheadZ (pl+mb) X).length≤400:=by unfold aheadZ;rw [List.length_take];omega
 have hW:(padZ wh (aheadZ (pl+mb) X)).length≤400:=by rw [padZ_len];omega
 have hG:=grp_len (padZ wh (aheadZ (pl+mb) X)).length (padZ wh (aheadZ (pl+mb) X));have hL:(lastZ (pl+mb) X).length≤400:=by unfold lastZ;rw [List.length_drop];omega
 have hR:(restZ pl (pl+mb) X).length≤400:=by have:=rst_len pl (lastZ (pl+mb) X);unfold rstL at this;unfold restZ;dsimp only;omega
 obtain ⟨W,hWW⟩:∃ W,padZ wh (aheadZ (pl+mb) X)=W:=⟨_,rfl⟩;rw [hWW] at hW hG ⊢;obtain ⟨R,hRR⟩:∃ R,restZ pl (pl+mb) X=R:=⟨_,rfl⟩;rw [hRR] at hR ⊢;rw [List.length_append,List.length_append,List.length_replicate];have h5:(if gr=true then grpZ W.length W else W).length≤800:=by split <;> omega
 have h6:(if R=[] then [] else 46 :: R).length≤401:=by
  split
  ·simp
  ·rw [List.length_cons];omega
 omega
theorem numT_len {wh pl mb tm:Nat} {gr minus n:Bool} {d e:Int} (h1:wh≤9) (h2:pl≤9) (h3:mb≤9) (h4:tm≤3):(numT wh pl mb gr tm minus n d e).length≤1301:=by
 unfold numT;dsimp only;obtain ⟨r,hr⟩:∃ r,hunsR tm ⟨true,false,d,e⟩=r:=⟨_,rfl⟩;rw [hr]
 split
 ·obtain ⟨s,hs⟩:∃ s,roundR r.neg r.d r.e ((pl+mb:Nat):Int) 1=s:=⟨_,rfl⟩;rw [hs]
  split
  ·next hok =>
   have hg:=round_ok (n:=r.neg) (d:=r.d) (e:=r.e) (p:=((pl+mb:Nat):Int)) (m:=1) (by rw [hs];exact hok);rw [hs] at hg;have g:=good_all hg;have hS:=shown_len (gr:=gr) h1 h2 h3 h4 g.1 g.2.1 g.2.2.2.1
   split
   ·rw [List.length_cons];omega
   ·omega
  ·simp
 ·simp
theorem dateA_len {n:Bool} {d e:Int} {ps:List BLs} (g:goodB n d e=true) (hps:ps.length≤12) (hm:∀ m ∈ ps,m ∈ wordsT) (hex:∀ z,-1000000≤z→z≤1000000→∃ y m d,IsDt 1 z y m d):(dateA n d e ps).length≤241:=by
 unfold dateA;dsimp only
 split
 ·next hc =>
  rw [Bool.and_eq_true,decide_eq_true_eq] at hc;obtain ⟨y,mo,da,hdt⟩:=hex _ hc.2.1 hc.2.2;obtain ⟨hy,hmo,hda⟩:=isDt_in hdt hc.2.1 hc.2.2;rw [ymd_is hdt];obtain ⟨_,s0,s1⟩:=sec_range n d e g;have h:=dateT_len (y:=y) (mo:=mo) (da:=da) (by omega) (by omega) (by omega) (by omega) (by omega) (by omega) s0 s1 ps hm;dsimp only;omega
 ·simp
def repF (s:BL):Nat→BL
 | 0=>[]
 | n+1=>repF s n++s
theorem repF_len (s:BL) (n:Nat):(repF s n).length=n * s.length:=by
 induction n with
 | zero=>simp [repF]
 | succ n ih=>simp [repF,ih,Nat.add_mul]
theorem app_str (a b:BL):(⟨a.toArray⟩++⟨b.toArray⟩:ByteArray)=⟨(a++b).toArray⟩:=by
 apply ByteArray.ext;rw [ByteArray.data_append];apply Array.ext';simp
set_option maxRecDepth 8000 in
set_option maxHeartbeats 1000000 in
theorem repS (s:BL) (n:Int) (hs:s.length≤1000) (hn:n≤1000) (w:World):Calls Tryz.prog 49 #[sV s,.int .i64 n] w fun e w'=>e=.returned (sV (repF s n.toNat))∧w'=w:=by
 obtain ⟨m,hm⟩:∃ m,n.toNat=m:=⟨_,rfl⟩;have hmn:m≤1000:=by omega
 have HM:Hid (n.toNat=m):=hm;rw [hm];clear hm;go_enter Tryz.func49,Tryz.ntmps49;go_wp2_with fail;go_loopw [5,6] (fun o i wr=>∃ k:Nat,k≤m∧i=.int .i64 k∧o=sV (repF s k)∧wr=w) (fun _ i _=>m - (intOf i).toNat)
 case atStart=>exact ⟨0,by omega,rfl,rfl,rfl⟩
 case round =>
  obtain ⟨k,hk,rfl,rfl,rfl⟩:=hrel;by_cases hlt:k<m
  ·have i2:(k:Int)<n:=by have:=HM.out;omega
   have hl1:=repF_len s k;have hb:k * s.length≤1000 * 1000:=Nat.mul_le_mul (by omega) hs;have hz1:(⟨(repF s k).toArray⟩:ByteArray).size=(repF s k).length:=rfl;have hz2:(⟨s.toArray⟩:ByteArray).size=s.length:=rfl;have HA:Hid ((⟨(repF s k).toArray⟩++⟨s.toArray⟩:ByteArray)=⟨(repF s (k+1)).toArray⟩):=app_str _ _;have hss:(⟨(repF s k).toArray⟩:ByteArray).size+(⟨s.toArray⟩:ByteArray).size≤9223372036854775807:=by rw [hz1,hz2];omega
   clear hl1 hb hz1 hz2;go_wp2_with fail;go_roundw
   case rel=>exact ⟨k+1,by omega,by go_num,by rw [HA.out],trivial⟩
   case measure=>simp [intOf];omega
  ·obtain rfl:k=m:=by omega
   have i2:n≤(k:Int):=by have:=HM.out;omega
   go_wp2_with fail;go_ret;exact ⟨rfl,rfl⟩
end Go.Proofs.YtjlojlgdkfpcdaaGreatDoor

