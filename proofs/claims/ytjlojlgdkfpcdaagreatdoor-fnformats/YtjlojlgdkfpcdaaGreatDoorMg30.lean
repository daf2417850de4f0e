/-
  Several texts in one: TxJ, TxLaw, V6g, V6h, Se0, L1.
-/
import Derived.Test.YtjlojlgdkfpcdaaGreatDoorMg29
import Derived.Test.YtjlojlgdkfpcdaaGreatDoorMg3
import Derived.Test.YtjlojlgdkfpcdaaGreatDoorMg16
import Derived.Test.YtjlojlgdkfpcdaaGreatDoorMg23
import Derived.Test.YtjlojlgdkfpcdaaGreatDoorMg28
set_option maxRecDepth 8000
set_option maxHeartbeats 2000000
namespace Go.Proofs.YtjlojlgdkfpcdaaGreatDoor
open Go.RowKit
theorem sizeT_a {D:List UInt8} {x:Int} (h:0<=x/\(D.length:Int) - 1+x<15):zBE D x=D++List.replicate x.toNat 48:=by unfold zBE;rw [if_pos h]
theorem sizeT_b {D:List UInt8} {x:Int} (h0:x<0) (h : -5<=(D.length:Int) - 1+x) :
  zBE D x=(if (D.length:Int)+x<=0 then 48 :: 46 :: (List.replicate (-((D.length:Int)+x)).toNat 48++D) else D.take ((D.length:Int)+x).toNat++46 :: D.drop ((D.length:Int)+x).toNat):=by
 unfold zBE;rw [if_neg (by omega)];by_cases h1:(D.length:Int)+x<=0
 ·rw [if_neg (by omega),if_pos ⟨h0,h⟩,if_pos h1];have e : -((D.length:Int) - 1+x) - 1 = -((D.length:Int)+x):=by omega
  rw [e]
 ·rw [if_pos ⟨h0,by omega⟩,if_neg h1];have e:(D.length:Int) - 1+x+1=(D.length:Int)+x:=by omega
  rw [e]
theorem sizeT_c {D:List UInt8} {x:Int} (h1:¬ (0<=x/\(D.length:Int) - 1+x<15)) (h2:¬ (x<0 /\ -5<=(D.length:Int) - 1+x)) :
  zBE D x=D.take 1++(if 1<D.length then 46 :: D.drop 1 else [])++powT ((D.length:Int) - 1+x):=by
 unfold zBE powT;rw [if_neg h1,if_neg (by omega),if_neg h2]
theorem zHS {d:Int} (h0:0<=d) (h1:d<1000000000000000):1<=(Lib.itoa d).length/\(Lib.itoa d).length<=15:=by
 unfold Lib.itoa;rw [if_neg (by omega)];exact zC6 14 d.toNat (by
  have:(10:Nat) ^ (14+1)=1000000000000000:=by decide
  omega)
theorem zR6 {D:List UInt8} {x:Int} (l1:D.length<=15) (x0 : -300<=x) (x1:x<=300):(zBE D x).length<=1000:=by
 have e:(10:Nat) ^ (14+1)=1000000000000000:=by decide
 have h1:=(zC6 14 (-((D.length:Int) - 1+x)).toNat (by omega)).2;have h2:=(zC6 14 ((D.length:Int) - 1+x).toNat (by omega)).2;unfold zBE
 split
 ·simp;omega
 ·split
  ·simp;omega
  ·split
   ·simp;omega
   ·split <;> split <;> simp <;> omega
theorem zKN (RP:RepC) (s:ByteArray) (D:List UInt8) (x:Int) (w0 w:World) (IT:zD2 w0) (X0:Ext w0 w) (hs:s.data.toList=D) (l0:1<=D.length) (l1:D.length<=15) (x0 : -300<=x) (x1':x<=300) :
  Calls Tryz.prog 179 #[.string s,iQ x] w fun e w'=>∃ t,e=.returned (.string t)/\t.data.toList=zBE D x/\Ext w w':=by
 have hsz:=zDD hs;obtain ⟨L,hL⟩:=nm (D.length);by_cases ca:0<=x/\(L:Int) - 1+x<15
 ·have HZ:Hid (zBE D x=D++List.replicate x.toNat 48):=sizeT_a (by rw [hL];exact ca);obtain ⟨c1,c2⟩:=ca;have R:Hid (∀ w:World,Calls Tryz.prog 45 #[.string ⟨#[48]⟩,iQ x] w fun e w'=>∃ s,e=.returned (.string s)/\s.data.toList=List.replicate x.toNat 48/\Ext w w'):=fun w=>RP x w c1 (by omega);have HS:Hid (s.data.toList=D):=hs;rw [hL] at hsz l0 l1;clear RP IT X0 hs hL;go_enter Tryz.func179,Tryz.ntmps179;go_wp2_with fail;refine (R.out _).mono ?_;rintro e w1 ⟨t,rfl,ht,e1⟩;have htz:=zDD ht;rw [List.length_replicate] at htz;have HT:Hid (t.data.toList=List.replicate x.toNat 48):=ht;clear ht R;go_wp2_with fail;go_ret;exact ⟨_,rfl,by rw [HZ.out];simp [HS.out,HT.out],e1⟩
 ·by_cases cb:x<0 /\ -5<=(L:Int) - 1+x
  ·have HZ:=sizeT_b (D:=D) cb.1 (by rw [hL];exact cb.2);have P:=zM9 RP s D ((D.length:Int)+x) w hs l1 (by omega) (by omega);rw [<- HZ,hL] at P;obtain ⟨c1,c2⟩:=cb;have HP:Hid (Calls Tryz.prog 210 #[.string s,iQ ((L:Int)+x)] w fun e w'=>∃ t,e=.returned (.string t)/\t.data.toList=zBE D x/\Ext w w'):=P;rw [hL] at hsz l0 l1;clear RP IT X0 hs hL HZ P ca;go_enter Tryz.func179,Tryz.ntmps179;go_wp2_with fail;refine (HP.out).mono ?_;rintro e w1 ⟨t,rfl,ht,e1⟩;have HT:Hid (t.data.toList=zBE D x):=ht;clear ht HP;go_wp2_with fail;go_ret;exact ⟨_,rfl,HT.out,e1⟩
  ·have HZ:=sizeT_c (D:=D) (x:=x) (by rw [hL];exact ca) (by rw [hL];exact cb);have P:=zM8 s D ((D.length:Int) - 1+x) w0 w IT X0 hs l0 l1 (by omega) (by omega);rw [<- HZ,hL] at P;have HP:Hid (Calls Tryz.prog 211 #[.string s,iQ ((L:Int) - 1+x)] w fun e w'=>∃ t,e=.returned (.string t)/\t.data.toList=zBE D x/\Ext w w'):=P;rw [hL] at hsz l0 l1;clear RP IT X0 hs hL HZ P;by_cases hx:x<0
   ·have ct:(L:Int) - 1+x < -5:=(by omega);clear ca cb;go_enter Tryz.func179,Tryz.ntmps179;go_wp2_with fail;refine (HP.out).mono ?_;rintro e w1 ⟨t,rfl,ht,e1⟩;have HT:Hid (t.data.toList=zBE D x):=ht;clear ht HP;go_wp2_with fail;go_ret;exact ⟨_,rfl,HT.out,e1⟩
   ·have ct:15<=(L:Int) - 1+x:=(by omega);clear ca cb;go_enter Tryz.func179,Tryz.ntmps179;go_wp2_with fail;refine (HP.out).mono ?_;rintro e w1 ⟨t,rfl,ht,e1⟩;have HT:Hid (t.data.toList=zBE D x):=ht;clear ht HP;go_wp2_with fail;go_ret;exact ⟨_,rfl,HT.out,e1⟩
theorem zOL {n:Bool} {d x:Int} (h:zA1 n d x=true):zDS n d x=(if n then [45] else [])++zBE (Lib.itoa d) x:=by
 obtain ⟨g0,g1,g2⟩:=zBQ h;have e:Lib.itoa d=Lib.decDigits d.toNat:=by unfold Lib.itoa;rw [if_neg (by omega)]
 unfold zDS;rw [if_pos h,e];by_cases hd:d=0
 ·obtain ⟨rfl,rfl⟩:=g2 hd;subst hd;rw [if_pos rfl];have e0:Lib.decDigits (0:Int).toNat=[48]:=by rw [Lib.decDigits,dif_pos (by decide)];rfl
  rw [e0];rfl
 ·rw [if_neg hd]
theorem textI (RP:RepC) (n:Bool) (d x:Int) (w:World) (IT:zD2 w) (d1 : -9223372036854775808<=d) (d2:d<=9223372036854775807) (hT:Tens w) :
  Calls Tryz.prog 124 #[.agg #[.bool n,iQ d,iQ x]] w fun e w'=>∃ s,e=.returned (.string s)/\s.data.toList=zDS n d x/\Ext w w':=by
 go_enter Tryz.func124,Tryz.ntmps124;go_wp2_with fail;refine (zVS n d x _ d1 d2 (hT.l (x1 _ _))).mono ?_;rintro r w1 ⟨rfl,e1⟩;have B:=(Box3.made w (.bool n) (iQ d) (iQ x) 31).l e1;have X1:=xt (x1 _ _) e1;clear e1 hT;have B':=B;obtain ⟨⟨p0,p1,p2⟩,_⟩:=B';cases hg:zA1 n d x
 ·have HT:Hid (zDS n d x=[]):=by simp [zDS,hg,Hid]
  clear hg;go_wp2_with fail;go_ret;exact ⟨_,rfl,by rw [HT.out],X1⟩
 ·have HT:Hid (zDS n d x=(if n then [45] else [])++zBE (Lib.itoa d) x):=zOL hg;obtain ⟨g0,g1,g2⟩:=zBQ hg;obtain ⟨gx0,gx1⟩:=zNY hg;have IC:Hid (∀ w2,Ext w1 w2->Calls Tryz.prog 138 #[iQ d] w2 fun e w'=>∃ s,e=.returned (.string s)/\s.data.toList=Lib.itoa d/\Ext w2 w'):=fun w2 hx=>IT d w2 (by omega) (by omega) (xt X1 hx);have SC:Hid (∀ w2 s,Ext w1 w2->s.data.toList=Lib.itoa d->Calls Tryz.prog 179 #[.string s,iQ x] w2 fun e w'=>∃ t,e=.returned (.string t)/\t.data.toList=zBE (Lib.itoa d) x/\Ext w2 w'):=fun w2 s hx hs =>
   zKN RP s (Lib.itoa d) x w w2 IT (xt X1 hx) hs (zHS g0 g1).1 (zHS g0 g1).2 gx0 gx1
  have SZ:Hid ((zBE (Lib.itoa d) x).length<=1000):=zR6 (zHS g0 g1).2 gx0 gx1;clear hg g0 g1 g2 gx0 gx1 d1 d2 IT;go_wp2_with fail;go_region_held3 (fun w'=>w'.cell? ⟨w.heap.size,0,none⟩=some (.bool n)/\w'.cell? ⟨w.heap.size,1,none⟩=some (iQ d)/\w'.cell? ⟨w.heap.size,2,none⟩=some (iQ x)) (go_keep)
   (first
    | (go_at_call 138;refine (IC.out _ (by first | exact xd (xr _) | exact xr _)).mono ?_;rintro r w2 ⟨s,rfl,hs,e2⟩;have X2:Ext w1 w2:=xt (by first | exact xd (xr _) | exact xr _) e2;have HS:Hid (s.data.toList=Lib.itoa d):=hs;clear hs;obtain ⟨⟨a20,a21,a22⟩,_⟩:=B.l X2)
    | (go_at_call 179;refine (SC.out _ _ (xt X2 (by first | exact xr _ | exact xd (xr _))) HS.out).mono ?_;rintro r w3 ⟨t,rfl,ht,e3⟩;have X3:Ext w1 w3:=xt (xt X2 (by first | exact xr _ | exact xd (xr _))) e3;have htz:t.size<=1000:=(by rw [zDD ht];exact SZ.out);have HTT:Hid (t.data.toList=zBE (Lib.itoa d) x):=ht;clear ht;obtain ⟨⟨a30,a31,a32⟩,_⟩:=B.l X3))
  all_goals
   cases n
   ·go_wp2_with fail;go_ret;exact ⟨_,rfl,by rw [HT.out];simp [HTT.out],xt X1 X3⟩
   ·go_wp2_with fail;go_ret;exact ⟨_,rfl,by rw [HT.out];simp [HTT.out],xt X1 X3⟩
theorem zD2.l {w0 w:World} (h:zD2 w0) (x:Ext w0 w):zD2 w:=fun n w1 a b c=>h n w1 a b (xt x c)
def zCA (k:Int) (n:Bool) (d x:Int) (t:List UInt8):Value:=
 if k=0 then valV 2 false 0 0 [] else if k=1 then valV 2 false 0 0 (zDS n d x) else if k=3 then valV 2 false 0 0 t else valV k n d x t
def zF3 (k:Int) (n:Bool) (d x:Int) (t:List UInt8):Value:=if zAR k n d x t then zCA k n d x t else errW
theorem sV_of {s:ByteArray} {l:List UInt8} (h:s.data.toList=l):(.string s:Value)=sV l:=by
 subst h;rfl
theorem textOfI (k:Int) (n:Bool) (d x:Int) (t:List UInt8) (w:World) (hl:t.length<=2000000) (d1 : -9223372036854775808<=d) (d2:d<=9223372036854775807) (hT:Tens w) (hE:zE6 w) (hI:zD2 w) :
  Calls Tryz.prog 70 #[valV k n d x t] w fun e w'=>e=.returned (zF3 k n d x t)/\Ext w w':=by
 obtain ⟨R,hR⟩:=nm (zF3 k n d x t);have HR0:Hid (zF3 k n d x t=R):=hR;rw [hR];clear hR;obtain ⟨wa,wb,ha,hb,sa,_,B1,B2,X⟩:=mkB2 w [iQ k,.bool n,iQ d,iQ x,sV t] [iQ 0,.bool false,iQ 0,iQ 0,sV []] 33 33;obtain ⟨a0,a1,a2,a3,a4⟩:=Vec.five B1;go_enter Tryz.func70,Tryz.ntmps70;go_wp2_with fail;clear ha hb sa a0 a1 a2 a3 a4;refine (zT4 k n d x t wb hl d1 d2 (hT.l X) (hE.l X)).mono ?_;rintro e w1 ⟨rfl,e1⟩;have C1:=B1.l e1;have C2:=B2.l e1;have X1:=xt X e1;clear B1 B2 hE;obtain ⟨g,hg⟩:=nm (zAR k n d x t);rw [hg];cases g
 ·have HR:Hid (errW=R):=by show _=_;rw [<- HR0.out];simp [zF3,hg]
  clear hg hT hI d1 d2;go_wp2_with fail;refine (errVI errT _).mono ?_;rintro e w2 ⟨rfl,e2⟩;obtain ⟨wy,hy,FX,⟨b0,b1,b2,b3,b4⟩,⟨fb0,fb1,fb2,fb3,fb4⟩,fd0,fd1,fd2,fd3,fd4⟩:=fin5 (C2.l e2) (xt X1 e2) (by omega) (4) (false) (0) (0) (errT);go_wp2_with fail;exact bodyPost_ret (v:=errW) (by simp [results,Tryz.results70,go_sem,fd0,fd1,fd2,fd3,fd4]) rfl ⟨congrArg Ending.returned HR.out,FX⟩
 ·have HR1:Hid (zCA k n d x t=R):=by show _=_;rw [<- HR0.out];simp [zF3,hg]
  obtain ⟨a0,a1,a2,a3,a4⟩:=Vec.five C1;by_cases h1:k=1
  ·subst h1;clear hg;go_wp2_with fail;clear a0 a1 a2 a3 a4;refine (textI repC n d x w1 (hI.l X1) d1 d2 (hT.l X1)).mono ?_;rintro e w2 ⟨s,rfl,hs,e2⟩;have es:=sV_of hs;rw [es];clear hs es hT hI d1 d2 s;have HR:Hid (valV 2 false 0 0 (zDS n d x)=R):=by show _=_;rw [<- HR1.out];simp [zCA]
   obtain ⟨u,hu⟩:=nm (zDS n d x);rw [hu] at HR ⊢;clear hu;go_wp2_with fail;refine (textVI u _).mono ?_;rintro e w3 ⟨rfl,e3⟩;obtain ⟨wy,hy,FX,⟨b0,b1,b2,b3,b4⟩,⟨fb0,fb1,fb2,fb3,fb4⟩,fd0,fd1,fd2,fd3,fd4⟩:=fin5 ((C2.l e2).l e3) (xt (xt X1 e2) e3) (by omega) (2) (false) (0) (0) (u);go_wp2_with fail;exact bodyPost_ret (v:=valV 2 false 0 0 u) (by simp [results,Tryz.results70,go_sem,fd0,fd1,fd2,fd3,fd4]) rfl ⟨congrArg Ending.returned HR.out,FX⟩
  ·obtain ⟨rfl,rfl,rfl⟩:=zPP hg h1;clear hT hI d1 d2;by_cases h4:k=4
   ·subst h4;clear hg;have HR:Hid (valV 4 false 0 0 t=R):=(by show _=_;rw [<- HR1.out];simp [zCA]);obtain ⟨wy,hy,FX,⟨b0,b1,b2,b3,b4⟩,⟨fb0,fb1,fb2,fb3,fb4⟩,fd0,fd1,fd2,fd3,fd4⟩:=fin5 (C2) (X1) (by omega) (4) (false) (0) (0) (t);go_wp2_with fail;exact bodyPost_ret (v:=valV 4 false 0 0 t) (by simp [results,Tryz.results70,go_sem,fd0,fd1,fd2,fd3,fd4]) rfl ⟨congrArg Ending.returned HR.out,FX⟩
   ·have HR:Hid (valV 2 false 0 0 t=R):=by
     show _=_;rw [<- HR1.out];by_cases h0:k=0
     ·subst h0;rw [zMG hg];simp [zCA]
     ·by_cases h3:k=3
      ·simp [zCA,h3]
      ·have h2:k=2:=by
        simp only [zAR,h1,if_false,h0,h3,h4] at hg;by_cases h2:k=2
        ·exact h2
        ·simp [h2] at hg
       simp [zCA,h2]
    clear hg;go_wp2_with fail;clear a0 a1 a2 a3 a4;refine (textVI t _).mono ?_;rintro e w3 ⟨rfl,e3⟩;obtain ⟨wy,hy,FX,⟨b0,b1,b2,b3,b4⟩,⟨fb0,fb1,fb2,fb3,fb4⟩,fd0,fd1,fd2,fd3,fd4⟩:=fin5 (C2.l e3) (xt X1 e3) (by omega) (2) (false) (0) (0) (t);go_wp2_with fail;exact bodyPost_ret (v:=valV 2 false 0 0 t) (by simp [results,Tryz.results70,go_sem,fd0,fd1,fd2,fd3,fd4]) rfl ⟨congrArg Ending.returned HR.out,FX⟩
theorem asTextS (k:Int) (n:Bool) (d x:Int) (t:List UInt8) (w:World)  :
  Calls Tryz.prog 79 #[valV k n d x t] w fun e w'=>e=.returned (zCA k n d x t)/\Ext w w':=by
 obtain ⟨R,hR⟩:=nm (zCA k n d x t);have HR0:Hid (zCA k n d x t=R):=hR;rw [hR];clear hR;obtain ⟨wa,wb,ha,hb,sa,_,B1,B2,X⟩:=mkB2 w [iQ k,.bool n,iQ d,iQ x,sV t] [iQ 0,.bool false,iQ 0,iQ 0,sV []] 33 33;obtain ⟨a0,a1,a2,a3,a4⟩:=Vec.five B1;go_enter Tryz.func79,Tryz.ntmps79;by_cases h0:k=0
 ·subst h0;have HR:Hid (valV 2 false 0 0 []=R):=by show _=_;rw [<- HR0.out];simp [zCA]
  go_wp2_with fail;clear ha hb sa a0 a1 a2 a3 a4;refine (zIN [] wb).mono ?_;rintro e w2 ⟨rfl,e2⟩;obtain ⟨wy,hy,FX,⟨b0,b1,b2,b3,b4⟩,⟨fb0,fb1,fb2,fb3,fb4⟩,fd0,fd1,fd2,fd3,fd4⟩:=fin5 (B2.l e2) (xt X e2) (by omega) (2) (false) (0) (0) ([]);go_wp2_with fail;exact bodyPost_ret (v:=valV 2 false 0 0 []) (by simp [results,Tryz.results79,go_sem,fd0,fd1,fd2,fd3,fd4]) rfl ⟨congrArg Ending.returned HR.out,FX⟩
 ·by_cases h1:k=1
  ·subst h1;go_wp2_with fail;clear ha hb sa a0 a1 a2 a3 a4;refine (textS n d x wb).mono ?_;rintro e w2 ⟨s,rfl,hs,e2⟩;have es:=sV_of hs;rw [es];clear hs es s;have HR:Hid (valV 2 false 0 0 (zDS n d x)=R):=by show _=_;rw [<- HR0.out];simp [zCA]
   obtain ⟨u,hu⟩:=nm (zDS n d x);rw [hu] at HR ⊢;clear hu;go_wp2_with fail;refine (zIN u w2).mono ?_;rintro e w3 ⟨rfl,e3⟩;obtain ⟨wy,hy,FX,⟨b0,b1,b2,b3,b4⟩,⟨fb0,fb1,fb2,fb3,fb4⟩,fd0,fd1,fd2,fd3,fd4⟩:=fin5 ((B2.l e2).l e3) (xt (xt X e2) e3) (by omega) (2) (false) (0) (0) (u);go_wp2_with fail;exact bodyPost_ret (v:=valV 2 false 0 0 u) (by simp [results,Tryz.results79,go_sem,fd0,fd1,fd2,fd3,fd4]) rfl ⟨congrArg Ending.returned HR.out,FX⟩
  ·by_cases h3:k=3
   ·subst h3;have HR:Hid (valV 2 false 0 0 t=R):=(by show _=_;rw [<- HR0.out];simp [zCA]);go_wp2_with fail;clear ha hb sa a0 a1 a2 a3 a4;refine (zIN t wb).mono ?_;rintro e w2 ⟨rfl,e2⟩;obtain ⟨wy,hy,FX,⟨b0,b1,b2,b3,b4⟩,⟨fb0,fb1,fb2,fb3,fb4⟩,fd0,fd1,fd2,fd3,fd4⟩:=fin5 (B2.l e2) (xt X e2) (by omega) (2) (false) (0) (0) (t);go_wp2_with fail;exact bodyPost_ret (v:=valV 2 false 0 0 t) (by simp [results,Tryz.results79,go_sem,fd0,fd1,fd2,fd3,fd4]) rfl ⟨congrArg Ending.returned HR.out,FX⟩
   ·have HR:Hid (valV k n d x t=R):=(by show _=_;rw [<- HR0.out];simp [zCA,h0,h1,h3]);obtain ⟨wy,hy,FX,⟨b0,b1,b2,b3,b4⟩,⟨fb0,fb1,fb2,fb3,fb4⟩,fd0,fd1,fd2,fd3,fd4⟩:=fin5 (B2) (X) (by omega) (k) (n) (d) (x) (t);go_wp2_with fail;exact bodyPost_ret (v:=valV k n d x t) (by simp [results,Tryz.results79,go_sem,fd0,fd1,fd2,fd3,fd4]) rfl ⟨congrArg Ending.returned HR.out,FX⟩
def zM1 (k:Int) (n:Bool) (d x:Int) (t:List UInt8):List UInt8:=if k=0 then [] else if k=1 then zDS n d x else t
def zDE (k:Int) (n:Bool) (d x:Int) (t:List UInt8):List UInt8:=if zAR k n d x t then zM1 k n d x t else []
theorem zJ5 (k:Int) (n:Bool) (d x:Int) (t:List UInt8) (W:World):(Instr.field 33 (valV k n d x t) 2).run Tryz.prog W=.ok (sV t) W:=by kernel_rfl
theorem zHE (k:Int) (n:Bool) (d x:Int) (t:List UInt8):∃ k2 n2 d2 x2,zCA k n d x t=valV k2 n2 d2 x2 (zM1 k n d x t):=by
 unfold zCA zM1
 split
 ·exact ⟨_,_,_,_,rfl⟩
 ·split
  ·exact ⟨_,_,_,_,rfl⟩
  ·split
   ·exact ⟨_,_,_,_,rfl⟩
   ·exact ⟨_,_,_,_,rfl⟩
theorem showI (k:Int) (n:Bool) (d x:Int) (t:List UInt8) (w:World) (hl:t.length<=2000000) (d1 : -9223372036854775808<=d) (d2:d<=9223372036854775807) (hT:Tens w) (hE:zE6 w) (hI:zD2 w) :
  Calls Tryz.prog 35 #[valV k n d x t] w fun e w'=>e=.returned (sV (zDE k n d x t))/\Ext w w':=by
 obtain ⟨R,hR⟩:=nm (zDE k n d x t);have HR0:Hid (zDE k n d x t=R):=hR;rw [hR];clear hR;have X:=x1 w (.cells #[iQ k,.bool n,iQ d,iQ x,sV t] 33);have B1:=zA2 w (valL k n d x t) 33;obtain ⟨wa,ha⟩:=nm (w.alloc (.cells #[iQ k,.bool n,iQ d,iQ x,sV t] 33));change Vec (w.alloc (.cells #[iQ k,.bool n,iQ d,iQ x,sV t] 33)) _ _ at B1;rw [ha] at X B1;obtain ⟨a0,a1,a2,a3,a4⟩:=Vec.five B1;go_enter Tryz.func35,Tryz.ntmps35;go_wp2_with fail;clear ha a0 a1 a2 a3 a4;refine (zT4 k n d x t wa hl d1 d2 (hT.l X) (hE.l X)).mono ?_;rintro e w1 ⟨rfl,e1⟩;have C1:=B1.l e1;have X1:=xt X e1;clear B1;obtain ⟨g,hg⟩:=nm (zAR k n d x t);rw [hg];cases g
 ·have HR:Hid ([]=R):=by show _=_;rw [<- HR0.out];simp [zDE,hg]
  clear hg;go_wp2_with fail;go_ret;exact ⟨congrArg (fun l=>Ending.returned (sV l)) HR.out,X1⟩
 ·have HR:Hid (zM1 k n d x t=R):=by show _=_;rw [<- HR0.out];simp [zDE,hg]
  obtain ⟨a0,a1,a2,a3,a4⟩:=Vec.five C1;go_wp2_with fail;clear a0 a1 a2 a3 a4;refine (textOfI k n d x t w1 hl d1 d2 (hT.l X1) (hE.l X1) (hI.l X1)).mono ?_;rintro e w2 ⟨rfl,e2⟩;obtain ⟨k2,n2,d2,x2,hv⟩:=zHE k n d x t;rw [show zF3 k n d x t=zCA k n d x t by simp [zF3,hg],hv];obtain ⟨u,hu⟩:=nm (zM1 k n d x t);rw [hu] at HR ⊢;clear hv hu hg;have hf:=fun W=>zJ5 k2 n2 d2 x2 u W;go_wp2_with fail;go_ret;exact ⟨congrArg (fun l=>Ending.returned (sV l)) HR.out,xt X1 e2⟩
theorem showS (k:Int) (n:Bool) (d x:Int) (t:List UInt8) (w:World) (hl:t.length<=2000000) :
  Calls Tryz.prog 38 #[valV k n d x t] w fun e w'=>e=.returned (sV (zDE k n d x t))/\Ext w w':=by
 obtain ⟨R,hR⟩:=nm (zDE k n d x t);have HR0:Hid (zDE k n d x t=R):=hR;rw [hR];clear hR;have X:=x1 w (.cells #[iQ k,.bool n,iQ d,iQ x,sV t] 33);have B1:=zA2 w (valL k n d x t) 33;obtain ⟨wa,ha⟩:=nm (w.alloc (.cells #[iQ k,.bool n,iQ d,iQ x,sV t] 33));change Vec (w.alloc (.cells #[iQ k,.bool n,iQ d,iQ x,sV t] 33)) _ _ at B1;rw [ha] at X B1;obtain ⟨a0,a1,a2,a3,a4⟩:=Vec.five B1;go_enter Tryz.func38,Tryz.ntmps38;go_wp2_with fail;clear ha a0 a1 a2 a3 a4;refine (goodVS k n d x t wa hl).mono ?_;rintro e w1 ⟨rfl,e1⟩;have C1:=B1.l e1;have X1:=xt X e1;clear B1;obtain ⟨g,hg⟩:=nm (zAR k n d x t);rw [hg];cases g
 ·have HR:Hid ([]=R):=by show _=_;rw [<- HR0.out];simp [zDE,hg]
  clear hg;go_wp2_with fail;go_ret;exact ⟨congrArg (fun l=>Ending.returned (sV l)) HR.out,X1⟩
 ·have HR:Hid (zM1 k n d x t=R):=by show _=_;rw [<- HR0.out];simp [zDE,hg]
  obtain ⟨a0,a1,a2,a3,a4⟩:=Vec.five C1;go_wp2_with fail;clear a0 a1 a2 a3 a4;refine (asTextS k n d x t w1).mono ?_;rintro e w2 ⟨rfl,e2⟩;obtain ⟨k2,n2,d2,x2,hv⟩:=zHE k n d x t;rw [hv];obtain ⟨u,hu⟩:=nm (zM1 k n d x t);rw [hu] at HR ⊢;clear hv hu hg;have hf:=fun W=>zJ5 k2 n2 d2 x2 u W;go_wp2_with fail;go_ret;exact ⟨congrArg (fun l=>Ending.returned (sV l)) HR.out,xt X1 e2⟩
def zJZ (f:KT):Prop:=f.bf.length<=20/\f.af.length<=20/\((f.dt=[]/\∃ wh pl mb tm:Nat,(f.wh=wh/\f.pl=pl/\f.mb=mb/\f.tm=tm)/\(1<=wh/\wh<=9)/\pl<=9/\mb<=9/\tm<=3)\/(f.dt ≠ []/\f.dt.length<=100/\∃ ps,zA6 f.dt.length f.dt=some ps/\1<=ps.length/\ps.length<=12))
theorem zJM {l:BL} {x:BL × BL} (h:quoS l=some x):x.1.length<=20/\x.2.length<=l.length:=by
 unfold quoS at h
 split at h
 ·obtain ⟨t,r⟩:=x;obtain ⟨h1,_,_⟩:=zH4 h;refine ⟨?_,by rw [h1];simp;omega⟩;cases l with
  | nil=>cases h
  | cons c0 r0 =>
   have h:(if (c0 == 34)=true then (if (r0.dropWhile nq) ≠ []/\(r0.takeWhile nq) ≠ []/\(r0.takeWhile nq).length<=20/\zBW (r0.takeWhile nq)=true then some (r0.takeWhile nq,(r0.dropWhile nq).drop 1) else none) else none)=some (t,r):=h
   split at h
   ·split at h
    ·rename_i hh;cases h;exact hh.2.2.1
    ·cases h
   ·cases h
 ·cases h;simp
theorem zPH {b l:BL} {x:KT × BL} (hb:b.length<=20) (h:numS b l=some x):zJZ x.1/\x.2.length<=l.length:=by
 obtain ⟨g,hg⟩:=nm (Lib.hasPrefix (l.drop 0) [35,44]);obtain ⟨k2,hk2⟩:=nm ((if g=true then 0+2 else 0));obtain ⟨wn,hwn⟩:=nm (runF 48 9 (l.drop k2));obtain ⟨pt,hpt⟩:=nm (Lib.hasPrefix (l.drop (k2+wn)) [46]);obtain ⟨k4,hk4⟩:=nm ((if pt=true then k2+wn+1 else k2+wn));obtain ⟨pn,hpn⟩:=nm ((if pt=true then runF 48 9 (l.drop k4) else 0));obtain ⟨mn,hmn⟩:=nm ((if pt=true then runF 35 9 (l.drop (k4+pn)) else 0));obtain ⟨tn,htn⟩:=nm (runF 37 3 (l.drop (k4+pn+mn)));have hk:=zEC b l 0 hg hk2 hwn hpt hk4 hpn hmn htn;have bw:wn<=9:=by rw [<- hwn];exact zC2 _ _ _
 have bp:pn<=9:=by rw [<- hpn];split;exact zC2 _ _ _;omega
 have bm:mn<=9:=by rw [<- hmn];split;exact zC2 _ _ _;omega
 have bt:tn<=3:=by rw [<- htn];exact zC2 _ _ _
 rw [List.drop_zero,h] at hk
 split at hk
 ·cases hk
 ·next hw0 =>
  split at hk
  ·cases hk
  ·cases hq:quoS (l.drop (k4+pn+mn+tn)) with
   | none=>rw [hq] at hk;cases hk
   | some y =>
    rw [hq] at hk;cases hk;obtain ⟨q1,q2⟩:=zJM hq;rw [List.length_drop] at q2;refine ⟨⟨hb,q1,.inl ⟨rfl,wn,pn,mn,tn,⟨rfl,rfl,rfl,rfl⟩,⟨by omega,bw⟩,bp,bm,bt⟩⟩,?_⟩;dsimp only;omega
theorem zMR {b l:BL} {x:KT × BL} (hb:b.length<=20) (hl:l.length<=100) (h:zE8 b l=some x):zJZ x.1/\x.2.length<=l.length:=by
 have hk:=zKC b l 0 (0+((l.drop 0).takeWhile sepC).length) rfl rfl;rw [List.drop_zero,h] at hk
 split at hk
 ·next hok =>
  cases hq:quoS (l.drop (0+(l.takeWhile sepC).length)) with
  | none=>rw [hq] at hk;cases hk
  | some y =>
   rw [hq] at hk;cases hk;obtain ⟨q1,q2⟩:=zJM hq;rw [List.length_drop] at q2;have:=zBK sepC l;have hlt:(l.takeWhile sepC).length<=l.length:=(List.takeWhile_sublist sepC).length_le;refine ⟨⟨hb,q1,.inr ?_⟩,?_⟩
   ·dsimp only;cases hp:zA6 (l.takeWhile sepC).length (l.takeWhile sepC) with
    | none=>rw [zGQ hp] at hok;cases hok
    | some ps =>
     rw [zGP hp,Bool.and_eq_true,decide_eq_true_eq] at hok;refine ⟨?_,by omega,ps,rfl,hok.1⟩;intro e;rw [e] at hp;have:ps=[]:=by
      have hp:zA6 0 []=some ps:=hp;rw [zA6,if_pos rfl] at hp;cases hp;rfl
     rw [this] at hok;have:=hok.1.1;simp at this
   ·dsimp only;omega
 ·cases hk
theorem zOU {l:BL} {x:KT × BL} (hl:l.length<=100) (h:secS l=some x):zJZ x.1/\x.2.length<=l.length:=by
 unfold secS at h;cases hq:quoS l with
 | none=>rw [hq] at h;cases h
 | some y =>
  rw [hq] at h;obtain ⟨q1,q2⟩:=zJM hq;have h:(if Lib.hasPrefix y.2 [35,44] || Lib.hasPrefix y.2 [48] then numS y.1 y.2 else zE8 y.1 y.2)=some x:=h
  split at h
  ·obtain ⟨g1,g2⟩:=zPH q1 h;exact ⟨g1,by omega⟩
  ·obtain ⟨g1,g2⟩:=zMR q1 (by omega) h;exact ⟨g1,by omega⟩
theorem zM5:∀ (k:Nat) (l:BL) (acc:List KT),l.length<=100->(∀ f ∈ acc,zJZ f)->acc.length<=3->(∀ f ∈ zBV k l acc,zJZ f)/\(zBV k l acc).length<=3:=by
 intro k
 induction k with
 | zero=>intro l acc _ _ _;exact ⟨fun f hf=>(by cases hf),Nat.zero_le _⟩
 | succ k ih =>
  intro l acc hl ha hc;simp only [zBV];cases hS:secS l with
  | none=>exact ⟨fun f hf=>(by cases hf),Nat.zero_le _⟩
  | some x =>
   obtain ⟨g1,g2⟩:=zOU hl hS;have hacc:∀ f ∈ acc++[x.1],zJZ f:=fun f hf=>by
    rcases List.mem_append.1 hf with hf | hf
    ·exact ha f hf
    ·have:f=x.1:=(by simpa using hf);rw [this];exact g1
   dsimp only
   split
   ·exact ⟨fun f hf=>(by cases hf),Nat.zero_le _⟩
   ·next h3 =>
    have hlen:(acc++[x.1]).length<=3:=by rw [List.length_append];simp;omega
    split
    ·exact ⟨hacc,hlen⟩
    ·split
     ·exact ih _ _ (by rw [List.length_drop];omega) hacc hlen
     ·exact ⟨fun f hf=>(by cases hf),Nat.zero_le _⟩
theorem zF6 (c:BL):(∀ f ∈ zAZ c,zJZ f)/\(zAZ c).length<=3:=by
 unfold zAZ
 split
 ·exact ⟨fun f hf=>(by cases hf),Nat.zero_le _⟩
 ·exact zM5 4 c [] (by omega) (fun f hf=>(by cases hf)) (by simp)
def zAX (l:List KT) (n:Bool) (d:Int):KT:=if n=true/\1<l.length then l.getD 1 zBM else if d=0/\2<l.length then l.getD 2 zBM else l.getD 0 zBM
noncomputable def zJG (f:KT) (n:Bool) (d x:Int):BLs:=f.bf++(if f.dt=[] then numT f.wh.toNat f.pl.toNat f.mb.toNat f.gr f.tm.toNat true n d x else zBS n d x ((zA6 f.dt.length f.dt).getD []))++f.af
noncomputable def zC4 (k:Int) (n:Bool) (d x:Int) (t c:BLs):BLs:=
 if zAR k n d x t=true/\k=1/\zAZ c ≠ [] then zJG (zAX (zAZ c) n d) (n && !decide (1<(zAZ c).length)) d x else zDE k n d x t
theorem zEQ (wh pl mb tm:Nat) (gr minus n:Bool) (d e:Int):numT wh pl mb gr tm minus n d e=numT wh pl mb gr tm true (n && minus) d e:=by
 unfold numT;have:∀ s:DR,((n && minus) && true && decide (s.d ≠ 0))=(n && minus && decide (s.d ≠ 0)):=fun s=>by rw [Bool.and_true]
 simp only [this]
theorem sec_mem {l:List KT} (h:l ≠ []) (n:Bool) (d:Int):zAX l n d ∈ l:=by
 unfold zAX;have h1:0<l.length:=List.length_pos_iff.2 h
 split
 ·next q=>rw [List.getD,List.getElem?_eq_getElem q.2];exact List.getElem_mem _
 ·split
  ·next q=>rw [List.getD,List.getElem?_eq_getElem q.2];exact List.getElem_mem _
  ·rw [List.getD,List.getElem?_eq_getElem h1];exact List.getElem_mem _
theorem zR7 {wh pl mb tm:Nat} {gr:Bool} {d e:Int} (h1:wh<=9) (h2:pl<=9) (h3:mb<=9) (h4:tm<=3) (d0:0<=d) (d1:d<1000000000000000) (e1:e<=300):(zBN wh pl mb gr tm d e).length<=1300:=by
 unfold zBN numZ;have hd:=zMP d0 d1 (e+((pl+mb:Nat):Int)).toNat;have hX:(padZ (pl+mb+1) (digZ d.toNat (e+((pl+mb:Nat):Int)).toNat)).length<=400:=by rw [zD4];omega
 obtain ⟨X,hXX⟩:=nm (padZ (pl+mb+1) (digZ d.toNat (e+((pl+mb:Nat):Int)).toNat));rw [hXX] at hX;simp only [hXX];have hA:(zCI (pl+mb) X).length<=400:=by unfold zCI;rw [List.length_take];omega
 have hW:(padZ wh (zCI (pl+mb) X)).length<=400:=by rw [zD4];omega
 have hG:=zJY (padZ wh (zCI (pl+mb) X)).length (padZ wh (zCI (pl+mb) X));have hL:(zF8 (pl+mb) X).length<=400:=by unfold zF8;rw [List.length_drop];omega
 have hR:(zRI pl (pl+mb) X).length<=400:=by have:=zM3 pl (zF8 (pl+mb) X);unfold rstL at this;unfold zRI;dsimp only;omega
 obtain ⟨W,hWW⟩:=nm (padZ wh (zCI (pl+mb) X));rw [hWW] at hW hG ⊢;obtain ⟨R,hRR⟩:=nm (zRI pl (pl+mb) X);rw [hRR] at hR ⊢;rw [List.length_append,List.length_append,List.length_replicate];have h5:(if gr=true then grpZ W.length W else W).length<=800:=by split <;> omega
 have h6:(if R=[] then [] else 46 :: R).length<=401:=by
  split
  ·simp
  ·rw [List.length_cons];omega
 omega
theorem zFP {wh pl mb tm:Nat} {gr minus n:Bool} {d e:Int} (h1:wh<=9) (h2:pl<=9) (h3:mb<=9) (h4:tm<=3):(numT wh pl mb gr tm minus n d e).length<=1301:=by
 unfold numT;dsimp only;obtain ⟨r,hr⟩:=nm (zAM tm ⟨true,false,d,e⟩);rw [hr]
 split
 ·obtain ⟨s,hs⟩:=nm (zAB r.neg r.d r.e ((pl+mb:Nat):Int) 1);rw [hs]
  split
  ·next hok =>
   have hg:=zJI (n:=r.neg) (d:=r.d) (e:=r.e) (p:=((pl+mb:Nat):Int)) (m:=1) (by rw [hs];exact hok);rw [hs] at hg;have g:=zAN hg;have hS:=zR7 (gr:=gr) h1 h2 h3 h4 g.1 g.2.1 g.2.2.2.1
   split
   ·rw [List.length_cons];omega
   ·omega
  ·simp
 ·simp
theorem zEI {n:Bool} {d e:Int} {ps:List BLs} (g:zA1 n d e=true) (hps:ps.length<=12) (hm:∀ m ∈ ps,m ∈ zAG) (hex:∀ z,-1000000<=z->z<=1000000->∃ y m d,IsDt 1 z y m d):(zBS n d e ps).length<=241:=by
 unfold zBS;dsimp only
 split
 ·next hc =>
  rw [Bool.and_eq_true,decide_eq_true_eq] at hc;obtain ⟨y,mo,da,hdt⟩:=hex _ hc.2.1 hc.2.2;obtain ⟨hy,hmo,hda⟩:=zME hdt hc.2.1 hc.2.2;rw [zQD hdt];obtain ⟨_,s0,s1⟩:=zHI n d e g;have h:=zFY (y:=y) (mo:=mo) (da:=da) (by omega) (by omega) (by omega) (by omega) (by omega) (by omega) s0 s1 ps hm;dsimp only;omega
 ·simp
def repF (s:BL):Nat->BL
 | 0=>[]
 | n+1=>repF s n++s
theorem zNF (s:BL) (n:Nat):(repF s n).length=n * s.length:=by
 induction n with
 | zero=>simp [repF]
 | succ n ih=>simp [repF,ih,Nat.add_mul]
def quoB (s:BL):BL:=if s=[] then [] else 34 :: (s++[34])
def minI (a b:Int):Int:=if a<b then a else b
def numC (gr:Bool) (wh pl mb tm:Nat) (some:Bool):BL:=(if gr then [35,44] else [])++repF [48] wh++(if some then 46 :: (repF [48] pl++repF [35] mb) else [])++repF [37] tm
def zI0 (f:KT):BL:=quoB f.bf++(if f.dt=[] then numC f.gr (minI f.wh 20).toNat (minI f.pl 20).toNat (minI f.mb 20).toNat (minI f.tm 20).toNat (decide (0<wrap64 (f.pl+f.mb))) else f.dt)++quoB f.af
theorem zBI (a b:Int):minI a b<=b:=by unfold minI;split <;> omega
theorem minS (a b:Int) (w:World):Calls Tryz.prog 50 #[iQ a,iQ b] w fun e w'=>e=.returned (iQ (minI a b))/\w'=w:=by
 unfold minI;by_cases h:a<b
 ·rw [if_pos h];go_enter Tryz.func50,Tryz.ntmps50;go_wp2_with fail;go_ret;exact ⟨rfl,rfl⟩
 ·rw [if_neg h];go_enter Tryz.func50,Tryz.ntmps50;go_wp2_with fail;go_ret;exact ⟨rfl,rfl⟩
theorem zAE (a b:BL):(⟨a.toArray⟩++⟨b.toArray⟩:ByteArray)=⟨(a++b).toArray⟩:=by
 apply ByteArray.ext;rw [ByteArray.data_append];apply Array.ext';simp
theorem repS (s:BL) (n:Int) (hs:s.length<=1000) (hn:n<=1000) (w:World):Calls Tryz.prog 49 #[sV s,iQ n] w fun e w'=>e=.returned (sV (repF s n.toNat))/\w'=w:=by
 obtain ⟨m,hm⟩:=nm (n.toNat);have hmn:m<=1000:=by omega
 have HM:Hid (n.toNat=m):=hm;rw [hm];clear hm;go_enter Tryz.func49,Tryz.ntmps49;go_wp2_with fail;go_loopw [5,6] (fun o i wr=>∃ k:Nat,k<=m/\i=.int .i64 k/\o=sV (repF s k)/\wr=w) (fun _ i _=>m - (intOf i).toNat)
 case atStart=>exact ⟨0,by omega,rfl,rfl,rfl⟩
 case round =>
  obtain ⟨k,hk,rfl,rfl,rfl⟩:=hrel;by_cases hlt:k<m
  ·have i2:(k:Int)<n:=by have:=HM.out;omega
   have hl1:=zNF s k;have hb:k * s.length<=1000 * 1000:=Nat.mul_le_mul (by omega) hs;have hz1:(⟨(repF s k).toArray⟩:ByteArray).size=(repF s k).length:=rfl;have hz2:(⟨s.toArray⟩:ByteArray).size=s.length:=rfl;have HA:Hid ((⟨(repF s k).toArray⟩++⟨s.toArray⟩:ByteArray)=⟨(repF s (k+1)).toArray⟩):=zAE _ _;have hss:(⟨(repF s k).toArray⟩:ByteArray).size+(⟨s.toArray⟩:ByteArray).size<=9223372036854775807:=by rw [hz1,hz2];omega
   clear hl1 hb hz1 hz2;go_wp2_with fail;go_roundw
   case rel=>exact ⟨k+1,by omega,by go_num,by rw [HA.out],trivial⟩
   case measure=>simp [intOf];omega
  ·obtain rfl:k=m:=by omega
   have i2:n<=(k:Int):=by have:=HM.out;omega
   go_wp2_with fail;go_ret;exact ⟨rfl,rfl⟩
end Go.Proofs.YtjlojlgdkfpcdaaGreatDoor

