/-
  Several texts in one: IntI, V9p, V9j.
-/
import Derived.Test.YtkadkfmidlhedaaGreatDoorMg40
import Derived.Test.YtkadkfmidlhedaaGreatDoorMg0
import Derived.Deep.RegionHeld3
import Derived.Deep.RegionWith
import Derived.Deep.DeepCutAuto
import Derived.Deep.CutBlock
import Derived.Test.YtkadkfmidlhedaaGreatDoorMg42
import Derived.Test.YtkadkfmidlhedaaGreatDoorMg41
import Derived.Test.YtkadkfmidlhedaaGreatDoorMg33
import Derived.Test.YtkadkfmidlhedaaGreatDoorMg17
set_option maxRecDepth 8000
set_option maxHeartbeats 2000000
namespace Go.Proofs.YtkadkfmidlhedaaGreatDoor
open Go.RowKit
theorem zK7 (d:Int) (t:Nat) (d0:0<=d) (d1:d<1000000000000000) (ht:t<18446744073709551616) (w:World) :
  Calls Tryz.prog 191 #[.int .u64 d,.int .u64 t] w fun e w'=>∃ h l:Nat,e=.returned (.agg #[.int .u64 h,.int .u64 l])/\h<18446744073709551616/\l<18446744073709551616/\Hid ((h:Int) * 18446744073709551616+l=d * t)/\Ext w w':=by
 obtain ⟨x,rfl⟩:=Int.eq_ofNat_of_zero_le d0;refine (zBF x t (by omega) ht w).mono ?_;rintro e w2 ⟨v,rfl,⟨h,l,rfl,h1,h2,h3⟩,e2⟩;exact ⟨h,l,rfl,h1,h2,by rw [<- Int.natCast_mul,<- h3];simp [Hid],e2⟩
theorem zBY {a b:Int} {c d:Bool} (h:a=b) (k:c=d):Ending.returned (.tuple #[iQ a,.bool c])=.returned (.tuple #[iQ b,.bool d]):=by rw [h,k]
theorem intI (n:Bool) (d e:Int) (w:World) (d1 : -9223372036854775808<=d) (d2:d<=9223372036854775807) (hT:Tens w) :
  Calls Tryz.prog 205 #[.agg #[.bool n,iQ d,iQ e]] w fun r w'=>r=.returned (.tuple #[iQ (intR n d e),.bool (zCA n d e)])/\Ext w w':=by
 go_enter Tryz.func205,Tryz.ntmps205;go_wp2_with fail;refine (zRG n d e _ d1 d2 (hT.l (x1 _ _))).mono ?_;rintro r w1 ⟨rfl,e1⟩;have B:=(Box3.made w (.bool n) (iQ d) (iQ e) 24).l e1;have T1:=(hT.l (x1 _ _)).l e1;have X1:=xt (x1 _ _) e1;have hs:w.heap.size<w1.heap.size:=World.block_lt_of_cell? _ _ B.1.1;clear e1 hT;have B':=B;obtain ⟨⟨p0,p1,p2⟩,f0,f1,f2⟩:=B';cases hg:zA1 n d e
 ·have H:=zJI hg;have H2:Hid (intR n d e=0):=zFQ H;have H1:Hid (zCA n d e=false):=H;clear H hg;go_wp2_with fail
  go_ret2
  exact ⟨zBY H2.out.symm H1.out.symm,X1⟩
 ·obtain ⟨g0,g1,g2⟩:=zBJ hg;clear g2;by_cases he:0<=e/\e<=19
  ·obtain ⟨i,rfl⟩:=Int.eq_ofNat_of_zero_le he.1;obtain ⟨t,et,t1,ct⟩:=T1.at (i:=i) (by omega);have i1:i<=19:=by omega
   have i2:(i:Int)<20:=by omega
   have HV:Hid (d * 10 ^ (i:Int).toNat=d * (t:Int)):=by rw [Int.toNat_natCast,<- et];simp [Hid]
   have HG:Hid (zA1 n d (i:Int)=true):=hg;have i0:(0:Int)<=(i:Int):=by omega
   have hwd:IntKind.u64.wrap d=d:=by rw [IntKind.wrap_u64];omega
   have ne0:=World.new_ne w1 _ p0;have ne1:=World.new_ne w1 _ p1;have ne2:=World.new_ne w1 _ p2;have ne3:=World.new_ne w1 _ ct;have CT:∀ {w2:World},Ext w1 w2->w2.cell? ⟨2,i,none⟩=some (.int .u64 t):=fun x=>cell_later x ct;clear hg he et T1 d1 d2;go_wp2_with fail;go_cut [4] (fun v wc=>∃ b h l:Nat,v=.pointer (some ⟨b,0,none⟩)/\Box2 wc b (.int .u64 h) (.int .u64 l)/\h<18446744073709551616/\l<18446744073709551616/\Hid ((h:Int) * 18446744073709551616+l=d * t)/\Ext w1 wc)
   case first =>
    go_region_held3 (fun w'=>(w'.cell? ⟨w.heap.size,0,none⟩=some (.bool n)/\w'.cell? ⟨w.heap.size,1,none⟩=some (iQ d)/\w'.cell? ⟨w.heap.size,2,none⟩=some (iQ i))/\w'.cell? ⟨2,i,none⟩=some (.int .u64 t)) (go_keep) (first
     | (go_at_call 191;refine (zK7 d t g0 g1 t1 _).mono ?_;rintro e w2 ⟨h,l,rfl,h1,h2,H3,e2⟩;have X2:Ext w1 w2:=xt (by first | exact xd (xr _) | exact xa (xd (xr _)) _ | exact xd (xa (xr _) _) | exact xa (xr _) _ | exact xr _) e2;obtain ⟨⟨k0,k1,k2⟩,_⟩:=B.l X2;have k3:=CT X2;(first | (have RB:Box2 w2 w1.heap.size (.int .u64 0) (.int .u64 0):=(by exact (Box2.made w1 (.int .u64 0) (.int .u64 0) 118).l (xt (xd (xr _)) e2));obtain ⟨⟨r0,r1⟩,s0,s1⟩:=RB) | skip)))
    ·go_wp2_with fail;go_meet
     case rel=>exact ⟨_,h,l,rfl,Box2.made w2 _ _ _,h1,h2,H3,xa X2 _⟩
    ·go_wp2_with fail;go_meet
     case rel =>
      refine ⟨_,h,l,rfl,?_,h1,h2,H3,xset (xset X2 (Nat.le_refl _) _) (Nat.le_refl _) _⟩;refine ⟨⟨?_,?_⟩,?_,?_⟩ <;> simp [go_sem,r0,r1,s0,s1]
   case rest =>
    obtain ⟨b,h,l,rfl,B2,h1,h2,h3,X2⟩:=hcut;obtain ⟨⟨q0,q1⟩,_⟩:=B2;obtain ⟨⟨k0,k1,k2⟩,_⟩:=B.l X2;by_cases hok:d * (t:Int)<=9223372036854775807
    ·obtain rfl:h=0:=(by have:=h3.out;omega);have hl:(l:Int)<=9223372036854775807:=(by have:=h3.out;omega);have H:=zJH HG.out ⟨i0,by omega,by rw [HV.out];exact hok⟩;have H1:Hid (zCA n d i=true):=H;have H2:Hid (intR n d i=sgn n (l:Int)):=by
      rw [zLH H,HV.out];have e3:d * (t:Int)=l:=(by have:=h3.out;omega);rw [e3];rfl
     clear H hok h3 CT ne0 ne1 ne2 ne3 f0 f1 f2 p0 p1 p2 g0 g1 hwd ct;cases n
     ·go_wp2_with fail
      go_ret2
      exact ⟨zBY H2.out.symm H1.out.symm,xt X1 X2⟩
     ·go_wp2_with fail
      go_ret2
      exact ⟨zBY H2.out.symm H1.out.symm,xt X1 X2⟩
    ·have H:=zF8 (n:=n) (d:=d) (e:=(i:Int)) (fun hh=>hok (by rw [<- HV.out];exact hh.2.2));have H1:Hid (zCA n d i=false):=H;have H2:Hid (intR n d i=0):=zFQ H;by_cases hh:h=0
     ·subst hh;have hl:9223372036854775807<(l:Int):=(by have:=h3.out;omega);clear H hok h3 CT ne0 ne1 ne2 ne3 f0 f1 f2 p0 p1 p2 g0 g1 hwd ct;go_wp2_with fail
      go_ret2
      exact ⟨zBY H2.out.symm H1.out.symm,xt X1 X2⟩
     ·have hh':((h:Int) == 0)=false:=(by rw [beq_eq_false_iff_ne];omega);clear H hok h3 CT ne0 ne1 ne2 ne3 f0 f1 f2 p0 p1 p2 g0 g1 hwd ct;go_wp2_with fail
      go_ret2
      exact ⟨zBY H2.out.symm H1.out.symm,xt X1 X2⟩
  ·have H:=zF8 (n:=n) (d:=d) (e:=e) (fun h=>he ⟨h.1,h.2.1⟩);have H2:Hid (intR n d e=0):=zFQ H;have H1:Hid (zCA n d e=false):=H;clear H hg;by_cases h0:e<0
   ·clear he;go_wp2_with fail
    go_ret2
    exact ⟨zBY H2.out.symm H1.out.symm,X1⟩
   ·have h19:19<e:=(by omega);clear he;go_wp2_with fail
    go_ret2
    exact ⟨zBY H2.out.symm H1.out.symm,X1⟩
theorem Vec.putT {w:World} {b:Nat} {v0 v1 v2:Value} (h:Vec w b [v0,v1,v2]) (u0 u1 u2:Value):Vec (((w.setCell ⟨b,0,none⟩ u0).setCell ⟨b,1,none⟩ u1).setCell ⟨b,2,none⟩ u2) b [u0,u1,u2]:=
 ((h.put 0 (by simp) u0).put 1 (by simp) u1).put 2 (by simp) u2
theorem zVQ (n:Bool) (d e:Int) (n':Bool) (d' e':Int) (w:World) (ga:zA1 n d e=true) (gb:zA1 n' d' e'=true) (hT:Tens w) :
  Calls Tryz.prog 160 #[decV n d e,decV n' d' e'] w fun rr w'=>rr=.returned (zAS n d e n' d' e')/\Ext w w':=by
 have gA:=zC2 ga;have gB:=zC2 gb;have a1 : -9223372036854775808<=d:=by omega
 have a2:d<=9223372036854775807:=by omega
 have b1 : -9223372036854775808<=d':=by omega
 have b2:d'<=9223372036854775807:=by omega
 have GA:Hid (d=0->e=0/\n=false):=gA.2.2.2.2.1;have GB:Hid (d'=0->e'=0/\n'=false):=gB.2.2.2.2.1;clear ga gb gA gB;obtain ⟨ok,hok⟩:=nm (zCA n' d' e');obtain ⟨iz,hiz⟩:=nm (intR n' d' e');have HI:Hid (∀ W,Tens W->Calls Tryz.prog 205 #[decV n' d' e'] W fun r w'=>r=.returned (.tuple #[iQ iz,.bool ok])/\Ext W w'):=fun W hW=>by rw [<- hok,<- hiz];exact intI n' d' e' W b1 b2 hW
 have HK:Hid (zCA n' d' e'=ok):=hok;have HZ:Hid (intR n' d' e'=iz):=hiz;clear hok hiz b1 b2;obtain ⟨R,hR⟩:=nm (zAS n d e n' d' e');have HR0:Hid (zAS n d e n' d' e'=R):=hR;rw [hR];clear hR;obtain ⟨u0,u1,u2,u3,h0,h1,h2,h3,s0,s1,s2,s3,B0,B1,B2,B3,X⟩:=mkB4 w [.bool n,iQ d,iQ e] [.bool n',iQ d',iQ e'] [iQ 0,.bool false,iQ 0,iQ 0,sV []] [.bool false,iQ 0,iQ 0] 24 24 26 24;obtain ⟨wz,hz⟩:=nm (u3);rw [hz] at h3 s3 B0 B1 B2 B3 X;clear hz;have BQ:=B3.putT (.bool false) (iQ 5) (iQ (-1));have XQ:Ext w (((wz.setCell ⟨w.heap.size+1+1+1,0,none⟩ (.bool false)).setCell ⟨w.heap.size+1+1+1,1,none⟩ (iQ 5)).setCell ⟨w.heap.size+1+1+1,2,none⟩ (iQ (-1))):=xset (xset (xset X (by simp only;omega) _) (by simp only;omega) _) (by simp only;omega) _;have D0:=Vec.farL (k:=w.heap.size+1+1+1) (by omega) [.bool false,iQ 5,iQ (-1)] 0 B0;have D1:=Vec.farL (k:=w.heap.size+1+1+1) (by omega) [.bool false,iQ 5,iQ (-1)] 0 B1;have D2:=Vec.farL (k:=w.heap.size+1+1+1) (by omega) [.bool false,iQ 5,iQ (-1)] 0 B2;obtain ⟨wq,hq⟩:=nm (((wz.setCell ⟨w.heap.size+1+1+1,0,none⟩ (.bool false)).setCell ⟨w.heap.size+1+1+1,1,none⟩ (iQ 5)).setCell ⟨w.heap.size+1+1+1,2,none⟩ (iQ (-1)));change Vec (((wz.setCell ⟨w.heap.size+1+1+1,0,none⟩ (.bool false)).setCell ⟨w.heap.size+1+1+1,1,none⟩ (iQ 5)).setCell ⟨w.heap.size+1+1+1,2,none⟩ (iQ (-1))) _ _ at D0 D1 D2;rw [hq] at BQ XQ D0 D1 D2;obtain ⟨z0,z1,z2⟩:=B3.three;obtain ⟨y0,y1,y2⟩:=B3.threeF;clear B0 B1 B2 B3 X;obtain ⟨a0,a1,a2⟩:=Vec.three (D0);obtain ⟨c0,c1,c2⟩:=Vec.three (D1);obtain ⟨p0,p1,p2⟩:=Vec.three (BQ);go_enter Tryz.func160,Tryz.ntmps160;go_wp2_with fail;clear h0 h1 h2 h3 s0 s1 s2 s3 hq z0 z1 z2 y0 y1 y2 a0 a1 a2 c0 c1 c2 p0 p1 p2;refine (HI.out wq (hT.l XQ)).mono ?_;rintro rr w1 ⟨rfl,e1⟩;have E0:=D0.l e1;have E1:=D1.l e1;have E2:=D2.l e1;have EQ:=BQ.l e1;have X1:=xt XQ e1;clear D0 D1 D2 BQ XQ HI e1;obtain ⟨a0,a1,a2⟩:=Vec.three (E0);obtain ⟨c0,c1,c2⟩:=Vec.three (E1);obtain ⟨p0,p1,p2⟩:=Vec.three (EQ);clear E0 E1 EQ;by_cases h0:d=0
 ·obtain ⟨q1,q2⟩:=GA.out h0;subst h0 q1 q2;by_cases h1:d'=0
  ·obtain ⟨q1,q2⟩:=GB.out h1;subst h1 q1 q2;have HR:Hid (evV zA3=R):=by show _=_;rw [<- HR0.out];unfold zAS;rw [if_pos ⟨rfl,rfl⟩]
   go_wp2_with fail;clear a0 a1 a2 c0 c1 c2 p0 p1 p2;refine (zDL zA3 w1).mono ?_;rintro rr w2 ⟨rfl,e2⟩;obtain ⟨wy,hy,FX,⟨b0,b1,b2,b3,b4⟩,⟨fb0,fb1,fb2,fb3,fb4⟩,fd0,fd1,fd2,fd3,fd4⟩:=fin5 (E2.l e2) (xt X1 e2) (by omega) 4 false 0 0 zA3;go_wp2_with fail;exact bodyPost_ret (v:=valV 4 false 0 0 zA3) (by simp [results,Tryz.results160,go_sem,fd0,fd1,fd2,fd3,fd4]) rfl ⟨congrArg Ending.returned HR.out,FX⟩
  ·have hd:(d' == 0)=false:=by simpa using h1
   cases n'
   ·cases ok
    ·by_cases hh:zDK false d' e'=true
     ·obtain ⟨q1,q2⟩:d'=5/\e' = -1:=(by simpa [zDK] using hh);subst q1 q2;have HR:Hid (putV (zDF false 0 0)=R):=(by show _=_;rw [<- HR0.out];unfold zAS;rw [if_neg (by simp),if_neg (by simp),if_neg (by rw [HK.out];simp),if_pos hh]);obtain ⟨k2,n2,d2,x2,t2,hv⟩:=zC1 (zDF false 0 0);have HV:Hid (putV (zDF false 0 0)=valV k2 n2 d2 x2 t2):=hv;have HR3:Hid (valV k2 n2 d2 x2 t2=R):=(by show _=_;rw [<- hv];exact HR.out);clear hv;go_wp2_with fail;clear a0 a1 a2 c0 c1 c2 p0 p1 p2;refine (zS7 false 0 0 a1 a2 w1 (hT.l X1)).mono ?_;rintro rr w2 ⟨rfl,e2⟩;go_wp2_with fail;refine (zJ9 (zDF false 0 0) w2).mono ?_;rintro rr w3 ⟨rfl,e3⟩;rw [HV.out];obtain ⟨wy,hy,FX,⟨b0,b1,b2,b3,b4⟩,⟨fb0,fb1,fb2,fb3,fb4⟩,fd0,fd1,fd2,fd3,fd4⟩:=fin5 ((E2.l e2).l e3) (xt (xt X1 e2) e3) (by omega) k2 n2 d2 x2 t2;go_wp2_with fail;exact bodyPost_ret (v:=valV k2 n2 d2 x2 t2) (by simp [results,Tryz.results160,go_sem,fd0,fd1,fd2,fd3,fd4]) rfl ⟨congrArg Ending.returned HR3.out,FX⟩
     ·have HR:Hid (evV zA3=R):=(by show _=_;rw [<- HR0.out];unfold zAS;rw [if_neg (by simp [h1]),if_neg (by simp),if_neg (by rw [HK.out];simp),if_neg hh]);have hh2:d' ≠ 5\/(d'=5/\e' ≠ -1):=by
       by_cases hd:d'=5
       ·exact Or.inr ⟨hd,fun hx=>hh (by simp [zDK,hd,hx])⟩
       ·exact Or.inl hd
      clear hh HR0
      rcases hh2 with hd5 | ⟨hd5,he1⟩
      ·have hd6:(d' == 5)=false:=(by simpa using hd5);go_wp2_with fail;clear a0 a1 a2 c0 c1 c2 p0 p1 p2;refine (zDL zA3 w1).mono ?_;rintro rr w2 ⟨rfl,e2⟩;obtain ⟨wy,hy,FX,⟨b0,b1,b2,b3,b4⟩,⟨fb0,fb1,fb2,fb3,fb4⟩,fd0,fd1,fd2,fd3,fd4⟩:=fin5 (E2.l e2) (xt X1 e2) (by omega) 4 false 0 0 zA3;go_wp2_with fail;exact bodyPost_ret (v:=valV 4 false 0 0 zA3) (by simp [results,Tryz.results160,go_sem,fd0,fd1,fd2,fd3,fd4]) rfl ⟨congrArg Ending.returned HR.out,FX⟩
      ·subst hd5;have he6:(e' == -1)=false:=(by simpa using he1);go_wp2_with fail;clear a0 a1 a2 c0 c1 c2 p0 p1 p2;refine (zDL zA3 w1).mono ?_;rintro rr w2 ⟨rfl,e2⟩;obtain ⟨wy,hy,FX,⟨b0,b1,b2,b3,b4⟩,⟨fb0,fb1,fb2,fb3,fb4⟩,fd0,fd1,fd2,fd3,fd4⟩:=fin5 (E2.l e2) (xt X1 e2) (by omega) 4 false 0 0 zA3;go_wp2_with fail;exact bodyPost_ret (v:=valV 4 false 0 0 zA3) (by simp [results,Tryz.results160,go_sem,fd0,fd1,fd2,fd3,fd4]) rfl ⟨congrArg Ending.returned HR.out,FX⟩
    ·have HR:Hid (putV (powR false 0 0 iz)=R):=(by show _=_;rw [<- HR0.out];unfold zAS;rw [if_neg (by simp [h1]),if_neg (by simp),if_pos (by rw [HK.out]),HZ.out]);obtain ⟨k2,n2,d2,x2,t2,hv⟩:=zC1 (powR false 0 0 iz);have HV:Hid (putV (powR false 0 0 iz)=valV k2 n2 d2 x2 t2):=hv;have HR3:Hid (valV k2 n2 d2 x2 t2=R):=(by show _=_;rw [<- hv];exact HR.out);clear hv;go_wp2_with fail;clear a0 a1 a2 c0 c1 c2 p0 p1 p2;refine (powI false 0 0 iz w1 a1 a2 (hT.l X1)).mono ?_;rintro rr w2 ⟨rfl,e2⟩;go_wp2_with fail;refine (zJ9 (powR false 0 0 iz) w2).mono ?_;rintro rr w3 ⟨rfl,e3⟩;rw [HV.out];obtain ⟨wy,hy,FX,⟨b0,b1,b2,b3,b4⟩,⟨fb0,fb1,fb2,fb3,fb4⟩,fd0,fd1,fd2,fd3,fd4⟩:=fin5 ((E2.l e2).l e3) (xt (xt X1 e2) e3) (by omega) k2 n2 d2 x2 t2;go_wp2_with fail;exact bodyPost_ret (v:=valV k2 n2 d2 x2 t2) (by simp [results,Tryz.results160,go_sem,fd0,fd1,fd2,fd3,fd4]) rfl ⟨congrArg Ending.returned HR3.out,FX⟩
   ·have HR:Hid (evV divT=R):=(by show _=_;rw [<- HR0.out];unfold zAS;rw [if_neg (by simp [h1]),if_pos ⟨rfl,rfl⟩]);go_wp2_with fail;clear a0 a1 a2 c0 c1 c2 p0 p1 p2;refine (zDL divT w1).mono ?_;rintro rr w2 ⟨rfl,e2⟩;obtain ⟨wy,hy,FX,⟨b0,b1,b2,b3,b4⟩,⟨fb0,fb1,fb2,fb3,fb4⟩,fd0,fd1,fd2,fd3,fd4⟩:=fin5 (E2.l e2) (xt X1 e2) (by omega) 4 false 0 0 divT;go_wp2_with fail;exact bodyPost_ret (v:=valV 4 false 0 0 divT) (by simp [results,Tryz.results160,go_sem,fd0,fd1,fd2,fd3,fd4]) rfl ⟨congrArg Ending.returned HR.out,FX⟩
 ·have hd0:(d == 0)=false:=by simpa using h0
  cases ok
  ·by_cases hh:zDK n' d' e'=true
   ·obtain ⟨q0,q1,q2⟩:n'=false/\d'=5/\e' = -1:=(by simpa [zDK,and_assoc] using hh);subst q0 q1 q2;have HR:Hid (putV (zDF n d e)=R):=(by show _=_;rw [<- HR0.out];unfold zAS;rw [if_neg (by simp),if_neg (by simp),if_neg (by rw [HK.out];simp),if_pos hh]);obtain ⟨k2,n2,d2,x2,t2,hv⟩:=zC1 (zDF n d e);have HV:Hid (putV (zDF n d e)=valV k2 n2 d2 x2 t2):=hv;have HR3:Hid (valV k2 n2 d2 x2 t2=R):=(by show _=_;rw [<- hv];exact HR.out);clear hv;go_wp2_with fail;clear a0 a1 a2 c0 c1 c2 p0 p1 p2;refine (zS7 n d e a1 a2 w1 (hT.l X1)).mono ?_;rintro rr w2 ⟨rfl,e2⟩;go_wp2_with fail;refine (zJ9 (zDF n d e) w2).mono ?_;rintro rr w3 ⟨rfl,e3⟩;rw [HV.out];obtain ⟨wy,hy,FX,⟨b0,b1,b2,b3,b4⟩,⟨fb0,fb1,fb2,fb3,fb4⟩,fd0,fd1,fd2,fd3,fd4⟩:=fin5 ((E2.l e2).l e3) (xt (xt X1 e2) e3) (by omega) k2 n2 d2 x2 t2;go_wp2_with fail;exact bodyPost_ret (v:=valV k2 n2 d2 x2 t2) (by simp [results,Tryz.results160,go_sem,fd0,fd1,fd2,fd3,fd4]) rfl ⟨congrArg Ending.returned HR3.out,FX⟩
   ·have HR:Hid (evV zA3=R):=(by show _=_;rw [<- HR0.out];unfold zAS;rw [if_neg (by simp [h0]),if_neg (by simp [h0]),if_neg (by rw [HK.out];simp),if_neg hh]);have hh2:n'=true\/(n'=false/\(d' ≠ 5\/(d'=5/\e' ≠ -1))):=by
     cases n'
     ·right;refine ⟨rfl,?_⟩;by_cases hd:d'=5
      ·exact Or.inr ⟨hd,fun hx=>hh (by simp [zDK,hd,hx])⟩
      ·exact Or.inl hd
     ·exact Or.inl rfl
    clear hh HR0
    rcases hh2 with hn | ⟨hn,hd5 | ⟨hd5,he1⟩⟩
    ·subst hn;go_wp2_with fail;clear a0 a1 a2 c0 c1 c2 p0 p1 p2;refine (zDL zA3 w1).mono ?_;rintro rr w2 ⟨rfl,e2⟩;obtain ⟨wy,hy,FX,⟨b0,b1,b2,b3,b4⟩,⟨fb0,fb1,fb2,fb3,fb4⟩,fd0,fd1,fd2,fd3,fd4⟩:=fin5 (E2.l e2) (xt X1 e2) (by omega) 4 false 0 0 zA3;go_wp2_with fail;exact bodyPost_ret (v:=valV 4 false 0 0 zA3) (by simp [results,Tryz.results160,go_sem,fd0,fd1,fd2,fd3,fd4]) rfl ⟨congrArg Ending.returned HR.out,FX⟩
    ·subst hn;have hd6:(d' == 5)=false:=(by simpa using hd5);go_wp2_with fail;clear a0 a1 a2 c0 c1 c2 p0 p1 p2;refine (zDL zA3 w1).mono ?_;rintro rr w2 ⟨rfl,e2⟩;obtain ⟨wy,hy,FX,⟨b0,b1,b2,b3,b4⟩,⟨fb0,fb1,fb2,fb3,fb4⟩,fd0,fd1,fd2,fd3,fd4⟩:=fin5 (E2.l e2) (xt X1 e2) (by omega) 4 false 0 0 zA3;go_wp2_with fail;exact bodyPost_ret (v:=valV 4 false 0 0 zA3) (by simp [results,Tryz.results160,go_sem,fd0,fd1,fd2,fd3,fd4]) rfl ⟨congrArg Ending.returned HR.out,FX⟩
    ·subst hn;subst hd5;have he6:(e' == -1)=false:=(by simpa using he1);go_wp2_with fail;clear a0 a1 a2 c0 c1 c2 p0 p1 p2;refine (zDL zA3 w1).mono ?_;rintro rr w2 ⟨rfl,e2⟩;obtain ⟨wy,hy,FX,⟨b0,b1,b2,b3,b4⟩,⟨fb0,fb1,fb2,fb3,fb4⟩,fd0,fd1,fd2,fd3,fd4⟩:=fin5 (E2.l e2) (xt X1 e2) (by omega) 4 false 0 0 zA3;go_wp2_with fail;exact bodyPost_ret (v:=valV 4 false 0 0 zA3) (by simp [results,Tryz.results160,go_sem,fd0,fd1,fd2,fd3,fd4]) rfl ⟨congrArg Ending.returned HR.out,FX⟩
  ·have HR:Hid (putV (powR n d e iz)=R):=by show _=_;rw [<- HR0.out];unfold zAS;rw [if_neg (by simp [h0]),if_neg (by simp [h0]),if_pos (by rw [HK.out]),HZ.out]
   obtain ⟨k2,n2,d2,x2,t2,hv⟩:=zC1 (powR n d e iz);have HV:Hid (putV (powR n d e iz)=valV k2 n2 d2 x2 t2):=hv;have HR3:Hid (valV k2 n2 d2 x2 t2=R):=by show _=_;rw [<- hv];exact HR.out
   clear hv;go_wp2_with fail;clear a0 a1 a2 c0 c1 c2 p0 p1 p2;refine (powI n d e iz w1 a1 a2 (hT.l X1)).mono ?_;rintro rr w2 ⟨rfl,e2⟩;go_wp2_with fail;refine (zJ9 (powR n d e iz) w2).mono ?_;rintro rr w3 ⟨rfl,e3⟩;rw [HV.out];obtain ⟨wy,hy,FX,⟨b0,b1,b2,b3,b4⟩,⟨fb0,fb1,fb2,fb3,fb4⟩,fd0,fd1,fd2,fd3,fd4⟩:=fin5 ((E2.l e2).l e3) (xt (xt X1 e2) e3) (by omega) k2 n2 d2 x2 t2;go_wp2_with fail;exact bodyPost_ret (v:=valV k2 n2 d2 x2 t2) (by simp [results,Tryz.results160,go_sem,fd0,fd1,fd2,fd3,fd4]) rfl ⟨congrArg Ending.returned HR3.out,FX⟩
theorem zG1 {k:Int} {n:Bool} {d x:Int} {t:List UInt8} (hg:zA4 k n d x t=true):∃ k2 n2 d2 x2,zDD k n d x t=valV k2 n2 d2 x2 (zCY k n d x t):=by
 unfold zDD;rw [if_pos hg];exact zDC k n d x t
theorem zP5 {a b:List UInt8} (ha:a.all zAC=true) (hb:b.all zAC=true):zA4 2 false 0 0 (a++b)=decide ((a++b).length<=1000):=by
 simp [zA4,zCR,zEO,ha,hb]
theorem zJR (a b:List UInt8):(⟨a.toArray⟩:ByteArray)++⟨b.toArray⟩=⟨(a++b).toArray⟩:=by
 apply ByteArray.ext;rw [ByteArray.data_append];simp
theorem zUF (k:Int) (n:Bool) (d x:Int) (t:List UInt8) (k':Int) (n':Bool) (d' x':Int) (t':List UInt8) (w:World) (hl:t.length<=2000000) (hl':t'.length<=2000000) (d1 : -9223372036854775808<=d) (d2:d<=9223372036854775807) (d1' : -9223372036854775808<=d') (d2':d'<=9223372036854775807) (hT:Tens w) (hE:zAH w) (hI:zEN w) (ga:zA4 k n d x t=true) (gb:zA4 k' n' d' x' t'=true) :
  Calls Tryz.prog 111 #[valV k n d x t,valV k' n' d' x' t'] w fun e w'=>e=.returned (zHJ k n d x t k' n' d' x' t')/\Ext w w':=by
 obtain ⟨ka,na,da,xa,hva⟩:=zG1 ga;obtain ⟨kb,nb,db,xb,hvb⟩:=zG1 gb;have SA:=zDG ga;have SB:=zDG gb;obtain ⟨R,hR⟩:=nm (zHJ k n d x t k' n' d' x' t');have HR0:Hid (zHJ k n d x t k' n' d' x' t'=R):=hR;rw [hR];clear hR;unfold zHJ at HR0;obtain ⟨ta,hta⟩:=nm (zCY k n d x t);obtain ⟨tb,htb⟩:=nm (zCY k' n' d' x' t');rw [hta] at HR0 SA hva;rw [htb] at HR0 SB hvb;have GJ:=zP5 SA.1 SB.1;have AJ:=zJR ta tb;have LJ:(ta++tb).length<=4000:=by rw [List.length_append];omega
 obtain ⟨J,hJ⟩:=nm (ta++tb);rw [hJ] at HR0 GJ AJ LJ;have HM:Hid (¬ maxLen<(⟨ta.toArray⟩:ByteArray).size+(⟨tb.toArray⟩:ByteArray).size):=by
  show ¬ maxLen<ta.length+tb.length;unfold maxLen;omega
 have CA:Hid (∀ W,Ext w W->Calls Tryz.prog 55 #[valV k n d x t] W fun e w'=>e=.returned (valV ka na da xa ta)/\Ext W w'):=fun W hW=>by rw [<- hva];exact zJZ k n d x t W hl d1 d2 (hT.l hW) (hE.l hW) (hI.l hW)
 have CB:Hid (∀ W,Ext w W->Calls Tryz.prog 55 #[valV k' n' d' x' t'] W fun e w'=>e=.returned (valV kb nb db xb tb)/\Ext W w'):=fun W hW=>by rw [<- hvb];exact zJZ k' n' d' x' t' W hl' d1' d2' (hT.l hW) (hE.l hW) (hI.l hW)
 have CG:Hid (∀ W,Ext w W->Calls Tryz.prog 34 #[valV 2 false 0 0 J] W fun e w'=>e=.returned (.bool (decide (J.length<=1000)))/\Ext W w'):=fun W hW=>by rw [<- GJ];exact zD6 2 false 0 0 J W (by omega) (by decide) (by decide) (hT.l hW) (hE.l hW)
 clear hva hvb SA SB GJ LJ hJ hta htb hT hE hI hl hl' d1 d2 d1' d2' ga gb;obtain ⟨u0,u1,u2,h0,h1,h2,s0,s1,s2,B0,B1,B2,X⟩:=mkB3 w [iQ k,.bool n,iQ d,iQ x,sV t] [iQ k',.bool n',iQ d',iQ x',sV t'] [iQ 0,.bool false,iQ 0,iQ 0,sV []] 26 26 26;obtain ⟨a0,a1,a2,a3,a4⟩:=Vec.five (B0);obtain ⟨c0,c1,c2,c3,c4⟩:=Vec.five (B1);go_enter Tryz.func111,Tryz.ntmps111;go_wp2_with fail;clear h0 s0 h1 s1 h2 s2 a0 a1 a2 a3 a4 c0 c1 c2 c3 c4;refine zA2 (fun lx:Nat->Value=>{ tmps:=#[valV k n d x t,valV k' n' d' x' t',Value.pointer (some ⟨w.heap.size,0,none⟩),Value.pointer (some ⟨w.heap.size+1,0,none⟩),Value.pointer (some ⟨w.heap.size+1+1,0,none⟩),lx 5,lx 6,lx 7,lx 8,lx 9,lx 10,lx 11,lx 12,lx 13,undef,undef,undef,undef,undef],defers:=[] }) (fun L lx lw=>Hid (Ext w lw/\Vec lw (w.heap.size) [iQ k,.bool n,iQ d,iQ x,sV t]/\Vec lw (w.heap.size+1) [iQ k',.bool n',iQ d',iQ x',sV t']/\Vec lw (w.heap.size+1+1) [iQ 0,.bool false,iQ 0,iQ 0,sV []]/\(L 0=true->lx 6=valV k n d x t)/\(L 1=true->lx 7=valV ka na da xa ta)/\(L 2=true->lx 8=sV ta)/\(L 3=true->lx 9=valV k' n' d' x' t')/\(L 4=true->lx 10=valV kb nb db xb tb)/\(L 5=true->lx 11=sV tb)/\(L 6=true->lx 12=sV J)/\(L 7=true->lx 13=valV 2 false 0 0 J)/\(L 8=true->∃ b,lx 5=.pointer (some ⟨b,0,none⟩)/\w.heap.size+1+1+1<=b/\(L 9=false->Vec lw b [iQ 0,.bool false,iQ 0,iQ 0,sV []])/\(L 9=true->Vec lw b [iQ 2,.bool false,iQ 0,iQ 0,sV J]))/\(L 9=true->L 8=true))) rfl (by kernel_rfl) (fun jj=>undef) rfl ?_ ?_ ?_
 ·exact ⟨xd X,B0.l (xd (xr _)),B1.l (xd (xr _)),B2.l (xd (xr _)),(fun h=>by cases h),(fun h=>by cases h),(fun h=>by cases h),(fun h=>by cases h),(fun h=>by cases h),(fun h=>by cases h),(fun h=>by cases h),(fun h=>by cases h),(fun h=>by cases h),(fun h=>by cases h)⟩
 ·intro L lx wl i o K hK ho hL haf hI;obtain ⟨X,f0,f1,f2,f3,f4,f5,f6,f7,f8,f9,f10,f11,f12⟩:=hI.out
  match i,ho,hL,haf,hK with
  | 0,ho,hL,haf,hK =>
   cases ho
   (try dsimp only)
   obtain ⟨a0,a1,a2,a3,a4⟩:=Vec.five (f0);go_wp2_with fail;exact hK (fun jj=>if jj=6 then valV k n d x t else lx jj) _ ⟨X,f0,f1,f2,(fun _=>rfl),f4,f5,f6,f7,f8,f9,f10,f11,f12⟩
  | 1,ho,hL,haf,hK =>
   cases ho
   (try dsimp only)
   rw [f3 (haf ⟨0,.data⟩ (by simp) rfl)];go_wp2_with fail;refine (CA.out wl X).mono ?_;rintro rr w' ⟨rfl,E⟩;go_wp2_with fail;exact hK (fun jj=>if jj=7 then valV ka na da xa ta else if jj=6 then valV k n d x t else lx jj) _ ⟨xt X E,(f0.l E),(f1.l E),(f2.l E),(fun _=>rfl),(fun _=>rfl),f5,f6,f7,f8,f9,f10,(fun h=>by obtain ⟨b,h1,h2,h3,h4⟩:=f11 h;exact ⟨b,h1,h2,fun h=>(h3 h).l E,fun h=>(h4 h).l E⟩),f12⟩
  | 2,ho,hL,haf,hK =>
   cases ho
   (try dsimp only)
   rw [f4 (haf ⟨1,.data⟩ (by simp) rfl)];have FT:=zD8 ka na da xa ta wl;go_wp2_with fail;exact hK (fun jj=>if jj=8 then sV ta else if jj=7 then valV ka na da xa ta else lx jj) _ ⟨X,f0,f1,f2,f3,(fun _=>rfl),(fun _=>rfl),f6,f7,f8,f9,f10,f11,f12⟩
  | 3,ho,hL,haf,hK =>
   cases ho
   (try dsimp only)
   obtain ⟨a0,a1,a2,a3,a4⟩:=Vec.five (f1);go_wp2_with fail;exact hK (fun jj=>if jj=9 then valV k' n' d' x' t' else lx jj) _ ⟨X,f0,f1,f2,f3,f4,f5,(fun _=>rfl),f7,f8,f9,f10,f11,f12⟩
  | 4,ho,hL,haf,hK =>
   cases ho
   (try dsimp only)
   rw [f6 (haf ⟨3,.data⟩ (by simp) rfl)];go_wp2_with fail;refine (CB.out wl X).mono ?_;rintro rr w' ⟨rfl,E⟩;go_wp2_with fail;exact hK (fun jj=>if jj=10 then valV kb nb db xb tb else if jj=9 then valV k' n' d' x' t' else lx jj) _ ⟨xt X E,(f0.l E),(f1.l E),(f2.l E),f3,f4,f5,(fun _=>rfl),(fun _=>rfl),f8,f9,f10,(fun h=>by obtain ⟨b,h1,h2,h3,h4⟩:=f11 h;exact ⟨b,h1,h2,fun h=>(h3 h).l E,fun h=>(h4 h).l E⟩),f12⟩
  | 5,ho,hL,haf,hK =>
   cases ho
   (try dsimp only)
   rw [f7 (haf ⟨4,.data⟩ (by simp) rfl)];have FT:=zD8 kb nb db xb tb wl;go_wp2_with fail;exact hK (fun jj=>if jj=11 then sV tb else if jj=10 then valV kb nb db xb tb else lx jj) _ ⟨X,f0,f1,f2,f3,f4,f5,f6,(fun _=>rfl),(fun _=>rfl),f9,f10,f11,f12⟩
  | 6,ho,hL,haf,hK =>
   cases ho
   (try dsimp only)
   rw [f5 (haf ⟨2,.data⟩ (by simp) rfl),f8 (haf ⟨5,.data⟩ (by simp) rfl)];have i1:¬ maxLen<(⟨ta.toArray⟩:ByteArray).size+(⟨tb.toArray⟩:ByteArray).size:=HM.out;go_wp2_with fail;exact hK (fun jj=>if jj=12 then sV J else if jj=8 then sV ta else if jj=11 then sV tb else lx jj) _ ⟨X,f0,f1,f2,f3,f4,(fun _=>rfl),f6,f7,(fun _=>rfl),(fun _=>rfl),f10,f11,f12⟩
  | 7,ho,hL,haf,hK =>
   cases ho
   (try dsimp only)
   rw [f9 (haf ⟨6,.data⟩ (by simp) rfl)];go_wp2_with fail;refine (zIW J wl).mono ?_;rintro rr w' ⟨rfl,E⟩;go_wp2_with fail;exact hK (fun jj=>if jj=13 then valV 2 false 0 0 J else if jj=12 then sV J else lx jj) _ ⟨xt X E,(f0.l E),(f1.l E),(f2.l E),f3,f4,f5,f6,f7,f8,(fun _=>rfl),(fun _=>rfl),(fun h=>by obtain ⟨b,h1,h2,h3,h4⟩:=f11 h;exact ⟨b,h1,h2,fun h=>(h3 h).l E,fun h=>(h4 h).l E⟩),f12⟩
  | 8,ho,hL,haf,hK =>
   cases ho
   (try dsimp only)
   have hst:L 9=true->False:=fun h=>by have:=f12 h;rw [hL] at this;cases this
   have E:=x1 wl (.cells #[iQ 0,.bool false,iQ 0,iQ 0,sV []] 26);go_wp2_with fail;exact hK (fun jj=>if jj=5 then .pointer (some ⟨wl.heap.size,0,none⟩) else lx jj) _ ⟨xt X E,(f0.l E),(f1.l E),(f2.l E),f3,f4,f5,f6,f7,f8,f9,f10,(fun _=>⟨wl.heap.size,rfl,by have:=show w.heap.size+1+1<wl.heap.size from World.block_lt_of_cell? _ _ (f2 0 _ rfl).1;omega,fun _=>zA5 wl [iQ 0,.bool false,iQ 0,iQ 0,sV []] _,fun h=>(hst h).elim⟩),(fun _=>rfl)⟩
  | 9,ho,hL,haf,hK =>
   cases ho
   (try dsimp only)
   have hmk:L 8=true:=haf ⟨8,.data⟩ (by simp) rfl;obtain ⟨b,eb',hb,hz,_⟩:=f11 hmk;have bx:=hz hL;rw [eb',f10 (haf ⟨7,.data⟩ (by simp) rfl)];obtain ⟨b0,b1,b2,b3,b4⟩:=Vec.five (bx);obtain ⟨fb0,fb1,fb2,fb3,fb4⟩:=Vec.fiveF (bx);have hX:=Ext.setL (b:=b) (by omega) [iQ 2,.bool false,iQ 0,iQ 0,sV J] 0 X;have hB:=bx.put5 (iQ 2) (.bool false) (iQ 0) (iQ 0) (sV J);go_wp2_with fail;exact hK (fun jj=>if jj=5 then .pointer (some ⟨b,0,none⟩) else if jj=13 then valV 2 false 0 0 J else lx jj) _ ⟨hX,(Vec.farL (k:=b) (by omega) [iQ 2,.bool false,iQ 0,iQ 0,sV J] 0 f0),(Vec.farL (k:=b) (by omega) [iQ 2,.bool false,iQ 0,iQ 0,sV J] 0 f1),(Vec.farL (k:=b) (by omega) [iQ 2,.bool false,iQ 0,iQ 0,sV J] 0 f2),f3,f4,f5,f6,f7,f8,f9,(fun _=>rfl),(fun _=>⟨b,rfl,hb,(fun h=>by cases h),fun _=>hB⟩),(fun _=>hmk)⟩
  | k+10,ho,_,_,_=>simp at ho
 ·intro L lx wr hall hI;obtain ⟨XR,f0,f1,f2,f3,f4,f5,f6,f7,f8,f9,f10,f11,f12⟩:=hI.out;clear hI;have G0:=f0;have G1:=f1;have G2:=f2;replace f3:=f3 (hall 0 (by simp));replace f4:=f4 (hall 1 (by simp));replace f5:=f5 (hall 2 (by simp));replace f6:=f6 (hall 3 (by simp));replace f7:=f7 (hall 4 (by simp));replace f8:=f8 (hall 5 (by simp));replace f9:=f9 (hall 6 (by simp));replace f10:=f10 (hall 7 (by simp));obtain ⟨bb,eb,lb,_,hz⟩:=f11 (hall 8 (by simp));have BN:=hz (hall 9 (by simp))
  (try dsimp only)
  rw [eb];rw [f3,f4,f5,f6,f7,f8,f9,f10];clear hall hz f0 f1 f2 f3 f4 f5 f6 f7 f8 f9 f10 f11 f12;have g0:=(BN 0 _ rfl).1;have g1:=(BN 1 _ rfl).1;have g2:=(BN 2 _ rfl).1;have g3:=(BN 3 _ rfl).1;have g4:=(BN 4 _ rfl).1;clear B0 B1 B2 CA CB G0 G1;go_wp2_with fail;clear g0 g1 g2 g3 g4;refine (CG.out wr XR).mono ?_;rintro e w1 ⟨rfl,e1⟩;have X1:=xt XR e1;by_cases hJL:J.length<=1000
  ·rw [decide_eq_true hJL];have HR:Hid (valV 2 false 0 0 J=R):=by show _=_;rw [<- HR0.out,if_pos hJL]
   clear HR0 hJL;have BN:=BN.l e1;obtain ⟨g0,g1,g2,g3,g4⟩:=Vec.five (BN);obtain ⟨wy,hy,FX,⟨b0,b1,b2,b3,b4⟩,⟨fb0,fb1,fb2,fb3,fb4⟩,fd0,fd1,fd2,fd3,fd4⟩:=fin5 (G2.l e1) (X1) (by omega) 2 false 0 0 J;go_wp2_with fail;exact bodyPost_ret (v:=valV 2 false 0 0 J) (by simp [results,Tryz.results111,go_sem,fd0,fd1,fd2,fd3,fd4]) rfl ⟨congrArg Ending.returned HR.out,FX⟩
  ·rw [decide_eq_false hJL];have HR:Hid (errW=R):=by show _=_;rw [<- HR0.out,if_neg hJL]
   clear HR0 hJL;go_wp2_with fail;refine (zDL errT w1).mono ?_;rintro e w2 ⟨rfl,e2⟩;obtain ⟨wy,hy,FX,⟨b0,b1,b2,b3,b4⟩,⟨fb0,fb1,fb2,fb3,fb4⟩,fd0,fd1,fd2,fd3,fd4⟩:=fin5 ((G2.l e1).l e2) (xt X1 e2) (by omega) 4 false 0 0 errT;go_wp2_with fail;exact bodyPost_ret (v:=valV 4 false 0 0 errT) (by simp [results,Tryz.results111,go_sem,fd0,fd1,fd2,fd3,fd4]) rfl ⟨congrArg Ending.returned HR.out,FX⟩
end Go.Proofs.YtkadkfmidlhedaaGreatDoor

