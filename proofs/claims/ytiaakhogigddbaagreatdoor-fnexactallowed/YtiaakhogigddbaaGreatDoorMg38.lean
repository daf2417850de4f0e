/-
  Several texts in one: IntI, IntS.
-/
import Derived.Test.YtiaakhogigddbaaGreatDoorMg36
import Derived.Test.YtiaakhogigddbaaGreatDoorMg0
import Derived.Deep.RegionHeld3
import Derived.Deep.RegionWith
import Derived.Deep.DeepCutAuto
import Derived.Deep.CutBlock
import Derived.Test.YtiaakhogigddbaaGreatDoorMg18
import Derived.Test.YtiaakhogigddbaaGreatDoorMg25
import Derived.Test.YtiaakhogigddbaaGreatDoorMg9
namespace Go.Proofs.YtiaakhogigddbaaGreatDoor
open Go.RowKit
theorem product_int (d:Int) (t:Nat) (d0:0≤d) (d1:d<1000000000000000) (ht:t<18446744073709551616) (w:World) :
  Calls Tryz.prog 165 #[.int .u64 d,.int .u64 t] w fun e w'=>∃ h l:Nat,e=.returned (.agg #[.int .u64 h,.int .u64 l])∧h<18446744073709551616∧l<18446744073709551616∧Hid ((h:Int) * 18446744073709551616+l=d * t)∧Ext w w':=by
 obtain ⟨x,rfl⟩:=Int.eq_ofNat_of_zero_le d0;refine (product_any x t (by omega) ht w).mono ?_;rintro e w2 ⟨v,rfl,⟨h,l,rfl,h1,h2,h3⟩,e2⟩;exact ⟨h,l,rfl,h1,h2,by rw [← Int.natCast_mul,← h3];simp [Hid],e2⟩
theorem ret_two {a b:Int} {c d:Bool} (h:a=b) (k:c=d):Ending.returned (.tuple #[.int .i64 a,.bool c])=.returned (.tuple #[.int .i64 b,.bool d]):=by rw [h,k]
set_option maxRecDepth 8000 in
set_option maxHeartbeats 1000000 in
theorem intI (n:Bool) (d e:Int) (w:World) (d1 : -9223372036854775808≤d) (d2:d≤9223372036854775807) (hT:Tens w) :
  Calls Tryz.prog 167 #[.agg #[.bool n,.int .i64 d,.int .i64 e]] w fun r w'=>r=.returned (.tuple #[.int .i64 (intR n d e),.bool (intOk n d e)])∧Ext w w':=by
 go_enter Tryz.func167,Tryz.ntmps167;go_wp2_with fail;refine (goodI n d e _ d1 d2 (hT.later (x1 _ _))).mono ?_;rintro r w1 ⟨rfl,e1⟩;have B:=(Box3.made w (.bool n) (.int .i64 d) (.int .i64 e) 37).later e1;have T1:=(hT.later (x1 _ _)).later e1;have X1:=xt (x1 _ _) e1;have hs:w.heap.size<w1.heap.size:=World.block_lt_of_cell? _ _ B.1.1;clear e1 hT;have B':=B;obtain ⟨⟨p0,p1,p2⟩,f0,f1,f2⟩:=B';cases hg:goodB n d e
 ·have H:=intOk_bad hg;have H2:Hid (intR n d e=0):=intR_no H;have H1:Hid (intOk n d e=false):=H;clear H hg;go_wp2_with fail
  go_ret2
  exact ⟨ret_two H2.out.symm H1.out.symm,X1⟩
 ·obtain ⟨g0,g1,g2⟩:=good_range hg;clear g2;by_cases he:0≤e∧e≤19
  ·obtain ⟨i,rfl⟩:=Int.eq_ofNat_of_zero_le he.1;obtain ⟨t,et,t1,ct⟩:=T1.at (i:=i) (by omega);have i1:i≤19:=by omega
   have i2:(i:Int)<20:=by omega
   have HV:Hid (d * 10 ^ (i:Int).toNat=d * (t:Int)):=by rw [Int.toNat_natCast,← et];simp [Hid]
   have HG:Hid (goodB n d (i:Int)=true):=hg;have i0:(0:Int)≤(i:Int):=by omega
   have hwd:IntKind.u64.wrap d=d:=by rw [IntKind.wrap_u64];omega
   have ne0:=World.new_ne w1 _ p0;have ne1:=World.new_ne w1 _ p1;have ne2:=World.new_ne w1 _ p2;have ne3:=World.new_ne w1 _ ct;have CT:∀ {w2:World},Ext w1 w2→w2.cell? ⟨0,i,none⟩=some (.int .u64 t):=fun x=>cell_later x ct;clear hg he et T1 d1 d2;go_wp2_with fail;go_cut [4] (fun v wc=>∃ b h l:Nat,v=.pointer (some ⟨b,0,none⟩)∧Box2 wc b (.int .u64 h) (.int .u64 l)∧h<18446744073709551616∧l<18446744073709551616∧Hid ((h:Int) * 18446744073709551616+l=d * t)∧Ext w1 wc)
   case first =>
    go_region_held3 (fun w'=>(w'.cell? ⟨w.heap.size,0,none⟩=some (.bool n)∧w'.cell? ⟨w.heap.size,1,none⟩=some (.int .i64 d)∧w'.cell? ⟨w.heap.size,2,none⟩=some (.int .i64 i))∧w'.cell? ⟨0,i,none⟩=some (.int .u64 t)) (go_keep) (first
     | (go_at_call 165;refine (product_int d t g0 g1 t1 _).mono ?_;rintro e w2 ⟨h,l,rfl,h1,h2,H3,e2⟩;have X2:Ext w1 w2:=xt (by first | exact xd (xr _) | exact xa (xd (xr _)) _ | exact xd (xa (xr _) _) | exact xa (xr _) _ | exact xr _) e2;obtain ⟨⟨k0,k1,k2⟩,_⟩:=B.later X2;have k3:=CT X2;(first | (have RB:Box2 w2 w1.heap.size (.int .u64 0) (.int .u64 0):=(by exact (Box2.made w1 (.int .u64 0) (.int .u64 0) 136).later (xt (xd (xr _)) e2));obtain ⟨⟨r0,r1⟩,s0,s1⟩:=RB) | skip)))
    ·go_wp2_with fail;go_meet
     case rel=>exact ⟨_,h,l,rfl,Box2.made w2 _ _ _,h1,h2,H3,xa X2 _⟩
    ·go_wp2_with fail;go_meet
     case rel =>
      refine ⟨_,h,l,rfl,?_,h1,h2,H3,xset (xset X2 (Nat.le_refl _) _) (Nat.le_refl _) _⟩;refine ⟨⟨?_,?_⟩,?_,?_⟩ <;> simp [go_sem,r0,r1,s0,s1]
   case rest =>
    obtain ⟨b,h,l,rfl,B2,h1,h2,h3,X2⟩:=hcut;obtain ⟨⟨q0,q1⟩,_⟩:=B2;obtain ⟨⟨k0,k1,k2⟩,_⟩:=B.later X2;by_cases hok:d * (t:Int)≤9223372036854775807
    ·obtain rfl:h=0:=(by have:=h3.out;omega);have hl:(l:Int)≤9223372036854775807:=(by have:=h3.out;omega);have H:=intOk_yes HG.out ⟨i0,by omega,by rw [HV.out];exact hok⟩;have H1:Hid (intOk n d i=true):=H;have H2:Hid (intR n d i=sgn n (l:Int)):=by
      rw [intR_yes H,HV.out];have e3:d * (t:Int)=l:=(by have:=h3.out;omega);rw [e3];rfl
     clear H hok h3 CT ne0 ne1 ne2 ne3 f0 f1 f2 p0 p1 p2 g0 g1 hwd ct;cases n
     ·go_wp2_with fail
      go_ret2
      exact ⟨ret_two H2.out.symm H1.out.symm,xt X1 X2⟩
     ·go_wp2_with fail
      go_ret2
      exact ⟨ret_two H2.out.symm H1.out.symm,xt X1 X2⟩
    ·have H:=intOk_out (n:=n) (d:=d) (e:=(i:Int)) (fun hh=>hok (by rw [← HV.out];exact hh.2.2));have H1:Hid (intOk n d i=false):=H;have H2:Hid (intR n d i=0):=intR_no H;by_cases hh:h=0
     ·subst hh;have hl:9223372036854775807<(l:Int):=(by have:=h3.out;omega);clear H hok h3 CT ne0 ne1 ne2 ne3 f0 f1 f2 p0 p1 p2 g0 g1 hwd ct;go_wp2_with fail
      go_ret2
      exact ⟨ret_two H2.out.symm H1.out.symm,xt X1 X2⟩
     ·have hh':((h:Int) == 0)=false:=(by rw [beq_eq_false_iff_ne];omega);clear H hok h3 CT ne0 ne1 ne2 ne3 f0 f1 f2 p0 p1 p2 g0 g1 hwd ct;go_wp2_with fail
      go_ret2
      exact ⟨ret_two H2.out.symm H1.out.symm,xt X1 X2⟩
  ·have H:=intOk_out (n:=n) (d:=d) (e:=e) (fun h=>he ⟨h.1,h.2.1⟩);have H2:Hid (intR n d e=0):=intR_no H;have H1:Hid (intOk n d e=false):=H;clear H hg;by_cases h0:e<0
   ·clear he;go_wp2_with fail
    go_ret2
    exact ⟨ret_two H2.out.symm H1.out.symm,X1⟩
   ·have h19:19<e:=(by omega);clear he;go_wp2_with fail
    go_ret2
    exact ⟨ret_two H2.out.symm H1.out.symm,X1⟩
def maxT:ByteArray:=⟨#[57,50,50,51,51,55,50,48,51,54,56,53,52,55,55,53,56,48,55]⟩
theorem read_max (w:World):Calls Tryz.prog 119 #[.string ⟨#[57,50,50,51,51,55,50,48,51,54,56,53,52,55,55,53,56,48,55]⟩] w fun e w'=>∃ v',e=.returned v'∧ZV w' v' 9223372036854775807∧Ext w w':=by
 have h:=read_plain (s:=maxT) (ds:=[7,0,8,5,7,7,4,5,8,6,3,0,2,7,3,3,2,2,9]) w (by unfold Plain maxT;decide) (by unfold D10;decide) (by decide) (by decide);exact h
theorem int_abs {n:Bool} {d e:Int} (g:goodB n d e=true):((sgn n d * 10 ^ e.toNat).natAbs:Int)=d * 10 ^ e.toNat∧(sgn n d * 10 ^ e.toNat<0 ↔ n=true):=by
 obtain ⟨g0,_,g2⟩:=good_range g;have hp:(0:Int)<10 ^ e.toNat:=Int.pow_pos (by decide);generalize (10:Int) ^ e.toNat=p at *;have h1:0≤d * p:=Int.mul_nonneg g0 (by omega);cases n
 ·simp only [sgn];constructor
  ·simp;omega
  ·simp;omega
 ·have:0<d:=by
   by_cases hd:d=0
   ·have:=(g2 hd).2;cases this
   ·omega
  have h2:0<d * p:=Int.mul_pos this hp;simp only [sgn,if_true,Int.neg_mul];constructor
  ·omega
  ·simp;omega
theorem int_size {n:Bool} {d e:Int} (g0:0≤d) (g1:d<1000000000000000) (j0:0≤e) (j1:e≤20):((sgn n d * 10 ^ e.toNat).natAbs:Int)<1000000000 ^ 80:=by
 have h1:=fit_dec (neg:=n) 40 (by decide) g0 (by omega);have h2:=fit_ten (n:=e) 40 (by omega);rw [Int.natAbs_mul,Int.natCast_mul,show (80:Nat)=40+40 from rfl,Int.pow_add];have k0:=pos_pow 40;generalize (1000000000:Int) ^ 40=K at *;exact Int.lt_of_le_of_lt (Int.mul_le_mul_of_nonneg_left (Int.le_of_lt h2) (Int.natCast_nonneg _)) (Int.mul_lt_mul_of_pos_right h1 k0)
set_option maxRecDepth 8000 in
set_option maxHeartbeats 1000000 in
theorem intS (n:Bool) (d e:Int) (w:World) :
  Calls Tryz.prog 126 #[.agg #[.bool n,.int .i64 d,.int .i64 e]] w fun r w'=>r=.returned (.tuple #[.int .i64 (intR n d e),.bool (intOk n d e)])∧Ext w w':=by
 go_enter Tryz.func126,Tryz.ntmps126;go_wp2_with fail;refine (goodS n d e _).mono ?_;rintro r w1 ⟨rfl,e1⟩;have B:=(Box3.made w (.bool n) (.int .i64 d) (.int .i64 e) 37).later e1;have X1:=xt (x1 _ _) e1;clear e1;have B':=B;obtain ⟨⟨p0,p1,p2⟩,f0,f1,f2⟩:=B';cases hg:goodB n d e
 ·have H:=intOk_bad hg;have H2:Hid (intR n d e=0):=intR_no H;have H1:Hid (intOk n d e=false):=H;clear H hg;go_wp2_with fail
  go_ret2
  exact ⟨ret_two H2.out.symm H1.out.symm,X1⟩
 ·by_cases he:0≤e∧e≤20
  ·obtain ⟨g0,g1,g2⟩:=good_range hg;obtain ⟨j0,j1⟩:=he;have OF:Hid (∀ w2:World,Calls Tryz.prog 108 #[.agg #[.bool n,.int .i64 d,.int .i64 e]] w2 fun r w'=>∃ v',r=.returned v'∧ZV w' v' (sgn n d)∧Ext w2 w'):=fun w2=>of_any n d e w2 (by omega) (by omega);have TE:Hid (∀ w2:World,Calls Tryz.prog 109 #[.int .i64 e] w2 fun r w'=>∃ v',r=.returned v'∧ZV w' v' (10 ^ e.toNat)∧Ext w2 w'):=fun w2=>ten_int e w2 j0 (by omega);have MU:Hid (∀ (w2:World) (va vb:Value),ZV w2 va (sgn n d)→ZV w2 vb (10 ^ e.toNat)→Calls Tryz.prog 107 #[va,vb] w2 fun r w'=>∃ v',r=.returned v'∧ZV w' v' (sgn n d * 10 ^ e.toNat)∧Ext w2 w'):=fun w2 va vb ha hb=>mul_any w2 ha hb 40 (by decide) (fit_dec 40 (by decide) g0 (by omega)) (fit_ten 40 (by omega));have HZ:=int_size (n:=n) g0 g1 j0 j1;have TX:Hid (∀ (w2:World) (v:Value),ZV w2 v (sgn n d * 10 ^ e.toNat)→Calls Tryz.prog 156 #[v] w2 fun r w'=>∃ l,r=.returned (.string ⟨l.toArray⟩)∧TextOf l (sgn n d * 10 ^ e.toNat)∧Ext w2 w'):=fun w2 v hv=>text_any w2 hv 80 (by decide) HZ;clear HZ;have ne0:=World.new_ne w1 _ p0;have ne1:=World.new_ne w1 _ p1;have ne2:=World.new_ne w1 _ p2;have HG:Hid (goodB n d e=true):=hg;clear hg g0 g1 g2;go_wp2_with fail;go_cut [4] (fun v wc=>∃ (b:Nat) (a0:Int) (a1:Bool) (p:Option Addr) (m cap:Nat),v=.pointer (some ⟨b,0,none⟩)∧Box3 wc b (.int .i64 a0) (.bool a1) (.slice p m cap)∧ZV wc (.agg #[.int .i64 a0,.bool a1,.slice p m cap]) (sgn n d * 10 ^ e.toNat)∧Ext w1 wc)
   case first =>
    go_region_held3 (fun w'=>w'.cell? ⟨w.heap.size,0,none⟩=some (.bool n)∧w'.cell? ⟨w.heap.size,1,none⟩=some (.int .i64 d)∧w'.cell? ⟨w.heap.size,2,none⟩=some (.int .i64 e)) (go_keep)
     (first
      | (go_at_call 108;refine (OF.out _).mono ?_;rintro r w2 ⟨v2,rfl,z2,e2⟩;have X2:Ext w1 w2:=xt (by first | exact xd (xr _) | exact xd (x1 _ _) | exact xr _ | exact x1 _ _) e2;obtain ⟨⟨a20,a21,a22⟩,_⟩:=B.later X2;have nn2:=World.new_ne w2 _ a20;(first | (have RB:Box3 w2 w1.heap.size (.int .i64 0) (.bool false) (.slice none 0 0):=(by first | exact (Box3.made w1 (.int .i64 0) (.bool false) (.slice none 0 0) 110).later (xt (xd (xr _)) e2) | exact (Box3.made w1 (.int .i64 0) (.bool false) (.slice none 0 0) 110).later e2 | exact (Box3.made w1.drew (.int .i64 0) (.bool false) (.slice none 0 0) 110).later e2 | exact (Box3.made w1.drew (.int .i64 0) (.bool false) (.slice none 0 0) 110).later (xt (xd (xr _)) e2));have bb:w1.heap.size≤w1.heap.size:=Nat.le_refl _) | skip))
      | (go_at_call 109;refine (TE.out _).mono ?_;rintro r w3 ⟨v3,rfl,z3,e3⟩;have X3:Ext w2 w3:=xt (by first | exact xr _ | exact xd (xr _) | exact xd (x1 _ _) | exact x1 _ _ | exact xa (xd (xr _)) _) e3;obtain ⟨⟨a30,a31,a32⟩,_⟩:=B.later (xt X2 X3);have nn3:=World.new_ne w3 _ a30;(first | (have RB:=RB.later X3) | (have RB:Box3 w3 w2.heap.size (.int .i64 0) (.bool false) (.slice none 0 0):=(by first | exact (Box3.made w2 (.int .i64 0) (.bool false) (.slice none 0 0) 110).later (xt (xd (xr _)) e3) | exact (Box3.made w2 (.int .i64 0) (.bool false) (.slice none 0 0) 110).later e3 | exact (Box3.made w2.drew (.int .i64 0) (.bool false) (.slice none 0 0) 110).later e3 | exact (Box3.made w2.drew (.int .i64 0) (.bool false) (.slice none 0 0) 110).later (xt (xd (xr _)) e3));have bb:w1.heap.size≤w2.heap.size:=X2.size) | skip))
      | (go_at_call 107;refine (MU.out _ _ _ (z2.later (xt X3 (by first | exact xr _ | exact xd (xr _) | exact xd (x1 _ _) | exact x1 _ _ | exact xa (xd (xr _)) _))) (z3.later (by first | exact xr _ | exact xd (xr _) | exact xd (x1 _ _) | exact x1 _ _ | exact xa (xd (xr _)) _))).mono ?_;rintro r w4 ⟨v4,rfl,z4,e4⟩;have X4:Ext w3 w4:=xt (by first | exact xr _ | exact xd (xr _) | exact xd (x1 _ _) | exact x1 _ _ | exact xa (xd (xr _)) _) e4;obtain ⟨⟨a40,a41,a42⟩,_⟩:=B.later (xt (xt X2 X3) X4);have nn4:=World.new_ne w4 _ a40;obtain ⟨a0',a1',p',n',cap',rfl⟩:=z4.shape;(first | (have RB:=RB.later X4;obtain ⟨⟨r0,r1,r2⟩,s0,s1,s2⟩:=RB) | (have RB:Box3 w4 w3.heap.size (.int .i64 0) (.bool false) (.slice none 0 0):=(by first | exact (Box3.made w3 (.int .i64 0) (.bool false) (.slice none 0 0) 110).later (xt (xd (xr _)) e4) | exact (Box3.made w3 (.int .i64 0) (.bool false) (.slice none 0 0) 110).later e4 | exact (Box3.made w3.drew (.int .i64 0) (.bool false) (.slice none 0 0) 110).later e4 | exact (Box3.made w3.drew (.int .i64 0) (.bool false) (.slice none 0 0) 110).later (xt (xd (xr _)) e4));have bb:w1.heap.size≤w3.heap.size:=(xt X2 X3).size;obtain ⟨⟨r0,r1,r2⟩,s0,s1,s2⟩:=RB) | skip)))
    ·go_wp2_with fail;go_meet
     case rel=>exact ⟨_,a0',a1',p',n',cap',rfl,Box3.made w4 _ _ _ _,z4.later (x1 _ _),xa (xt (xt X2 X3) X4) _⟩
    all_goals
     go_wp2_with fail;go_meet
     case rel =>
      refine ⟨_,a0',a1',p',n',cap',rfl,?_,z4.set3 ⟨⟨r0,r1,r2⟩,s0,s1,s2⟩ _ _ _,Ext.set3 (xt (xt X2 X3) X4) bb _ _ _⟩;refine ⟨⟨?_,?_,?_⟩,?_,?_,?_⟩ <;> simp [go_sem,r0,r1,r2,s0,s1,s2]
   case rest =>
    obtain ⟨b,a0,a1,p,m,cap,rfl,B2,hz,X2⟩:=hcut;have HM:Hid ((sgn n d * 10 ^ e.toNat).natAbs=d * 10 ^ e.toNat∧(sgn n d * 10 ^ e.toNat<0 ↔ n=true)):=int_abs HG.out;obtain ⟨z,ez⟩:∃ z,sgn n d * 10 ^ e.toNat=z:=⟨_,rfl⟩;obtain ⟨M,eM⟩:∃ M,d * 10 ^ e.toNat=M:=⟨_,rfl⟩;have HL:Hid (M ≠ 9223372036854775808):=(by rw [← eM];exact int_least HG.out);have HX:Hid (e=20→9223372036854775807<M):=fun he=>(by rw [← eM];exact int_twenty HG.out he);rw [ez] at HM TX hz;rw [eM] at HM;have EZ:Hid (sgn n d * 10 ^ e.toNat=z∧d * 10 ^ e.toNat=M∧0≤e∧e≤20):=⟨ez,eM,j0,j1⟩;clear ez eM OF TE MU ne0 ne1 ne2 f0 f1 f2 p0 p1 p2;have B2':=B2;obtain ⟨⟨q0,q1,q2⟩,_⟩:=B2';go_wp2_with fail;refine (TX.out _ _ hz).mono ?_;rintro r w3 ⟨l,rfl,ht,e3⟩;clear TX q0 q1 q2;obtain ⟨⟨q0,q1,q2⟩,_⟩:=B2.later e3;go_wp2_with fail;refine (abs_any _ (hz.later e3)).mono ?_;rintro r w4 ⟨v4,rfl,z4,e4⟩;clear q0 q1 q2;go_wp2_with fail;refine (read_max _).mono ?_;rintro r w5 ⟨v5,rfl,z5,e5⟩;go_wp2_with fail;refine (cmp_any _ (z4.later e5) z5).mono ?_;rintro r w6 ⟨rfl,e6⟩;have X6:=xt (xt (xt (xt X2 e3) e4) e5) e6;have B6:=B.later X6;obtain ⟨⟨k0,k1,k2⟩,_⟩:=B6;clear z4 z5 hz B2 e3 e4 e5 e6 B;rw [HM.out.1];by_cases hM:M≤9223372036854775807
    ·have hc:cmpI M 9223372036854775807≤0:=(by unfold cmpI;split <;> (try split) <;> omega);have hc':¬ (0<cmpI M 9223372036854775807):=(by omega);obtain ⟨c,ec⟩:∃ c,cmpI M 9223372036854775807=c:=⟨_,rfl⟩;rw [ec] at hc hc';rw [ec];clear ec hc';obtain ⟨ds,hS,hlen⟩:=ht.signed (by rw [HM.out.1];exact hM);obtain ⟨s,hs⟩:∃ s:ByteArray,s=⟨l.toArray⟩:=⟨_,rfl⟩;rw [← hs] at hS;rw [← hs];clear hs ht;go_wp2_with fail;have hsz:=hS.size;have hl9:e≤19:=by
      have:=HX.out;have:=EZ.out.2.2.2;omega
     have H:=intOk_yes HG.out ⟨EZ.out.2.2.1,hl9,by rw [EZ.out.2.1];exact hM⟩;have H1:Hid (intOk n d e=true):=H;have H2:Hid (intR n d e=sgn n M):=(by rw [intR_yes H,EZ.out.2.1];rfl);have HV:Hid (dv ds=M):=(by rw [hS.2.1];exact HM.out.1);have hs20:s.size≤20:=(by rw [hsz];unfold sg;split <;> omega);clear H hl9 hlen
     go_loop [6,7] (fun a i=>(a=.int .i64 0∧i=.int .i64 0∧z<0)∨∃ k q:Nat,k≤ds.length∧q+k=s.size∧i=.int .i64 q∧a=.int .i64 (-dv (ds.drop k))) (fun _ i=>s.size - (intOf i).toNat)
     case atStart =>
      by_cases hz:z<0
      ·exact .inl ⟨rfl,rfl,hz⟩
      ·exact .inr ⟨ds.length,0,Nat.le_refl _,by rw [hsz];unfold sg;rw [if_neg hz],rfl,by rw [List.drop_length];rfl⟩
     case round =>
      rcases hrel with ⟨rfl,rfl,hz⟩ | ⟨k,q,hk,hq,rfl,rfl⟩
      ·have hs1:s.size=1+ds.length:=(by rw [hsz];unfold sg;rw [if_pos hz]);have hs0:0<s.size:=(by omega);have hb:=hS.minus hz hs0;clear hsz;go_wp2_with fail
       go_round
       case rel=>exact .inr ⟨ds.length,1,Nat.le_refl _,by omega,rfl,by rw [List.drop_length];rfl⟩
       case measure=>simp [intOf];omega
      ·by_cases h0:k=0
       ·subst h0;have hqs:q=s.size:=(by omega);have e1:dv (ds.drop 0)=M:=HV.out;rw [e1];have m0:0≤M:=(by rw [← HV.out];exact dv_nonneg hS.1);clear hsz hS hq e1;subst hqs;cases n
        ·go_wp2_with fail
         go_ret2
         exact ⟨ret_two (by rw [H2.out];simp [sgn]) H1.out.symm,xt X1 X6⟩
        ·go_wp2_with fail
         go_ret2
         exact ⟨ret_two (by rw [H2.out];simp [sgn]) H1.out.symm,xt X1 X6⟩
       ·obtain ⟨j,rfl⟩:∃ j,k=j+1:=⟨k - 1,by omega⟩;have hqs:q<s.size:=(by omega);have hqs':(q:Int)<(s.size:Int):=(by omega);have hq20:(q:Int)<20:=(by omega);have hb:=hS.at (p:=q) (k:=j) (by omega) (by omega) hqs;have hdj:=hS.1.getD j;have HS:Hid (_=_):=dv_drop ds j (by omega);have hA:=dv_drop_le hS.1 (j+1);have hA':=dv_drop_le hS.1 j;rw [HS.out,HV.out] at hA';obtain ⟨A,eA⟩:∃ A,dv (ds.drop (j+1))=A:=⟨_,rfl⟩;obtain ⟨g,eg⟩:∃ g,ds.getD j 0=g:=⟨_,rfl⟩;rw [eA] at HS hA hA';rw [eg] at HS hdj hb hA';rw [eA];obtain ⟨g0,g1⟩:=hdj;obtain ⟨A0,A5⟩:=hA;obtain ⟨A1,A2⟩:=hA';have A3:A * 10+g≤9223372036854775807:=(by omega);have hne:((48+g:Int) == 45)=false:=(by rw [beq_eq_false_iff_ne];omega);have NXT:Hid (∃ k' q':Nat,k'≤ds.length∧q'+k'=s.size∧Value.int .i64 ((q:Int)+1)=.int .i64 q'∧Value.int .i64 (-(A * 10+g))=.int .i64 (-dv (ds.drop k'))):=⟨j,q+1,by omega,by omega,by go_num,by rw [HS.out]⟩;clear eA eg hsz hS hk hq HS hM A1 A2 A5;go_wp2_with fail
        go_round
        case rel =>
         obtain ⟨k',q',n1,n2,n3,n4⟩:=NXT.out;refine .inr ⟨k',q',n1,n2,n3,?_⟩;rw [← n4]
         congr 1
         omega
        case measure=>simp [intOf];omega
    ·have hc:cmpI M 9223372036854775807=1:=(by unfold cmpI;rw [if_neg (by omega),if_pos (by omega)]);have hne:=text_least ht (fun hz=>HL.out (by have:=HM.out.1;omega));have hq:(l == [45,57,50,50,51,51,55,50,48,51,54,56,53,52,55,55,53,56,48,56])=false:=by
      rw [beq_eq_false_iff_ne];exact hne
     have H:=intOk_out (n:=n) (d:=d) (e:=e) (fun hh=>hM (by rw [← EZ.out.2.1];exact hh.2.2));have H2:Hid (intR n d e=0):=intR_no H;have H1:Hid (intOk n d e=false):=H;rw [hc];clear H ht hc hM hne;go_wp2_with fail
     go_ret2
     exact ⟨ret_two H2.out.symm H1.out.symm,xt X1 X6⟩
  ·have H:=intOk_out (n:=n) (d:=d) (e:=e) (fun h=>he ⟨h.1,by omega⟩);have H2:Hid (intR n d e=0):=intR_no H;have H1:Hid (intOk n d e=false):=H;clear H hg;by_cases h0:e<0
   ·clear he;go_wp2_with fail
    go_ret2
    exact ⟨ret_two H2.out.symm H1.out.symm,X1⟩
   ·have h20:20<e:=(by omega);clear he;go_wp2_with fail
    go_ret2
    exact ⟨ret_two H2.out.symm H1.out.symm,X1⟩
end Go.Proofs.YtiaakhogigddbaaGreatDoor

