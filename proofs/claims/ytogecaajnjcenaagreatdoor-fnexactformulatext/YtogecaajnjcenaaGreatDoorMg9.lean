/-
  Several texts in one: NumT, TxNum.
-/
import Derived.Test.YtogecaajnjcenaaGreatDoorMg7
import Derived.Test.YtogecaajnjcenaaGreatDoorMg8
import Derived.Test.YtogecaajnjcenaaGreatDoorMg6
import Derived.Lib.ItoaNum
namespace Go.Proofs.YtogecaajnjcenaaGreatDoor
open Go.RowKit
set_option maxRecDepth 4000 in
set_option maxHeartbeats 1000000 in
theorem add_small (a b:Int) (w:World) (a1 : -1000000000000000000<a) (a2:a<1000000000000000000) (b1 : -1000000000000000000<b) (b2:b<1000000000000000000) :
  Calls Tryz.prog 66 #[zS a,zS b] w fun e w'=>∃ v',e=.returned v'∧ZV w' v' (a+b)∧Ext w w':=by
 have sa:Hid (∀ w2:World,Calls Tryz.prog 99 #[zS a] w2 fun e w'=>e=.returned (.bool true)∧Ext w2 w'):=fun w2=>by
  have:=isSmall_any w2 (ZV.small a1 a2)
  rwa [smallB_true a1 a2] at this
 have sb:Hid (∀ w2:World,Calls Tryz.prog 99 #[zS b] w2 fun e w'=>e=.returned (.bool true)∧Ext w2 w'):=fun w2=>by
  have:=isSmall_any w2 (ZV.small b1 b2)
  rwa [smallB_true b1 b2] at this
 have Ba:=(Box3.made w (.int .i64 a) (.bool false) (.slice none 0 0) 134).later (xa (x1 _ (.cells #[.int .i64 b,.bool false,.slice none 0 0] 134)) (.cells #[.int .i64 0,.bool false,.slice none 0 0] 134));have Bb:=(Box3.made (w.alloc (.cells #[.int .i64 a,.bool false,.slice none 0 0] 134)) (.int .i64 b) (.bool false) (.slice none 0 0) 134).later (x1 _ (.cells #[.int .i64 0,.bool false,.slice none 0 0] 134));have Br:=Box3.made ((w.alloc (.cells #[.int .i64 a,.bool false,.slice none 0 0] 134)).alloc (.cells #[.int .i64 b,.bool false,.slice none 0 0] 134)) (.int .i64 0) (.bool false) (.slice none 0 0) 134;simp only [World.size_alloc] at Bb Br;go_enter Tryz.func66,Tryz.ntmps66;go_wp2_with fail;refine (sa.out _).mono ?_;rintro e w1 ⟨rfl,e1⟩;obtain ⟨⟨q0,q1,q2⟩,_⟩:=Bb.later e1;go_wp2_with fail;refine (sb.out _).mono ?_;rintro e w2 ⟨rfl,e2⟩;clear q0 q1 q2;have X2:=xt e1 e2;obtain ⟨⟨q0,q1,q2⟩,_⟩:=Bb.later X2;obtain ⟨⟨p0,p1,p2⟩,_⟩:=Ba.later X2;go_wp2_with fail;refine (small_any (a+b) _ (by omega) (by omega)).mono ?_;rintro e w3 ⟨v',rfl,hz,e3⟩;obtain ⟨a0',a1',p',n',cap',rfl⟩:=hz.shape;have X3:=xt X2 e3;have B4:=Br.later X3;have Hz:=hz.set3 B4 (.int .i64 a0') (.bool a1') (.slice p' n' cap');have Hx:=Ext.set3 (b:=w.heap.size+1+1) (xt (xa (xa (x1 _ _) _) _) X3) (by omega) (.int .i64 a0') (.bool a1') (.slice p' n' cap');obtain ⟨⟨r0,r1,r2⟩,s0,s1,s2⟩:=B4;clear p0 p1 p2 q0 q1 q2
 go_wp2
 exact bodyPost_ret (v:=.agg #[.int .i64 a0',.bool a1',.slice p' n' cap']) (by simp [results,Tryz.results66,go_sem,r0,r1,r2]) rfl ⟨_,rfl,Hz,Hx⟩
theorem add_smallZ {va vb:Value} {a b:Int} (w:World) (ha:ZV w va a) (hb:ZV w vb b) (sa:smallB a=true) (sb:smallB b=true) :
  Calls Tryz.prog 66 #[va,vb] w fun e w'=>∃ v',e=.returned v'∧ZV w' v' (a+b)∧Ext w w':=by
 obtain ⟨a1,a2,rfl⟩:=ha.small_of sa;obtain ⟨b1,b2,rfl⟩:=hb.small_of sb;exact add_small a b w a1 a2 b1 b2
set_option maxRecDepth 4000 in
set_option maxHeartbeats 1000000 in
theorem num_any (n:Int) (w:World) (n0:0≤n) (n1:n<1000000000000000) :
  Calls Tryz.prog 51 #[.int .i64 n] w fun e w'=>∃ l,e=.returned (.string ⟨l.toArray⟩)∧TextOf l n∧Ext w w':=by
 go_enter Tryz.func51,Tryz.ntmps51;go_wp2_with fail;refine (small_any (n / 10) _ (by omega) (by omega)).mono ?_;rintro e w1 ⟨v1,rfl,z1,e1⟩;go_wp2_with fail;refine (small_any 10 _ (by omega) (by omega)).mono ?_;rintro e w2 ⟨v2,rfl,z2,e2⟩;go_wp2_with fail;refine (mul_any _ (z1.later e2) z2 2 (by decide) (by omega) (by omega)).mono ?_;rintro e w3 ⟨v3,rfl,z3,e3⟩;go_wp2_with fail;refine (small_any (n % 10) _ (by omega) (by omega)).mono ?_;rintro e w4 ⟨v4,rfl,z4,e4⟩;go_wp2_with fail;refine (add_smallZ _ (z3.later e4) z4 (smallB_true (by omega) (by omega)) (smallB_true (by omega) (by omega))).mono ?_;rintro e w5 ⟨v5,rfl,z5,e5⟩;have en:n / 10 * 10+n % 10=n:=by omega
 rw [en] at z5;go_wp2_with fail;refine (text_any _ z5 2 (by decide) (by omega)).mono ?_;rintro e w6 ⟨l,rfl,ht,e6⟩
 go_wp2
 go_ret;exact ⟨l,rfl,ht,xt (xt (xt (xt (xt e1 e2) e3) e4) e5) e6⟩
end Go.Proofs.YtogecaajnjcenaaGreatDoor

namespace Go.Proofs.YtogecaajnjcenaaGreatDoor
theorem digs_dec:∀ (ds:List Int) (u:Int),Digs ds u→Lib.decDigits u.toNat=ds.reverse.map chr
 | [],_,h=>by have:=h.2.2.1;simp at this
 | [d],u,⟨h1,h2,_,_⟩=>by
  have hd:=h1 d (by simp);have hu:u=d:=by rw [← h2];simp [dv]
  subst hu;rw [Lib.decDigits,dif_pos (by omega)];simp only [List.reverse_singleton,List.map_singleton,chr]
  congr 2
  omega
 | d :: d' :: ds,u,⟨h1,h2,h3,h4⟩=>by
  have hd:=h1 d (by simp);have hD:Digs (d' :: ds) (dv (d' :: ds)):=by
   refine ⟨fun x hx=>h1 x (by simp only [List.mem_cons] at hx ⊢;exact .inr hx),rfl,by simp,?_⟩;simpa using h4
  have hge:=hD.ge;have hp:(0:Int)<10 ^ ((d' :: ds).length - 1):=Int.pow_pos (by decide);have ih:=digs_dec (d' :: ds) _ hD;have hu:u=d+10 * dv (d' :: ds):=by rw [← h2];rfl
  generalize dv (d' :: ds)=v at *;subst hu;rw [Lib.decDigits,dif_neg (by omega),List.reverse_cons,List.map_append,← ih];have e1:(d+10 * v).toNat / 10=v.toNat:=by omega
  have e2:(d+10 * v).toNat % 10=d.toNat:=by omega
  rw [e1,e2];simp only [List.map_singleton,chr]
  congr 2
  congr 1
  omega
theorem TextOf.dec {l:List UInt8} {z:Int} (h:TextOf l z) (h0:0≤z):l=Lib.decDigits z.toNat:=by
 rcases h with ⟨rfl,rfl⟩ | ⟨ds,h1,rfl⟩
 ·rw [Lib.decDigits,dif_pos (by decide)];rfl
 ·rw [if_neg (by omega),List.nil_append];have e:(z.natAbs:Int)=z:=by omega
  rw [e] at h1;exact (digs_dec ds z h1).symm
end Go.Proofs.YtogecaajnjcenaaGreatDoor

