/-
  DrB, DrLaw in one.
-/
import Derived.Test.YtjlojlgdkfpcdaaGreatDoorMg18
set_option maxRecDepth 8000
set_option maxHeartbeats 4000000
namespace Go.Proofs.YtjlojlgdkfpcdaaGreatDoor
open Go.RowKit
theorem zLD {n:Bool} {d e:Int} (h:zA1 n d e=true) (hd:d=0):e=0/\n=false:=by
 unfold zA1 at h;rw [if_pos hd] at h;simp at h;exact ⟨h.2,h.1⟩
theorem zOY (k c:Nat):rndM k 0 c false=0:=by
 have t0:=zA7 c;have hr:zCL 0 c false=0:=by
  unfold zCL;rw [Nat.zero_mod];simp;omega
 unfold rndM;rw [hr,Nat.zero_div];have:zAV k (decide (0 % 2=1)) 0=false:=by unfold zAV;simp
 rw [this];simp
theorem zOX (n:Bool) (d e p m:Int) (w:World) (hb:(zA1 n d e && decide (-300<=p/\p<=300) && decide (0<=m/\m<=3))=false) :
  Calls Tryz.prog 84 #[.agg #[.bool n,iQ d,iQ e],iQ p,iQ m] w fun r w'=>r=.returned (resV badR)/\Ext w w':=by
 show Calls _ _ _ _ fun r w'=>r=.returned (.agg #[.bool false,.bool false,iQ 0,iQ 0])/\Ext w w';have X0:=xa (x1 w (.cells #[.bool n,iQ d,iQ e] 31)) (.cells #[.bool false,.bool false,iQ 0,iQ 0] 99);have Ba:=(Box3.made w (.bool n) (iQ d) (iQ e) 31).l (x1 _ (.cells #[.bool false,.bool false,iQ 0,iQ 0] 99));have Br:=Box4.made (w.alloc (.cells #[.bool n,iQ d,iQ e] 31)) (.bool false) (.bool false) (iQ 0) (iQ 0) 99;simp only [World.size_alloc] at Br;cases ga:zA1 n d e
 ·have GA:Hid (∀ w2,Calls Tryz.prog 76 #[.agg #[.bool n,iQ d,iQ e]] w2 fun e w'=>e=.returned (.bool false)/\Ext w2 w'):=fun w2=>zB5 false n d e w2 ga;clear ga hb;go_enter Tryz.func84,Tryz.ntmps84;go_wp2_with fail;refine (GA.out _).mono ?_;rintro rr w1 ⟨rfl,x1'⟩;obtain ⟨⟨m0,m1,m2,m3⟩,n0,n1,n2,n3⟩:=Br.l x1';go_wp2_with fail;exact bodyPost_ret (v:=.agg #[.bool false,.bool false,iQ 0,iQ 0]) (by simp [results,Tryz.results84,go_sem,m0,m1,m2,m3]) rfl ⟨rfl,xset (xset (xset (xset (xt X0 x1') (by simp only;omega) _) (by simp only;omega) _) (by simp only;omega) _) (by simp only;omega) _⟩
 ·have GA:Hid (∀ w2,Calls Tryz.prog 76 #[.agg #[.bool n,iQ d,iQ e]] w2 fun e w'=>e=.returned (.bool true)/\Ext w2 w'):=fun w2=>zB5 true n d e w2 ga;rw [ga,Bool.true_and] at hb;clear ga;by_cases h1:p < -300
  ·clear hb;go_enter Tryz.func84,Tryz.ntmps84;go_wp2_with fail;refine (GA.out _).mono ?_;rintro rr w1 ⟨rfl,x1'⟩;obtain ⟨⟨m0,m1,m2,m3⟩,n0,n1,n2,n3⟩:=Br.l x1';go_wp2_with fail;exact bodyPost_ret (v:=.agg #[.bool false,.bool false,iQ 0,iQ 0]) (by simp [results,Tryz.results84,go_sem,m0,m1,m2,m3]) rfl ⟨rfl,xset (xset (xset (xset (xt X0 x1') (by simp only;omega) _) (by simp only;omega) _) (by simp only;omega) _) (by simp only;omega) _⟩
  ·by_cases h2:p > 300
   ·clear hb;go_enter Tryz.func84,Tryz.ntmps84;go_wp2_with fail;refine (GA.out _).mono ?_;rintro rr w1 ⟨rfl,x1'⟩;obtain ⟨⟨m0,m1,m2,m3⟩,n0,n1,n2,n3⟩:=Br.l x1';go_wp2_with fail;exact bodyPost_ret (v:=.agg #[.bool false,.bool false,iQ 0,iQ 0]) (by simp [results,Tryz.results84,go_sem,m0,m1,m2,m3]) rfl ⟨rfl,xset (xset (xset (xset (xt X0 x1') (by simp only;omega) _) (by simp only;omega) _) (by simp only;omega) _) (by simp only;omega) _⟩
   ·by_cases h3:m<0
    ·clear hb;go_enter Tryz.func84,Tryz.ntmps84;go_wp2_with fail;refine (GA.out _).mono ?_;rintro rr w1 ⟨rfl,x1'⟩;obtain ⟨⟨m0,m1,m2,m3⟩,n0,n1,n2,n3⟩:=Br.l x1';go_wp2_with fail;exact bodyPost_ret (v:=.agg #[.bool false,.bool false,iQ 0,iQ 0]) (by simp [results,Tryz.results84,go_sem,m0,m1,m2,m3]) rfl ⟨rfl,xset (xset (xset (xset (xt X0 x1') (by simp only;omega) _) (by simp only;omega) _) (by simp only;omega) _) (by simp only;omega) _⟩
    ·have h4:m > 3:=by
      rw [decide_eq_true (⟨by omega,by omega⟩ : -300<=p/\p<=300),Bool.true_and,decide_eq_false_iff_not] at hb;omega
     clear hb;go_enter Tryz.func84,Tryz.ntmps84;go_wp2_with fail;refine (GA.out _).mono ?_;rintro rr w1 ⟨rfl,x1'⟩;obtain ⟨⟨m0,m1,m2,m3⟩,n0,n1,n2,n3⟩:=Br.l x1';go_wp2_with fail;exact bodyPost_ret (v:=.agg #[.bool false,.bool false,iQ 0,iQ 0]) (by simp [results,Tryz.results84,go_sem,m0,m1,m2,m3]) rfl ⟨rfl,xset (xset (xset (xset (xt X0 x1') (by simp only;omega) _) (by simp only;omega) _) (by simp only;omega) _) (by simp only;omega) _⟩
theorem zHK (n:Bool) (d e p m:Int) (w:World) (ga:zA1 n d e=true) (h1:¬ p < -300) (h2:¬ p > 300) (h3:¬ m<0) (h4:¬ m > 3) (hc:d=0 \/ -p - e<=0) :
  Calls Tryz.prog 84 #[.agg #[.bool n,iQ d,iQ e],iQ p,iQ m] w fun r w'=>r=.returned (resV ⟨true,n,d,e⟩)/\Ext w w':=by
 show Calls _ _ _ _ fun r w'=>r=.returned (.agg #[.bool true,.bool n,iQ d,iQ e])/\Ext w w';have X0:=xa (x1 w (.cells #[.bool n,iQ d,iQ e] 31)) (.cells #[.bool false,.bool false,iQ 0,iQ 0] 99);have Ba:=(Box3.made w (.bool n) (iQ d) (iQ e) 31).l (x1 _ (.cells #[.bool false,.bool false,iQ 0,iQ 0] 99));have Br:=Box4.made (w.alloc (.cells #[.bool n,iQ d,iQ e] 31)) (.bool false) (.bool false) (iQ 0) (iQ 0) 99;simp only [World.size_alloc] at Br;have GA:Hid (∀ w2,Calls Tryz.prog 76 #[.agg #[.bool n,iQ d,iQ e]] w2 fun e w'=>e=.returned (.bool true)/\Ext w2 w'):=fun w2=>zB5 true n d e w2 ga;obtain ⟨ga0,ga1,ga2,ga3⟩:=zCM ga;have wP:IntKind.i64.wrap (-p) = -p:=by rw [IntKind.wrap_i64];omega
 have wC:IntKind.i64.wrap (-p - e) = -p - e:=by rw [IntKind.wrap_i64];omega
 clear ga;by_cases hd:d=0
 ·have hd':(d == 0)=true:=by rw [hd];rfl
  clear hc;subst hd;go_enter Tryz.func84,Tryz.ntmps84;go_wp2_with fail;refine (GA.out _).mono ?_;rintro rr w1 ⟨rfl,x1'⟩;obtain ⟨⟨p0,p1,p2⟩,_⟩:=Ba.l x1';obtain ⟨⟨m0,m1,m2,m3⟩,n0,n1,n2,n3⟩:=Br.l x1';go_wp2_with fail;exact bodyPost_ret (v:=.agg #[.bool true,.bool n,iQ 0,iQ e]) (by simp [results,Tryz.results84,go_sem,m0,m1,m2,m3]) rfl ⟨rfl,xset (xset (xset (xset (xt X0 x1') (by simp only;omega) _) (by simp only;omega) _) (by simp only;omega) _) (by simp only;omega) _⟩
 ·have hd':(d == 0)=false:=by rw [beq_eq_false_iff_ne];exact hd
  have hc' : -p - e<=0:=by omega
  clear hc hd;go_enter Tryz.func84,Tryz.ntmps84;go_wp2_with fail;refine (GA.out _).mono ?_;rintro rr w1 ⟨rfl,x1'⟩;obtain ⟨⟨p0,p1,p2⟩,_⟩:=Ba.l x1';obtain ⟨⟨m0,m1,m2,m3⟩,n0,n1,n2,n3⟩:=Br.l x1';go_wp2_with fail;exact bodyPost_ret (v:=.agg #[.bool true,.bool n,iQ d,iQ e]) (by simp [results,Tryz.results84,go_sem,m0,m1,m2,m3]) rfl ⟨rfl,xset (xset (xset (xset (xt X0 x1') (by simp only;omega) _) (by simp only;omega) _) (by simp only;omega) _) (by simp only;omega) _⟩
theorem zRB (n:Bool) (d e p m:Int) (w:World) :
  Calls Tryz.prog 84 #[.agg #[.bool n,iQ d,iQ e],iQ p,iQ m] w fun r w'=>r=.returned (resV (zAB n d e p m))/\Ext w w':=by
 cases hb:(zA1 n d e && decide (-300<=p/\p<=300) && decide (0<=m/\m<=3))
 ·have hR:zAB n d e p m=badR:=by unfold zAB;rw [hb];rfl
  rw [hR];exact zOX n d e p m w hb
 ·have hR:zAB n d e p m=rndR n d e p m.toNat:=by unfold zAB;rw [hb];rfl
  rw [hR];simp only [Bool.and_eq_true,decide_eq_true_eq] at hb;obtain ⟨⟨ga,hp0,hp1⟩,hm0,hm1⟩:=hb;by_cases hc : -p - e<=0
  ·unfold rndR;rw [if_pos hc];exact zHK n d e p m w ga (by omega) (by omega) (by omega) (by omega) (Or.inr hc)
  ·obtain ⟨c,hcc⟩:∃ c:Nat,-p - e=(c:Int):=⟨(-p - e).toNat,by omega⟩;obtain ⟨A,rfl⟩:=Int.eq_ofNat_of_zero_le (zCM ga).1;by_cases hd:(A:Int)=0
   ·have hz:rndR n A e p m.toNat=⟨true,n,A,e⟩:=by
     unfold rndR;obtain ⟨he,hn⟩:=zLD ga hd;rw [if_neg hc,hd,show (0:Int).toNat=0 from rfl,zOY,zNG,he,hn]
    rw [hz];exact zHK n A e p m w ga (by omega) (by omega) (by omega) (by omega) (Or.inl hd)
   ·unfold rndR;rw [if_neg hc,hcc,Int.toNat_natCast,Int.toNat_natCast];exact zOW n A e p m c w ga (by omega) (by omega) (by omega) (by omega) (by omega) hcc (by omega)
end Go.Proofs.YtjlojlgdkfpcdaaGreatDoor

