/-
  DvB, DvLaw in one.
-/
import Derived.Test.YtkadkfmidlhedaaGreatDoorDvA
set_option maxRecDepth 8000
set_option maxHeartbeats 2000000
namespace Go.Proofs.YtkadkfmidlhedaaGreatDoor
open Go.RowKit
theorem zEY {n:Bool} {d e:Int} (h:zA1 n d e=true) (hd:d=0):e=0/\n=false:=by
 unfold zA1 at h;rw [if_pos hd] at h;simp at h;exact ⟨h.2,h.1⟩
theorem divI (na nb:Bool) (da ea db eb:Int) (w:World) (a1 : -9223372036854775808<=da) (a2:da<=9223372036854775807) (b1 : -9223372036854775808<=db) (b2:db<=9223372036854775807) (hT:Tens w) :
  Calls Tryz.prog 159 #[.agg #[.bool na,iQ da,iQ ea],.agg #[.bool nb,iQ db,iQ eb]] w fun r w'=>r=.returned (resV (divR na da ea nb db eb))/\Ext w w':=by
 by_cases hg:(zA1 na da ea && zA1 nb db eb && !(db == 0))=true
 ·unfold divR;rw [if_pos hg];simp only [Bool.and_eq_true,Bool.not_eq_true',beq_eq_false_iff_ne] at hg;obtain ⟨⟨ga,gb⟩,hd⟩:=hg;obtain ⟨A,rfl⟩:=Int.eq_ofNat_of_zero_le (zAN ga).1;obtain ⟨B,rfl⟩:=Int.eq_ofNat_of_zero_le (zAN gb).1;rw [Int.toNat_natCast,Int.toNat_natCast];exact zPO na nb A B ea eb w ga gb (by omega) hT
 ·have hR:divR na da ea nb db eb=⟨false,false,0,0⟩:=by unfold divR;rw [if_neg hg];rfl
  rw [hR];have X0:=xa (xa (x1 w (.cells #[.bool na,iQ da,iQ ea] 24)) (.cells #[.bool nb,iQ db,iQ eb] 24)) (.cells #[.bool false,.bool false,iQ 0,iQ 0] 79);have Ba:=(Box3.made w (.bool na) (iQ da) (iQ ea) 24).l (xa (x1 _ (.cells #[.bool nb,iQ db,iQ eb] 24)) (.cells #[.bool false,.bool false,iQ 0,iQ 0] 79));have Bb:=(Box3.made (w.alloc (.cells #[.bool na,iQ da,iQ ea] 24)) (.bool nb) (iQ db) (iQ eb) 24).l (x1 _ (.cells #[.bool false,.bool false,iQ 0,iQ 0] 79));have Br:=Box4.made ((w.alloc (.cells #[.bool na,iQ da,iQ ea] 24)).alloc (.cells #[.bool nb,iQ db,iQ eb] 24)) (.bool false) (.bool false) (iQ 0) (iQ 0) 79;simp only [World.size_alloc] at Bb Br;have T:=hT.l X0;clear hR hT;go_enter Tryz.func159,Tryz.ntmps159;go_wp2_with fail;cases ga:zA1 na da ea
  ·refine (zAB false na da ea _ a1 a2 T ga).mono ?_;rintro r w1 ⟨rfl,x1'⟩;obtain ⟨⟨m0,m1,m2,m3⟩,n0,n1,n2,n3⟩:=Br.l x1';clear ga hg;go_wp2_with fail;exact bodyPost_ret (v:=.agg #[.bool false,.bool false,iQ 0,iQ 0]) (by simp [results,Tryz.results159,go_sem,m0,m1,m2,m3]) rfl ⟨rfl,xset (xset (xset (xset (xt X0 x1') (by simp only;omega) _) (by simp only;omega) _) (by simp only;omega) _) (by simp only;omega) _⟩
  ·refine (zAB true na da ea _ a1 a2 T ga).mono ?_;rintro r w1 ⟨rfl,x1'⟩;have Bb1:=Bb.l x1';have Bb1':=Bb1;obtain ⟨⟨q0,q1,q2⟩,_⟩:=Bb1';go_wp2_with fail;cases gb:zA1 nb db eb
   ·refine (zAB false nb db eb _ b1 b2 (T.l x1') gb).mono ?_;rintro r w2 ⟨rfl,x2'⟩;obtain ⟨⟨m0,m1,m2,m3⟩,n0,n1,n2,n3⟩:=(Br.l x1').l x2';clear ga gb hg q0 q1 q2;go_wp2_with fail;exact bodyPost_ret (v:=.agg #[.bool false,.bool false,iQ 0,iQ 0]) (by simp [results,Tryz.results159,go_sem,m0,m1,m2,m3]) rfl ⟨rfl,xset (xset (xset (xset (xt (xt X0 x1') x2') (by simp only;omega) _) (by simp only;omega) _) (by simp only;omega) _) (by simp only;omega) _⟩
   ·refine (zAB true nb db eb _ b1 b2 (T.l x1') gb).mono ?_;rintro r w2 ⟨rfl,x2'⟩;have hd:db=0:=by
     refine Classical.byContradiction fun h=>hg ?_;rw [ga,gb];simpa using h
    obtain ⟨he,hn⟩:=zEY gb hd;subst hd;subst he;subst hn;obtain ⟨⟨r0,r1,r2⟩,_⟩:=Bb1.l x2';obtain ⟨⟨m0,m1,m2,m3⟩,n0,n1,n2,n3⟩:=(Br.l x1').l x2';clear ga gb hg q0 q1 q2;go_wp2_with fail;exact bodyPost_ret (v:=.agg #[.bool false,.bool false,iQ 0,iQ 0]) (by simp [results,Tryz.results159,go_sem,m0,m1,m2,m3]) rfl ⟨rfl,xset (xset (xset (xset (xt (xt X0 x1') x2') (by simp only;omega) _) (by simp only;omega) _) (by simp only;omega) _) (by simp only;omega) _⟩
theorem divS (na nb:Bool) (da ea db eb:Int) (w:World) :
  Calls Tryz.prog 167 #[.agg #[.bool na,iQ da,iQ ea],.agg #[.bool nb,iQ db,iQ eb]] w fun r w'=>r=.returned (resV (divR na da ea nb db eb))/\Ext w w':=by
 by_cases hg:(zA1 na da ea && zA1 nb db eb && !(db == 0))=true
 ·unfold divR;rw [if_pos hg];simp only [Bool.and_eq_true,Bool.not_eq_true',beq_eq_false_iff_ne] at hg;obtain ⟨⟨ga,gb⟩,hd⟩:=hg;obtain ⟨A,rfl⟩:=Int.eq_ofNat_of_zero_le (zAN ga).1;obtain ⟨B,rfl⟩:=Int.eq_ofNat_of_zero_le (zAN gb).1;rw [Int.toNat_natCast,Int.toNat_natCast];exact zPN na nb A B ea eb w ga gb (by omega)
 ·have hR:divR na da ea nb db eb=⟨false,false,0,0⟩:=by unfold divR;rw [if_neg hg];rfl
  rw [hR];have X0:=xa (xa (x1 w (.cells #[.bool na,iQ da,iQ ea] 24)) (.cells #[.bool nb,iQ db,iQ eb] 24)) (.cells #[.bool false,.bool false,iQ 0,iQ 0] 79);have Ba:=(Box3.made w (.bool na) (iQ da) (iQ ea) 24).l (xa (x1 _ (.cells #[.bool nb,iQ db,iQ eb] 24)) (.cells #[.bool false,.bool false,iQ 0,iQ 0] 79));have Bb:=(Box3.made (w.alloc (.cells #[.bool na,iQ da,iQ ea] 24)) (.bool nb) (iQ db) (iQ eb) 24).l (x1 _ (.cells #[.bool false,.bool false,iQ 0,iQ 0] 79));have Br:=Box4.made ((w.alloc (.cells #[.bool na,iQ da,iQ ea] 24)).alloc (.cells #[.bool nb,iQ db,iQ eb] 24)) (.bool false) (.bool false) (iQ 0) (iQ 0) 79;simp only [World.size_alloc] at Bb Br;clear hR;go_enter Tryz.func167,Tryz.ntmps167;go_wp2_with fail;cases ga:zA1 na da ea
  ·refine (zAQ false na da ea _ ga).mono ?_;rintro r w1 ⟨rfl,x1'⟩;obtain ⟨⟨m0,m1,m2,m3⟩,n0,n1,n2,n3⟩:=Br.l x1';clear ga hg;go_wp2_with fail;exact bodyPost_ret (v:=.agg #[.bool false,.bool false,iQ 0,iQ 0]) (by simp [results,Tryz.results167,go_sem,m0,m1,m2,m3]) rfl ⟨rfl,xset (xset (xset (xset (xt X0 x1') (by simp only;omega) _) (by simp only;omega) _) (by simp only;omega) _) (by simp only;omega) _⟩
  ·refine (zAQ true na da ea _ ga).mono ?_;rintro r w1 ⟨rfl,x1'⟩;have Bb1:=Bb.l x1';have Bb1':=Bb1;obtain ⟨⟨q0,q1,q2⟩,_⟩:=Bb1';go_wp2_with fail;cases gb:zA1 nb db eb
   ·refine (zAQ false nb db eb _ gb).mono ?_;rintro r w2 ⟨rfl,x2'⟩;obtain ⟨⟨m0,m1,m2,m3⟩,n0,n1,n2,n3⟩:=(Br.l x1').l x2';clear ga gb hg q0 q1 q2;go_wp2_with fail;exact bodyPost_ret (v:=.agg #[.bool false,.bool false,iQ 0,iQ 0]) (by simp [results,Tryz.results167,go_sem,m0,m1,m2,m3]) rfl ⟨rfl,xset (xset (xset (xset (xt (xt X0 x1') x2') (by simp only;omega) _) (by simp only;omega) _) (by simp only;omega) _) (by simp only;omega) _⟩
   ·refine (zAQ true nb db eb _ gb).mono ?_;rintro r w2 ⟨rfl,x2'⟩;have hd:db=0:=by
     refine Classical.byContradiction fun h=>hg ?_;rw [ga,gb];simpa using h
    obtain ⟨he,hn⟩:=zEY gb hd;subst hd;subst he;subst hn;obtain ⟨⟨r0,r1,r2⟩,_⟩:=Bb1.l x2';obtain ⟨⟨m0,m1,m2,m3⟩,n0,n1,n2,n3⟩:=(Br.l x1').l x2';clear ga gb hg q0 q1 q2;go_wp2_with fail;exact bodyPost_ret (v:=.agg #[.bool false,.bool false,iQ 0,iQ 0]) (by simp [results,Tryz.results167,go_sem,m0,m1,m2,m3]) rfl ⟨rfl,xset (xset (xset (xset (xt (xt X0 x1') x2') (by simp only;omega) _) (by simp only;omega) _) (by simp only;omega) _) (by simp only;omega) _⟩
end Go.Proofs.YtkadkfmidlhedaaGreatDoor

