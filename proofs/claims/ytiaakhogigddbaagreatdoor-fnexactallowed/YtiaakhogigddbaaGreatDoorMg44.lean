/-
  Several texts in one: V9z, Uh.
-/
import Derived.Test.YtiaakhogigddbaaGreatDoorMg43
import Derived.Test.YtiaakhogigddbaaGreatDoorMg12
import Derived.Test.YtiaakhogigddbaaGreatDoorUg
namespace Go.Proofs.YtiaakhogigddbaaGreatDoor
open Go.RowKit
def sixO:List (List UInt8):=[[60,62],[60,61],[62,61],[61],[60],[62]]
theorem six_at {op:List UInt8} (h:memB sixO op=true):∃ o,opN op=some o∧6≤o:=by
 have hm:op ∈ sixO:=by
  unfold memB at h;rw [List.any_eq_true] at h;obtain ⟨u,hu,he⟩:=h;have:u=op:=by simpa using he
  rw [← this];exact hu
 simp only [sixO,List.mem_cons,List.not_mem_nil,or_false] at hm
 rcases hm with rfl | rfl | rfl | rfl | rfl | rfl
 ·exact ⟨7,rfl,by decide⟩
 ·exact ⟨10,rfl,by decide⟩
 ·exact ⟨11,rfl,by decide⟩
 ·exact ⟨6,rfl,by decide⟩
 ·exact ⟨8,rfl,by decide⟩
 ·exact ⟨9,rfl,by decide⟩
theorem six_mem {op:List UInt8} {o:Nat} (h:opN op=some o) (h6:6≤o):memB sixO op=true:=by
 have h1:=opN_at h;have h2:o<12:=(List.getElem?_eq_some_iff.1 h1).1
 match o,h1,h2,h6 with
 | 6,h1,_,_=>cases h1;rfl
 | 7,h1,_,_=>cases h1;rfl
 | 8,h1,_,_=>cases h1;rfl
 | 9,h1,_,_=>cases h1;rfl
 | 10,h1,_,_=>cases h1;rfl
 | 11,h1,_,_=>cases h1;rfl
theorem okK_four {k:Int}:okK k=4 ↔ k=4:=by
 unfold okK
 split <;> omega
theorem eqVB_kind {k:Int} {n:Bool} {d x:Int} {t:List UInt8} {k':Int} {n':Bool} {d' x':Int} {t':List UInt8} (h:k ≠ k'):eqVB k n d x t k' n' d' x' t'=false:=decide_eq_false fun e=>h e.1
theorem meet_none {op:List UInt8} {k:Int} {n:Bool} {d x:Int} {t:List UInt8} {k':Int} {n':Bool} {d' x':Int} {t':List UInt8} (h:memB sixO op=false):meetB op k n d x t k' n' d' x' t'=false:=by
 have h1:(op == [61])=false:=by
  cases hh:op == [61] with
  | false=>rfl
  | true =>
   obtain rfl:op=[61]:=by simpa using hh
   exact absurd h (by decide)
 have h2:(op == [60,62])=false:=by
  cases hh:op == [60,62] with
  | false=>rfl
  | true =>
   obtain rfl:op=[60,62]:=by simpa using hh
   exact absurd h (by decide)
 have h3:applyB op (okK k) n d x t (okK k') n' d' x' t'=false:=by
  unfold applyB;cases ho:opN op with
  | none=>rfl
  | some o =>
   show (decide (6≤o) && _)=false;by_cases h6:6≤o
   ·rw [six_mem ho h6] at h;cases h
   ·rw [decide_eq_false h6,Bool.false_and]
 unfold meetB meetT;rw [h1,h2,h3];simp
theorem work_text {op:List UInt8} {o:Nat} {k:Int} {n:Bool} {d x:Int} {t:List UInt8} {k':Int} {n':Bool} {d' x':Int} {t':List UInt8} {k2:Int} {n2:Bool} {d2 x2:Int} {t2:List UInt8} (ho:opN op=some o) (h6:6≤o) (h4:k ≠ 4) (h4':k' ≠ 4)
  (h:workV o k n d x t k' n' d' x' t'=valV k2 n2 d2 x2 t2):(t2 == [84,82,85,69])=applyB op k n d x t k' n' d' x' t':=by
 unfold workV makeV at h;rw [if_neg h4,if_neg h4',if_neg (by omega),if_neg (by omega)] at h;unfold applyB;rw [ho];show _=(decide (6≤o) && ordB o (compareV k n d x t k' n' d' x' t'));rw [decide_eq_true h6,Bool.true_and];cases hb:ordB o (compareV k n d x t k' n' d' x' t') with
 | false =>
  rw [hb] at h;have h2:(3:Int)=k2∧false=n2∧(0:Int)=d2∧(0:Int)=x2∧sV falseT=sV t2:=by simpa using h
  rw [← sV_inj h2.2.2.2.2];rfl
 | true =>
  rw [hb] at h;have h2:(3:Int)=k2∧false=n2∧(0:Int)=d2∧(0:Int)=x2∧sV trueT=sV t2:=by simpa using h
  rw [← sV_inj h2.2.2.2.2];rfl
theorem putE {a w:World} {b c:Nat} {v0 v1 v2 v3 v4:Value} {m:List Value} (V:Vec w b [v0,v1,v2,v3,v4]) (U:Vec w c m) (X:Ext a w) (hbc:c ≠ b) (hb:a.heap.size≤b) :
  ∃ wy,(((((w.setCell ⟨b,0,none⟩ (.int .i64 2)).setCell ⟨b,1,none⟩ (.bool false)).setCell ⟨b,2,none⟩ (.int .i64 0)).setCell ⟨b,3,none⟩ (.int .i64 0)).setCell ⟨b,4,none⟩ (sV []))=wy∧Vec wy b (valL 2 false 0 0 [])∧Vec wy c m∧Ext a wy∧(w.cell? ⟨b,0,none⟩=some v0∧w.cell? ⟨b,1,none⟩=some v1∧w.cell? ⟨b,2,none⟩=some v2∧w.cell? ⟨b,3,none⟩=some v3∧w.cell? ⟨b,4,none⟩=some v4)∧w.frozen? ⟨b,0,none⟩=false∧w.frozen? ⟨b,1,none⟩=false∧w.frozen? ⟨b,2,none⟩=false∧w.frozen? ⟨b,3,none⟩=false∧w.frozen? ⟨b,4,none⟩=false:=
 ⟨_,rfl,V.put5 (.int .i64 2) (.bool false) (.int .i64 0) (.int .i64 0) (sV []),Vec.farL (k:=b) (by omega) [.int .i64 2,.bool false,.int .i64 0,.int .i64 0,sV []] 0 U,Ext.setL (b:=b) hb [.int .i64 2,.bool false,.int .i64 0,.int .i64 0,sV []] 0 X,V.five,V.fiveF⟩
set_option maxHeartbeats 1000000 in
theorem isErrS (k:Int) (n:Bool) (d x:Int) (t:List UInt8) (w:World) :
  Calls Tryz.prog 36 #[valV k n d x t] w fun e w'=>e=.returned (.bool (decide (k=4)))∧Ext w w':=by
 have X:=x1 w (.cells #[.int .i64 k,.bool n,.int .i64 d,.int .i64 x,sV t] 39);by_cases h:k=4
 ·subst h;go_enter Tryz.func36,Tryz.ntmps36;go_wp2_with fail;go_ret;exact ⟨rfl,X⟩
 ·rw [show decide (k=4)=false by simpa using h];have hb:(k == 4)=false:=by simpa using h
  go_enter Tryz.func36,Tryz.ntmps36;go_wp2_with fail;go_ret;exact ⟨rfl,X⟩
set_option maxRecDepth 8000 in
set_option maxHeartbeats 20000000 in
theorem meetsS (op:List UInt8) (k:Int) (n:Bool) (d x:Int) (t:List UInt8) (k':Int) (n':Bool) (d' x':Int) (t':List UInt8) (w:World) (hl:t.length≤1048576) (hl':t'.length≤1048576) :
  Calls Tryz.prog 22 #[valV k n d x t,sV op,valV k' n' d' x' t'] w fun e w'=>e=.returned (.bool (meetB op k n d x t k' n' d' x' t'))∧Ext w w':=by
 obtain ⟨R,hR⟩:∃ R,meetB op k n d x t k' n' d' x' t'=R:=⟨_,rfl⟩;have HR0:Hid (meetB op k n d x t k' n' d' x' t'=R):=hR;rw [hR];clear hR;obtain ⟨u0,u1,h0,h1,s0,s1,B0,B1,X⟩:=mkB2 w [.int .i64 k,.bool n,.int .i64 d,.int .i64 x,sV t] [.int .i64 k',.bool n',.int .i64 d',.int .i64 x',sV t'] 39 39;obtain ⟨a0,a1,a2,a3,a4⟩:=Vec.five (B0);go_enter Tryz.func22,Tryz.ntmps22;go_wp2_with fail;clear h0 h1 s0 s1 a0 a1 a2 a3 a4;refine (goodVS k n d x t u1 (by omega)).mono ?_;rintro e w2 ⟨rfl,e2⟩;have D0:=B0.later e2;have D1:=B1.later e2;have X2:=xt X e2;clear B0 B1 X;obtain ⟨g,hg⟩:∃ g,goodV k n d x t=g:=⟨_,rfl⟩;rw [hg];cases g
 ·have HR:Hid (false=R):=by show _=_;rw [← HR0.out];unfold meetB;rw [hg];rfl
  go_wp2_with fail;go_ret;exact ⟨congrArg (fun z=>Ending.returned (.bool z)) HR.out,X2⟩
 ·obtain ⟨c0,c1,c2,c3,c4⟩:=Vec.five (D1);go_wp2_with fail;clear c0 c1 c2 c3 c4;refine (goodVS k' n' d' x' t' w2 (by omega)).mono ?_;rintro e w3 ⟨rfl,e3⟩;have E0:=D0.later e3;have E1:=D1.later e3;have X3:=xt X2 e3;clear D0 D1;obtain ⟨g',hg'⟩:∃ g,goodV k' n' d' x' t'=g:=⟨_,rfl⟩;rw [hg'];cases g'
  ·have HR:Hid (false=R):=by show _=_;rw [← HR0.out];unfold meetB;rw [hg,hg'];rfl
   go_wp2_with fail;go_ret;exact ⟨congrArg (fun z=>Ending.returned (.bool z)) HR.out,X3⟩
  ·have BS:=vec_made w3 (sixO.map sV) 9;have XS:=x1 w3 (.cells #[sV [60,62],sV [60,61],sV [62,61],sV [61],sV [60],sV [62]] 9);obtain ⟨ws,hs⟩:∃ ws,w3.alloc (.cells #[sV [60,62],sV [60,61],sV [62,61],sV [61],sV [60],sV [62]] 9)=ws:=⟨_,rfl⟩;change Vec (w3.alloc (.cells #[sV [60,62],sV [60,61],sV [62,61],sV [61],sV [60],sV [62]] 9)) _ _ at BS;rw [hs] at BS XS;have F0:=E0.later XS;have F1:=E1.later XS;have X4:=xt X3 XS;clear E0 E1 XS;go_wp2_with fail;clear hs;refine (inS sixO op w3.heap.size 6 ws (by decide) BS).mono ?_;rintro e ws' ⟨rfl,rfl⟩;clear BS;obtain ⟨m6,hm6⟩:∃ m,memB sixO op=m:=⟨_,rfl⟩;rw [hm6];cases m6
   ·have HR:Hid (false=R):=(by show _=_;rw [← HR0.out];exact (meet_none hm6).symm);clear F0 F1;go_wp2_with fail;go_ret;exact ⟨congrArg (fun z=>Ending.returned (.bool z)) HR.out,X4⟩
   ·obtain ⟨o,hop,h6⟩:=six_at hm6;clear hm6;have HR1:Hid (meetT op (okK k) n d x t (okK k') n' d' x' t'=R):=(by show _=_;rw [← HR0.out];unfold meetB;rw [hg,hg'];rfl);clear HR0;obtain ⟨o1,ho1⟩:∃ o,(op == [61])=o:=⟨_,rfl⟩;obtain ⟨o2,ho2⟩:∃ o,(op == [60,62])=o:=⟨_,rfl⟩;have HO:Hid ((op == [61])=o1∧(op == [60,62])=o2):=⟨ho1,ho2⟩;have HOP:Hid (opN op=some o∧6≤o):=⟨hop,h6⟩;have HG:Hid (goodV k n d x t=true∧goodV k' n' d' x' t'=true):=⟨hg,hg'⟩;clear hop h6 hg hg';obtain ⟨a0,a1,a2,a3,a4⟩:=Vec.five (F0);go_wp2_with fail;clear a0 a1 a2 a3 a4;refine (isErrS k n d x t _).mono ?_;rintro e w5 ⟨rfl,e5⟩;have X5:=xt X4 e5;have G0:=F0.later e5;have G1:=F1.later e5;clear F0 F1;by_cases k4:k=4
    ·subst k4;rw [show decide ((4:Int)=4)=true from rfl];obtain ⟨c0,c1,c2,c3,c4⟩:=Vec.five (G1);go_wp2_with fail;clear c0 c1 c2 c3 c4;refine (isErrS k' n' d' x' t' w5).mono ?_;rintro e w6 ⟨rfl,e6⟩;have X6:=xt X5 e6;have H0:=G0.later e6;have H1:=G1.later e6;clear G0 G1;by_cases k4':k'=4
     ·subst k4';rw [show decide ((4:Int)=4)=true from rfl];obtain ⟨E,hEq⟩:∃ E,eqVB 4 n d x t 4 n' d' x' t'=E:=⟨_,rfl⟩;have VE:=fun W=>val_eql 4 n d x t 4 n' d' x' t' W;have VN:=fun W=>val_neq 4 n d x t 4 n' d' x' t' W;rw [hEq] at VE VN;have HR2:Hid (((o1 && E) || (o2 && !E))=R):=(by show _=_;rw [← HR1.out];unfold meetT okK;simp only [show ¬ ((4:Int)=0) by decide,if_false];rw [if_neg (by simp),if_pos (by simp),hEq,ho1,ho2]);obtain ⟨a0,a1,a2,a3,a4⟩:=Vec.five (H0);obtain ⟨c0,c1,c2,c3,c4⟩:=Vec.five (H1);clear hEq HR1 H0 H1;cases o1 <;> cases E <;> cases o2
      all_goals
       go_wp2_with fail;go_ret;exact ⟨congrArg (fun z=>Ending.returned (.bool z)) HR2.out,X6⟩
     ·rw [decide_eq_false k4'];have HR:Hid (false=R):=(by show _=_;rw [← HR1.out];unfold meetT;rw [if_pos ⟨okK_four.2 rfl,fun h=>k4' (okK_four.1 h)⟩]);clear H0 H1;go_wp2_with fail;go_ret;exact ⟨congrArg (fun z=>Ending.returned (.bool z)) HR.out,X6⟩
    ·rw [decide_eq_false k4];obtain ⟨c0,c1,c2,c3,c4⟩:=Vec.five (G1);go_wp2_with fail;clear c0 c1 c2 c3 c4;refine (isErrS k' n' d' x' t' w5).mono ?_;rintro e w6 ⟨rfl,e6⟩;have X6:=xt X5 e6;have H0:=G0.later e6;have H1:=G1.later e6;clear G0 G1;have p4:okK k ≠ 4:=fun h=>k4 (okK_four.1 h);have HU:Hid (okK k ≠ okK k'→o2=R):=fun h=>by
      rw [← HR1.out];unfold meetT;rw [if_neg (fun h=>p4 h.1),if_pos (Or.inr h),eqVB_kind h,HO.out.1,HO.out.2];cases o1 <;> cases o2 <;> rfl
     by_cases k4':k'=4
     ·rw [decide_eq_true k4'];have HR:Hid (o2=R):=HU.out (by rw [okK_four.2 k4'];exact p4);clear H0 H1 k4';cases o2
      all_goals
       go_wp2_with fail;go_ret;exact ⟨congrArg (fun z=>Ending.returned (.bool z)) HR.out,X6⟩
     ·rw [decide_eq_false k4'];have q4:okK k' ≠ 4:=fun h=>k4' (okK_four.1 h);have HQ:Hid (okK k=okK k'→applyB op (okK k) n d x t (okK k') n' d' x' t'=R):=fun h=>by
       rw [← HR1.out];unfold meetT;rw [if_neg (fun h=>p4 h.1),if_neg (fun h2=>h2.elim p4 fun h2=>h2 h)]
      clear HR1;by_cases hz:k=0
      ·by_cases hz':k'=0
       ·have hk0:k=0:=hz;subst hk0;obtain ⟨q1,q2,q3⟩:=goodV_zero HG.out.1 (by decide);subst q1 q2 q3;obtain rfl:=goodV_empty HG.out.1;have hk1:k'=0:=hz';subst hk1;obtain ⟨q1,q2,q3⟩:=goodV_zero HG.out.2 (by decide);subst q1 q2 q3;obtain rfl:=goodV_empty HG.out.2;have HU2:Hid ((2:Int) ≠ 2→o2=R):=fun h=>HU.out (by exact absurd rfl h);have HQ2:Hid ((2:Int)=2→applyB op 2 false 0 0 [] 2 false 0 0 []=R):=fun h=>by
         have:=HQ.out (by rfl);exact this
        have GG:goodV 2 false 0 0 []=true∧goodV 2 false 0 0 []=true:=⟨by decide,by decide⟩;clear HU HQ HG;obtain ⟨a0,a1,a2,a3,a4⟩:=Vec.five (H0);go_wp2_with fail;clear a0 a1 a2 a3 a4;refine (textVS [] w6).mono ?_;rintro e w7 ⟨rfl,e7⟩;obtain ⟨wa,hwa,N0,N1,XN,⟨b0,b1,b2,b3,b4⟩,fb0,fb1,fb2,fb3,fb4⟩:=putE (H0.later e7) (H1.later e7) (xt X6 e7) (by omega) (Nat.le_refl _);obtain ⟨a0,a1,a2,a3,a4⟩:=Vec.five (N0);obtain ⟨c0,c1,c2,c3,c4⟩:=Vec.five (N1);go_wp2_with fail;clear a0 a1 a2 a3 a4 c0 c1 c2 c3 c4 hwa b0 b1 b2 b3 b4 fb0 fb1 fb2 fb3 fb4;refine (textVS [] wa).mono ?_;rintro e w8 ⟨rfl,e8⟩;obtain ⟨wc,hwc,M1,M0,XM,⟨b0,b1,b2,b3,b4⟩,fb0,fb1,fb2,fb3,fb4⟩:=putE (N1.later e8) (N0.later e8) (xt XN e8) (by omega) (by omega);obtain ⟨a0,a1,a2,a3,a4⟩:=Vec.five M0;obtain ⟨c0,c1,c2,c3,c4⟩:=Vec.five M1;have hpq:((2:Int) != 2)=false:=(by decide);clear HU2;obtain ⟨hop,h6⟩:=HOP.out;obtain ⟨k2,n2,dd2,x2,t2,hv⟩:=workV_val o 2 false 0 0 [] 2 false 0 0 [];have HR2:Hid ((t2 == [84,82,85,69])=R):=(by show _=_;rw [work_text hop h6 (by decide) (by decide) hv];exact HQ2.out (by simp));have CP:Hid (Calls Tryz.prog 38 #[sV op,valV 2 false 0 0 [],valV 2 false 0 0 []] wc fun e w'=>e=.returned (valV k2 n2 dd2 x2 t2)∧Ext wc w'):=by
         show Calls _ _ _ _ _;rw [← hv];exact l6ApplyS op o hop 2 false 0 0 [] 2 false 0 0 [] wc (by first | decide | omega) (by first | decide | omega) GG.1 GG.2
        have FT:=fun W=>field_text k2 n2 dd2 x2 t2 W;obtain ⟨tb,htb⟩:∃ b,(t2 == [84,82,85,69])=b:=⟨_,rfl⟩;have HR:Hid (tb=R):=(by show _=_;rw [← htb];exact HR2.out);clear hv hop h6 HQ2 HR2;cases tb
        all_goals
         go_wp2_with fail;refine (CP.out).mono ?_;rintro e w9 ⟨rfl,e9⟩;go_wp2_with fail;go_ret;exact ⟨congrArg (fun z=>Ending.returned (.bool z)) HR.out,xt XM e9⟩
       ·have hk0:k=0:=hz;subst hk0;obtain ⟨q1,q2,q3⟩:=goodV_zero HG.out.1 (by decide);subst q1 q2 q3;obtain rfl:=goodV_empty HG.out.1;have hkb':(k' == 0)=false:=(by simpa using hz');have HU2:Hid ((2:Int) ≠ k'→o2=R):=fun h=>HU.out (by rw [show okK 0=2 from rfl,show okK k'=k' from if_neg hz'];exact h);have HQ2:Hid ((2:Int)=k'→applyB op 2 false 0 0 [] k' n' d' x' t'=R):=fun h=>by
         have:=HQ.out (by rw [show okK 0=2 from rfl,show okK k'=k' from if_neg hz'];exact h);rw [show okK 0=2 from rfl,show okK k'=k' from if_neg hz'] at this;exact this
        have GG:goodV 2 false 0 0 []=true∧goodV k' n' d' x' t'=true:=⟨by decide,HG.out.2⟩;clear HU HQ HG;obtain ⟨a0,a1,a2,a3,a4⟩:=Vec.five (H0);go_wp2_with fail;clear a0 a1 a2 a3 a4;refine (textVS [] w6).mono ?_;rintro e w7 ⟨rfl,e7⟩;obtain ⟨wa,hwa,N0,N1,XN,⟨b0,b1,b2,b3,b4⟩,fb0,fb1,fb2,fb3,fb4⟩:=putE (H0.later e7) (H1.later e7) (xt X6 e7) (by omega) (Nat.le_refl _);obtain ⟨a0,a1,a2,a3,a4⟩:=Vec.five N0;obtain ⟨c0,c1,c2,c3,c4⟩:=Vec.five N1;by_cases pq:(2:Int)=k'
        ·subst pq;have hpq:((2:Int) != 2)=false:=(by decide);obtain ⟨hop,h6⟩:=HOP.out;obtain ⟨k2,n2,dd2,x2,t2,hv⟩:=workV_val o 2 false 0 0 [] 2 n' d' x' t';have HR2:Hid ((t2 == [84,82,85,69])=R):=(by show _=_;rw [work_text hop h6 (by decide) (by decide) hv];exact HQ2.out (by simp));have CP:Hid (Calls Tryz.prog 38 #[sV op,valV 2 false 0 0 [],valV 2 n' d' x' t'] wa fun e w'=>e=.returned (valV k2 n2 dd2 x2 t2)∧Ext wa w'):=by
          show Calls _ _ _ _ _;rw [← hv];exact l6ApplyS op o hop 2 false 0 0 [] 2 n' d' x' t' wa (by first | decide | omega) (by first | decide | omega) GG.1 GG.2
         have FT:=fun W=>field_text k2 n2 dd2 x2 t2 W;obtain ⟨tb,htb⟩:∃ b,(t2 == [84,82,85,69])=b:=⟨_,rfl⟩;have HR:Hid (tb=R):=(by show _=_;rw [← htb];exact HR2.out);clear hv hop h6 HU2 HQ2 HR2;cases tb
         all_goals
          go_wp2_with fail;refine (CP.out).mono ?_;rintro e w9 ⟨rfl,e9⟩;go_wp2_with fail;go_ret;exact ⟨congrArg (fun z=>Ending.returned (.bool z)) HR.out,xt XN e9⟩
        ·have HR:Hid (o2=R):=HU2.out pq;have hpq:(2 != (k':Int))=true:=(by simpa using pq);clear HU2 HQ2 pq;cases o2
         all_goals
          go_wp2_with fail;go_ret;exact ⟨congrArg (fun z=>Ending.returned (.bool z)) HR.out,XN⟩
      ·by_cases hz':k'=0
       ·have hkb:(k == 0)=false:=(by simpa using hz);have hk1:k'=0:=hz';subst hk1;obtain ⟨q1,q2,q3⟩:=goodV_zero HG.out.2 (by decide);subst q1 q2 q3;obtain rfl:=goodV_empty HG.out.2;have HU2:Hid ((k:Int) ≠ 2→o2=R):=fun h=>HU.out (by rw [show okK k=k from if_neg hz,show okK 0=2 from rfl];exact h);have HQ2:Hid ((k:Int)=2→applyB op k n d x t 2 false 0 0 []=R):=fun h=>by
         have:=HQ.out (by rw [show okK k=k from if_neg hz,show okK 0=2 from rfl];exact h);rw [show okK k=k from if_neg hz,show okK 0=2 from rfl] at this;exact this
        have GG:goodV k n d x t=true∧goodV 2 false 0 0 []=true:=⟨HG.out.1,by decide⟩;clear HU HQ HG;obtain ⟨a0,a1,a2,a3,a4⟩:=Vec.five (H0);obtain ⟨c0,c1,c2,c3,c4⟩:=Vec.five (H1);go_wp2_with fail;clear a0 a1 a2 a3 a4 c0 c1 c2 c3 c4;refine (textVS [] w6).mono ?_;rintro e w8 ⟨rfl,e8⟩;obtain ⟨wc,hwc,M1,M0,XM,⟨b0,b1,b2,b3,b4⟩,fb0,fb1,fb2,fb3,fb4⟩:=putE (H1.later e8) (H0.later e8) (xt X6 e8) (by omega) (by omega);obtain ⟨a0,a1,a2,a3,a4⟩:=Vec.five M0;obtain ⟨c0,c1,c2,c3,c4⟩:=Vec.five M1;by_cases pq:(k:Int)=2
        ·subst pq;have hpq:((2:Int) != 2)=false:=(by decide);obtain ⟨hop,h6⟩:=HOP.out;obtain ⟨k2,n2,dd2,x2,t2,hv⟩:=workV_val o 2 n d x t 2 false 0 0 [];have HR2:Hid ((t2 == [84,82,85,69])=R):=(by show _=_;rw [work_text hop h6 (by decide) (by decide) hv];exact HQ2.out (by simp));have CP:Hid (Calls Tryz.prog 38 #[sV op,valV 2 n d x t,valV 2 false 0 0 []] wc fun e w'=>e=.returned (valV k2 n2 dd2 x2 t2)∧Ext wc w'):=by
          show Calls _ _ _ _ _;rw [← hv];exact l6ApplyS op o hop 2 n d x t 2 false 0 0 [] wc (by first | decide | omega) (by first | decide | omega) GG.1 GG.2
         have FT:=fun W=>field_text k2 n2 dd2 x2 t2 W;obtain ⟨tb,htb⟩:∃ b,(t2 == [84,82,85,69])=b:=⟨_,rfl⟩;have HR:Hid (tb=R):=(by show _=_;rw [← htb];exact HR2.out);clear hv hop h6 HU2 HQ2 HR2;cases tb
         all_goals
          go_wp2_with fail;refine (CP.out).mono ?_;rintro e w9 ⟨rfl,e9⟩;go_wp2_with fail;go_ret;exact ⟨congrArg (fun z=>Ending.returned (.bool z)) HR.out,xt XM e9⟩
        ·have HR:Hid (o2=R):=HU2.out pq;have hpq:(k != (2:Int))=true:=(by simpa using pq);clear HU2 HQ2 pq;cases o2
         all_goals
          go_wp2_with fail;go_ret;exact ⟨congrArg (fun z=>Ending.returned (.bool z)) HR.out,XM⟩
       ·have hkb:(k == 0)=false:=(by simpa using hz);have hkb':(k' == 0)=false:=(by simpa using hz');have HU2:Hid ((k:Int) ≠ k'→o2=R):=fun h=>HU.out (by rw [show okK k=k from if_neg hz,show okK k'=k' from if_neg hz'];exact h);have HQ2:Hid ((k:Int)=k'→applyB op k n d x t k' n' d' x' t'=R):=fun h=>by
         have:=HQ.out (by rw [show okK k=k from if_neg hz,show okK k'=k' from if_neg hz'];exact h);rw [show okK k=k from if_neg hz,show okK k'=k' from if_neg hz'] at this;exact this
        have GG:goodV k n d x t=true∧goodV k' n' d' x' t'=true:=⟨HG.out.1,HG.out.2⟩;clear HU HQ HG;obtain ⟨a0,a1,a2,a3,a4⟩:=Vec.five H0;obtain ⟨c0,c1,c2,c3,c4⟩:=Vec.five H1;by_cases pq:(k:Int)=k'
        ·subst pq;have hpq:(k != k)=false:=(by simp);obtain ⟨hop,h6⟩:=HOP.out;obtain ⟨k2,n2,dd2,x2,t2,hv⟩:=workV_val o k n d x t k n' d' x' t';have HR2:Hid ((t2 == [84,82,85,69])=R):=(by show _=_;rw [work_text hop h6 (by exact k4) (by exact k4) hv];exact HQ2.out (by simp));have CP:Hid (Calls Tryz.prog 38 #[sV op,valV k n d x t,valV k n' d' x' t'] w6 fun e w'=>e=.returned (valV k2 n2 dd2 x2 t2)∧Ext w6 w'):=by
          show Calls _ _ _ _ _;rw [← hv];exact l6ApplyS op o hop k n d x t k n' d' x' t' w6 (by first | decide | omega) (by first | decide | omega) GG.1 GG.2
         have FT:=fun W=>field_text k2 n2 dd2 x2 t2 W;obtain ⟨tb,htb⟩:∃ b,(t2 == [84,82,85,69])=b:=⟨_,rfl⟩;have HR:Hid (tb=R):=(by show _=_;rw [← htb];exact HR2.out);clear hv hop h6 HU2 HQ2 HR2;cases tb
         all_goals
          go_wp2_with fail;refine (CP.out).mono ?_;rintro e w9 ⟨rfl,e9⟩;go_wp2_with fail;go_ret;exact ⟨congrArg (fun z=>Ending.returned (.bool z)) HR.out,xt X6 e9⟩
        ·have HR:Hid (o2=R):=HU2.out pq;have hpq:(k != (k':Int))=true:=(by simpa using pq);clear HU2 HQ2 pq;cases o2
         all_goals
          go_wp2_with fail;go_ret;exact ⟨congrArg (fun z=>Ending.returned (.bool z)) HR.out,X6⟩
def meetQ (op : List UInt8) (b e : VT) : Bool := meetB op e.k e.n e.d e.x e.t b.k b.n b.d b.x b.t
theorem meetQ_bad {op : List UInt8} {b e : VT} (h : e.good = false) : meetQ op b e = false := by
  unfold meetQ meetB
  have h' : goodV e.k e.n e.d e.x e.t = false := h
  rw [h']
  rfl
theorem lawAllowedAll (a b : VT) (op : List UInt8) (v : Value) (l : List VT) (w : World) (h : ValsIn w v l) (hl : l.length ≤ 9223372036854775807) (ht : ∀ e ∈ l, e.t.length ≤ 9223372036854775807) (hd : ∀ e ∈ l, -9223372036854775808 ≤ e.d ∧ e.d ≤ 9223372036854775807) (hT : Tens w) (hE : ErrTab w) (hI : ItoaC w)
    (ho : op.length ≤ 9223372036854775807) (ha : a.t.length ≤ 9223372036854775807) (had : -9223372036854775808 ≤ a.d ∧ a.d ≤ 9223372036854775807) (hb : b.t.length ≤ 9223372036854775807) (hbd : -9223372036854775808 ≤ b.d ∧ b.d ≤ 9223372036854775807) :
    Calls Tryz.prog 4 #[a.val, sV op, b.val, v] w fun e w' => e = .returned (.bool true) ∧ Ext w w' :=
  lawAllowed a b op v l (meetQ op b a) w h hl ht hd hT hE ho ha had hb meetQ_bad (fun o1 t1 b1 =>
    ⟨fun W hW => meetsI op a.k a.n a.d a.x a.t b.k b.n b.d b.x b.t W o1 t1 b1 had.1 had.2 hbd.1 hbd.2 (hT.later hW) (hE.later hW) (hI.later hW),
     fun W _ => meetsS op a.k a.n a.d a.x a.t b.k b.n b.d b.x b.t W t1 b1⟩)
end Go.Proofs.YtiaakhogigddbaaGreatDoor

