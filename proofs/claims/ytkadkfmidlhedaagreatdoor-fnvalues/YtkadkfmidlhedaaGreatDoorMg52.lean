/-
  Several texts in one: W9d, V6w, V9y.
-/
import Derived.Test.YtkadkfmidlhedaaGreatDoorMg51
import Derived.Test.YtkadkfmidlhedaaGreatDoorMg42
import Derived.Test.YtkadkfmidlhedaaGreatDoorMg24
import Derived.Test.YtkadkfmidlhedaaGreatDoorMg25
import Derived.Test.YtkadkfmidlhedaaGreatDoorV6u
import Derived.Deep.RegionHeld3
namespace Go.Proofs.YtkadkfmidlhedaaGreatDoor
open Go.RowKit
set_option maxRecDepth 8000 in
set_option maxHeartbeats 2000000 in
theorem maxSG (a b:Int) (w:World) :
  Calls Tryz.prog 67 #[.int .i64 a,.int .i64 b] w fun e w'=>e=.returned (.int .i64 (max a b))∧Ext w w':=by
 go_enter Tryz.func67,Tryz.ntmps67
 go_wp2
 all_goals go_ret
 all_goals exact ⟨congrArg (fun z=>Ending.returned (Value.int .i64 z)) (by omega),xr _⟩
theorem gridF_at (o:Nat) (r c:Int) (l:List VT) (r' c':Int) (l':List VT) (D p q:Nat) (hq:q<D):gridF o r c l r' c' l' (D:Int) (p * D+q)=cellW o (cellAt r c l p q) (cellAt r' c' l' p q):=by
 have h1:(p * D+q) / D=p:=by rw [Nat.mul_comm,Nat.mul_add_div (by omega),Nat.div_eq_of_lt hq,Nat.add_zero]
 have h2:(p * D+q) % D=q:=Nat.mul_add_mod_of_lt hq;have e1:((p * D+q:Nat):Int) / (D:Int)=p:=by rw [← Int.natCast_ediv,h1]
 have e2:((p * D+q:Nat):Int) % (D:Int)=q:=by rw [← Int.natCast_emod,h2]
 unfold gridF;rw [e1,e2]
set_option maxRecDepth 8000 in
set_option maxHeartbeats 2000000 in
theorem applyGS (op:List UInt8) (r c:Int) (v:Value) (l:List VT) (r' c':Int) (v':Value) (l':List VT) (w:World) (h:ValsIn w v l) (h':ValsIn w v' l') (hl:l.length≤1048576) (hl':l'.length≤1048576) (ht:∀ e ∈ l,e.t.length≤1048576) (ht':∀ e ∈ l',e.t.length≤1048576) :
  Calls Tryz.prog 17 #[sV op,grV r c v,grV r' c' v'] w fun e w'=>(∃ sv,e=.returned (grV (gridR op r c l r' c' l').1 (gridR op r c l r' c' l').2.1 sv)∧OwnW w' w.heap.size sv (gridR op r c l r' c' l').2.2)∧Ext w w':=by
 obtain ⟨⟨R0,C0,L0⟩,hG⟩:∃ G,gridR op r c l r' c' l'=G:=⟨_,rfl⟩;have HG:Hid (gridR op r c l r' c' l'=(R0,C0,L0)):=hG;rw [hG];clear hG;obtain ⟨u0,u1,u2,h0,h1,h2,s0,s1,s2,B0,B1,B2,X⟩:=mkB3 w [.int .i64 r,.int .i64 c,v] [.int .i64 r',.int .i64 c',v'] [.int .i64 0,.int .i64 0,.slice none 0 0] 35 35 35;go_enter Tryz.func17,Tryz.ntmps17;go_wp2_with fail;clear h0 s0 h1 s1 h2 s2;refine (opsS u2).mono ?_;rintro e w1 ⟨g,rfl,VP,e1⟩;go_wp2_with fail;refine (inS opsL op g 12 w1 (by decide) VP).mono ?_;rintro e w1' ⟨rfl,rfl⟩;rw [signs_ops];have D0:=B0.later e1;have D1:=B1.later e1;have D2:=B2.later e1;have X2:=xt X e1;clear B0 B1 B2 X VP e1;cases hop:opN op with
 | none =>
  rw [show (none:Option Nat).isSome=false from rfl];have HN:Hid (R0=0∧C0=0∧L0=[]):=grid_none HG.out (by unfold gridO;rw [hop];exact ite_self _);clear HG h h' hl hl' ht ht' D0 D1 hop;obtain ⟨wy,hy,FX,⟨b0,b1,b2⟩,⟨fb0,fb1,fb2⟩,fd0,fd1,fd2⟩:=finG (D2) (X2) (by omega) 0 0 (.slice none 0 0);go_wp2_with fail;exact bodyPost_ret (v:=grV 0 0 (.slice none 0 0)) (by simp [results,Tryz.results17,go_sem,fd0,fd1,fd2]) rfl ⟨⟨_,by rw [HN.out.1,HN.out.2.1],by rw [HN.out.2.2];exact World.ownsRow_nil _ _ _ _⟩,FX⟩
 | some o =>
  rw [show (some o:Option Nat).isSome=true from rfl];have ht2:∀ e ∈ l,e.t.length≤2000000:=fun e he=>by have:=ht e he;omega
  have ht2':∀ e ∈ l',e.t.length≤2000000:=fun e he=>by have:=ht' e he;omega
  obtain ⟨a0,a1,a2⟩:=Vec.three (D0);go_wp2_with fail;clear a0 a1 a2;refine (goodGS r c v l _ (h.later X2) (by omega) ht2).mono ?_;rintro e w3 ⟨rfl,e3⟩;have E0:=D0.later e3;have E1:=D1.later e3;have E2:=D2.later e3;have X3:=xt X2 e3;clear D0 D1 D2 X2 e3;obtain ⟨ga,hga⟩:∃ g,goodG r c l=g:=⟨_,rfl⟩;rw [hga];cases ga
  ·have HN:Hid (R0=0∧C0=0∧L0=[]):=grid_none HG.out (by unfold gridO;rw [hga];rfl);clear HG h h' hl hl' ht ht' ht2 ht2' hop hga E0 E1;obtain ⟨wy,hy,FX,⟨b0,b1,b2⟩,⟨fb0,fb1,fb2⟩,fd0,fd1,fd2⟩:=finG (E2) (X3) (by omega) 0 0 (.slice none 0 0);go_wp2_with fail;exact bodyPost_ret (v:=grV 0 0 (.slice none 0 0)) (by simp [results,Tryz.results17,go_sem,fd0,fd1,fd2]) rfl ⟨⟨_,by rw [HN.out.1,HN.out.2.1],by rw [HN.out.2.2];exact World.ownsRow_nil _ _ _ _⟩,FX⟩
  ·obtain ⟨c0,c1,c2⟩:=Vec.three (E1);go_wp2_with fail;clear c0 c1 c2;refine (goodGS r' c' v' l' w3 (h'.later X3) (by omega) ht2').mono ?_;rintro e w4 ⟨rfl,e4⟩;have F0:=E0.later e4;have F1:=E1.later e4;have F2:=E2.later e4;have X4:=xt X3 e4;clear E0 E1 E2 X3 e4;obtain ⟨gb,hgb⟩:∃ g,goodG r' c' l'=g:=⟨_,rfl⟩;rw [hgb];cases gb
   ·have HN:Hid (R0=0∧C0=0∧L0=[]):=grid_none HG.out (by unfold gridO;rw [hga,hgb];rfl);clear HG h h' hl hl' ht ht' ht2 ht2' hop hga hgb F0 F1;obtain ⟨wy,hy,FX,⟨b0,b1,b2⟩,⟨fb0,fb1,fb2⟩,fd0,fd1,fd2⟩:=finG (F2) (X4) (by omega) 0 0 (.slice none 0 0);go_wp2_with fail;exact bodyPost_ret (v:=grV 0 0 (.slice none 0 0)) (by simp [results,Tryz.results17,go_sem,fd0,fd1,fd2]) rfl ⟨⟨_,by rw [HN.out.1,HN.out.2.1],by rw [HN.out.2.2];exact World.ownsRow_nil _ _ _ _⟩,FX⟩
   ·have lt4:w.heap.size+1<w4.heap.size:=World.block_lt_of_cell? _ _ (F1 0 _ rfl).1;obtain ⟨hsA,hgA,⟨r1,r2⟩,c1,c2⟩:=goodG_all hga;obtain ⟨hsB,hgB,⟨r1',r2'⟩,c1',c2'⟩:=goodG_all hgb;go_wp2_with fail;refine wp_region_letters (fun lx:Nat→Value=>{ tmps:=#[sV op,grV r c v,grV r' c' v',undef,Value.pointer (some ⟨w.heap.size,0,none⟩),Value.pointer (some ⟨w.heap.size+1,0,none⟩),Value.pointer (some ⟨w.heap.size+1+1,0,none⟩),lx 7,undef,undef,undef,undef,undef,undef,undef,Value.slice (some ⟨g,0,none⟩) 12 12,sV op,Value.bool true,Value.bool false,Value.bool false,Value.agg #[Value.int .i64 r,Value.int .i64 c,v],Value.bool true,Value.bool false,Value.bool false,Value.bool false,Value.agg #[Value.int .i64 r',Value.int .i64 c',v'],Value.bool true,Value.bool false,Value.bool false,undef,lx 30,lx 31,lx 32,lx 33,lx 34,lx 35,lx 36,lx 37,lx 38,lx 39,lx 40,undef,undef,undef,undef,undef,undef,undef,undef,undef,undef,undef,undef,undef,undef,undef,undef,undef,undef,undef,undef,undef,undef,undef,undef,undef,undef,undef,undef,undef,undef,undef,undef,undef,undef,undef,undef,undef,undef,undef,undef,undef,undef,undef,undef,undef,undef,undef,undef,undef],defers:=[] }) (fun L lx lw=>Hid (Ext w4 lw∧Vec lw (w.heap.size) [.int .i64 r,.int .i64 c,v]∧Vec lw (w.heap.size+1) [.int .i64 r',.int .i64 c',v']∧(L 0=true→lx 30=Value.pointer (some ⟨w.heap.size,0,none⟩))∧(L 1=true→lx 31=.int .i64 r)∧(L 2=true→lx 32=Value.pointer (some ⟨w.heap.size+1,0,none⟩))∧(L 3=true→lx 33=.int .i64 r')∧(L 4=true→lx 34=.int .i64 (max r r'))∧(L 5=true→lx 35=Value.pointer (some ⟨w.heap.size,1,none⟩))∧(L 6=true→lx 36=.int .i64 c)∧(L 7=true→lx 37=Value.pointer (some ⟨w.heap.size+1,1,none⟩))∧(L 8=true→lx 38=.int .i64 c')∧(L 9=true→lx 39=.int .i64 (max c c'))∧(L 10=true→lx 40=Value.agg #[Value.int .i64 (max r r'),Value.int .i64 (max c c'),Value.slice none 0 0])∧(L 11=true→∃ b,lx 7=.pointer (some ⟨b,0,none⟩)∧w4.heap.size≤b∧(L 12=false→Vec lw b [.int .i64 0,.int .i64 0,.slice none 0 0])∧(L 12=true→Vec lw b [.int .i64 (max r r'),.int .i64 (max c c'),.slice none 0 0]))∧(L 12=true→L 11=true))) rfl (by kernel_rfl) (fun jj=>undef) rfl ?_ ?_ ?_
    ·exact ⟨xd (xr w4),F0.later (xd (xr _)),F1.later (xd (xr _)),(fun h=>by cases h),(fun h=>by cases h),(fun h=>by cases h),(fun h=>by cases h),(fun h=>by cases h),(fun h=>by cases h),(fun h=>by cases h),(fun h=>by cases h),(fun h=>by cases h),(fun h=>by cases h),(fun h=>by cases h),(fun h=>by cases h),(fun h=>by cases h)⟩
    ·intro L lx wl i o K hK ho hL haf hI;obtain ⟨X,f0,f1,f2,f3,f4,f5,f6,f7,f8,f9,f10,f11,f12,f13,f14⟩:=hI.out
     match i,ho,hL,haf,hK with
     | 0,ho,hL,haf,hK =>
      cases ho
      (try dsimp only)
      go_wp2_with fail;exact hK (fun jj=>if jj=30 then Value.pointer (some ⟨w.heap.size,0,none⟩) else lx jj) _ ⟨X,f0,f1,(fun _=>rfl),f3,f4,f5,f6,f7,f8,f9,f10,f11,f12,f13,f14⟩
     | 1,ho,hL,haf,hK =>
      cases ho
      (try dsimp only)
      rw [f2 (haf ⟨0,.data⟩ (by simp) rfl)];have a0:=(f0 0 _ rfl).1;go_wp2_with fail;exact hK (fun jj=>if jj=31 then .int .i64 r else if jj=30 then Value.pointer (some ⟨w.heap.size,0,none⟩) else lx jj) _ ⟨X,f0,f1,(fun _=>rfl),(fun _=>rfl),f4,f5,f6,f7,f8,f9,f10,f11,f12,f13,f14⟩
     | 2,ho,hL,haf,hK =>
      cases ho
      (try dsimp only)
      go_wp2_with fail;exact hK (fun jj=>if jj=32 then Value.pointer (some ⟨w.heap.size+1,0,none⟩) else lx jj) _ ⟨X,f0,f1,f2,f3,(fun _=>rfl),f5,f6,f7,f8,f9,f10,f11,f12,f13,f14⟩
     | 3,ho,hL,haf,hK =>
      cases ho
      (try dsimp only)
      rw [f4 (haf ⟨2,.data⟩ (by simp) rfl)];have a0:=(f1 0 _ rfl).1;go_wp2_with fail;exact hK (fun jj=>if jj=33 then .int .i64 r' else if jj=32 then Value.pointer (some ⟨w.heap.size+1,0,none⟩) else lx jj) _ ⟨X,f0,f1,f2,f3,(fun _=>rfl),(fun _=>rfl),f6,f7,f8,f9,f10,f11,f12,f13,f14⟩
     | 4,ho,hL,haf,hK =>
      cases ho
      (try dsimp only)
      rw [f3 (haf ⟨1,.data⟩ (by simp) rfl),f5 (haf ⟨3,.data⟩ (by simp) rfl)];go_wp2_with fail;refine (maxSG r r' wl).mono ?_;rintro rr w' ⟨rfl,E⟩;go_wp2_with fail;exact hK (fun jj=>if jj=34 then .int .i64 (max r r') else if jj=31 then .int .i64 r else if jj=33 then .int .i64 r' else lx jj) _ ⟨xt X E,(f0.later E),(f1.later E),f2,(fun _=>rfl),f4,(fun _=>rfl),(fun _=>rfl),f7,f8,f9,f10,f11,f12,(fun h=>by obtain ⟨b,h1,h2,h3,h4⟩:=f13 h;exact ⟨b,h1,h2,fun h=>(h3 h).later E,fun h=>(h4 h).later E⟩),f14⟩
     | 5,ho,hL,haf,hK =>
      cases ho
      (try dsimp only)
      go_wp2_with fail;exact hK (fun jj=>if jj=35 then Value.pointer (some ⟨w.heap.size,1,none⟩) else lx jj) _ ⟨X,f0,f1,f2,f3,f4,f5,f6,(fun _=>rfl),f8,f9,f10,f11,f12,f13,f14⟩
     | 6,ho,hL,haf,hK =>
      cases ho
      (try dsimp only)
      rw [f7 (haf ⟨5,.data⟩ (by simp) rfl)];have a1:=(f0 1 _ rfl).1;go_wp2_with fail;exact hK (fun jj=>if jj=36 then .int .i64 c else if jj=35 then Value.pointer (some ⟨w.heap.size,1,none⟩) else lx jj) _ ⟨X,f0,f1,f2,f3,f4,f5,f6,(fun _=>rfl),(fun _=>rfl),f9,f10,f11,f12,f13,f14⟩
     | 7,ho,hL,haf,hK =>
      cases ho
      (try dsimp only)
      go_wp2_with fail;exact hK (fun jj=>if jj=37 then Value.pointer (some ⟨w.heap.size+1,1,none⟩) else lx jj) _ ⟨X,f0,f1,f2,f3,f4,f5,f6,f7,f8,(fun _=>rfl),f10,f11,f12,f13,f14⟩
     | 8,ho,hL,haf,hK =>
      cases ho
      (try dsimp only)
      rw [f9 (haf ⟨7,.data⟩ (by simp) rfl)];have a1:=(f1 1 _ rfl).1;go_wp2_with fail;exact hK (fun jj=>if jj=38 then .int .i64 c' else if jj=37 then Value.pointer (some ⟨w.heap.size+1,1,none⟩) else lx jj) _ ⟨X,f0,f1,f2,f3,f4,f5,f6,f7,f8,(fun _=>rfl),(fun _=>rfl),f11,f12,f13,f14⟩
     | 9,ho,hL,haf,hK =>
      cases ho
      (try dsimp only)
      rw [f8 (haf ⟨6,.data⟩ (by simp) rfl),f10 (haf ⟨8,.data⟩ (by simp) rfl)];go_wp2_with fail;refine (maxSG c c' wl).mono ?_;rintro rr w' ⟨rfl,E⟩;go_wp2_with fail;exact hK (fun jj=>if jj=39 then .int .i64 (max c c') else if jj=36 then .int .i64 c else if jj=38 then .int .i64 c' else lx jj) _ ⟨xt X E,(f0.later E),(f1.later E),f2,f3,f4,f5,f6,f7,(fun _=>rfl),f9,(fun _=>rfl),(fun _=>rfl),f12,(fun h=>by obtain ⟨b,h1,h2,h3,h4⟩:=f13 h;exact ⟨b,h1,h2,fun h=>(h3 h).later E,fun h=>(h4 h).later E⟩),f14⟩
     | 10,ho,hL,haf,hK =>
      cases ho
      (try dsimp only)
      rw [f6 (haf ⟨4,.data⟩ (by simp) rfl),f11 (haf ⟨9,.data⟩ (by simp) rfl)];go_wp2_with fail;exact hK (fun jj=>if jj=40 then Value.agg #[Value.int .i64 (max r r'),Value.int .i64 (max c c'),Value.slice none 0 0] else if jj=34 then .int .i64 (max r r') else if jj=39 then .int .i64 (max c c') else lx jj) _ ⟨X,f0,f1,f2,f3,f4,f5,(fun _=>rfl),f7,f8,f9,f10,(fun _=>rfl),(fun _=>rfl),f13,f14⟩
     | 11,ho,hL,haf,hK =>
      cases ho
      (try dsimp only)
      have hst:L 12=true→False:=fun h=>(by have:=f14 h;rw [hL] at this;cases this);have E:=x1 wl (.cells #[.int .i64 0,.int .i64 0,.slice none 0 0] 35);go_wp2_with fail;exact hK (fun jj=>if jj=7 then .pointer (some ⟨wl.heap.size,0,none⟩) else lx jj) _ ⟨xt X E,(f0.later E),(f1.later E),f2,f3,f4,f5,f6,f7,f8,f9,f10,f11,f12,(fun _=>⟨wl.heap.size,rfl,by have:=X.size;omega,fun _=>vec_made wl [.int .i64 0,.int .i64 0,.slice none 0 0] _,fun h=>(hst h).elim⟩),(fun _=>rfl)⟩
     | 12,ho,hL,haf,hK =>
      cases ho
      (try dsimp only)
      have hmk:L 11=true:=haf ⟨11,.data⟩ (by simp) rfl;obtain ⟨b,eb',hb,hz,_⟩:=f13 hmk;have bx:=hz hL;rw [eb',f12 (haf ⟨10,.data⟩ (by simp) rfl)];have b0:=(bx 0 _ rfl).1;have b1:=(bx 1 _ rfl).1;have b2:=(bx 2 _ rfl).1;have fb0:=(bx 0 _ rfl).2;have fb1:=(bx 1 _ rfl).2;have fb2:=(bx 2 _ rfl).2;have hX:=Ext.setL (b:=b) (by omega) [.int .i64 (max r r'),.int .i64 (max c c'),.slice none 0 0] 0 X;have hB:=bx.put3 (.int .i64 (max r r')) (.int .i64 (max c c')) (.slice none 0 0);go_wp2_with fail;exact hK (fun jj=>if jj=7 then .pointer (some ⟨b,0,none⟩) else if jj=40 then Value.agg #[Value.int .i64 (max r r'),Value.int .i64 (max c c'),Value.slice none 0 0] else lx jj) _ ⟨hX,(Vec.farL (k:=b) (by omega) [.int .i64 (max r r'),.int .i64 (max c c'),.slice none 0 0] 0 f0),(Vec.farL (k:=b) (by omega) [.int .i64 (max r r'),.int .i64 (max c c'),.slice none 0 0] 0 f1),f2,f3,f4,f5,f6,f7,f8,f9,f10,f11,(fun _=>rfl),(fun _=>⟨b,rfl,hb,(fun h=>by cases h),fun _=>hB⟩),(fun _=>hmk)⟩
     | k+13,ho,_,_,_=>simp at ho
    ·intro L lx w5 hall hI;obtain ⟨XR,f0,f1,f2,f3,f4,f5,f6,f7,f8,f9,f10,f11,f12,f13,f14⟩:=hI.out;clear hI;have G0:=f0;have G1:=f1;replace f2:=f2 (hall 0 (by simp));replace f3:=f3 (hall 1 (by simp));replace f4:=f4 (hall 2 (by simp));replace f5:=f5 (hall 3 (by simp));replace f6:=f6 (hall 4 (by simp));replace f7:=f7 (hall 5 (by simp));replace f8:=f8 (hall 6 (by simp));replace f9:=f9 (hall 7 (by simp));replace f10:=f10 (hall 8 (by simp));replace f11:=f11 (hall 9 (by simp));replace f12:=f12 (hall 10 (by simp));obtain ⟨bb,eb,lb,_,hz⟩:=f13 (hall 11 (by simp));have BN:=hz (hall 12 (by simp))
     (try dsimp only)
     rw [eb];rw [f2,f3,f4,f5,f6,f7,f8,f9,f10,f11,f12];clear hall hz f0 f1 f2 f3 f4 f5 f6 f7 f8 f9 f10 f11 f12 f13 f14;obtain ⟨bo,hbo⟩:∃ bo,bb=bo:=⟨_,rfl⟩;rw [hbo] at lb BN ⊢;clear hbo eb;have lb0:=lb;have lt5:bo<w5.heap.size:=World.block_lt_of_cell? _ _ (BN 0 _ rfl).1;obtain ⟨R,hR⟩:∃ R:Nat,max r r'=(R:Int):=⟨(max r r').toNat,by omega⟩;obtain ⟨C,hC⟩:∃ C:Nat,max c c'=(C:Int):=⟨(max c c').toNat,by omega⟩;have HRC:Hid (hiG r r'=R∧hiG c c'=C):=⟨hR,hC⟩;have hR1:R≤2000:=(by omega);have hC1:C≤2000:=(by omega);have hC2:1≤C:=(by omega);rw [hR,hC] at BN ⊢;clear hR hC r1 r2 c1 c2 r1' r2' c1' c2';obtain ⟨N,hN⟩:∃ N:Nat,R * C=N:=⟨_,rfl⟩;have hN4:N≤4000000:=(by rw [← hN];exact Nat.mul_le_mul hR1 hC1);have hNi:(R:Int) * (C:Int)=(N:Int):=(by rw [← hN,Int.natCast_mul]);have hwr:IntKind.i64.wrap ((R:Int) * (C:Int))=(N:Int):=(by rw [hNi,IntKind.wrap_i64];omega);obtain ⟨a0,a1,a2⟩:=Vec.three (BN);by_cases hbig:(2000:Int)<(N:Int)
     ·have HN:Hid (R0=0∧C0=0∧L0=[]):=grid_none HG.out (by unfold gridO;rw [hga,hgb,HRC.out.1,HRC.out.2,hNi,decide_eq_false (by omega)];rfl);clear HG HRC h h' hl hl' ht ht' ht2 ht2' hop hga hgb F0 F1 hsA hsB hgA hgB hN hNi;obtain ⟨wy,hy,FX,⟨b0,b1,b2⟩,⟨fb0,fb1,fb2⟩,fd0,fd1,fd2⟩:=finG (F2.later XR) (xt X4 XR) (by omega) 0 0 (.slice none 0 0);go_wp2_with fail;exact bodyPost_ret (v:=grV 0 0 (.slice none 0 0)) (by simp [results,Tryz.results17,go_sem,fd0,fd1,fd2]) rfl ⟨⟨_,by rw [HN.out.1,HN.out.2.1],by rw [HN.out.2.2];exact World.ownsRow_nil _ _ _ _⟩,FX⟩
     ·have HS:Hid (R0=R∧C0=C∧L0=(List.range N).map (gridF o r c l r' c' l' C)):=by
       have:=grid_some HG.out (o:=o) (by unfold gridO;rw [hga,hgb,HRC.out.1,HRC.out.2,hNi,decide_eq_true (by omega)];exact hop);rw [HRC.out.1,HRC.out.2,hNi] at this;exact this
      clear HG HRC hga hgb ht2 ht2';have hN2:decide ((2000:Int)<(N:Int))=false:=(by simpa using hbig);have HF0:Hid (∀ p q:Nat,q<C→gridF o r c l r' c' l' (C:Int) (p * C+q)=cellW o (cellAt r c l p q) (cellAt r' c' l' p q)):=fun p q hq=>gridF_at o r c l r' c' l' C p q hq;obtain ⟨F,hF⟩:∃ F,gridF o r c l r' c' l' C=F:=⟨_,rfl⟩;rw [hF] at HS HF0;clear hF;have HV0:Hid (Vec w5 bo [.int .i64 R,.int .i64 C,.slice none 0 0]∧OwnW w5 (bo+1) (.slice none 0 0) ((List.range 0).map F)∧Ext w4 w5):=⟨BN,World.ownsRow_nil _ _ _ _,XR⟩;go_wp2_with fail;clear hwr hN2 a0 a1 a2 BN XR G0 G1;go_loopw [8] (fun i wr=>∃ (p:Nat) (sv:Value),p≤R∧i=.int .i64 p∧Hid (Vec wr bo [.int .i64 R,.int .i64 C,sv]∧OwnW wr (bo+1) sv ((List.range (p * C)).map F)∧Ext w4 wr)) (fun i _=>R - (intOf i).toNat)
      case atStart=>exact ⟨0,_,by omega,rfl,by rw [Nat.zero_mul];exact HV0⟩
      case round =>
       obtain ⟨p,sv,hp,rfl,HV⟩:=hrel;obtain ⟨VO,OW,XW⟩:=HV.out;obtain ⟨ps,ns,cs,rfl⟩:=ownW_slice OW;obtain ⟨a0,a1,a2⟩:=Vec.three (VO);by_cases hlt:p<R
       ·have i2:(p:Int)<(R:Int):=(by omega);have HV1:Hid (Vec wr bo [.int .i64 R,.int .i64 C,(.slice ps ns cs)]∧OwnW wr (bo+1) (.slice ps ns cs) ((List.range (p * C+0)).map F)∧Ext w4 wr):=HV;go_wp2_with fail;clear a0 a1 a2 VO OW XW HV;go_loopw [9] (fun j wq=>∃ (q:Nat) (sv:Value),q≤C∧j=.int .i64 q∧Hid (Vec wq bo [.int .i64 R,.int .i64 C,sv]∧OwnW wq (bo+1) sv ((List.range (p * C+q)).map F)∧Ext w4 wq)) (fun j _=>C - (intOf j).toNat)
        case atStart=>exact ⟨0,_,by omega,rfl,HV1⟩
        case round =>
         obtain ⟨q,sv,hq,rfl,HVq⟩:=hrel;obtain ⟨VO,OW,XW⟩:=HVq.out;clear HV1;obtain ⟨ps,ns,cs,rfl⟩:=ownW_slice OW;obtain ⟨a0,a1,a2⟩:=Vec.three (VO);by_cases hlq:q<C
         ·have j2:(q:Int)<(C:Int):=(by omega);have hFk:=HF0.out p q hlq;obtain ⟨k,hk⟩:∃ k,p * C+q=k:=⟨_,rfl⟩;have hkN:k<N:=by
           have h1:(p+1) * C≤R * C:=Nat.mul_le_mul_right C hlt;rw [Nat.succ_mul] at h1;omega
          have Hk:Hid (p * C+(q+1)=k+1):=(by show _=_;omega);rw [hk] at hFk OW;clear HVq hk;have CA:Hid (∀ W,Ext w W→Calls Tryz.prog 68 #[grV r c v,.int .i64 (p:Int),.int .i64 (q:Int)] W fun e w'=>e=.returned (cellT (cellAt r c l p q))∧Ext W w'):=fun W hW=>cellS r c v l p q W (h.later hW) hsA (by omega) (by omega) (by omega) (by omega);have CB:Hid (∀ W,Ext w W→Calls Tryz.prog 68 #[grV r' c' v',.int .i64 (p:Int),.int .i64 (q:Int)] W fun e w'=>e=.returned (cellT (cellAt r' c' l' p q))∧Ext W w'):=fun W hW=>cellS r' c' v' l' p q W (h'.later hW) hsB (by omega) (by omega) (by omega) (by omega);have mA:Hid (∀ e,cellAt r c l p q=some e→e ∈ l):=fun e he=>cellAt_mem he;have mB:Hid (∀ e,cellAt r' c' l' p q=some e→e ∈ l'):=fun e he=>cellAt_mem he;obtain ⟨CA1,hA1⟩:∃ A,cellAt r c l p q=A:=⟨_,rfl⟩;obtain ⟨CB1,hB1⟩:∃ A,cellAt r' c' l' p q=A:=⟨_,rfl⟩;rw [hA1] at CA mA hFk;rw [hB1] at CB mB hFk;clear hA1 hB1;obtain ⟨⟨k1,n1,d1,x1',t1⟩,g1,hT1,hs1,hn1⟩:=cellT_is CA1;obtain ⟨⟨k2,n2,d2,x2,t2⟩,g2,hT2,hs2,hn2⟩:=cellT_is CB1;rw [hT1] at CA;rw [hT2] at CB;have Hs:Hid ((g1=true→CA1=some ⟨k1,n1,d1,x1',t1⟩)∧(g1=false→CA1=none)∧(g2=true→CB1=some ⟨k2,n2,d2,x2,t2⟩)∧(g2=false→CB1=none)):=⟨hs1,hn1,hs2,hn2⟩;obtain ⟨⟨kq,nq,dq,xq,tq⟩,hFq⟩:∃ q,F k=q:=⟨_,rfl⟩;have HQ:Hid (cellW o CA1 CB1=⟨kq,nq,dq,xq,tq⟩):=(by show _=_;rw [← hFk];exact hFq);have HFq:Hid (F k=⟨kq,nq,dq,xq,tq⟩):=hFq;clear hT1 hT2 hs1 hn1 hs2 hn2 hFk hFq;have G0:=F0.later XW;have G1:=F1.later XW;have XA:=xt X4 XW;obtain ⟨c0,c1,c2⟩:=Vec.three (G0);go_wp2_with fail;clear c0 c1 c2;refine (CA.out _ XA).mono ?_;rintro e w6 ⟨rfl,e6⟩;obtain ⟨wz,w7,hz,hy,B7,X7,⟨z0,z1,z2,z3,z4⟩,fz0,fz1,fz2,fz3,fz4⟩:=newB w6 k1 n1 d1 x1' t1;have Y7:=xt e6 X7;have H1:=G1.later Y7;obtain ⟨c0,c1,c2⟩:=Vec.three (H1);go_wp2_with fail;clear c0 c1 c2 hz hy z0 z1 z2 z3 z4 fz0 fz1 fz2 fz3 fz4;refine (CB.out _ (xt XA Y7)).mono ?_;rintro e w8 ⟨rfl,e8⟩;obtain ⟨wz,w9,hz,hy,B9,X9,⟨z0,z1,z2,z3,z4⟩,fz0,fz1,fz2,fz3,fz4⟩:=newB w8 k2 n2 d2 x2 t2;have Y9:=xt (xt Y7 e8) X9;have P1:=(B7.later e8).later X9;go_wp2_with fail;clear hz hy z0 z1 z2 z3 z4 fz0 fz1 fz2 fz3 fz4 B7 G0 G1 H1 CA CB;refine (errVS [35,78,47,65] w9).mono ?_;rintro e w10 ⟨rfl,e10⟩;have P1:=P1.later e10;have P2:=B9.later e10;have YA:=xt Y9 e10;have XD:=xt XA YA;clear B9 Y7 Y9 e6 e8 e10 X7 X9;obtain ⟨wz,w11,hz,hy,BV,XV,⟨z0,z1,z2,z3,z4⟩,fz0,fz1,fz2,fz3,fz4⟩:=newB w10 4 false 0 0 [35,78,47,65];go_upto_region 15 with fail;clear hz hy z0 z1 z2 z3 z4 fz0 fz1 fz2 fz3 fz4;go_cut [78] (fun s wc=>s=.bool (g1 && g2)∧w11=wc)
          case first =>
           cases g1 <;> cases g2 <;> (go_wp2_with fail;go_meet;exact ⟨rfl,rfl⟩)
          case rest =>
           obtain ⟨rfl,rfl⟩:=hcut;go_upto_if 78 with fail;go_cut [] (fun wc=>Hid (Vec wc w10.heap.size [.int .i64 kq,.bool nq,.int .i64 dq,.int .i64 xq,sV tq]∧Ext w10 wc))
           case first =>
            cases g1
            ·(try simp only [Bool.false_and])
             have HN:Hid (kq=4∧nq=false∧dq=0∧xq=0∧tq=[35,78,47,65]):=by
              have:=HQ.out;rw [Hs.out.2.1 rfl] at this;cases this;exact ⟨rfl,rfl,rfl,rfl,rfl⟩
             go_wp2_with fail;go_meet
             case rel=>exact ⟨by rw [HN.out.1,HN.out.2.1,HN.out.2.2.1,HN.out.2.2.2.1,HN.out.2.2.2.2];exact BV,XV⟩
            ·(try simp only [Bool.true_and])
             cases g2
             ·have HN:Hid (kq=4∧nq=false∧dq=0∧xq=0∧tq=[35,78,47,65]):=by
               have:=HQ.out;rw [Hs.out.1 rfl,Hs.out.2.2.2 rfl] at this;cases this;exact ⟨rfl,rfl,rfl,rfl,rfl⟩
              go_wp2_with fail;go_meet
              case rel=>exact ⟨by rw [HN.out.1,HN.out.2.1,HN.out.2.2.1,HN.out.2.2.2.1,HN.out.2.2.2.2];exact BV,XV⟩
             ·have hin:=mA.out _ (Hs.out.1 rfl);have hin':=mB.out _ (Hs.out.2.2.1 rfl);have CO:Hid (Calls Tryz.prog 70 #[sV op,valV k1 n1 d1 x1' t1,valV k2 n2 d2 x2 t2] w11 fun e w'=>e=.returned (valV kq nq dq xq tq)∧Ext w11 w'):=by
               have:=l6ApplyS op o hop k1 n1 d1 x1' t1 k2 n2 d2 x2 t2 w11 (ht _ hin) (ht' _ hin') (hgA _ hin) (hgB _ hin');rw [workT_is o ⟨k1,n1,d1,x1',t1⟩ ⟨k2,n2,d2,x2,t2⟩] at this;have hq:=HQ.out;rw [Hs.out.1 rfl,Hs.out.2.2.1 rfl] at hq;change workT o _ _=_ at hq;rw [hq] at this;exact this
              clear hin hin';obtain ⟨f0,f1,f2,f3,f4⟩:=Vec.five ((P1.later XV));obtain ⟨c0,c1,c2,c3,c4⟩:=Vec.five ((P2.later XV));go_wp2_with fail;clear f0 f1 f2 f3 f4 c0 c1 c2 c3 c4;refine (CO.out).mono ?_;rintro e w9 ⟨rfl,e9⟩;have BW:=BV.later e9;obtain ⟨b0,b1,b2,b3,b4⟩:=Vec.five (BW);obtain ⟨fb0,fb1,fb2,fb3,fb4⟩:=Vec.fiveF (BW);have hX:=Ext.setL (b:=w10.heap.size) (Nat.le_refl _) [.int .i64 kq,.bool nq,.int .i64 dq,.int .i64 xq,sV tq] 0 (xt XV e9);have hB:=BW.put5 (.int .i64 kq) (.bool nq) (.int .i64 dq) (.int .i64 xq) (sV tq);go_wp2_with fail;go_meet
              case rel=>exact ⟨hB,hX⟩
           case rest =>
            obtain ⟨BQ,XQ⟩:=hcut.out;have YQ:=xt YA XQ;have VQ:=VO.later YQ;have OQ:Hid (OwnW wc (bo+1) (.slice ps ns cs) ((List.range k).map F)):=ownW_later OW YQ;have Y4:=xt XW YQ;clear BV XV P1 P2 YA XQ YQ VO OW XW HQ Hs XD mA mB a0 a1 a2;obtain ⟨inf,hi,hz,hz1,hz2⟩:=infoW;obtain ⟨a0,a1,a2⟩:=Vec.three (VQ);obtain ⟨c0,c1,c2,c3,c4⟩:=Vec.five (BQ);have ltC:bo<wc.heap.size:=World.block_lt_of_cell? _ _ a0;go_wp2_with (at_builtin;refine wpList_append_own _ rfl _ _ 33 rfl (bo+1) 26 inf (valV 0 false 0 0 []) 5 48 Tryz.underlying33 hi hz hz1 hz2 rfl (by decide) _ _ _ rfl (OQ.out.alloc _) ⟨wc.heap.size,0,none⟩ 1 1 [.int .i64 kq,.bool nq,.int .i64 dq,.int .i64 xq,sV tq] rfl rfl (World.news_of_block (heap_alloc_new _ _)) (by simp [Value.oneCell']) (by simp only [maxLen,List.length_map,List.length_range];omega) (by simp only [List.length_map,List.length_range];omega) (by simp;omega) ?_);intro v7 wC ownC gC _;have lb:=ownW_block OQ.out;have VC:=vec_same (VQ.later (x1 wc _)) (gC.block bo (by rw [World.size_alloc];omega) (fun q=>by have:=lb _ q.symm;omega));have Y5:Ext w4 wC:=(xa Y4 _).grown gC (xa Y4 _).size (fun r hr=>by have:=lb r hr;omega);have OC:OwnW wC (bo+1) v7 ((List.range (k+1)).map F):=by
             rw [List.range_succ,List.map_append];show World.ownsRow _ _ _ _ _ _ _;rw [flatV_append,List.length_append,List.length_map,List.length_range];have hk1:[k].map F=[⟨kq,nq,dq,xq,tq⟩]:=(by simp only [List.map_cons,List.map_nil];rw [HFq.out]);rw [hk1];exact ownC
            obtain ⟨p7,n7,c7,rfl⟩:=ownW_slice OC;clear a0 a1 a2 c0 c1 c2 c3 c4 ownC gC lb VQ BQ OQ Y4 hi hz hz1 hz2 ltC;have q2:=(VC 2 _ rfl).1;have p2:=(VC 2 _ rfl).2;have VD:Vec (wC.setCell ⟨bo,2,none⟩ (.slice p7 n7 c7)) bo [.int .i64 R,.int .i64 C,(.slice p7 n7 c7)]:=VC.put 2 (by simp) _;have OD:=ownW_far OC (p:=⟨bo,2,none⟩) (Nat.lt_succ_self _) (.slice p7 n7 c7);have XF:=xset Y5 (p:=⟨bo,2,none⟩) lb0 (.slice p7 n7 c7);obtain ⟨wD,hD⟩:∃ wD,wC.setCell ⟨bo,2,none⟩ (.slice p7 n7 c7)=wD:=⟨_,rfl⟩;rw [hD] at VD OD XF;have HVn:Hid (Vec wD bo [.int .i64 R,.int .i64 C,(.slice p7 n7 c7)]∧OwnW wD (bo+1) (.slice p7 n7 c7) ((List.range (p * C+(q+1))).map F)∧Ext w4 wD):=(by rw [Hk.out];exact ⟨VD,OD,XF⟩);clear VC OC Y5 VD OD XF;go_wp2_with fail;go_roundw
            case rel=>exact ⟨q+1,_,by omega,by go_num,HVn⟩
            case measure=>simp [intOf];omega
         ·obtain rfl:q=C:=(by omega);have HVn:Hid (Vec wr bo [.int .i64 R,.int .i64 q,(.slice ps ns cs)]∧OwnW wr (bo+1) (.slice ps ns cs) ((List.range ((p+1) * q)).map F)∧Ext w4 wr):=(by rw [Nat.succ_mul];exact HVq);clear HVq VO OW XW;go_wp2_with fail;go_roundw
          case rel=>exact ⟨p+1,_,by omega,by go_num,HVn⟩
          case measure=>simp [intOf];omega
       ·obtain rfl:p=R:=(by omega);have ltB:w.heap.size+1+1<w4.heap.size:=World.block_lt_of_cell? _ _ (F2 0 _ rfl).1;obtain ⟨wy,hy,FX,⟨b0,b1,b2⟩,⟨fb0,fb1,fb2⟩,fd0,fd1,fd2⟩:=finG (F2.later XW) (xt X4 XW) (by omega) p C (.slice ps ns cs);have ltD:w.heap.size+1+1<(bo+1):=(by omega);have OY:Hid (OwnW wy (bo+1) (.slice ps ns cs) ((List.range N).map F)):=by
         show OwnW _ _ _ _;rw [← hy,← hN];exact ownW_far (ownW_far (ownW_far OW (p:=⟨_,_,_⟩) ltD _) (p:=⟨_,_,_⟩) ltD _) (p:=⟨_,_,_⟩) ltD _
        go_wp2_with fail;exact bodyPost_ret (v:=grV p C (.slice ps ns cs)) (by simp [results,Tryz.results17,go_sem,fd0,fd1,fd2]) rfl ⟨⟨_,by rw [HS.out.1,HS.out.2.1],by rw [HS.out.2.2];exact ownW_base OY.out (by omega)⟩,FX⟩
set_option maxRecDepth 8000 in
set_option maxHeartbeats 2000000 in
theorem compareS (k:Int) (n:Bool) (d x:Int) (t:List UInt8) (k':Int) (n':Bool) (d' x':Int) (t':List UInt8) (w:World) (hl:t.length≤2000000) (hl':t'.length≤2000000) :
  Calls Tryz.prog 10 #[valV k n d x t,valV k' n' d' x' t'] w fun e w'=>e=.returned (.int .i64 (compareV k n d x t k' n' d' x' t'))∧Ext w w':=by
 obtain ⟨R,hR⟩:∃ R,compareV k n d x t k' n' d' x' t'=R:=⟨_,rfl⟩;have HR0:Hid (compareV k n d x t k' n' d' x' t'=R):=hR;rw [hR];clear hR;have X1:=x1 w (.cells #[.int .i64 k,.bool n,.int .i64 d,.int .i64 x,sV t] 26);have B1:=vec_made w (valL k n d x t) 26;obtain ⟨wa,ha⟩:∃ wa,w.alloc (.cells #[.int .i64 k,.bool n,.int .i64 d,.int .i64 x,sV t] 26)=wa:=⟨_,rfl⟩;have X2:=x1 wa (.cells #[.int .i64 k',.bool n',.int .i64 d',.int .i64 x',sV t'] 26);have B2:=vec_made wa (valL k' n' d' x' t') 26;obtain ⟨wb,hb⟩:∃ wb,wa.alloc (.cells #[.int .i64 k',.bool n',.int .i64 d',.int .i64 x',sV t'] 26)=wb:=⟨_,rfl⟩;have sa:wa.heap.size=w.heap.size+1:=by rw [← ha,World.size_alloc]
 have sb:wb.heap.size=w.heap.size+1+1:=by rw [← hb,World.size_alloc,sa]
 change Vec (w.alloc (.cells #[.int .i64 k,.bool n,.int .i64 d,.int .i64 x,sV t] 26)) _ _ at B1;change Vec (wa.alloc (.cells #[.int .i64 k',.bool n',.int .i64 d',.int .i64 x',sV t'] 26)) _ _ at B2;rw [ha] at X1 B1;rw [hb] at X2 B2;rw [sa] at B2;have B1:=B1.later X2;have X:=xt X1 X2;clear X1 X2;have a0:=(B1 0 _ rfl).1;have a1:=(B1 1 _ rfl).1;have a2:=(B1 2 _ rfl).1;have a3:=(B1 3 _ rfl).1;have a4:=(B1 4 _ rfl).1;have c0:=(B2 0 _ rfl).1;have c1:=(B2 1 _ rfl).1;have c2:=(B2 2 _ rfl).1;have c3:=(B2 3 _ rfl).1;have c4:=(B2 4 _ rfl).1;go_enter Tryz.func10,Tryz.ntmps10;go_wp2_with fail;clear ha hb sa sb a0 a1 a2 a3 a4 c0 c1 c2 c3 c4;refine (goodVS k n d x t wb hl).mono ?_;rintro e w1 ⟨rfl,e1⟩;have XA:=xt X e1;obtain ⟨g,hg⟩:∃ g,goodV k n d x t=g:=⟨_,rfl⟩;rw [hg];cases g
 ·have HR:Hid (2=R):=by show _=_;rw [← HR0.out];simp [compareV,hg]
  go_wp2_with fail;go_ret;exact ⟨congrArg (fun z=>Ending.returned (.int .i64 z)) HR.out,XA⟩
 ·have a0:=((B1.later e1) 0 _ rfl).1;have a1:=((B1.later e1) 1 _ rfl).1;have a2:=((B1.later e1) 2 _ rfl).1;have a3:=((B1.later e1) 3 _ rfl).1;have a4:=((B1.later e1) 4 _ rfl).1;have c0:=((B2.later e1) 0 _ rfl).1;have c1:=((B2.later e1) 1 _ rfl).1;have c2:=((B2.later e1) 2 _ rfl).1;have c3:=((B2.later e1) 3 _ rfl).1;have c4:=((B2.later e1) 4 _ rfl).1;go_wp2_with fail;clear a0 a1 a2 a3 a4 c0 c1 c2 c3 c4;refine (goodVS k' n' d' x' t' w1 hl').mono ?_;rintro e w2 ⟨rfl,e2⟩;have XB:=xt XA e2;obtain ⟨g',hg'⟩:∃ g',goodV k' n' d' x' t'=g':=⟨_,rfl⟩;rw [hg'];cases g'
  ·have HR:Hid (2=R):=by show _=_;rw [← HR0.out];simp [compareV,hg']
   go_wp2_with fail;go_ret;exact ⟨congrArg (fun z=>Ending.returned (.int .i64 z)) HR.out,XB⟩
  ·have a0:=(((B1.later e1).later e2) 0 _ rfl).1;have a1:=(((B1.later e1).later e2) 1 _ rfl).1;have a2:=(((B1.later e1).later e2) 2 _ rfl).1;have a3:=(((B1.later e1).later e2) 3 _ rfl).1;have a4:=(((B1.later e1).later e2) 4 _ rfl).1;have c0:=(((B2.later e1).later e2) 0 _ rfl).1;have c1:=(((B2.later e1).later e2) 1 _ rfl).1;have c2:=(((B2.later e1).later e2) 2 _ rfl).1;have c3:=(((B2.later e1).later e2) 3 _ rfl).1;have c4:=(((B2.later e1).later e2) 4 _ rfl).1;by_cases h4:k=4
   ·have hb4:(k == 4)=true:=(by simpa using h4);have HR:Hid (2=R):=(by show _=_;rw [← HR0.out];simp [compareV,h4]);subst h4;go_wp2_with fail;go_ret;exact ⟨congrArg (fun z=>Ending.returned (.int .i64 z)) HR.out,XB⟩
   ·have hb4:(k == 4)=false:=(by simpa using h4);by_cases h4':k'=4
    ·have hb4':(k' == 4)=true:=(by simpa using h4');have HR:Hid (2=R):=(by show _=_;rw [← HR0.out];simp [compareV,h4']);subst h4';go_wp2_with fail;go_ret;exact ⟨congrArg (fun z=>Ending.returned (.int .i64 z)) HR.out,XB⟩
    ·have hb4':(k' == 4)=false:=(by simpa using h4');obtain ⟨v1,z1⟩:=beside_eq hg k';obtain ⟨v2,z2⟩:=beside_eq hg' k;have HR:Hid (cmpR (bk k k') n d x (bt k t k') (bk k' k) n' d' x' (bt k' t' k)=R):=(by show _=_;rw [← HR0.out];simp [compareV,hg,hg',h4,h4']);have CC:=fun W=>cmpS6 k n d x t k' n' d' x' t' W _ _ _ _ _ v1 z1 (bt_len k k' hl) _ _ _ _ _ v2 z2 (bt_len k' k hl');clear v1 v2 z1 z2 hg hg';go_wp2_with fail;refine (CC _).mono ?_;rintro e w3 ⟨rfl,e3⟩;go_wp2_with fail;go_ret;exact ⟨congrArg (fun z=>Ending.returned (.int .i64 z)) HR.out,xt XB e3⟩
def eqVB (k:Int) (n:Bool) (d x:Int) (t:List UInt8) (k':Int) (n':Bool) (d' x':Int) (t':List UInt8):Bool:=decide (k=k'∧n=n'∧d=d'∧x=x'∧t=t')
set_option maxHeartbeats 1000000 in
theorem val_eql (k:Int) (n:Bool) (d x:Int) (t:List UInt8) (k':Int) (n':Bool) (d' x':Int) (t':List UInt8) (W:World) :
  (binOp BinOp.eql 26 (valV k n d x t) (valV k' n' d' x' t')).run Tryz.prog W=.ok (.bool (eqVB k n d x t k' n' d' x' t')) W:=by
 unfold eqVB;by_cases h:k=k'∧n=n'∧d=d'∧x=x'∧t=t'
 ·obtain ⟨rfl,rfl,rfl,rfl,rfl⟩:=h
  go_simp
 ·rw [decide_eq_false h];have H:Hid (¬ (k=k'∧n=n'∧d=d'∧x=x'∧t=t')):=h;clear h
  go_simp
  intros
  have:=H.out
  simp_all
set_option maxHeartbeats 1000000 in
theorem val_neq (k:Int) (n:Bool) (d x:Int) (t:List UInt8) (k':Int) (n':Bool) (d' x':Int) (t':List UInt8) (W:World) :
  (binOp BinOp.neq 26 (valV k n d x t) (valV k' n' d' x' t')).run Tryz.prog W=.ok (.bool (!(eqVB k n d x t k' n' d' x' t'))) W:=by
 unfold eqVB;by_cases h:k=k'∧n=n'∧d=d'∧x=x'∧t=t'
 ·obtain ⟨rfl,rfl,rfl,rfl,rfl⟩:=h
  go_simp
 ·rw [decide_eq_false h];have H:Hid (¬ (k=k'∧n=n'∧d=d'∧x=x'∧t=t')):=h;clear h
  go_simp
  intros
  have:=H.out
  simp_all
end Go.Proofs.YtkadkfmidlhedaaGreatDoor

