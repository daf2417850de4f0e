/-
  Several texts in one: W9d, V6w, V9y, Rh.
-/
import Derived.Test.YtkadkfmidlhedaaGreatDoorMg49
import Derived.Test.YtkadkfmidlhedaaGreatDoorMg41
import Derived.Test.YtkadkfmidlhedaaGreatDoorMg24
import Derived.Test.YtkadkfmidlhedaaGreatDoorMg35
import Derived.Deep.RegionHeld3
import Derived.Test.YtkadkfmidlhedaaGreatDoorMg17
set_option maxRecDepth 8000
set_option maxHeartbeats 2000000
namespace Go.Proofs.YtkadkfmidlhedaaGreatDoor
open Go.RowKit
theorem zW1 (a b:Int) (w:World) :
  Calls Tryz.prog 67 #[iQ a,iQ b] w fun e w'=>e=.returned (iQ (max a b))/\Ext w w':=by
 go_enter Tryz.func67,Tryz.ntmps67
 go_wp2
 all_goals go_ret
 all_goals exact ⟨congrArg (fun z=>Ending.returned (iQ z)) (by omega),xr _⟩
theorem zRE (o:Nat) (r c:Int) (l:List VT) (r' c':Int) (l':List VT) (D p q:Nat) (hq:q<D):zHK o r c l r' c' l' (D:Int) (p * D+q)=zKM o (cellAt r c l p q) (cellAt r' c' l' p q):=by
 have h1:(p * D+q) / D=p:=by rw [Nat.mul_comm,Nat.mul_add_div (by omega),Nat.div_eq_of_lt hq,Nat.add_zero]
 have h2:(p * D+q) % D=q:=Nat.mul_add_mod_of_lt hq;have e1:((p * D+q:Nat):Int) / (D:Int)=p:=by rw [<- Int.natCast_ediv,h1]
 have e2:((p * D+q:Nat):Int) % (D:Int)=q:=by rw [<- Int.natCast_emod,h2]
 unfold zHK;rw [e1,e2]
theorem zV6 (op:List UInt8) (r c:Int) (v:Value) (l:List VT) (r' c':Int) (v':Value) (l':List VT) (w:World) (h:zB6 w v l) (h':zB6 w v' l') (hl:l.length<=1048576) (hl':l'.length<=1048576) (ht:∀ e ∈ l,e.t.length<=1048576) (ht':∀ e ∈ l',e.t.length<=1048576) :
  Calls Tryz.prog 17 #[sV op,grV r c v,grV r' c' v'] w fun e w'=>(∃ sv,e=.returned (grV (zDV op r c l r' c' l').1 (zDV op r c l r' c' l').2.1 sv)/\OwnW w' w.heap.size sv (zDV op r c l r' c' l').2.2)/\Ext w w':=by
 obtain ⟨⟨R0,C0,L0⟩,hG⟩:∃ G,zDV op r c l r' c' l'=G:=⟨_,rfl⟩;have HG:Hid (zDV op r c l r' c' l'=(R0,C0,L0)):=hG;rw [hG];clear hG;obtain ⟨u0,u1,u2,h0,h1,h2,s0,s1,s2,B0,B1,B2,X⟩:=mkB3 w [iQ r,iQ c,v] [iQ r',iQ c',v'] [iQ 0,iQ 0,.slice none 0 0] 35 35 35;go_enter Tryz.func17,Tryz.ntmps17;go_wp2_with fail;clear h0 s0 h1 s1 h2 s2;refine (opsS u2).mono ?_;rintro e w1 ⟨g,rfl,VP,e1⟩;go_wp2_with fail;refine (inS opsL op g 12 w1 (by decide) VP).mono ?_;rintro e w1' ⟨rfl,rfl⟩;rw [zJ3];have D0:=B0.l e1;have D1:=B1.l e1;have D2:=B2.l e1;have X2:=xt X e1;clear B0 B1 B2 X VP e1;cases hop:opN op with
 | none =>
  rw [show (none:Option Nat).isSome=false from rfl];have HN:Hid (R0=0/\C0=0/\L0=[]):=zBC HG.out (by unfold zE4;rw [hop];exact ite_self _);clear HG h h' hl hl' ht ht' D0 D1 hop;obtain ⟨wy,hy,FX,⟨b0,b1,b2⟩,⟨fb0,fb1,fb2⟩,fd0,fd1,fd2⟩:=finG (D2) (X2) (by omega) 0 0 (.slice none 0 0);go_wp2_with fail;exact bodyPost_ret (v:=grV 0 0 (.slice none 0 0)) (by simp [results,Tryz.results17,go_sem,fd0,fd1,fd2]) rfl ⟨⟨_,by rw [HN.out.1,HN.out.2.1],by rw [HN.out.2.2];exact World.ownsRow_nil _ _ _ _⟩,FX⟩
 | some o =>
  rw [show (some o:Option Nat).isSome=true from rfl];have ht2:∀ e ∈ l,e.t.length<=2000000:=fun e he=>by have:=ht e he;omega
  have ht2':∀ e ∈ l',e.t.length<=2000000:=fun e he=>by have:=ht' e he;omega
  obtain ⟨a0,a1,a2⟩:=Vec.three (D0);go_wp2_with fail;clear a0 a1 a2;refine (zSG r c v l _ (h.l X2) (by omega) ht2).mono ?_;rintro e w3 ⟨rfl,e3⟩;have E0:=D0.l e3;have E1:=D1.l e3;have E2:=D2.l e3;have X3:=xt X2 e3;clear D0 D1 D2 X2 e3;obtain ⟨ga,hga⟩:=nm (zE5 r c l);rw [hga];cases ga
  ·have HN:Hid (R0=0/\C0=0/\L0=[]):=zBC HG.out (by unfold zE4;rw [hga];rfl);clear HG h h' hl hl' ht ht' ht2 ht2' hop hga E0 E1;obtain ⟨wy,hy,FX,⟨b0,b1,b2⟩,⟨fb0,fb1,fb2⟩,fd0,fd1,fd2⟩:=finG (E2) (X3) (by omega) 0 0 (.slice none 0 0);go_wp2_with fail;exact bodyPost_ret (v:=grV 0 0 (.slice none 0 0)) (by simp [results,Tryz.results17,go_sem,fd0,fd1,fd2]) rfl ⟨⟨_,by rw [HN.out.1,HN.out.2.1],by rw [HN.out.2.2];exact World.ownsRow_nil _ _ _ _⟩,FX⟩
  ·obtain ⟨c0,c1,c2⟩:=Vec.three (E1);go_wp2_with fail;clear c0 c1 c2;refine (zSG r' c' v' l' w3 (h'.l X3) (by omega) ht2').mono ?_;rintro e w4 ⟨rfl,e4⟩;have F0:=E0.l e4;have F1:=E1.l e4;have F2:=E2.l e4;have X4:=xt X3 e4;clear E0 E1 E2 X3 e4;obtain ⟨gb,hgb⟩:=nm (zE5 r' c' l');rw [hgb];cases gb
   ·have HN:Hid (R0=0/\C0=0/\L0=[]):=zBC HG.out (by unfold zE4;rw [hga,hgb];rfl);clear HG h h' hl hl' ht ht' ht2 ht2' hop hga hgb F0 F1;obtain ⟨wy,hy,FX,⟨b0,b1,b2⟩,⟨fb0,fb1,fb2⟩,fd0,fd1,fd2⟩:=finG (F2) (X4) (by omega) 0 0 (.slice none 0 0);go_wp2_with fail;exact bodyPost_ret (v:=grV 0 0 (.slice none 0 0)) (by simp [results,Tryz.results17,go_sem,fd0,fd1,fd2]) rfl ⟨⟨_,by rw [HN.out.1,HN.out.2.1],by rw [HN.out.2.2];exact World.ownsRow_nil _ _ _ _⟩,FX⟩
   ·have lt4:w.heap.size+1<w4.heap.size:=World.block_lt_of_cell? _ _ (F1 0 _ rfl).1;obtain ⟨hsA,hgA,⟨r1,r2⟩,c1,c2⟩:=zD7 hga;obtain ⟨hsB,hgB,⟨r1',r2'⟩,c1',c2'⟩:=zD7 hgb;go_wp2_with fail;refine zA2 (fun lx:Nat->Value=>{ tmps:=#[sV op,grV r c v,grV r' c' v',undef,Value.pointer (some ⟨w.heap.size,0,none⟩),Value.pointer (some ⟨w.heap.size+1,0,none⟩),Value.pointer (some ⟨w.heap.size+1+1,0,none⟩),lx 7,undef,undef,undef,undef,undef,undef,undef,Value.slice (some ⟨g,0,none⟩) 12 12,sV op,Value.bool true,Value.bool false,Value.bool false,Value.agg #[Value.int .i64 r,Value.int .i64 c,v],Value.bool true,Value.bool false,Value.bool false,Value.bool false,Value.agg #[Value.int .i64 r',Value.int .i64 c',v'],Value.bool true,Value.bool false,Value.bool false,undef,lx 30,lx 31,lx 32,lx 33,lx 34,lx 35,lx 36,lx 37,lx 38,lx 39,lx 40,undef,undef,undef,undef,undef,undef,undef,undef,undef,undef,undef,undef,undef,undef,undef,undef,undef,undef,undef,undef,undef,undef,undef,undef,undef,undef,undef,undef,undef,undef,undef,undef,undef,undef,undef,undef,undef,undef,undef,undef,undef,undef,undef,undef,undef,undef,undef,undef,undef],defers:=[] }) (fun L lx lw=>Hid (Ext w4 lw/\Vec lw (w.heap.size) [iQ r,iQ c,v]/\Vec lw (w.heap.size+1) [iQ r',iQ c',v']/\(L 0=true->lx 30=Value.pointer (some ⟨w.heap.size,0,none⟩))/\(L 1=true->lx 31=iQ r)/\(L 2=true->lx 32=Value.pointer (some ⟨w.heap.size+1,0,none⟩))/\(L 3=true->lx 33=iQ r')/\(L 4=true->lx 34=iQ (max r r'))/\(L 5=true->lx 35=Value.pointer (some ⟨w.heap.size,1,none⟩))/\(L 6=true->lx 36=iQ c)/\(L 7=true->lx 37=Value.pointer (some ⟨w.heap.size+1,1,none⟩))/\(L 8=true->lx 38=iQ c')/\(L 9=true->lx 39=iQ (max c c'))/\(L 10=true->lx 40=Value.agg #[iQ (max r r'),iQ (max c c'),Value.slice none 0 0])/\(L 11=true->∃ b,lx 7=.pointer (some ⟨b,0,none⟩)/\w4.heap.size<=b/\(L 12=false->Vec lw b [iQ 0,iQ 0,.slice none 0 0])/\(L 12=true->Vec lw b [iQ (max r r'),iQ (max c c'),.slice none 0 0]))/\(L 12=true->L 11=true))) rfl (by kernel_rfl) (fun jj=>undef) rfl ?_ ?_ ?_
    ·exact ⟨xd (xr w4),F0.l (xd (xr _)),F1.l (xd (xr _)),(fun h=>by cases h),(fun h=>by cases h),(fun h=>by cases h),(fun h=>by cases h),(fun h=>by cases h),(fun h=>by cases h),(fun h=>by cases h),(fun h=>by cases h),(fun h=>by cases h),(fun h=>by cases h),(fun h=>by cases h),(fun h=>by cases h),(fun h=>by cases h)⟩
    ·intro L lx wl i o K hK ho hL haf hI;obtain ⟨X,f0,f1,f2,f3,f4,f5,f6,f7,f8,f9,f10,f11,f12,f13,f14⟩:=hI.out
     match i,ho,hL,haf,hK with
     | 0,ho,hL,haf,hK =>
      cases ho
      (try dsimp only)
      go_wp2_with fail;exact hK (fun jj=>if jj=30 then Value.pointer (some ⟨w.heap.size,0,none⟩) else lx jj) _ ⟨X,f0,f1,(fun _=>rfl),f3,f4,f5,f6,f7,f8,f9,f10,f11,f12,f13,f14⟩
     | 1,ho,hL,haf,hK =>
      cases ho
      (try dsimp only)
      rw [f2 (haf ⟨0,.data⟩ (by simp) rfl)];have a0:=(f0 0 _ rfl).1;go_wp2_with fail;exact hK (fun jj=>if jj=31 then iQ r else if jj=30 then Value.pointer (some ⟨w.heap.size,0,none⟩) else lx jj) _ ⟨X,f0,f1,(fun _=>rfl),(fun _=>rfl),f4,f5,f6,f7,f8,f9,f10,f11,f12,f13,f14⟩
     | 2,ho,hL,haf,hK =>
      cases ho
      (try dsimp only)
      go_wp2_with fail;exact hK (fun jj=>if jj=32 then Value.pointer (some ⟨w.heap.size+1,0,none⟩) else lx jj) _ ⟨X,f0,f1,f2,f3,(fun _=>rfl),f5,f6,f7,f8,f9,f10,f11,f12,f13,f14⟩
     | 3,ho,hL,haf,hK =>
      cases ho
      (try dsimp only)
      rw [f4 (haf ⟨2,.data⟩ (by simp) rfl)];have a0:=(f1 0 _ rfl).1;go_wp2_with fail;exact hK (fun jj=>if jj=33 then iQ r' else if jj=32 then Value.pointer (some ⟨w.heap.size+1,0,none⟩) else lx jj) _ ⟨X,f0,f1,f2,f3,(fun _=>rfl),(fun _=>rfl),f6,f7,f8,f9,f10,f11,f12,f13,f14⟩
     | 4,ho,hL,haf,hK =>
      cases ho
      (try dsimp only)
      rw [f3 (haf ⟨1,.data⟩ (by simp) rfl),f5 (haf ⟨3,.data⟩ (by simp) rfl)];go_wp2_with fail;refine (zW1 r r' wl).mono ?_;rintro rr w' ⟨rfl,E⟩;go_wp2_with fail;exact hK (fun jj=>if jj=34 then iQ (max r r') else if jj=31 then iQ r else if jj=33 then iQ r' else lx jj) _ ⟨xt X E,(f0.l E),(f1.l E),f2,(fun _=>rfl),f4,(fun _=>rfl),(fun _=>rfl),f7,f8,f9,f10,f11,f12,(fun h=>by obtain ⟨b,h1,h2,h3,h4⟩:=f13 h;exact ⟨b,h1,h2,fun h=>(h3 h).l E,fun h=>(h4 h).l E⟩),f14⟩
     | 5,ho,hL,haf,hK =>
      cases ho
      (try dsimp only)
      go_wp2_with fail;exact hK (fun jj=>if jj=35 then Value.pointer (some ⟨w.heap.size,1,none⟩) else lx jj) _ ⟨X,f0,f1,f2,f3,f4,f5,f6,(fun _=>rfl),f8,f9,f10,f11,f12,f13,f14⟩
     | 6,ho,hL,haf,hK =>
      cases ho
      (try dsimp only)
      rw [f7 (haf ⟨5,.data⟩ (by simp) rfl)];have a1:=(f0 1 _ rfl).1;go_wp2_with fail;exact hK (fun jj=>if jj=36 then iQ c else if jj=35 then Value.pointer (some ⟨w.heap.size,1,none⟩) else lx jj) _ ⟨X,f0,f1,f2,f3,f4,f5,f6,(fun _=>rfl),(fun _=>rfl),f9,f10,f11,f12,f13,f14⟩
     | 7,ho,hL,haf,hK =>
      cases ho
      (try dsimp only)
      go_wp2_with fail;exact hK (fun jj=>if jj=37 then Value.pointer (some ⟨w.heap.size+1,1,none⟩) else lx jj) _ ⟨X,f0,f1,f2,f3,f4,f5,f6,f7,f8,(fun _=>rfl),f10,f11,f12,f13,f14⟩
     | 8,ho,hL,haf,hK =>
      cases ho
      (try dsimp only)
      rw [f9 (haf ⟨7,.data⟩ (by simp) rfl)];have a1:=(f1 1 _ rfl).1;go_wp2_with fail;exact hK (fun jj=>if jj=38 then iQ c' else if jj=37 then Value.pointer (some ⟨w.heap.size+1,1,none⟩) else lx jj) _ ⟨X,f0,f1,f2,f3,f4,f5,f6,f7,f8,(fun _=>rfl),(fun _=>rfl),f11,f12,f13,f14⟩
     | 9,ho,hL,haf,hK =>
      cases ho
      (try dsimp only)
      rw [f8 (haf ⟨6,.data⟩ (by simp) rfl),f10 (haf ⟨8,.data⟩ (by simp) rfl)];go_wp2_with fail;refine (zW1 c c' wl).mono ?_;rintro rr w' ⟨rfl,E⟩;go_wp2_with fail;exact hK (fun jj=>if jj=39 then iQ (max c c') else if jj=36 then iQ c else if jj=38 then iQ c' else lx jj) _ ⟨xt X E,(f0.l E),(f1.l E),f2,f3,f4,f5,f6,f7,(fun _=>rfl),f9,(fun _=>rfl),(fun _=>rfl),f12,(fun h=>by obtain ⟨b,h1,h2,h3,h4⟩:=f13 h;exact ⟨b,h1,h2,fun h=>(h3 h).l E,fun h=>(h4 h).l E⟩),f14⟩
     | 10,ho,hL,haf,hK =>
      cases ho
      (try dsimp only)
      rw [f6 (haf ⟨4,.data⟩ (by simp) rfl),f11 (haf ⟨9,.data⟩ (by simp) rfl)];go_wp2_with fail;exact hK (fun jj=>if jj=40 then Value.agg #[iQ (max r r'),iQ (max c c'),Value.slice none 0 0] else if jj=34 then iQ (max r r') else if jj=39 then iQ (max c c') else lx jj) _ ⟨X,f0,f1,f2,f3,f4,f5,(fun _=>rfl),f7,f8,f9,f10,(fun _=>rfl),(fun _=>rfl),f13,f14⟩
     | 11,ho,hL,haf,hK =>
      cases ho
      (try dsimp only)
      have hst:L 12=true->False:=fun h=>(by have:=f14 h;rw [hL] at this;cases this);have E:=x1 wl (.cells #[iQ 0,iQ 0,.slice none 0 0] 35);go_wp2_with fail;exact hK (fun jj=>if jj=7 then .pointer (some ⟨wl.heap.size,0,none⟩) else lx jj) _ ⟨xt X E,(f0.l E),(f1.l E),f2,f3,f4,f5,f6,f7,f8,f9,f10,f11,f12,(fun _=>⟨wl.heap.size,rfl,by have:=X.size;omega,fun _=>zA5 wl [iQ 0,iQ 0,.slice none 0 0] _,fun h=>(hst h).elim⟩),(fun _=>rfl)⟩
     | 12,ho,hL,haf,hK =>
      cases ho
      (try dsimp only)
      have hmk:L 11=true:=haf ⟨11,.data⟩ (by simp) rfl;obtain ⟨b,eb',hb,hz,_⟩:=f13 hmk;have bx:=hz hL;rw [eb',f12 (haf ⟨10,.data⟩ (by simp) rfl)];have b0:=(bx 0 _ rfl).1;have b1:=(bx 1 _ rfl).1;have b2:=(bx 2 _ rfl).1;have fb0:=(bx 0 _ rfl).2;have fb1:=(bx 1 _ rfl).2;have fb2:=(bx 2 _ rfl).2;have hX:=Ext.setL (b:=b) (by omega) [iQ (max r r'),iQ (max c c'),.slice none 0 0] 0 X;have hB:=bx.put3 (iQ (max r r')) (iQ (max c c')) (.slice none 0 0);go_wp2_with fail;exact hK (fun jj=>if jj=7 then .pointer (some ⟨b,0,none⟩) else if jj=40 then Value.agg #[iQ (max r r'),iQ (max c c'),Value.slice none 0 0] else lx jj) _ ⟨hX,(Vec.farL (k:=b) (by omega) [iQ (max r r'),iQ (max c c'),.slice none 0 0] 0 f0),(Vec.farL (k:=b) (by omega) [iQ (max r r'),iQ (max c c'),.slice none 0 0] 0 f1),f2,f3,f4,f5,f6,f7,f8,f9,f10,f11,(fun _=>rfl),(fun _=>⟨b,rfl,hb,(fun h=>by cases h),fun _=>hB⟩),(fun _=>hmk)⟩
     | k+13,ho,_,_,_=>simp at ho
    ·intro L lx w5 hall hI;obtain ⟨XR,f0,f1,f2,f3,f4,f5,f6,f7,f8,f9,f10,f11,f12,f13,f14⟩:=hI.out;clear hI;have G0:=f0;have G1:=f1;replace f2:=f2 (hall 0 (by simp));replace f3:=f3 (hall 1 (by simp));replace f4:=f4 (hall 2 (by simp));replace f5:=f5 (hall 3 (by simp));replace f6:=f6 (hall 4 (by simp));replace f7:=f7 (hall 5 (by simp));replace f8:=f8 (hall 6 (by simp));replace f9:=f9 (hall 7 (by simp));replace f10:=f10 (hall 8 (by simp));replace f11:=f11 (hall 9 (by simp));replace f12:=f12 (hall 10 (by simp));obtain ⟨bb,eb,lb,_,hz⟩:=f13 (hall 11 (by simp));have BN:=hz (hall 12 (by simp))
     (try dsimp only)
     rw [eb];rw [f2,f3,f4,f5,f6,f7,f8,f9,f10,f11,f12];clear hall hz f0 f1 f2 f3 f4 f5 f6 f7 f8 f9 f10 f11 f12 f13 f14;obtain ⟨bo,hbo⟩:=nm (bb);rw [hbo] at lb BN ⊢;clear hbo eb;have lb0:=lb;have lt5:bo<w5.heap.size:=World.block_lt_of_cell? _ _ (BN 0 _ rfl).1;obtain ⟨R,hR⟩:∃ R:Nat,max r r'=(R:Int):=⟨(max r r').toNat,by omega⟩;obtain ⟨C,hC⟩:∃ C:Nat,max c c'=(C:Int):=⟨(max c c').toNat,by omega⟩;have HRC:Hid (hiG r r'=R/\hiG c c'=C):=⟨hR,hC⟩;have hR1:R<=2000:=(by omega);have hC1:C<=2000:=(by omega);have hC2:1<=C:=(by omega);rw [hR,hC] at BN ⊢;clear hR hC r1 r2 c1 c2 r1' r2' c1' c2';obtain ⟨N,hN⟩:∃ N:Nat,R * C=N:=⟨_,rfl⟩;have hN4:N<=4000000:=(by rw [<- hN];exact Nat.mul_le_mul hR1 hC1);have hNi:(R:Int) * (C:Int)=(N:Int):=(by rw [<- hN,Int.natCast_mul]);have hwr:IntKind.i64.wrap ((R:Int) * (C:Int))=(N:Int):=(by rw [hNi,IntKind.wrap_i64];omega);obtain ⟨a0,a1,a2⟩:=Vec.three (BN);by_cases hbig:(2000:Int)<(N:Int)
     ·have HN:Hid (R0=0/\C0=0/\L0=[]):=zBC HG.out (by unfold zE4;rw [hga,hgb,HRC.out.1,HRC.out.2,hNi,decide_eq_false (by omega)];rfl);clear HG HRC h h' hl hl' ht ht' ht2 ht2' hop hga hgb F0 F1 hsA hsB hgA hgB hN hNi;obtain ⟨wy,hy,FX,⟨b0,b1,b2⟩,⟨fb0,fb1,fb2⟩,fd0,fd1,fd2⟩:=finG (F2.l XR) (xt X4 XR) (by omega) 0 0 (.slice none 0 0);go_wp2_with fail;exact bodyPost_ret (v:=grV 0 0 (.slice none 0 0)) (by simp [results,Tryz.results17,go_sem,fd0,fd1,fd2]) rfl ⟨⟨_,by rw [HN.out.1,HN.out.2.1],by rw [HN.out.2.2];exact World.ownsRow_nil _ _ _ _⟩,FX⟩
     ·have HS:Hid (R0=R/\C0=C/\L0=(List.range N).map (zHK o r c l r' c' l' C)):=by
       have:=zF9 HG.out (o:=o) (by unfold zE4;rw [hga,hgb,HRC.out.1,HRC.out.2,hNi,decide_eq_true (by omega)];exact hop);rw [HRC.out.1,HRC.out.2,hNi] at this;exact this
      clear HG HRC hga hgb ht2 ht2';have hN2:decide ((2000:Int)<(N:Int))=false:=(by simpa using hbig);have HF0:Hid (∀ p q:Nat,q<C->zHK o r c l r' c' l' (C:Int) (p * C+q)=zKM o (cellAt r c l p q) (cellAt r' c' l' p q)):=fun p q hq=>zRE o r c l r' c' l' C p q hq;obtain ⟨F,hF⟩:=nm (zHK o r c l r' c' l' C);rw [hF] at HS HF0;clear hF;have HV0:Hid (Vec w5 bo [iQ R,iQ C,.slice none 0 0]/\OwnW w5 (bo+1) (.slice none 0 0) ((List.range 0).map F)/\Ext w4 w5):=⟨BN,World.ownsRow_nil _ _ _ _,XR⟩;go_wp2_with fail;clear hwr hN2 a0 a1 a2 BN XR G0 G1;go_loopw [8] (fun i wr=>∃ (p:Nat) (sv:Value),p<=R/\i=.int .i64 p/\Hid (Vec wr bo [.int .i64 R,.int .i64 C,sv]/\OwnW wr (bo+1) sv ((List.range (p * C)).map F)/\Ext w4 wr)) (fun i _=>R - (intOf i).toNat)
      case atStart=>exact ⟨0,_,by omega,rfl,by rw [Nat.zero_mul];exact HV0⟩
      case round =>
       obtain ⟨p,sv,hp,rfl,HV⟩:=hrel;obtain ⟨VO,OW,XW⟩:=HV.out;obtain ⟨ps,ns,cs,rfl⟩:=zAV OW;obtain ⟨a0,a1,a2⟩:=Vec.three (VO);by_cases hlt:p<R
       ·have i2:(p:Int)<(R:Int):=(by omega);have HV1:Hid (Vec wr bo [iQ R,iQ C,(.slice ps ns cs)]/\OwnW wr (bo+1) (.slice ps ns cs) ((List.range (p * C+0)).map F)/\Ext w4 wr):=HV;go_wp2_with fail;clear a0 a1 a2 VO OW XW HV;go_loopw [9] (fun j wq=>∃ (q:Nat) (sv:Value),q<=C/\j=.int .i64 q/\Hid (Vec wq bo [.int .i64 R,.int .i64 C,sv]/\OwnW wq (bo+1) sv ((List.range (p * C+q)).map F)/\Ext w4 wq)) (fun j _=>C - (intOf j).toNat)
        case atStart=>exact ⟨0,_,by omega,rfl,HV1⟩
        case round =>
         obtain ⟨q,sv,hq,rfl,HVq⟩:=hrel;obtain ⟨VO,OW,XW⟩:=HVq.out;clear HV1;obtain ⟨ps,ns,cs,rfl⟩:=zAV OW;obtain ⟨a0,a1,a2⟩:=Vec.three (VO);by_cases hlq:q<C
         ·have j2:(q:Int)<(C:Int):=(by omega);have hFk:=HF0.out p q hlq;obtain ⟨k,hk⟩:=nm (p * C+q);have hkN:k<N:=by
           have h1:(p+1) * C<=R * C:=Nat.mul_le_mul_right C hlt;rw [Nat.succ_mul] at h1;omega
          have Hk:Hid (p * C+(q+1)=k+1):=(by show _=_;omega);rw [hk] at hFk OW;clear HVq hk;have CA:Hid (∀ W,Ext w W->Calls Tryz.prog 68 #[grV r c v,iQ (p:Int),iQ (q:Int)] W fun e w'=>e=.returned (zKN (cellAt r c l p q))/\Ext W w'):=fun W hW=>zWH r c v l p q W (h.l hW) hsA (by omega) (by omega) (by omega) (by omega);have CB:Hid (∀ W,Ext w W->Calls Tryz.prog 68 #[grV r' c' v',iQ (p:Int),iQ (q:Int)] W fun e w'=>e=.returned (zKN (cellAt r' c' l' p q))/\Ext W w'):=fun W hW=>zWH r' c' v' l' p q W (h'.l hW) hsB (by omega) (by omega) (by omega) (by omega);have mA:Hid (∀ e,cellAt r c l p q=some e->e ∈ l):=fun e he=>zEK he;have mB:Hid (∀ e,cellAt r' c' l' p q=some e->e ∈ l'):=fun e he=>zEK he;obtain ⟨CA1,hA1⟩:=nm (cellAt r c l p q);obtain ⟨CB1,hB1⟩:=nm (cellAt r' c' l' p q);rw [hA1] at CA mA hFk;rw [hB1] at CB mB hFk;clear hA1 hB1;obtain ⟨⟨k1,n1,d1,x1',t1⟩,g1,hT1,hs1,hn1⟩:=zGE CA1;obtain ⟨⟨k2,n2,d2,x2,t2⟩,g2,hT2,hs2,hn2⟩:=zGE CB1;rw [hT1] at CA;rw [hT2] at CB;have Hs:Hid ((g1=true->CA1=some ⟨k1,n1,d1,x1',t1⟩)/\(g1=false->CA1=none)/\(g2=true->CB1=some ⟨k2,n2,d2,x2,t2⟩)/\(g2=false->CB1=none)):=⟨hs1,hn1,hs2,hn2⟩;obtain ⟨⟨kq,nq,dq,xq,tq⟩,hFq⟩:∃ q,F k=q:=⟨_,rfl⟩;have HQ:Hid (zKM o CA1 CB1=⟨kq,nq,dq,xq,tq⟩):=(by show _=_;rw [<- hFk];exact hFq);have HFq:Hid (F k=⟨kq,nq,dq,xq,tq⟩):=hFq;clear hT1 hT2 hs1 hn1 hs2 hn2 hFk hFq;have G0:=F0.l XW;have G1:=F1.l XW;have XA:=xt X4 XW;obtain ⟨c0,c1,c2⟩:=Vec.three (G0);go_wp2_with fail;clear c0 c1 c2;refine (CA.out _ XA).mono ?_;rintro e w6 ⟨rfl,e6⟩;obtain ⟨wz,w7,hz,hy,B7,X7,⟨z0,z1,z2,z3,z4⟩,fz0,fz1,fz2,fz3,fz4⟩:=newB w6 k1 n1 d1 x1' t1;have Y7:=xt e6 X7;have H1:=G1.l Y7;obtain ⟨c0,c1,c2⟩:=Vec.three (H1);go_wp2_with fail;clear c0 c1 c2 hz hy z0 z1 z2 z3 z4 fz0 fz1 fz2 fz3 fz4;refine (CB.out _ (xt XA Y7)).mono ?_;rintro e w8 ⟨rfl,e8⟩;obtain ⟨wz,w9,hz,hy,B9,X9,⟨z0,z1,z2,z3,z4⟩,fz0,fz1,fz2,fz3,fz4⟩:=newB w8 k2 n2 d2 x2 t2;have Y9:=xt (xt Y7 e8) X9;have P1:=(B7.l e8).l X9;go_wp2_with fail;clear hz hy z0 z1 z2 z3 z4 fz0 fz1 fz2 fz3 fz4 B7 G0 G1 H1 CA CB;refine (zB2 [35,78,47,65] w9).mono ?_;rintro e w10 ⟨rfl,e10⟩;have P1:=P1.l e10;have P2:=B9.l e10;have YA:=xt Y9 e10;have XD:=xt XA YA;clear B9 Y7 Y9 e6 e8 e10 X7 X9;obtain ⟨wz,w11,hz,hy,BV,XV,⟨z0,z1,z2,z3,z4⟩,fz0,fz1,fz2,fz3,fz4⟩:=newB w10 4 false 0 0 [35,78,47,65];go_upto_region 15 with fail;clear hz hy z0 z1 z2 z3 z4 fz0 fz1 fz2 fz3 fz4;go_cut [78] (fun s wc=>s=.bool (g1 && g2)/\w11=wc)
          case first =>
           cases g1 <;> cases g2 <;> (go_wp2_with fail;go_meet;exact ⟨rfl,rfl⟩)
          case rest =>
           obtain ⟨rfl,rfl⟩:=hcut;go_upto_if 78 with fail;go_cut [] (fun wc=>Hid (Vec wc w10.heap.size [iQ kq,.bool nq,iQ dq,iQ xq,sV tq]/\Ext w10 wc))
           case first =>
            cases g1
            ·(try simp only [Bool.false_and])
             have HN:Hid (kq=4/\nq=false/\dq=0/\xq=0/\tq=[35,78,47,65]):=by
              have:=HQ.out;rw [Hs.out.2.1 rfl] at this;cases this;exact ⟨rfl,rfl,rfl,rfl,rfl⟩
             go_wp2_with fail;go_meet
             case rel=>exact ⟨by rw [HN.out.1,HN.out.2.1,HN.out.2.2.1,HN.out.2.2.2.1,HN.out.2.2.2.2];exact BV,XV⟩
            ·(try simp only [Bool.true_and])
             cases g2
             ·have HN:Hid (kq=4/\nq=false/\dq=0/\xq=0/\tq=[35,78,47,65]):=by
               have:=HQ.out;rw [Hs.out.1 rfl,Hs.out.2.2.2 rfl] at this;cases this;exact ⟨rfl,rfl,rfl,rfl,rfl⟩
              go_wp2_with fail;go_meet
              case rel=>exact ⟨by rw [HN.out.1,HN.out.2.1,HN.out.2.2.1,HN.out.2.2.2.1,HN.out.2.2.2.2];exact BV,XV⟩
             ·have hin:=mA.out _ (Hs.out.1 rfl);have hin':=mB.out _ (Hs.out.2.2.1 rfl);have CO:Hid (Calls Tryz.prog 70 #[sV op,valV k1 n1 d1 x1' t1,valV k2 n2 d2 x2 t2] w11 fun e w'=>e=.returned (valV kq nq dq xq tq)/\Ext w11 w'):=by
               have:=zLG op o hop k1 n1 d1 x1' t1 k2 n2 d2 x2 t2 w11 (ht _ hin) (ht' _ hin') (hgA _ hin) (hgB _ hin');rw [zIA o ⟨k1,n1,d1,x1',t1⟩ ⟨k2,n2,d2,x2,t2⟩] at this;have hq:=HQ.out;rw [Hs.out.1 rfl,Hs.out.2.2.1 rfl] at hq;change zN8 o _ _=_ at hq;rw [hq] at this;exact this
              clear hin hin';obtain ⟨f0,f1,f2,f3,f4⟩:=Vec.five ((P1.l XV));obtain ⟨c0,c1,c2,c3,c4⟩:=Vec.five ((P2.l XV));go_wp2_with fail;clear f0 f1 f2 f3 f4 c0 c1 c2 c3 c4;refine (CO.out).mono ?_;rintro e w9 ⟨rfl,e9⟩;have BW:=BV.l e9;obtain ⟨b0,b1,b2,b3,b4⟩:=Vec.five (BW);obtain ⟨fb0,fb1,fb2,fb3,fb4⟩:=Vec.fiveF (BW);have hX:=Ext.setL (b:=w10.heap.size) (Nat.le_refl _) [iQ kq,.bool nq,iQ dq,iQ xq,sV tq] 0 (xt XV e9);have hB:=BW.put5 (iQ kq) (.bool nq) (iQ dq) (iQ xq) (sV tq);go_wp2_with fail;go_meet
              case rel=>exact ⟨hB,hX⟩
           case rest =>
            obtain ⟨BQ,XQ⟩:=hcut.out;have YQ:=xt YA XQ;have VQ:=VO.l YQ;have OQ:Hid (OwnW wc (bo+1) (.slice ps ns cs) ((List.range k).map F)):=zCD OW YQ;have Y4:=xt XW YQ;clear BV XV P1 P2 YA XQ YQ VO OW XW HQ Hs XD mA mB a0 a1 a2;obtain ⟨inf,hi,hz,hz1,hz2⟩:=zUH;obtain ⟨a0,a1,a2⟩:=Vec.three (VQ);obtain ⟨c0,c1,c2,c3,c4⟩:=Vec.five (BQ);have ltC:bo<wc.heap.size:=World.block_lt_of_cell? _ _ a0;go_wp2_with (at_builtin;refine wpList_append_own _ rfl _ _ 33 rfl (bo+1) 26 inf (valV 0 false 0 0 []) 5 48 Tryz.underlying33 hi hz hz1 hz2 rfl (by decide) _ _ _ rfl (OQ.out.alloc _) ⟨wc.heap.size,0,none⟩ 1 1 [iQ kq,.bool nq,iQ dq,iQ xq,sV tq] rfl rfl (World.news_of_block (heap_alloc_new _ _)) (by simp [Value.oneCell']) (by simp only [maxLen,List.length_map,List.length_range];omega) (by simp only [List.length_map,List.length_range];omega) (by simp;omega) ?_);intro v7 wC ownC gC _;have lb:=zD3 OQ.out;have VC:=zDB (VQ.l (x1 wc _)) (gC.block bo (by rw [World.size_alloc];omega) (fun q=>by have:=lb _ q.symm;omega));have Y5:Ext w4 wC:=(xa Y4 _).grown gC (xa Y4 _).size (fun r hr=>by have:=lb r hr;omega);have OC:OwnW wC (bo+1) v7 ((List.range (k+1)).map F):=by
             rw [List.range_succ,List.map_append];show World.ownsRow _ _ _ _ _ _ _;rw [zCV,List.length_append,List.length_map,List.length_range];have hk1:[k].map F=[⟨kq,nq,dq,xq,tq⟩]:=(by simp only [List.map_cons,List.map_nil];rw [HFq.out]);rw [hk1];exact ownC
            obtain ⟨p7,n7,c7,rfl⟩:=zAV OC;clear a0 a1 a2 c0 c1 c2 c3 c4 ownC gC lb VQ BQ OQ Y4 hi hz hz1 hz2 ltC;have q2:=(VC 2 _ rfl).1;have p2:=(VC 2 _ rfl).2;have VD:Vec (wC.setCell ⟨bo,2,none⟩ (.slice p7 n7 c7)) bo [iQ R,iQ C,(.slice p7 n7 c7)]:=VC.put 2 (by simp) _;have OD:=zBE OC (p:=⟨bo,2,none⟩) (Nat.lt_succ_self _) (.slice p7 n7 c7);have XF:=xset Y5 (p:=⟨bo,2,none⟩) lb0 (.slice p7 n7 c7);obtain ⟨wD,hD⟩:=nm (wC.setCell ⟨bo,2,none⟩ (.slice p7 n7 c7));rw [hD] at VD OD XF;have HVn:Hid (Vec wD bo [iQ R,iQ C,(.slice p7 n7 c7)]/\OwnW wD (bo+1) (.slice p7 n7 c7) ((List.range (p * C+(q+1))).map F)/\Ext w4 wD):=(by rw [Hk.out];exact ⟨VD,OD,XF⟩);clear VC OC Y5 VD OD XF;go_wp2_with fail;go_roundw
            case rel=>exact ⟨q+1,_,by omega,by go_num,HVn⟩
            case measure=>simp [intOf];omega
         ·obtain rfl:q=C:=(by omega);have HVn:Hid (Vec wr bo [iQ R,iQ q,(.slice ps ns cs)]/\OwnW wr (bo+1) (.slice ps ns cs) ((List.range ((p+1) * q)).map F)/\Ext w4 wr):=(by rw [Nat.succ_mul];exact HVq);clear HVq VO OW XW;go_wp2_with fail;go_roundw
          case rel=>exact ⟨p+1,_,by omega,by go_num,HVn⟩
          case measure=>simp [intOf];omega
       ·obtain rfl:p=R:=(by omega);have ltB:w.heap.size+1+1<w4.heap.size:=World.block_lt_of_cell? _ _ (F2 0 _ rfl).1;obtain ⟨wy,hy,FX,⟨b0,b1,b2⟩,⟨fb0,fb1,fb2⟩,fd0,fd1,fd2⟩:=finG (F2.l XW) (xt X4 XW) (by omega) p C (.slice ps ns cs);have ltD:w.heap.size+1+1<(bo+1):=(by omega);have OY:Hid (OwnW wy (bo+1) (.slice ps ns cs) ((List.range N).map F)):=by
         show OwnW _ _ _ _;rw [<- hy,<- hN];exact zBE (zBE (zBE OW (p:=⟨_,_,_⟩) ltD _) (p:=⟨_,_,_⟩) ltD _) (p:=⟨_,_,_⟩) ltD _
        go_wp2_with fail;exact bodyPost_ret (v:=grV p C (.slice ps ns cs)) (by simp [results,Tryz.results17,go_sem,fd0,fd1,fd2]) rfl ⟨⟨_,by rw [HS.out.1,HS.out.2.1],by rw [HS.out.2.2];exact zGY OY.out (by omega)⟩,FX⟩
theorem zRX (k:Int) (n:Bool) (d x:Int) (t:List UInt8) (k':Int) (n':Bool) (d' x':Int) (t':List UInt8) (w:World) (hl:t.length<=2000000) (hl':t'.length<=2000000) :
  Calls Tryz.prog 10 #[valV k n d x t,valV k' n' d' x' t'] w fun e w'=>e=.returned (iQ (zA0 k n d x t k' n' d' x' t'))/\Ext w w':=by
 obtain ⟨R,hR⟩:=nm (zA0 k n d x t k' n' d' x' t');have HR0:Hid (zA0 k n d x t k' n' d' x' t'=R):=hR;rw [hR];clear hR;have X1:=x1 w (.cells #[iQ k,.bool n,iQ d,iQ x,sV t] 26);have B1:=zA5 w (valL k n d x t) 26;obtain ⟨wa,ha⟩:=nm (w.alloc (.cells #[iQ k,.bool n,iQ d,iQ x,sV t] 26));have X2:=x1 wa (.cells #[iQ k',.bool n',iQ d',iQ x',sV t'] 26);have B2:=zA5 wa (valL k' n' d' x' t') 26;obtain ⟨wb,hb⟩:=nm (wa.alloc (.cells #[iQ k',.bool n',iQ d',iQ x',sV t'] 26));have sa:wa.heap.size=w.heap.size+1:=by rw [<- ha,World.size_alloc]
 have sb:wb.heap.size=w.heap.size+1+1:=by rw [<- hb,World.size_alloc,sa]
 change Vec (w.alloc (.cells #[iQ k,.bool n,iQ d,iQ x,sV t] 26)) _ _ at B1;change Vec (wa.alloc (.cells #[iQ k',.bool n',iQ d',iQ x',sV t'] 26)) _ _ at B2;rw [ha] at X1 B1;rw [hb] at X2 B2;rw [sa] at B2;have B1:=B1.l X2;have X:=xt X1 X2;clear X1 X2;have a0:=(B1 0 _ rfl).1;have a1:=(B1 1 _ rfl).1;have a2:=(B1 2 _ rfl).1;have a3:=(B1 3 _ rfl).1;have a4:=(B1 4 _ rfl).1;have c0:=(B2 0 _ rfl).1;have c1:=(B2 1 _ rfl).1;have c2:=(B2 2 _ rfl).1;have c3:=(B2 3 _ rfl).1;have c4:=(B2 4 _ rfl).1;go_enter Tryz.func10,Tryz.ntmps10;go_wp2_with fail;clear ha hb sa sb a0 a1 a2 a3 a4 c0 c1 c2 c3 c4;refine (zHX k n d x t wb hl).mono ?_;rintro e w1 ⟨rfl,e1⟩;have XA:=xt X e1;obtain ⟨g,hg⟩:=nm (zA4 k n d x t);rw [hg];cases g
 ·have HR:Hid (2=R):=by show _=_;rw [<- HR0.out];simp [zA0,hg]
  go_wp2_with fail;go_ret;exact ⟨congrArg (fun z=>Ending.returned (iQ z)) HR.out,XA⟩
 ·have a0:=((B1.l e1) 0 _ rfl).1;have a1:=((B1.l e1) 1 _ rfl).1;have a2:=((B1.l e1) 2 _ rfl).1;have a3:=((B1.l e1) 3 _ rfl).1;have a4:=((B1.l e1) 4 _ rfl).1;have c0:=((B2.l e1) 0 _ rfl).1;have c1:=((B2.l e1) 1 _ rfl).1;have c2:=((B2.l e1) 2 _ rfl).1;have c3:=((B2.l e1) 3 _ rfl).1;have c4:=((B2.l e1) 4 _ rfl).1;go_wp2_with fail;clear a0 a1 a2 a3 a4 c0 c1 c2 c3 c4;refine (zHX k' n' d' x' t' w1 hl').mono ?_;rintro e w2 ⟨rfl,e2⟩;have XB:=xt XA e2;obtain ⟨g',hg'⟩:=nm (zA4 k' n' d' x' t');rw [hg'];cases g'
  ·have HR:Hid (2=R):=by show _=_;rw [<- HR0.out];simp [zA0,hg']
   go_wp2_with fail;go_ret;exact ⟨congrArg (fun z=>Ending.returned (iQ z)) HR.out,XB⟩
  ·have a0:=(((B1.l e1).l e2) 0 _ rfl).1;have a1:=(((B1.l e1).l e2) 1 _ rfl).1;have a2:=(((B1.l e1).l e2) 2 _ rfl).1;have a3:=(((B1.l e1).l e2) 3 _ rfl).1;have a4:=(((B1.l e1).l e2) 4 _ rfl).1;have c0:=(((B2.l e1).l e2) 0 _ rfl).1;have c1:=(((B2.l e1).l e2) 1 _ rfl).1;have c2:=(((B2.l e1).l e2) 2 _ rfl).1;have c3:=(((B2.l e1).l e2) 3 _ rfl).1;have c4:=(((B2.l e1).l e2) 4 _ rfl).1;by_cases h4:k=4
   ·have hb4:(k == 4)=true:=(by simpa using h4);have HR:Hid (2=R):=(by show _=_;rw [<- HR0.out];simp [zA0,h4]);subst h4;go_wp2_with fail;go_ret;exact ⟨congrArg (fun z=>Ending.returned (iQ z)) HR.out,XB⟩
   ·have hb4:(k == 4)=false:=(by simpa using h4);by_cases h4':k'=4
    ·have hb4':(k' == 4)=true:=(by simpa using h4');have HR:Hid (2=R):=(by show _=_;rw [<- HR0.out];simp [zA0,h4']);subst h4';go_wp2_with fail;go_ret;exact ⟨congrArg (fun z=>Ending.returned (iQ z)) HR.out,XB⟩
    ·have hb4':(k' == 4)=false:=(by simpa using h4');obtain ⟨v1,z1⟩:=zDA hg k';obtain ⟨v2,z2⟩:=zDA hg' k;have HR:Hid (cmpR (bk k k') n d x (bt k t k') (bk k' k) n' d' x' (bt k' t' k)=R):=(by show _=_;rw [<- HR0.out];simp [zA0,hg,hg',h4,h4']);have CC:=fun W=>zWG k n d x t k' n' d' x' t' W _ _ _ _ _ v1 z1 (zI6 k k' hl) _ _ _ _ _ v2 z2 (zI6 k' k hl');clear v1 v2 z1 z2 hg hg';go_wp2_with fail;refine (CC _).mono ?_;rintro e w3 ⟨rfl,e3⟩;go_wp2_with fail;go_ret;exact ⟨congrArg (fun z=>Ending.returned (iQ z)) HR.out,xt XB e3⟩
def eqVB (k:Int) (n:Bool) (d x:Int) (t:List UInt8) (k':Int) (n':Bool) (d' x':Int) (t':List UInt8):Bool:=decide (k=k'/\n=n'/\d=d'/\x=x'/\t=t')
theorem zSW (k:Int) (n:Bool) (d x:Int) (t:List UInt8) (k':Int) (n':Bool) (d' x':Int) (t':List UInt8) (W:World) :
  (binOp BinOp.eql 26 (valV k n d x t) (valV k' n' d' x' t')).run Tryz.prog W=.ok (.bool (eqVB k n d x t k' n' d' x' t')) W:=by
 unfold eqVB;by_cases h:k=k'/\n=n'/\d=d'/\x=x'/\t=t'
 ·obtain ⟨rfl,rfl,rfl,rfl,rfl⟩:=h
  go_simp
 ·rw [decide_eq_false h];have H:Hid (¬ (k=k'/\n=n'/\d=d'/\x=x'/\t=t')):=h;clear h
  go_simp
  intros
  have:=H.out
  simp_all
theorem zSV (k:Int) (n:Bool) (d x:Int) (t:List UInt8) (k':Int) (n':Bool) (d' x':Int) (t':List UInt8) (W:World) :
  (binOp BinOp.neq 26 (valV k n d x t) (valV k' n' d' x' t')).run Tryz.prog W=.ok (.bool (!(eqVB k n d x t k' n' d' x' t'))) W:=by
 unfold eqVB;by_cases h:k=k'/\n=n'/\d=d'/\x=x'/\t=t'
 ·obtain ⟨rfl,rfl,rfl,rfl,rfl⟩:=h
  go_simp
 ·rw [decide_eq_false h];have H:Hid (¬ (k=k'/\n=n'/\d=d'/\x=x'/\t=t')):=h;clear h
  go_simp
  intros
  have:=H.out
  simp_all
section
variable {P:Program} {ops:Array Oper} {Q:Exit->Act->World->Prop}
def rhOk (md:Region.Mode) (ops:Array Oper):Bool:=
 (List.range ops.size).all fun i =>
  match ops[i]? with
  | none=>true
  | some o=>o.after.all fun e=>!Region.binds md e || decide (e.on<i)
theorem zO4 {md:Region.Mode} (h:rhOk md ops=true) {i:Nat} {o:Oper} (hi:ops[i]?=some o):∀ e ∈ o.after,Region.binds md e=true->e.on<i:=by
 have hlt:i<ops.size:=by
  rcases Nat.lt_or_ge i ops.size with h' | h'
  ·exact h'
  ·rw [Array.getElem?_eq_none h'] at hi;cases hi
 have:=(List.all_eq_true.1 h) i (List.mem_range.2 hlt);rw [hi] at this;intro e he hb;have h2:=(Array.all_eq_true_iff_forall_mem.1 this) e he;rw [hb] at h2;simpa using h2
theorem zI9 {i:Nat} {o:Oper} {K:Act->World->Prop} {a:Act} {w:World} (ho:ops[i]?=some o)
  (h:if Region.wanted o (yielded ops a.tmps)=true then wpList P #[{ o with guard:=none }] (Exit.then K Q) [{ o with guard:=none }] a w else K (a.put o.dst undef) w):wpOp P ops Q i K a w:=by
 unfold wpOp;simp only [ho]
 split
 ·next hw =>
  rw [if_pos hw] at h;simp only [wpList,Region.wanted,if_true] at h
  rcases h with h | ⟨h1,h2⟩
  ·left;unfold Oper.wp at *;have e:execOp a.eval { o with guard:=none }=execOp a.eval o:=rfl;rw [e] at h;generalize (execOp a.eval o).run P w=r at *;cases r with
   | ok n w' =>
    cases n
    case enter f args =>
     refine Calls.mono h fun e w'' he=>?_;cases e <;> exact he
    all_goals exact h
   | halt x w'=>cases x <;> exact h
  ·exact .inr ⟨h1,h2⟩
 ·next hw =>
  rw [if_neg hw] at h;exact h
theorem zJT {md:Region.Mode} (hc:rhOk md ops=true) {listed:Array Bool} (hsz:listed.size=ops.size) (hr:Region.ready md ops listed=[]):∀ i,i<ops.size->listed.getD i false=true:=by
 intro i
 induction i using Nat.strongRecOn with
 | ind i ih =>
  intro hi;cases hl:listed.getD i false with
  | true=>rfl
  | false =>
   exfalso;have hlt:i<listed.size:=by omega
   have h1:listed.getD i true=false:=by
    rw [Array.getD_eq_getD_getElem?,Array.getElem?_eq_getElem hlt] at hl ⊢;exact hl
   have ho:ops[i]?=some ops[i]:=Array.getElem?_eq_getElem hi;have hlow:=zO4 hc ho;have:i ∈ Region.ready md ops listed:=mem_ready.2 ⟨h1,_,ho,fun e he hb=>ih e.on (hlow e he hb) (Nat.lt_trans (hlow e he hb) hi)⟩;rw [hr] at this;cases this
theorem zCF {X:Type} {id:Nat} {a:Act} {w:World} (F:X->Act) (I:(Nat->Bool)->X->World->Prop) (hm:P.follows .mixedOrders=true) (hc:rhOk .any ops=true)
  (x0:X) (h0:a=F x0) (hI:I (fun _=>false) x0 { w with drawn:=w.drawn+1 })
  (step:∀ L x w i o (K:Act->World->Prop),(∀ x' w',I (fun j=>if j=i then true else L j) x' w'->K (F x') w')->ops[i]?=some o->L i=false->(∀ e ∈ o.after,Region.binds .any e=true->L e.on=true)->I L x w ->
   if Region.wanted o (yielded ops (F x).tmps)=true then wpList P #[{ o with guard:=none }] (Exit.then K Q) [{ o with guard:=none }] (F x) w else K ((F x).put o.dst undef) w)
  (fin:∀ L x w,(∀ j,j<ops.size->L j=true)->I L x w->Q .normal (F x) w):(Code.region id ops true).wp P Q a w:=by
 refine zF0 (fun listed a w=>listed.size=ops.size/\∃ x,a=F x/\I (fun j=>listed.getD j false) x w) hm ?_ ?_ ?_
 ·refine ⟨by simp,x0,h0,?_⟩;have e:(fun j=>(Array.replicate ops.size false).getD j false)=fun _=>false:=by
   funext j
   rw [Array.getD_eq_getD_getElem?]
   rcases Nat.lt_or_ge j ops.size with h' | h'
   ·rw [Array.getElem?_eq_getElem (by simpa using h')];simp
   ·rw [Array.getElem?_eq_none (by simpa using h')];simp
  rw [e];exact hI
 ·rintro listed a w i o ⟨hs,x,rfl,hx⟩ hi ho;obtain ⟨hun,o',ho',hall⟩:=mem_ready.1 hi;have:o'=o:=by rw [ho] at ho';exact (Option.some.inj ho').symm
  subst this;have hlt:i<listed.size:=by
   rcases Nat.lt_or_ge i listed.size with h' | h'
   ·exact h'
   ·rw [Array.getD_eq_getD_getElem?,Array.getElem?_eq_none h'] at hun;cases hun
  have hun':listed.getD i false=false:=by
   rw [Array.getD_eq_getD_getElem?,Array.getElem?_eq_getElem hlt] at hun ⊢;exact hun
  refine wpOp_mono ?_ (zI9 ho (step _ x w i o' (fun a' w'=>∃ x',a'=F x'/\I (fun j=>if j=i then true else listed.getD j false) x' w') (fun x' w' h=>⟨x',rfl,h⟩) ho hun' hall hx));rintro a' w' ⟨x',rfl,hx'⟩;refine ⟨by simp [hs],x',rfl,?_⟩;have e:(fun j=>(listed.setIfInBounds i true).getD j false)=fun j=>if j=i then true else listed.getD j false:=by
   funext j
   by_cases hj:j=i
   ·subst hj;rw [if_pos rfl,Array.getD_eq_getD_getElem?,Array.getElem?_setIfInBounds_self_of_lt hlt];rfl
   ·rw [if_neg hj,getD_set_ne false (fun e=>hj e.symm)]
  rw [e];exact hx'
 ·rintro listed a w hr ⟨hs,x,rfl,hx⟩;exact fin _ x w (zJT hc hs hr) hx
end
end Go.Proofs.YtkadkfmidlhedaaGreatDoor

