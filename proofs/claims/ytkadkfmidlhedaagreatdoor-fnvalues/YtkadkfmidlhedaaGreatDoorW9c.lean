/-
  Chapter 6: ApplyGrid of the program.
-/
import Derived.Test.YtkadkfmidlhedaaGreatDoorMg44
import Derived.Test.YtkadkfmidlhedaaGreatDoorMg41
import Derived.Test.YtkadkfmidlhedaaGreatDoorMg24
set_option maxRecDepth 8000
set_option maxHeartbeats 2000000
namespace Go.Proofs.YtkadkfmidlhedaaGreatDoor
open Go.RowKit
theorem zV7 (op:List UInt8) (r c:Int) (v:Value) (l:List VT) (r' c':Int) (v':Value) (l':List VT) (w:World) (h:zB6 w v l) (h':zB6 w v' l') (ho:op.length<=1048576) (hl:l.length<=1048576) (hl':l'.length<=1048576) (ht:∀ e ∈ l,e.t.length<=1048576) (ht':∀ e ∈ l',e.t.length<=1048576) (hd:∀ e ∈ l,-9223372036854775808<=e.d/\e.d<=9223372036854775807) (hd':∀ e ∈ l',-9223372036854775808<=e.d/\e.d<=9223372036854775807) (hT:Tens w) (hE:zAH w) (hI:zEN w) :
  Calls Tryz.prog 15 #[sV op,grV r c v,grV r' c' v'] w fun e w'=>(∃ sv,e=.returned (grV (zDV op r c l r' c' l').1 (zDV op r c l r' c' l').2.1 sv)/\OwnW w' w.heap.size sv (zDV op r c l r' c' l').2.2)/\Ext w w':=by
 obtain ⟨⟨R0,C0,L0⟩,hG⟩:∃ G,zDV op r c l r' c' l'=G:=⟨_,rfl⟩;have HG:Hid (zDV op r c l r' c' l'=(R0,C0,L0)):=hG;rw [hG];clear hG;obtain ⟨u0,u1,u2,h0,h1,h2,s0,s1,s2,B0,B1,B2,X⟩:=mkB3 w [iQ r,iQ c,v] [iQ r',iQ c',v'] [iQ 0,iQ 0,.slice none 0 0] 35 35 35;go_enter Tryz.func15,Tryz.ntmps15;go_wp2_with fail;clear h0 s0 h1 s1 h2 s2;refine (zN7 u2).mono ?_;rintro e w1 ⟨m,rfl,WM,e1⟩;obtain ⟨fw,kn,LK,HK⟩:∃ fw kn,(Instr.lookup 93 (.map (some m)) (sV op) true).run Tryz.prog w1=.ok (.tuple #[fw,.bool kn]) w1/\Hid ((kn=false/\opN op=none)\/(kn=true/\∃ o f,opN op=some o/\fw=fnV f/\zC7 o f)):=by
  cases hop:opN op with
  | none=>exact ⟨_,_,WM.lost zF1 ho (zS9 hop),Or.inl ⟨rfl,rfl⟩⟩
  | some o =>
   obtain ⟨f,hm,hu,M⟩:=zOM hop;exact ⟨_,_,WM.found zF1 hm hu,Or.inr ⟨rfl,o,f,rfl,rfl,M⟩⟩
 have C0':=B0.l e1;have C1':=B1.l e1;have C2':=B2.l e1;have X1:=xt X e1;clear WM B0 B1 B2 X ho;go_wp2_with fail;clear LK;refine zA2 (fun lx:Nat->Value=>{ tmps:=#[sV op,grV r c v,grV r' c' v',undef,Value.pointer (some ⟨w.heap.size,0,none⟩),Value.pointer (some ⟨w.heap.size+1,0,none⟩),Value.pointer (some ⟨w.heap.size+1+1,0,none⟩),fw,Value.bool kn,lx 9,lx 10,undef,undef,undef,undef,undef,undef,undef,Value.tuple #[fw,Value.bool kn],Value.map (some m),sV op,Value.tuple #[fw,Value.bool kn],fw,Value.bool kn,lx 24,lx 25,lx 26,lx 27,lx 28,lx 29,lx 30,lx 31,lx 32,lx 33,undef,undef,undef,undef,undef,undef,undef,undef,undef,undef,undef,undef,undef,undef,undef,undef,undef,undef,undef,undef,undef,undef,undef,undef,undef,undef,undef,undef,undef,undef,undef,undef,undef,undef,undef,undef,undef,undef,undef,undef,undef,undef,undef,undef,undef,undef,undef,undef,undef,undef,undef,undef,undef,undef,undef,undef,undef,undef,undef,undef,undef,undef,undef,undef,undef,undef,undef],defers:=[] }) (fun L lx lw=>Hid (Ext w1 lw/\Vec lw (w.heap.size) [iQ r,iQ c,v]/\Vec lw (w.heap.size+1) [iQ r',iQ c',v']/\(L 0=true->lx 24=Value.pointer (some ⟨w.heap.size,0,none⟩))/\(L 1=true->lx 25=iQ r)/\(L 2=true->lx 26=Value.pointer (some ⟨w.heap.size+1,0,none⟩))/\(L 3=true->lx 27=iQ r')/\(L 4=true->lx 28=iQ (max r r'))/\(L 5=true->lx 29=Value.pointer (some ⟨w.heap.size,1,none⟩))/\(L 6=true->lx 30=iQ c)/\(L 7=true->lx 31=Value.pointer (some ⟨w.heap.size+1,1,none⟩))/\(L 8=true->lx 32=iQ c')/\(L 9=true->lx 33=iQ (max c c'))/\(L 10=true->lx 9=iQ (max r r'))/\(L 11=true->lx 10=iQ (max c c')))) rfl (by kernel_rfl) (fun jj=>undef) rfl ?_ ?_ ?_
 ·exact ⟨xd (xr w1),C0'.l (xd (xr _)),C1'.l (xd (xr _)),(fun h=>by cases h),(fun h=>by cases h),(fun h=>by cases h),(fun h=>by cases h),(fun h=>by cases h),(fun h=>by cases h),(fun h=>by cases h),(fun h=>by cases h),(fun h=>by cases h),(fun h=>by cases h),(fun h=>by cases h),(fun h=>by cases h)⟩
 ·intro L lx wl i o K hK ho hL haf hI;obtain ⟨X,f0,f1,f2,f3,f4,f5,f6,f7,f8,f9,f10,f11,f12,f13⟩:=hI.out
  match i,ho,hL,haf,hK with
  | 0,ho,hL,haf,hK =>
   cases ho
   (try dsimp only)
   go_wp2_with fail;exact hK (fun jj=>if jj=24 then Value.pointer (some ⟨w.heap.size,0,none⟩) else lx jj) _ ⟨X,f0,f1,(fun _=>rfl),f3,f4,f5,f6,f7,f8,f9,f10,f11,f12,f13⟩
  | 1,ho,hL,haf,hK =>
   cases ho
   (try dsimp only)
   rw [f2 (haf ⟨0,.data⟩ (by simp) rfl)];have a0:=(f0 0 _ rfl).1;go_wp2_with fail;exact hK (fun jj=>if jj=25 then iQ r else if jj=24 then Value.pointer (some ⟨w.heap.size,0,none⟩) else lx jj) _ ⟨X,f0,f1,(fun _=>rfl),(fun _=>rfl),f4,f5,f6,f7,f8,f9,f10,f11,f12,f13⟩
  | 2,ho,hL,haf,hK =>
   cases ho
   (try dsimp only)
   go_wp2_with fail;exact hK (fun jj=>if jj=26 then Value.pointer (some ⟨w.heap.size+1,0,none⟩) else lx jj) _ ⟨X,f0,f1,f2,f3,(fun _=>rfl),f5,f6,f7,f8,f9,f10,f11,f12,f13⟩
  | 3,ho,hL,haf,hK =>
   cases ho
   (try dsimp only)
   rw [f4 (haf ⟨2,.data⟩ (by simp) rfl)];have a0:=(f1 0 _ rfl).1;go_wp2_with fail;exact hK (fun jj=>if jj=27 then iQ r' else if jj=26 then Value.pointer (some ⟨w.heap.size+1,0,none⟩) else lx jj) _ ⟨X,f0,f1,f2,f3,(fun _=>rfl),(fun _=>rfl),f6,f7,f8,f9,f10,f11,f12,f13⟩
  | 4,ho,hL,haf,hK =>
   cases ho
   (try dsimp only)
   rw [f3 (haf ⟨1,.data⟩ (by simp) rfl),f5 (haf ⟨3,.data⟩ (by simp) rfl)];go_wp2_with fail;exact hK (fun jj=>if jj=28 then iQ (max r r') else if jj=25 then iQ r else if jj=27 then iQ r' else lx jj) _ ⟨X,f0,f1,f2,(fun _=>rfl),f4,(fun _=>rfl),(fun _=>rfl),f7,f8,f9,f10,f11,f12,f13⟩
  | 5,ho,hL,haf,hK =>
   cases ho
   (try dsimp only)
   go_wp2_with fail;exact hK (fun jj=>if jj=29 then Value.pointer (some ⟨w.heap.size,1,none⟩) else lx jj) _ ⟨X,f0,f1,f2,f3,f4,f5,f6,(fun _=>rfl),f8,f9,f10,f11,f12,f13⟩
  | 6,ho,hL,haf,hK =>
   cases ho
   (try dsimp only)
   rw [f7 (haf ⟨5,.data⟩ (by simp) rfl)];have a1:=(f0 1 _ rfl).1;go_wp2_with fail;exact hK (fun jj=>if jj=30 then iQ c else if jj=29 then Value.pointer (some ⟨w.heap.size,1,none⟩) else lx jj) _ ⟨X,f0,f1,f2,f3,f4,f5,f6,(fun _=>rfl),(fun _=>rfl),f9,f10,f11,f12,f13⟩
  | 7,ho,hL,haf,hK =>
   cases ho
   (try dsimp only)
   go_wp2_with fail;exact hK (fun jj=>if jj=31 then Value.pointer (some ⟨w.heap.size+1,1,none⟩) else lx jj) _ ⟨X,f0,f1,f2,f3,f4,f5,f6,f7,f8,(fun _=>rfl),f10,f11,f12,f13⟩
  | 8,ho,hL,haf,hK =>
   cases ho
   (try dsimp only)
   rw [f9 (haf ⟨7,.data⟩ (by simp) rfl)];have a1:=(f1 1 _ rfl).1;go_wp2_with fail;exact hK (fun jj=>if jj=32 then iQ c' else if jj=31 then Value.pointer (some ⟨w.heap.size+1,1,none⟩) else lx jj) _ ⟨X,f0,f1,f2,f3,f4,f5,f6,f7,f8,(fun _=>rfl),(fun _=>rfl),f11,f12,f13⟩
  | 9,ho,hL,haf,hK =>
   cases ho
   (try dsimp only)
   rw [f8 (haf ⟨6,.data⟩ (by simp) rfl),f10 (haf ⟨8,.data⟩ (by simp) rfl)];go_wp2_with fail;exact hK (fun jj=>if jj=33 then iQ (max c c') else if jj=30 then iQ c else if jj=32 then iQ c' else lx jj) _ ⟨X,f0,f1,f2,f3,f4,f5,f6,f7,(fun _=>rfl),f9,(fun _=>rfl),(fun _=>rfl),f12,f13⟩
  | 10,ho,hL,haf,hK =>
   cases ho
   (try dsimp only)
   rw [f6 (haf ⟨4,.data⟩ (by simp) rfl)];go_wp2_with fail;exact hK (fun jj=>if jj=9 then iQ (max r r') else if jj=28 then iQ (max r r') else lx jj) _ ⟨X,f0,f1,f2,f3,f4,f5,(fun _=>rfl),f7,f8,f9,f10,f11,(fun _=>rfl),f13⟩
  | 11,ho,hL,haf,hK =>
   cases ho
   (try dsimp only)
   rw [f11 (haf ⟨9,.data⟩ (by simp) rfl)];go_wp2_with fail;exact hK (fun jj=>if jj=10 then iQ (max c c') else if jj=33 then iQ (max c c') else lx jj) _ ⟨X,f0,f1,f2,f3,f4,f5,f6,f7,f8,f9,f10,(fun _=>rfl),f12,(fun _=>rfl)⟩
  | k+12,ho,_,_,_=>simp at ho
 ·intro L lx wr hall hI;obtain ⟨XR,f0,f1,f2,f3,f4,f5,f6,f7,f8,f9,f10,f11,f12,f13⟩:=hI.out;clear hI;have G0:=f0;have G1:=f1;replace f2:=f2 (hall 0 (by simp));replace f3:=f3 (hall 1 (by simp));replace f4:=f4 (hall 2 (by simp));replace f5:=f5 (hall 3 (by simp));replace f6:=f6 (hall 4 (by simp));replace f7:=f7 (hall 5 (by simp));replace f8:=f8 (hall 6 (by simp));replace f9:=f9 (hall 7 (by simp));replace f10:=f10 (hall 8 (by simp));replace f11:=f11 (hall 9 (by simp));replace f12:=f12 (hall 10 (by simp));replace f13:=f13 (hall 11 (by simp))
  (try dsimp only)
  rw [f2,f3,f4,f5,f6,f7,f8,f9,f10,f11,f12,f13];clear hall f0 f1 f2 f3 f4 f5 f6 f7 f8 f9 f10 f11 f12 f13;have D2:=C2'.l XR;have X2:=xt X1 XR;obtain ⟨R,hRe⟩:=nm (max r r');obtain ⟨C,hCe⟩:=nm (max c c');have HRC:Hid (hiG r r'=R/\hiG c c'=C):=⟨hRe,hCe⟩;rw [hRe,hCe];clear hRe hCe C0' C1' C2' X1 XR e1;cases kn
  ·have hop:opN op=none:=by
    rcases HK.out with ⟨_,q⟩ | ⟨q,_⟩
    ·exact q
    ·cases q
   have HN:Hid (R0=0/\C0=0/\L0=[]):=zBC HG.out (by unfold zE4;rw [hop];exact ite_self _);clear HK HG HRC h h' hl hl' ht ht' hd hd' hT hE hI G0 G1 hop;obtain ⟨wy,hy,FX,⟨b0,b1,b2⟩,⟨fb0,fb1,fb2⟩,fd0,fd1,fd2⟩:=finG (D2) (X2) (by omega) 0 0 (.slice none 0 0);go_wp2_with fail;exact bodyPost_ret (v:=grV 0 0 (.slice none 0 0)) (by simp [results,Tryz.results15,go_sem,fd0,fd1,fd2]) rfl ⟨⟨_,by rw [HN.out.1,HN.out.2.1],by rw [HN.out.2.2];exact World.ownsRow_nil _ _ _ _⟩,FX⟩
  ·obtain ⟨o,f,hop,hfw,M⟩:∃ o f,opN op=some o/\fw=fnV f/\zC7 o f:=by
    rcases HK.out with ⟨q,_⟩ | ⟨_,q⟩
    ·cases q
    ·exact q
   subst hfw;clear HK;have ht2:∀ e ∈ l,e.t.length<=2000000:=fun e he=>by have:=ht e he;omega
   have ht2':∀ e ∈ l',e.t.length<=2000000:=fun e he=>by have:=ht' e he;omega
   obtain ⟨a0,a1,a2⟩:=Vec.three (G0);go_wp2_with fail;clear a0 a1 a2;refine (zSH r c v l wr (h.l X2) (by omega) ht2 hd (hT.l X2) (hE.l X2)).mono ?_;rintro e w3 ⟨rfl,e3⟩;have E0:=G0.l e3;have E1:=G1.l e3;have E2:=D2.l e3;have X3:=xt X2 e3;clear G0 G1 D2 X2 e3;obtain ⟨ga,hga⟩:=nm (zE5 r c l);rw [hga];cases ga
   ·have HN:Hid (R0=0/\C0=0/\L0=[]):=zBC HG.out (by unfold zE4;rw [hga];rfl);clear HG HRC h h' hl hl' ht ht' ht2 ht2' hd hd' hT hE hI hop M hga E0 E1;obtain ⟨wy,hy,FX,⟨b0,b1,b2⟩,⟨fb0,fb1,fb2⟩,fd0,fd1,fd2⟩:=finG (E2) (X3) (by omega) 0 0 (.slice none 0 0);go_wp2_with fail;exact bodyPost_ret (v:=grV 0 0 (.slice none 0 0)) (by simp [results,Tryz.results15,go_sem,fd0,fd1,fd2]) rfl ⟨⟨_,by rw [HN.out.1,HN.out.2.1],by rw [HN.out.2.2];exact World.ownsRow_nil _ _ _ _⟩,FX⟩
   ·obtain ⟨c0,c1,c2⟩:=Vec.three (E1);go_wp2_with fail;clear c0 c1 c2;refine (zSH r' c' v' l' w3 (h'.l X3) (by omega) ht2' hd' (hT.l X3) (hE.l X3)).mono ?_;rintro e w4 ⟨rfl,e4⟩;have F0:=E0.l e4;have F1:=E1.l e4;have F2:=E2.l e4;have X4:=xt X3 e4;clear E0 E1 E2 X3 e4;obtain ⟨gb,hgb⟩:=nm (zE5 r' c' l');rw [hgb];cases gb
    ·have HN:Hid (R0=0/\C0=0/\L0=[]):=zBC HG.out (by unfold zE4;rw [hga,hgb];rfl);clear HG HRC h h' hl hl' ht ht' ht2 ht2' hd hd' hT hE hI hop M hga hgb F0 F1;obtain ⟨wy,hy,FX,⟨b0,b1,b2⟩,⟨fb0,fb1,fb2⟩,fd0,fd1,fd2⟩:=finG (F2) (X4) (by omega) 0 0 (.slice none 0 0);go_wp2_with fail;exact bodyPost_ret (v:=grV 0 0 (.slice none 0 0)) (by simp [results,Tryz.results15,go_sem,fd0,fd1,fd2]) rfl ⟨⟨_,by rw [HN.out.1,HN.out.2.1],by rw [HN.out.2.2];exact World.ownsRow_nil _ _ _ _⟩,FX⟩
    ·obtain ⟨hsA,hgA,⟨r1,r2⟩,c1,c2⟩:=zD7 hga;obtain ⟨hsB,hgB,⟨r1',r2'⟩,c1',c2'⟩:=zD7 hgb;have hR1:1<=R/\R<=2000:=(by have:=HRC.out.1;unfold hiG at this;omega);have hC1:1<=C/\C<=2000:=(by have:=HRC.out.2;unfold hiG at this;omega);obtain ⟨N,hN⟩:∃ N:Nat,R * C=(N:Int):=⟨(R * C).toNat,by have:=Int.mul_nonneg (show 0<=R by omega) (show 0<=C by omega);omega⟩;have hN4:(N:Int)<=4000000:=(by rw [<- hN];have:=Int.mul_le_mul hR1.2 hC1.2 (by omega) (by omega);omega);have hwr:IntKind.i64.wrap (R * C)=(N:Int):=(by rw [hN,IntKind.wrap_i64];omega);clear r1 r2 c1 c2 r1' r2' c1' c2';by_cases hbig:(2000:Int)<(N:Int)
     ·have HN:Hid (R0=0/\C0=0/\L0=[]):=zBC HG.out (by unfold zE4;rw [hga,hgb,HRC.out.1,HRC.out.2,hN,decide_eq_false (by omega)];rfl);clear HG HRC h h' hl hl' ht ht' ht2 ht2' hd hd' hT hE hI hop M hga hgb F0 F1 hsA hsB hgA hgB hN;obtain ⟨wy,hy,FX,⟨b0,b1,b2⟩,⟨fb0,fb1,fb2⟩,fd0,fd1,fd2⟩:=finG (F2) (X4) (by omega) 0 0 (.slice none 0 0);go_wp2_with fail;exact bodyPost_ret (v:=grV 0 0 (.slice none 0 0)) (by simp [results,Tryz.results15,go_sem,fd0,fd1,fd2]) rfl ⟨⟨_,by rw [HN.out.1,HN.out.2.1],by rw [HN.out.2.2];exact World.ownsRow_nil _ _ _ _⟩,FX⟩
     ·have HS:Hid (R0=R/\C0=C/\L0=(List.range N).map (zHK o r c l r' c' l' C)):=by
       have:=zF9 HG.out (o:=o) (by unfold zE4;rw [hga,hgb,HRC.out.1,HRC.out.2,hN,decide_eq_true (by omega)];exact hop);rw [HRC.out.1,HRC.out.2,hN] at this;exact this
      clear HG HRC hga hgb hop ht2 ht2';have hN2:decide ((2000:Int)<(N:Int))=false:=(by simpa using hbig);obtain ⟨wz,wo,hz,hyo,BO,XO,⟨z0,z1,z2⟩,fz0,fz1,fz2⟩:=newG w4 R C none 0 0;go_wp2_with fail;clear hz hyo z0 z1 z2 fz0 fz1 fz2 hwr hN2;obtain ⟨F,hF⟩:=nm (zHK o r c l r' c' l' C);have HF:Hid (∀ q:Nat,F q=zKM o (cellAt r c l ((q:Int) / C) ((q:Int) % C)) (cellAt r' c' l' ((q:Int) / C) ((q:Int) % C))):=fun q=>(by rw [<- hF];rfl);rw [hF] at HS;clear hF;have HV0:Hid (Vec wo w4.heap.size [iQ R,iQ C,.slice none 0 0]/\OwnW wo (w4.heap.size+1) (.slice none 0 0) ((List.range 0).map F)/\Ext w4 wo):=⟨BO,World.ownsRow_nil _ _ _ _,XO⟩;clear BO XO;go_loopw [59] (fun i wr=>∃ (k:Nat) (sv:Value),k<=N/\i=.int .i64 k/\Hid (Vec wr w4.heap.size [.int .i64 R,.int .i64 C,sv]/\OwnW wr (w4.heap.size+1) sv ((List.range k).map F)/\Ext w4 wr)) (fun i _=>N - (intOf i).toNat)
      case atStart=>exact ⟨0,_,by omega,rfl,HV0⟩
      case round =>
       obtain ⟨k,sv,hk,rfl,HV⟩:=hrel;obtain ⟨VO,OW,XW⟩:=HV.out;obtain ⟨ps,ns,cs,rfl⟩:=zAV OW;by_cases hlt:k<N
       ·have i2:(k:Int)<(N:Int):=(by omega);have hq0:0<=(k:Int) / C:=Int.ediv_nonneg (by omega) (by omega);have hq1:(k:Int) / C<=k:=Int.ediv_le_self C (by omega);have hr0:0<=(k:Int) % C:=Int.emod_nonneg _ (by omega);have hr1:(k:Int) % C<C:=Int.emod_lt_of_pos _ (by omega);have hFk:=HF.out k;have td:Int.tdiv (k:Int) C=(k:Int) / C:=Int.tdiv_eq_ediv_of_nonneg (by omega);have tm:Int.tmod (k:Int) C=(k:Int) % C:=Int.tmod_eq_emod_of_nonneg (by omega);obtain ⟨qi,hqi⟩:=nm ((k:Int) / C);obtain ⟨ri,hri⟩:=nm ((k:Int) % C);rw [hqi] at hq0 hq1 td hFk;rw [hri] at hr0 hr1 tm hFk;clear hqi hri;have wq:IntKind.i64.wrap qi=qi:=(by rw [IntKind.wrap_i64];omega);have wm:IntKind.i64.wrap ri=ri:=(by rw [IntKind.wrap_i64];omega);have hC0:C ≠ 0:=(by omega);have CA:Hid (∀ W,Ext w W->Calls Tryz.prog 63 #[grV r c v,iQ qi,iQ ri] W fun e w'=>e=.returned (zKN (cellAt r c l qi ri))/\Ext W w'):=fun W hW=>zW5 r c v l qi ri W (h.l hW) hsA hq0 (by omega) hr0 (by omega);have CB:Hid (∀ W,Ext w W->Calls Tryz.prog 63 #[grV r' c' v',iQ qi,iQ ri] W fun e w'=>e=.returned (zKN (cellAt r' c' l' qi ri))/\Ext W w'):=fun W hW=>zW5 r' c' v' l' qi ri W (h'.l hW) hsB hq0 (by omega) hr0 (by omega);have mA:Hid (∀ e,cellAt r c l qi ri=some e->e ∈ l):=fun e he=>zEK he;have mB:Hid (∀ e,cellAt r' c' l' qi ri=some e->e ∈ l'):=fun e he=>zEK he;obtain ⟨CA1,hA1⟩:=nm (cellAt r c l qi ri);obtain ⟨CB1,hB1⟩:=nm (cellAt r' c' l' qi ri);rw [hA1] at CA mA hFk;rw [hB1] at CB mB hFk;clear hA1 hB1 hq0 hq1 hr0 hr1;obtain ⟨⟨k1,n1,d1,x1',t1⟩,g1,hT1,hs1,hn1⟩:=zGE CA1;obtain ⟨⟨k2,n2,d2,x2,t2⟩,g2,hT2,hs2,hn2⟩:=zGE CB1;rw [hT1] at CA;rw [hT2] at CB;have Hs:Hid ((g1=true->CA1=some ⟨k1,n1,d1,x1',t1⟩)/\(g1=false->CA1=none)/\(g2=true->CB1=some ⟨k2,n2,d2,x2,t2⟩)/\(g2=false->CB1=none)):=⟨hs1,hn1,hs2,hn2⟩;have HFk:Hid (F k=zKM o CA1 CB1):=hFk;clear hT1 hT2 hs1 hn1 hs2 hn2 hFk;have G0:=F0.l XW;have G1:=F1.l XW;have XA:=xt X4 XW;have lt0:w.heap.size<wr.heap.size:=World.block_lt_of_cell? _ _ (G0 0 _ rfl).1;go_wp2_with fail;refine zA2 (fun lx:Nat->Value=>{ tmps:=#[sV op,grV r c v,grV r' c' v',undef,Value.pointer (some ⟨w.heap.size,0,none⟩),Value.pointer (some ⟨w.heap.size+1,0,none⟩),Value.pointer (some ⟨w.heap.size+1+1,0,none⟩),fnV f,Value.bool true,iQ R,iQ C,Value.pointer (some ⟨w4.heap.size,0,none⟩),Value.int .i64 (k:Int),lx 13,lx 14,u15,u16,u17,Value.tuple #[fnV f,Value.bool true],Value.map (some m),sV op,Value.tuple #[fnV f,Value.bool true],fnV f,Value.bool true,Value.pointer (some ⟨w.heap.size,0,none⟩),iQ r,Value.pointer (some ⟨w.heap.size+1,0,none⟩),iQ r',iQ R,Value.pointer (some ⟨w.heap.size,1,none⟩),iQ c,Value.pointer (some ⟨w.heap.size+1,1,none⟩),iQ c',iQ C,Value.bool true,Value.bool false,Value.bool false,Value.agg #[iQ r,iQ c,v],Value.bool true,Value.bool false,Value.bool false,Value.bool false,Value.agg #[iQ r',iQ c',v'],Value.bool true,Value.bool false,Value.bool false,Value.bool false,iQ R,iQ C,Value.int .i64 (N:Int),Value.bool false,Value.bool false,undef,iQ R,iQ C,Value.agg #[iQ R,iQ C,Value.slice none 0 0],iQ R,iQ C,Value.int .i64 (N:Int),Value.int .i64 (k:Int),Value.bool true,Value.int .i64 (k:Int),lx 62,lx 63,lx 64,lx 65,lx 66,lx 67,lx 68,lx 69,lx 70,lx 71,lx 72,u73,u74,u75,u76,u77,u78,u79,u80,u81,u82,u83,u84,u85,u86,u87,u88,u89,u90,u91,u92,u93,u94,u95,u96,u97,u98,u99,undef],defers:=[] }) (fun L lx lw=>Hid (Ext wr lw/\Vec lw (w.heap.size) [iQ r,iQ c,v]/\(L 0=true->lx 63=grV r c v)/\(L 1=true->lx 64=iQ (k:Int))/\(L 2=true->lx 65=iQ C)/\(L 3=true->lx 66=iQ qi)/\(L 4=true->lx 67=iQ (k:Int))/\(L 5=true->lx 68=iQ C)/\(L 6=true->lx 69=iQ ri)/\(L 7=true->lx 70=Value.tuple #[valV k1 n1 d1 x1' t1,.bool g1])/\(L 8=true->lx 62=Value.tuple #[valV k1 n1 d1 x1' t1,.bool g1])/\(L 9=true->lx 71=valV k1 n1 d1 x1' t1)/\(L 10=true->lx 72=.bool g1)/\(L 11=true->∃ b,lx 13=.pointer (some ⟨b,0,none⟩)/\wr.heap.size<=b/\(L 12=false->Vec lw b [iQ 0,.bool false,iQ 0,iQ 0,sV []])/\(L 12=true->Vec lw b [iQ k1,.bool n1,iQ d1,iQ x1',sV t1]))/\(L 12=true->L 11=true)/\(L 13=true->lx 14=.bool g1))) rfl (by kernel_rfl) (fun jj=>if jj=13 then u13 else if jj=14 then u14 else if jj=62 then u62 else if jj=63 then u63 else if jj=64 then u64 else if jj=65 then u65 else if jj=66 then u66 else if jj=67 then u67 else if jj=68 then u68 else if jj=69 then u69 else if jj=70 then u70 else if jj=71 then u71 else if jj=72 then u72 else undef) rfl ?_ ?_ ?_
        ·exact ⟨xd (xr wr),G0.l (xd (xr _)),(fun h=>by cases h),(fun h=>by cases h),(fun h=>by cases h),(fun h=>by cases h),(fun h=>by cases h),(fun h=>by cases h),(fun h=>by cases h),(fun h=>by cases h),(fun h=>by cases h),(fun h=>by cases h),(fun h=>by cases h),(fun h=>by cases h),(fun h=>by cases h),(fun h=>by cases h)⟩
        ·intro L lx wl i o K hK ho hL haf hI;obtain ⟨X,f0,f1,f2,f3,f4,f5,f6,f7,f8,f9,f10,f11,f12,f13,f14⟩:=hI.out
         match i,ho,hL,haf,hK with
         | 0,ho,hL,haf,hK =>
          cases ho
          (try dsimp only)
          have a0:=(f0 0 _ rfl).1;have a1:=(f0 1 _ rfl).1;have a2:=(f0 2 _ rfl).1;go_wp2_with fail;exact hK (fun jj=>if jj=63 then grV r c v else lx jj) _ ⟨X,f0,(fun _=>rfl),f2,f3,f4,f5,f6,f7,f8,f9,f10,f11,f12,f13,f14⟩
         | 1,ho,hL,haf,hK =>
          cases ho
          (try dsimp only)
          go_wp2_with fail;exact hK (fun jj=>if jj=64 then iQ (k:Int) else lx jj) _ ⟨X,f0,f1,(fun _=>rfl),f3,f4,f5,f6,f7,f8,f9,f10,f11,f12,f13,f14⟩
         | 2,ho,hL,haf,hK =>
          cases ho
          (try dsimp only)
          go_wp2_with fail;exact hK (fun jj=>if jj=65 then iQ C else lx jj) _ ⟨X,f0,f1,f2,(fun _=>rfl),f4,f5,f6,f7,f8,f9,f10,f11,f12,f13,f14⟩
         | 3,ho,hL,haf,hK =>
          cases ho
          (try dsimp only)
          rw [f2 (haf ⟨1,.data⟩ (by simp) rfl),f3 (haf ⟨2,.data⟩ (by simp) rfl)];go_wp2_with fail;exact hK (fun jj=>if jj=66 then iQ qi else if jj=64 then iQ (k:Int) else if jj=65 then iQ C else lx jj) _ ⟨X,f0,f1,(fun _=>rfl),(fun _=>rfl),(fun _=>rfl),f5,f6,f7,f8,f9,f10,f11,f12,f13,f14⟩
         | 4,ho,hL,haf,hK =>
          cases ho
          (try dsimp only)
          go_wp2_with fail;exact hK (fun jj=>if jj=67 then iQ (k:Int) else lx jj) _ ⟨X,f0,f1,f2,f3,f4,(fun _=>rfl),f6,f7,f8,f9,f10,f11,f12,f13,f14⟩
         | 5,ho,hL,haf,hK =>
          cases ho
          (try dsimp only)
          go_wp2_with fail;exact hK (fun jj=>if jj=68 then iQ C else lx jj) _ ⟨X,f0,f1,f2,f3,f4,f5,(fun _=>rfl),f7,f8,f9,f10,f11,f12,f13,f14⟩
         | 6,ho,hL,haf,hK =>
          cases ho
          (try dsimp only)
          rw [f5 (haf ⟨4,.data⟩ (by simp) rfl),f6 (haf ⟨5,.data⟩ (by simp) rfl)];go_wp2_with fail;exact hK (fun jj=>if jj=69 then iQ ri else if jj=67 then iQ (k:Int) else if jj=68 then iQ C else lx jj) _ ⟨X,f0,f1,f2,f3,f4,(fun _=>rfl),(fun _=>rfl),(fun _=>rfl),f8,f9,f10,f11,f12,f13,f14⟩
         | 7,ho,hL,haf,hK =>
          cases ho
          (try dsimp only)
          rw [f1 (haf ⟨0,.data⟩ (by simp) rfl),f4 (haf ⟨3,.data⟩ (by simp) rfl),f7 (haf ⟨6,.data⟩ (by simp) rfl)];go_wp2_with fail;refine (CA.out wl (xt XA X)).mono ?_;rintro rr w' ⟨rfl,E⟩;go_wp2_with fail;exact hK (fun jj=>if jj=70 then Value.tuple #[valV k1 n1 d1 x1' t1,.bool g1] else if jj=63 then grV r c v else if jj=66 then iQ qi else if jj=69 then iQ ri else lx jj) _ ⟨xt X E,(f0.l E),(fun _=>rfl),f2,f3,(fun _=>rfl),f5,f6,(fun _=>rfl),(fun _=>rfl),f9,f10,f11,(fun h=>by obtain ⟨b,h1,h2,h3,h4⟩:=f12 h;exact ⟨b,h1,h2,fun h=>(h3 h).l E,fun h=>(h4 h).l E⟩),f13,f14⟩
         | 8,ho,hL,haf,hK =>
          cases ho
          (try dsimp only)
          rw [f8 (haf ⟨7,.data⟩ (by simp) rfl)];go_wp2_with fail;exact hK (fun jj=>if jj=62 then Value.tuple #[valV k1 n1 d1 x1' t1,.bool g1] else if jj=70 then Value.tuple #[valV k1 n1 d1 x1' t1,.bool g1] else lx jj) _ ⟨X,f0,f1,f2,f3,f4,f5,f6,f7,(fun _=>rfl),(fun _=>rfl),f10,f11,f12,f13,f14⟩
         | 9,ho,hL,haf,hK =>
          cases ho
          (try dsimp only)
          rw [f9 (haf ⟨8,.data⟩ (by simp) rfl)];go_wp2_with fail;exact hK (fun jj=>if jj=71 then valV k1 n1 d1 x1' t1 else if jj=62 then Value.tuple #[valV k1 n1 d1 x1' t1,.bool g1] else lx jj) _ ⟨X,f0,f1,f2,f3,f4,f5,f6,f7,f8,(fun _=>rfl),(fun _=>rfl),f11,f12,f13,f14⟩
         | 10,ho,hL,haf,hK =>
          cases ho
          (try dsimp only)
          rw [f9 (haf ⟨8,.data⟩ (by simp) rfl)];go_wp2_with fail;exact hK (fun jj=>if jj=72 then .bool g1 else if jj=62 then Value.tuple #[valV k1 n1 d1 x1' t1,.bool g1] else lx jj) _ ⟨X,f0,f1,f2,f3,f4,f5,f6,f7,f8,(fun _=>rfl),f10,(fun _=>rfl),f12,f13,f14⟩
         | 11,ho,hL,haf,hK =>
          cases ho
          (try dsimp only)
          have hst:L 12=true->False:=fun h=>(by have:=f13 h;rw [hL] at this;cases this);have E:=x1 wl (.cells #[iQ 0,.bool false,iQ 0,iQ 0,sV []] 26);go_wp2_with fail;exact hK (fun jj=>if jj=13 then .pointer (some ⟨wl.heap.size,0,none⟩) else lx jj) _ ⟨xt X E,(f0.l E),f1,f2,f3,f4,f5,f6,f7,f8,f9,f10,f11,(fun _=>⟨wl.heap.size,rfl,by have:=X.size;omega,fun _=>zA5 wl [iQ 0,.bool false,iQ 0,iQ 0,sV []] _,fun h=>(hst h).elim⟩),(fun _=>rfl),f14⟩
         | 12,ho,hL,haf,hK =>
          cases ho
          (try dsimp only)
          have hmk:L 11=true:=haf ⟨11,.data⟩ (by simp) rfl;obtain ⟨b,eb',hb,hz,_⟩:=f12 hmk;have bx:=hz hL;rw [eb',f10 (haf ⟨9,.data⟩ (by simp) rfl)];obtain ⟨b0,b1,b2,b3,b4⟩:=Vec.five (bx);obtain ⟨fb0,fb1,fb2,fb3,fb4⟩:=Vec.fiveF (bx);have hX:=Ext.setL (b:=b) (by omega) [iQ k1,.bool n1,iQ d1,iQ x1',sV t1] 0 X;have hB:=bx.put5 (iQ k1) (.bool n1) (iQ d1) (iQ x1') (sV t1);go_wp2_with fail;exact hK (fun jj=>if jj=13 then .pointer (some ⟨b,0,none⟩) else if jj=71 then valV k1 n1 d1 x1' t1 else lx jj) _ ⟨hX,(Vec.farL (k:=b) (by omega) [iQ k1,.bool n1,iQ d1,iQ x1',sV t1] 0 f0),f1,f2,f3,f4,f5,f6,f7,f8,f9,(fun _=>rfl),f11,(fun _=>⟨b,rfl,hb,(fun h=>by cases h),fun _=>hB⟩),(fun _=>hmk),f14⟩
         | 13,ho,hL,haf,hK =>
          cases ho
          (try dsimp only)
          rw [f11 (haf ⟨10,.data⟩ (by simp) rfl)];go_wp2_with fail;exact hK (fun jj=>if jj=14 then .bool g1 else if jj=72 then .bool g1 else lx jj) _ ⟨X,f0,f1,f2,f3,f4,f5,f6,f7,f8,f9,f10,(fun _=>rfl),f12,f13,(fun _=>rfl)⟩
         | k+14,ho,_,_,_=>simp at ho
        ·intro L lx w5 hall hI;obtain ⟨XR,f0,f1,f2,f3,f4,f5,f6,f7,f8,f9,f10,f11,f12,f13,f14⟩:=hI.out;clear hI;have G0:=f0;replace f1:=f1 (hall 0 (by simp));replace f2:=f2 (hall 1 (by simp));replace f3:=f3 (hall 2 (by simp));replace f4:=f4 (hall 3 (by simp));replace f5:=f5 (hall 4 (by simp));replace f6:=f6 (hall 5 (by simp));replace f7:=f7 (hall 6 (by simp));replace f8:=f8 (hall 7 (by simp));replace f9:=f9 (hall 8 (by simp));replace f10:=f10 (hall 9 (by simp));replace f11:=f11 (hall 10 (by simp));obtain ⟨bb,eb,lb,_,hz⟩:=f12 (hall 11 (by simp));have BN:=hz (hall 12 (by simp));replace f14:=f14 (hall 13 (by simp))
         (try dsimp only)
         rw [eb];rw [f1,f2,f3,f4,f5,f6,f7,f8,f9,f10,f11,f14];clear hall hz f0 f1 f2 f3 f4 f5 f6 f7 f8 f9 f10 f11 f12 f13 f14;obtain ⟨ba,hba⟩:=nm (bb);rw [hba] at lb BN ⊢;clear hba eb lb;have BN1:=BN;have XB:=xt XA XR;have Y5:=XR;have H1:=G1.l XR;clear BN XR G1;have lt1:w.heap.size+1<w5.heap.size:=World.block_lt_of_cell? _ _ (H1 0 _ rfl).1;go_wp2_with fail;refine zA2 (fun lx:Nat->Value=>{ tmps:=#[sV op,grV r c v,grV r' c' v',undef,Value.pointer (some ⟨w.heap.size,0,none⟩),Value.pointer (some ⟨w.heap.size+1,0,none⟩),Value.pointer (some ⟨w.heap.size+1+1,0,none⟩),fnV f,Value.bool true,iQ R,iQ C,Value.pointer (some ⟨w4.heap.size,0,none⟩),Value.int .i64 (k:Int),Value.pointer (some ⟨ba,0,none⟩),.bool g1,lx 15,lx 16,u17,Value.tuple #[fnV f,Value.bool true],Value.map (some m),sV op,Value.tuple #[fnV f,Value.bool true],fnV f,Value.bool true,Value.pointer (some ⟨w.heap.size,0,none⟩),iQ r,Value.pointer (some ⟨w.heap.size+1,0,none⟩),iQ r',iQ R,Value.pointer (some ⟨w.heap.size,1,none⟩),iQ c,Value.pointer (some ⟨w.heap.size+1,1,none⟩),iQ c',iQ C,Value.bool true,Value.bool false,Value.bool false,Value.agg #[iQ r,iQ c,v],Value.bool true,Value.bool false,Value.bool false,Value.bool false,Value.agg #[iQ r',iQ c',v'],Value.bool true,Value.bool false,Value.bool false,Value.bool false,iQ R,iQ C,Value.int .i64 (N:Int),Value.bool false,Value.bool false,undef,iQ R,iQ C,Value.agg #[iQ R,iQ C,Value.slice none 0 0],iQ R,iQ C,Value.int .i64 (N:Int),Value.int .i64 (k:Int),Value.bool true,Value.int .i64 (k:Int),Value.tuple #[valV k1 n1 d1 x1' t1,.bool g1],grV r c v,.int .i64 (k:Int),.int .i64 C,.int .i64 qi,.int .i64 (k:Int),.int .i64 C,.int .i64 ri,Value.tuple #[valV k1 n1 d1 x1' t1,.bool g1],valV k1 n1 d1 x1' t1,.bool g1,lx 73,lx 74,lx 75,lx 76,lx 77,lx 78,lx 79,lx 80,lx 81,lx 82,lx 83,u84,u85,u86,u87,u88,u89,u90,u91,u92,u93,u94,u95,u96,u97,u98,u99,undef],defers:=[] }) (fun L lx lw=>Hid (Ext w5 lw/\Vec lw (w.heap.size+1) [iQ r',iQ c',v']/\(L 0=true->lx 74=grV r' c' v')/\(L 1=true->lx 75=iQ (k:Int))/\(L 2=true->lx 76=iQ C)/\(L 3=true->lx 77=iQ qi)/\(L 4=true->lx 78=iQ (k:Int))/\(L 5=true->lx 79=iQ C)/\(L 6=true->lx 80=iQ ri)/\(L 7=true->lx 81=Value.tuple #[valV k2 n2 d2 x2 t2,.bool g2])/\(L 8=true->lx 73=Value.tuple #[valV k2 n2 d2 x2 t2,.bool g2])/\(L 9=true->lx 82=valV k2 n2 d2 x2 t2)/\(L 10=true->lx 83=.bool g2)/\(L 11=true->∃ b,lx 15=.pointer (some ⟨b,0,none⟩)/\w5.heap.size<=b/\(L 12=false->Vec lw b [iQ 0,.bool false,iQ 0,iQ 0,sV []])/\(L 12=true->Vec lw b [iQ k2,.bool n2,iQ d2,iQ x2,sV t2]))/\(L 12=true->L 11=true)/\(L 13=true->lx 16=.bool g2))) rfl (by kernel_rfl) (fun jj=>if jj=15 then u15 else if jj=16 then u16 else if jj=73 then u73 else if jj=74 then u74 else if jj=75 then u75 else if jj=76 then u76 else if jj=77 then u77 else if jj=78 then u78 else if jj=79 then u79 else if jj=80 then u80 else if jj=81 then u81 else if jj=82 then u82 else if jj=83 then u83 else undef) rfl ?_ ?_ ?_
         ·exact ⟨xd (xr w5),H1.l (xd (xr _)),(fun h=>by cases h),(fun h=>by cases h),(fun h=>by cases h),(fun h=>by cases h),(fun h=>by cases h),(fun h=>by cases h),(fun h=>by cases h),(fun h=>by cases h),(fun h=>by cases h),(fun h=>by cases h),(fun h=>by cases h),(fun h=>by cases h),(fun h=>by cases h),(fun h=>by cases h)⟩
         ·intro L lx wl i o K hK ho hL haf hI;obtain ⟨X,f0,f1,f2,f3,f4,f5,f6,f7,f8,f9,f10,f11,f12,f13,f14⟩:=hI.out
          match i,ho,hL,haf,hK with
          | 0,ho,hL,haf,hK =>
           cases ho
           (try dsimp only)
           have a0:=(f0 0 _ rfl).1;have a1:=(f0 1 _ rfl).1;have a2:=(f0 2 _ rfl).1;go_wp2_with fail;exact hK (fun jj=>if jj=74 then grV r' c' v' else lx jj) _ ⟨X,f0,(fun _=>rfl),f2,f3,f4,f5,f6,f7,f8,f9,f10,f11,f12,f13,f14⟩
          | 1,ho,hL,haf,hK =>
           cases ho
           (try dsimp only)
           go_wp2_with fail;exact hK (fun jj=>if jj=75 then iQ (k:Int) else lx jj) _ ⟨X,f0,f1,(fun _=>rfl),f3,f4,f5,f6,f7,f8,f9,f10,f11,f12,f13,f14⟩
          | 2,ho,hL,haf,hK =>
           cases ho
           (try dsimp only)
           go_wp2_with fail;exact hK (fun jj=>if jj=76 then iQ C else lx jj) _ ⟨X,f0,f1,f2,(fun _=>rfl),f4,f5,f6,f7,f8,f9,f10,f11,f12,f13,f14⟩
          | 3,ho,hL,haf,hK =>
           cases ho
           (try dsimp only)
           rw [f2 (haf ⟨1,.data⟩ (by simp) rfl),f3 (haf ⟨2,.data⟩ (by simp) rfl)];go_wp2_with fail;exact hK (fun jj=>if jj=77 then iQ qi else if jj=75 then iQ (k:Int) else if jj=76 then iQ C else lx jj) _ ⟨X,f0,f1,(fun _=>rfl),(fun _=>rfl),(fun _=>rfl),f5,f6,f7,f8,f9,f10,f11,f12,f13,f14⟩
          | 4,ho,hL,haf,hK =>
           cases ho
           (try dsimp only)
           go_wp2_with fail;exact hK (fun jj=>if jj=78 then iQ (k:Int) else lx jj) _ ⟨X,f0,f1,f2,f3,f4,(fun _=>rfl),f6,f7,f8,f9,f10,f11,f12,f13,f14⟩
          | 5,ho,hL,haf,hK =>
           cases ho
           (try dsimp only)
           go_wp2_with fail;exact hK (fun jj=>if jj=79 then iQ C else lx jj) _ ⟨X,f0,f1,f2,f3,f4,f5,(fun _=>rfl),f7,f8,f9,f10,f11,f12,f13,f14⟩
          | 6,ho,hL,haf,hK =>
           cases ho
           (try dsimp only)
           rw [f5 (haf ⟨4,.data⟩ (by simp) rfl),f6 (haf ⟨5,.data⟩ (by simp) rfl)];go_wp2_with fail;exact hK (fun jj=>if jj=80 then iQ ri else if jj=78 then iQ (k:Int) else if jj=79 then iQ C else lx jj) _ ⟨X,f0,f1,f2,f3,f4,(fun _=>rfl),(fun _=>rfl),(fun _=>rfl),f8,f9,f10,f11,f12,f13,f14⟩
          | 7,ho,hL,haf,hK =>
           cases ho
           (try dsimp only)
           rw [f1 (haf ⟨0,.data⟩ (by simp) rfl),f4 (haf ⟨3,.data⟩ (by simp) rfl),f7 (haf ⟨6,.data⟩ (by simp) rfl)];go_wp2_with fail;refine (CB.out wl (xt XB X)).mono ?_;rintro rr w' ⟨rfl,E⟩;go_wp2_with fail;exact hK (fun jj=>if jj=81 then Value.tuple #[valV k2 n2 d2 x2 t2,.bool g2] else if jj=74 then grV r' c' v' else if jj=77 then iQ qi else if jj=80 then iQ ri else lx jj) _ ⟨xt X E,(f0.l E),(fun _=>rfl),f2,f3,(fun _=>rfl),f5,f6,(fun _=>rfl),(fun _=>rfl),f9,f10,f11,(fun h=>by obtain ⟨b,h1,h2,h3,h4⟩:=f12 h;exact ⟨b,h1,h2,fun h=>(h3 h).l E,fun h=>(h4 h).l E⟩),f13,f14⟩
          | 8,ho,hL,haf,hK =>
           cases ho
           (try dsimp only)
           rw [f8 (haf ⟨7,.data⟩ (by simp) rfl)];go_wp2_with fail;exact hK (fun jj=>if jj=73 then Value.tuple #[valV k2 n2 d2 x2 t2,.bool g2] else if jj=81 then Value.tuple #[valV k2 n2 d2 x2 t2,.bool g2] else lx jj) _ ⟨X,f0,f1,f2,f3,f4,f5,f6,f7,(fun _=>rfl),(fun _=>rfl),f10,f11,f12,f13,f14⟩
          | 9,ho,hL,haf,hK =>
           cases ho
           (try dsimp only)
           rw [f9 (haf ⟨8,.data⟩ (by simp) rfl)];go_wp2_with fail;exact hK (fun jj=>if jj=82 then valV k2 n2 d2 x2 t2 else if jj=73 then Value.tuple #[valV k2 n2 d2 x2 t2,.bool g2] else lx jj) _ ⟨X,f0,f1,f2,f3,f4,f5,f6,f7,f8,(fun _=>rfl),(fun _=>rfl),f11,f12,f13,f14⟩
          | 10,ho,hL,haf,hK =>
           cases ho
           (try dsimp only)
           rw [f9 (haf ⟨8,.data⟩ (by simp) rfl)];go_wp2_with fail;exact hK (fun jj=>if jj=83 then .bool g2 else if jj=73 then Value.tuple #[valV k2 n2 d2 x2 t2,.bool g2] else lx jj) _ ⟨X,f0,f1,f2,f3,f4,f5,f6,f7,f8,(fun _=>rfl),f10,(fun _=>rfl),f12,f13,f14⟩
          | 11,ho,hL,haf,hK =>
           cases ho
           (try dsimp only)
           have hst:L 12=true->False:=fun h=>(by have:=f13 h;rw [hL] at this;cases this);have E:=x1 wl (.cells #[iQ 0,.bool false,iQ 0,iQ 0,sV []] 26);go_wp2_with fail;exact hK (fun jj=>if jj=15 then .pointer (some ⟨wl.heap.size,0,none⟩) else lx jj) _ ⟨xt X E,(f0.l E),f1,f2,f3,f4,f5,f6,f7,f8,f9,f10,f11,(fun _=>⟨wl.heap.size,rfl,by have:=X.size;omega,fun _=>zA5 wl [iQ 0,.bool false,iQ 0,iQ 0,sV []] _,fun h=>(hst h).elim⟩),(fun _=>rfl),f14⟩
          | 12,ho,hL,haf,hK =>
           cases ho
           (try dsimp only)
           have hmk:L 11=true:=haf ⟨11,.data⟩ (by simp) rfl;obtain ⟨b,eb',hb,hz,_⟩:=f12 hmk;have bx:=hz hL;rw [eb',f10 (haf ⟨9,.data⟩ (by simp) rfl)];obtain ⟨b0,b1,b2,b3,b4⟩:=Vec.five (bx);obtain ⟨fb0,fb1,fb2,fb3,fb4⟩:=Vec.fiveF (bx);have hX:=Ext.setL (b:=b) (by omega) [iQ k2,.bool n2,iQ d2,iQ x2,sV t2] 0 X;have hB:=bx.put5 (iQ k2) (.bool n2) (iQ d2) (iQ x2) (sV t2);go_wp2_with fail;exact hK (fun jj=>if jj=15 then .pointer (some ⟨b,0,none⟩) else if jj=82 then valV k2 n2 d2 x2 t2 else lx jj) _ ⟨hX,(Vec.farL (k:=b) (by omega) [iQ k2,.bool n2,iQ d2,iQ x2,sV t2] 0 f0),f1,f2,f3,f4,f5,f6,f7,f8,f9,(fun _=>rfl),f11,(fun _=>⟨b,rfl,hb,(fun h=>by cases h),fun _=>hB⟩),(fun _=>hmk),f14⟩
          | 13,ho,hL,haf,hK =>
           cases ho
           (try dsimp only)
           rw [f11 (haf ⟨10,.data⟩ (by simp) rfl)];go_wp2_with fail;exact hK (fun jj=>if jj=16 then .bool g2 else if jj=83 then .bool g2 else lx jj) _ ⟨X,f0,f1,f2,f3,f4,f5,f6,f7,f8,f9,f10,(fun _=>rfl),f12,f13,(fun _=>rfl)⟩
          | k+14,ho,_,_,_=>simp at ho
         ·intro L lx w6 hall hI;obtain ⟨XR,f0,f1,f2,f3,f4,f5,f6,f7,f8,f9,f10,f11,f12,f13,f14⟩:=hI.out;clear hI;have G0:=f0;replace f1:=f1 (hall 0 (by simp));replace f2:=f2 (hall 1 (by simp));replace f3:=f3 (hall 2 (by simp));replace f4:=f4 (hall 3 (by simp));replace f5:=f5 (hall 4 (by simp));replace f6:=f6 (hall 5 (by simp));replace f7:=f7 (hall 6 (by simp));replace f8:=f8 (hall 7 (by simp));replace f9:=f9 (hall 8 (by simp));replace f10:=f10 (hall 9 (by simp));replace f11:=f11 (hall 10 (by simp));obtain ⟨bb,eb,lb,_,hz⟩:=f12 (hall 11 (by simp));have BN:=hz (hall 12 (by simp));replace f14:=f14 (hall 13 (by simp))
          (try dsimp only)
          rw [eb];rw [f1,f2,f3,f4,f5,f6,f7,f8,f9,f10,f11,f14];clear hall hz f0 f1 f2 f3 f4 f5 f6 f7 f8 f9 f10 f11 f12 f13 f14;have M1:=BN1.l XR;have M2:=BN;have XC:=xt XB XR;obtain ⟨bc,hbc⟩:=nm (bb);rw [hbc] at M2 ⊢;clear hbc eb lb BN G0 H1 XB CA CB;have Y6:=xt Y5 XR;clear Y5 XR;go_wp2_with fail;refine (zDL [35,78,47,65] w6).mono ?_;rintro e w7 ⟨rfl,e7⟩;have P1:=M1.l e7;have P2:=M2.l e7;have Y7:=xt Y6 e7;have XD:=xt XC e7;obtain ⟨⟨kq,nq,dq,xq,tq⟩,hFq⟩:∃ q,F k=q:=⟨_,rfl⟩;have HQ:Hid (zKM o CA1 CB1=⟨kq,nq,dq,xq,tq⟩):=(by show _=_;rw [<- HFk.out];exact hFq);have HFq:Hid (F k=⟨kq,nq,dq,xq,tq⟩):=hFq;clear M1 M2 Y6 XC e7 hFq HFk;obtain ⟨wz,w8,hz,hy,BV,XV,⟨z0,z1,z2,z3,z4⟩,fz0,fz1,fz2,fz3,fz4⟩:=newB w7 4 false 0 0 [35,78,47,65];go_upto_region 12 with fail;clear hz hy z0 z1 z2 z3 z4 fz0 fz1 fz2 fz3 fz4;go_cut [88] (fun s wc=>s=.bool (g1 && g2)/\w8=wc)
          case first =>
           cases g1 <;> cases g2 <;> (go_wp2_with fail;go_meet;exact ⟨rfl,rfl⟩)
          case rest =>
           obtain ⟨rfl,rfl⟩:=hcut;go_upto_if 88 with fail;go_cut [] (fun wc=>Hid (Vec wc w7.heap.size [iQ kq,.bool nq,iQ dq,iQ xq,sV tq]/\Ext w7 wc))
           case first =>
            cases g1
            ·(try simp only [Bool.false_and])
             have HN:Hid (kq=4/\nq=false/\dq=0/\xq=0/\tq=[35,78,47,65]):=by
              have:=HQ.out;rw [Hs.out.2.1 rfl] at this;cases this;exact ⟨rfl,rfl,rfl,rfl,rfl⟩
             go_wp2_with fail;go_meet
             case rel=>exact ⟨by rw [HN.out.1,HN.out.2.1,HN.out.2.2.1,HN.out.2.2.2.1,HN.out.2.2.2.2];exact BV,XV⟩
            ·(try simp only [Bool.true_and])
             cases g2
             ·have HN:Hid (kq=4/\nq=false/\dq=0/\xq=0/\tq=[35,78,47,65]):=by
               have:=HQ.out;rw [Hs.out.1 rfl,Hs.out.2.2.2 rfl] at this;cases this;exact ⟨rfl,rfl,rfl,rfl,rfl⟩
              go_wp2_with fail;go_meet
              case rel=>exact ⟨by rw [HN.out.1,HN.out.2.1,HN.out.2.2.1,HN.out.2.2.2.1,HN.out.2.2.2.2];exact BV,XV⟩
             ·have hin:=mA.out _ (Hs.out.1 rfl);have hin':=mB.out _ (Hs.out.2.2.1 rfl);have X8:=xt XD XV;have CO:Hid (Calls Tryz.prog 64 #[fnV f,valV k1 n1 d1 x1' t1,valV k2 n2 d2 x2 t2] w8 fun e w'=>e=.returned (valV kq nq dq xq tq)/\Ext w8 w'):=by
               have:=ofI o f M k1 n1 d1 x1' t1 k2 n2 d2 x2 t2 w8 (ht _ hin) (ht' _ hin') (hd _ hin).1 (hd _ hin).2 (hd' _ hin').1 (hd' _ hin').2 (hT.l X8) (hE.l X8) (hI.l X8) (hgA _ hin) (hgB _ hin');rw [zIA o ⟨k1,n1,d1,x1',t1⟩ ⟨k2,n2,d2,x2,t2⟩] at this;have hq:=HQ.out;rw [Hs.out.1 rfl,Hs.out.2.2.1 rfl] at hq;change zN8 o _ _=_ at hq;rw [hq] at this;exact this
              clear hin hin' X8;obtain ⟨a0,a1,a2,a3,a4⟩:=Vec.five ((P1.l XV));obtain ⟨c0,c1,c2,c3,c4⟩:=Vec.five ((P2.l XV));go_wp2_with fail;clear a0 a1 a2 a3 a4 c0 c1 c2 c3 c4;refine (CO.out).mono ?_;rintro e w9 ⟨rfl,e9⟩;have BW:=BV.l e9;obtain ⟨b0,b1,b2,b3,b4⟩:=Vec.five (BW);obtain ⟨fb0,fb1,fb2,fb3,fb4⟩:=Vec.fiveF (BW);have hX:=Ext.setL (b:=w7.heap.size) (Nat.le_refl _) [iQ kq,.bool nq,iQ dq,iQ xq,sV tq] 0 (xt XV e9);have hB:=BW.put5 (iQ kq) (.bool nq) (iQ dq) (iQ xq) (sV tq);go_wp2_with fail;go_meet
              case rel=>exact ⟨hB,hX⟩
           case rest =>
            obtain ⟨BQ,XQ⟩:=hcut.out;have YQ:=xt Y7 XQ;have VQ:=VO.l YQ;have OQ:Hid (OwnW wc (w4.heap.size+1) (.slice ps ns cs) ((List.range k).map F)):=zCD OW YQ;have Y4:=xt XW YQ;clear BV XV P1 P2 Y7 XQ YQ VO OW XW HQ Hs XD mA mB;obtain ⟨inf,hi,hz,hz1,hz2⟩:=zUH;obtain ⟨a0,a1,a2⟩:=Vec.three (VQ);obtain ⟨c0,c1,c2,c3,c4⟩:=Vec.five (BQ);go_wp2_with (at_builtin;refine wpList_append_own _ rfl _ _ 33 rfl (w4.heap.size+1) 26 inf (valV 0 false 0 0 []) 5 48 Tryz.underlying33 hi hz hz1 hz2 rfl (by decide) _ _ _ rfl (OQ.out.alloc _) ⟨wc.heap.size,0,none⟩ 1 1 [iQ kq,.bool nq,iQ dq,iQ xq,sV tq] rfl rfl (World.news_of_block (heap_alloc_new _ _)) (by simp [Value.oneCell']) (by simp only [maxLen,List.length_map,List.length_range];omega) (by simp only [List.length_map,List.length_range];omega) (by have:=World.block_lt_of_cell? _ _ a0;simp at this ⊢;omega) ?_);intro v7 wC ownC gC _;have lb:=zD3 OQ.out;have ltA:w4.heap.size<=wc.heap.size:=Y4.size;have VC:=zDB (VQ.l (x1 wc _)) (gC.block w4.heap.size (by rw [World.size_alloc];omega) (fun q=>by have:=lb _ q.symm;omega));have Y5:Ext w4 wC:=(xa Y4 _).grown gC (xa Y4 _).size (fun r hr=>by have:=lb r hr;omega);have OC:OwnW wC (w4.heap.size+1) v7 ((List.range (k+1)).map F):=by
             rw [List.range_succ,List.map_append];show World.ownsRow _ _ _ _ _ _ _;rw [zCV,List.length_append,List.length_map,List.length_range];have hk1:[k].map F=[⟨kq,nq,dq,xq,tq⟩]:=(by simp only [List.map_cons,List.map_nil];rw [HFq.out]);rw [hk1];exact ownC
            obtain ⟨p7,n7,c7,rfl⟩:=zAV OC;clear a0 a1 a2 c0 c1 c2 c3 c4 ownC gC lb VQ BQ OQ Y4 hi hz hz1 hz2 ltA;have q2:=(VC 2 _ rfl).1;have p2:=(VC 2 _ rfl).2;have VD:Vec (wC.setCell ⟨w4.heap.size,2,none⟩ (.slice p7 n7 c7)) w4.heap.size [iQ R,iQ C,(.slice p7 n7 c7)]:=VC.put 2 (by simp) (.slice p7 n7 c7);have OD:=zBE OC (p:=⟨w4.heap.size,2,none⟩) (Nat.lt_succ_self _) (.slice p7 n7 c7);have XF:=xset Y5 (p:=⟨w4.heap.size,2,none⟩) (Nat.le_refl _) (.slice p7 n7 c7);obtain ⟨wD,hD⟩:=nm (wC.setCell ⟨w4.heap.size,2,none⟩ (.slice p7 n7 c7));rw [hD] at VD OD XF;have HV1:Hid (Vec wD w4.heap.size [iQ R,iQ C,(.slice p7 n7 c7)]/\OwnW wD (w4.heap.size+1) (.slice p7 n7 c7) ((List.range (k+1)).map F)/\Ext w4 wD):=⟨VD,OD,XF⟩;clear VC OC Y5 VD OD XF;go_wp2_with fail;go_roundw
            case rel=>exact ⟨k+1,_,by omega,by go_num,HV1⟩
            case measure=>simp [intOf];omega
       ·obtain rfl:k=N:=(by omega);have ltB:w.heap.size+1+1<w4.heap.size:=World.block_lt_of_cell? _ _ (F2 0 _ rfl).1;obtain ⟨wy,hy,FX,⟨b0,b1,b2⟩,⟨fb0,fb1,fb2⟩,fd0,fd1,fd2⟩:=finG (F2.l XW) (xt X4 XW) (by omega) R C (.slice ps ns cs);have OY:Hid (OwnW wy (w4.heap.size+1) (.slice ps ns cs) ((List.range k).map F)):=by
         show OwnW _ _ _ _;rw [<- hy];exact zBE (zBE (zBE OW (p:=⟨_,_,_⟩) (Nat.lt_succ_of_lt ltB) _) (p:=⟨_,_,_⟩) (Nat.lt_succ_of_lt ltB) _) (p:=⟨_,_,_⟩) (Nat.lt_succ_of_lt ltB) _
        obtain ⟨a0,a1,a2⟩:=Vec.three (VO);go_wp2_with fail;exact bodyPost_ret (v:=grV R C (.slice ps ns cs)) (by simp [results,Tryz.results15,go_sem,fd0,fd1,fd2]) rfl ⟨⟨_,by rw [HS.out.1,HS.out.2.1],by rw [HS.out.2.2];exact zGY OY.out (by omega)⟩,FX⟩
end Go.Proofs.YtkadkfmidlhedaaGreatDoor

