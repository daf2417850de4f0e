import Derived.Test.YteliaeejooekbaaGreatDoorMg13
import Derived.Test.YteliaeejooekbaaGreatDoorMg12
import Derived.Deep.MidRow
set_option maxRecDepth 8000
set_option maxHeartbeats 8000000
namespace Go.Proofs.YteliaeejooekbaaGreatDoor
open Go.RowKit
theorem hi4B:(Tryz.prog.info? 111).map (·.size)=some 4:=by kernel_rfl
theorem hi2S:(Tryz.prog.info? 109).map (·.size)=some 2:=by kernel_rfl
theorem zLU:(Tryz.prog.info? 45).map (·.size)=some 10:=by kernel_rfl
theorem zAA {w w':World} {g r:Nat} {L:List Value} (V:Vec w g L) (G:w.grownBy w' (some r)) (h:g ≠ r):Vec w' g L:=fun i u hu=>by
 have c:=V i u hu;have hb:w'.heap[g]?=w.heap[g]?:=G.block g (World.block_lt_of_cell? _ _ c.1) (fun e=>h (by cases e;rfl));unfold World.cell? World.frozen? at *;simp only [hb];exact c
theorem zEF {w:World} {b:Nat} {v:Value} {l:List Value} (V:Vec w b (v :: l)):b<w.heap.size:=World.block_lt_of_cell? _ _ (V 0 _ rfl).1
def BoxS (s:Bool) (lw:World) (v:Value) (k:Nat) (z n:List Value):Prop:=∃ b,v=.pointer (some ⟨b,0,none⟩)/\k<b/\b<lw.heap.size/\(s=false->Vec lw b z)/\(s=true->Vec lw b n)
theorem BoxS.l {s:Bool} {lw lw':World} {v:Value} {k:Nat} {z n:List Value} (h:BoxS s lw v k z n) (e:Ext lw lw'):BoxS s lw' v k z n:=by
 obtain ⟨b,h1,h2,h3,h4,h5⟩:=h;exact ⟨b,h1,h2,Nat.lt_of_lt_of_le h3 e.size,fun h=>(h4 h).l e,fun h=>(h5 h).l e⟩
theorem BoxS.far {s:Bool} {lw lw':World} {v:Value} {k b':Nat} {z n:List Value} (h:BoxS s lw v k z n) (g:lw.grownBy lw' (some b')) (hv:v ≠ .pointer (some ⟨b',0,none⟩)):BoxS s lw' v k z n:=by
 obtain ⟨b,h1,h2,h3,h4,h5⟩:=h;have hb:b ≠ b':=fun e=>hv (by rw [h1,e]);exact ⟨b,h1,h2,Nat.lt_of_lt_of_le h3 g.size,fun h=>zAA (h4 h) g hb,fun h=>zAA (h5 h) g hb⟩
theorem zSA (r c:Int) (f g:Bool) (r' c':Int) (f' g':Bool) (x y:Int) (w:World) (R0 R1 C0 C1 dx dy:Int) (D:Bool)
  (BO:∀ w,Calls Tryz.prog 88 #[arV r c f g r' c' f' g'] w fun e w'=>e=.returned (blV R0 R1 C0 C1)/\Ext w w') (hx:IntKind.i64.wrap (x - R0)=dx) (hy:IntKind.i64.wrap (y - C0)=dy)
  (G0 G1 H0 H1:Int) (e0:IntKind.i64.wrap (R0+dx)=G0) (e1:IntKind.i64.wrap (R1+dx)=G1) (e2:IntKind.i64.wrap (C0+dy)=H0) (e3:IntKind.i64.wrap (C1+dy)=H1) (hD:D=(zAV r c r' c' && zAV G0 H0 G1 H1)) :
  Calls Tryz.prog 72 #[moV r c f g r' c' f' g' x y] w fun e w'=>e=.returned (.tuple #[blV R0 R1 C0 C1,blV G0 G1 H0 H1,.bool D])/\Ext w w':=by
 have GA:=fun w=>zKX r c f g r' c' f' g' w;have GB:=fun w=>zKX G0 H0 false false G1 H1 false false w;have HAR:Hid (∀ w,Calls Tryz.prog 90 #[.agg #[iQ G0,iQ G1,iQ H0,iQ H1]] w fun e w'=>e=.returned (arV G0 H0 false false G1 H1 false false)/\Ext w w'):=fun w=>zOV G0 G1 H0 H1 w;have SH1:Hid (∀ w,Calls Tryz.prog 89 #[.agg #[iQ R0,iQ R1],iQ dx] w fun e w'=>e=.returned (.agg #[iQ G0,iQ G1])/\Ext w w'):=fun w=>zKE R0 R1 dx G0 G1 w e0 e1;have SH2:Hid (∀ w,Calls Tryz.prog 89 #[.agg #[iQ C0,iQ C1],iQ dy] w fun e w'=>e=.returned (.agg #[iQ H0,iQ H1])/\Ext w w'):=fun w=>zKE C0 C1 dy H0 H1 w e2 e3;obtain ⟨q1,hp⟩:=nm (zAV r c r' c');obtain ⟨q2,hq⟩:=nm (zAV G0 H0 G1 H1);rw [hp] at GA hD;rw [hq] at GB hD;have HGA:Hid _:=GA;have HGB:Hid _:=GB;have HBO:Hid _:=BO;have HD:Hid _:=hD;rw [HD.out];have HX:Hid _:=hx;have HY:Hid _:=hy;clear GA GB BO hp hq hD hx hy e0 e1 e2 e3 HD;have X3:Ext w (((w.alloc (.cells #[iQ r,iQ c,.bool f,.bool g,iQ r',iQ c',.bool f',.bool g',iQ x,iQ y] 45)).alloc (.cells #[iQ 0,iQ 0,iQ 0,iQ 0] 111)).alloc (.cells #[iQ 0,iQ 0,iQ 0,iQ 0] 111)):=xa (xa (x1 _ _) _) _;have VA:Vec (((w.alloc (.cells #[iQ r,iQ c,.bool f,.bool g,iQ r',iQ c',.bool f',.bool g',iQ x,iQ y] 45)).alloc (.cells #[iQ 0,iQ 0,iQ 0,iQ 0] 111)).alloc (.cells #[iQ 0,iQ 0,iQ 0,iQ 0] 111)) w.heap.size [iQ r,iQ c,.bool f,.bool g,iQ r',iQ c',.bool f',.bool g',iQ x,iQ y]:=((zA5 w [iQ r,iQ c,.bool f,.bool g,iQ r',iQ c',.bool f',.bool g',iQ x,iQ y] 45).l (x1 _ _)).l (x1 _ _);have VB:Vec (((w.alloc (.cells #[iQ r,iQ c,.bool f,.bool g,iQ r',iQ c',.bool f',.bool g',iQ x,iQ y] 45)).alloc (.cells #[iQ 0,iQ 0,iQ 0,iQ 0] 111)).alloc (.cells #[iQ 0,iQ 0,iQ 0,iQ 0] 111)) (w.heap.size+1) [iQ 0,iQ 0,iQ 0,iQ 0]:=by
  have:=(zA5 (w.alloc (.cells #[iQ r,iQ c,.bool f,.bool g,iQ r',iQ c',.bool f',.bool g',iQ x,iQ y] 45)) [iQ 0,iQ 0,iQ 0,iQ 0] 111).l (x1 _ (.cells #[iQ 0,iQ 0,iQ 0,iQ 0] 111));rw [World.size_alloc] at this;exact this
 have VC:Vec (((w.alloc (.cells #[iQ r,iQ c,.bool f,.bool g,iQ r',iQ c',.bool f',.bool g',iQ x,iQ y] 45)).alloc (.cells #[iQ 0,iQ 0,iQ 0,iQ 0] 111)).alloc (.cells #[iQ 0,iQ 0,iQ 0,iQ 0] 111)) (w.heap.size+1+1) [iQ 0,iQ 0,iQ 0,iQ 0]:=by
  have:=zA5 ((w.alloc (.cells #[iQ r,iQ c,.bool f,.bool g,iQ r',iQ c',.bool f',.bool g',iQ x,iQ y] 45)).alloc (.cells #[iQ 0,iQ 0,iQ 0,iQ 0] 111)) [iQ 0,iQ 0,iQ 0,iQ 0] 111;rw [World.size_alloc,World.size_alloc] at this;exact this
 obtain ⟨w3,h3⟩:=nm (((w.alloc (.cells #[iQ r,iQ c,.bool f,.bool g,iQ r',iQ c',.bool f',.bool g',iQ x,iQ y] 45)).alloc (.cells #[iQ 0,iQ 0,iQ 0,iQ 0] 111)).alloc (.cells #[iQ 0,iQ 0,iQ 0,iQ 0] 111));have HW3:Hid _:=h3;rw [h3] at X3 VA VB VC;clear h3;go_enter Tryz.func72,Tryz.ntmps72;go_upto_region 1 with fail;rw [HW3.out];clear HW3;obtain ⟨a0,a1,a2,a3,a4,a5,a6,a7,a8,a9⟩:=vC10 VA;go_wp2_with fail;refine (HBO.out w3).mono ?_;rintro e w5 ⟨rfl,e5⟩;clear HBO a0 a1 a2 a3 a4 a5 a6 a7 a8 a9;have X6:Ext w (w5.alloc (.cells #[iQ R0,iQ R1,iQ C0,iQ C1] 111)):=xa (xt X3 e5) _;have VA6:=(VA.l e5).l (x1 w5 (.cells #[iQ R0,iQ R1,iQ C0,iQ C1] 111));have VB6:=(VB.l e5).l (x1 w5 (.cells #[iQ R0,iQ R1,iQ C0,iQ C1] 111));have VC6:=(VC.l e5).l (x1 w5 (.cells #[iQ R0,iQ R1,iQ C0,iQ C1] 111));have VF6:=zA5 w5 [iQ R0,iQ R1,iQ C0,iQ C1] 111;change Vec (w5.alloc (.cells #[iQ R0,iQ R1,iQ C0,iQ C1] 111)) _ _ at VF6;have hlf:w.heap.size+1+1<w5.heap.size:=zEF (VC.l e5);clear VA VB VC X3 e5;go_upto_region 2 with fail;obtain ⟨w6,h6⟩:=nm (w5.alloc (.cells #[iQ R0,iQ R1,iQ C0,iQ C1] 111));rw [h6] at X6 VA6 VB6 VC6 VF6 ⊢;clear h6;obtain ⟨bf,hbf⟩:=nm (w5.heap.size);rw [hbf] at VF6 hlf ⊢;clear hbf w5;refine zA3 (fun lx:Nat->Value=>{ tmps:=#[.agg #[.int .i64 r,.int .i64 c,.bool f,.bool g,.int .i64 r',.int .i64 c',.bool f',.bool g',.int .i64 x,.int .i64 y],.pointer (some ⟨w.heap.size,0,none⟩),.pointer (some ⟨w.heap.size+1,0,none⟩),.pointer (some ⟨w.heap.size+1+1,0,none⟩),.bool false,.pointer (some ⟨bf,0,none⟩),lx 6,lx 7,undef,.pointer (some ⟨w.heap.size,0,none⟩),.agg #[.int .i64 r,.int .i64 c,.bool f,.bool g,.int .i64 r',.int .i64 c',.bool f',.bool g'],.agg #[.int .i64 R0,.int .i64 R1,.int .i64 C0,.int .i64 C1],lx 12,lx 13,lx 14,lx 15,lx 16,lx 17,lx 18,lx 19,lx 20,lx 21,lx 22,lx 23,lx 24,lx 25,lx 26,lx 27,lx 28,lx 29,undef,undef,undef,undef,undef,undef,undef,undef,undef,undef,undef,undef,undef],defers:=[] }) (fun L lx lw=>Hid (Ext w lw/\Vec lw w.heap.size [iQ r,iQ c,.bool f,.bool g,iQ r',iQ c',.bool f',.bool g',iQ x,iQ y]/\Vec lw bf [iQ R0,iQ R1,iQ C0,iQ C1]/\Vec lw (w.heap.size+1) [iQ 0,iQ 0,iQ 0,iQ 0]/\Vec lw (w.heap.size+1+1) [iQ 0,iQ 0,iQ 0,iQ 0]/\(L 18=true->BoxS (L 20) lw (lx 6) bf [iQ 0,iQ 0] [iQ G0,iQ G1])/\(L 19=true->BoxS (L 21) lw (lx 7) bf [iQ 0,iQ 0] [iQ H0,iQ H1])/\(L 20=true->L 18=true)/\(L 21=true->L 19=true)/\(L 18=true->L 19=true->lx 6 ≠ lx 7)/\(L 0=true->lx 12=.pointer (some ⟨bf,0,none⟩))/\(L 1=true->lx 13=.agg #[iQ R0,iQ R1])/\(L 2=true->lx 14=.pointer (some ⟨w.heap.size,8,none⟩))/\(L 3=true->lx 15=iQ x)/\(L 4=true->lx 16=.pointer (some ⟨bf,0,none⟩))/\(L 5=true->lx 17=.pointer (some ⟨bf,0,none⟩))/\(L 6=true->lx 18=iQ R0)/\(L 7=true->lx 19=iQ dx)/\(L 8=true->lx 20=.agg #[iQ G0,iQ G1])/\(L 9=true->lx 21=.pointer (some ⟨bf,2,none⟩))/\(L 10=true->lx 22=.agg #[iQ C0,iQ C1])/\(L 11=true->lx 23=.pointer (some ⟨w.heap.size,9,none⟩))/\(L 12=true->lx 24=iQ y)/\(L 13=true->lx 25=.pointer (some ⟨bf,2,none⟩))/\(L 14=true->lx 26=.pointer (some ⟨bf,2,none⟩))/\(L 15=true->lx 27=iQ C0)/\(L 16=true->lx 28=iQ dy)/\(L 17=true->lx 29=.agg #[iQ H0,iQ H1]))) rfl (by kernel_rfl) (fun jj=>undef) rfl ?_ ?_ ?_
 ·exact ⟨xd X6,VA6.l (xd (xr _)),VF6.l (xd (xr _)),VB6.l (xd (xr _)),VC6.l (xd (xr _)),(fun h=>by cases h),(fun h=>by cases h),(fun h=>by cases h),(fun h=>by cases h),(fun h=>by cases h),(fun h=>by cases h),(fun h=>by cases h),(fun h=>by cases h),(fun h=>by cases h),(fun h=>by cases h),(fun h=>by cases h),(fun h=>by cases h),(fun h=>by cases h),(fun h=>by cases h),(fun h=>by cases h),(fun h=>by cases h),(fun h=>by cases h),(fun h=>by cases h),(fun h=>by cases h),(fun h=>by cases h),(fun h=>by cases h),(fun h=>by cases h),(fun h=>by cases h)⟩
 ·intro L lx lw ix o K hK ho hL haf hI hcl;obtain ⟨E,VA,VF,VB,VC,fa,fb,fs,ft,fd,j0,j1,j2,j3,j4,j5,j6,j7,j8,j9,j10,j11,j12,j13,j14,j15,j16,j17⟩:=hI.out
  match ix,ho,hL,haf,hK with
  | 0,ho,hL,haf,hK =>
   cases ho
   (try dsimp only)
   refine Eq.mpr (if_pos (by rfl)) ?_;go_wp2_with fail;exact hK (fun jj=>if jj=12 then .pointer (some ⟨bf,0,none⟩) else lx jj) _ ⟨E,VA,VF,VB,VC,fa,fb,fs,ft,fd,(fun _=>rfl),j1,j2,j3,j4,j5,j6,j7,j8,j9,j10,j11,j12,j13,j14,j15,j16,j17⟩
  | 1,ho,hL,haf,hK =>
   cases ho
   (try dsimp only)
   rw [j0 (haf ⟨0,.data⟩ (by simp) rfl)];refine Eq.mpr (if_pos (by rfl)) ?_;obtain ⟨a0,a1⟩:=vC2 VF;go_wp2_with fail;exact hK (fun jj=>if jj=13 then .agg #[iQ R0,iQ R1] else if jj=12 then .pointer (some ⟨bf,0,none⟩) else lx jj) _ ⟨E,VA,VF,VB,VC,fa,fb,fs,ft,fd,(fun _=>rfl),(fun _=>rfl),j2,j3,j4,j5,j6,j7,j8,j9,j10,j11,j12,j13,j14,j15,j16,j17⟩
  | 2,ho,hL,haf,hK =>
   cases ho
   (try dsimp only)
   refine Eq.mpr (if_pos (by rfl)) ?_;go_wp2_with fail;exact hK (fun jj=>if jj=14 then .pointer (some ⟨w.heap.size,8,none⟩) else lx jj) _ ⟨E,VA,VF,VB,VC,fa,fb,fs,ft,fd,j0,j1,(fun _=>rfl),j3,j4,j5,j6,j7,j8,j9,j10,j11,j12,j13,j14,j15,j16,j17⟩
  | 3,ho,hL,haf,hK =>
   cases ho
   (try dsimp only)
   rw [j2 (haf ⟨2,.data⟩ (by simp) rfl)];refine Eq.mpr (if_pos (by rfl)) ?_;have a8:=(VA 8 _ rfl).1;go_wp2_with fail;exact hK (fun jj=>if jj=15 then iQ x else if jj=14 then .pointer (some ⟨w.heap.size,8,none⟩) else lx jj) _ ⟨E,VA,VF,VB,VC,fa,fb,fs,ft,fd,j0,j1,(fun _=>rfl),(fun _=>rfl),j4,j5,j6,j7,j8,j9,j10,j11,j12,j13,j14,j15,j16,j17⟩
  | 4,ho,hL,haf,hK =>
   cases ho
   (try dsimp only)
   refine Eq.mpr (if_pos (by rfl)) ?_;go_wp2_with fail;exact hK (fun jj=>if jj=16 then .pointer (some ⟨bf,0,none⟩) else lx jj) _ ⟨E,VA,VF,VB,VC,fa,fb,fs,ft,fd,j0,j1,j2,j3,(fun _=>rfl),j5,j6,j7,j8,j9,j10,j11,j12,j13,j14,j15,j16,j17⟩
  | 5,ho,hL,haf,hK =>
   cases ho
   (try dsimp only)
   rw [j4 (haf ⟨4,.data⟩ (by simp) rfl)];refine Eq.mpr (if_pos (by rfl)) ?_;go_wp2_with fail;exact hK (fun jj=>if jj=17 then .pointer (some ⟨bf,0,none⟩) else if jj=16 then .pointer (some ⟨bf,0,none⟩) else lx jj) _ ⟨E,VA,VF,VB,VC,fa,fb,fs,ft,fd,j0,j1,j2,j3,(fun _=>rfl),(fun _=>rfl),j6,j7,j8,j9,j10,j11,j12,j13,j14,j15,j16,j17⟩
  | 6,ho,hL,haf,hK =>
   cases ho
   (try dsimp only)
   rw [j5 (haf ⟨5,.data⟩ (by simp) rfl)];refine Eq.mpr (if_pos (by rfl)) ?_;have a0:=(VF 0 _ rfl).1;go_wp2_with fail;exact hK (fun jj=>if jj=18 then iQ R0 else if jj=17 then .pointer (some ⟨bf,0,none⟩) else lx jj) _ ⟨E,VA,VF,VB,VC,fa,fb,fs,ft,fd,j0,j1,j2,j3,j4,(fun _=>rfl),(fun _=>rfl),j7,j8,j9,j10,j11,j12,j13,j14,j15,j16,j17⟩
  | 7,ho,hL,haf,hK =>
   cases ho
   (try dsimp only)
   rw [j3 (haf ⟨3,.data⟩ (by simp) rfl),j6 (haf ⟨6,.data⟩ (by simp) rfl)];refine Eq.mpr (if_pos (by rfl)) ?_;have hx:=HX.out;go_wp2_with fail;exact hK (fun jj=>if jj=19 then iQ dx else if jj=15 then iQ x else if jj=18 then iQ R0 else lx jj) _ ⟨E,VA,VF,VB,VC,fa,fb,fs,ft,fd,j0,j1,j2,(fun _=>rfl),j4,j5,(fun _=>rfl),(fun _=>rfl),j8,j9,j10,j11,j12,j13,j14,j15,j16,j17⟩
  | 8,ho,hL,haf,hK =>
   cases ho
   (try dsimp only)
   rw [j1 (haf ⟨1,.data⟩ (by simp) rfl),j7 (haf ⟨7,.data⟩ (by simp) rfl)];refine Eq.mpr (if_pos (by rfl)) ?_;go_wp2_with fail;refine (SH1.out lw).mono ?_;rintro rr w' ⟨rfl,e'⟩;go_wp2_with fail;exact hK (fun jj=>if jj=20 then .agg #[iQ G0,iQ G1] else if jj=13 then .agg #[iQ R0,iQ R1] else if jj=19 then iQ dx else lx jj) _ ⟨(xt E e'),(VA.l e'),(VF.l e'),(VB.l e'),(VC.l e'),(fun h=>(fa h).l e'),(fun h=>(fb h).l e'),fs,ft,fd,j0,(fun _=>rfl),j2,j3,j4,j5,j6,(fun _=>rfl),(fun _=>rfl),j9,j10,j11,j12,j13,j14,j15,j16,j17⟩
  | 9,ho,hL,haf,hK =>
   cases ho
   (try dsimp only)
   refine Eq.mpr (if_pos (by rfl)) ?_;go_wp2_with fail;exact hK (fun jj=>if jj=21 then .pointer (some ⟨bf,2,none⟩) else lx jj) _ ⟨E,VA,VF,VB,VC,fa,fb,fs,ft,fd,j0,j1,j2,j3,j4,j5,j6,j7,j8,(fun _=>rfl),j10,j11,j12,j13,j14,j15,j16,j17⟩
  | 10,ho,hL,haf,hK =>
   cases ho
   (try dsimp only)
   rw [j9 (haf ⟨9,.data⟩ (by simp) rfl)];refine Eq.mpr (if_pos (by rfl)) ?_;have a2:=(VF 2 _ rfl).1;have a3:=(VF 3 _ rfl).1;go_wp2_with fail;exact hK (fun jj=>if jj=22 then .agg #[iQ C0,iQ C1] else if jj=21 then .pointer (some ⟨bf,2,none⟩) else lx jj) _ ⟨E,VA,VF,VB,VC,fa,fb,fs,ft,fd,j0,j1,j2,j3,j4,j5,j6,j7,j8,(fun _=>rfl),(fun _=>rfl),j11,j12,j13,j14,j15,j16,j17⟩
  | 11,ho,hL,haf,hK =>
   cases ho
   (try dsimp only)
   refine Eq.mpr (if_pos (by rfl)) ?_;go_wp2_with fail;exact hK (fun jj=>if jj=23 then .pointer (some ⟨w.heap.size,9,none⟩) else lx jj) _ ⟨E,VA,VF,VB,VC,fa,fb,fs,ft,fd,j0,j1,j2,j3,j4,j5,j6,j7,j8,j9,j10,(fun _=>rfl),j12,j13,j14,j15,j16,j17⟩
  | 12,ho,hL,haf,hK =>
   cases ho
   (try dsimp only)
   rw [j11 (haf ⟨11,.data⟩ (by simp) rfl)];refine Eq.mpr (if_pos (by rfl)) ?_;have a9:=(VA 9 _ rfl).1;go_wp2_with fail;exact hK (fun jj=>if jj=24 then iQ y else if jj=23 then .pointer (some ⟨w.heap.size,9,none⟩) else lx jj) _ ⟨E,VA,VF,VB,VC,fa,fb,fs,ft,fd,j0,j1,j2,j3,j4,j5,j6,j7,j8,j9,j10,(fun _=>rfl),(fun _=>rfl),j13,j14,j15,j16,j17⟩
  | 13,ho,hL,haf,hK =>
   cases ho
   (try dsimp only)
   refine Eq.mpr (if_pos (by rfl)) ?_;go_wp2_with fail;exact hK (fun jj=>if jj=25 then .pointer (some ⟨bf,2,none⟩) else lx jj) _ ⟨E,VA,VF,VB,VC,fa,fb,fs,ft,fd,j0,j1,j2,j3,j4,j5,j6,j7,j8,j9,j10,j11,j12,(fun _=>rfl),j14,j15,j16,j17⟩
  | 14,ho,hL,haf,hK =>
   cases ho
   (try dsimp only)
   rw [j13 (haf ⟨13,.data⟩ (by simp) rfl)];refine Eq.mpr (if_pos (by rfl)) ?_;go_wp2_with fail;exact hK (fun jj=>if jj=26 then .pointer (some ⟨bf,2,none⟩) else if jj=25 then .pointer (some ⟨bf,2,none⟩) else lx jj) _ ⟨E,VA,VF,VB,VC,fa,fb,fs,ft,fd,j0,j1,j2,j3,j4,j5,j6,j7,j8,j9,j10,j11,j12,(fun _=>rfl),(fun _=>rfl),j15,j16,j17⟩
  | 15,ho,hL,haf,hK =>
   cases ho
   (try dsimp only)
   rw [j14 (haf ⟨14,.data⟩ (by simp) rfl)];refine Eq.mpr (if_pos (by rfl)) ?_;have a2:=(VF 2 _ rfl).1;go_wp2_with fail;exact hK (fun jj=>if jj=27 then iQ C0 else if jj=26 then .pointer (some ⟨bf,2,none⟩) else lx jj) _ ⟨E,VA,VF,VB,VC,fa,fb,fs,ft,fd,j0,j1,j2,j3,j4,j5,j6,j7,j8,j9,j10,j11,j12,j13,(fun _=>rfl),(fun _=>rfl),j16,j17⟩
  | 16,ho,hL,haf,hK =>
   cases ho
   (try dsimp only)
   rw [j12 (haf ⟨12,.data⟩ (by simp) rfl),j15 (haf ⟨15,.data⟩ (by simp) rfl)];refine Eq.mpr (if_pos (by rfl)) ?_;have hy:=HY.out;go_wp2_with fail;exact hK (fun jj=>if jj=28 then iQ dy else if jj=24 then iQ y else if jj=27 then iQ C0 else lx jj) _ ⟨E,VA,VF,VB,VC,fa,fb,fs,ft,fd,j0,j1,j2,j3,j4,j5,j6,j7,j8,j9,j10,j11,(fun _=>rfl),j13,j14,(fun _=>rfl),(fun _=>rfl),j17⟩
  | 17,ho,hL,haf,hK =>
   cases ho
   (try dsimp only)
   rw [j10 (haf ⟨10,.data⟩ (by simp) rfl),j16 (haf ⟨16,.data⟩ (by simp) rfl)];refine Eq.mpr (if_pos (by rfl)) ?_;go_wp2_with fail;refine (SH2.out lw).mono ?_;rintro rr w' ⟨rfl,e'⟩;go_wp2_with fail;exact hK (fun jj=>if jj=29 then .agg #[iQ H0,iQ H1] else if jj=22 then .agg #[iQ C0,iQ C1] else if jj=28 then iQ dy else lx jj) _ ⟨(xt E e'),(VA.l e'),(VF.l e'),(VB.l e'),(VC.l e'),(fun h=>(fa h).l e'),(fun h=>(fb h).l e'),fs,ft,fd,j0,j1,j2,j3,j4,j5,j6,j7,j8,j9,(fun _=>rfl),j11,j12,j13,j14,j15,(fun _=>rfl),(fun _=>rfl)⟩
  | 18,ho,hL,haf,hK =>
   cases ho
   (try dsimp only)
   refine Eq.mpr (if_pos (by rfl)) ?_;have hst:L 20=true->False:=fun h=>by have:=fs h;rw [hL] at this;cases this
   have e':=x1 lw (.cells #[iQ 0,iQ 0] 109);have hlt:bf<lw.heap.size:=zEF VF;have hs1:lw.heap.size<(lw.alloc (.cells #[iQ 0,iQ 0] 109)).heap.size:=by rw [World.size_alloc];omega
   have hne:L 19=true->lx 7 ≠ .pointer (some ⟨lw.heap.size,0,none⟩):=fun h=>by obtain ⟨b,h1,_,h3,_⟩:=fb h;rw [h1];intro e;simp at e <;> omega
   have VN:=zA5 lw [iQ 0,iQ 0] 109;change Vec (lw.alloc (.cells #[iQ 0,iQ 0] 109)) _ _ at VN;go_wp2_with fail;exact hK (fun jj=>if jj=6 then .pointer (some ⟨lw.heap.size,0,none⟩) else lx jj) _ ⟨(xt E e'),(VA.l e'),(VF.l e'),(VB.l e'),(VC.l e'),(fun _=>⟨lw.heap.size,rfl,hlt,hs1,fun _=>VN,fun h=>(hst h).elim⟩),(fun h=>(fb h).l e'),(fun _=>rfl),ft,(fun _ h=>fun e=>hne h e.symm),j0,j1,j2,j3,j4,j5,j6,j7,j8,j9,j10,j11,j12,j13,j14,j15,j16,j17⟩
  | 19,ho,hL,haf,hK =>
   cases ho
   (try dsimp only)
   refine Eq.mpr (if_pos (by rfl)) ?_;have hst:L 21=true->False:=fun h=>by have:=ft h;rw [hL] at this;cases this
   have e':=x1 lw (.cells #[iQ 0,iQ 0] 109);have hlt:bf<lw.heap.size:=zEF VF;have hs1:lw.heap.size<(lw.alloc (.cells #[iQ 0,iQ 0] 109)).heap.size:=by rw [World.size_alloc];omega
   have hne:L 18=true->lx 6 ≠ .pointer (some ⟨lw.heap.size,0,none⟩):=fun h=>by obtain ⟨b,h1,_,h3,_⟩:=fa h;rw [h1];intro e;simp at e <;> omega
   have VN:=zA5 lw [iQ 0,iQ 0] 109;change Vec (lw.alloc (.cells #[iQ 0,iQ 0] 109)) _ _ at VN;go_wp2_with fail;exact hK (fun jj=>if jj=7 then .pointer (some ⟨lw.heap.size,0,none⟩) else lx jj) _ ⟨(xt E e'),(VA.l e'),(VF.l e'),(VB.l e'),(VC.l e'),(fun h=>(fa h).l e'),(fun _=>⟨lw.heap.size,rfl,hlt,hs1,fun _=>VN,fun h=>(hst h).elim⟩),fs,(fun _=>rfl),(fun h _=>hne h),j0,j1,j2,j3,j4,j5,j6,j7,j8,j9,j10,j11,j12,j13,j14,j15,j16,j17⟩
  | 20,ho,hL,haf,hK =>
   cases ho
   (try dsimp only)
   rw [j8 (haf ⟨8,.data⟩ (by simp) rfl)];have hmk:L 18=true:=haf ⟨18,.data⟩ (by simp) rfl;obtain ⟨b,eb,hb,hbl,hz,_⟩:=fa hmk;have bx:=hz hL;rw [eb];refine Eq.mpr (if_pos (by rfl)) ?_;have VT:lw.there b 0 2:=zAE bx (by simp);have one:(#[iQ G0,iQ G1]:Array Value).all (·.oneCell')=true:=by simp [Value.oneCell']
   have VN:Vec (lw.setCells b 0 [iQ G0,iQ G1]) b [iQ G0,iQ G1]:=zA9 [iQ G0,iQ G1] 0 lw [iQ 0,iQ 0] bx (by simp);have GN:=zA8 b [iQ G0,iQ G1] 0 lw;have XN:=Ext.setCells (b:=b) (by omega) [iQ G0,iQ G1] 0 lw E;refine wpList_store_mid rfl _ _ _ rfl b 0 #[iQ G0,iQ G1] rfl rfl VT hi2S one ?_;show wpList _ _ _ _ _ (lw.setCells b 0 [iQ G0,iQ G1]);go_wp2_with fail;exact hK (fun jj=>if jj=20 then .agg #[iQ G0,iQ G1] else if jj=6 then .pointer (some ⟨b,0,none⟩) else lx jj) _ ⟨(XN),(zAA VA GN (by omega)),(zAA VF GN (by omega)),(zAA VB GN (by omega)),(zAA VC GN (by omega)),(fun _=>⟨b,rfl,hb,Nat.lt_of_lt_of_le hbl GN.size,(fun h=>by cases h),fun _=>VN⟩),(fun h=>(fb h).far GN (fun e=>fd hmk h (eb.trans e.symm))),(fun _=>hmk),ft,(fun h h2=>by have:=fd h h2;rw [eb] at this;exact this),j0,j1,j2,j3,j4,j5,j6,j7,(fun _=>rfl),j9,j10,j11,j12,j13,j14,j15,j16,j17⟩
  | 21,ho,hL,haf,hK =>
   cases ho
   (try dsimp only)
   rw [j17 (haf ⟨17,.data⟩ (by simp) rfl)];have hmk:L 19=true:=haf ⟨19,.data⟩ (by simp) rfl;obtain ⟨b,eb,hb,hbl,hz,_⟩:=fb hmk;have bx:=hz hL;rw [eb];refine Eq.mpr (if_pos (by rfl)) ?_;have VT:lw.there b 0 2:=zAE bx (by simp);have one:(#[iQ H0,iQ H1]:Array Value).all (·.oneCell')=true:=by simp [Value.oneCell']
   have VN:Vec (lw.setCells b 0 [iQ H0,iQ H1]) b [iQ H0,iQ H1]:=zA9 [iQ H0,iQ H1] 0 lw [iQ 0,iQ 0] bx (by simp);have GN:=zA8 b [iQ H0,iQ H1] 0 lw;have XN:=Ext.setCells (b:=b) (by omega) [iQ H0,iQ H1] 0 lw E;refine wpList_store_mid rfl _ _ _ rfl b 0 #[iQ H0,iQ H1] rfl rfl VT hi2S one ?_;show wpList _ _ _ _ _ (lw.setCells b 0 [iQ H0,iQ H1]);go_wp2_with fail;exact hK (fun jj=>if jj=29 then .agg #[iQ H0,iQ H1] else if jj=7 then .pointer (some ⟨b,0,none⟩) else lx jj) _ ⟨(XN),(zAA VA GN (by omega)),(zAA VF GN (by omega)),(zAA VB GN (by omega)),(zAA VC GN (by omega)),(fun h=>(fa h).far GN (fun e=>fd h hmk (e.trans eb.symm))),(fun _=>⟨b,rfl,hb,Nat.lt_of_lt_of_le hbl GN.size,(fun h=>by cases h),fun _=>VN⟩),fs,(fun _=>hmk),(fun h h2=>by have:=fd h h2;rw [eb] at this;exact this),j0,j1,j2,j3,j4,j5,j6,j7,j8,j9,j10,j11,j12,j13,j14,j15,j16,(fun _=>rfl)⟩
  | k+22,ho,_,_,_=>simp at ho
 ·intro L lx w9 hall hI;obtain ⟨E,VA,VF,VB,VC,fa,fb,fs,ft,fd,j0,j1,j2,j3,j4,j5,j6,j7,j8,j9,j10,j11,j12,j13,j14,j15,j16,j17⟩:=hI.out;obtain ⟨b6,eb6,hb6,_,_,hz6⟩:=fa (hall 18 (by simp));have V6:=hz6 (hall 20 (by simp));obtain ⟨b7,eb7,hb7,_,_,hz7⟩:=fb (hall 19 (by simp));have V7:=hz7 (hall 21 (by simp));rw [eb6,eb7]
  (try dsimp only)
  rw [j0 (hall 0 (by simp)),j1 (hall 1 (by simp)),j2 (hall 2 (by simp)),j3 (hall 3 (by simp)),j4 (hall 4 (by simp)),j5 (hall 5 (by simp)),j6 (hall 6 (by simp)),j7 (hall 7 (by simp)),j8 (hall 8 (by simp)),j9 (hall 9 (by simp)),j10 (hall 10 (by simp)),j11 (hall 11 (by simp)),j12 (hall 12 (by simp)),j13 (hall 13 (by simp)),j14 (hall 14 (by simp)),j15 (hall 15 (by simp)),j16 (hall 16 (by simp)),j17 (hall 17 (by simp))];clear hI hall j0 j1 j2 j3 j4 j5 j6 j7 j8 j9 j10 j11 j12 j13 j14 j15 j16 j17;clear fa fb fs ft fd hz6 hz7 X6 VA6 VF6 VB6 VC6 SH1 SH2 HX HY;have s0:=vC2 V6;have t0:=vC2 V7;have X8:Ext w (w9.alloc (.cells #[iQ G0,iQ G1,iQ H0,iQ H1] 111)):=xa E _;have VA8:=VA.l (x1 w9 (.cells #[iQ G0,iQ G1,iQ H0,iQ H1] 111));have VF8:=VF.l (x1 w9 (.cells #[iQ G0,iQ G1,iQ H0,iQ H1] 111));have VB8:=VB.l (x1 w9 (.cells #[iQ G0,iQ G1,iQ H0,iQ H1] 111));have VC8:=VC.l (x1 w9 (.cells #[iQ G0,iQ G1,iQ H0,iQ H1] 111));have VG8:=zA5 w9 [iQ G0,iQ G1,iQ H0,iQ H1] 111;change Vec (w9.alloc (.cells #[iQ G0,iQ G1,iQ H0,iQ H1] 111)) _ _ at VG8;have hlg:bf<w9.heap.size:=zEF VF;clear VA VF VB VC E V6 V7 hb6 hb7 eb6 eb7;go_upto_region 4 with fail;clear s0 t0;obtain ⟨w8,h8⟩:=nm (w9.alloc (.cells #[iQ G0,iQ G1,iQ H0,iQ H1] 111));rw [h8] at X8 VA8 VF8 VB8 VC8 VG8 ⊢;clear h8;obtain ⟨bg,hbg⟩:=nm (w9.heap.size);rw [hbg] at VG8 hlg ⊢;clear hbg;cases q1
  ·refine zA3 (fun lx:Nat->Value=>{ tmps:=#[.agg #[.int .i64 r,.int .i64 c,.bool f,.bool g,.int .i64 r',.int .i64 c',.bool f',.bool g',.int .i64 x,.int .i64 y],.pointer (some ⟨w.heap.size,0,none⟩),.pointer (some ⟨w.heap.size+1,0,none⟩),.pointer (some ⟨w.heap.size+1+1,0,none⟩),lx 4,.pointer (some ⟨bf,0,none⟩),.pointer (some ⟨b6,0,none⟩),.pointer (some ⟨b7,0,none⟩),.pointer (some ⟨bg,0,none⟩),.pointer (some ⟨w.heap.size,0,none⟩),.agg #[.int .i64 r,.int .i64 c,.bool f,.bool g,.int .i64 r',.int .i64 c',.bool f',.bool g'],.agg #[.int .i64 R0,.int .i64 R1,.int .i64 C0,.int .i64 C1],.pointer (some ⟨bf,0,none⟩),.agg #[.int .i64 R0,.int .i64 R1],.pointer (some ⟨w.heap.size,8,none⟩),.int .i64 x,.pointer (some ⟨bf,0,none⟩),.pointer (some ⟨bf,0,none⟩),.int .i64 R0,.int .i64 dx,.agg #[.int .i64 G0,.int .i64 G1],.pointer (some ⟨bf,2,none⟩),.agg #[.int .i64 C0,.int .i64 C1],.pointer (some ⟨w.heap.size,9,none⟩),.int .i64 y,.pointer (some ⟨bf,2,none⟩),.pointer (some ⟨bf,2,none⟩),.int .i64 C0,.int .i64 dy,.agg #[.int .i64 H0,.int .i64 H1],.agg #[.int .i64 G0,.int .i64 G1],.agg #[.int .i64 H0,.int .i64 H1],.agg #[.int .i64 G0,.int .i64 G1,.int .i64 H0,.int .i64 H1],lx 33,lx 34,lx 35,lx 36,lx 37,lx 38,lx 39,lx 40,lx 41,lx 42],defers:=[] }) (fun L lx lw=>Hid (Ext w lw/\Vec lw w.heap.size [iQ r,iQ c,.bool f,.bool g,iQ r',iQ c',.bool f',.bool g',iQ x,iQ y]/\Vec lw bf [iQ R0,iQ R1,iQ C0,iQ C1]/\Vec lw bg [iQ G0,iQ G1,iQ H0,iQ H1]/\(L 10=false->Vec lw (w.heap.size+1) [iQ 0,iQ 0,iQ 0,iQ 0])/\(L 11=false->Vec lw (w.heap.size+1+1) [iQ 0,iQ 0,iQ 0,iQ 0])/\(L 10=true->Vec lw (w.heap.size+1) [iQ R0,iQ R1,iQ C0,iQ C1])/\(L 11=true->Vec lw (w.heap.size+1+1) [iQ G0,iQ G1,iQ H0,iQ H1])/\(L 0=true->lx 33=.agg #[iQ R0,iQ R1,iQ C0,iQ C1])/\(L 1=true->lx 34=.agg #[iQ G0,iQ G1,iQ H0,iQ H1])/\(L 2=true->lx 35=.pointer (some ⟨w.heap.size,0,none⟩))/\(L 3=true->lx 36=.agg #[iQ r,iQ c,.bool f,.bool g,iQ r',iQ c',.bool f',.bool g'])/\(L 4=true->lx 37=.bool false)/\(L 5=true->lx 38=.bool false)/\(L 9=true->lx 42=.bool false)/\(L 12=true->lx 4=.bool false))) rfl (by kernel_rfl) (fun jj=>if jj=4 then .bool false else undef) rfl ?_ ?_ ?_
   ·exact ⟨xd X8,VA8.l (xd (xr _)),VF8.l (xd (xr _)),VG8.l (xd (xr _)),fun _=>VB8.l (xd (xr _)),fun _=>VC8.l (xd (xr _)),(fun h=>by cases h),(fun h=>by cases h),(fun h=>by cases h),(fun h=>by cases h),(fun h=>by cases h),(fun h=>by cases h),(fun h=>by cases h),(fun h=>by cases h),(fun h=>by cases h),(fun h=>by cases h)⟩
   ·intro L lx lw ix o K hK ho hL haf hI hcl;obtain ⟨E,VA,VF,VG,zb,zc,cb,cc,j0,j1,j2,j3,j4,j5,j9,j12⟩:=hI.out
    match ix,ho,hL,haf,hK with
    | 0,ho,hL,haf,hK =>
     cases ho
     (try dsimp only)
     refine Eq.mpr (if_pos (by rfl)) ?_;obtain ⟨a0,a1,a2,a3⟩:=vC4 VF;go_wp2_with fail;exact hK (fun jj=>if jj=33 then .agg #[iQ R0,iQ R1,iQ C0,iQ C1] else lx jj) _ ⟨E,VA,VF,VG,zb,zc,cb,cc,(fun _=>rfl),j1,j2,j3,j4,j5,j9,j12⟩
    | 1,ho,hL,haf,hK =>
     cases ho
     (try dsimp only)
     refine Eq.mpr (if_pos (by rfl)) ?_;obtain ⟨a0,a1,a2,a3⟩:=vC4 VG;go_wp2_with fail;exact hK (fun jj=>if jj=34 then .agg #[iQ G0,iQ G1,iQ H0,iQ H1] else lx jj) _ ⟨E,VA,VF,VG,zb,zc,cb,cc,j0,(fun _=>rfl),j2,j3,j4,j5,j9,j12⟩
    | 2,ho,hL,haf,hK =>
     cases ho
     (try dsimp only)
     refine Eq.mpr (if_pos (by rfl)) ?_;go_wp2_with fail;exact hK (fun jj=>if jj=35 then .pointer (some ⟨w.heap.size,0,none⟩) else lx jj) _ ⟨E,VA,VF,VG,zb,zc,cb,cc,j0,j1,(fun _=>rfl),j3,j4,j5,j9,j12⟩
    | 3,ho,hL,haf,hK =>
     cases ho
     (try dsimp only)
     rw [j2 (haf ⟨2,.data⟩ (by simp) rfl)];refine Eq.mpr (if_pos (by rfl)) ?_;obtain ⟨a0,a1,a2,a3,a4,a5,a6,a7⟩:=vC8 VA;go_wp2_with fail;exact hK (fun jj=>if jj=36 then .agg #[iQ r,iQ c,.bool f,.bool g,iQ r',iQ c',.bool f',.bool g'] else if jj=35 then .pointer (some ⟨w.heap.size,0,none⟩) else lx jj) _ ⟨E,VA,VF,VG,zb,zc,cb,cc,j0,j1,(fun _=>rfl),(fun _=>rfl),j4,j5,j9,j12⟩
    | 4,ho,hL,haf,hK =>
     cases ho
     (try dsimp only)
     rw [j3 (haf ⟨3,.data⟩ (by simp) rfl)];refine Eq.mpr (if_pos (by rfl)) ?_;go_wp2_with fail;refine (HGA.out lw).mono ?_;rintro rr w' ⟨rfl,e'⟩;go_wp2_with fail;exact hK (fun jj=>if jj=37 then .bool false else if jj=36 then .agg #[iQ r,iQ c,.bool f,.bool g,iQ r',iQ c',.bool f',.bool g'] else lx jj) _ ⟨(xt E e'),(VA.l e'),(VF.l e'),(VG.l e'),(fun h=>(zb h).l e'),(fun h=>(zc h).l e'),(fun h=>(cb h).l e'),(fun h=>(cc h).l e'),j0,j1,j2,(fun _=>rfl),(fun _=>rfl),j5,j9,j12⟩
    | 5,ho,hL,haf,hK =>
     cases ho
     (try dsimp only)
     rw [j4 (haf ⟨4,.data⟩ (by simp) rfl)];refine Eq.mpr (if_pos (by rfl)) ?_;go_wp2_with fail;exact hK (fun jj=>if jj=38 then .bool false else if jj=37 then .bool false else lx jj) _ ⟨E,VA,VF,VG,zb,zc,cb,cc,j0,j1,j2,j3,(fun _=>rfl),(fun _=>rfl),j9,j12⟩
    | 6,ho,hL,haf,hK =>
     cases ho
     (try dsimp only)
     rw [j5 (haf ⟨5,.guard⟩ (by simp) rfl)];refine Eq.mpr (if_neg (fun h=>Bool.noConfusion (show false=true from h))) ?_;exact hK (fun jj=>if jj=39 then undef else if jj=38 then .bool false else lx jj) _ ⟨E,VA,VF,VG,zb,zc,cb,cc,j0,j1,j2,j3,j4,(fun _=>rfl),j9,j12⟩
    | 7,ho,hL,haf,hK =>
     cases ho
     (try dsimp only)
     rw [j5 (haf ⟨5,.guard⟩ (by simp) rfl)];refine Eq.mpr (if_neg (fun h=>Bool.noConfusion (show false=true from h))) ?_;exact hK (fun jj=>if jj=40 then undef else if jj=38 then .bool false else lx jj) _ ⟨E,VA,VF,VG,zb,zc,cb,cc,j0,j1,j2,j3,j4,(fun _=>rfl),j9,j12⟩
    | 8,ho,hL,haf,hK =>
     cases ho
     (try dsimp only)
     rw [j5 (haf ⟨5,.guard⟩ (by simp) rfl)];refine Eq.mpr (if_neg (fun h=>Bool.noConfusion (show false=true from h))) ?_;exact hK (fun jj=>if jj=41 then undef else if jj=38 then .bool false else lx jj) _ ⟨E,VA,VF,VG,zb,zc,cb,cc,j0,j1,j2,j3,j4,(fun _=>rfl),j9,j12⟩
    | 9,ho,hL,haf,hK =>
     cases ho
     (try dsimp only)
     rw [j5 (haf ⟨5,.data⟩ (by simp) rfl)];refine Eq.mpr (if_pos (by rfl)) ?_;go_wp2_with fail;exact hK (fun jj=>if jj=42 then .bool false else if jj=38 then .bool false else lx jj) _ ⟨E,VA,VF,VG,zb,zc,cb,cc,j0,j1,j2,j3,j4,(fun _=>rfl),(fun _=>rfl),j12⟩
    | 10,ho,hL,haf,hK =>
     cases ho
     (try dsimp only)
     rw [j0 (haf ⟨0,.data⟩ (by simp) rfl)];have bx:=zb hL;refine Eq.mpr (if_pos (by rfl)) ?_;have VT:lw.there (w.heap.size+1) 0 4:=zAE bx (by simp);have one:(#[iQ R0,iQ R1,iQ C0,iQ C1]:Array Value).all (·.oneCell')=true:=(by simp [Value.oneCell']);have VN:Vec (lw.setCells (w.heap.size+1) 0 [iQ R0,iQ R1,iQ C0,iQ C1]) (w.heap.size+1) [iQ R0,iQ R1,iQ C0,iQ C1]:=zA9 [iQ R0,iQ R1,iQ C0,iQ C1] 0 lw [iQ 0,iQ 0,iQ 0,iQ 0] bx (by simp);have GN:=zA8 (w.heap.size+1) [iQ R0,iQ R1,iQ C0,iQ C1] 0 lw;have XN:=Ext.setCells (b:=(w.heap.size+1)) (by omega) [iQ R0,iQ R1,iQ C0,iQ C1] 0 lw E;refine wpList_store_mid rfl _ _ _ rfl (w.heap.size+1) 0 #[iQ R0,iQ R1,iQ C0,iQ C1] rfl rfl VT hi4B one ?_;show wpList _ _ _ _ _ (lw.setCells (w.heap.size+1) 0 [iQ R0,iQ R1,iQ C0,iQ C1]);go_wp2_with fail;exact hK (fun jj=>if jj=33 then .agg #[iQ R0,iQ R1,iQ C0,iQ C1] else lx jj) _ ⟨(XN),(zAA VA GN (by omega)),(zAA VF GN (by omega)),(zAA VG GN (by omega)),(fun h=>by cases h),(fun h=>zAA (zc h) GN (by omega)),(fun _=>VN),(fun h=>zAA (cc h) GN (by omega)),(fun _=>rfl),j1,j2,j3,j4,j5,j9,j12⟩
    | 11,ho,hL,haf,hK =>
     cases ho
     (try dsimp only)
     rw [j1 (haf ⟨1,.data⟩ (by simp) rfl)];have bx:=zc hL;refine Eq.mpr (if_pos (by rfl)) ?_;have VT:lw.there (w.heap.size+1+1) 0 4:=zAE bx (by simp);have one:(#[iQ G0,iQ G1,iQ H0,iQ H1]:Array Value).all (·.oneCell')=true:=(by simp [Value.oneCell']);have VN:Vec (lw.setCells (w.heap.size+1+1) 0 [iQ G0,iQ G1,iQ H0,iQ H1]) (w.heap.size+1+1) [iQ G0,iQ G1,iQ H0,iQ H1]:=zA9 [iQ G0,iQ G1,iQ H0,iQ H1] 0 lw [iQ 0,iQ 0,iQ 0,iQ 0] bx (by simp);have GN:=zA8 (w.heap.size+1+1) [iQ G0,iQ G1,iQ H0,iQ H1] 0 lw;have XN:=Ext.setCells (b:=(w.heap.size+1+1)) (by omega) [iQ G0,iQ G1,iQ H0,iQ H1] 0 lw E;refine wpList_store_mid rfl _ _ _ rfl (w.heap.size+1+1) 0 #[iQ G0,iQ G1,iQ H0,iQ H1] rfl rfl VT hi4B one ?_;show wpList _ _ _ _ _ (lw.setCells (w.heap.size+1+1) 0 [iQ G0,iQ G1,iQ H0,iQ H1]);go_wp2_with fail;exact hK (fun jj=>if jj=34 then .agg #[iQ G0,iQ G1,iQ H0,iQ H1] else lx jj) _ ⟨(XN),(zAA VA GN (by omega)),(zAA VF GN (by omega)),(zAA VG GN (by omega)),(fun h=>zAA (zb h) GN (by omega)),(fun h=>by cases h),(fun h=>zAA (cb h) GN (by omega)),(fun _=>VN),j0,(fun _=>rfl),j2,j3,j4,j5,j9,j12⟩
    | 12,ho,hL,haf,hK =>
     cases ho
     (try dsimp only)
     rw [j9 (haf ⟨9,.data⟩ (by simp) rfl)];refine Eq.mpr (if_pos (by rfl)) ?_;go_wp2_with fail;exact hK (fun jj=>if jj=4 then .bool false else if jj=42 then .bool false else lx jj) _ ⟨E,VA,VF,VG,zb,zc,cb,cc,j0,j1,j2,j3,j4,j5,(fun _=>rfl),(fun _=>rfl)⟩
    | k+13,ho,_,_,_=>simp at ho
   ·intro L lx w9 hall hI;obtain ⟨E,VA,VF,VG,zb,zc,cb,cc,j0,j1,j2,j3,j4,j5,j9,j12⟩:=hI.out;have BB:=cb (hall 10 (by simp));have BC:=cc (hall 11 (by simp));have E8:=E
    (try dsimp only)
    rw [j0 (hall 0 (by simp)),j1 (hall 1 (by simp)),j2 (hall 2 (by simp)),j3 (hall 3 (by simp)),j4 (hall 4 (by simp)),j5 (hall 5 (by simp)),j9 (hall 9 (by simp)),j12 (hall 12 (by simp))];clear hI hall j0 j1 j2 j3 j4 j5 j9 j12;clear zb zc cb cc VA VF VG E X8 VA8 VF8 VB8 VC8 VG8 HGA HGB HAR;have z0:=vC4 BB;have y0:=vC4 BC;go_wp2_with fail;exact bodyPost_ret (v:=.tuple #[.agg #[iQ R0,iQ R1,iQ C0,iQ C1],.agg #[iQ G0,iQ G1,iQ H0,iQ H1],.bool false]) (by simp [results,Tryz.results72,go_sem,z0,y0]) rfl ⟨rfl,E8⟩
  ·refine zA3 (fun lx:Nat->Value=>{ tmps:=#[.agg #[.int .i64 r,.int .i64 c,.bool f,.bool g,.int .i64 r',.int .i64 c',.bool f',.bool g',.int .i64 x,.int .i64 y],.pointer (some ⟨w.heap.size,0,none⟩),.pointer (some ⟨w.heap.size+1,0,none⟩),.pointer (some ⟨w.heap.size+1+1,0,none⟩),lx 4,.pointer (some ⟨bf,0,none⟩),.pointer (some ⟨b6,0,none⟩),.pointer (some ⟨b7,0,none⟩),.pointer (some ⟨bg,0,none⟩),.pointer (some ⟨w.heap.size,0,none⟩),.agg #[.int .i64 r,.int .i64 c,.bool f,.bool g,.int .i64 r',.int .i64 c',.bool f',.bool g'],.agg #[.int .i64 R0,.int .i64 R1,.int .i64 C0,.int .i64 C1],.pointer (some ⟨bf,0,none⟩),.agg #[.int .i64 R0,.int .i64 R1],.pointer (some ⟨w.heap.size,8,none⟩),.int .i64 x,.pointer (some ⟨bf,0,none⟩),.pointer (some ⟨bf,0,none⟩),.int .i64 R0,.int .i64 dx,.agg #[.int .i64 G0,.int .i64 G1],.pointer (some ⟨bf,2,none⟩),.agg #[.int .i64 C0,.int .i64 C1],.pointer (some ⟨w.heap.size,9,none⟩),.int .i64 y,.pointer (some ⟨bf,2,none⟩),.pointer (some ⟨bf,2,none⟩),.int .i64 C0,.int .i64 dy,.agg #[.int .i64 H0,.int .i64 H1],.agg #[.int .i64 G0,.int .i64 G1],.agg #[.int .i64 H0,.int .i64 H1],.agg #[.int .i64 G0,.int .i64 G1,.int .i64 H0,.int .i64 H1],lx 33,lx 34,lx 35,lx 36,lx 37,lx 38,lx 39,lx 40,lx 41,lx 42],defers:=[] }) (fun L lx lw=>Hid (Ext w lw/\Vec lw w.heap.size [iQ r,iQ c,.bool f,.bool g,iQ r',iQ c',.bool f',.bool g',iQ x,iQ y]/\Vec lw bf [iQ R0,iQ R1,iQ C0,iQ C1]/\Vec lw bg [iQ G0,iQ G1,iQ H0,iQ H1]/\(L 10=false->Vec lw (w.heap.size+1) [iQ 0,iQ 0,iQ 0,iQ 0])/\(L 11=false->Vec lw (w.heap.size+1+1) [iQ 0,iQ 0,iQ 0,iQ 0])/\(L 10=true->Vec lw (w.heap.size+1) [iQ R0,iQ R1,iQ C0,iQ C1])/\(L 11=true->Vec lw (w.heap.size+1+1) [iQ G0,iQ G1,iQ H0,iQ H1])/\(L 0=true->lx 33=.agg #[iQ R0,iQ R1,iQ C0,iQ C1])/\(L 1=true->lx 34=.agg #[iQ G0,iQ G1,iQ H0,iQ H1])/\(L 2=true->lx 35=.pointer (some ⟨w.heap.size,0,none⟩))/\(L 3=true->lx 36=.agg #[iQ r,iQ c,.bool f,.bool g,iQ r',iQ c',.bool f',.bool g'])/\(L 4=true->lx 37=.bool true)/\(L 5=true->lx 38=.bool true)/\(L 6=true->lx 39=.agg #[iQ G0,iQ G1,iQ H0,iQ H1])/\(L 7=true->lx 40=.agg #[iQ G0,iQ H0,.bool false,.bool false,iQ G1,iQ H1,.bool false,.bool false])/\(L 8=true->lx 41=.bool q2)/\(L 9=true->lx 42=.bool q2)/\(L 12=true->lx 4=.bool q2))) rfl (by kernel_rfl) (fun jj=>if jj=4 then .bool false else undef) rfl ?_ ?_ ?_
   ·exact ⟨xd X8,VA8.l (xd (xr _)),VF8.l (xd (xr _)),VG8.l (xd (xr _)),fun _=>VB8.l (xd (xr _)),fun _=>VC8.l (xd (xr _)),(fun h=>by cases h),(fun h=>by cases h),(fun h=>by cases h),(fun h=>by cases h),(fun h=>by cases h),(fun h=>by cases h),(fun h=>by cases h),(fun h=>by cases h),(fun h=>by cases h),(fun h=>by cases h),(fun h=>by cases h),(fun h=>by cases h),(fun h=>by cases h)⟩
   ·intro L lx lw ix o K hK ho hL haf hI hcl;obtain ⟨E,VA,VF,VG,zb,zc,cb,cc,j0,j1,j2,j3,j4,j5,j6,j7,j8,j9,j12⟩:=hI.out
    match ix,ho,hL,haf,hK with
    | 0,ho,hL,haf,hK =>
     cases ho
     (try dsimp only)
     refine Eq.mpr (if_pos (by rfl)) ?_;obtain ⟨a0,a1,a2,a3⟩:=vC4 VF;go_wp2_with fail;exact hK (fun jj=>if jj=33 then .agg #[iQ R0,iQ R1,iQ C0,iQ C1] else lx jj) _ ⟨E,VA,VF,VG,zb,zc,cb,cc,(fun _=>rfl),j1,j2,j3,j4,j5,j6,j7,j8,j9,j12⟩
    | 1,ho,hL,haf,hK =>
     cases ho
     (try dsimp only)
     refine Eq.mpr (if_pos (by rfl)) ?_;obtain ⟨a0,a1,a2,a3⟩:=vC4 VG;go_wp2_with fail;exact hK (fun jj=>if jj=34 then .agg #[iQ G0,iQ G1,iQ H0,iQ H1] else lx jj) _ ⟨E,VA,VF,VG,zb,zc,cb,cc,j0,(fun _=>rfl),j2,j3,j4,j5,j6,j7,j8,j9,j12⟩
    | 2,ho,hL,haf,hK =>
     cases ho
     (try dsimp only)
     refine Eq.mpr (if_pos (by rfl)) ?_;go_wp2_with fail;exact hK (fun jj=>if jj=35 then .pointer (some ⟨w.heap.size,0,none⟩) else lx jj) _ ⟨E,VA,VF,VG,zb,zc,cb,cc,j0,j1,(fun _=>rfl),j3,j4,j5,j6,j7,j8,j9,j12⟩
    | 3,ho,hL,haf,hK =>
     cases ho
     (try dsimp only)
     rw [j2 (haf ⟨2,.data⟩ (by simp) rfl)];refine Eq.mpr (if_pos (by rfl)) ?_;obtain ⟨a0,a1,a2,a3,a4,a5,a6,a7⟩:=vC8 VA;go_wp2_with fail;exact hK (fun jj=>if jj=36 then .agg #[iQ r,iQ c,.bool f,.bool g,iQ r',iQ c',.bool f',.bool g'] else if jj=35 then .pointer (some ⟨w.heap.size,0,none⟩) else lx jj) _ ⟨E,VA,VF,VG,zb,zc,cb,cc,j0,j1,(fun _=>rfl),(fun _=>rfl),j4,j5,j6,j7,j8,j9,j12⟩
    | 4,ho,hL,haf,hK =>
     cases ho
     (try dsimp only)
     rw [j3 (haf ⟨3,.data⟩ (by simp) rfl)];refine Eq.mpr (if_pos (by rfl)) ?_;go_wp2_with fail;refine (HGA.out lw).mono ?_;rintro rr w' ⟨rfl,e'⟩;go_wp2_with fail;exact hK (fun jj=>if jj=37 then .bool true else if jj=36 then .agg #[iQ r,iQ c,.bool f,.bool g,iQ r',iQ c',.bool f',.bool g'] else lx jj) _ ⟨(xt E e'),(VA.l e'),(VF.l e'),(VG.l e'),(fun h=>(zb h).l e'),(fun h=>(zc h).l e'),(fun h=>(cb h).l e'),(fun h=>(cc h).l e'),j0,j1,j2,(fun _=>rfl),(fun _=>rfl),j5,j6,j7,j8,j9,j12⟩
    | 5,ho,hL,haf,hK =>
     cases ho
     (try dsimp only)
     rw [j4 (haf ⟨4,.data⟩ (by simp) rfl)];refine Eq.mpr (if_pos (by rfl)) ?_;go_wp2_with fail;exact hK (fun jj=>if jj=38 then .bool true else if jj=37 then .bool true else lx jj) _ ⟨E,VA,VF,VG,zb,zc,cb,cc,j0,j1,j2,j3,(fun _=>rfl),(fun _=>rfl),j6,j7,j8,j9,j12⟩
    | 6,ho,hL,haf,hK =>
     cases ho
     (try dsimp only)
     rw [j5 (haf ⟨5,.guard⟩ (by simp) rfl)];refine Eq.mpr (if_pos (by rfl)) ?_;obtain ⟨a0,a1,a2,a3⟩:=vC4 VG;go_wp2_with fail;exact hK (fun jj=>if jj=39 then .agg #[iQ G0,iQ G1,iQ H0,iQ H1] else if jj=38 then .bool true else lx jj) _ ⟨E,VA,VF,VG,zb,zc,cb,cc,j0,j1,j2,j3,j4,(fun _=>rfl),(fun _=>rfl),j7,j8,j9,j12⟩
    | 7,ho,hL,haf,hK =>
     cases ho
     (try dsimp only)
     rw [j5 (haf ⟨5,.guard⟩ (by simp) rfl),j6 (haf ⟨6,.data⟩ (by simp) rfl)];refine Eq.mpr (if_pos (by rfl)) ?_;go_wp2_with fail;refine (HAR.out lw).mono ?_;rintro rr w' ⟨rfl,e'⟩;go_wp2_with fail;exact hK (fun jj=>if jj=40 then .agg #[iQ G0,iQ H0,.bool false,.bool false,iQ G1,iQ H1,.bool false,.bool false] else if jj=38 then .bool true else if jj=39 then .agg #[iQ G0,iQ G1,iQ H0,iQ H1] else lx jj) _ ⟨(xt E e'),(VA.l e'),(VF.l e'),(VG.l e'),(fun h=>(zb h).l e'),(fun h=>(zc h).l e'),(fun h=>(cb h).l e'),(fun h=>(cc h).l e'),j0,j1,j2,j3,j4,(fun _=>rfl),(fun _=>rfl),(fun _=>rfl),j8,j9,j12⟩
    | 8,ho,hL,haf,hK =>
     cases ho
     (try dsimp only)
     rw [j5 (haf ⟨5,.guard⟩ (by simp) rfl),j7 (haf ⟨7,.data⟩ (by simp) rfl)];refine Eq.mpr (if_pos (by rfl)) ?_;go_wp2_with fail;refine (HGB.out lw).mono ?_;rintro rr w' ⟨rfl,e'⟩;go_wp2_with fail;exact hK (fun jj=>if jj=41 then .bool q2 else if jj=38 then .bool true else if jj=40 then .agg #[iQ G0,iQ H0,.bool false,.bool false,iQ G1,iQ H1,.bool false,.bool false] else lx jj) _ ⟨(xt E e'),(VA.l e'),(VF.l e'),(VG.l e'),(fun h=>(zb h).l e'),(fun h=>(zc h).l e'),(fun h=>(cb h).l e'),(fun h=>(cc h).l e'),j0,j1,j2,j3,j4,(fun _=>rfl),j6,(fun _=>rfl),(fun _=>rfl),j9,j12⟩
    | 9,ho,hL,haf,hK =>
     cases ho
     (try dsimp only)
     rw [j5 (haf ⟨5,.data⟩ (by simp) rfl),j8 (haf ⟨8,.data⟩ (by simp) rfl)];refine Eq.mpr (if_pos (by rfl)) ?_;go_wp2_with fail;exact hK (fun jj=>if jj=42 then .bool q2 else if jj=38 then .bool true else if jj=41 then .bool q2 else lx jj) _ ⟨E,VA,VF,VG,zb,zc,cb,cc,j0,j1,j2,j3,j4,(fun _=>rfl),j6,j7,(fun _=>rfl),(fun _=>rfl),j12⟩
    | 10,ho,hL,haf,hK =>
     cases ho
     (try dsimp only)
     rw [j0 (haf ⟨0,.data⟩ (by simp) rfl)];have bx:=zb hL;refine Eq.mpr (if_pos (by rfl)) ?_;have VT:lw.there (w.heap.size+1) 0 4:=zAE bx (by simp);have one:(#[iQ R0,iQ R1,iQ C0,iQ C1]:Array Value).all (·.oneCell')=true:=(by simp [Value.oneCell']);have VN:Vec (lw.setCells (w.heap.size+1) 0 [iQ R0,iQ R1,iQ C0,iQ C1]) (w.heap.size+1) [iQ R0,iQ R1,iQ C0,iQ C1]:=zA9 [iQ R0,iQ R1,iQ C0,iQ C1] 0 lw [iQ 0,iQ 0,iQ 0,iQ 0] bx (by simp);have GN:=zA8 (w.heap.size+1) [iQ R0,iQ R1,iQ C0,iQ C1] 0 lw;have XN:=Ext.setCells (b:=(w.heap.size+1)) (by omega) [iQ R0,iQ R1,iQ C0,iQ C1] 0 lw E;refine wpList_store_mid rfl _ _ _ rfl (w.heap.size+1) 0 #[iQ R0,iQ R1,iQ C0,iQ C1] rfl rfl VT hi4B one ?_;show wpList _ _ _ _ _ (lw.setCells (w.heap.size+1) 0 [iQ R0,iQ R1,iQ C0,iQ C1]);go_wp2_with fail;exact hK (fun jj=>if jj=33 then .agg #[iQ R0,iQ R1,iQ C0,iQ C1] else lx jj) _ ⟨(XN),(zAA VA GN (by omega)),(zAA VF GN (by omega)),(zAA VG GN (by omega)),(fun h=>by cases h),(fun h=>zAA (zc h) GN (by omega)),(fun _=>VN),(fun h=>zAA (cc h) GN (by omega)),(fun _=>rfl),j1,j2,j3,j4,j5,j6,j7,j8,j9,j12⟩
    | 11,ho,hL,haf,hK =>
     cases ho
     (try dsimp only)
     rw [j1 (haf ⟨1,.data⟩ (by simp) rfl)];have bx:=zc hL;refine Eq.mpr (if_pos (by rfl)) ?_;have VT:lw.there (w.heap.size+1+1) 0 4:=zAE bx (by simp);have one:(#[iQ G0,iQ G1,iQ H0,iQ H1]:Array Value).all (·.oneCell')=true:=(by simp [Value.oneCell']);have VN:Vec (lw.setCells (w.heap.size+1+1) 0 [iQ G0,iQ G1,iQ H0,iQ H1]) (w.heap.size+1+1) [iQ G0,iQ G1,iQ H0,iQ H1]:=zA9 [iQ G0,iQ G1,iQ H0,iQ H1] 0 lw [iQ 0,iQ 0,iQ 0,iQ 0] bx (by simp);have GN:=zA8 (w.heap.size+1+1) [iQ G0,iQ G1,iQ H0,iQ H1] 0 lw;have XN:=Ext.setCells (b:=(w.heap.size+1+1)) (by omega) [iQ G0,iQ G1,iQ H0,iQ H1] 0 lw E;refine wpList_store_mid rfl _ _ _ rfl (w.heap.size+1+1) 0 #[iQ G0,iQ G1,iQ H0,iQ H1] rfl rfl VT hi4B one ?_;show wpList _ _ _ _ _ (lw.setCells (w.heap.size+1+1) 0 [iQ G0,iQ G1,iQ H0,iQ H1]);go_wp2_with fail;exact hK (fun jj=>if jj=34 then .agg #[iQ G0,iQ G1,iQ H0,iQ H1] else lx jj) _ ⟨(XN),(zAA VA GN (by omega)),(zAA VF GN (by omega)),(zAA VG GN (by omega)),(fun h=>zAA (zb h) GN (by omega)),(fun h=>by cases h),(fun h=>zAA (cb h) GN (by omega)),(fun _=>VN),j0,(fun _=>rfl),j2,j3,j4,j5,j6,j7,j8,j9,j12⟩
    | 12,ho,hL,haf,hK =>
     cases ho
     (try dsimp only)
     rw [j9 (haf ⟨9,.data⟩ (by simp) rfl)];refine Eq.mpr (if_pos (by rfl)) ?_;go_wp2_with fail;exact hK (fun jj=>if jj=4 then .bool q2 else if jj=42 then .bool q2 else lx jj) _ ⟨E,VA,VF,VG,zb,zc,cb,cc,j0,j1,j2,j3,j4,j5,j6,j7,j8,(fun _=>rfl),(fun _=>rfl)⟩
    | k+13,ho,_,_,_=>simp at ho
   ·intro L lx w9 hall hI;obtain ⟨E,VA,VF,VG,zb,zc,cb,cc,j0,j1,j2,j3,j4,j5,j6,j7,j8,j9,j12⟩:=hI.out;have BB:=cb (hall 10 (by simp));have BC:=cc (hall 11 (by simp));have E8:=E
    (try dsimp only)
    rw [j0 (hall 0 (by simp)),j1 (hall 1 (by simp)),j2 (hall 2 (by simp)),j3 (hall 3 (by simp)),j4 (hall 4 (by simp)),j5 (hall 5 (by simp)),j6 (hall 6 (by simp)),j7 (hall 7 (by simp)),j8 (hall 8 (by simp)),j9 (hall 9 (by simp)),j12 (hall 12 (by simp))];clear hI hall j0 j1 j2 j3 j4 j5 j6 j7 j8 j9 j12;clear zb zc cb cc VA VF VG E X8 VA8 VF8 VB8 VC8 VG8 HGA HGB HAR;have z0:=vC4 BB;have y0:=vC4 BC;go_wp2_with fail;exact bodyPost_ret (v:=.tuple #[.agg #[iQ R0,iQ R1,iQ C0,iQ C1],.agg #[iQ G0,iQ G1,iQ H0,iQ H1],.bool q2]) (by simp [results,Tryz.results72,go_sem,z0,y0]) rfl ⟨rfl,E8⟩
end Go.Proofs.YteliaeejooekbaaGreatDoor
