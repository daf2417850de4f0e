import Derived.Test.YteliaeejooekbaaGreatDoorMg12
import Derived.Test.YteliaeejooekbaaGreatDoorMf1
import Derived.Test.YteliaeejooekbaaGreatDoorMg13
set_option maxRecDepth 8000
set_option maxHeartbeats 16000000
namespace Go.Proofs.YteliaeejooekbaaGreatDoor
open Go.RowKit
abbrev Z10:List Value:=[iQ 0,iQ 0,.bool false,.bool false,iQ 0,iQ 0,.bool false,.bool false,iQ 0,iQ 0]
theorem zDS:(Tryz.prog.info? 45).map (·.size)=some 10:=by kernel_rfl
theorem Only.setCellsM {b g:Nat} {a:World} (hg:a.heap.size<=g):∀ (us:List Value) (o:Nat) (w:World),Only b a w->Only b a (w.setCells g o us)
 | [],_,_,h=>h
 | u :: us,o,_,h=>Only.setCellsM hg us (o+1) _ (h.setNew (g:=g) (i:=o) hg u)
theorem Cur.setCellsM {b base K g:Nat} (hb:b ≠ g) (hg:base<=g):∀ (us:List Value) (o:Nat) (w:World),Cur w b base K->Cur (w.setCells g o us) b base K
 | [],_,_,h=>h
 | u :: us,o,_,h=>Cur.setCellsM hb hg us (o+1) _ (h.far (g:=g) (i:=o) hb hg u)
def zK1 (b base K:Nat) (w:World) (e:Ending) (w':World):Prop:=
 (∃ (r c:Int) (f g:Bool) (r' c':Int) (f' g':Bool) (x y:Int),e=.returned (.agg #[iQ r,iQ c,.bool f,.bool g,iQ r',iQ c',.bool f',.bool g',iQ x,iQ y])/\(0<=x/\x<=2000)/\(0<=y/\y<=2000))/\Cur w' b base K/\Only b w w'
theorem zUR (b base K:Nat) (w:World) (h:Cur w b base K) (hK:K<=90000) :
  Calls Tryz.prog 47 #[.pointer (some ⟨b,0,none⟩)] w fun e w'=>zK1 b base (K+410) w e w':=by
 have bl:=h.lt;have bb:=h.base_le;have X0:=x1 w (.cells Z10.toArray 45);have V0:=zA5 w Z10 45;have C1:=h.ext X0;have O1:Only b w _:=Only.of_ext X0;obtain ⟨wa,ha⟩:=nm (w.alloc (.cells Z10.toArray 45));have HWA:Hid _:=ha;rw [ha] at V0 C1 O1;clear X0 h ha;go_enter Tryz.func47,Tryz.ntmps47;go_wp2_with (rw [HWA.out]);refine (areaC b base K _ C1 (by omega)).mono ?_;rintro e w1 ⟨r,c,f,g,r',c',f',g',K1,rfl,hK1,C1,o1⟩;have V0:=o1.vec (by omega) V0;have O1:=O1.trans o1;clear o1 HWA;go_wp2_with fail;refine (zB1 b base _ 12 _ C1 (by omega) (by omega) (by omega)).mono ?_;rintro e w2 ⟨x,rfl,⟨x0,x9⟩,C1,o1⟩;have V0:=o1.vec (by omega) V0;have O1:=O1.trans o1;clear o1;go_wp2_with fail;refine (zB1 b base _ 12 _ C1 (by omega) (by omega) (by omega)).mono ?_;rintro e w3 ⟨y,rfl,⟨y0,y9⟩,C1,o1⟩;have V0:=o1.vec (by omega) V0;have O1:=O1.trans o1;clear o1;have b3:=C1.lt;have hw3:w.heap.size<w3.heap.size:=World.block_lt_of_cell? _ _ (V0 0 _ rfl).1;obtain ⟨w4,h4,E,VM,-⟩:=zAD w3 [iQ r,iQ c,.bool f,.bool g,iQ r',iQ c',.bool f',.bool g',iQ (1+x),iQ (1+y)] 45;have C1:=C1.ext E;have V0:=V0.l E;have O1:=O1.trans (Only.of_ext E);have H4:Hid _:=h4;clear E h4;go_wp2_with (rw [H4.out]);refine (oneC b base _ 8 _ C1 (by omega) (by omega) (by omega)).mono ?_;rintro e w5 ⟨t,rfl,C1,o1⟩;have V0:=o1.vec (by omega) V0;have VM:=o1.vec (by omega) VM;have O1:=O1.trans o1;clear o1 H4;cases t
 ·have VT:w5.there w.heap.size 0 10:=zAE V0 (by simp);have V9:=zA9 [iQ r,iQ c,.bool f,.bool g,iQ r',iQ c',.bool f',.bool g',iQ (1+x),iQ (1+y)] 0 w5 _ V0 (by simp);have C9:=Cur.setCellsM (g:=w.heap.size) (by omega) (by omega) [iQ r,iQ c,.bool f,.bool g,iQ r',iQ c',.bool f',.bool g',iQ (1+x),iQ (1+y)] 0 w5 C1;have O9:=Only.setCellsM (g:=w.heap.size) (Nat.le_refl _) [iQ r,iQ c,.bool f,.bool g,iQ r',iQ c',.bool f',.bool g',iQ (1+x),iQ (1+y)] 0 w5 O1;obtain ⟨w9,h9⟩:=nm (w5.setCells w.heap.size 0 [iQ r,iQ c,.bool f,.bool g,iQ r',iQ c',.bool f',.bool g',iQ (1+x),iQ (1+y)]);have H9:Hid _:=h9;rw [h9] at V9 C9 O9;have VR:w5.rangeAt w3.heap.size 0 [iQ r,iQ c,.bool f,.bool g,iQ r',iQ c',.bool f',.bool g',iQ (1+x),iQ (1+y)]:=fun k u hu=>by rw [Nat.zero_add];exact (VM k u hu).1
  have PO:Hid (zK1 b base (K+410) w (.returned (.agg #[iQ r,iQ c,.bool f,.bool g,iQ r',iQ c',.bool f',.bool g',iQ (1+x),iQ (1+y)])) w9):=⟨⟨r,c,f,g,r',c',f',g',(1+x),1+y,rfl,⟨by omega,by omega⟩,⟨by omega,by omega⟩⟩,C9.more (by omega),O9⟩;have q0:=vC10 V9;clear V9 C9 O9 h9 V0 VM C1 O1;go_wp2_with (first | (refine wpList_load_mid rfl 45 (.tmp 3) rfl w3.heap.size 0 rfl _ _ VR Tryz.underlying45 rfl zDS ?_) | (refine zAQ rfl _ _ _ rfl w.heap.size 0 _ rfl rfl VT zDS (by simp [Value.oneCell']) H9.out ?_));exact bodyPost_ret (v:=.agg #[iQ r,iQ c,.bool f,.bool g,iQ r',iQ c',.bool f',.bool g',iQ (1+x),iQ (1+y)]) (by simp [results,Tryz.results47,go_sem,q0]) rfl PO.out
 ·go_wp2_with fail;refine (zB1 b base _ 12 _ C1 (by omega) (by omega) (by omega)).mono ?_;rintro e w6 ⟨z,rfl,⟨z0,z9⟩,C1,o1⟩;have V0:=o1.vec (by omega) V0;have VM:=o1.vec (by omega) VM;have O1:=O1.trans o1;clear o1;obtain ⟨c8,f8⟩:=VM 8 _ rfl;have VM:=VM.put 8 (by simp) (iQ (1000 - z+1));simp only [List.set_cons_zero,List.set_cons_succ] at VM;have V0:=V0.far (p:=⟨w3.heap.size,8,none⟩) (by show w3.heap.size ≠ _;omega) (iQ (1000 - z+1));have C1:=C1.far (g:=w3.heap.size) (i:=8) (by omega) (by omega) (iQ (1000 - z+1));have O1:=O1.setNew (g:=w3.heap.size) (i:=8) (by omega) (iQ (1000 - z+1));obtain ⟨w7,h7⟩:=nm (w6.setCell ⟨w3.heap.size,8,none⟩ (iQ (1000 - z+1)));have H7:Hid _:=h7;rw [h7] at V0 VM C1 O1;clear h7;go_upto_region 4 with fail;rw [H7.out];clear c8 f8 H7;have VT:w7.there w.heap.size 0 10:=zAE V0 (by simp);have V9:=zA9 [iQ r,iQ c,.bool f,.bool g,iQ r',iQ c',.bool f',.bool g',iQ (1000 - z+1),iQ (1+y)] 0 w7 _ V0 (by simp);have C9:=Cur.setCellsM (g:=w.heap.size) (by omega) (by omega) [iQ r,iQ c,.bool f,.bool g,iQ r',iQ c',.bool f',.bool g',iQ (1000 - z+1),iQ (1+y)] 0 w7 C1;have O9:=Only.setCellsM (g:=w.heap.size) (Nat.le_refl _) [iQ r,iQ c,.bool f,.bool g,iQ r',iQ c',.bool f',.bool g',iQ (1000 - z+1),iQ (1+y)] 0 w7 O1;obtain ⟨w9,h9⟩:=nm (w7.setCells w.heap.size 0 [iQ r,iQ c,.bool f,.bool g,iQ r',iQ c',.bool f',.bool g',iQ (1000 - z+1),iQ (1+y)]);have H9:Hid _:=h9;rw [h9] at V9 C9 O9;have VR:w7.rangeAt w3.heap.size 0 [iQ r,iQ c,.bool f,.bool g,iQ r',iQ c',.bool f',.bool g',iQ (1000 - z+1),iQ (1+y)]:=fun k u hu=>by rw [Nat.zero_add];exact (VM k u hu).1
  have PO:Hid (zK1 b base (K+410) w (.returned (.agg #[iQ r,iQ c,.bool f,.bool g,iQ r',iQ c',.bool f',.bool g',iQ (1000 - z+1),iQ (1+y)])) w9):=⟨⟨r,c,f,g,r',c',f',g',(1000 - z+1),1+y,rfl,⟨by omega,by omega⟩,⟨by omega,by omega⟩⟩,C9.more (by omega),O9⟩;have q0:=vC10 V9;clear V9 C9 O9 h9 V0 VM C1 O1;go_wp2_with (first | (refine wpList_load_mid rfl 45 (.tmp 3) rfl w3.heap.size 0 rfl _ _ VR Tryz.underlying45 rfl zDS ?_) | (refine zAQ rfl _ _ _ rfl w.heap.size 0 _ rfl rfl VT zDS (by simp [Value.oneCell']) H9.out ?_));exact bodyPost_ret (v:=.agg #[iQ r,iQ c,.bool f,.bool g,iQ r',iQ c',.bool f',.bool g',iQ (1000 - z+1),iQ (1+y)]) (by simp [results,Tryz.results47,go_sem,q0]) rfl PO.out
structure DrJ (w:World) (b base K gM gA:Nat) (M:List Value) (st:Bool) (lw:World):Prop where
 cur:Cur lw b base K
 only:Only b w lw
 vm:Vec lw gM M
 va:Vec lw gA (if st then M else Z10)
theorem DrJ.turn {w lw lw':World} {b base K K' gM gA:Nat} {M:List Value} {st:Bool} (h:DrJ w b base K gM gA M st lw) (o:Only b lw lw') (c:Cur lw' b base K') (hM:gM ≠ b) (hA:gA ≠ b):DrJ w b base K' gM gA M st lw':=
 ⟨c,h.only.trans o,o.vec hM h.vm,o.vec hA h.va⟩
def kcD (A B:Nat) (L:Nat->Bool):Nat:=(if L 3=true then A else 0)+(if L 4=true then B else 0)
theorem zKV (A B:Nat) (L:Nat->Bool):kcD A B L<=A+B:=by unfold kcD;split <;> split <;> omega
theorem kcD3 {A B:Nat} {L:Nat->Bool} (h:L 3=false):kcD A B (fun j=>if j=3 then true else L j)=kcD A B L+A:=by simp [kcD,h];omega
theorem kcD4 {A B:Nat} {L:Nat->Bool} (h:L 4=false):kcD A B (fun j=>if j=4 then true else L j)=kcD A B L+B:=by simp [kcD,h]
theorem kcD0 {A B i:Nat} {L:Nat->Bool} (h:i ≠ 3) (h':i ≠ 4):kcD A B (fun j=>if j=i then true else L j)=kcD A B L:=by unfold kcD;simp [h.symm,h'.symm]
theorem hi4D:(Tryz.prog.info? 26).map (·.size)=some 4:=by kernel_rfl
def zQW (r c:Int) (f g:Bool) (r' c':Int) (f' g':Bool) (x y:Int) (e:Ending):Prop:=
 (zBA r c r' c' x y=false->e=.returned (.tuple #[.agg #[iQ r,iQ c,.bool f,.bool g,iQ r',iQ c',.bool f',.bool g',iQ x,iQ y],.bool false])) /\
 (zBA r c r' c' x y=true->e=.returned (.tuple #[.agg #[iQ x,iQ y,.bool false,.bool false,iQ (hi r r'+(x - lo r r')),iQ (hi c c'+(y - lo c c')),.bool false,.bool false,iQ (lo r r'),iQ (lo c c')],.bool true]))
theorem zVG (r c:Int) (f g:Bool) (r' c':Int) (f' g':Bool) (x y:Int) (w:World) :
  Calls Tryz.prog 21 #[.agg #[iQ r,iQ c,.bool f,.bool g,iQ r',iQ c',.bool f',.bool g',iQ x,iQ y]] w fun e w'=>zQW r c f g r' c' f' g' x y e/\Ext w w':=by
 have HMV:Hid (∀ W,Calls Tryz.prog 49 #[.agg #[iQ r,iQ c,.bool f,.bool g,iQ r',iQ c',.bool f',.bool g',iQ x,iQ y]] W fun e w'=>MvP r c r' c' x y e/\Ext W w'):=fun W=>zNE r c f g r' c' f' g' x y W;obtain ⟨w1,h1,X1,V1,s1⟩:=zAD w [iQ r,iQ c,.bool f,.bool g,iQ r',iQ c',.bool f',.bool g',iQ x,iQ y] 45;have H1:Hid _:=h1;have X2:=x1 w1 (.cells Z10.toArray 45);have V2:=zA5 w1 Z10 45;obtain ⟨w2,h2⟩:=nm (w1.alloc (.cells Z10.toArray 45));have H2:Hid _:=h2;rw [h2] at X2 V2;have V1:=V1.l X2;have X12:=xt X1 X2;obtain ⟨g2,hg2⟩:=nm (w1.heap.size);have HG2:Hid (w.heap.size+1=g2):=by show _=_;omega
 rw [hg2] at V2;have hgg:w.heap.size<g2:=by omega
 have hg22:g2<w2.heap.size:=World.block_lt_of_cell? _ _ (V2 0 _ rfl).1;have RG1:w2.rangeAt w.heap.size 0 [iQ r,iQ c,.bool f,.bool g,iQ r',iQ c',.bool f',.bool g',iQ x,iQ y]:=fun j u hu=>by rw [Nat.zero_add];exact (V1 j u hu).1
 clear h1 h2 hg2 s1 X1 X2;go_enter Tryz.func21,Tryz.ntmps21;go_upto_region 1 with fail;rw [H1.out,H2.out]
 (try rw [HG2.out])
 go_wp2_with (refine wpList_load_mid rfl 45 (.tmp 1) rfl w.heap.size 0 rfl _ _ RG1 Tryz.underlying45 rfl zDS ?_);refine (HMV.out w2).mono ?_;rintro e w3 ⟨⟨a1,a2,a3,a4,hLO,rfl⟩,e3⟩;have V1:=V1.l e3;have V2:=V2.l e3;have X13:=xt X12 e3;have g23:g2<w3.heap.size:=Nat.lt_of_lt_of_le hg22 e3.size;clear RG1 HMV H1 H2 e3 X12 hg22;obtain ⟨D,hD⟩:=nm (zBA r c r' c' x y);have HD:Hid _:=hD;rw [hD] at hLO ⊢;obtain ⟨w4,h4,XA,VA,-⟩:=zAD w3 [iQ a1,iQ a2,.bool false,.bool false,iQ a3,iQ a4,.bool false,.bool false] 43;have H4:Hid _:=h4;have V1:=V1.l XA;have V2:=V2.l XA;have X4:=xt X13 XA;obtain ⟨g4,hg4⟩:=nm (w3.heap.size);have HG4:Hid _:=hg4;rw [hg4] at VA g23;clear h4 hg4 XA X13 hD;cases D
 ·clear hLO;have VT:w4.there g2 0 10:=zAE V2 (by simp);have V9:Vec (w4.setCells g2 0 [iQ r,iQ c,.bool f,.bool g,iQ r',iQ c',.bool f',.bool g',iQ x,iQ y]) g2 [iQ r,iQ c,.bool f,.bool g,iQ r',iQ c',.bool f',.bool g',iQ x,iQ y]:=zA9 [iQ r,iQ c,.bool f,.bool g,iQ r',iQ c',.bool f',.bool g',iQ x,iQ y] 0 w4 _ V2 (by simp);have X9:=Ext.setCells (b:=g2) (by omega) [iQ r,iQ c,.bool f,.bool g,iQ r',iQ c',.bool f',.bool g',iQ x,iQ y] 0 w4 X4;obtain ⟨w9,h9⟩:=nm (w4.setCells g2 0 [iQ r,iQ c,.bool f,.bool g,iQ r',iQ c',.bool f',.bool g',iQ x,iQ y]);have H9:Hid _:=h9;rw [h9] at V9 X9;have RG:w4.rangeAt w.heap.size 0 [iQ r,iQ c,.bool f,.bool g,iQ r',iQ c',.bool f',.bool g',iQ x,iQ y]:=fun j u hu=>by rw [Nat.zero_add];exact (V1 j u hu).1
  have PO:Hid (zQW r c f g r' c' f' g' x y (.returned (.tuple #[.agg #[iQ r,iQ c,.bool f,.bool g,iQ r',iQ c',.bool f',.bool g',iQ x,iQ y],.bool false]))/\Ext w w9):=⟨⟨fun _=>rfl,fun h=>by rw [HD.out] at h;cases h⟩,X9⟩;have q0:=vC10 V9;clear h9 V9 X9 V1 V2 VA X4;go_upto_region 3 with fail;rw [H4.out]
  (try rw [HG4.out])
  go_wp2_with (first | (refine wpList_load_mid rfl 45 (.tmp 1) rfl w.heap.size 0 rfl _ _ RG Tryz.underlying45 rfl zDS ?_) | (refine zAQ rfl _ _ _ rfl g2 0 _ rfl rfl VT zDS (by simp [Value.oneCell']) H9.out ?_));exact bodyPost_ret (v:=.tuple #[.agg #[iQ r,iQ c,.bool f,.bool g,iQ r',iQ c',.bool f',.bool g',iQ x,iQ y],.bool false]) (by simp [results,Tryz.results21,go_sem,q0]) rfl PO.out
 ·obtain ⟨A1,A2,A3,A4⟩:=hLO rfl;have bd:=zE9 HD.out;have L1:=zED r r';have L2:=zED c c';have L3:=zEZ r r';have L4:=zEZ c c';simp only [if_true];rw [<- A1,<- A2];obtain ⟨e3,he3⟩:=nm (a3+(x - a1));obtain ⟨e4,he4⟩:=nm (a4+(y - a2));have j1:IntKind.i64.wrap (a1+(x - a1))=x:=by rw [IntKind.wrap_i64];omega
  have j2:IntKind.i64.wrap (a2+(y - a2))=y:=by rw [IntKind.wrap_i64];omega
  have j3:IntKind.i64.wrap (a3+(x - a1))=e3:=by rw [IntKind.wrap_i64];omega
  have j4:IntKind.i64.wrap (a4+(y - a2))=e4:=by rw [IntKind.wrap_i64];omega
  have HB:Hid (∀ w',Ext w w'->zQW r c f g r' c' f' g' x y (.returned (.tuple #[.agg #[iQ x,iQ y,.bool false,.bool false,iQ e3,iQ e4,.bool false,.bool false,iQ a1,iQ a2],.bool true]))/\Ext w w'):=fun w' X=>⟨⟨(fun h=>by rw [HD.out] at h;cases h),fun _=>by rw [<- he3,<- he4,A1,A2,A3,A4]⟩,X⟩;clear bd L1 L2 L3 L4 he3 he4 V1 HD hLO A1 A2 A3 A4;go_upto_region 4 with fail;rw [H4.out]
  (try rw [HG4.out])
  refine zA3 (fun lx:Nat->Value=>{ tmps:=#[.agg #[.int .i64 r,.int .i64 c,.bool f,.bool g,.int .i64 r',.int .i64 c',.bool f',.bool g',.int .i64 x,.int .i64 y],.pointer (some ⟨w.heap.size,0,none⟩),.pointer (some ⟨g2,0,none⟩),lx 3,.pointer (some ⟨g4,0,none⟩),.int .i64 (x - a1),.int .i64 (y - a2),.bool true,.tuple #[arV a1 a2 false false a3 a4 false false,.int .i64 (x - a1),.int .i64 (y - a2),.bool true],.agg #[.int .i64 r,.int .i64 c,.bool f,.bool g,.int .i64 r',.int .i64 c',.bool f',.bool g',.int .i64 x,.int .i64 y],.tuple #[arV a1 a2 false false a3 a4 false false,.int .i64 (x - a1),.int .i64 (y - a2),.bool true],arV a1 a2 false false a3 a4 false false,.int .i64 (x - a1),.int .i64 (y - a2),.bool true,.bool true,.bool false,undef,lx 18,lx 19,lx 20,lx 21,lx 22,lx 23,lx 24,lx 25,lx 26,lx 27,lx 28,lx 29,lx 30,lx 31,lx 32,lx 33,lx 34,lx 35,lx 36,lx 37,lx 38,lx 39,lx 40,lx 41,lx 42,lx 43,lx 44,lx 45],defers:=[] }) (fun L lx lw=>Hid (Ext w lw/\Vec lw g4 [iQ a1,iQ a2,.bool false,.bool false,iQ a3,iQ a4,.bool false,.bool false]/\(L 28=false->Vec lw g2 Z10)/\(L 0=true->lx 18=.pointer (some ⟨g4,0,none⟩))/\(L 1=true->lx 19=.pointer (some ⟨g4,0,none⟩))/\(L 2=true->lx 20=iQ a1)/\(L 3=true->lx 21=iQ (x - a1))/\(L 4=true->lx 22=iQ x)/\(L 5=true->lx 23=.pointer (some ⟨g4,0,none⟩))/\(L 6=true->lx 24=.pointer (some ⟨g4,1,none⟩))/\(L 7=true->lx 25=iQ a2)/\(L 8=true->lx 26=iQ (y - a2))/\(L 9=true->lx 27=iQ y)/\(L 10=true->lx 28=.pointer (some ⟨g4,4,none⟩))/\(L 11=true->lx 29=.pointer (some ⟨g4,4,none⟩))/\(L 12=true->lx 30=iQ a3)/\(L 13=true->lx 31=iQ (x - a1))/\(L 14=true->lx 32=iQ e3)/\(L 15=true->lx 33=.pointer (some ⟨g4,4,none⟩))/\(L 16=true->lx 34=.pointer (some ⟨g4,5,none⟩))/\(L 17=true->lx 35=iQ a4)/\(L 18=true->lx 36=iQ (y - a2))/\(L 19=true->lx 37=iQ e4)/\(L 20=true->lx 38=.agg #[iQ x,iQ y,.bool false,.bool false,iQ e3,iQ e4,.bool false,.bool false])/\(L 21=true->lx 39=.pointer (some ⟨g4,0,none⟩))/\(L 22=true->lx 40=.pointer (some ⟨g4,0,none⟩))/\(L 23=true->lx 41=iQ a1)/\(L 24=true->lx 42=.pointer (some ⟨g4,0,none⟩))/\(L 25=true->lx 43=.pointer (some ⟨g4,1,none⟩))/\(L 26=true->lx 44=iQ a2)/\(L 27=true->lx 45=.agg #[iQ x,iQ y,.bool false,.bool false,iQ e3,iQ e4,.bool false,.bool false,iQ a1,iQ a2])/\(L 28=true->Vec lw g2 [iQ x,iQ y,.bool false,.bool false,iQ e3,iQ e4,.bool false,.bool false,iQ a1,iQ a2])/\(L 29=true->lx 3=.bool true))) rfl (by kernel_rfl) (fun jj=>if jj=3 then .bool false else undef) rfl ?_ ?_ ?_
  ·exact ⟨xd X4,VA.l (xd (xr _)),(fun _=>V2.l (xd (xr _))),(fun h=>by cases h),(fun h=>by cases h),(fun h=>by cases h),(fun h=>by cases h),(fun h=>by cases h),(fun h=>by cases h),(fun h=>by cases h),(fun h=>by cases h),(fun h=>by cases h),(fun h=>by cases h),(fun h=>by cases h),(fun h=>by cases h),(fun h=>by cases h),(fun h=>by cases h),(fun h=>by cases h),(fun h=>by cases h),(fun h=>by cases h),(fun h=>by cases h),(fun h=>by cases h),(fun h=>by cases h),(fun h=>by cases h),(fun h=>by cases h),(fun h=>by cases h),(fun h=>by cases h),(fun h=>by cases h),(fun h=>by cases h),(fun h=>by cases h),(fun h=>by cases h),(fun h=>by cases h),(fun h=>by cases h)⟩
  ·intro L lx wl ix o K hK ho hL haf hI hcl;obtain ⟨X,VA,VZ,f0,f1,f2,f3,f4,f5,f6,f7,f8,f9,f10,f11,f12,f13,f14,f15,f16,f17,f18,f19,f20,f21,f22,f23,f24,f25,f26,f27,f28,f29⟩:=hI.out
   match ix,ho,hL,haf,hK with
   | 0,ho,hL,haf,hK =>
    cases ho
    (try dsimp only)
    refine Eq.mpr (if_pos (by rfl)) ?_;go_wp2_with fail;exact hK (fun jj=>if jj=18 then .pointer (some ⟨g4,0,none⟩) else lx jj) _ ⟨X,VA,VZ,(fun _=>rfl),f1,f2,f3,f4,f5,f6,f7,f8,f9,f10,f11,f12,f13,f14,f15,f16,f17,f18,f19,f20,f21,f22,f23,f24,f25,f26,f27,f28,f29⟩
   | 1,ho,hL,haf,hK =>
    cases ho
    (try dsimp only)
    rw [f0 (haf ⟨0,.data⟩ (by simp) rfl)];refine Eq.mpr (if_pos (by rfl)) ?_;go_wp2_with fail;exact hK (fun jj=>if jj=19 then .pointer (some ⟨g4,0,none⟩) else if jj=18 then .pointer (some ⟨g4,0,none⟩) else lx jj) _ ⟨X,VA,VZ,(fun _=>rfl),(fun _=>rfl),f2,f3,f4,f5,f6,f7,f8,f9,f10,f11,f12,f13,f14,f15,f16,f17,f18,f19,f20,f21,f22,f23,f24,f25,f26,f27,f28,f29⟩
   | 2,ho,hL,haf,hK =>
    cases ho
    (try dsimp only)
    rw [f1 (haf ⟨1,.data⟩ (by simp) rfl)];have cc:=(VA 0 _ rfl).1;refine Eq.mpr (if_pos (by rfl)) ?_;go_wp2_with fail;exact hK (fun jj=>if jj=20 then iQ a1 else if jj=19 then .pointer (some ⟨g4,0,none⟩) else lx jj) _ ⟨X,VA,VZ,f0,(fun _=>rfl),(fun _=>rfl),f3,f4,f5,f6,f7,f8,f9,f10,f11,f12,f13,f14,f15,f16,f17,f18,f19,f20,f21,f22,f23,f24,f25,f26,f27,f28,f29⟩
   | 3,ho,hL,haf,hK =>
    cases ho
    (try dsimp only)
    refine Eq.mpr (if_pos (by rfl)) ?_;go_wp2_with fail;exact hK (fun jj=>if jj=21 then iQ (x - a1) else lx jj) _ ⟨X,VA,VZ,f0,f1,f2,(fun _=>rfl),f4,f5,f6,f7,f8,f9,f10,f11,f12,f13,f14,f15,f16,f17,f18,f19,f20,f21,f22,f23,f24,f25,f26,f27,f28,f29⟩
   | 4,ho,hL,haf,hK =>
    cases ho
    (try dsimp only)
    rw [f2 (haf ⟨2,.data⟩ (by simp) rfl),f3 (haf ⟨3,.data⟩ (by simp) rfl)];refine Eq.mpr (if_pos (by rfl)) ?_;go_wp2_with fail;exact hK (fun jj=>if jj=22 then iQ x else if jj=20 then iQ a1 else if jj=21 then iQ (x - a1) else lx jj) _ ⟨X,VA,VZ,f0,f1,(fun _=>rfl),(fun _=>rfl),(fun _=>rfl),f5,f6,f7,f8,f9,f10,f11,f12,f13,f14,f15,f16,f17,f18,f19,f20,f21,f22,f23,f24,f25,f26,f27,f28,f29⟩
   | 5,ho,hL,haf,hK =>
    cases ho
    (try dsimp only)
    refine Eq.mpr (if_pos (by rfl)) ?_;go_wp2_with fail;exact hK (fun jj=>if jj=23 then .pointer (some ⟨g4,0,none⟩) else lx jj) _ ⟨X,VA,VZ,f0,f1,f2,f3,f4,(fun _=>rfl),f6,f7,f8,f9,f10,f11,f12,f13,f14,f15,f16,f17,f18,f19,f20,f21,f22,f23,f24,f25,f26,f27,f28,f29⟩
   | 6,ho,hL,haf,hK =>
    cases ho
    (try dsimp only)
    rw [f5 (haf ⟨5,.data⟩ (by simp) rfl)];refine Eq.mpr (if_pos (by rfl)) ?_;go_wp2_with fail;exact hK (fun jj=>if jj=24 then .pointer (some ⟨g4,1,none⟩) else if jj=23 then .pointer (some ⟨g4,0,none⟩) else lx jj) _ ⟨X,VA,VZ,f0,f1,f2,f3,f4,(fun _=>rfl),(fun _=>rfl),f7,f8,f9,f10,f11,f12,f13,f14,f15,f16,f17,f18,f19,f20,f21,f22,f23,f24,f25,f26,f27,f28,f29⟩
   | 7,ho,hL,haf,hK =>
    cases ho
    (try dsimp only)
    rw [f6 (haf ⟨6,.data⟩ (by simp) rfl)];have cc:=(VA 1 _ rfl).1;refine Eq.mpr (if_pos (by rfl)) ?_;go_wp2_with fail;exact hK (fun jj=>if jj=25 then iQ a2 else if jj=24 then .pointer (some ⟨g4,1,none⟩) else lx jj) _ ⟨X,VA,VZ,f0,f1,f2,f3,f4,f5,(fun _=>rfl),(fun _=>rfl),f8,f9,f10,f11,f12,f13,f14,f15,f16,f17,f18,f19,f20,f21,f22,f23,f24,f25,f26,f27,f28,f29⟩
   | 8,ho,hL,haf,hK =>
    cases ho
    (try dsimp only)
    refine Eq.mpr (if_pos (by rfl)) ?_;go_wp2_with fail;exact hK (fun jj=>if jj=26 then iQ (y - a2) else lx jj) _ ⟨X,VA,VZ,f0,f1,f2,f3,f4,f5,f6,f7,(fun _=>rfl),f9,f10,f11,f12,f13,f14,f15,f16,f17,f18,f19,f20,f21,f22,f23,f24,f25,f26,f27,f28,f29⟩
   | 9,ho,hL,haf,hK =>
    cases ho
    (try dsimp only)
    rw [f7 (haf ⟨7,.data⟩ (by simp) rfl),f8 (haf ⟨8,.data⟩ (by simp) rfl)];refine Eq.mpr (if_pos (by rfl)) ?_;go_wp2_with fail;exact hK (fun jj=>if jj=27 then iQ y else if jj=25 then iQ a2 else if jj=26 then iQ (y - a2) else lx jj) _ ⟨X,VA,VZ,f0,f1,f2,f3,f4,f5,f6,(fun _=>rfl),(fun _=>rfl),(fun _=>rfl),f10,f11,f12,f13,f14,f15,f16,f17,f18,f19,f20,f21,f22,f23,f24,f25,f26,f27,f28,f29⟩
   | 10,ho,hL,haf,hK =>
    cases ho
    (try dsimp only)
    refine Eq.mpr (if_pos (by rfl)) ?_;go_wp2_with fail;exact hK (fun jj=>if jj=28 then .pointer (some ⟨g4,4,none⟩) else lx jj) _ ⟨X,VA,VZ,f0,f1,f2,f3,f4,f5,f6,f7,f8,f9,(fun _=>rfl),f11,f12,f13,f14,f15,f16,f17,f18,f19,f20,f21,f22,f23,f24,f25,f26,f27,f28,f29⟩
   | 11,ho,hL,haf,hK =>
    cases ho
    (try dsimp only)
    rw [f10 (haf ⟨10,.data⟩ (by simp) rfl)];refine Eq.mpr (if_pos (by rfl)) ?_;go_wp2_with fail;exact hK (fun jj=>if jj=29 then .pointer (some ⟨g4,4,none⟩) else if jj=28 then .pointer (some ⟨g4,4,none⟩) else lx jj) _ ⟨X,VA,VZ,f0,f1,f2,f3,f4,f5,f6,f7,f8,f9,(fun _=>rfl),(fun _=>rfl),f12,f13,f14,f15,f16,f17,f18,f19,f20,f21,f22,f23,f24,f25,f26,f27,f28,f29⟩
   | 12,ho,hL,haf,hK =>
    cases ho
    (try dsimp only)
    rw [f11 (haf ⟨11,.data⟩ (by simp) rfl)];have cc:=(VA 4 _ rfl).1;refine Eq.mpr (if_pos (by rfl)) ?_;go_wp2_with fail;exact hK (fun jj=>if jj=30 then iQ a3 else if jj=29 then .pointer (some ⟨g4,4,none⟩) else lx jj) _ ⟨X,VA,VZ,f0,f1,f2,f3,f4,f5,f6,f7,f8,f9,f10,(fun _=>rfl),(fun _=>rfl),f13,f14,f15,f16,f17,f18,f19,f20,f21,f22,f23,f24,f25,f26,f27,f28,f29⟩
   | 13,ho,hL,haf,hK =>
    cases ho
    (try dsimp only)
    refine Eq.mpr (if_pos (by rfl)) ?_;go_wp2_with fail;exact hK (fun jj=>if jj=31 then iQ (x - a1) else lx jj) _ ⟨X,VA,VZ,f0,f1,f2,f3,f4,f5,f6,f7,f8,f9,f10,f11,f12,(fun _=>rfl),f14,f15,f16,f17,f18,f19,f20,f21,f22,f23,f24,f25,f26,f27,f28,f29⟩
   | 14,ho,hL,haf,hK =>
    cases ho
    (try dsimp only)
    rw [f12 (haf ⟨12,.data⟩ (by simp) rfl),f13 (haf ⟨13,.data⟩ (by simp) rfl)];refine Eq.mpr (if_pos (by rfl)) ?_;go_wp2_with fail;exact hK (fun jj=>if jj=32 then iQ e3 else if jj=30 then iQ a3 else if jj=31 then iQ (x - a1) else lx jj) _ ⟨X,VA,VZ,f0,f1,f2,f3,f4,f5,f6,f7,f8,f9,f10,f11,(fun _=>rfl),(fun _=>rfl),(fun _=>rfl),f15,f16,f17,f18,f19,f20,f21,f22,f23,f24,f25,f26,f27,f28,f29⟩
   | 15,ho,hL,haf,hK =>
    cases ho
    (try dsimp only)
    refine Eq.mpr (if_pos (by rfl)) ?_;go_wp2_with fail;exact hK (fun jj=>if jj=33 then .pointer (some ⟨g4,4,none⟩) else lx jj) _ ⟨X,VA,VZ,f0,f1,f2,f3,f4,f5,f6,f7,f8,f9,f10,f11,f12,f13,f14,(fun _=>rfl),f16,f17,f18,f19,f20,f21,f22,f23,f24,f25,f26,f27,f28,f29⟩
   | 16,ho,hL,haf,hK =>
    cases ho
    (try dsimp only)
    rw [f15 (haf ⟨15,.data⟩ (by simp) rfl)];refine Eq.mpr (if_pos (by rfl)) ?_;go_wp2_with fail;exact hK (fun jj=>if jj=34 then .pointer (some ⟨g4,5,none⟩) else if jj=33 then .pointer (some ⟨g4,4,none⟩) else lx jj) _ ⟨X,VA,VZ,f0,f1,f2,f3,f4,f5,f6,f7,f8,f9,f10,f11,f12,f13,f14,(fun _=>rfl),(fun _=>rfl),f17,f18,f19,f20,f21,f22,f23,f24,f25,f26,f27,f28,f29⟩
   | 17,ho,hL,haf,hK =>
    cases ho
    (try dsimp only)
    rw [f16 (haf ⟨16,.data⟩ (by simp) rfl)];have cc:=(VA 5 _ rfl).1;refine Eq.mpr (if_pos (by rfl)) ?_;go_wp2_with fail;exact hK (fun jj=>if jj=35 then iQ a4 else if jj=34 then .pointer (some ⟨g4,5,none⟩) else lx jj) _ ⟨X,VA,VZ,f0,f1,f2,f3,f4,f5,f6,f7,f8,f9,f10,f11,f12,f13,f14,f15,(fun _=>rfl),(fun _=>rfl),f18,f19,f20,f21,f22,f23,f24,f25,f26,f27,f28,f29⟩
   | 18,ho,hL,haf,hK =>
    cases ho
    (try dsimp only)
    refine Eq.mpr (if_pos (by rfl)) ?_;go_wp2_with fail;exact hK (fun jj=>if jj=36 then iQ (y - a2) else lx jj) _ ⟨X,VA,VZ,f0,f1,f2,f3,f4,f5,f6,f7,f8,f9,f10,f11,f12,f13,f14,f15,f16,f17,(fun _=>rfl),f19,f20,f21,f22,f23,f24,f25,f26,f27,f28,f29⟩
   | 19,ho,hL,haf,hK =>
    cases ho
    (try dsimp only)
    rw [f17 (haf ⟨17,.data⟩ (by simp) rfl),f18 (haf ⟨18,.data⟩ (by simp) rfl)];refine Eq.mpr (if_pos (by rfl)) ?_;go_wp2_with fail;exact hK (fun jj=>if jj=37 then iQ e4 else if jj=35 then iQ a4 else if jj=36 then iQ (y - a2) else lx jj) _ ⟨X,VA,VZ,f0,f1,f2,f3,f4,f5,f6,f7,f8,f9,f10,f11,f12,f13,f14,f15,f16,(fun _=>rfl),(fun _=>rfl),(fun _=>rfl),f20,f21,f22,f23,f24,f25,f26,f27,f28,f29⟩
   | 20,ho,hL,haf,hK =>
    cases ho
    (try dsimp only)
    rw [f4 (haf ⟨4,.data⟩ (by simp) rfl),f9 (haf ⟨9,.data⟩ (by simp) rfl),f14 (haf ⟨14,.data⟩ (by simp) rfl),f19 (haf ⟨19,.data⟩ (by simp) rfl)];refine Eq.mpr (if_pos (by rfl)) ?_;go_wp2_with fail;refine (zVI x y e3 e4 wl).mono ?_;rintro rr w' ⟨rfl,e'⟩;go_wp2_with fail;exact hK (fun jj=>if jj=38 then .agg #[iQ x,iQ y,.bool false,.bool false,iQ e3,iQ e4,.bool false,.bool false] else if jj=22 then iQ x else if jj=27 then iQ y else if jj=32 then iQ e3 else if jj=37 then iQ e4 else lx jj) _ ⟨(xt X e'),(VA.l e'),(fun h=>(VZ h).l e'),f0,f1,f2,f3,(fun _=>rfl),f5,f6,f7,f8,(fun _=>rfl),f10,f11,f12,f13,(fun _=>rfl),f15,f16,f17,f18,(fun _=>rfl),(fun _=>rfl),f21,f22,f23,f24,f25,f26,f27,(fun h=>(f28 h).l e'),f29⟩
   | 21,ho,hL,haf,hK =>
    cases ho
    (try dsimp only)
    refine Eq.mpr (if_pos (by rfl)) ?_;go_wp2_with fail;exact hK (fun jj=>if jj=39 then .pointer (some ⟨g4,0,none⟩) else lx jj) _ ⟨X,VA,VZ,f0,f1,f2,f3,f4,f5,f6,f7,f8,f9,f10,f11,f12,f13,f14,f15,f16,f17,f18,f19,f20,(fun _=>rfl),f22,f23,f24,f25,f26,f27,f28,f29⟩
   | 22,ho,hL,haf,hK =>
    cases ho
    (try dsimp only)
    rw [f21 (haf ⟨21,.data⟩ (by simp) rfl)];refine Eq.mpr (if_pos (by rfl)) ?_;go_wp2_with fail;exact hK (fun jj=>if jj=40 then .pointer (some ⟨g4,0,none⟩) else if jj=39 then .pointer (some ⟨g4,0,none⟩) else lx jj) _ ⟨X,VA,VZ,f0,f1,f2,f3,f4,f5,f6,f7,f8,f9,f10,f11,f12,f13,f14,f15,f16,f17,f18,f19,f20,(fun _=>rfl),(fun _=>rfl),f23,f24,f25,f26,f27,f28,f29⟩
   | 23,ho,hL,haf,hK =>
    cases ho
    (try dsimp only)
    rw [f22 (haf ⟨22,.data⟩ (by simp) rfl)];have cc:=(VA 0 _ rfl).1;refine Eq.mpr (if_pos (by rfl)) ?_;go_wp2_with fail;exact hK (fun jj=>if jj=41 then iQ a1 else if jj=40 then .pointer (some ⟨g4,0,none⟩) else lx jj) _ ⟨X,VA,VZ,f0,f1,f2,f3,f4,f5,f6,f7,f8,f9,f10,f11,f12,f13,f14,f15,f16,f17,f18,f19,f20,f21,(fun _=>rfl),(fun _=>rfl),f24,f25,f26,f27,f28,f29⟩
   | 24,ho,hL,haf,hK =>
    cases ho
    (try dsimp only)
    refine Eq.mpr (if_pos (by rfl)) ?_;go_wp2_with fail;exact hK (fun jj=>if jj=42 then .pointer (some ⟨g4,0,none⟩) else lx jj) _ ⟨X,VA,VZ,f0,f1,f2,f3,f4,f5,f6,f7,f8,f9,f10,f11,f12,f13,f14,f15,f16,f17,f18,f19,f20,f21,f22,f23,(fun _=>rfl),f25,f26,f27,f28,f29⟩
   | 25,ho,hL,haf,hK =>
    cases ho
    (try dsimp only)
    rw [f24 (haf ⟨24,.data⟩ (by simp) rfl)];refine Eq.mpr (if_pos (by rfl)) ?_;go_wp2_with fail;exact hK (fun jj=>if jj=43 then .pointer (some ⟨g4,1,none⟩) else if jj=42 then .pointer (some ⟨g4,0,none⟩) else lx jj) _ ⟨X,VA,VZ,f0,f1,f2,f3,f4,f5,f6,f7,f8,f9,f10,f11,f12,f13,f14,f15,f16,f17,f18,f19,f20,f21,f22,f23,(fun _=>rfl),(fun _=>rfl),f26,f27,f28,f29⟩
   | 26,ho,hL,haf,hK =>
    cases ho
    (try dsimp only)
    rw [f25 (haf ⟨25,.data⟩ (by simp) rfl)];have cc:=(VA 1 _ rfl).1;refine Eq.mpr (if_pos (by rfl)) ?_;go_wp2_with fail;exact hK (fun jj=>if jj=44 then iQ a2 else if jj=43 then .pointer (some ⟨g4,1,none⟩) else lx jj) _ ⟨X,VA,VZ,f0,f1,f2,f3,f4,f5,f6,f7,f8,f9,f10,f11,f12,f13,f14,f15,f16,f17,f18,f19,f20,f21,f22,f23,f24,(fun _=>rfl),(fun _=>rfl),f27,f28,f29⟩
   | 27,ho,hL,haf,hK =>
    cases ho
    (try dsimp only)
    rw [f20 (haf ⟨20,.data⟩ (by simp) rfl),f23 (haf ⟨23,.data⟩ (by simp) rfl),f26 (haf ⟨26,.data⟩ (by simp) rfl)];refine Eq.mpr (if_pos (by rfl)) ?_;go_wp2_with fail;exact hK (fun jj=>if jj=45 then .agg #[iQ x,iQ y,.bool false,.bool false,iQ e3,iQ e4,.bool false,.bool false,iQ a1,iQ a2] else if jj=38 then .agg #[iQ x,iQ y,.bool false,.bool false,iQ e3,iQ e4,.bool false,.bool false] else if jj=41 then iQ a1 else if jj=44 then iQ a2 else lx jj) _ ⟨X,VA,VZ,f0,f1,f2,f3,f4,f5,f6,f7,f8,f9,f10,f11,f12,f13,f14,f15,f16,f17,f18,f19,(fun _=>rfl),f21,f22,(fun _=>rfl),f24,f25,(fun _=>rfl),(fun _=>rfl),f28,f29⟩
   | 28,ho,hL,haf,hK =>
    cases ho
    (try dsimp only)
    rw [f27 (haf ⟨27,.data⟩ (by simp) rfl)];have VB:=VZ hL;have VT:wl.there g2 0 10:=zAE VB (by simp);have V9:Vec (wl.setCells g2 0 [iQ x,iQ y,.bool false,.bool false,iQ e3,iQ e4,.bool false,.bool false,iQ a1,iQ a2]) g2 [iQ x,iQ y,.bool false,.bool false,iQ e3,iQ e4,.bool false,.bool false,iQ a1,iQ a2]:=zA9 [iQ x,iQ y,.bool false,.bool false,iQ e3,iQ e4,.bool false,.bool false,iQ a1,iQ a2] 0 wl _ VB (by simp);have X9:=Ext.setCells (b:=g2) (by omega) [iQ x,iQ y,.bool false,.bool false,iQ e3,iQ e4,.bool false,.bool false,iQ a1,iQ a2] 0 wl X;have G9:=zA8 g2 [iQ x,iQ y,.bool false,.bool false,iQ e3,iQ e4,.bool false,.bool false,iQ a1,iQ a2] 0 wl;have VA9:=zAA VA G9 (by omega);obtain ⟨w',hw'⟩:=nm (wl.setCells g2 0 [iQ x,iQ y,.bool false,.bool false,iQ e3,iQ e4,.bool false,.bool false,iQ a1,iQ a2]);have HW':Hid _:=hw';rw [hw'] at V9 X9 VA9;refine Eq.mpr (if_pos (by rfl)) ?_;go_wp2_with (refine zAQ rfl _ _ _ rfl g2 0 _ rfl rfl VT zDS (by simp [Value.oneCell']) HW'.out ?_);exact hK (fun jj=>if jj=45 then .agg #[iQ x,iQ y,.bool false,.bool false,iQ e3,iQ e4,.bool false,.bool false,iQ a1,iQ a2] else lx jj) _ ⟨(X9),(VA9),(fun h=>by cases h),f0,f1,f2,f3,f4,f5,f6,f7,f8,f9,f10,f11,f12,f13,f14,f15,f16,f17,f18,f19,f20,f21,f22,f23,f24,f25,f26,(fun _=>rfl),(fun _=>V9),f29⟩
   | 29,ho,hL,haf,hK =>
    cases ho
    (try dsimp only)
    refine Eq.mpr (if_pos (by rfl)) ?_;go_wp2_with fail;exact hK (fun jj=>if jj=3 then .bool true else lx jj) _ ⟨X,VA,VZ,f0,f1,f2,f3,f4,f5,f6,f7,f8,f9,f10,f11,f12,f13,f14,f15,f16,f17,f18,f19,f20,f21,f22,f23,f24,f25,f26,f27,f28,(fun _=>rfl)⟩
   | k+30,ho,_,_,_=>simp at ho
  ·intro L lx w8 hall hI;obtain ⟨X,VA,VZ,f0,f1,f2,f3,f4,f5,f6,f7,f8,f9,f10,f11,f12,f13,f14,f15,f16,f17,f18,f19,f20,f21,f22,f23,f24,f25,f26,f27,f28,f29⟩:=hI.out;have V9:=f28 (hall 28 (by simp));have q0:=vC10 V9;have PO:=HB.out w8 X;have PH:Hid _:=PO;have e3b:=f29 (hall 29 (by simp));rw [e3b];clear PO V9 hI hall X VA VZ f0 f1 f2 f3 f4 f5 f6 f7 f8 f9 f10 f11 f12 f13 f14 f15 f16 f17 f18 f19 f20 f21 f22 f23 f24 f25 f26 f27 f28 f29
   (try dsimp only)
   go_wp2_with fail;exact bodyPost_ret (v:=.tuple #[.agg #[iQ x,iQ y,.bool false,.bool false,iQ e3,iQ e4,.bool false,.bool false,iQ a1,iQ a2],.bool true]) (by simp [results,Tryz.results21,go_sem,q0]) rfl PH.out
def MbQ (D:Bool) (R0 R1 C0 C1 G0 G1 H0 H1:Int) (w':World) (v:Value):Prop:=∃ b5 b3 b4,v=.func (.func 73) #[] #[.pointer (some ⟨b5,0,none⟩),.pointer (some ⟨b3,0,none⟩),.pointer (some ⟨b4,0,none⟩)] /\
 Vec w' b5 [.bool D]/\Vec w' b3 [iQ R0,iQ R1,iQ C0,iQ C1]/\Vec w' b4 [iQ G0,iQ G1,iQ H0,iQ H1]
theorem zJM (r c:Int) (f g:Bool) (r' c':Int) (f' g':Bool) (x y:Int) (R0 R1 C0 C1 G0 G1 H0 H1:Int) (D:Bool)
  (PA:∀ w,Calls Tryz.prog 72 #[moV r c f g r' c' f' g' x y] w fun e w'=>e=.returned (.tuple #[blV R0 R1 C0 C1,blV G0 G1 H0 H1,.bool D])/\Ext w w') (w:World) :
  Calls Tryz.prog 48 #[moV r c f g r' c' f' g' x y] w fun e w'=>(∃ v,e=.returned v/\MbQ D R0 R1 C0 C1 G0 G1 H0 H1 w' v)/\Ext w w':=by
 have HPA:Hid _:=PA;obtain ⟨wa,ha,XA,VA,-⟩:=zAD w [iQ r,iQ c,.bool f,.bool g,iQ r',iQ c',.bool f',.bool g',iQ x,iQ y] 45;have HWA:Hid _:=ha;have RG:wa.rangeAt w.heap.size 0 [iQ r,iQ c,.bool f,.bool g,iQ r',iQ c',.bool f',.bool g',iQ x,iQ y]:=fun j u hu=>by rw [Nat.zero_add];exact (VA j u hu).1
 clear PA ha VA;go_enter Tryz.func48,Tryz.ntmps48;go_upto_region 1 with fail;rw [HWA.out];go_wp2_with (refine wpList_load_mid rfl 45 (.tmp 1) rfl w.heap.size 0 rfl _ _ RG Tryz.underlying45 rfl zLU ?_);refine (HPA.out wa).mono ?_;rintro e w5 ⟨rfl,e5⟩;clear HPA RG HWA;have X6:Ext w (((w5.alloc (.cells #[iQ 0,iQ 0,iQ 0,iQ 0] 111)).alloc (.cells #[iQ 0,iQ 0,iQ 0,iQ 0] 111)).alloc (.cells #[.bool false] 4)):=xa (xa (xa (xt XA e5) _) _) _;have V3:Vec (((w5.alloc (.cells #[iQ 0,iQ 0,iQ 0,iQ 0] 111)).alloc (.cells #[iQ 0,iQ 0,iQ 0,iQ 0] 111)).alloc (.cells #[.bool false] 4)) w5.heap.size [iQ 0,iQ 0,iQ 0,iQ 0]:=((zA5 w5 [iQ 0,iQ 0,iQ 0,iQ 0] 111).l (x1 _ _)).l (x1 _ _);have V4:Vec (((w5.alloc (.cells #[iQ 0,iQ 0,iQ 0,iQ 0] 111)).alloc (.cells #[iQ 0,iQ 0,iQ 0,iQ 0] 111)).alloc (.cells #[.bool false] 4)) (w5.heap.size+1) [iQ 0,iQ 0,iQ 0,iQ 0]:=by
  have:=(zA5 (w5.alloc (.cells #[iQ 0,iQ 0,iQ 0,iQ 0] 111)) [iQ 0,iQ 0,iQ 0,iQ 0] 111).l (x1 _ (.cells #[.bool false] 4));rw [World.size_alloc] at this;exact this
 have V5:Vec (((w5.alloc (.cells #[iQ 0,iQ 0,iQ 0,iQ 0] 111)).alloc (.cells #[iQ 0,iQ 0,iQ 0,iQ 0] 111)).alloc (.cells #[.bool false] 4)) (w5.heap.size+1+1) [.bool false]:=by
  have:=zA5 ((w5.alloc (.cells #[iQ 0,iQ 0,iQ 0,iQ 0] 111)).alloc (.cells #[iQ 0,iQ 0,iQ 0,iQ 0] 111)) [.bool false] 4;rw [World.size_alloc,World.size_alloc] at this;exact this
 have hA:w.heap.size<=w5.heap.size:=(xt XA e5).size;obtain ⟨w6,h6⟩:=nm (((w5.alloc (.cells #[iQ 0,iQ 0,iQ 0,iQ 0] 111)).alloc (.cells #[iQ 0,iQ 0,iQ 0,iQ 0] 111)).alloc (.cells #[.bool false] 4));have HW6:Hid _:=h6;rw [h6] at X6 V3 V4 V5;have T3:w6.there w5.heap.size 0 4:=zAE V3 (by simp);have one3:(#[iQ R0,iQ R1,iQ C0,iQ C1]:Array Value).all (·.oneCell')=true:=by simp [Value.oneCell']
 have V3b:Vec (w6.setCells w5.heap.size 0 [iQ R0,iQ R1,iQ C0,iQ C1]) w5.heap.size [iQ R0,iQ R1,iQ C0,iQ C1]:=zA9 [iQ R0,iQ R1,iQ C0,iQ C1] 0 w6 [iQ 0,iQ 0,iQ 0,iQ 0] V3 (by simp);have G3:=zA8 w5.heap.size [iQ R0,iQ R1,iQ C0,iQ C1] 0 w6;have X7:=Ext.setCells (b:=w5.heap.size) hA [iQ R0,iQ R1,iQ C0,iQ C1] 0 w6 X6;have V4b:=zAA V4 G3 (by omega);have V5b:=zAA V5 G3 (by omega);obtain ⟨w7,h7⟩:=nm (w6.setCells w5.heap.size 0 [iQ R0,iQ R1,iQ C0,iQ C1]);have HW7:Hid _:=h7;rw [h7] at V3b X7 V4b V5b;have T4:w7.there (w5.heap.size+1) 0 4:=zAE V4b (by simp);have one4:(#[iQ G0,iQ G1,iQ H0,iQ H1]:Array Value).all (·.oneCell')=true:=by simp [Value.oneCell']
 have V4c:Vec (w7.setCells (w5.heap.size+1) 0 [iQ G0,iQ G1,iQ H0,iQ H1]) (w5.heap.size+1) [iQ G0,iQ G1,iQ H0,iQ H1]:=zA9 [iQ G0,iQ G1,iQ H0,iQ H1] 0 w7 [iQ 0,iQ 0,iQ 0,iQ 0] V4b (by simp);have G4:=zA8 (w5.heap.size+1) [iQ G0,iQ G1,iQ H0,iQ H1] 0 w7;have X8:=Ext.setCells (b:=(w5.heap.size+1)) (by omega) [iQ G0,iQ G1,iQ H0,iQ H1] 0 w7 X7;have V3c:=zAA V3b G4 (by omega);have V5c:=zAA V5b G4 (by omega);obtain ⟨w8,h8⟩:=nm (w7.setCells (w5.heap.size+1) 0 [iQ G0,iQ G1,iQ H0,iQ H1]);have HW8:Hid _:=h8;rw [h8] at V4c X8 V3c V5c;obtain ⟨c5,f5⟩:=V5c 0 _ rfl;have V5d:=V5c.put 0 (by simp) (.bool D);have V3d:=V3c.far (p:=⟨(w5.heap.size+1+1),0,none⟩) (by show (w5.heap.size+1+1) ≠ w5.heap.size;omega) (.bool D);have V4d:=V4c.far (p:=⟨(w5.heap.size+1+1),0,none⟩) (by show (w5.heap.size+1+1) ≠ (w5.heap.size+1);omega) (.bool D);have X9:=xset (p:=⟨(w5.heap.size+1+1),0,none⟩) X8 (by show w.heap.size<=(w5.heap.size+1+1);omega) (.bool D);have HQ:Hid ((∃ v,Ending.returned (.func (.func 73) #[] #[.pointer (some ⟨(w5.heap.size+1+1),0,none⟩),.pointer (some ⟨w5.heap.size,0,none⟩),.pointer (some ⟨(w5.heap.size+1),0,none⟩)])=.returned v/\MbQ D R0 R1 C0 C1 G0 G1 H0 H1 (w8.setCell ⟨(w5.heap.size+1+1),0,none⟩ (.bool D)) v)/\Ext w (w8.setCell ⟨(w5.heap.size+1+1),0,none⟩ (.bool D))):=⟨⟨_,rfl,_,_,_,rfl,V5d,V3d,V4d⟩,X9⟩;clear V3 V4 V5 V3b V4b V5b V3c V4c V5c V5d V3d V4d X6 X7 X8 X9 G3 G4 h6 h7 h8 e5 XA hA;go_wp2_with (first | (rw [HW6.out];refine wpList_store_mid rfl _ _ _ rfl w5.heap.size 0 #[iQ R0,iQ R1,iQ C0,iQ C1] rfl rfl T3 hi4B one3 ?_;show wpList _ _ _ _ _ (w6.setCells w5.heap.size 0 [iQ R0,iQ R1,iQ C0,iQ C1]);rw [HW7.out]) | (refine wpList_store_mid rfl _ _ _ rfl (w5.heap.size+1) 0 #[iQ G0,iQ G1,iQ H0,iQ H1] rfl rfl T4 hi4B one4 ?_;show wpList _ _ _ _ _ (w7.setCells (w5.heap.size+1) 0 [iQ G0,iQ G1,iQ H0,iQ H1]);rw [HW8.out]));go_ret;exact HQ.out
theorem zKO (D:Bool) (R0 R1 C0 C1 G0 G1 H0 H1 dx dy s d:Int) (h k:Bool) (b7 b3 b4:Nat) (w:World) (B7:Vec w b7 [.bool D]) (B3:Vec w b3 [iQ R0,iQ R1,iQ C0,iQ C1]) (B4:Vec w b4 [iQ G0,iQ G1,iQ H0,iQ H1])
  (s' d':Int) (hs:D=true->insB R0 R1 C0 C1 s d=true->IntKind.i64.wrap (G0 - R0)=dx/\IntKind.i64.wrap (H0 - C0)=dy/\IntKind.i64.wrap (s+dx)=s'/\IntKind.i64.wrap (d+dy)=d') :
  Calls Tryz.prog 73 #[refV s d h k,.pointer (some ⟨b7,0,none⟩),.pointer (some ⟨b3,0,none⟩),.pointer (some ⟨b4,0,none⟩)] w
   fun e w'=>e=.returned (.tuple #[if D=true/\insB R0 R1 C0 C1 s d=true then refV s' d' h k else refV s d h k,.bool (D && insB R0 R1 C0 C1 s d)])/\Ext w w':=by
 obtain ⟨V,hV⟩:=nm ((if D=true/\insB R0 R1 C0 C1 s d=true then refV s' d' h k else refV s d h k));rw [hV];have HO:=fun w=>zM7 R0 R1 C0 C1 s d h k w;obtain ⟨q,hq⟩:=nm (insB R0 R1 C0 C1 s d);rw [hq] at HO hV hs;rw [hq];have HS:Hid _:=hs;have HV:Hid _:=hV;clear hV hs hq;have lt3:b3<w.heap.size:=zEF B3;have lt4:b4<w.heap.size:=zEF B4;have A5:=Vec.made4 w (iQ s) (iQ d) (.bool h) (.bool k) 26;have X:=x1 w (.cells #[iQ s,iQ d,.bool h,.bool k] 26);obtain ⟨wa,ha⟩:=nm (w.alloc (.cells #[iQ s,iQ d,.bool h,.bool k] 26));rw [ha] at A5 X;have sa:wa.heap.size=w.heap.size+1:=by rw [<- ha,World.size_alloc]
 have A6:=Vec.made4 wa (iQ 0) (iQ 0) (.bool false) (.bool false) 26;have x6:=x1 wa (.cells #[iQ 0,iQ 0,.bool false,.bool false] 26);rw [sa] at A6;go_enter Tryz.func73,Tryz.ntmps73;go_upto_region 1 with fail
 (try rw [ha])
 obtain ⟨w0,hw0⟩:=nm (wa.alloc (.cells #[iQ 0,iQ 0,.bool false,.bool false] 26));rw [hw0] at A6 x6 ⊢;replace A5:=A5.l x6;replace X:=xt X x6;replace B7:=B7.l X;replace B3:=B3.l X;replace B4:=B4.l X;clear ha hw0 sa x6;obtain ⟨a0,_⟩:=B7 0 _ rfl;cases D
 ·have ZZ:Hid (refV s d h k=V):=by unfold Hid;rw [<- HV.out];simp
  clear HV HS HO;obtain ⟨⟨p0,p1,p2,p3⟩,_⟩:=A5.box4;obtain ⟨⟨m0,m1,m2,m3⟩,m4,m5,m6,m7⟩:=A6.box4
  go_wp2
  exact bodyPost_ret (v:=.tuple #[refV s d h k,.bool false]) (by simp [results,Tryz.results73,go_sem,m0,m1,m2,m3]) rfl ⟨by rw [ZZ.out];rfl,Ext.set4 (o:=0) X (by omega) _ _ _ _⟩
 ·obtain ⟨⟨p0,p1,p2,p3⟩,_⟩:=A5.box4;obtain ⟨⟨c0,c1,c2,c3⟩,_⟩:=B3.box4;go_wp2_with fail;refine (HO _).mono ?_;rintro e w1 ⟨rfl,e1⟩;clear p0 p1 p2 p3 c0 c1 c2 c3 a0 HO B7;replace A5:=A5.l e1;replace A6:=A6.l e1;replace B3:=B3.l e1;replace B4:=B4.l e1;replace X:=xt X e1;clear e1;obtain ⟨⟨p0,p1,p2,p3⟩,p4,p5,p6,p7⟩:=A5.box4;obtain ⟨⟨m0,m1,m2,m3⟩,m4,m5,m6,m7⟩:=A6.box4;cases q
  ·have ZZ:Hid (refV s d h k=V):=by unfold Hid;rw [<- HV.out];simp
   clear HV HS
   go_wp2
   exact bodyPost_ret (v:=.tuple #[refV s d h k,.bool false]) (by simp [results,Tryz.results73,go_sem,m0,m1,m2,m3]) rfl ⟨by rw [ZZ.out];rfl,Ext.set4 (o:=0) X (by omega) _ _ _ _⟩
  ·have ZZ:Hid (refV s' d' h k=V):=by unfold Hid;rw [<- HV.out];simp
   obtain ⟨w1',w2',w3',w4'⟩:=HS.out (by first | rfl | trivial) (by first | rfl | trivial);clear HV HS;obtain ⟨⟨c0,c1,c2,c3⟩,_⟩:=B3.box4;obtain ⟨⟨g0,g1,g2,g3⟩,_⟩:=B4.box4;have n3:b3 ≠ w.heap.size:=by omega
   have n3':w.heap.size ≠ b3:=by omega
   have n4:b4 ≠ w.heap.size:=by omega
   have n4':w.heap.size ≠ b4:=by omega
   go_wp2
   exact bodyPost_ret (v:=.tuple #[refV s' d' h k,.bool true]) (by simp [results,Tryz.results73,go_sem,m0,m1,m2,m3]) rfl ⟨by rw [ZZ.out];rfl,Ext.set4 (o:=0) (xset (xset X (by simp only;omega) _) (by simp only;omega) _) (by omega) _ _ _ _⟩
end Go.Proofs.YteliaeejooekbaaGreatDoor
