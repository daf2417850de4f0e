/-
  Several texts in one: Dtt, DrJ, DrT, Dtu, Tv, Tj.
-/
import Derived.Test.YteliaeejooekbaaGreatDoorMg10
import Derived.Test.YteliaeejooekbaaGreatDoorMg13
import Derived.Test.YteliaeejooekbaaGreatDoorMg12
set_option maxRecDepth 8000
set_option maxHeartbeats 16000000
namespace Go.Proofs.YteliaeejooekbaaGreatDoor
open Go.RowKit
theorem zEO:(Tryz.prog.info? 24).map (·.size)=some 4:=by kernel_rfl
def zF0 (b base K:Nat) (w:World) (e:Ending) (w':World):Prop:=
 (∃ (k a m:Int) (d:Bool),e=.returned (tuV k a m d))/\Cur w' b base K/\Only b w w'
theorem zV1 (b base K:Nat) (w:World) (h:Cur w b base K) (hK:K<=90000) :
  Calls Tryz.prog 25 #[.pointer (some ⟨b,0,none⟩)] w fun e w'=>zF0 b base (K+20) w e w':=by
 have bl:=h.lt;have bb:=h.base_le;obtain ⟨wa,ha,X0,V0,-⟩:=zAC w [iQ 0,iQ 0,iQ 0,.bool false] 24;have C1:=h.ext X0;have O1:Only b w _:=Only.of_ext X0;have HWA:Hid _:=ha;clear X0 h ha;go_enter Tryz.func25,Tryz.ntmps25;go_wp2_with (rw [HWA.out]);refine (zAV b base _ 2 _ C1 (by omega) (by omega) (by omega)).mono ?_;rintro e w1 ⟨x,rfl,⟨x0,x9⟩,C1,o1⟩;have V0:=o1.vec (by omega) V0;have O1:=O1.trans o1;clear o1;clear HWA;go_wp2_with fail;refine (zAV b base _ 10 _ C1 (by omega) (by omega) (by omega)).mono ?_;rintro e w2 ⟨y,rfl,⟨y0,y9⟩,C1,o1⟩;have V0:=o1.vec (by omega) V0;have O1:=O1.trans o1;clear o1;go_wp2_with fail;refine (zAV b base _ 4 _ C1 (by omega) (by omega) (by omega)).mono ?_;rintro e w3 ⟨z,rfl,⟨z0,z9⟩,C1,o1⟩;have V0:=o1.vec (by omega) V0;have O1:=O1.trans o1;clear o1;go_wp2_with fail;refine (oneC b base _ 2 _ C1 (by omega) (by omega) (by omega)).mono ?_;rintro e w4 ⟨d,rfl,C1,o1⟩;have V0:=o1.vec (by omega) V0;have O1:=O1.trans o1;clear o1;obtain ⟨k,hk⟩:=nm (1+x);obtain ⟨a,ha⟩:=nm (1+y);obtain ⟨m,hm⟩:=nm (1+z);have HK1:Hid _:=hk;have HA1:Hid _:=ha;have HM1:Hid _:=hm;have k0:1<=k/\k<=2:=by omega
 clear hk ha hm;have b4:=C1.lt;have hw4:w.heap.size<w4.heap.size:=World.block_lt_of_cell? _ _ (V0 0 _ rfl).1;obtain ⟨w5,h5,E,VM,-⟩:=zAC w4 [iQ k,iQ a,iQ m,.bool d] 24;have C1:=C1.ext E;have V0:=V0.l E;have O1:=O1.trans (Only.of_ext E);have H5:Hid _:=h5;clear E h5;obtain ⟨gM,hgM⟩:=nm (w4.heap.size);have HGM:Hid _:=hgM;rw [hgM] at VM b4 hw4;have gM5:gM<w5.heap.size:=World.block_lt_of_cell? _ _ (VM 0 _ rfl).1;clear hgM;go_upto_region 2 with fail;rw [HK1.out,HA1.out,HM1.out,H5.out]
 (try rw [HGM.out])
 clear x0 x9 y0 y9 z0 z9 H5 HGM HK1 HA1 HM1;go_wp2_with fail;refine (zAV b base _ 16 _ C1 (by omega) (by omega) (by omega)).mono ?_;rintro e w6 ⟨u,rfl,⟨u0,u9⟩,C1,o1⟩;have V0:=o1.vec (by omega) V0;have VM:=o1.vec (by omega) VM;have O1:=O1.trans o1;clear o1;have hwg:gM ≠ w.heap.size:=by omega
 by_cases u0':u=0
 ·subst u0';have rk:=(VM 0 _ rfl).1;go_upto_region 4 with fail;go_wp2_with fail;refine (zOE k _).mono ?_;rintro e w7 ⟨rfl,rfl⟩;obtain ⟨lt,hlt⟩:=nm (limT k);have hlt2:200<=lt/\lt<=1000:=by rw [<- hlt];unfold limT;split <;> omega
  rw [hlt];clear hlt rk;go_wp2_with fail;refine (zAV b base _ 3 _ C1 (by omega) (by omega) (by omega)).mono ?_;rintro e w8 ⟨p,rfl,⟨p0,p9⟩,C1,o1⟩;have V0:=o1.vec (by omega) V0;have VM:=o1.vec (by omega) VM;have O1:=O1.trans o1;clear o1;go_wp2_with fail;refine (zAV b base _ 2 _ C1 (by omega) (by omega) (by omega)).mono ?_;rintro e w9 ⟨v,rfl,⟨v0,v9⟩,C1,o1⟩;have V0:=o1.vec (by omega) V0;have VM:=o1.vec (by omega) VM;have O1:=O1.trans o1;clear o1;have j1:IntKind.i64.wrap (lt - p)=lt - p:=by rw [IntKind.wrap_i64];omega
  have j2:IntKind.i64.wrap (lt - p+v)=lt - p+v:=by rw [IntKind.wrap_i64];omega
  obtain ⟨c1,f1⟩:=VM 1 _ rfl;have VM:=VM.put 1 (by simp) (iQ (lt - p+v));simp only [List.set_cons_zero,List.set_cons_succ] at VM;have V0:=V0.far (p:=⟨gM,1,none⟩) (by show gM ≠ _;omega) (iQ (lt - p+v));have C1:=C1.far (g:=gM) (i:=1) (by omega) (by omega) (iQ (lt - p+v));have O1:=O1.setNew (g:=gM) (i:=1) (by omega) (iQ (lt - p+v));obtain ⟨wB,h7⟩:=nm (w9.setCell ⟨gM,1,none⟩ (iQ (lt - p+v)));have H7:Hid _:=h7;rw [h7] at V0 VM C1 O1;clear h7;go_upto_region 9 with fail;rw [H7.out];clear c1 f1 H7 j1 j2;have VT:wB.there w.heap.size 0 4:=zAD V0 (by simp);have V9:=zA8 [iQ k,iQ (lt - p+v),iQ m,.bool d] 0 wB _ V0 (by simp);have C9:=Cur.setCellsM (g:=w.heap.size) (by omega) (by omega) [iQ k,iQ (lt - p+v),iQ m,.bool d] 0 wB C1;have O9:=Only.setCellsM (g:=w.heap.size) (Nat.le_refl _) [iQ k,iQ (lt - p+v),iQ m,.bool d] 0 wB O1;obtain ⟨w9,h9⟩:=nm (wB.setCells w.heap.size 0 [iQ k,iQ (lt - p+v),iQ m,.bool d]);have H9:Hid _:=h9;rw [h9] at V9 C9 O9;have VR:wB.rangeAt gM 0 [iQ k,iQ (lt - p+v),iQ m,.bool d]:=fun k u hu=>by rw [Nat.zero_add];exact (VM k u hu).1
  have PO:Hid (zF0 b base (K+20) w (.returned (.agg #[iQ k,iQ (lt - p+v),iQ m,.bool d])) w9):=⟨⟨k,(lt - p+v),m,d,rfl⟩,C9.more (by omega),O9⟩;have q0:=vC4 V9;clear V9 C9 O9 h9 V0 VM C1 O1;go_wp2_with (first | (refine wpList_load_mid rfl 24 (.tmp 3) rfl gM 0 rfl _ _ VR Tryz.underlying24 rfl zEO ?_) | (refine zAN rfl _ _ _ rfl w.heap.size 0 _ rfl rfl VT zEO (by simp [Value.oneCell']) H9.out ?_));exact bodyPost_ret (v:=.agg #[iQ k,iQ (lt - p+v),iQ m,.bool d]) (by simp [results,Tryz.results25,go_sem,q0]) rfl PO.out
 by_cases u1':u=1
 ·subst u1';go_upto_region 6 with fail;have L3:List Value:=[];have Xs:=x1 w6 (.cells #[iQ 0,iQ 100,iQ 101] 3);have Vs:=zA4 w6 [iQ 0,iQ 100,iQ 101] 3;change Vec (w6.alloc (.cells #[iQ 0,iQ 100,iQ 101] 3)) _ _ at Vs;have ls6:=C1.lt;have lm6:gM<w6.heap.size:=World.block_lt_of_cell? _ _ (VM 0 _ rfl).1;have VM:=VM.l Xs;have V0:=V0.l Xs;have O1:=O1.trans (Only.of_ext Xs);have C1:=C1.ext Xs;clear Xs L3;go_wp2_with fail;refine (zAV b base _ 3 _ C1 (by omega) (by omega) (by omega)).mono ?_;rintro e w8 ⟨p,rfl,⟨p0,p9⟩,C1,o1⟩;have V0:=o1.vec (by omega) V0;have VM:=o1.vec (by omega) VM;have Vs:=o1.vecC (by omega) Vs;have O1:=O1.trans o1;clear o1;obtain ⟨s0,s1,s2⟩:=Vs.three;clear Vs;have hr:p=0\/p=1\/p=2:=by omega
  clear p0 p9
  rcases hr with rfl | rfl | rfl
  ·obtain ⟨c2,f2⟩:=VM 2 _ rfl;have VM:=VM.put 2 (by simp) (iQ 0);simp only [List.set_cons_zero,List.set_cons_succ] at VM;have V0:=V0.far (p:=⟨gM,2,none⟩) (by show gM ≠ _;omega) (iQ 0);have C1:=C1.far (g:=gM) (i:=2) (by omega) (by omega) (iQ 0);have O1:=O1.setNew (g:=gM) (i:=2) (by omega) (iQ 0);obtain ⟨wB,h7⟩:=nm (w8.setCell ⟨gM,2,none⟩ (iQ 0));have H7:Hid _:=h7;rw [h7] at V0 VM C1 O1;clear h7;go_upto_region 9 with fail;rw [H7.out];clear c2 f2 H7;have VT:wB.there w.heap.size 0 4:=zAD V0 (by simp);have V9:=zA8 [iQ k,iQ a,iQ 0,.bool d] 0 wB _ V0 (by simp);have C9:=Cur.setCellsM (g:=w.heap.size) (by omega) (by omega) [iQ k,iQ a,iQ 0,.bool d] 0 wB C1;have O9:=Only.setCellsM (g:=w.heap.size) (Nat.le_refl _) [iQ k,iQ a,iQ 0,.bool d] 0 wB O1;obtain ⟨w9,h9⟩:=nm (wB.setCells w.heap.size 0 [iQ k,iQ a,iQ 0,.bool d]);have H9:Hid _:=h9;rw [h9] at V9 C9 O9;have VR:wB.rangeAt gM 0 [iQ k,iQ a,iQ 0,.bool d]:=fun k u hu=>by rw [Nat.zero_add];exact (VM k u hu).1
   have PO:Hid (zF0 b base (K+20) w (.returned (.agg #[iQ k,iQ a,iQ 0,.bool d])) w9):=⟨⟨k,a,0,d,rfl⟩,C9.more (by omega),O9⟩;have q0:=vC4 V9;clear V9 C9 O9 h9 V0 VM C1 O1;go_wp2_with (first | (refine wpList_load_mid rfl 24 (.tmp 3) rfl gM 0 rfl _ _ VR Tryz.underlying24 rfl zEO ?_) | (refine zAN rfl _ _ _ rfl w.heap.size 0 _ rfl rfl VT zEO (by simp [Value.oneCell']) H9.out ?_));exact bodyPost_ret (v:=.agg #[iQ k,iQ a,iQ 0,.bool d]) (by simp [results,Tryz.results25,go_sem,q0]) rfl PO.out
  ·obtain ⟨c2,f2⟩:=VM 2 _ rfl;have VM:=VM.put 2 (by simp) (iQ 100);simp only [List.set_cons_zero,List.set_cons_succ] at VM;have V0:=V0.far (p:=⟨gM,2,none⟩) (by show gM ≠ _;omega) (iQ 100);have C1:=C1.far (g:=gM) (i:=2) (by omega) (by omega) (iQ 100);have O1:=O1.setNew (g:=gM) (i:=2) (by omega) (iQ 100);obtain ⟨wB,h7⟩:=nm (w8.setCell ⟨gM,2,none⟩ (iQ 100));have H7:Hid _:=h7;rw [h7] at V0 VM C1 O1;clear h7;go_upto_region 9 with fail;rw [H7.out];clear c2 f2 H7;have VT:wB.there w.heap.size 0 4:=zAD V0 (by simp);have V9:=zA8 [iQ k,iQ a,iQ 100,.bool d] 0 wB _ V0 (by simp);have C9:=Cur.setCellsM (g:=w.heap.size) (by omega) (by omega) [iQ k,iQ a,iQ 100,.bool d] 0 wB C1;have O9:=Only.setCellsM (g:=w.heap.size) (Nat.le_refl _) [iQ k,iQ a,iQ 100,.bool d] 0 wB O1;obtain ⟨w9,h9⟩:=nm (wB.setCells w.heap.size 0 [iQ k,iQ a,iQ 100,.bool d]);have H9:Hid _:=h9;rw [h9] at V9 C9 O9;have VR:wB.rangeAt gM 0 [iQ k,iQ a,iQ 100,.bool d]:=fun k u hu=>by rw [Nat.zero_add];exact (VM k u hu).1
   have PO:Hid (zF0 b base (K+20) w (.returned (.agg #[iQ k,iQ a,iQ 100,.bool d])) w9):=⟨⟨k,a,100,d,rfl⟩,C9.more (by omega),O9⟩;have q0:=vC4 V9;clear V9 C9 O9 h9 V0 VM C1 O1;go_wp2_with (first | (refine wpList_load_mid rfl 24 (.tmp 3) rfl gM 0 rfl _ _ VR Tryz.underlying24 rfl zEO ?_) | (refine zAN rfl _ _ _ rfl w.heap.size 0 _ rfl rfl VT zEO (by simp [Value.oneCell']) H9.out ?_));exact bodyPost_ret (v:=.agg #[iQ k,iQ a,iQ 100,.bool d]) (by simp [results,Tryz.results25,go_sem,q0]) rfl PO.out
  ·obtain ⟨c2,f2⟩:=VM 2 _ rfl;have VM:=VM.put 2 (by simp) (iQ 101);simp only [List.set_cons_zero,List.set_cons_succ] at VM;have V0:=V0.far (p:=⟨gM,2,none⟩) (by show gM ≠ _;omega) (iQ 101);have C1:=C1.far (g:=gM) (i:=2) (by omega) (by omega) (iQ 101);have O1:=O1.setNew (g:=gM) (i:=2) (by omega) (iQ 101);obtain ⟨wB,h7⟩:=nm (w8.setCell ⟨gM,2,none⟩ (iQ 101));have H7:Hid _:=h7;rw [h7] at V0 VM C1 O1;clear h7;go_upto_region 9 with fail;rw [H7.out];clear c2 f2 H7;have VT:wB.there w.heap.size 0 4:=zAD V0 (by simp);have V9:=zA8 [iQ k,iQ a,iQ 101,.bool d] 0 wB _ V0 (by simp);have C9:=Cur.setCellsM (g:=w.heap.size) (by omega) (by omega) [iQ k,iQ a,iQ 101,.bool d] 0 wB C1;have O9:=Only.setCellsM (g:=w.heap.size) (Nat.le_refl _) [iQ k,iQ a,iQ 101,.bool d] 0 wB O1;obtain ⟨w9,h9⟩:=nm (wB.setCells w.heap.size 0 [iQ k,iQ a,iQ 101,.bool d]);have H9:Hid _:=h9;rw [h9] at V9 C9 O9;have VR:wB.rangeAt gM 0 [iQ k,iQ a,iQ 101,.bool d]:=fun k u hu=>by rw [Nat.zero_add];exact (VM k u hu).1
   have PO:Hid (zF0 b base (K+20) w (.returned (.agg #[iQ k,iQ a,iQ 101,.bool d])) w9):=⟨⟨k,a,101,d,rfl⟩,C9.more (by omega),O9⟩;have q0:=vC4 V9;clear V9 C9 O9 h9 V0 VM C1 O1;go_wp2_with (first | (refine wpList_load_mid rfl 24 (.tmp 3) rfl gM 0 rfl _ _ VR Tryz.underlying24 rfl zEO ?_) | (refine zAN rfl _ _ _ rfl w.heap.size 0 _ rfl rfl VT zEO (by simp [Value.oneCell']) H9.out ?_));exact bodyPost_ret (v:=.agg #[iQ k,iQ a,iQ 101,.bool d]) (by simp [results,Tryz.results25,go_sem,q0]) rfl PO.out
 by_cases u2':u=2
 ·subst u2';go_upto_region 8 with fail;go_wp2_with fail;refine (zAV b base _ 4 _ C1 (by omega) (by omega) (by omega)).mono ?_;rintro e w8 ⟨p,rfl,⟨p0,p9⟩,C1,o1⟩;have V0:=o1.vec (by omega) V0;have VM:=o1.vec (by omega) VM;have O1:=O1.trans o1;clear o1;obtain ⟨c0,f0⟩:=VM 0 _ rfl;have VM:=VM.put 0 (by simp) (iQ p);simp only [List.set_cons_zero] at VM;have V0:=V0.far (p:=⟨gM,0,none⟩) (by show gM ≠ _;omega) (iQ p);have C1:=C1.far (g:=gM) (i:=0) (by omega) (by omega) (iQ p);have O1:=O1.setNew (g:=gM) (i:=0) (by omega) (iQ p);obtain ⟨wB,h7⟩:=nm (w8.setCell ⟨gM,0,none⟩ (iQ p));have H7:Hid _:=h7;rw [h7] at V0 VM C1 O1;clear h7;go_upto_region 9 with fail;rw [H7.out];clear c0 f0 H7;have VT:wB.there w.heap.size 0 4:=zAD V0 (by simp);have V9:=zA8 [iQ p,iQ a,iQ m,.bool d] 0 wB _ V0 (by simp);have C9:=Cur.setCellsM (g:=w.heap.size) (by omega) (by omega) [iQ p,iQ a,iQ m,.bool d] 0 wB C1;have O9:=Only.setCellsM (g:=w.heap.size) (Nat.le_refl _) [iQ p,iQ a,iQ m,.bool d] 0 wB O1;obtain ⟨w9,h9⟩:=nm (wB.setCells w.heap.size 0 [iQ p,iQ a,iQ m,.bool d]);have H9:Hid _:=h9;rw [h9] at V9 C9 O9;have VR:wB.rangeAt gM 0 [iQ p,iQ a,iQ m,.bool d]:=fun k u hu=>by rw [Nat.zero_add];exact (VM k u hu).1
  have PO:Hid (zF0 b base (K+20) w (.returned (.agg #[iQ p,iQ a,iQ m,.bool d])) w9):=⟨⟨p,a,m,d,rfl⟩,C9.more (by omega),O9⟩;have q0:=vC4 V9;clear V9 C9 O9 h9 V0 VM C1 O1;go_wp2_with (first | (refine wpList_load_mid rfl 24 (.tmp 3) rfl gM 0 rfl _ _ VR Tryz.underlying24 rfl zEO ?_) | (refine zAN rfl _ _ _ rfl w.heap.size 0 _ rfl rfl VT zEO (by simp [Value.oneCell']) H9.out ?_));exact bodyPost_ret (v:=.agg #[iQ p,iQ a,iQ m,.bool d]) (by simp [results,Tryz.results25,go_sem,q0]) rfl PO.out
 have n0:(u == 0)=false:=by simp;exact u0'
 have n1:(u == 1)=false:=by simp;exact u1'
 have n2:(u == 2)=false:=by simp;exact u2'
 go_upto_region 9 with fail;have VT:w6.there w.heap.size 0 4:=zAD V0 (by simp);have V9:=zA8 [iQ k,iQ a,iQ m,.bool d] 0 w6 _ V0 (by simp);have C9:=Cur.setCellsM (g:=w.heap.size) (by omega) (by omega) [iQ k,iQ a,iQ m,.bool d] 0 w6 C1;have O9:=Only.setCellsM (g:=w.heap.size) (Nat.le_refl _) [iQ k,iQ a,iQ m,.bool d] 0 w6 O1;obtain ⟨w9,h9⟩:=nm (w6.setCells w.heap.size 0 [iQ k,iQ a,iQ m,.bool d]);have H9:Hid _:=h9;rw [h9] at V9 C9 O9;have VR:w6.rangeAt gM 0 [iQ k,iQ a,iQ m,.bool d]:=fun k u hu=>by rw [Nat.zero_add];exact (VM k u hu).1
 have PO:Hid (zF0 b base (K+20) w (.returned (.agg #[iQ k,iQ a,iQ m,.bool d])) w9):=⟨⟨k,a,m,d,rfl⟩,C9.more (by omega),O9⟩;have q0:=vC4 V9;clear V9 C9 O9 h9 V0 VM C1 O1;go_wp2_with (first | (refine wpList_load_mid rfl 24 (.tmp 3) rfl gM 0 rfl _ _ VR Tryz.underlying24 rfl zEO ?_) | (refine zAN rfl _ _ _ rfl w.heap.size 0 _ rfl rfl VT zEO (by simp [Value.oneCell']) H9.out ?_));exact bodyPost_ret (v:=.agg #[iQ k,iQ a,iQ m,.bool d]) (by simp [results,Tryz.results25,go_sem,q0]) rfl PO.out
structure DrJ (w:World) (b base K gM gA:Nat) (M:List Value) (st:Bool) (lw:World):Prop where
 cur:Cur lw b base K
 only:Only b w lw
 vm:Vec lw gM M
 va:Vec lw gA (if st then M else Z10)
def kcD (A B:Nat) (L:Nat->Bool):Nat:=(if L 3=true then A else 0)+(if L 4=true then B else 0)
theorem zLC (A B:Nat) (L:Nat->Bool):kcD A B L<=A+B:=by unfold kcD;split <;> split <;> omega
theorem kcD3 {A B:Nat} {L:Nat->Bool} (h:L 3=false):kcD A B (fun j=>if j=3 then true else L j)=kcD A B L+A:=by simp [kcD,h];omega
theorem kcD4 {A B:Nat} {L:Nat->Bool} (h:L 4=false):kcD A B (fun j=>if j=4 then true else L j)=kcD A B L+B:=by simp [kcD,h]
theorem kcD0 {A B i:Nat} {L:Nat->Bool} (h:i ≠ 3) (h':i ≠ 4):kcD A B (fun j=>if j=i then true else L j)=kcD A B L:=by unfold kcD;simp [h.symm,h'.symm]
theorem hi4D:(Tryz.prog.info? 26).map (·.size)=some 4:=by kernel_rfl
abbrev Z4T:List Value:=[iQ 0,iQ 0,iQ 0,.bool false]
structure DrT (w:World) (b base K gM gA:Nat) (M:List Value) (st:Bool) (lw:World):Prop where
 cur:Cur lw b base K
 only:Only b w lw
 vm:Vec lw gM M
 va:Vec lw gA (if st then M else Z4T)
theorem DrT.turn {w lw lw':World} {b base K K' gM gA:Nat} {M:List Value} {st:Bool} (h:DrT w b base K gM gA M st lw) (o:Only b lw lw') (c:Cur lw' b base K') (hM:gM ≠ b) (hA:gA ≠ b):DrT w b base K' gM gA M st lw':=
 ⟨c,h.only.trans o,o.vec hM h.vm,o.vec hA h.va⟩
def zSH (w:World) (e:Ending) (w':World):Prop:=(∃ (tk ta tm:Int) (td:Bool) (s d:Int) (h k:Bool),e=.returned (.tuple #[.agg #[iQ tk,iQ ta,iQ tm,.bool td],refV s d h k]))/\Ext w w'
theorem zMM (v:Value) (n:Nat) (w:World) (h:zD2 w w.heap.size v n) (hn:n<=1048576) :
  Calls Tryz.prog 5 #[v] w fun e w'=>zSH w e w':=by
 obtain ⟨p,nn,cap,rfl⟩:∃ p nn cap,v=.slice p nn cap:=by
  rcases h with ⟨⟨p,cap,rfl⟩,_⟩ | ⟨pb,po,cap,_,rfl,_⟩
  ·exact ⟨_,_,_,rfl⟩
  ·exact ⟨_,_,_,rfl⟩
 have X1:=x1 w (.cells Z4T.toArray 24);have VA:=zA4 w Z4T 24;have s1:(w.alloc (.cells Z4T.toArray 24)).heap.size=w.heap.size+1:=World.size_alloc _ _;obtain ⟨wa,ha⟩:=nm (w.alloc (.cells Z4T.toArray 24));have HA:Hid _:=ha;rw [ha] at X1 VA s1;obtain ⟨w2,h2,XB,VB,s2⟩:=zAC wa [iQ 0,iQ 0,.bool false,.bool false] 26;have H2:Hid _:=h2;have VA:=VA.l XB;have X2:=xt X1 XB;have CM:=Cur.made w2 (.slice p nn cap) n w.heap.size 57 (h.only (Only.of_ext X2 (b:=w.heap.size)) (Nat.le_refl _)) hn (by omega);have EM:=x1 w2 (.cells #[.slice p nn cap,iQ 0,.int .u64 0] 57);obtain ⟨w3,h3⟩:=nm (w2.alloc (.cells #[.slice p nn cap,iQ 0,.int .u64 0] 57));have H3:Hid _:=h3;rw [h3] at CM EM;have VA:=VA.l EM;have VB:=VB.l EM;obtain ⟨gA,hgA⟩:=nm (w.heap.size);obtain ⟨gB,hgB⟩:=nm (wa.heap.size);obtain ⟨b,hgb⟩:=nm (w2.heap.size);have HW:Hid _:=hgA;rw [hgA] at VA CM;rw [hgb] at CM;rw [hgB] at VB;have hbb:gB<b/\gA<gB:=by omega
 have hab:gA<b:=by omega
 have O3:Only b w w3:=Only.of_ext (xt X2 EM);have HGb:Hid (w.heap.size+1+1=b):=by show _=_;omega
 have HGB:Hid (w.heap.size+1=gB):=by show _=_;omega
 clear h2 h3 hgb hgA ha XB hgB h hn EM X1 X2 s1 s2;go_enter Tryz.func5,Tryz.ntmps5;go_upto_region 2 with fail;rw [HA.out];rw [H2.out,H3.out]
 (try rw [HGb.out])
 (try rw [HGB.out])
 (try rw [HW.out])
 go_wp2_with fail;refine (zV1 b gA 0 w3 CM (by omega)).mono ?_;rintro e w4 ⟨⟨tk,ta,tm,td,rfl⟩,C4,o4⟩;have VA:=o4.vec (by omega) VA;have VB:=o4.vec (by omega) VB;have O4:=O3.trans o4;have b4:=C4.lt;have E:=x1 w4 (.cells ([iQ tk,iQ ta,iQ tm,.bool td]:List Value).toArray 24);have VM:=zA4 w4 [iQ tk,iQ ta,iQ tm,.bool td] 24;have C4:=C4.ext E;have VA:=VA.l E;have VB:=VB.l E;have O4:=O4.trans (Only.of_ext E);obtain ⟨w5,h5⟩:=nm (w4.alloc (.cells ([iQ tk,iQ ta,iQ tm,.bool td]:List Value).toArray 24));have H5:Hid _:=h5;rw [h5] at C4 VA O4 VM VB;clear h5 E;obtain ⟨gM,hgM⟩:=nm (w4.heap.size);rw [hgM] at VM b4;have HGM:Hid _:=hgM;clear hgM;go_upto_region 3 with fail;rw [H5.out]
 (try rw [HGM.out])
 clear o4 O3 CM H5;have HR:Hid (DrT w b gA (20+0) gM gA [iQ tk,iQ ta,iQ tm,.bool td] false w5):=⟨C4,O4,VM,VA⟩;refine zA5 (fun lx:Nat->Value=>{ tmps:=#[Value.slice p nn cap,undef,Value.pointer (some ⟨gA,0,none⟩),Value.pointer (some ⟨gB,0,none⟩),Value.pointer (some ⟨b,0,none⟩),Value.pointer (some ⟨gM,0,none⟩),Value.slice p nn cap,Value.agg #[Value.slice p nn cap,Value.int .i64 0,Value.int IntKind.u64 0],Value.pointer (some ⟨b,0,none⟩),Value.pointer (some ⟨b,0,none⟩),.agg #[.int .i64 tk,.int .i64 ta,.int .i64 tm,.bool td],lx 11,lx 12,lx 13,lx 14,lx 15],defers:=[] }) (fun L lx lw=>Hid ((DrT w b gA (20+kcD 100 100 L) gM gA [iQ tk,iQ ta,iQ tm,.bool td] (L 5) lw)/\(L 0=true->lx 11=.agg #[iQ tk,iQ ta,iQ tm,.bool td])/\(L 1=true->lx 12=.pointer (some ⟨b,0,none⟩))/\(L 2=true->lx 13=.pointer (some ⟨b,0,none⟩))/\(L 3=true->∃ (s d:Int) (h k:Bool),lx 14=refV s d h k)/\(L 4=true->∃ (s d:Int) (h k:Bool),lx 15=refV s d h k)/\(L 6=false->Vec lw gB [iQ 0,iQ 0,.bool false,.bool false])/\(L 6=true->∃ (s d:Int) (h k:Bool),Vec lw gB [iQ s,iQ d,.bool h,.bool k]))) rfl (by kernel_rfl) (fun jj=>undef) rfl ?_ ?_ ?_
 ·have R0:=HR.out;exact ⟨(R0.turn (Only.of_ext (xd (xr _))) (R0.cur.ext (xd (xr _))) (by omega) (by omega)),(fun h=>by cases h),(fun h=>by cases h),(fun h=>by cases h),(fun h=>by cases h),(fun h=>by cases h),(fun _=>VB.l (xd (xr _))),(fun h=>by cases h)⟩
 ·intro L lx wl i o K0 hK ho hL haf hI hcl;obtain ⟨R,f0,f1,f2,f3,f4,vb,f6⟩:=hI.out
  match i,ho,hL,haf,hK with
  | 0,ho,hL,haf,hK =>
   cases ho
   (try dsimp only)
   have VR:wl.rangeAt gM 0 [iQ tk,iQ ta,iQ tm,.bool td]:=fun k u hu=>by rw [Nat.zero_add];exact (R.vm k u hu).1
   refine Eq.mpr (if_pos (by rfl)) ?_;go_wp2_with (refine wpList_load_mid rfl 24 (.tmp 5) rfl gM 0 rfl _ _ VR Tryz.underlying24 rfl zEO ?_);exact hK (fun jj=>if jj=11 then .agg #[iQ tk,iQ ta,iQ tm,.bool td] else lx jj) _ ⟨R,(fun _=>rfl),f1,f2,f3,f4,vb,f6⟩
  | 1,ho,hL,haf,hK =>
   cases ho
   (try dsimp only)
   refine Eq.mpr (if_pos (by rfl)) ?_;go_wp2_with fail;exact hK (fun jj=>if jj=12 then .pointer (some ⟨b,0,none⟩) else lx jj) _ ⟨R,f0,(fun _=>rfl),f2,f3,f4,vb,f6⟩
  | 2,ho,hL,haf,hK =>
   cases ho
   (try dsimp only)
   refine Eq.mpr (if_pos (by rfl)) ?_;go_wp2_with fail;exact hK (fun jj=>if jj=13 then .pointer (some ⟨b,0,none⟩) else lx jj) _ ⟨R,f0,f1,(fun _=>rfl),f3,f4,vb,f6⟩
  | 3,ho,hL,haf,hK =>
   cases ho
   (try dsimp only)
   rw [f2 (haf ⟨2,.data⟩ (by simp) rfl)];refine Eq.mpr (if_pos (by rfl)) ?_;go_wp2_with fail;have kle:=zLC 100 100 L;refine (refC b gA _ wl R.cur (by omega)).mono ?_;rintro e w' ⟨s,d,h,k,K',rfl,_,_,hK',CC,o1⟩;have CC:=CC.more hK';go_wp2_with fail;exact hK (fun jj=>if jj=14 then refV s d h k else if jj=13 then .pointer (some ⟨b,0,none⟩) else lx jj) _ ⟨(by rw [kcD3 hL,<- Nat.add_assoc];exact R.turn o1 CC (by omega) (by omega)),f0,f1,(fun _=>rfl),(fun _=>⟨s,d,h,k,rfl⟩),f4,(fun h=>o1.vec (by omega) (vb h)),(fun h=>by obtain ⟨s,d,h1,k1,hv⟩:=f6 h;exact ⟨s,d,h1,k1,o1.vec (by omega) hv⟩)⟩
  | 4,ho,hL,haf,hK =>
   cases ho
   (try dsimp only)
   obtain ⟨s,d,h,k,e3⟩:=f3 (haf ⟨3,.data⟩ (by simp) rfl);rw [f1 (haf ⟨1,.data⟩ (by simp) rfl),e3];refine Eq.mpr (if_pos (by rfl)) ?_;go_wp2_with fail;have kle:=zLC 100 100 L;refine (oddC b gA _ s d h k wl R.cur (by omega)).mono ?_;rintro e w' ⟨s',d',h',k',K',rfl,hK',CC,o1⟩;have CC:=CC.more hK';go_wp2_with fail;exact hK (fun jj=>if jj=15 then refV s' d' h' k' else if jj=12 then .pointer (some ⟨b,0,none⟩) else if jj=14 then refV s d h k else lx jj) _ ⟨(by rw [kcD4 hL,<- Nat.add_assoc];exact R.turn o1 CC (by omega) (by omega)),f0,(fun _=>rfl),f2,(fun _=>⟨s,d,h,k,rfl⟩),(fun _=>⟨s',d',h',k',rfl⟩),(fun h=>o1.vec (by omega) (vb h)),(fun h=>by obtain ⟨s,d,h1,k1,hv⟩:=f6 h;exact ⟨s,d,h1,k1,o1.vec (by omega) hv⟩)⟩
  | 5,ho,hL,haf,hK =>
   cases ho
   (try dsimp only)
   have VZ:Vec wl gA Z4T:=by have:=R.va;rw [hL] at this;exact this
   rw [f0 (haf ⟨0,.data⟩ (by simp) rfl)];have VT:wl.there gA 0 4:=zAD VZ (by simp);have V9:Vec (wl.setCells gA 0 [iQ tk,iQ ta,iQ tm,.bool td]) gA [iQ tk,iQ ta,iQ tm,.bool td]:=zA8 [iQ tk,iQ ta,iQ tm,.bool td] 0 wl _ VZ (by simp);have C9:=Cur.setCellsM (g:=gA) (by omega) (by omega) [iQ tk,iQ ta,iQ tm,.bool td] 0 wl R.cur;have O9:=Only.setCellsM (g:=gA) (by have:=HW.out;omega) [iQ tk,iQ ta,iQ tm,.bool td] 0 wl R.only;have G9:=zAL gA [iQ tk,iQ ta,iQ tm,.bool td] 0 wl;obtain ⟨w',hw'⟩:=nm (wl.setCells gA 0 [iQ tk,iQ ta,iQ tm,.bool td]);have HW':Hid _:=hw';rw [hw'] at V9 C9 O9 G9;have VM9:Vec w' gM [iQ tk,iQ ta,iQ tm,.bool td]:=zEH R.vm G9 (by omega);refine Eq.mpr (if_pos (by rfl)) ?_;go_wp2_with (refine zAN rfl _ _ _ rfl gA 0 _ rfl rfl VT zEO (by simp [Value.oneCell']) HW'.out ?_);exact hK (fun jj=>if jj=11 then .agg #[iQ tk,iQ ta,iQ tm,.bool td] else lx jj) _ ⟨(by rw [kcD0 (by decide) (by decide)];exact ⟨C9,O9,VM9,V9⟩),(fun _=>rfl),f1,f2,f3,f4,(fun h=>zEH (vb h) G9 (by omega)),(fun h=>by obtain ⟨s,d,h1,k1,hv⟩:=f6 h;exact ⟨s,d,h1,k1,zEH hv G9 (by omega)⟩)⟩
  | 6,ho,hL,haf,hK =>
   cases ho
   (try dsimp only)
   obtain ⟨s,d,h,k,e4⟩:=f4 (haf ⟨4,.data⟩ (by simp) rfl);have VZ:=vb hL;rw [e4];have VT:wl.there gB 0 4:=zAD VZ (by simp);have V9:Vec (wl.setCells gB 0 [iQ s,iQ d,.bool h,.bool k]) gB [iQ s,iQ d,.bool h,.bool k]:=zA8 [iQ s,iQ d,.bool h,.bool k] 0 wl _ VZ (by simp);have C9:=Cur.setCellsM (g:=gB) (by omega) (by omega) [iQ s,iQ d,.bool h,.bool k] 0 wl R.cur;have O9:=Only.setCellsM (g:=gB) (by have:=HW.out;omega) [iQ s,iQ d,.bool h,.bool k] 0 wl R.only;have G9:=zAL gB [iQ s,iQ d,.bool h,.bool k] 0 wl;obtain ⟨w',hw'⟩:=nm (wl.setCells gB 0 [iQ s,iQ d,.bool h,.bool k]);have HW':Hid _:=hw';rw [hw'] at V9 C9 O9 G9;have VM9:=zEH R.vm G9 (by omega);have VA9:=zEH R.va G9 (by omega);refine Eq.mpr (if_pos (by rfl)) ?_;go_wp2_with (refine zAN rfl _ _ _ rfl gB 0 _ rfl rfl VT hi4D (by simp [Value.oneCell']) HW'.out ?_);exact hK (fun jj=>if jj=15 then refV s d h k else lx jj) _ ⟨(by rw [kcD0 (by decide) (by decide)];exact ⟨C9,O9,VM9,VA9⟩),f0,f1,f2,f3,(fun _=>⟨s,d,h,k,rfl⟩),(fun h=>by cases h),(fun _=>⟨s,d,h,k,V9⟩)⟩
  | k+7,ho,_,_,_=>simp at ho
 ·intro L lx w8 hall hI;obtain ⟨R,f0,f1,f2,f3,f4,vb,f6⟩:=hI.out;have VA8:Vec w8 gA [iQ tk,iQ ta,iQ tm,.bool td]:=by have:=R.va;rw [hall 5 (by simp)] at this;exact this
  have X8:Ext w w8:=Only.ext (xr w) R.only (by have:=HW.out;omega);have q0:=vC4 VA8;obtain ⟨s,d,h,k,VB8⟩:=f6 (hall 6 (by simp));have p0:=vC4 VB8;have PO:Hid (zSH w (.returned (.tuple #[.agg #[iQ tk,iQ ta,iQ tm,.bool td],refV s d h k])) w8):=⟨⟨tk,ta,tm,td,s,d,h,k,rfl⟩,X8⟩;clear R VA8 VB8 X8 hI hall HR VB f0 f1 f2 f3 f4 vb f6
  (try dsimp only)
  go_wp2_with fail;exact bodyPost_ret (v:=.tuple #[.agg #[iQ tk,iQ ta,iQ tm,.bool td],refV s d h k]) (by simp [results,Tryz.results5,go_sem,q0,p0]) rfl PO.out
def trB (k a m:Int) (d:Bool) (r c:Int) (f g:Bool):Value:=
 if zBB k a m d=true/\zAA r c=true then
  (if k=1 then (if tN 1000 a m d r=0 then .tuple #[refV 0 0 false false,.bool false] else .tuple #[refV (tN 1000 a m d r) c f g,.bool true])
  else (if tN 200 a m d c=0 then .tuple #[refV 0 0 false false,.bool false] else .tuple #[refV r (tN 200 a m d c) f g,.bool true]))
 else .tuple #[refV 0 0 false false,.bool false]
theorem zN3 (k a m:Int) (d:Bool) (r c:Int) (f g:Bool):∃ n1 n2 n3 n4 q,trB k a m d r c f g=.tuple #[refV n1 n2 n3 n4,.bool q]:=by
 unfold trB
 split
 ·split
  ·split <;> exact ⟨_,_,_,_,_,rfl⟩
  ·split <;> exact ⟨_,_,_,_,_,rfl⟩
 ·exact ⟨_,_,_,_,_,rfl⟩
theorem zJA {r c:Int} (h:zAA r c=true):(1<=r/\r<=1000)/\1<=c/\c<=200:=of_decide_eq_true h
theorem zVC (k a m:Int) (d:Bool) (r c:Int) (f g:Bool) (w:World) :
  Calls Tryz.prog 7 #[tuV k a m d,refV r c f g] w fun e w'=>e=.returned (trB k a m d r c f g)/\Ext w w':=by
 obtain ⟨V,hV⟩:=nm (trB k a m d r c f g);rw [hV];unfold trB at hV;have GT:=fun w=>zP1 k a m d w;have GA:=fun w=>zBS r c f g w;obtain ⟨p,hp⟩:=nm (zBB k a m d);obtain ⟨q,hq⟩:=nm (zAA r c);rw [hp] at GT hV;rw [hq] at GA hV;have B2:=Vec.made4 w (iQ k) (iQ a) (iQ m) (.bool d) 24;have X:=x1 w (.cells #[iQ k,iQ a,iQ m,.bool d] 24);obtain ⟨wa,ha⟩:=nm (w.alloc (.cells #[iQ k,iQ a,iQ m,.bool d] 24));rw [ha] at B2 X;have sa:wa.heap.size=w.heap.size+1:=by rw [<- ha,World.size_alloc]
 have B3:=Vec.made4 wa (iQ r) (iQ c) (.bool f) (.bool g) 26;have x3:=x1 wa (.cells #[iQ r,iQ c,.bool f,.bool g] 26);obtain ⟨wb,hb⟩:=nm (wa.alloc (.cells #[iQ r,iQ c,.bool f,.bool g] 26));rw [hb] at B3 x3;have sb:wb.heap.size=w.heap.size+1+1:=by rw [<- hb,World.size_alloc,sa]
 have B4:=Vec.made4 wb (iQ 0) (iQ 0) (.bool false) (.bool false) 26;have x4:=x1 wb (.cells #[iQ 0,iQ 0,.bool false,.bool false] 26);rw [sa] at B3;go_enter Tryz.func7,Tryz.ntmps7;go_upto_region 1 with fail
 (try rw [ha])
 (try rw [hb])
 obtain ⟨w0,hw0⟩:=nm (wb.alloc (.cells #[iQ 0,iQ 0,.bool false,.bool false] 26));have s0:w0.heap.size=w.heap.size+1+1+1:=by rw [<- hw0,World.size_alloc,sb]
 rw [hw0] at B4 x4 ⊢;rw [sb] at B4;replace B2:=(B2.l x3).l x4;replace B3:=B3.l x4;replace X:=xt (xt X x3) x4;clear ha hb hw0 sa sb x3 x4;obtain ⟨⟨a0,a1,a2,a3⟩,_⟩:=B2.box4;go_wp2_with fail;refine (GT _).mono ?_;rintro e w1 ⟨rfl,e1⟩;clear a0 a1 a2 a3 GT;have s1:=e1.size;replace B2:=B2.l e1;replace B3:=B3.l e1;replace B4:=B4.l e1;replace X:=xt X e1;clear e1;obtain ⟨⟨m0,m1,m2,m3⟩,m4,m5,m6,m7⟩:=B4.box4;cases p
 ·have Z:Hid (Value.tuple #[refV 0 0 false false,.bool false]=V):=by unfold Hid;rw [<- hV];simp
  clear hV
  go_wp2
  exact bodyPost_ret (v:=.tuple #[refV 0 0 false false,.bool false]) (by simp [results,Tryz.results7,go_sem,m0,m1,m2,m3]) rfl ⟨congrArg Ending.returned Z.out,Ext.set4 (o:=0) X (by omega) _ _ _ _⟩
 clear m0 m1 m2 m3 m4 m5 m6 m7;obtain ⟨⟨a0,a1,a2,a3⟩,_⟩:=B3.box4;go_wp2_with fail;refine (GA _).mono ?_;rintro e w2 ⟨rfl,e2⟩;clear a0 a1 a2 a3 GA;have s2:=e2.size;replace B2:=B2.l e2;replace B3:=B3.l e2;replace B4:=B4.l e2;replace X:=xt X e2;clear e2;obtain ⟨⟨m0,m1,m2,m3⟩,m4,m5,m6,m7⟩:=B4.box4;cases q
 ·have Z:Hid (Value.tuple #[refV 0 0 false false,.bool false]=V):=by unfold Hid;rw [<- hV];simp
  clear hV
  go_wp2
  exact bodyPost_ret (v:=.tuple #[refV 0 0 false false,.bool false]) (by simp [results,Tryz.results7,go_sem,m0,m1,m2,m3]) rfl ⟨congrArg Ending.returned Z.out,Ext.set4 (o:=0) X (by omega) _ _ _ _⟩
 clear m0 m1 m2 m3 m4 m5 m6 m7;obtain ⟨hk,hm,ha,hd⟩:=zFC hp;obtain ⟨hr,hc⟩:=zJA hq;clear hp hq;obtain ⟨⟨a0,a1,a2,a3⟩,_⟩:=B3.box4;go_upto_region 4 with fail;have B6:=Vec.made4 w2 (iQ r) (iQ c) (.bool f) (.bool g) 26;have x6:=x1 w2 (.cells #[iQ r,iQ c,.bool f,.bool g] 26);obtain ⟨w3,hw3⟩:=nm (w2.alloc (.cells #[iQ r,iQ c,.bool f,.bool g] 26));rw [hw3] at B6 x6 ⊢;obtain ⟨b6,hb6⟩:=nm (w2.heap.size);rw [hb6] at B6 ⊢;clear hw3 a0 a1 a2 a3;replace B2:=B2.l x6;replace B3:=B3.l x6;replace B4:=B4.l x6;replace X:=xt X x6;have g6:w.heap.size+1+1+1<=b6:=by omega
 clear x6 s1 s2 s0 hb6;obtain rfl | rfl:=hk
 ·have lim:limT 1=1000:=by simp [limT]
  rw [lim] at ha hd;simp only [true_and,if_true,if_true] at hV;have TN:=fun w=>zSL 1 a m d r 1000 w lim hm (by omega) (by omega);have TI:=zN7 1000 a m d r;obtain ⟨v,hv⟩:=nm (tN 1000 a m d r);rw [hv] at TN hV TI;have v0:0<=v/\v<=1000:=by
   cases d <;> simp at TI hd <;> omega
  have Z:Hid (v=0->Value.tuple #[refV 0 0 false false,.bool false]=V):=fun h=>by rw [<- hV,if_pos h]
  have Y:Hid (v ≠ 0->Value.tuple #[refV v c f g,.bool true]=V):=fun h=>by rw [<- hV,if_neg h]
  have G:Hid (∀ w,Calls Tryz.prog 30 #[refV v c f g] w fun e w'=>e=.returned (.bool (decide (v ≠ 0)))/\Ext w w'):=fun w=>by
   have e:decide (v ≠ 0)=zAA v c:=by
    unfold zAA;rw [decide_eq_decide];omega
   rw [e];exact zBS _ _ _ _ _
  clear hV hv TI hm ha hd lim hr hc;obtain ⟨⟨b0,b1,b2,b3⟩,_⟩:=B2.box4;obtain ⟨⟨a0,a1,a2,a3⟩,_⟩:=B3.box4;go_wp2_with fail;clear b0 b1 b2 b3 a0 a1 a2 a3;refine (TN _).mono ?_;rintro e w4 ⟨rfl,e4⟩;replace B4:=B4.l e4;replace B6:=B6.l e4;replace X:=xt X e4;clear e4 B2 B3 TN;obtain ⟨⟨a0,a1,a2,a3⟩,a4,a5,a6,a7⟩:=B6.box4;have N6:=B6.put 0 (by simp) (iQ v);have N4:=B4.far (p:=⟨b6,0,none⟩) (by simp only;omega) (iQ v);have NX:=xset (p:=⟨b6,0,none⟩) X (by simp only;omega) (iQ v);go_upto_region 7 with fail;obtain ⟨w5,hw5⟩:=nm (w4.setCell ⟨b6,0,none⟩ (iQ v));rw [hw5] at N6 N4 NX ⊢;clear hw5 a0 a1 a2 a3 a4 a5 a6 a7 B4 B6 X;obtain ⟨⟨a0,a1,a2,a3⟩,_⟩:=N6.box4;go_wp2_with fail;refine (G.out _).mono ?_;rintro e w6 ⟨rfl,e6⟩;clear a0 a1 a2 a3;replace N6:=N6.l e6;replace N4:=N4.l e6;replace NX:=xt NX e6;clear e6 G;obtain ⟨⟨a0,a1,a2,a3⟩,_⟩:=N6.box4;obtain ⟨⟨m0,m1,m2,m3⟩,m4,m5,m6,m7⟩:=N4.box4;by_cases h0:v=0
  ·have ZZ:Hid (Value.tuple #[refV 0 0 false false,.bool false]=V):=Z.out h0;have f0:decide (v ≠ 0)=false:=decide_eq_false (fun h=>h h0);rw [f0];clear Z Y f0
   go_wp2
   exact bodyPost_ret (v:=.tuple #[refV 0 0 false false,.bool false]) (by simp [results,Tryz.results7,go_sem,m0,m1,m2,m3]) rfl ⟨congrArg Ending.returned ZZ.out,Ext.set4 (o:=0) NX (by omega) _ _ _ _⟩
  ·have ZZ:Hid (Value.tuple #[refV v c f g,.bool true]=V):=Y.out h0;have f0:decide (v ≠ 0)=true:=decide_eq_true h0;rw [f0];clear Z Y f0
   go_wp2
   exact bodyPost_ret (v:=.tuple #[refV v c f g,.bool true]) (by simp [results,Tryz.results7,go_sem,m0,m1,m2,m3]) rfl ⟨congrArg Ending.returned ZZ.out,Ext.set4 (o:=0) NX (by omega) _ _ _ _⟩
 ·have lim:limT 2=200:=by simp [limT]
  rw [lim] at ha hd;simp only [true_and,if_true,show ((2:Int)=1)=False by decide,if_false] at hV;have TN:=fun w=>zSL 2 a m d c 200 w lim hm (by omega) (by omega);have TI:=zN7 200 a m d c;obtain ⟨v,hv⟩:=nm (tN 200 a m d c);rw [hv] at TN hV TI;have v0:0<=v/\v<=200:=by
   cases d <;> simp at TI hd <;> omega
  have Z:Hid (v=0->Value.tuple #[refV 0 0 false false,.bool false]=V):=fun h=>by rw [<- hV,if_pos h]
  have Y:Hid (v ≠ 0->Value.tuple #[refV r v f g,.bool true]=V):=fun h=>by rw [<- hV,if_neg h]
  have G:Hid (∀ w,Calls Tryz.prog 30 #[refV r v f g] w fun e w'=>e=.returned (.bool (decide (v ≠ 0)))/\Ext w w'):=fun w=>by
   have e:decide (v ≠ 0)=zAA r v:=by
    unfold zAA;rw [decide_eq_decide];omega
   rw [e];exact zBS _ _ _ _ _
  clear hV hv TI hm ha hd lim hr hc;obtain ⟨⟨b0,b1,b2,b3⟩,_⟩:=B2.box4;obtain ⟨⟨a0,a1,a2,a3⟩,_⟩:=B3.box4;go_wp2_with fail;clear b0 b1 b2 b3 a0 a1 a2 a3;refine (TN _).mono ?_;rintro e w4 ⟨rfl,e4⟩;replace B4:=B4.l e4;replace B6:=B6.l e4;replace X:=xt X e4;clear e4 B2 B3 TN;obtain ⟨⟨a0,a1,a2,a3⟩,a4,a5,a6,a7⟩:=B6.box4;have N6:=B6.put 1 (by simp) (iQ v);have N4:=B4.far (p:=⟨b6,1,none⟩) (by simp only;omega) (iQ v);have NX:=xset (p:=⟨b6,1,none⟩) X (by simp only;omega) (iQ v);go_upto_region 7 with fail;obtain ⟨w5,hw5⟩:=nm (w4.setCell ⟨b6,1,none⟩ (iQ v));rw [hw5] at N6 N4 NX ⊢;clear hw5 a0 a1 a2 a3 a4 a5 a6 a7 B4 B6 X;obtain ⟨⟨a0,a1,a2,a3⟩,_⟩:=N6.box4;go_wp2_with fail;refine (G.out _).mono ?_;rintro e w6 ⟨rfl,e6⟩;clear a0 a1 a2 a3;replace N6:=N6.l e6;replace N4:=N4.l e6;replace NX:=xt NX e6;clear e6 G;obtain ⟨⟨a0,a1,a2,a3⟩,_⟩:=N6.box4;obtain ⟨⟨m0,m1,m2,m3⟩,m4,m5,m6,m7⟩:=N4.box4;by_cases h0:v=0
  ·have ZZ:Hid (Value.tuple #[refV 0 0 false false,.bool false]=V):=Z.out h0;have f0:decide (v ≠ 0)=false:=decide_eq_false (fun h=>h h0);rw [f0];clear Z Y f0
   go_wp2
   exact bodyPost_ret (v:=.tuple #[refV 0 0 false false,.bool false]) (by simp [results,Tryz.results7,go_sem,m0,m1,m2,m3]) rfl ⟨congrArg Ending.returned ZZ.out,Ext.set4 (o:=0) NX (by omega) _ _ _ _⟩
  ·have ZZ:Hid (Value.tuple #[refV r v f g,.bool true]=V):=Y.out h0;have f0:decide (v ≠ 0)=true:=decide_eq_true h0;rw [f0];clear Z Y f0
   go_wp2
   exact bodyPost_ret (v:=.tuple #[refV r v f g,.bool true]) (by simp [results,Tryz.results7,go_sem,m0,m1,m2,m3]) rfl ⟨congrArg Ending.returned ZZ.out,Ext.set4 (o:=0) NX (by omega) _ _ _ _⟩
theorem zRY (k a m:Int) (d:Bool) (x y l:Int) (w:World) (hl:limT k=l) (hk:k=1\/k=2) (hm:1<=m/\m<=100) (ha:1<=a/\a<=l) (hd:d=true->a+m - 1<=l) (hx:1<=x/\x<=l) (hy:1<=y/\y<=l) :
  Calls Tryz.prog 54 #[tuV k a m d,iQ x,iQ y] w fun e w'=>e=.returned (if y<x then .tuple #[iQ (lfT l a m d (lo x y) (hi x y)),iQ (lfF l a m d (lo x y) (hi x y)),.bool (!decide (lfF l a m d (lo x y) (hi x y) > lfT l a m d (lo x y) (hi x y)))]
   else .tuple #[iQ (lfF l a m d (lo x y) (hi x y)),iQ (lfT l a m d (lo x y) (hi x y)),.bool (!decide (lfF l a m d (lo x y) (hi x y) > lfT l a m d (lo x y) (hi x y)))])/\Ext w w':=by
 have LO:=zGT x y;have HI:=zFZ x y;have LF:=fun w=>leftI k a m d (lo x y) (hi x y) l w hl hk hm ha hd (by omega) (by omega) (by omega);obtain ⟨F,hF⟩:=nm (lfF l a m d (lo x y) (hi x y));obtain ⟨T,hT⟩:=nm (lfT l a m d (lo x y) (hi x y));rw [hF,hT] at LF;rw [hF,hT];clear hF hT hl hk hm ha hd hx hy;have X:=x1 w (.cells #[iQ k,iQ a,iQ m,.bool d] 24);have B3:=Vec.made4 w (iQ k) (iQ a) (iQ m) (.bool d) 24;obtain ⟨e,he⟩:=nm ((!decide (F > T)));have SE:=fun w=>zGH F T w;obtain ⟨e',he'⟩:=nm (decide (F > T));rw [he'] at SE he;rw [he',he];clear he';by_cases h:y<x
 ·have e1:lo x y=y:=by omega
  have e2:hi x y=x:=by omega
  rw [e1,e2] at LF;rw [if_pos h];have f1:(y<x)=True:=eq_true h;have f3:min x y=y:=by omega
  have f4:max x y=x:=by omega
  have f2:(x<y)=False:=eq_false (by omega);clear LO HI e1 e2 h;go_enter Tryz.func54,Tryz.ntmps54;go_upto_region 1 with fail;obtain ⟨w0,hw0⟩:=nm (w.alloc (.cells #[iQ k,iQ a,iQ m,.bool d] 24));rw [hw0] at X B3 ⊢;clear hw0;obtain ⟨⟨a0,a1,a2,a3⟩,_⟩:=B3.box4;go_wp2_with fail;refine (LF _).mono ?_;rintro rr w1 ⟨rfl,x1'⟩;clear a0 a1 a2 a3 B3 LF;go_upto_region 3 with fail;have B9:=Vec.made2T w1 (iQ F) (iQ T) 109;have x2:=x1 w1 (.cells #[iQ F,iQ T] 109);obtain ⟨w2,hw2⟩:=nm (w1.alloc (.cells #[iQ F,iQ T] 109));rw [hw2] at B9 x2 ⊢;replace X:=xt (xt X x1') x2;clear hw2 x1' x2;obtain ⟨⟨p0,p1⟩,_⟩:=B9.box2;go_region_held3 (fun w'=>w'.cell? ⟨w1.heap.size,0,none⟩=some (iQ F)/\w'.cell? ⟨w1.heap.size,1,none⟩=some (iQ T)) (go_keep) (first
   | (go_at_call 78;refine (SE _).mono ?_;rintro rr w3 ⟨rfl,x3⟩;have x3':Ext w2 w3:=xt (xd (xr _)) x3;clear p0 p1;obtain ⟨⟨p0,p1⟩,_⟩:=(B9.l x3').box2))
  all_goals go_wp2_with fail
  all_goals exact bodyPost_ret (v:=.tuple #[iQ T,iQ F,.bool e]) (by simp [results,Tryz.results54,go_sem]) rfl ⟨rfl,xt X x3'⟩
 rw [if_neg h];by_cases h':x<y
 ·have e1:lo x y=x:=by omega
  have e2:hi x y=y:=by omega
  rw [e1,e2] at LF;have f1:(y<x)=False:=eq_false h;have f2:(x<y)=True:=eq_true h';have f3:min x y=x:=by omega
  have f4:max x y=y:=by omega
  clear LO HI e1 e2 h h';go_enter Tryz.func54,Tryz.ntmps54;go_upto_region 1 with fail;obtain ⟨w0,hw0⟩:=nm (w.alloc (.cells #[iQ k,iQ a,iQ m,.bool d] 24));rw [hw0] at X B3 ⊢;clear hw0;obtain ⟨⟨a0,a1,a2,a3⟩,_⟩:=B3.box4;go_wp2_with fail;refine (LF _).mono ?_;rintro rr w1 ⟨rfl,x1'⟩;clear a0 a1 a2 a3 B3 LF;go_upto_region 4 with fail;have B9:=Vec.made2T w1 (iQ F) (iQ T) 109;have x2:=x1 w1 (.cells #[iQ F,iQ T] 109);obtain ⟨w2,hw2⟩:=nm (w1.alloc (.cells #[iQ F,iQ T] 109));rw [hw2] at B9 x2 ⊢;replace X:=xt (xt X x1') x2;clear hw2 x1' x2;obtain ⟨⟨p0,p1⟩,_⟩:=B9.box2;go_region_held3 (fun w'=>w'.cell? ⟨w1.heap.size,0,none⟩=some (iQ F)/\w'.cell? ⟨w1.heap.size,1,none⟩=some (iQ T)) (go_keep) (first
   | (go_at_call 78;refine (SE _).mono ?_;rintro rr w3 ⟨rfl,x3⟩;have x3':Ext w2 w3:=xt (xd (xr _)) x3;clear p0 p1;obtain ⟨⟨p0,p1⟩,_⟩:=(B9.l x3').box2))
  all_goals go_wp2_with fail
  all_goals exact bodyPost_ret (v:=.tuple #[iQ F,iQ T,.bool e]) (by simp [results,Tryz.results54,go_sem]) rfl ⟨rfl,xt X x3'⟩
 ·obtain rfl:x=y:=by omega
  have e1:lo x x=x:=by omega
  have e2:hi x x=x:=by omega
  rw [e1,e2] at LF;have f1:(x<x)=False:=eq_false h;clear LO HI e1 e2 h h';go_enter Tryz.func54,Tryz.ntmps54;go_upto_region 1 with fail;obtain ⟨w0,hw0⟩:=nm (w.alloc (.cells #[iQ k,iQ a,iQ m,.bool d] 24));rw [hw0] at X B3 ⊢;clear hw0;obtain ⟨⟨a0,a1,a2,a3⟩,_⟩:=B3.box4;go_wp2_with fail;refine (LF _).mono ?_;rintro rr w1 ⟨rfl,x1'⟩;clear a0 a1 a2 a3 B3 LF;go_upto_region 4 with fail;have B9:=Vec.made2T w1 (iQ F) (iQ T) 109;have x2:=x1 w1 (.cells #[iQ F,iQ T] 109);obtain ⟨w2,hw2⟩:=nm (w1.alloc (.cells #[iQ F,iQ T] 109));rw [hw2] at B9 x2 ⊢;replace X:=xt (xt X x1') x2;clear hw2 x1' x2;obtain ⟨⟨p0,p1⟩,_⟩:=B9.box2;go_region_held3 (fun w'=>w'.cell? ⟨w1.heap.size,0,none⟩=some (iQ F)/\w'.cell? ⟨w1.heap.size,1,none⟩=some (iQ T)) (go_keep) (first
   | (go_at_call 78;refine (SE _).mono ?_;rintro rr w3 ⟨rfl,x3⟩;have x3':Ext w2 w3:=xt (xd (xr _)) x3;clear p0 p1;obtain ⟨⟨p0,p1⟩,_⟩:=(B9.l x3').box2))
  all_goals go_wp2_with fail
  all_goals exact bodyPost_ret (v:=.tuple #[iQ F,iQ T,.bool e]) (by simp [results,Tryz.results54,go_sem]) rfl ⟨rfl,xt X x3'⟩
end Go.Proofs.YteliaeejooekbaaGreatDoor

