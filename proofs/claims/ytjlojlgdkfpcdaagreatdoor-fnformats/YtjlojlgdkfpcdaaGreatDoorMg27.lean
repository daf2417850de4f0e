/-
  Several texts in one: SpeD, Sc1, Read, IntS.
-/
import Derived.Test.YtjlojlgdkfpcdaaGreatDoorMg26
import Derived.Test.YtjlojlgdkfpcdaaGreatDoorMg16
import Derived.Test.YtjlojlgdkfpcdaaGreatDoorMg3
import Derived.Test.YtjlojlgdkfpcdaaGreatDoorMg6
import Derived.Test.YtjlojlgdkfpcdaaGreatDoorMg22
import Derived.OwnWalk
import Derived.Laws.OwnMore
import Derived.Test.YtjlojlgdkfpcdaaGreatDoorText
import Derived.Test.YtjlojlgdkfpcdaaGreatDoorMg14
set_option maxRecDepth 8000
set_option maxHeartbeats 2000000
namespace Go.Proofs.YtjlojlgdkfpcdaaGreatDoor
open Go.RowKit
theorem zUG {cal day:Int} (hc:cal=1\/cal=2) (h0:0<=day):zA4 cal (2000+day / 366 - 1)<=day+off cal:=by
 rcases hc with rfl | rfl
 ·simp [zA4,off];omega
 ·simp [zA4,off];omega
theorem zUF {cal day:Int} (hc:cal=1\/cal=2) (h0:day<0):zA4 cal (2000+day / 365 - 2)<=day+off cal:=by
 rcases hc with rfl | rfl
 ·simp [zA4,off];omega
 ·simp [zA4,off];omega
def zDI (w:World) (b o:Nat):Int:=
 match w.cell? ⟨b,o,none⟩ with
 | some v=>intOf v
 | none=>0
theorem zBR {w:World} {b o:Nat} {z:Int} (h:w.cell? ⟨b,o,none⟩=some (iQ z)):zDI w b o=z:=by
 unfold zDI;rw [h];rfl
theorem zDR {b i j:Nat} (h:i ≠ j):(⟨b,i,none⟩:Addr) ≠ ⟨b,j,none⟩:=fun e=>h (by cases e;rfl)
theorem zKG {b g i j:Nat} (h:b ≠ g):(⟨g,i,none⟩:Addr) ≠ ⟨b,j,none⟩:=fun e=>h (by cases e;rfl)
theorem Box3.put0 {w:World} {b:Nat} {v0 v1 v2:Value} (h:Box3 w b v0 v1 v2) (u:Value):Box3 (w.setCell ⟨b,0,none⟩ u) b u v1 v2:=by
 obtain ⟨⟨q0,q1,q2⟩,f0,f1,f2⟩:=h;refine ⟨⟨World.cell?_setCell_same _ _ _ q0,?_,?_⟩,?_,?_,?_⟩
 ·rw [World.cell?_setCell_other _ _ _ _ (zDR (by decide))];exact q1
 ·rw [World.cell?_setCell_other _ _ _ _ (zDR (by decide))];exact q2
 ·simp [World.frozen?_setCell,f0]
 ·simp [World.frozen?_setCell,f1]
 ·simp [World.frozen?_setCell,f2]
theorem Box3.put1 {w:World} {b:Nat} {v0 v1 v2:Value} (h:Box3 w b v0 v1 v2) (u:Value):Box3 (w.setCell ⟨b,1,none⟩ u) b v0 u v2:=by
 obtain ⟨⟨q0,q1,q2⟩,f0,f1,f2⟩:=h;refine ⟨⟨?_,World.cell?_setCell_same _ _ _ q1,?_⟩,?_,?_,?_⟩
 ·rw [World.cell?_setCell_other _ _ _ _ (zDR (by decide))];exact q0
 ·rw [World.cell?_setCell_other _ _ _ _ (zDR (by decide))];exact q2
 ·simp [World.frozen?_setCell,f0]
 ·simp [World.frozen?_setCell,f1]
 ·simp [World.frozen?_setCell,f2]
theorem Box3.put2 {w:World} {b:Nat} {v0 v1 v2:Value} (h:Box3 w b v0 v1 v2) (u:Value):Box3 (w.setCell ⟨b,2,none⟩ u) b v0 v1 u:=by
 obtain ⟨⟨q0,q1,q2⟩,f0,f1,f2⟩:=h;refine ⟨⟨?_,?_,World.cell?_setCell_same _ _ _ q2⟩,?_,?_,?_⟩
 ·rw [World.cell?_setCell_other _ _ _ _ (zDR (by decide))];exact q0
 ·rw [World.cell?_setCell_other _ _ _ _ (zDR (by decide))];exact q1
 ·simp [World.frozen?_setCell,f0]
 ·simp [World.frozen?_setCell,f1]
 ·simp [World.frozen?_setCell,f2]
theorem Box3.farD {w:World} {b g i:Nat} {v0 v1 v2:Value} (h:Box3 w b v0 v1 v2) (hb:b ≠ g) (u:Value):Box3 (w.setCell ⟨g,i,none⟩ u) b v0 v1 v2:=by
 obtain ⟨⟨q0,q1,q2⟩,f0,f1,f2⟩:=h;refine ⟨⟨?_,?_,?_⟩,?_,?_,?_⟩
 ·rw [World.cell?_setCell_other _ _ _ _ (zKG hb)];exact q0
 ·rw [World.cell?_setCell_other _ _ _ _ (zKG hb)];exact q1
 ·rw [World.cell?_setCell_other _ _ _ _ (zKG hb)];exact q2
 ·simp [World.frozen?_setCell,f0]
 ·simp [World.frozen?_setCell,f1]
 ·simp [World.frozen?_setCell,f2]
theorem hi_of {cal day:Int} (hc:cal=1\/cal=2) (n1:day<=1000100):Hid (day+off cal<zA4 cal 20000):=by
 rcases hc with rfl | rfl
 ·have:zA4 1 20000=7304850:=by decide
  simp [Hid,off,this];omega
 ·have:zA4 2 20000=7305000:=by decide
  simp [Hid,off,this];omega
theorem zQ3 (cal day:Int) (w:World) (hc:cal=1\/cal=2) (n0 : -1000100<=day) (n1:day<=1000100) (hd:day<0) :
  Calls Tryz.prog 86 #[iQ cal,iQ day] w fun e w'=>∃ y m d,e=.returned (.agg #[iQ y,iQ m,iQ d])/\(IsDt cal day y m d /\ -20000<=y/\y<=20000)/\Ext w w':=by
 have hi:Hid (day+off cal<zA4 cal 20000):=hi_of hc n1;have FS:Hid (∀ (y:Int) (w:World),-20000<=y->y<=20001->Calls Tryz.prog 148 #[iQ cal,iQ y] w fun e w'=>e=.returned (.tuple #[iQ (zA4 cal y - off cal),.bool true])/\w'=w):=fun y w h1 h2=>firstS cal y w hc (by omega) (by omega);have ML:Hid (∀ (y:Int) (k:Nat) (w:World),k<=11 -> -20000<=y->y<=20000->Calls Tryz.prog 149 #[iQ cal,iQ y,iQ ((k:Int)+1)] w fun e w'=>e=.returned (iQ (mlen cal y ((k:Int)+1)))/\Ext w w'):=fun y k w h1 h2 h3=>mlenS cal y ((k:Int)+1) w hc (by omega) (by omega) (by omega) (by omega);have C1:=fun w=>zMK day 366 w (by omega) (by omega) (by omega);have C2:=fun w=>zMK day 365 w (by omega) (by omega) (by omega);have hd0:decide (day<0)=true:=by simp;omega
 have HS:Hid (zA4 cal (2000+day / 365 - 2)<=day+off cal):=zUF hc hd;have hY : -20000<=2000+day / 365 - 2/\2000+day / 365 - 2<=20000:=by omega
 have oc:730485<=off cal/\off cal<=730487:=by rcases hc with rfl | rfl <;> simp [off]
 have q6 : -5000<=day / 366/\day / 366<=5000:=by omega
 have q5 : -5000<=day / 365/\day / 365<=5000:=by omega
 obtain ⟨Q6,h6⟩:=nm (day / 366);obtain ⟨Q5,h5⟩:=nm (day / 365);rw [h5] at HS hY;rw [h6] at C1 q6;rw [h5] at C2 q5;clear h5 h6 hd hc;go_enter Tryz.func86,Tryz.ntmps86;go_wp2_with fail;refine (C1 _).mono ?_;rintro e w1 ⟨rfl,rfl⟩;go_wp2_with fail;refine (C2 _).mono ?_;rintro e w1 ⟨rfl,rfl⟩;go_wp2_with fail;clear C1 C2 hd0;have hy2:2000+Q5 - 2<20000:=by omega
 go_loopw [7] (fun _ wr=>∃ y:Int,Box3 wr (w.heap.size+1) (.int .i64 y) (.int .i64 1) (.int .i64 1)/\Box3 wr w.heap.size (.int .i64 0) (.int .i64 0) (.int .i64 0)/\Hid (zA4 cal y<=day+off cal) /\ -20000<=y/\y<20000/\Ext w wr) (fun _ wr=>(20000 - zDI wr (w.heap.size+1) 0).toNat)
 case atStart =>
  have B1:=Box3.made (w.alloc (.cells #[iQ 0,iQ 0,iQ 0] 121)) (iQ (2000+Q5 - 2)) (iQ 1) (iQ 1) 121;rw [World.size_alloc] at B1;exact ⟨_,B1,(Box3.made w _ _ _ _).l (x1 _ _),HS,hY.1,hy2,xa (x1 _ _) _⟩
 case round =>
  obtain ⟨y,Bd,Br,HA,y0,y1,X⟩:=hrel;have Bd':=Bd;obtain ⟨⟨q0,q1,q2⟩,g0,g1,g2⟩:=Bd';have ne0:=World.new_ne wr _ q0;have qa0:=fun o=>(Bd.l (x1 wr o)).1.1;have qa1:=fun o=>(Bd.l (x1 wr o)).1.2.1;have qa2:=fun o=>(Bd.l (x1 wr o)).1.2.2;have fa0:=fun o=>(Bd.l (x1 wr o)).2.1;have fa1:=fun o=>(Bd.l (x1 wr o)).2.2.1;have fa2:=fun o=>(Bd.l (x1 wr o)).2.2.2;have F1:Hid (∀ w:World,Calls Tryz.prog 148 #[iQ cal,iQ (y+1)] w fun e w'=>e=.returned (.tuple #[iQ (zA4 cal (y+1) - off cal),.bool true])/\w'=w):=fun w=>FS.out (y+1) w (by omega) (by omega);have F0:Hid (∀ w:World,Calls Tryz.prog 148 #[iQ cal,iQ y] w fun e w'=>e=.returned (.tuple #[iQ (zA4 cal y - off cal),.bool true])/\w'=w):=fun w=>FS.out y w (by omega) (by omega);have hwy:wrap64 (y+1)=y+1:=by unfold wrap64;omega
  obtain ⟨A1,hA1⟩:=nm (zA4 cal (y+1) - off cal);have HA1:Hid (zA4 cal (y+1) - off cal=A1):=hA1;rw [hA1] at F1;clear hA1 HS hY hy2 FS;by_cases hle:A1<=day
  ·have hf:decide (A1 > day)=false:=by simp;omega
   have y2:y+1<20000:=by have h1:=hi.out;have h2:=HA1.out;exact zDA (cal:=cal) (by omega)
   have HN:Hid (zA4 cal (y+1)<=day+off cal):=by have h2:=HA1.out;show zA4 cal (y+1)<=day+off cal;omega
   have RB:Hid (∀ o:Obj,Box3 ((((wr.alloc o).setCell ⟨w.heap.size+1,0,none⟩ (iQ (y+1))).setCell ⟨w.heap.size+1,1,none⟩ (iQ 1)).setCell ⟨w.heap.size+1,2,none⟩ (iQ 1)) (w.heap.size+1) (iQ (y+1)) (iQ 1) (iQ 1)/\Box3 ((((wr.alloc o).setCell ⟨w.heap.size+1,0,none⟩ (iQ (y+1))).setCell ⟨w.heap.size+1,1,none⟩ (iQ 1)).setCell ⟨w.heap.size+1,2,none⟩ (iQ 1)) w.heap.size (iQ 0) (iQ 0) (iQ 0)):=fun o =>
    ⟨(((Bd.l (x1 _ _)).put0 _).put1 _).put2 _,(((Br.l (x1 _ _)).farD (by omega) _).farD (by omega) _).farD (by omega) _⟩
   have HM:Hid (zDI wr (w.heap.size+1) 0=y):=zBR q0;clear Bd Br hle;go_wp2_with fail;refine (F1.out _).mono ?_;rintro e w' ⟨rfl,rfl⟩;go_wp2_with fail;go_roundw
   case rel=>exact ⟨y+1,(RB.out _).1,(RB.out _).2,HN,by omega,y2,xset (xset (xset (xa X _) (Nat.le_succ _) _) (Nat.le_succ _) _) (Nat.le_succ _) _⟩
   case measure=>rw [zBR (RB.out _).1.1.1,HM.out];omega
  ·have hf:decide (A1 > day)=true:=by simp;omega
   have HH:Hid (zG0 cal y (day+off cal)):=⟨HA.out,by have h2:=HA1.out;omega⟩;have Bd1:∀ o,Box3 (wr.alloc o) (w.heap.size+1) (iQ y) (iQ 1) (iQ 1):=fun o=>Bd.l (x1 _ _);have Br1:∀ o,Box3 (wr.alloc o) w.heap.size (iQ 0) (iQ 0) (iQ 0):=fun o=>Br.l (x1 _ _);go_wp2_with fail;refine (F1.out _).mono ?_;rintro e w' ⟨rfl,rfl⟩;go_wp2_with fail;refine (F0.out _).mono ?_;rintro e w' ⟨rfl,rfl⟩;have af:=zFB (cal:=cal) (y:=y) (by omega) (by omega);have Z0:Hid (zBJ cal y (day+off cal) (day - (zA4 cal y - off cal)) 0):=by
    have h:=zBJ.zero HH.out;have e:day+off cal - zA4 cal y=day - (zA4 cal y - off cal):=(by omega);rw [e] at h;exact h
   obtain ⟨L0,hL⟩:=nm (zA4 cal y - off cal);have hL2 : -500000000<=L0/\L0<=500000000:=by omega
   rw [hL] at Z0 ⊢;clear hL af F0 F1 HA1 hf hle HA hwy q0 q1 q2 g0 g1 g2 ne0 qa0 qa1 qa2 fa0 fa1 fa2 Bd Br;go_wp2_with fail;go_loopw [11] (fun a wq=>∃ (k:Nat) (l:Int),a=.int .i64 l/\k<=11/\Hid (zBJ cal y (day+off cal) l k)/\Box3 wq (w.heap.size+1) (.int .i64 y) (.int .i64 ((k:Int)+1)) (.int .i64 1)/\Box3 wq w.heap.size (.int .i64 0) (.int .i64 0) (.int .i64 0)/\Ext w wq) (fun _ wq=>(13 - zDI wq (w.heap.size+1) 1).toNat)
   case atStart=>exact ⟨0,_,by go_num,by omega,Z0,Bd1 _,Br1 _,xa X _⟩
   case round =>
    obtain ⟨k,l,rfl,hk,HM,Bq,Bs,Xq⟩:=hrel;have L:=fun w=>ML.out y k w hk y0 (by omega);have l1:=zBJ.le HH.out HM.out;have l0:=HM.out.2.2;have mp:=zE0 cal y ((k:Int)+1);have HN:=fun h=>zBJ.next HH.out HM.out h;have HD:Hid (l<mlen cal y ((k:Int)+1)->IsDt cal day y ((k:Int)+1) (l+1)):=fun g=>HM.out.done g;obtain ⟨D,hD⟩:=nm (mlen cal y ((k:Int)+1));simp only [hD] at L HN HD mp;have HN':Hid (D<=l->zBJ cal y (day+off cal) (l - D) (k+1)):=HN;have Bq':=Bq;obtain ⟨⟨q0,q1,q2⟩,_⟩:=Bq';clear hD HN Bd1 Br1 Z0 hL2;by_cases hl:D<=l
    ·have HC:Hid (zDI wr (w.heap.size+1) 1=(k:Int)+1):=zBR q1;go_wp2_with fail;refine (L _).mono ?_;rintro e w1 ⟨rfl,e1⟩;have B1:=Bq.l e1;obtain ⟨⟨r0,r1,r2⟩,_⟩:=B1;go_wp2_with fail;refine (L _).mono ?_;rintro e w2 ⟨rfl,e2⟩;have B2:=Bq.l (xt e1 e2);have B2':=B2;obtain ⟨⟨t0,t1,t2⟩,f0,f1,f2⟩:=B2';have RB:Hid (Box3 (w2.setCell ⟨w.heap.size+1,1,none⟩ (iQ ((k:Int)+1+1))) (w.heap.size+1) (iQ y) (iQ ((k:Int)+1+1)) (iQ 1)/\Box3 (w2.setCell ⟨w.heap.size+1,1,none⟩ (iQ ((k:Int)+1+1))) w.heap.size (iQ 0) (iQ 0) (iQ 0)):=⟨B2.put1 _,(Bs.l (xt e1 e2)).farD (by omega) _⟩;clear B2 Bq Bs;go_wp2_with fail;go_roundw
     case rel=>exact ⟨k+1,l - D,by go_num,(HN'.out hl).1,HN'.out hl,RB.out.1,RB.out.2,xset (xt Xq (xt e1 e2)) (Nat.le_succ _) _⟩
     case measure=>rw [zBR RB.out.1.1.2.1,HC.out];omega
    ·go_wp2_with fail;refine (L _).mono ?_;rintro e w1 ⟨rfl,e1⟩;have B1:=Bq.l e1;have B1':=B1;obtain ⟨⟨r0,r1,r2⟩,f0,f1,f2⟩:=B1';obtain ⟨⟨s0,s1,s2⟩,h0,h1,h2⟩:=Bs.l e1;have hw:wrap64 (1+l)=l+1:=(by unfold wrap64;omega);clear B1 Bq Bs;go_wp2_with fail;exact bodyPost_ret (v:=.agg #[iQ y,iQ ((k:Int)+1),iQ (1+l)]) (by simp [results,Tryz.results86,go_sem,s0,s1,s2]) rfl ⟨y,(k:Int)+1,1+l,rfl,⟨by rw [Int.add_comm 1 l];exact HD.out (by omega),y0,by omega⟩,xset (xset (xset (xset (xt Xq e1) (Nat.le_succ _) _) (Nat.le_refl _) _) (Nat.le_refl _) _) (Nat.le_refl _) _⟩
theorem zQ4 (cal day:Int) (w:World) (hc:cal=1\/cal=2) (n0 : -1000100<=day) (n1:day<=1000100) (hd:0<=day) :
  Calls Tryz.prog 86 #[iQ cal,iQ day] w fun e w'=>∃ y m d,e=.returned (.agg #[iQ y,iQ m,iQ d])/\(IsDt cal day y m d /\ -20000<=y/\y<=20000)/\Ext w w':=by
 have hi:Hid (day+off cal<zA4 cal 20000):=hi_of hc n1;have FS:Hid (∀ (y:Int) (w:World),-20000<=y->y<=20001->Calls Tryz.prog 148 #[iQ cal,iQ y] w fun e w'=>e=.returned (.tuple #[iQ (zA4 cal y - off cal),.bool true])/\w'=w):=fun y w h1 h2=>firstS cal y w hc (by omega) (by omega);have ML:Hid (∀ (y:Int) (k:Nat) (w:World),k<=11 -> -20000<=y->y<=20000->Calls Tryz.prog 149 #[iQ cal,iQ y,iQ ((k:Int)+1)] w fun e w'=>e=.returned (iQ (mlen cal y ((k:Int)+1)))/\Ext w w'):=fun y k w h1 h2 h3=>mlenS cal y ((k:Int)+1) w hc (by omega) (by omega) (by omega) (by omega);have C1:=fun w=>zMK day 366 w (by omega) (by omega) (by omega);have C2:=fun w=>zMK day 365 w (by omega) (by omega) (by omega);have hd0:decide (day<0)=false:=by simp;omega
 have HS:Hid (zA4 cal (2000+day / 366 - 1)<=day+off cal):=zUG hc hd;have hY : -20000<=2000+day / 366 - 1/\2000+day / 366 - 1<=20000:=by omega
 have oc:730485<=off cal/\off cal<=730487:=by rcases hc with rfl | rfl <;> simp [off]
 have q6 : -5000<=day / 366/\day / 366<=5000:=by omega
 have q5 : -5000<=day / 365/\day / 365<=5000:=by omega
 obtain ⟨Q6,h6⟩:=nm (day / 366);obtain ⟨Q5,h5⟩:=nm (day / 365);rw [h6] at HS hY;rw [h6] at C1 q6;rw [h5] at C2 q5;clear h5 h6 hd hc;go_enter Tryz.func86,Tryz.ntmps86;go_wp2_with fail;refine (C1 _).mono ?_;rintro e w1 ⟨rfl,rfl⟩;go_wp2_with fail;clear C1 C2 hd0;have hy2:2000+Q6 - 1<20000:=by omega
 go_loopw [7] (fun _ wr=>∃ y:Int,Box3 wr (w.heap.size+1) (.int .i64 y) (.int .i64 1) (.int .i64 1)/\Box3 wr w.heap.size (.int .i64 0) (.int .i64 0) (.int .i64 0)/\Hid (zA4 cal y<=day+off cal) /\ -20000<=y/\y<20000/\Ext w wr) (fun _ wr=>(20000 - zDI wr (w.heap.size+1) 0).toNat)
 case atStart =>
  have B1:=Box3.made (w.alloc (.cells #[iQ 0,iQ 0,iQ 0] 121)) (iQ (2000+Q6 - 1)) (iQ 1) (iQ 1) 121;rw [World.size_alloc] at B1;exact ⟨_,B1,(Box3.made w _ _ _ _).l (x1 _ _),HS,hY.1,hy2,xa (x1 _ _) _⟩
 case round =>
  obtain ⟨y,Bd,Br,HA,y0,y1,X⟩:=hrel;have Bd':=Bd;obtain ⟨⟨q0,q1,q2⟩,g0,g1,g2⟩:=Bd';have ne0:=World.new_ne wr _ q0;have qa0:=fun o=>(Bd.l (x1 wr o)).1.1;have qa1:=fun o=>(Bd.l (x1 wr o)).1.2.1;have qa2:=fun o=>(Bd.l (x1 wr o)).1.2.2;have fa0:=fun o=>(Bd.l (x1 wr o)).2.1;have fa1:=fun o=>(Bd.l (x1 wr o)).2.2.1;have fa2:=fun o=>(Bd.l (x1 wr o)).2.2.2;have F1:Hid (∀ w:World,Calls Tryz.prog 148 #[iQ cal,iQ (y+1)] w fun e w'=>e=.returned (.tuple #[iQ (zA4 cal (y+1) - off cal),.bool true])/\w'=w):=fun w=>FS.out (y+1) w (by omega) (by omega);have F0:Hid (∀ w:World,Calls Tryz.prog 148 #[iQ cal,iQ y] w fun e w'=>e=.returned (.tuple #[iQ (zA4 cal y - off cal),.bool true])/\w'=w):=fun w=>FS.out y w (by omega) (by omega);have hwy:wrap64 (y+1)=y+1:=by unfold wrap64;omega
  obtain ⟨A1,hA1⟩:=nm (zA4 cal (y+1) - off cal);have HA1:Hid (zA4 cal (y+1) - off cal=A1):=hA1;rw [hA1] at F1;clear hA1 HS hY hy2 FS;by_cases hle:A1<=day
  ·have hf:decide (A1 > day)=false:=by simp;omega
   have y2:y+1<20000:=by have h1:=hi.out;have h2:=HA1.out;exact zDA (cal:=cal) (by omega)
   have HN:Hid (zA4 cal (y+1)<=day+off cal):=by have h2:=HA1.out;show zA4 cal (y+1)<=day+off cal;omega
   have RB:Hid (∀ o:Obj,Box3 ((((wr.alloc o).setCell ⟨w.heap.size+1,0,none⟩ (iQ (y+1))).setCell ⟨w.heap.size+1,1,none⟩ (iQ 1)).setCell ⟨w.heap.size+1,2,none⟩ (iQ 1)) (w.heap.size+1) (iQ (y+1)) (iQ 1) (iQ 1)/\Box3 ((((wr.alloc o).setCell ⟨w.heap.size+1,0,none⟩ (iQ (y+1))).setCell ⟨w.heap.size+1,1,none⟩ (iQ 1)).setCell ⟨w.heap.size+1,2,none⟩ (iQ 1)) w.heap.size (iQ 0) (iQ 0) (iQ 0)):=fun o =>
    ⟨(((Bd.l (x1 _ _)).put0 _).put1 _).put2 _,(((Br.l (x1 _ _)).farD (by omega) _).farD (by omega) _).farD (by omega) _⟩
   have HM:Hid (zDI wr (w.heap.size+1) 0=y):=zBR q0;clear Bd Br hle;go_wp2_with fail;refine (F1.out _).mono ?_;rintro e w' ⟨rfl,rfl⟩;go_wp2_with fail;go_roundw
   case rel=>exact ⟨y+1,(RB.out _).1,(RB.out _).2,HN,by omega,y2,xset (xset (xset (xa X _) (Nat.le_succ _) _) (Nat.le_succ _) _) (Nat.le_succ _) _⟩
   case measure=>rw [zBR (RB.out _).1.1.1,HM.out];omega
  ·have hf:decide (A1 > day)=true:=by simp;omega
   have HH:Hid (zG0 cal y (day+off cal)):=⟨HA.out,by have h2:=HA1.out;omega⟩;have Bd1:∀ o,Box3 (wr.alloc o) (w.heap.size+1) (iQ y) (iQ 1) (iQ 1):=fun o=>Bd.l (x1 _ _);have Br1:∀ o,Box3 (wr.alloc o) w.heap.size (iQ 0) (iQ 0) (iQ 0):=fun o=>Br.l (x1 _ _);go_wp2_with fail;refine (F1.out _).mono ?_;rintro e w' ⟨rfl,rfl⟩;go_wp2_with fail;refine (F0.out _).mono ?_;rintro e w' ⟨rfl,rfl⟩;have af:=zFB (cal:=cal) (y:=y) (by omega) (by omega);have Z0:Hid (zBJ cal y (day+off cal) (day - (zA4 cal y - off cal)) 0):=by
    have h:=zBJ.zero HH.out;have e:day+off cal - zA4 cal y=day - (zA4 cal y - off cal):=(by omega);rw [e] at h;exact h
   obtain ⟨L0,hL⟩:=nm (zA4 cal y - off cal);have hL2 : -500000000<=L0/\L0<=500000000:=by omega
   rw [hL] at Z0 ⊢;clear hL af F0 F1 HA1 hf hle HA hwy q0 q1 q2 g0 g1 g2 ne0 qa0 qa1 qa2 fa0 fa1 fa2 Bd Br;go_wp2_with fail;go_loopw [11] (fun a wq=>∃ (k:Nat) (l:Int),a=.int .i64 l/\k<=11/\Hid (zBJ cal y (day+off cal) l k)/\Box3 wq (w.heap.size+1) (.int .i64 y) (.int .i64 ((k:Int)+1)) (.int .i64 1)/\Box3 wq w.heap.size (.int .i64 0) (.int .i64 0) (.int .i64 0)/\Ext w wq) (fun _ wq=>(13 - zDI wq (w.heap.size+1) 1).toNat)
   case atStart=>exact ⟨0,_,by go_num,by omega,Z0,Bd1 _,Br1 _,xa X _⟩
   case round =>
    obtain ⟨k,l,rfl,hk,HM,Bq,Bs,Xq⟩:=hrel;have L:=fun w=>ML.out y k w hk y0 (by omega);have l1:=zBJ.le HH.out HM.out;have l0:=HM.out.2.2;have mp:=zE0 cal y ((k:Int)+1);have HN:=fun h=>zBJ.next HH.out HM.out h;have HD:Hid (l<mlen cal y ((k:Int)+1)->IsDt cal day y ((k:Int)+1) (l+1)):=fun g=>HM.out.done g;obtain ⟨D,hD⟩:=nm (mlen cal y ((k:Int)+1));simp only [hD] at L HN HD mp;have HN':Hid (D<=l->zBJ cal y (day+off cal) (l - D) (k+1)):=HN;have Bq':=Bq;obtain ⟨⟨q0,q1,q2⟩,_⟩:=Bq';clear hD HN Bd1 Br1 Z0 hL2;by_cases hl:D<=l
    ·have HC:Hid (zDI wr (w.heap.size+1) 1=(k:Int)+1):=zBR q1;go_wp2_with fail;refine (L _).mono ?_;rintro e w1 ⟨rfl,e1⟩;have B1:=Bq.l e1;obtain ⟨⟨r0,r1,r2⟩,_⟩:=B1;go_wp2_with fail;refine (L _).mono ?_;rintro e w2 ⟨rfl,e2⟩;have B2:=Bq.l (xt e1 e2);have B2':=B2;obtain ⟨⟨t0,t1,t2⟩,f0,f1,f2⟩:=B2';have RB:Hid (Box3 (w2.setCell ⟨w.heap.size+1,1,none⟩ (iQ ((k:Int)+1+1))) (w.heap.size+1) (iQ y) (iQ ((k:Int)+1+1)) (iQ 1)/\Box3 (w2.setCell ⟨w.heap.size+1,1,none⟩ (iQ ((k:Int)+1+1))) w.heap.size (iQ 0) (iQ 0) (iQ 0)):=⟨B2.put1 _,(Bs.l (xt e1 e2)).farD (by omega) _⟩;clear B2 Bq Bs;go_wp2_with fail;go_roundw
     case rel=>exact ⟨k+1,l - D,by go_num,(HN'.out hl).1,HN'.out hl,RB.out.1,RB.out.2,xset (xt Xq (xt e1 e2)) (Nat.le_succ _) _⟩
     case measure=>rw [zBR RB.out.1.1.2.1,HC.out];omega
    ·go_wp2_with fail;refine (L _).mono ?_;rintro e w1 ⟨rfl,e1⟩;have B1:=Bq.l e1;have B1':=B1;obtain ⟨⟨r0,r1,r2⟩,f0,f1,f2⟩:=B1';obtain ⟨⟨s0,s1,s2⟩,h0,h1,h2⟩:=Bs.l e1;have hw:wrap64 (1+l)=l+1:=(by unfold wrap64;omega);clear B1 Bq Bs;go_wp2_with fail;exact bodyPost_ret (v:=.agg #[iQ y,iQ ((k:Int)+1),iQ (1+l)]) (by simp [results,Tryz.results86,go_sem,s0,s1,s2]) rfl ⟨y,(k:Int)+1,1+l,rfl,⟨by rw [Int.add_comm 1 l];exact HD.out (by omega),y0,by omega⟩,xset (xset (xset (xset (xt Xq e1) (Nat.le_succ _) _) (Nat.le_refl _) _) (Nat.le_refl _) _) (Nat.le_refl _) _⟩
theorem zTO (cal day:Int) (w:World) (hc:cal=1\/cal=2) (n0 : -1000100<=day) (n1:day<=1000100) :
  Calls Tryz.prog 86 #[iQ cal,iQ day] w fun e w'=>∃ y m d,e=.returned (.agg #[iQ y,iQ m,iQ d])/\(IsDt cal day y m d /\ -20000<=y/\y<=20000)/\Ext w w':=by
 by_cases hd:day<0
 ·exact zQ3 cal day w hc n0 n1 hd
 ·exact zQ4 cal day w hc n0 n1 (by omega)
def zC0 (y mo da sec:Int) (m:BLs):BLs:=
 if m=[121,121,121,121] then zFD y
 else if m=[121,121] then padT ((y.natAbs:Int) % 100) 2
 else if m=[109,109] then padT mo 2
 else if m=[109] then padT mo 1
 else if m=[100,100] then padT da 2
 else if m=[100] then padT da 1
 else if m=[104,104] then padT (sec / 3600) 2
 else if m=[110,110] then padT (sec / 60 % 60) 2
 else if m=[115,115] then padT (sec % 60) 2
 else m
def zCH (y mo da sec:Int):List BLs->BLs
 | []=>[]
 | m :: r=>zC0 y mo da sec m++zCH y mo da sec r
theorem zPZ (y mo da sec:Int) (a:List BLs) (m:BLs):zCH y mo da sec (a++[m])=zCH y mo da sec a++zC0 y mo da sec m:=by
 induction a with
 | nil=>simp [zCH]
 | cons x r ih=>rw [List.cons_append,zCH,zCH,ih,List.append_assoc]
theorem zNL {n:Int}:padT n 1=Lib.decDigits n.toNat:=by
 unfold padT;have h:1<=(Lib.decDigits n.toNat).length:=by
  rw [Lib.decDigits]
  split <;> simp
 rw [show 1 - (Lib.decDigits n.toNat).length=0 by omega];rfl
theorem zKB {u:Nat} (h:10<=u):Lib.decDigits u=Lib.decDigits (u / 10)++[UInt8.ofNat (48+u % 10)]:=by
 rw [Lib.decDigits,dif_neg (by omega)]
theorem zU7 {a:Nat} (h:a<=9999):(padT (a:Int) 4).length=4/\(padT (a:Int) 4).drop 2=padT ((a:Int) % 100) 2:=by
 have ea:((a:Nat):Int).toNat=a:=rfl;have em:((a:Int) % 100).toNat=a % 100:=by omega
 unfold padT;rw [ea,em];have hr:a % 100<100:=Nat.mod_lt _ (by decide);have h2:Lib.decDigits (a % 100)=if a % 100<10 then [UInt8.ofNat (48+a % 100)] else [UInt8.ofNat (48+a % 100 / 10),UInt8.ofNat (48+a % 100 % 10)]:=by
  split
  ·next q=>exact Lib.decDigits_one q
  ·next q =>
   rw [zKB (by omega),Lib.decDigits_one (by omega)];rfl
 have e10:a % 100 % 10=a % 10:=by omega
 have e1:a % 100 / 10=a / 10 % 10:=by omega
 rw [h2];by_cases h10:a<10
 ·rw [Lib.decDigits_one h10,show a % 100=a by omega,if_pos h10];exact ⟨rfl,rfl⟩
 ·by_cases h100:a<100
  ·rw [zKB (by omega),Lib.decDigits_one (by omega),show a % 100=a by omega,if_neg h10];exact ⟨rfl,rfl⟩
  ·have e3:a / 10 / 10=a / 100:=Nat.div_div_eq_div_mul _ _ _;have hd:Lib.decDigits a=Lib.decDigits (a / 100)++[UInt8.ofNat (48+a / 10 % 10),UInt8.ofNat (48+a % 10)]:=by
    rw [zKB (by omega),zKB (u:=a / 10) (by omega),e3,List.append_assoc];rfl
   have hl:1<=(Lib.decDigits (a / 100)).length/\(Lib.decDigits (a / 100)).length<=2:=zFA 1 (a / 100) (by omega);rw [hd,e1,e10];have ht:(if a % 100<10 then [UInt8.ofNat (48+a % 100)] else [UInt8.ofNat (48+a / 10 % 10),UInt8.ofNat (48+a % 10)])=if a % 100<10 then [UInt8.ofNat (48+a % 10)] else [UInt8.ofNat (48+a / 10 % 10),UInt8.ofNat (48+a % 10)]:=by
    split
    ·rw [show a % 100=a % 10 by omega]
    ·rfl
   rw [ht];obtain ⟨L,hL⟩:=nm (Lib.decDigits (a / 100));rw [hL] at hl ⊢;obtain ⟨x,hx⟩:=nm (UInt8.ofNat (48+a / 10 % 10));obtain ⟨z,hz⟩:=nm (UInt8.ofNat (48+a % 10));have hx0:a % 100<10->x=48:=fun q=>by rw [<- hx,show a / 10 % 10=0 by omega];rfl
   rw [hx,hz]
   match L,hl with
   | [c],_ =>
    refine ⟨rfl,?_⟩
    split
    ·next q=>rw [hx0 q];rfl
    ·rfl
   | [c,c'],_ =>
    refine ⟨rfl,?_⟩
    split
    ·next q=>rw [hx0 q];rfl
    ·rfl
theorem zB4 {n:Int} {k:Nat} (n0:0<=n) (n1:n<=9999) (hk:k<=4):(padT n k).length<=19:=by
 have h:=zEU n0 n1;simp only [padT,List.length_append,List.length_replicate];omega
theorem zQE {y:Int} (y0 : -9999<=y) (y1:y<=9999):(zFD y).length<=20:=by
 unfold zFD
 split
 ·have:=zB4 (n:=-y) (k:=4) (by omega) (by omega) (by omega);rw [List.length_cons];omega
 ·have:=zB4 (n:=y) (k:=4) (by omega) (by omega) (by omega);omega
theorem zQI:∀ m ∈ zAG,m.length<=4:=by decide
theorem zQK {y mo da sec:Int} {m:BLs} (y0 : -9999<=y) (y1:y<=9999) (m0:0<=mo) (m1:mo<=12) (d0:0<=da) (d1:da<=31) (s0:0<=sec) (s1:sec<=1000000) (hm:m ∈ zAG):(zC0 y mo da sec m).length<=20:=by
 unfold zC0;have hl:=zQI m hm
 split
 ·exact zQE y0 y1
 ·split
  ·have:=zB4 (n:=(y.natAbs:Int) % 100) (k:=2) (by omega) (by omega) (by omega);omega
  ·split
   ·have:=zB4 (n:=mo) (k:=2) (by omega) (by omega) (by omega);omega
   ·split
    ·have:=zB4 (n:=mo) (k:=1) (by omega) (by omega) (by omega);omega
    ·split
     ·have:=zB4 (n:=da) (k:=2) (by omega) (by omega) (by omega);omega
     ·split
      ·have:=zB4 (n:=da) (k:=1) (by omega) (by omega) (by omega);omega
      ·split
       ·have:=zB4 (n:=sec / 3600) (k:=2) (by omega) (by omega) (by omega);omega
       ·split
        ·have:=zB4 (n:=sec / 60 % 60) (k:=2) (by omega) (by omega) (by omega);omega
        ·split
         ·have:=zB4 (n:=sec % 60) (k:=2) (by omega) (by omega) (by omega);omega
         ·omega
theorem zFY {y mo da sec:Int} (y0 : -9999<=y) (y1:y<=9999) (m0:0<=mo) (m1:mo<=12) (d0:0<=da) (d1:da<=31) (s0:0<=sec) (s1:sec<=1000000):∀ (l:List BLs),(∀ m ∈ l,m ∈ zAG)->(zCH y mo da sec l).length<=20 * l.length
 | [],_=>Nat.zero_le _
 | m :: r,h=>by
  have h1:=zQK y0 y1 m0 m1 d0 d1 s0 s1 (h m (by simp));have h2:=zFY y0 y1 m0 m1 d0 d1 s0 s1 r (fun x hx=>h x (by simp [hx]));rw [zCH,List.length_append,List.length_cons];omega
theorem zIH (l:BL) (h:zAC l ≠ []):zAC l ∈ zAG:=by
 unfold zAC at h ⊢;cases hf:zAG.find? fun o=>Lib.hasPrefix l o with
 | none=>rw [hf] at h;exact absurd rfl h
 | some o=>exact List.mem_of_find?_eq_some hf
theorem zCE:∀ (f:Nat) (l:BL) (ps:List BL),zA6 f l=some ps->∀ m ∈ ps,m ∈ zAG
 | 0,l,ps,h=>by
  rw [zA6] at h
  split at h
  ·cases h;intro m hm;cases hm
  ·cases h
 | f+1,l,ps,h=>by
  rw [zA6] at h
  split at h
  ·cases h;intro m hm;cases hm
  ·split at h
   ·cases h
   ·next hw =>
    cases hp:zA6 f (l.drop (zAC l).length) with
    | none=>rw [hp] at h;cases h
    | some qs =>
     rw [hp] at h;cases h;intro m hm
     rcases List.mem_cons.1 hm with rfl | hm
     ·exact zIH l hw
     ·exact zCE f _ qs hp m hm
noncomputable def ymdZ (z:Int):Int × Int × Int:=open Classical in if h:∃ p:Int × Int × Int,IsDt 1 z p.1 p.2.1 p.2.2 then Classical.choose h else (0,0,0)
theorem zQD {z y m d:Int} (h:IsDt 1 z y m d):ymdZ z=(y,m,d):=by
 unfold ymdZ;have hx:∃ p:Int × Int × Int,IsDt 1 z p.1 p.2.1 p.2.2:=⟨(y,m,d),h⟩;rw [dif_pos hx];have hc:=Classical.choose_spec hx;obtain ⟨h1,h2,h3⟩:=hc.one h;exact Prod.ext h1 (Prod.ext h2 h3)
theorem zT0 {z y m d:Int} (h:IsDt 1 z y m d) (h0 : -1000001<=z) (h1:z<=1000001) : -5000<=y/\y<=9999:=by
 have hh:=h.holds;have o:off 1=730485:=rfl;constructor
 ·apply Classical.byContradiction;intro hy;have:=zDQ 1 (a:=y+1) (b:=-5000) (by omega);have hl:zA4 1 (-5000) <= -1800000:=by unfold zA4;decide
  have:=hh.2;omega
 ·apply Classical.byContradiction;intro hy;have:=zDQ 1 (a:=9999) (b:=y) (by omega);have hl:3000000<=zA4 1 9999:=by unfold zA4;decide
  have:=hh.1;omega
theorem zME {z y m d:Int} (h:IsDt 1 z y m d) (h0 : -1000000<=z) (h1:z<=1000000):(-5000<=y/\y<=9999)/\(1<=m/\m<=12)/\1<=d/\d<=31:=by
 have hy:=zT0 h (by omega) (by omega);have:=zE0 1 y m;obtain ⟨a,b,c,e,_⟩:=h;exact ⟨hy,⟨a,b⟩,c,by omega⟩
theorem infoR:(Tryz.prog.info? 146).map (fun i=>(i.zero,i.size,i.bytes))=some (some (.int .u32 0),1,4):=by kernel_rfl
theorem Row.owned {w:World} {base:Nat} {v:Value} {fs:List Int} (h:w.ownsRow base 146 1 v fs.length (fs.map (Value.int .u32))):Row w v fs:=by
 obtain ⟨_,h | ⟨g,cap,cur,rfl,_,hg,h1,h2,h3,h4⟩⟩:=h
 ·obtain ⟨rfl,h0⟩:=h;exact ⟨none,0,by rw [h0],by omega,by decide,.inl ⟨rfl,rfl⟩⟩
 ·refine ⟨_,cap,rfl,h1,by unfold maxLen at h2;exact h2,.inr ⟨g,0,rfl,fun i hi=>?_⟩⟩;rw [Nat.zero_add,cell_of_row w g i cur 146 (0,0) hg];have e:cur[i]?=(cur.toList.take (fs.length * 1))[i]?:=by
   rw [List.getElem?_take,if_pos (by omega)];simp
  rw [e,h4];simp [hi]
def OwnL (w:World) (B:Nat) (v:Value) (xs:List Int):Prop:=w.ownsRow B 146 1 v xs.length (xs.map (Value.int .u32))
theorem OwnL.nil (w:World) (B:Nat):OwnL w B (.slice none 0 0) []:=⟨rfl,.inl ⟨rfl,rfl⟩⟩
theorem OwnL.block {w:World} {B:Nat} {v:Value} {xs:List Int} (h:OwnL w B v xs):∀ k,v.ownBlock=some k->B<=k:=by
 intro k hk
 rcases h.2 with ⟨rfl,_⟩ | ⟨g,cap,cur,rfl,hg,_⟩
 ·cases hk
 ·cases hk;exact hg
theorem zP1 {s:ByteArray} {ds:List Int} (w:World) (hp:zQC s ds) (hd:D10 ds) (n0:0<ds.length) (n1:ds.length<=1000000) :
  Calls Tryz.prog 144 #[.string s] w fun e w'=>∃ v',e=.returned v'/\ZV w' v' (dv ds)/\Ext w w':=by
 obtain ⟨i0,hi,hz0,hz1,hz2⟩:=info_parts infoR;have hsz:=hp.size;have h0:0<s.size:=by omega
 have hb0:=hp.at hd (p:=0) (k:=ds.length - 1) (by omega) h0;have hd0:=hd.getD (ds.length - 1);obtain ⟨d0,ed0⟩:=nm (ds.getD (ds.length - 1) 0);rw [ed0] at hb0 hd0;obtain ⟨d1,d2⟩:=hd0;have hne:((48+d0:Int) == 45)=false:=by rw [beq_eq_false_iff_ne];omega
 clear ed0;go_enter Tryz.func144,Tryz.ntmps144;go_wp2_with fail;clear hb0 hne d1 d2 h0;obtain ⟨W1,hW1⟩:=nm (w.alloc (.cells #[iQ 0,.bool false,.slice none 0 0] 103));have BX:=Box3.made w (iQ 0) (.bool false) (.slice none 0 0) 103;have X1:=x1 w (.cells #[iQ 0,.bool false,.slice none 0 0] 103);rw [hW1] at BX X1;rw [hW1];obtain ⟨B,hB⟩:=nm (W1.heap.size);clear hW1;go_loopw [4,5] (fun d en wr=>∃ (m:Nat) (xs:List Int) (E:Int),E=(ds.length:Int) - 9 * (m:Int) /\ -9<E/\en=.int .i64 E/\OwnL wr B d xs/\zEL ds xs m/\Ext W1 wr) (fun _ en _=>(intOf en+9).toNat)
 case atStart=>exact ⟨0,[],_,by simp,by omega,rfl,OwnL.nil _ _,zEL.start ds,xr _⟩
 case round =>
  obtain ⟨m,xs,E,hE,hE9,rfl,hO,hA,X⟩:=hrel;have HE:Hid (E=(ds.length:Int) - 9 * (m:Int)):=hE;by_cases hpos:0<E
  ·have hE2:E<=1000000:=by omega
   obtain ⟨hh,hhm⟩:∃ hh,hh=min (9 * m+9) ds.length:=⟨_,rfl⟩;by_cases hbig:E - 9<0
   ·have hh2:hh=ds.length:=(by omega);clear hE;go_wp2_with fail
    go_loop [7,8] (fun x i=>∃ k p:Nat,9 * m<=k/\k<=hh/\p+k=ds.length/\i=.int .i64 p/\x=.int .u32 (dv ((ds.take hh).drop k))) (fun _ i=>ds.length - (intOf i).toNat)
    case atStart=>exact ⟨hh,ds.length - hh,by have:=HE.out;omega,Nat.le_refl _,by have:=HE.out;omega,by have:=HE.out;congr 1;omega,by rw [List.drop_eq_nil_of_le (by simp;omega)];rfl⟩
    case round =>
     obtain ⟨k,p,k1,k2,pk,rfl,rfl⟩:=hrel;by_cases hk:k=9 * m
     ·subst hk;have hE:=HE.out;have hpE:(p:Int)=E:=(by omega);have HS:Hid (zEL ds (xs++[dv ((ds.take hh).drop (9 * m))]) (m+1)):=hA.step hd (by omega) hhm;have hb:=zMO hd hh (9 * m) (by omega);obtain ⟨x,ex⟩:=nm (dv ((ds.take hh).drop (9 * m)));rw [ex] at HS hb;rw [ex];have HO:Hid (OwnL wr B u4 xs):=hO;have hl:xs.length<=1000000:=(by rw [hA.1];omega);have hBs:B<=wr.heap.size:=(by have:=X.size;omega);have HU:=hO.block;clear ex hA hO hE;go_wp2_with (at_builtin;refine wpList_append_own _ rfl _ _ 101 rfl B 146 i0 (.int .u32 0) 1 4 Tryz.underlying101 hi hz0 hz1 hz2 rfl (by decide) _ _ _ rfl (HO.out.alloc _) ⟨wr.heap.size,0,none⟩ 1 1 _ rfl rfl (cell_one_new _ _ _) (by intro u hu;simp at hu;subst hu;rfl) (by unfold maxLen;omega) (by omega) (by simp;omega) ?_;intro v5 w5 hown5 hgrow5 hnil5);go_roundw
      case rel =>
       refine ⟨m+1,xs++[x],E - 9,by rw [HE.out];omega,by omega,rfl,?_,HS.out,(xa X _).grown hgrow5 (by simp;omega) (fun k hk=>by rw [hB];exact HU k hk)⟩;unfold OwnL;simpa using hown5
      case measure=>simp [intOf];omega
     ·obtain ⟨j,rfl⟩:∃ j,k=j+1:=⟨k - 1,by omega⟩;have hE:=HE.out;have hps:p<s.size:=(by omega);have hpl:(p:Int)<E:=(by omega);have hb:=hp.at hd (p:=p) (k:=j) (by omega) hps;have hdj:=hd.getD j;have hx:=zO3 hd hh (j+1) (by omega);have HS:Hid (_=_):=zMN ds hh j (by omega) (by omega);obtain ⟨x,ex⟩:=nm (dv ((ds.take hh).drop (j+1)));obtain ⟨d,ed⟩:=nm (ds.getD j 0);rw [ex] at HS hx;rw [ed] at HS hdj hb;rw [ex];obtain ⟨x0,x1'⟩:=hx;obtain ⟨f0,f1⟩:=hdj;clear ex ed hA hO hE;go_wp2_with fail
      go_round
      case rel=>exact ⟨j,p+1,by omega,by omega,by omega,by go_num,by rw [HS.out];congr 1;omega⟩
      case measure=>simp [intOf];omega
   ·have hh2:hh=9 * m+9:=(by omega);clear hE;go_wp2_with fail
    go_loop [7,8] (fun x i=>∃ k p:Nat,9 * m<=k/\k<=hh/\p+k=ds.length/\i=.int .i64 p/\x=.int .u32 (dv ((ds.take hh).drop k))) (fun _ i=>ds.length - (intOf i).toNat)
    case atStart=>exact ⟨hh,ds.length - hh,by have:=HE.out;omega,Nat.le_refl _,by have:=HE.out;omega,by have:=HE.out;congr 1;omega,by rw [List.drop_eq_nil_of_le (by simp;omega)];rfl⟩
    case round =>
     obtain ⟨k,p,k1,k2,pk,rfl,rfl⟩:=hrel;by_cases hk:k=9 * m
     ·subst hk;have hE:=HE.out;have hpE:(p:Int)=E:=(by omega);have HS:Hid (zEL ds (xs++[dv ((ds.take hh).drop (9 * m))]) (m+1)):=hA.step hd (by omega) hhm;have hb:=zMO hd hh (9 * m) (by omega);obtain ⟨x,ex⟩:=nm (dv ((ds.take hh).drop (9 * m)));rw [ex] at HS hb;rw [ex];have HO:Hid (OwnL wr B u4 xs):=hO;have hl:xs.length<=1000000:=(by rw [hA.1];omega);have hBs:B<=wr.heap.size:=(by have:=X.size;omega);have HU:=hO.block;clear ex hA hO hE;go_wp2_with (at_builtin;refine wpList_append_own _ rfl _ _ 101 rfl B 146 i0 (.int .u32 0) 1 4 Tryz.underlying101 hi hz0 hz1 hz2 rfl (by decide) _ _ _ rfl (HO.out.alloc _) ⟨wr.heap.size,0,none⟩ 1 1 _ rfl rfl (cell_one_new _ _ _) (by intro u hu;simp at hu;subst hu;rfl) (by unfold maxLen;omega) (by omega) (by simp;omega) ?_;intro v5 w5 hown5 hgrow5 hnil5);go_roundw
      case rel =>
       refine ⟨m+1,xs++[x],E - 9,by rw [HE.out];omega,by omega,rfl,?_,HS.out,(xa X _).grown hgrow5 (by simp;omega) (fun k hk=>by rw [hB];exact HU k hk)⟩;unfold OwnL;simpa using hown5
      case measure=>simp [intOf];omega
     ·obtain ⟨j,rfl⟩:∃ j,k=j+1:=⟨k - 1,by omega⟩;have hE:=HE.out;have hps:p<s.size:=(by omega);have hpl:(p:Int)<E:=(by omega);have hb:=hp.at hd (p:=p) (k:=j) (by omega) hps;have hdj:=hd.getD j;have hx:=zO3 hd hh (j+1) (by omega);have HS:Hid (_=_):=zMN ds hh j (by omega) (by omega);obtain ⟨x,ex⟩:=nm (dv ((ds.take hh).drop (j+1)));obtain ⟨d,ed⟩:=nm (ds.getD j 0);rw [ex] at HS hx;rw [ed] at HS hdj hb;rw [ex];obtain ⟨x0,x1'⟩:=hx;obtain ⟨f0,f1⟩:=hdj;clear ex ed hA hO hE;go_wp2_with fail
      go_round
      case rel=>exact ⟨j,p+1,by omega,by omega,by omega,by go_num,by rw [HS.out];congr 1;omega⟩
      case measure=>simp [intOf];omega
  ·have HD:Hid (Lim xs/\lv xs=dv ds):=hA.done (by omega);have HR:Hid (Row wr u4 xs):=Row.owned hO;have B3:=BX.l X;have X3:=xt X1 X;clear hA hO hE BX X1 X hp hd;go_wp2_with fail;refine (zES false _ HR.out HD.out.1).mono ?_;rintro e w2 ⟨v',rfl,hz2',e2⟩;rw [show sgn false (lv xs)=dv ds from HD.out.2] at hz2';obtain ⟨a0',a1',p',n',cap',rfl⟩:=hz2'.shape;have B4:=B3.l e2;have Hz:=hz2'.set3 B4 (iQ a0') (.bool a1') (.slice p' n' cap');have Hx:=Ext.set3 (b:=w.heap.size) (xt X3 e2) (Nat.le_refl _) (iQ a0') (.bool a1') (.slice p' n' cap');obtain ⟨⟨r0,r1,r2⟩,s0,s1,s2⟩:=B4
   go_wp2
   exact bodyPost_ret (v:=.agg #[iQ a0',.bool a1',.slice p' n' cap']) (by simp [results,Tryz.results144,go_sem,r0,r1,r2]) rfl ⟨_,rfl,Hz,Hx⟩
def maxT:ByteArray:=⟨#[57,50,50,51,51,55,50,48,51,54,56,53,52,55,55,53,56,48,55]⟩
theorem zUO (w:World):Calls Tryz.prog 144 #[.string ⟨#[57,50,50,51,51,55,50,48,51,54,56,53,52,55,55,53,56,48,55]⟩] w fun e w'=>∃ v',e=.returned v'/\ZV w' v' 9223372036854775807/\Ext w w':=by
 have h:=zP1 (s:=maxT) (ds:=[7,0,8,5,7,7,4,5,8,6,3,0,2,7,3,3,2,2,9]) w (by unfold zQC maxT;decide) (by unfold D10;decide) (by decide) (by decide);exact h
theorem int_abs {n:Bool} {d e:Int} (g:zA1 n d e=true):((sgn n d * 10 ^ e.toNat).natAbs:Int)=d * 10 ^ e.toNat/\(sgn n d * 10 ^ e.toNat<0 ↔ n=true):=by
 obtain ⟨g0,_,g2⟩:=zBQ g;have hp:(0:Int)<10 ^ e.toNat:=Int.pow_pos (by decide);generalize (10:Int) ^ e.toNat=p at *;have h1:0<=d * p:=Int.mul_nonneg g0 (by omega);cases n
 ·simp only [sgn];constructor
  ·simp;omega
  ·simp;omega
 ·have:0<d:=by
   by_cases hd:d=0
   ·have:=(g2 hd).2;cases this
   ·omega
  have h2:0<d * p:=Int.mul_pos this hp;simp only [sgn,if_true,Int.neg_mul];constructor
  ·omega
  ·simp;omega
theorem zVL {n:Bool} {d e:Int} (g0:0<=d) (g1:d<1000000000000000) (j0:0<=e) (j1:e<=20):((sgn n d * 10 ^ e.toNat).natAbs:Int)<1000000000 ^ 80:=by
 have h1:=zK5 (neg:=n) 40 (by decide) g0 (by omega);have h2:=zK4 (n:=e) 40 (by omega);rw [Int.natAbs_mul,Int.natCast_mul,show (80:Nat)=40+40 from rfl,Int.pow_add];have k0:=zDX 40;generalize (1000000000:Int) ^ 40=K at *;exact Int.lt_of_le_of_lt (Int.mul_le_mul_of_nonneg_left (Int.le_of_lt h2) (Int.natCast_nonneg _)) (Int.mul_lt_mul_of_pos_right h1 k0)
theorem intS (n:Bool) (d e:Int) (w:World) :
  Calls Tryz.prog 81 #[.agg #[.bool n,iQ d,iQ e]] w fun r w'=>r=.returned (.tuple #[iQ (intR n d e),.bool (zCF n d e)])/\Ext w w':=by
 go_enter Tryz.func81,Tryz.ntmps81;go_wp2_with fail;refine (zVR n d e _).mono ?_;rintro r w1 ⟨rfl,e1⟩;have B:=(Box3.made w (.bool n) (iQ d) (iQ e) 31).l e1;have X1:=xt (x1 _ _) e1;clear e1;have B':=B;obtain ⟨⟨p0,p1,p2⟩,f0,f1,f2⟩:=B';cases hg:zA1 n d e
 ·have H:=zL7 hg;have H2:Hid (intR n d e=0):=zGF H;have H1:Hid (zCF n d e=false):=H;clear H hg;go_wp2_with fail
  go_ret2
  exact ⟨zC5 H2.out.symm H1.out.symm,X1⟩
 ·by_cases he:0<=e/\e<=20
  ·obtain ⟨g0,g1,g2⟩:=zBQ hg;obtain ⟨j0,j1⟩:=he;have OF:Hid (∀ w2:World,Calls Tryz.prog 143 #[.agg #[.bool n,iQ d,iQ e]] w2 fun r w'=>∃ v',r=.returned v'/\ZV w' v' (sgn n d)/\Ext w2 w'):=fun w2=>zHO n d e w2 (by omega) (by omega);have TE:Hid (∀ w2:World,Calls Tryz.prog 93 #[iQ e] w2 fun r w'=>∃ v',r=.returned v'/\ZV w' v' (10 ^ e.toNat)/\Ext w2 w'):=fun w2=>zLW e w2 j0 (by omega);have MU:Hid (∀ (w2:World) (va vb:Value),ZV w2 va (sgn n d)->ZV w2 vb (10 ^ e.toNat)->Calls Tryz.prog 92 #[va,vb] w2 fun r w'=>∃ v',r=.returned v'/\ZV w' v' (sgn n d * 10 ^ e.toNat)/\Ext w2 w'):=fun w2 va vb ha hb=>zED w2 ha hb 40 (by decide) (zK5 40 (by decide) g0 (by omega)) (zK4 40 (by omega));have HZ:=zVL (n:=n) g0 g1 j0 j1;have TX:Hid (∀ (w2:World) (v:Value),ZV w2 v (sgn n d * 10 ^ e.toNat)->Calls Tryz.prog 91 #[v] w2 fun r w'=>∃ l,r=.returned (.string ⟨l.toArray⟩)/\zCO l (sgn n d * 10 ^ e.toNat)/\Ext w2 w'):=fun w2 v hv=>zH1 w2 hv 80 (by decide) HZ;clear HZ;have ne0:=World.new_ne w1 _ p0;have ne1:=World.new_ne w1 _ p1;have ne2:=World.new_ne w1 _ p2;have HG:Hid (zA1 n d e=true):=hg;clear hg g0 g1 g2;go_wp2_with fail;go_cut [4] (fun v wc=>∃ (b:Nat) (a0:Int) (a1:Bool) (p:Option Addr) (m cap:Nat),v=.pointer (some ⟨b,0,none⟩)/\Box3 wc b (iQ a0) (.bool a1) (.slice p m cap)/\ZV wc (.agg #[iQ a0,.bool a1,.slice p m cap]) (sgn n d * 10 ^ e.toNat)/\Ext w1 wc)
   case first =>
    go_region_held3 (fun w'=>w'.cell? ⟨w.heap.size,0,none⟩=some (.bool n)/\w'.cell? ⟨w.heap.size,1,none⟩=some (iQ d)/\w'.cell? ⟨w.heap.size,2,none⟩=some (iQ e)) (go_keep)
     (first
      | (go_at_call 143;refine (OF.out _).mono ?_;rintro r w2 ⟨v2,rfl,z2,e2⟩;have X2:Ext w1 w2:=xt (by first | exact xd (xr _) | exact xd (x1 _ _) | exact xr _ | exact x1 _ _) e2;obtain ⟨⟨a20,a21,a22⟩,_⟩:=B.l X2;have nn2:=World.new_ne w2 _ a20;(first | (have RB:Box3 w2 w1.heap.size (iQ 0) (.bool false) (.slice none 0 0):=(by first | exact (Box3.made w1 (iQ 0) (.bool false) (.slice none 0 0) 103).l (xt (xd (xr _)) e2) | exact (Box3.made w1 (iQ 0) (.bool false) (.slice none 0 0) 103).l e2 | exact (Box3.made w1.drew (iQ 0) (.bool false) (.slice none 0 0) 103).l e2 | exact (Box3.made w1.drew (iQ 0) (.bool false) (.slice none 0 0) 103).l (xt (xd (xr _)) e2));have bb:w1.heap.size<=w1.heap.size:=Nat.le_refl _) | skip))
      | (go_at_call 93;refine (TE.out _).mono ?_;rintro r w3 ⟨v3,rfl,z3,e3⟩;have X3:Ext w2 w3:=xt (by first | exact xr _ | exact xd (xr _) | exact xd (x1 _ _) | exact x1 _ _ | exact xa (xd (xr _)) _) e3;obtain ⟨⟨a30,a31,a32⟩,_⟩:=B.l (xt X2 X3);have nn3:=World.new_ne w3 _ a30;(first | (have RB:=RB.l X3) | (have RB:Box3 w3 w2.heap.size (iQ 0) (.bool false) (.slice none 0 0):=(by first | exact (Box3.made w2 (iQ 0) (.bool false) (.slice none 0 0) 103).l (xt (xd (xr _)) e3) | exact (Box3.made w2 (iQ 0) (.bool false) (.slice none 0 0) 103).l e3 | exact (Box3.made w2.drew (iQ 0) (.bool false) (.slice none 0 0) 103).l e3 | exact (Box3.made w2.drew (iQ 0) (.bool false) (.slice none 0 0) 103).l (xt (xd (xr _)) e3));have bb:w1.heap.size<=w2.heap.size:=X2.size) | skip))
      | (go_at_call 92;refine (MU.out _ _ _ (z2.l (xt X3 (by first | exact xr _ | exact xd (xr _) | exact xd (x1 _ _) | exact x1 _ _ | exact xa (xd (xr _)) _))) (z3.l (by first | exact xr _ | exact xd (xr _) | exact xd (x1 _ _) | exact x1 _ _ | exact xa (xd (xr _)) _))).mono ?_;rintro r w4 ⟨v4,rfl,z4,e4⟩;have X4:Ext w3 w4:=xt (by first | exact xr _ | exact xd (xr _) | exact xd (x1 _ _) | exact x1 _ _ | exact xa (xd (xr _)) _) e4;obtain ⟨⟨a40,a41,a42⟩,_⟩:=B.l (xt (xt X2 X3) X4);have nn4:=World.new_ne w4 _ a40;obtain ⟨a0',a1',p',n',cap',rfl⟩:=z4.shape;(first | (have RB:=RB.l X4;obtain ⟨⟨r0,r1,r2⟩,s0,s1,s2⟩:=RB) | (have RB:Box3 w4 w3.heap.size (iQ 0) (.bool false) (.slice none 0 0):=(by first | exact (Box3.made w3 (iQ 0) (.bool false) (.slice none 0 0) 103).l (xt (xd (xr _)) e4) | exact (Box3.made w3 (iQ 0) (.bool false) (.slice none 0 0) 103).l e4 | exact (Box3.made w3.drew (iQ 0) (.bool false) (.slice none 0 0) 103).l e4 | exact (Box3.made w3.drew (iQ 0) (.bool false) (.slice none 0 0) 103).l (xt (xd (xr _)) e4));have bb:w1.heap.size<=w3.heap.size:=(xt X2 X3).size;obtain ⟨⟨r0,r1,r2⟩,s0,s1,s2⟩:=RB) | skip)))
    ·go_wp2_with fail;go_meet
     case rel=>exact ⟨_,a0',a1',p',n',cap',rfl,Box3.made w4 _ _ _ _,z4.l (x1 _ _),xa (xt (xt X2 X3) X4) _⟩
    all_goals
     go_wp2_with fail;go_meet
     case rel =>
      refine ⟨_,a0',a1',p',n',cap',rfl,?_,z4.set3 ⟨⟨r0,r1,r2⟩,s0,s1,s2⟩ _ _ _,Ext.set3 (xt (xt X2 X3) X4) bb _ _ _⟩;refine ⟨⟨?_,?_,?_⟩,?_,?_,?_⟩ <;> simp [go_sem,r0,r1,r2,s0,s1,s2]
   case rest =>
    obtain ⟨b,a0,a1,p,m,cap,rfl,B2,hz,X2⟩:=hcut;have HM:Hid ((sgn n d * 10 ^ e.toNat).natAbs=d * 10 ^ e.toNat/\(sgn n d * 10 ^ e.toNat<0 ↔ n=true)):=int_abs HG.out;obtain ⟨z,ez⟩:=nm (sgn n d * 10 ^ e.toNat);obtain ⟨M,eM⟩:=nm (d * 10 ^ e.toNat);have HL:Hid (M ≠ 9223372036854775808):=(by rw [<- eM];exact zT1 HG.out);have HX:Hid (e=20->9223372036854775807<M):=fun he=>(by rw [<- eM];exact zPO HG.out he);rw [ez] at HM TX hz;rw [eM] at HM;have EZ:Hid (sgn n d * 10 ^ e.toNat=z/\d * 10 ^ e.toNat=M/\0<=e/\e<=20):=⟨ez,eM,j0,j1⟩;clear ez eM OF TE MU ne0 ne1 ne2 f0 f1 f2 p0 p1 p2;have B2':=B2;obtain ⟨⟨q0,q1,q2⟩,_⟩:=B2';go_wp2_with fail;refine (TX.out _ _ hz).mono ?_;rintro r w3 ⟨l,rfl,ht,e3⟩;clear TX q0 q1 q2;obtain ⟨⟨q0,q1,q2⟩,_⟩:=B2.l e3;go_wp2_with fail;refine (zI6 _ (hz.l e3)).mono ?_;rintro r w4 ⟨v4,rfl,z4,e4⟩;clear q0 q1 q2;go_wp2_with fail;refine (zUO _).mono ?_;rintro r w5 ⟨v5,rfl,z5,e5⟩;go_wp2_with fail;refine (zMT _ (z4.l e5) z5).mono ?_;rintro r w6 ⟨rfl,e6⟩;have X6:=xt (xt (xt (xt X2 e3) e4) e5) e6;have B6:=B.l X6;obtain ⟨⟨k0,k1,k2⟩,_⟩:=B6;clear z4 z5 hz B2 e3 e4 e5 e6 B;rw [HM.out.1];by_cases hM:M<=9223372036854775807
    ·have hc:cmpI M 9223372036854775807<=0:=(by unfold cmpI;split <;> (try split) <;> omega);have hc':¬ (0<cmpI M 9223372036854775807):=(by omega);obtain ⟨c,ec⟩:=nm (cmpI M 9223372036854775807);rw [ec] at hc hc';rw [ec];clear ec hc';obtain ⟨ds,hS,hlen⟩:=ht.signed (by rw [HM.out.1];exact hM);obtain ⟨s,hs⟩:∃ s:ByteArray,s=⟨l.toArray⟩:=⟨_,rfl⟩;rw [<- hs] at hS;rw [<- hs];clear hs ht;go_wp2_with fail;have hsz:=hS.size;have hl9:e<=19:=by
      have:=HX.out;have:=EZ.out.2.2.2;omega
     have H:=zL6 HG.out ⟨EZ.out.2.2.1,hl9,by rw [EZ.out.2.1];exact hM⟩;have H1:Hid (zCF n d e=true):=H;have H2:Hid (intR n d e=sgn n M):=(by rw [zNT H,EZ.out.2.1];rfl);have HV:Hid (dv ds=M):=(by rw [hS.2.1];exact HM.out.1);have hs20:s.size<=20:=(by rw [hsz];unfold sg;split <;> omega);clear H hl9 hlen
     go_loop [6,7] (fun a i=>(a=.int .i64 0/\i=.int .i64 0/\z<0)\/∃ k q:Nat,k<=ds.length/\q+k=s.size/\i=.int .i64 q/\a=.int .i64 (-dv (ds.drop k))) (fun _ i=>s.size - (intOf i).toNat)
     case atStart =>
      by_cases hz:z<0
      ·exact .inl ⟨rfl,rfl,hz⟩
      ·exact .inr ⟨ds.length,0,Nat.le_refl _,by rw [hsz];unfold sg;rw [if_neg hz],rfl,by rw [List.drop_length];rfl⟩
     case round =>
      rcases hrel with ⟨rfl,rfl,hz⟩ | ⟨k,q,hk,hq,rfl,rfl⟩
      ·have hs1:s.size=1+ds.length:=(by rw [hsz];unfold sg;rw [if_pos hz]);have hs0:0<s.size:=(by omega);have hb:=hS.minus hz hs0;clear hsz;go_wp2_with fail
       go_round
       case rel=>exact .inr ⟨ds.length,1,Nat.le_refl _,by omega,rfl,by rw [List.drop_length];rfl⟩
       case measure=>simp [intOf];omega
      ·by_cases h0:k=0
       ·subst h0;have hqs:q=s.size:=(by omega);have e1:dv (ds.drop 0)=M:=HV.out;rw [e1];have m0:0<=M:=(by rw [<- HV.out];exact zCG hS.1);clear hsz hS hq e1;subst hqs;cases n
        ·go_wp2_with fail
         go_ret2
         exact ⟨zC5 (by rw [H2.out];simp [sgn]) H1.out.symm,xt X1 X6⟩
        ·go_wp2_with fail
         go_ret2
         exact ⟨zC5 (by rw [H2.out];simp [sgn]) H1.out.symm,xt X1 X6⟩
       ·obtain ⟨j,rfl⟩:∃ j,k=j+1:=⟨k - 1,by omega⟩;have hqs:q<s.size:=(by omega);have hqs':(q:Int)<(s.size:Int):=(by omega);have hq20:(q:Int)<20:=(by omega);have hb:=hS.at (p:=q) (k:=j) (by omega) (by omega) hqs;have hdj:=hS.1.getD j;have HS:Hid (_=_):=dv_drop ds j (by omega);have hA:=zJ8 hS.1 (j+1);have hA':=zJ8 hS.1 j;rw [HS.out,HV.out] at hA';obtain ⟨A,eA⟩:=nm (dv (ds.drop (j+1)));obtain ⟨g,eg⟩:=nm (ds.getD j 0);rw [eA] at HS hA hA';rw [eg] at HS hdj hb hA';rw [eA];obtain ⟨g0,g1⟩:=hdj;obtain ⟨A0,A5⟩:=hA;obtain ⟨A1,A2⟩:=hA';have A3:A * 10+g<=9223372036854775807:=(by omega);have hne:((48+g:Int) == 45)=false:=(by rw [beq_eq_false_iff_ne];omega);have NXT:Hid (∃ k' q':Nat,k'<=ds.length/\q'+k'=s.size/\iQ ((q:Int)+1)=iQ q'/\iQ (-(A * 10+g))=iQ (-dv (ds.drop k'))):=⟨j,q+1,by omega,by omega,by go_num,by rw [HS.out]⟩;clear eA eg hsz hS hk hq HS hM A1 A2 A5;go_wp2_with fail
        go_round
        case rel =>
         obtain ⟨k',q',n1,n2,n3,n4⟩:=NXT.out;refine .inr ⟨k',q',n1,n2,n3,?_⟩;rw [<- n4]
         congr 1
         omega
        case measure=>simp [intOf];omega
    ·have hc:cmpI M 9223372036854775807=1:=(by unfold cmpI;rw [if_neg (by omega),if_pos (by omega)]);have hne:=zOK ht (fun hz=>HL.out (by have:=HM.out.1;omega));have hq:(l == [45,57,50,50,51,51,55,50,48,51,54,56,53,52,55,55,53,56,48,56])=false:=by
      rw [beq_eq_false_iff_ne];exact hne
     have H:=zFU (n:=n) (d:=d) (e:=e) (fun hh=>hM (by rw [<- EZ.out.2.1];exact hh.2.2));have H2:Hid (intR n d e=0):=zGF H;have H1:Hid (zCF n d e=false):=H;rw [hc];clear H ht hc hM hne;go_wp2_with fail
     go_ret2
     exact ⟨zC5 H2.out.symm H1.out.symm,xt X1 X6⟩
  ·have H:=zFU (n:=n) (d:=d) (e:=e) (fun h=>he ⟨h.1,by omega⟩);have H2:Hid (intR n d e=0):=zGF H;have H1:Hid (zCF n d e=false):=H;clear H hg;by_cases h0:e<0
   ·clear he;go_wp2_with fail
    go_ret2
    exact ⟨zC5 H2.out.symm H1.out.symm,X1⟩
   ·have h20:20<e:=(by omega);clear he;go_wp2_with fail
    go_ret2
    exact ⟨zC5 H2.out.symm H1.out.symm,X1⟩
end Go.Proofs.YtjlojlgdkfpcdaaGreatDoor

