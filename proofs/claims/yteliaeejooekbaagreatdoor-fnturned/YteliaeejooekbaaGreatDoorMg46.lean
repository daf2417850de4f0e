import Derived.Test.YteliaeejooekbaaGreatDoorMg11
import Derived.Test.YteliaeejooekbaaGreatDoorMg45
import Derived.Test.YteliaeejooekbaaGreatDoorMg10
import Derived.Test.YteliaeejooekbaaGreatDoorMg41
import Derived.Laws.OwnMore
import Derived.Test.YteliaeejooekbaaGreatDoorMg29
import Derived.Test.YteliaeejooekbaaGreatDoorMg13
set_option maxRecDepth 8000
set_option maxHeartbeats 40000000
namespace Go.Proofs.YteliaeejooekbaaGreatDoor
open Go.RowKit
theorem Only.e {b:Nat} {u v w:World} (h:Only b u v) (E:Ext v w):Only b u w:=h.trans (Only.of_ext E)
def setL (w:World) (b:Nat):Nat->List Value->World
 | _,[]=>w
 | o,v :: vs=>setL (w.setCell ⟨b,o,none⟩ v) b (o+1) vs
theorem Vec.farL {b k:Nat} {l:List Value} (hk:k ≠ b):∀ (us:List Value) (o:Nat) {w:World},Vec w b l->Vec (setL w k o us) b l
 | [],_,_,h=>h
 | u :: us,o,_,h=>Vec.farL hk us (o+1) (h.far hk u)
theorem zDL (ok n:Bool) (d x:Int) (W:World):(Instr.field 146 (.agg #[.bool ok,.bool n,iQ d,iQ x]) 1).run Tryz.prog W=.ok (decV n d x) W:=by kernel_rfl
theorem put_d (neg:Bool) (P:Nat) (e:Int) (m:Bool):0<=(putR neg P e m).d/\(putR neg P e m).d<1000000000000000:=by
 cases h:(putR neg P e m).ok with
 | true =>
  have:=zVF h;unfold zFA at this
  split at this
  ·rename_i h0;rw [h0];omega
  ·simp only [decide_eq_true_eq] at this;omega
 | false =>
  revert h
  unfold putR fitR
  repeat' split
  all_goals intro h
  all_goals first | (cases h;done) | (constructor <;> decide)
theorem zHG (z:Int) (w:World) (s1 : -1000000000000000000<z) (s2:z<1000000000000000000) :
  Calls Tryz.prog 100 #[iQ z] w fun e w'=>e=.returned (zS z)/\Ext w w':=by
 go_enter Tryz.func100,Tryz.ntmps100
 go_wp2
 exact bodyPost_ret (v:=zS z) (by simp [results,Tryz.results100,go_sem]) rfl ⟨rfl,x1 _ _⟩
theorem putZ (z e:Int) (w:World) (s1 : -1000000000000000000<z) (s2:z<1000000000000000000) (e0 : -50000<=e) (e1:e<=50000) :
  Calls Tryz.prog 105 #[zS z,iQ e,.bool false] w fun rr w'=>(∃ ok n d x,rr=.returned (.agg #[.bool ok,.bool n,iQ d,iQ x])/\0<=d/\d<1000000000000000)/\Ext w w':=by
 have hp:((1000000000:Int) ^ 3)=1000000000000000000000000000:=by decide
 refine (zQN e false w (ZV.small s1 s2) 3 (by omega) (by rw [hp];omega) e0 e1 (decide (z<0)) z.natAbs rfl (fun _=>rfl)).mono ?_;rintro rr w' ⟨rfl,E⟩;exact ⟨⟨_,_,_,_,rfl,put_d _ _ _ _⟩,E⟩
theorem decC (b base K:Nat) (w:World) (h:Cur w b base K) (hK:K<=1000000) :
  Calls Tryz.prog 96 #[.pointer (some ⟨b,0,none⟩)] w fun e w'=>(∃ n d x,e=.returned (decV n d x)/\0<=d/\d<1000000000000000)/\Cur w' b base (K+20)/\Only b w w':=by
 have bl:=h.lt;have bb:=h.baseC;have X0:=x1 w (.cells #[.bool false,iQ 0,iQ 0] 71);have V0:=zA4 w [.bool false,iQ 0,iQ 0] 71;have C0:=h.ext X0;go_enter Tryz.func96,Tryz.ntmps96;go_wp2_with fail;refine (zAV b base K 9 _ C0 (by omega) (by omega) (by omega)).mono ?_;rintro e w1 ⟨x,rfl,⟨y0,y9⟩,C1,o1⟩;have V1:=o1.vecC (by omega) V0;have O1:=(Only.of_ext X0).trans o1;clear C0 o1 X0 V0;by_cases h0:x=0
 ·subst h0;clear y0 y9;obtain ⟨wy,hy,OF,CF,⟨b0,b1,b2⟩,⟨fb0,fb1,fb2⟩,fd0,fd1,fd2⟩:=zK9 V1 C1 O1 (Nat.le_refl _) (by omega) (by omega) false 0 0;go_wp2_with fail;exact bodyPost_ret (v:=decV false 0 0) (by simp [results,Tryz.results96,go_sem,fd0,fd1,fd2]) rfl ⟨⟨_,_,_,rfl,by omega,by omega⟩,CF.more (by omega),OF⟩
 ·have e0:(x == 0)=false:=by simpa using h0
  by_cases h1:x=1
  ·subst h1;clear y0 y9;go_wp2_with fail;refine (wideC b base _ _ C1 (by omega)).mono ?_;rintro e w2 ⟨u,rfl,⟨u0,u9⟩,C1,o1⟩;have V1:=o1.vecC (by omega) V1;have O1:=O1.trans o1;clear o1;have wy2:IntKind.i64.wrap (u / 16384)=u / 16384:=by rw [IntKind.wrap_i64];omega
   go_wp2_with fail;refine (zHG (u / 16384) _ (by omega) (by omega)).mono ?_;rintro e w3 ⟨rfl,E⟩;have C1:=C1.ext E;have V1:=V1.l E;have O1:=O1.e E;clear E;go_wp2_with fail;refine (zAV b base _ 40 _ C1 (by omega) (by omega) (by omega)).mono ?_;rintro e w4 ⟨p,rfl,⟨p0,p9⟩,C1,o1⟩;have V1:=o1.vecC (by omega) V1;have O1:=O1.trans o1;clear o1;go_wp2_with fail;refine (putZ (u / 16384) (p - 20) _ (by omega) (by omega) (by omega) (by omega)).mono ?_;rintro e w5 ⟨⟨ok,n,d,x,rfl,d0,d1⟩,E⟩;have C1:=C1.ext E;have V1:=V1.l E;have O1:=O1.e E;clear E;have FD:=fun W=>zDL ok n d x W;obtain ⟨wy,hy,OF,CF,⟨b0,b1,b2⟩,⟨fb0,fb1,fb2⟩,fd0,fd1,fd2⟩:=zK9 V1 C1 O1 (Nat.le_refl _) (by omega) (by omega) n d x;go_wp2_with fail;exact bodyPost_ret (v:=decV n d x) (by simp [results,Tryz.results96,go_sem,fd0,fd1,fd2]) rfl ⟨⟨_,_,_,rfl,d0,d1⟩,CF.more (by omega),OF⟩
  ·have e1:(x == 1)=false:=by simpa using h1
   by_cases h2:x=2
   ·subst h2;clear y0 y9;go_wp2_with fail;refine (zAV b base _ 999 _ C1 (by omega) (by omega) (by omega)).mono ?_;rintro e w2 ⟨y,rfl,⟨y0,y9⟩,C1,o1⟩;have V1:=o1.vecC (by omega) V1;have O1:=O1.trans o1;clear o1;go_wp2_with fail;refine (zHG (1+y) _ (by omega) (by omega)).mono ?_;rintro e w3 ⟨rfl,E⟩;have C1:=C1.ext E;have V1:=V1.l E;have O1:=O1.e E;clear E;go_wp2_with fail;refine (zAV b base _ 620 _ C1 (by omega) (by omega) (by omega)).mono ?_;rintro e w4 ⟨p,rfl,⟨p0,p9⟩,C1,o1⟩;have V1:=o1.vecC (by omega) V1;have O1:=O1.trans o1;clear o1;go_wp2_with fail;refine (putZ (1+y) (p - 310) _ (by omega) (by omega) (by omega) (by omega)).mono ?_;rintro e w5 ⟨⟨ok,n,d,x,rfl,d0,d1⟩,E⟩;have C1:=C1.ext E;have V1:=V1.l E;have O1:=O1.e E;clear E;have FD:=fun W=>zDL ok n d x W;have hs5:w.heap.size<w5.heap.size:=World.block_lt_of_cell? _ _ (V1 0 _ rfl).1;have hb5:=C1.lt;obtain ⟨wz,hz,EZ,Z,-⟩:=zAC w5 [.bool false,.bool false,iQ 0,iQ 0] 146;obtain ⟨z0,z1,z2,z3⟩:=Vec.four Z;obtain ⟨fz0,fz1,fz2,fz3⟩:=Vec.fourF Z;have Z4:Vec (setL wz w5.heap.size 0 [.bool ok,.bool n,iQ d,iQ x]) w5.heap.size [.bool ok,.bool n,iQ d,iQ x]:=(((Z.put 0 (by simp) (.bool ok)).put 1 (by simp) (.bool n)).put 2 (by simp) (iQ d)).put 3 (by simp) (iQ x);have V1:=Vec.farL (k:=w5.heap.size) (by omega) [.bool ok,.bool n,iQ d,iQ x] 0 (V1.l EZ);have C1:Cur (setL wz w5.heap.size 0 [.bool ok,.bool n,iQ d,iQ x]) b base _:=((((C1.ext EZ).far (g:=w5.heap.size) (i:=0) (by omega) (by omega) (.bool ok)).far (g:=w5.heap.size) (i:=1) (by omega) (by omega) (.bool n)).far (g:=w5.heap.size) (i:=2) (by omega) (by omega) (iQ d)).far (g:=w5.heap.size) (i:=3) (by omega) (by omega) (iQ x);have O1:Only b w (setL wz w5.heap.size 0 [.bool ok,.bool n,iQ d,iQ x]):=((((O1.trans (Only.of_ext EZ)).setNew (g:=w5.heap.size) (i:=0) (by omega) (.bool ok)).setNew (g:=w5.heap.size) (i:=1) (by omega) (.bool n)).setNew (g:=w5.heap.size) (i:=2) (by omega) (iQ d)).setNew (g:=w5.heap.size) (i:=3) (by omega) (iQ x);obtain ⟨w6,h6⟩:=nm (setL wz w5.heap.size 0 [.bool ok,.bool n,iQ d,iQ x]);rw [h6] at Z4 V1 C1 O1;have h6:(((wz.setCell ⟨w5.heap.size,0,none⟩ (.bool ok)).setCell ⟨w5.heap.size,1,none⟩ (.bool n)).setCell ⟨w5.heap.size,2,none⟩ (iQ d)).setCell ⟨w5.heap.size,3,none⟩ (iQ x)=w6:=h6;obtain ⟨q0,q1,q2,q3⟩:=Vec.four Z4;obtain ⟨wy,hy,OF,CF,⟨b0,b1,b2⟩,⟨fb0,fb1,fb2⟩,fd0,fd1,fd2⟩:=zK9 V1 C1 O1 (Nat.le_refl _) (by omega) (by omega) n d x;go_wp2_with fail;exact bodyPost_ret (v:=decV n d x) (by simp [results,Tryz.results96,go_sem,fd0,fd1,fd2]) rfl ⟨⟨_,_,_,rfl,d0,d1⟩,CF.more (by omega),OF⟩
   ·have e2:(x == 2)=false:=(by simpa using h2);by_cases h3:x=3
    ·subst h3;clear y0 y9;go_wp2_with fail;refine (zAV b base _ 3 _ C1 (by omega) (by omega) (by omega)).mono ?_;rintro e w2 ⟨y,rfl,⟨y0,y9⟩,C1,o1⟩;have V1:=o1.vecC (by omega) V1;have O1:=O1.trans o1;clear o1;go_wp2_with fail;refine (zHG (999999999999999 - y) _ (by omega) (by omega)).mono ?_;rintro e w3 ⟨rfl,E⟩;have C1:=C1.ext E;have V1:=V1.l E;have O1:=O1.e E;clear E;go_wp2_with fail;refine (zAV b base _ 5 _ C1 (by omega) (by omega) (by omega)).mono ?_;rintro e w4 ⟨p,rfl,⟨p0,p9⟩,C1,o1⟩;have V1:=o1.vecC (by omega) V1;have O1:=O1.trans o1;clear o1;go_wp2_with fail;refine (putZ (999999999999999 - y) (p - 2) _ (by omega) (by omega) (by omega) (by omega)).mono ?_;rintro e w5 ⟨⟨ok,n,d,x,rfl,d0,d1⟩,E⟩;have C1:=C1.ext E;have V1:=V1.l E;have O1:=O1.e E;clear E;have FD:=fun W=>zDL ok n d x W;obtain ⟨wy,hy,OF,CF,⟨b0,b1,b2⟩,⟨fb0,fb1,fb2⟩,fd0,fd1,fd2⟩:=zK9 V1 C1 O1 (Nat.le_refl _) (by omega) (by omega) n d x;go_wp2_with fail;exact bodyPost_ret (v:=decV n d x) (by simp [results,Tryz.results96,go_sem,fd0,fd1,fd2]) rfl ⟨⟨_,_,_,rfl,d0,d1⟩,CF.more (by omega),OF⟩
    ·have e3:(x == 3)=false:=(by simpa using h3);by_cases h4:x=4
     ·subst h4;clear y0 y9;go_wp2_with fail;refine (zAV b base _ 20000 _ C1 (by omega) (by omega) (by omega)).mono ?_;rintro e w2 ⟨y,rfl,⟨y0,y9⟩,C1,o1⟩;have V1:=o1.vecC (by omega) V1;have O1:=O1.trans o1;clear o1;go_wp2_with fail;refine (zHG (y - 10000) _ (by omega) (by omega)).mono ?_;rintro e w3 ⟨rfl,E⟩;have C1:=C1.ext E;have V1:=V1.l E;have O1:=O1.e E;clear E;go_wp2_with fail;refine (zAV b base _ 4 _ C1 (by omega) (by omega) (by omega)).mono ?_;rintro e w4 ⟨p,rfl,⟨p0,p9⟩,C1,o1⟩;have V1:=o1.vecC (by omega) V1;have O1:=O1.trans o1;clear o1;go_wp2_with fail;refine (putZ (y - 10000) (-p) _ (by omega) (by omega) (by omega) (by omega)).mono ?_;rintro e w5 ⟨⟨ok,n,d,x,rfl,d0,d1⟩,E⟩;have C1:=C1.ext E;have V1:=V1.l E;have O1:=O1.e E;clear E;have FD:=fun W=>zDL ok n d x W;obtain ⟨wy,hy,OF,CF,⟨b0,b1,b2⟩,⟨fb0,fb1,fb2⟩,fd0,fd1,fd2⟩:=zK9 V1 C1 O1 (Nat.le_refl _) (by omega) (by omega) n d x;go_wp2_with fail;exact bodyPost_ret (v:=decV n d x) (by simp [results,Tryz.results96,go_sem,fd0,fd1,fd2]) rfl ⟨⟨_,_,_,rfl,d0,d1⟩,CF.more (by omega),OF⟩
     ·have e4:(x == 4)=false:=(by simpa using h4);by_cases h5:x=5
      ·subst h5;clear y0 y9;go_wp2_with fail;refine (zAV b base _ 20000 _ C1 (by omega) (by omega) (by omega)).mono ?_;rintro e w2 ⟨y,rfl,⟨y0,y9⟩,C1,o1⟩;have V1:=o1.vecC (by omega) V1;have O1:=O1.trans o1;clear o1;go_wp2_with fail;refine (zHG (y - 10000) _ (by omega) (by omega)).mono ?_;rintro e w3 ⟨rfl,E⟩;have C1:=C1.ext E;have V1:=V1.l E;have O1:=O1.e E;clear E;go_wp2_with fail;refine (zAV b base _ 4 _ C1 (by omega) (by omega) (by omega)).mono ?_;rintro e w4 ⟨p,rfl,⟨p0,p9⟩,C1,o1⟩;have V1:=o1.vecC (by omega) V1;have O1:=O1.trans o1;clear o1;go_wp2_with fail;refine (putZ (y - 10000) (-p) _ (by omega) (by omega) (by omega) (by omega)).mono ?_;rintro e w5 ⟨⟨ok,n,d,x,rfl,d0,d1⟩,E⟩;have C1:=C1.ext E;have V1:=V1.l E;have O1:=O1.e E;clear E;have FD:=fun W=>zDL ok n d x W;obtain ⟨wy,hy,OF,CF,⟨b0,b1,b2⟩,⟨fb0,fb1,fb2⟩,fd0,fd1,fd2⟩:=zK9 V1 C1 O1 (Nat.le_refl _) (by omega) (by omega) n d x;go_wp2_with fail;exact bodyPost_ret (v:=decV n d x) (by simp [results,Tryz.results96,go_sem,fd0,fd1,fd2]) rfl ⟨⟨_,_,_,rfl,d0,d1⟩,CF.more (by omega),OF⟩
      ·have e5:(x == 5)=false:=(by simpa using h5);go_wp2_with fail;refine (zAV b base _ 200 _ C1 (by omega) (by omega) (by omega)).mono ?_;rintro e w2 ⟨y,rfl,⟨y0,y9⟩,C1,o1⟩;have V1:=o1.vecC (by omega) V1;have O1:=O1.trans o1;clear o1;go_wp2_with fail;refine (zHG (y - 100) _ (by omega) (by omega)).mono ?_;rintro e w3 ⟨rfl,E⟩;have C1:=C1.ext E;have V1:=V1.l E;have O1:=O1.e E;clear E;go_wp2_with fail;refine (putZ (y - 100) (0) _ (by omega) (by omega) (by omega) (by omega)).mono ?_;rintro e w5 ⟨⟨ok,n,d,x,rfl,d0,d1⟩,E⟩;have C1:=C1.ext E;have V1:=V1.l E;have O1:=O1.e E;clear E;have FD:=fun W=>zDL ok n d x W;obtain ⟨wy,hy,OF,CF,⟨b0,b1,b2⟩,⟨fb0,fb1,fb2⟩,fd0,fd1,fd2⟩:=zK9 V1 C1 O1 (Nat.le_refl _) (by omega) (by omega) n d x;go_wp2_with fail;exact bodyPost_ret (v:=decV n d x) (by simp [results,Tryz.results96,go_sem,fd0,fd1,fd2]) rfl ⟨⟨_,_,_,rfl,d0,d1⟩,CF.more (by omega),OF⟩
def zJN:List (List UInt8):=[[97],[],[66,32,99],[120,34,121],[49,50]]
def zPO:List (List UInt8):=[[84,82,85,69],[70,65,76,83,69]]
theorem zGI {l:List (List UInt8)} {u:Nat} (h:u<l.length) (hl:∀ t ∈ l,t.length<=100):∃ t,(l.map sV)[u]?=some (sV t)/\t.length<=100:=
 ⟨l[u],by rw [List.getElem?_map,List.getElem?_eq_getElem h];rfl,hl _ (List.getElem_mem h)⟩
theorem zPF:∀ t ∈ zJN,t.length<=100:=by decide +kernel
theorem zRP:∀ t ∈ zPO,t.length<=100:=by decide +kernel
theorem zUK:∀ t ∈ errL,t.length<=100:=by decide +kernel
theorem zUA (w:World):Calls Tryz.prog 95 #[] w fun e w'=>∃ g,e=.returned (.slice (some ⟨g,0,none⟩) 9 9)/\Vec w' g (errL.map sV)/\w.heap.size<=g/\Ext w w':=by
 have V:=zA4 w (errL.map sV) 9;go_enter Tryz.func95,Tryz.ntmps95;go_wp2_with fail;go_ret;exact ⟨w.heap.size,rfl,V,Nat.le_refl _,x1 _ _⟩
theorem zSC (b base K:Nat) (w:World) (h:Cur w b base K) (hK:K<=900000) :
  Calls Tryz.prog 79 #[.pointer (some ⟨b,0,none⟩)] w fun e w'=>zAE 1 b base (K+30) w e w':=by
 have bl:=h.lt;have bb:=h.baseC;have X0:=x1 w (.cells Z15.toArray 77);have V0:=zA4 w Z15 77;have C1:=h.ext X0;have O1:Only b w _:=Only.of_ext X0;have sa:(w.alloc (.cells Z15.toArray 77)).heap.size=w.heap.size+1:=World.size_alloc _ _;obtain ⟨wa,ha⟩:=nm (w.alloc (.cells Z15.toArray 77));have HWA:Hid _:=ha;rw [ha] at V0 C1 O1 sa;clear X0 h ha;go_enter Tryz.func79,Tryz.ntmps79;go_wp2_with (rw [HWA.out]);refine (zAV b base K 6 _ C1 (by omega) (by omega) (by omega)).mono ?_;rintro e w1 ⟨y,rfl,⟨y0,y9⟩,C1,o1⟩;have V0:=o1.vecC (by omega) V0;have O1:=O1.trans o1;have s1:w.heap.size<w1.heap.size:=by have:=o1.size;omega
 have b1:Hid (b<w1.heap.size):=by show _<_;have:=O1.size;omega
 clear o1 HWA sa;by_cases h0:y=0
 ·subst h0;clear y0 y9;have E:=x1 w1 (.cells (zJN.map sV).toArray 9);have VS:=zA4 w1 (zJN.map sV) 9;have C1:=C1.ext E;have V0:=V0.l E;have O1:=O1.e E;obtain ⟨ws,hs⟩:=nm (w1.alloc (.cells (zJN.map sV).toArray 9));rw [hs] at C1 V0 O1 VS;simp only [zJN,List.map,sV] at hs;have HS:Hid _:=hs;clear E hs;go_wp2_with (rw [HS.out]);refine (zAV b base _ 5 _ C1 (by omega) (by omega) (by omega)).mono ?_;rintro e w3 ⟨u,rfl,⟨u0,u9⟩,C1,o1⟩;have VS:=o1.vecC (by omega) VS;have V0:=o1.vecC (by omega) V0;have O1:=O1.trans o1;clear o1 HS;obtain ⟨u,rfl⟩:∃ z:Nat,u=(z:Int):=⟨u.toNat,by omega⟩;obtain ⟨t,ht,tl⟩:=zGI (l:=zJN) (u:=u) (by show u<5;omega) zPF;have cu:=(VS u _ ht).1;clear VS ht;have i0:(u:Int)<5:=by omega
  go_wp2_with fail;refine (zD0 2 t none 0 0 _).mono ?_;rintro e w4 ⟨rfl,E⟩;have C1:=C1.ext E;have V0:=V0.l E;have O1:=O1.e E;clear E cu;obtain ⟨wy,hy,VT,OF,CF,QC,SZ,KP⟩:=zFO V0 C1 O1 (Nat.le_refl _) (by omega) (by omega) (⟨2,t,false,0,0,0,0,false,false,0,0,false,false,((0:Nat):Int)⟩:NT) (.slice none 0 0);have HQ2:Hid _:=hy;have q0:=QC 0 _ rfl;have q1:=QC 1 _ rfl;have q2:=QC 2 _ rfl;have q3:=QC 3 _ rfl;have q4:=QC 4 _ rfl;have q5:=QC 5 _ rfl;have q6:=QC 6 _ rfl;have q7:=QC 7 _ rfl;have q8:=QC 8 _ rfl;have q9:=QC 9 _ rfl;have q10:=QC 10 _ rfl;have q11:=QC 11 _ rfl;have q12:=QC 12 _ rfl;have q13:=QC 13 _ rfl;have q14:=QC 14 _ rfl;have PO:Hid (zAE 1 b base (K+30) w (.returned (.agg #[iQ 2,sV t,.bool false,iQ 0,iQ 0,iQ 0,iQ 0,.bool false,.bool false,iQ 0,iQ 0,.bool false,.bool false,iQ ((0:Nat):Int),.slice none 0 0])) wy):=by
   refine ⟨⟨(⟨2,t,false,0,0,0,0,false,false,0,0,false,false,((0:Nat):Int)⟩:NT),[],.slice none 0 0,rfl,FitL.leaf (zDK (by show t.length<=_;omega) rfl),zD8 _ _⟩,CF.more (by omega),OF⟩
  clear OF CF QC SZ KP hy C1 O1 V0;go_wp2_with (refine zAN rfl _ _ _ rfl w.heap.size 0 _ rfl rfl VT zDJ (by simp [Value.oneCell']) HQ2.out ?_);exact bodyPost_ret (v:=.agg #[iQ 2,sV t,.bool false,iQ 0,iQ 0,iQ 0,iQ 0,.bool false,.bool false,iQ 0,iQ 0,.bool false,.bool false,iQ ((0:Nat):Int),.slice none 0 0]) (by simp [results,Tryz.results79,go_sem,q0,q1,q2,q3,q4,q5,q6,q7,q8,q9,q10,q11,q12,q13,q14]) rfl PO.out
 have e0:(y == 0)=false:=by simpa using h0
 by_cases h1:y=1
 ·subst h1;clear y0 y9;have E:=x1 w1 (.cells (zPO.map sV).toArray 9);have VS:=zA4 w1 (zPO.map sV) 9;have C1:=C1.ext E;have V0:=V0.l E;have O1:=O1.e E;obtain ⟨ws,hs⟩:=nm (w1.alloc (.cells (zPO.map sV).toArray 9));rw [hs] at C1 V0 O1 VS;simp only [zPO,List.map,sV] at hs;have HS:Hid _:=hs;clear E hs;go_wp2_with (rw [HS.out]);refine (zAV b base _ 2 _ C1 (by omega) (by omega) (by omega)).mono ?_;rintro e w3 ⟨u,rfl,⟨u0,u9⟩,C1,o1⟩;have VS:=o1.vecC (by omega) VS;have V0:=o1.vecC (by omega) V0;have O1:=O1.trans o1;clear o1 HS;obtain ⟨u,rfl⟩:∃ z:Nat,u=(z:Int):=⟨u.toNat,by omega⟩;obtain ⟨t,ht,tl⟩:=zGI (l:=zPO) (u:=u) (by show u<2;omega) zRP;have cu:=(VS u _ ht).1;clear VS ht;have i0:(u:Int)<2:=by omega
  go_wp2_with fail;refine (zD0 3 t none 0 0 _).mono ?_;rintro e w4 ⟨rfl,E⟩;have C1:=C1.ext E;have V0:=V0.l E;have O1:=O1.e E;clear E cu;obtain ⟨wy,hy,VT,OF,CF,QC,SZ,KP⟩:=zFO V0 C1 O1 (Nat.le_refl _) (by omega) (by omega) (⟨3,t,false,0,0,0,0,false,false,0,0,false,false,((0:Nat):Int)⟩:NT) (.slice none 0 0);have HQ2:Hid _:=hy;have q0:=QC 0 _ rfl;have q1:=QC 1 _ rfl;have q2:=QC 2 _ rfl;have q3:=QC 3 _ rfl;have q4:=QC 4 _ rfl;have q5:=QC 5 _ rfl;have q6:=QC 6 _ rfl;have q7:=QC 7 _ rfl;have q8:=QC 8 _ rfl;have q9:=QC 9 _ rfl;have q10:=QC 10 _ rfl;have q11:=QC 11 _ rfl;have q12:=QC 12 _ rfl;have q13:=QC 13 _ rfl;have q14:=QC 14 _ rfl;have PO:Hid (zAE 1 b base (K+30) w (.returned (.agg #[iQ 3,sV t,.bool false,iQ 0,iQ 0,iQ 0,iQ 0,.bool false,.bool false,iQ 0,iQ 0,.bool false,.bool false,iQ ((0:Nat):Int),.slice none 0 0])) wy):=by
   refine ⟨⟨(⟨3,t,false,0,0,0,0,false,false,0,0,false,false,((0:Nat):Int)⟩:NT),[],.slice none 0 0,rfl,FitL.leaf (zDK (by show t.length<=_;omega) rfl),zD8 _ _⟩,CF.more (by omega),OF⟩
  clear OF CF QC SZ KP hy C1 O1 V0;go_wp2_with (refine zAN rfl _ _ _ rfl w.heap.size 0 _ rfl rfl VT zDJ (by simp [Value.oneCell']) HQ2.out ?_);exact bodyPost_ret (v:=.agg #[iQ 3,sV t,.bool false,iQ 0,iQ 0,iQ 0,iQ 0,.bool false,.bool false,iQ 0,iQ 0,.bool false,.bool false,iQ ((0:Nat):Int),.slice none 0 0]) (by simp [results,Tryz.results79,go_sem,q0,q1,q2,q3,q4,q5,q6,q7,q8,q9,q10,q11,q12,q13,q14]) rfl PO.out
 have e1:(y == 1)=false:=by simpa using h1
 by_cases h2:y=2
 ·subst h2;clear y0 y9;go_wp2_with fail;refine (zUA w1).mono ?_;rintro e w2 ⟨g,rfl,VS,hg,E⟩;have C1:=C1.ext E;have V0:=V0.l E;have O1:=O1.e E;clear E;go_wp2_with fail;refine (zAV b base _ 9 _ C1 (by omega) (by omega) (by omega)).mono ?_;rintro e w3 ⟨u,rfl,⟨u0,u9⟩,C1,o1⟩;have bl1:=b1.out;have VS:=o1.vecC (by omega) VS;have V0:=o1.vecC (by omega) V0;have O1:=O1.trans o1;clear o1;obtain ⟨u,rfl⟩:∃ z:Nat,u=(z:Int):=⟨u.toNat,by omega⟩;obtain ⟨t,ht,tl⟩:=zGI (l:=errL) (u:=u) (by show u<9;omega) zUK;have cu:=(VS u _ ht).1;clear VS ht;have i0:(u:Int)<9:=by omega
  go_wp2_with fail;refine (zD0 4 t none 0 0 _).mono ?_;rintro e w4 ⟨rfl,E⟩;have C1:=C1.ext E;have V0:=V0.l E;have O1:=O1.e E;clear E cu;obtain ⟨wy,hy,VT,OF,CF,QC,SZ,KP⟩:=zFO V0 C1 O1 (Nat.le_refl _) (by omega) (by omega) (⟨4,t,false,0,0,0,0,false,false,0,0,false,false,((0:Nat):Int)⟩:NT) (.slice none 0 0);have HQ2:Hid _:=hy;have q0:=QC 0 _ rfl;have q1:=QC 1 _ rfl;have q2:=QC 2 _ rfl;have q3:=QC 3 _ rfl;have q4:=QC 4 _ rfl;have q5:=QC 5 _ rfl;have q6:=QC 6 _ rfl;have q7:=QC 7 _ rfl;have q8:=QC 8 _ rfl;have q9:=QC 9 _ rfl;have q10:=QC 10 _ rfl;have q11:=QC 11 _ rfl;have q12:=QC 12 _ rfl;have q13:=QC 13 _ rfl;have q14:=QC 14 _ rfl;have PO:Hid (zAE 1 b base (K+30) w (.returned (.agg #[iQ 4,sV t,.bool false,iQ 0,iQ 0,iQ 0,iQ 0,.bool false,.bool false,iQ 0,iQ 0,.bool false,.bool false,iQ ((0:Nat):Int),.slice none 0 0])) wy):=by
   refine ⟨⟨(⟨4,t,false,0,0,0,0,false,false,0,0,false,false,((0:Nat):Int)⟩:NT),[],.slice none 0 0,rfl,FitL.leaf (zDK (by show t.length<=_;omega) rfl),zD8 _ _⟩,CF.more (by omega),OF⟩
  clear OF CF QC SZ KP hy C1 O1 V0;go_wp2_with (refine zAN rfl _ _ _ rfl w.heap.size 0 _ rfl rfl VT zDJ (by simp [Value.oneCell']) HQ2.out ?_);exact bodyPost_ret (v:=.agg #[iQ 4,sV t,.bool false,iQ 0,iQ 0,iQ 0,iQ 0,.bool false,.bool false,iQ 0,iQ 0,.bool false,.bool false,iQ ((0:Nat):Int),.slice none 0 0]) (by simp [results,Tryz.results79,go_sem,q0,q1,q2,q3,q4,q5,q6,q7,q8,q9,q10,q11,q12,q13,q14]) rfl PO.out
 have e2:(y == 2)=false:=by simpa using h2
 go_wp2_with fail;refine (decC b base _ _ C1 (by omega)).mono ?_;rintro e w2 ⟨⟨n,d,x,rfl,d0,d1⟩,C1,o1⟩;have V0:=o1.vecC (by omega) V0;have O1:=O1.trans o1;clear o1;obtain ⟨w3,h3,E,VD,-⟩:=zAC w2 [.bool n,iQ d,iQ x] 71;have s2:w.heap.size<w2.heap.size:=by have:=World.block_lt_of_cell? _ _ (V0 0 _ rfl).1;omega
 have C1:=C1.ext E;have V0:=V0.l E;have O1:=O1.e E;have b2:b<w2.heap.size:=by have:=O1.size;have:=World.size_alloc w2 (.cells [.bool n,iQ d,iQ x].toArray 71);omega
 have H3:Hid _:=h3;clear E h3;go_upto_region 9 with fail;rw [H3.out];obtain ⟨d00,f00⟩:=VD 0 _ rfl;have VD:=VD.put 0 (by simp) (.bool false);have V0:=V0.far (p:=⟨w2.heap.size,0,none⟩) (by show w2.heap.size ≠ _;omega) (.bool false);have C1:=C1.far (g:=w2.heap.size) (i:=0) (by omega) (by omega) (.bool false);have O1:=O1.setNew (g:=w2.heap.size) (i:=0) (by omega) (.bool false);obtain ⟨w4,h4⟩:=nm (w3.setCell ⟨w2.heap.size,0,none⟩ (.bool false));have H4:Hid _:=h4;rw [h4] at C1 V0 O1 VD;simp only [List.set_cons_zero] at VD;clear h4;go_upto_region 10 with fail;rw [H4.out];obtain ⟨m0,m1,m2⟩:=Vec.three VD;clear VD d00 f00 H3 H4;obtain ⟨wy,hy,VT,OF,CF,QC,SZ,KP⟩:=zFO V0 C1 O1 (Nat.le_refl _) (by omega) (by omega) (⟨1,[],false,d,x,0,0,false,false,0,0,false,false,0⟩:NT) (.slice none 0 0);have HQ2:Hid _:=hy;have q0:=QC 0 _ rfl;have q1:=QC 1 _ rfl;have q2:=QC 2 _ rfl;have q3:=QC 3 _ rfl;have q4:=QC 4 _ rfl;have q5:=QC 5 _ rfl;have q6:=QC 6 _ rfl;have q7:=QC 7 _ rfl;have q8:=QC 8 _ rfl;have q9:=QC 9 _ rfl;have q10:=QC 10 _ rfl;have q11:=QC 11 _ rfl;have q12:=QC 12 _ rfl;have q13:=QC 13 _ rfl;have q14:=QC 14 _ rfl;have PO:Hid (zAE 1 b base (K+30) w (.returned (.agg #[iQ 1,.string ⟨#[]⟩,.bool false,iQ d,iQ x,iQ 0,iQ 0,.bool false,.bool false,iQ 0,iQ 0,.bool false,.bool false,iQ 0,.slice none 0 0])) wy):=by
  refine ⟨⟨(⟨1,[],false,d,x,0,0,false,false,0,0,false,false,0⟩:NT),[],.slice none 0 0,rfl,FitL.leaf ⟨by show (0:Nat)<=_;omega,by show _<=d;omega,by show d<=_;omega⟩,zD8 _ _⟩,CF.more (by omega),OF⟩
 clear OF CF QC SZ KP hy C1 O1 V0;go_wp2_with (refine zAN rfl _ _ _ rfl w.heap.size 0 _ rfl rfl VT zDJ (by simp [Value.oneCell']) HQ2.out ?_);exact bodyPost_ret (v:=.agg #[iQ 1,.string ⟨#[]⟩,.bool false,iQ d,iQ x,iQ 0,iQ 0,.bool false,.bool false,iQ 0,iQ 0,.bool false,.bool false,iQ 0,.slice none 0 0]) (by simp [results,Tryz.results79,go_sem,q0,q1,q2,q3,q4,q5,q6,q7,q8,q9,q10,q11,q12,q13,q14]) rfl PO.out
theorem Cur.grownD {w w':World} {b base K:Nat} {row:Option Nat} (h:Cur w b base K) (hg:w.grownBy w' row) (hr:∀ r,row=some r->r ≠ b/\base<=r):Cur w' b base K:=by
 cases row with
 | none=>exact h.ext ⟨hg.os,hg.tape,hg.output,hg.size,fun k hk=>hg.block k hk (fun e=>by cases e)⟩
 | some g =>
  obtain ⟨hgb,hbg⟩:=hr g rfl;have o:Only g w w':=⟨hg.os,hg.tape,hg.output,hg.size,fun k hk hl=>hg.block k hl (fun e=>hk (by cases e;rfl))⟩;obtain ⟨v,k,a,s,B,hc,r⟩:=h;have hlt:=World.block_lt_of_cell? _ _ B.1.1;have hf:∀ j,w'.frozen? ⟨b,j,none⟩=w.frozen? ⟨b,j,none⟩:=fun j=>by
   unfold World.frozen?;rw [o.block b (fun e=>hgb e.symm) hlt]
  have hb:b ≠ g:=fun e=>hgb e.symm;exact ⟨v,k,a,s,⟨⟨o.cell hb B.1.1,o.cell hb B.1.2.1,o.cell hb B.1.2.2⟩,(hf 0).trans B.2.1,(hf 1).trans B.2.2.1,(hf 2).trans B.2.2.2⟩,hc.only o hbg,r⟩
theorem Only.grownD {w w1 w':World} {b:Nat} {row:Option Nat} (h:Only b w w1) (hg:w1.grownBy w' row) (hr:∀ r,row=some r->w.heap.size<=r):Only b w w':=
 ⟨hg.os.trans h.os,hg.tape.trans h.tape,hg.output.trans h.output,Nat.le_trans h.size hg.size,fun k hk hl=>(hg.block k (Nat.lt_of_lt_of_le hl h.size) (fun e=>by have:=hr k e.symm;omega)).trans (h.block k hk hl)⟩
def zDO (m b base K:Nat) (w:World) (j:Nat) (v:Value) (wr:World):Prop:=
 ∃ L:List (ET × Value),L.length=j/\OwnE wr (w.heap.size+1) v L /\
  (∀ (i:Nat) z,L[i]?=some z->KidsS wr (fun k=>w.heap.size+1<=k/\k<wr.heap.size/\some k ≠ v.ownBlock) z.2 z.1.kids)/\FitL (j * m) (zAO (L.map (·.1)))/\Vec wr w.heap.size Z15/\Cur wr b base K/\Only b w wr/\w.heap.size+1<=wr.heap.size
theorem zDO.nil {m b base K:Nat} {w wr:World} (V:Vec wr w.heap.size Z15) (C:Cur wr b base K) (O:Only b w wr):zDO m b base K w 0 (.slice none 0 0) wr:=
 ⟨[],rfl,zL5 _ _,fun i z h=>by simp at h,by rw [Nat.zero_mul];exact FitL.nil,V,C,O,World.block_lt_of_cell? _ _ (V 0 _ rfl).1⟩
theorem zDO.step {m b base K K' j:Nat} {w wr w3:World} {v:Value} (h:zDO m b base K w j v wr) (bl:b<w.heap.size) (hbb:base<=b) (o:Only b wr w3) (C:Cur w3 b base K') (x:NT) (ks:List ET) (p:Option Addr) (n cap:Nat)
  (hs:KidsS w3 (fun k=>wr.heap.size<=k/\k<w3.heap.size) (.slice p n cap) ks) (hf:FitL m (zBN (.mk x ks))) (hj:j<=1000) :
  ∃ p' c' w5,(Builtin.append_ #[75,75] 75 #[v,.slice (some ⟨w3.heap.size,0,none⟩) 1 1]).run Tryz.prog (w3.alloc (.cells (x.exL (.slice p n cap)).toArray 77))=.ok (.slice p' (j+1) c') w5/\zDO m b base K' w (j+1) (.slice p' (j+1) c') w5:=by
 obtain ⟨L,l1,O,kk,ff,V0,C0,o0,sz⟩:=h;have ob:=zDI O;have X4:=x1 w3 (.cells (x.exL (.slice p n cap)).toArray 77);have V4:=zA4 w3 (x.exL (.slice p n cap)) 77;have S4:(w3.alloc (.cells (x.exL (.slice p n cap)).toArray 77)).heap.size=w3.heap.size+1:=World.size_alloc _ _;obtain ⟨w4,h4⟩:=nm (w3.alloc (.cells (x.exL (.slice p n cap)).toArray 77));rw [h4] at X4 V4 S4 ⊢;have os:=o.size;have O4:OwnE w4 (w.heap.size+1) v L:=zE8 (zE8 O (fun k hk hk2=>o.block k (by omega) hk2)) (fun k _ hk2=>X4.block k hk2);obtain ⟨v',w5,hrun,O5,GW,hbl⟩:=zSE w4 (w.heap.size+1) v L O4 (.mk x ks,.slice p n cap) p n cap rfl w3.heap.size (fun c u hu=>by rw [Nat.zero_add];exact (V4 c u hu).1) (by omega) (by omega);obtain ⟨p',c',ev⟩:∃ p' c',v'=.slice p' (j+1) c':=by
  obtain ⟨q1,q2,q3,_⟩:=zFL O5;rw [List.length_append,l1] at q3;exact ⟨q1,q2,q3⟩
 subst ev;have A:(L++[((.mk x ks,.slice p n cap):ET × Value)]).length=j+1:=by rw [List.length_append,l1];rfl
 refine ⟨p',c',w5,hrun,?_⟩;refine ⟨L++[((.mk x ks,.slice p n cap):ET × Value)],A,O5,?_,?_,?_,?_,?_,?_⟩
 ·intro i z hz;by_cases hi:i<L.length
  ·rw [List.getElem?_append_left hi] at hz;refine (kk i z hz).keep (fun k hk=>?_) (fun k hk=>⟨hk.1,?_,fun e=>?_⟩)
   ·rw [GW.block k (by omega) (fun e=>hk.2.2 e),X4.block k (by omega),o.block k (by omega) hk.2.1]
   ·have:=GW.size;omega
   ·rcases hbl with hb1 | hb1
    ·exact hk.2.2 (e.trans hb1)
    ·have:=Option.some.inj (e.trans hb1);omega
  ·have hz2:z=(.mk x ks,.slice p n cap):=by
    rw [List.getElem?_append_right (by omega)] at hz;have:i - L.length=0:=(by have:=(List.getElem?_eq_some_iff.1 hz).1;simp at this;exact this);rw [this] at hz;simpa using hz.symm
   subst hz2;refine hs.keep (fun k hk=>?_) (fun k hk=>⟨by omega,?_,fun e=>?_⟩)
   ·rw [GW.block k (by omega) (fun e=>by have:=ob k e.symm;omega),X4.block k hk.2]
   ·have:=GW.size;omega
   ·rcases hbl with hb1 | hb1
    ·have:=ob k (e.trans hb1).symm;omega
    ·have:=Option.some.inj (e.trans hb1);omega
 ·rw [List.map_append,zCR,Nat.succ_mul];refine ff.app ?_;show FitL m (zAO [ET.mk x ks]);rw [zCU];exact hf
 ·exact zCT ((o.vecC (by omega) V0).l X4) GW (fun r hr=>by have:=ob r hr;omega)
 ·exact (C.ext X4).grownD GW (fun r hr=>by have:=ob r hr;omega)
 ·exact (((o0.trans o).trans (Only.of_ext X4))).grownD GW (fun r hr=>by have:=ob r hr;omega)
 ·have:=GW.size;omega
theorem zDO.cur {m b base K j:Nat} {w wr:World} {v:Value} (h:zDO m b base K w j v wr):Cur wr b base K:=by obtain ⟨_,_,_,_,_,_,q,_⟩:=h;exact q
theorem zDO.lt {m b base K j:Nat} {w wr:World} {v:Value} (h:zDO m b base K w j v wr):w.heap.size+1<=wr.heap.size:=by obtain ⟨_,_,_,_,_,_,_,_,q⟩:=h;exact q
theorem zJK (R:Nat) (h:R<=3):(Lib.decDigits R).length<=5:=by
 have:∀ R:Fin 4,(Lib.decDigits R.1).length<=5:=by decide +kernel
 exact this ⟨R,by omega⟩
theorem zDO.kids {m b base K j:Nat} {w wr:World} {v:Value} (h:zDO m b base K w j v wr):∃ ks:List ET,ks.length=j/\FitL (j * m) (zAO ks)/\KidsS wr (fun k=>w.heap.size+1<=k/\k<wr.heap.size) v ks/\Vec wr w.heap.size Z15/\Cur wr b base K/\Only b w wr:=by
 obtain ⟨L,l1,O,kk,ff,V0,C0,o0,sz⟩:=h;have ob:=zDI O;exact ⟨L.map (·.1),by rw [List.length_map,l1],ff,zIW O (fun g hg=>ob g hg) (fun i q hq=>(kk i q hq).keep (fun _ _=>rfl) (fun k hk=>⟨hk.1,hk.2.1⟩)),V0,C0,o0⟩
theorem zI4 {w:World} {U:Nat->Prop} {g:Nat} {x:NT} {ks:List ET} {s:Value} (V:Vec w g (x.exL s)) (hU:U g) (hk:KidsS w U s ks):KidsS w U (.slice (some ⟨g,0,none⟩) 1 1) [.mk x ks]:=by
 refine KidsS.mk (some ⟨g,0,none⟩) 1 [.mk x ks] (fun _=>s) (Nat.le_refl _) (fun _=>⟨g,rfl,hU,fun i e hi c u hu=>?_⟩) (fun i e hi=>?_)
 ·cases i with
  | zero =>
   cases hi;rw [Nat.zero_mul,Nat.zero_add];exact (V c u hu).1
  | succ i=>simp at hi
 ·cases i with
  | zero=>cases hi;exact hk
  | succ i=>simp at hi
theorem zR2 {w:World} {U:Nat->Prop} {g:Nat} {x y:NT} {ks ls:List ET} {s t:Value} (V:Vec w g (x.exL s++y.exL t)) (hU:U g) (hk:KidsS w U s ks) (hl:KidsS w U t ls):KidsS w U (.slice (some ⟨g,0,none⟩) 2 2) [.mk x ks,.mk y ls]:=by
 refine KidsS.mk (some ⟨g,0,none⟩) 2 [.mk x ks,.mk y ls] (fun i=>if i=0 then s else t) (Nat.le_refl _) (fun _=>⟨g,rfl,hU,fun i e hi c u hu=>?_⟩) (fun i e hi=>?_)
 ·match i,hi with
  | 0,hi =>
   cases hi;have hc:c<15:=by have:=(List.getElem?_eq_some_iff.1 hu).1;simpa using this
   rw [Nat.zero_mul,Nat.zero_add];exact (V c u (by rw [List.getElem?_append_left hc];exact hu)).1
  | 1,hi =>
   cases hi;have hc:c<15:=by have:=(List.getElem?_eq_some_iff.1 hu).1;simpa using this
   exact (V (1 * 15+c) u (by rw [List.getElem?_append_right (by show 15<=_;omega),show 1 * 15+c - (x.exL s).length=c by show 1 * 15+c - 15=c;omega];exact hu)).1
  | i+2,hi=>simp at hi
 ·match i,hi with
  | 0,hi=>cases hi;exact hk
  | 1,hi=>cases hi;exact hl
  | i+2,hi=>simp at hi
def zNV:List (List UInt8):=[[116,97,120],[84,111,116,97,108,95,49],[120,46,121],[95,97],[82,67,88],[122,122]]
def zPL:List (List UInt8):=[[83,85,77],[73,70],[76,69,84],[77,65,88],[78,79,83,85,67,72,46,70]]
theorem zQV:∀ t ∈ zNV,t.length<=100:=by decide +kernel
theorem zRO:∀ t ∈ zPL,t.length<=100:=by decide +kernel
theorem zTD:∀ t ∈ opsL,t.length<=100:=by decide +kernel
structure OpJ (w:World) (b base K gX lo hi:Nat) (x:NT) (s:Value) (ks:List ET) (lw:World):Prop where
 vz:Vec lw w.heap.size Z15
 cur:Cur lw b base K
 only:Only b w lw
 vx:Vec lw gX (x.exL s)
 kk:zBI lw lo hi s ks
 bl:b<w.heap.size
 lt:w.heap.size<lo/\w.heap.size<gX/\b<gX/\base<=b
theorem OpJ.turn {w lw lw':World} {b base K K' gX lo hi:Nat} {x:NT} {s:Value} {ks:List ET} (h:OpJ w b base K gX lo hi x s ks lw) (o:Only b lw lw') (c:Cur lw' b base K'):OpJ w b base K' gX lo hi x s ks lw':=
 ⟨o.vecC (by have:=h.bl;omega) h.vz,c,h.only.trans o,o.vecC (by have:=h.lt;omega) h.vx,h.kk.only o (by have:=h.bl;have:=h.lt;omega),h.bl,h.lt⟩
theorem OpJ.sz {w lw:World} {b base K gX lo hi:Nat} {x:NT} {s:Value} {ks:List ET} (h:OpJ w b base K gX lo hi x s ks lw):w.heap.size<lw.heap.size:=by
 have h1:gX<lw.heap.size:=World.block_lt_of_cell? _ _ (h.vx 0 _ rfl).1;have:=h.lt;omega
def kcT (z:Nat) (L:Nat->Bool):Nat:=(if L 2=true then 2 else 0)+(if L 9=true then z else 0)
theorem zOK (z:Nat) (L:Nat->Bool):kcT z L<=z+2:=by unfold kcT;split <;> split <;> omega
theorem kcT2 {z:Nat} {L:Nat->Bool} (h:L 2=false):kcT z (fun j=>if j=2 then true else L j)=kcT z L+2:=by simp [kcT,h];omega
theorem kcT9 {z:Nat} {L:Nat->Bool} (h:L 9=false):kcT z (fun j=>if j=9 then true else L j)=kcT z L+z:=by simp [kcT,h]
theorem kcT0 {z i:Nat} {L:Nat->Bool} (h:i ≠ 2) (h':i ≠ 9):kcT z (fun j=>if j=i then true else L j)=kcT z L:=by unfold kcT;simp [h.symm,h'.symm]
theorem opsN (w:World):Calls Tryz.prog 82 #[] w fun e w'=>∃ g,e=.returned (.slice (some ⟨g,0,none⟩) 12 12)/\Vec w' g (opsL.map sV)/\w.heap.size<=g/\Ext w w':=by
 have V:=zA4 w (opsL.map sV) 9;go_enter Tryz.func82,Tryz.ntmps82;go_wp2_with fail;go_ret;exact ⟨w.heap.size,rfl,V,Nat.le_refl _,x1 _ _⟩
def sndC:Code->Code
 | .seq _ b=>b
 | c=>c
def zKE:Option Code->Code
 | some c=>c
 | none=>.skip
noncomputable def zBT:Code:=sndC (sndC (sndC (zKE (Tryz.f57).body)))
theorem zV7 (D D1:Int) (m M z B B':Nat) (hM:3 * m+20<=M) (hD1:IntKind.i64.wrap (D - 1)=D1) (hB:B+3 * z+500<=B') (hB':B'<=900000) (IH0:¬ D=0->∀ (b base K:Nat) (w:World),Cur w b base K->K<=B'->Calls Tryz.prog 57 #[.pointer (some ⟨b,0,none⟩),iQ D1] w fun e w'=>zAE m b base (K+z) w e w')
  (b base K:Nat) (w wk:World) (bl:b<w.heap.size) (bb:base<=b) (hK:K<=B) (k:Int) (hk5:D=0->k<=5) (V0:Vec wk w.heap.size Z15) (C1:Cur wk b base (K+4)) (O1:Only b w wk) (hG:(k=0\/k=1)\/(k=2\/k=3))
  {u14 u15 u16 u17 u18 u19 u20 u21 u22 u23 u26 u27 u28 u29 u31 u32 u33 u34 u35 u36 u38 u39 u40 u41 u42 u43 u44 u46 u47 u48 u49 u50 u51 u52 u54 u55 u56 u57 u58 u59 u60 u62 u63 u64 u65 u66 u67 u68 u70 u71 u72 u73 u74 u75 u76 u77 u78 u79 u80 u81 u82 u83 u84 u85 u86 u87 u88 u89 u90 u91 u92 u93 u94 u95 u96 u97 u98 u99 u100 u101 u102 u103 u105 u106 u107 u108 u109 u110 u111 u112 u113 u114 u115 u116 u117 u118 u119 u120 u121 u122 u123 u124 u125 u126 u127 u128 u129 u130 u131 u132 u133 u134 u135 u136 u137 u138 u139 u140 u141 u142 u143 u144 u145 u146 u147 u148 u149 u150 u151 u152 u153:Value} :
  Code.wp Tryz.prog zBT (bodyPost Tryz.prog Tryz.f57 fun e w'=>zAE M b base (K+3 * z+500) w e w') { tmps:=#[Value.pointer (some ⟨b,0,none⟩),Value.int .i64 D,undef,undef,Value.pointer (some ⟨w.heap.size,0,none⟩),Value.int .i64 k,undef,undef,undef,undef,undef,undef,undef,undef,u14,u15,u16,u17,u18,u19,u20,u21,u22,u23,undef,undef,u26,u27,u28,u29,undef,u31,u32,u33,u34,u35,u36,undef,u38,u39,u40,u41,u42,u43,u44,undef,u46,u47,u48,u49,u50,u51,u52,undef,u54,u55,u56,u57,u58,u59,u60,undef,u62,u63,u64,u65,u66,u67,u68,undef,u70,u71,u72,u73,u74,u75,u76,u77,u78,u79,u80,u81,u82,u83,u84,u85,u86,u87,u88,u89,u90,u91,u92,u93,u94,u95,u96,u97,u98,u99,u100,u101,u102,u103,undef,u105,u106,u107,u108,u109,u110,u111,u112,u113,u114,u115,u116,u117,u118,u119,u120,u121,u122,u123,u124,u125,u126,u127,u128,u129,u130,u131,u132,u133,u134,u135,u136,u137,u138,u139,u140,u141,u142,u143,u144,u145,u146,u147,u148,u149,u150,u151,u152,u153],defers:=[] } wk:=by
 have lk:w.heap.size<wk.heap.size:=World.block_lt_of_cell? _ _ (V0 0 _ rfl).1;have hkD:Hid _:=hk5;have IH:Hid _:=IH0;have HD1:Hid _:=hD1;clear hk5 IH0;obtain ⟨P,hP⟩:=nm (bodyPost Tryz.prog Tryz.f57 (fun e w'=>zAE M b base (K+3 * z+500) w e w'));rw [hP];unfold zBT;dsimp only [sndC,zKE,Tryz.f57];subst hP
 rcases hG with hG | hG
 ·rcases hG with rfl | rfl
  all_goals
   clear IH hD1 hkD;go_wp2_with fail;refine (zSC b base _ _ C1 (by omega)).mono ?_;rintro e w3 ⟨⟨x,ks,s,rfl,hf,hk⟩,C1,o1⟩;obtain ⟨p,cap,rfl,_⟩:=hk.slice;have hk:zBI w3 wk.heap.size w3.heap.size _ ks:=⟨hk,Nat.le_refl _⟩;have V0:=o1.vecC (by omega) V0;have O1:=O1.trans o1;clear o1;obtain ⟨wy,hy,VT,OF,CF,QC,SZ,KP⟩:=zFO V0 C1 O1 (Nat.le_refl _) (by omega) (by omega) (⟨x.k,x.t,x.n,x.d,x.x,x.r,x.c,x.f,x.g,x.r2,x.c2,x.f2,x.g2,x.q⟩:NT) (.slice p ks.length cap);have HQ2:Hid _:=hy;have q0:=QC 0 _ rfl;have q1:=QC 1 _ rfl;have q2:=QC 2 _ rfl;have q3:=QC 3 _ rfl;have q4:=QC 4 _ rfl;have q5:=QC 5 _ rfl;have q6:=QC 6 _ rfl;have q7:=QC 7 _ rfl;have q8:=QC 8 _ rfl;have q9:=QC 9 _ rfl;have q10:=QC 10 _ rfl;have q11:=QC 11 _ rfl;have q12:=QC 12 _ rfl;have q13:=QC 13 _ rfl;have q14:=QC 14 _ rfl;have PO:Hid (zAE M b base (K+3 * z+500) w (.returned (.agg #[iQ x.k,sV x.t,.bool x.n,iQ x.d,iQ x.x,iQ x.r,iQ x.c,.bool x.f,.bool x.g,iQ x.r2,iQ x.c2,.bool x.f2,.bool x.g2,iQ x.q,.slice p ks.length cap])) wy):=by
    refine ⟨⟨x,ks,_,rfl,hf.more (by omega),(zBI.block hk KP SZ (by omega)).wide (by omega) (by rw [SZ];exact hk.2)⟩,CF.more (by omega),OF⟩
   clear OF CF QC SZ KP hy C1 O1 V0 hk hf;go_wp2_with (refine zAN rfl _ _ _ rfl w.heap.size 0 _ rfl rfl VT zDJ (by simp [Value.oneCell']) HQ2.out ?_);exact bodyPost_ret (v:=.agg #[iQ x.k,sV x.t,.bool x.n,iQ x.d,iQ x.x,iQ x.r,iQ x.c,.bool x.f,.bool x.g,iQ x.r2,iQ x.c2,.bool x.f2,.bool x.g2,iQ x.q,.slice p ks.length cap]) (by simp [results,go_sem,q0,q1,q2,q3,q4,q5,q6,q7,q8,q9,q10,q11,q12,q13,q14]) rfl PO.out
 ·rcases hG with rfl | rfl
  all_goals
   clear IH hD1 hkD;go_wp2_with fail;refine (refC b base _ _ C1 (by omega)).mono ?_;rintro e w3 ⟨r,c,rf,cf,K1,rfl,_,_,hK1,C1,o1⟩;have V0:=o1.vecC (by omega) V0;have O1:=O1.trans o1;clear o1;obtain ⟨wy,hy,VT,OF,CF,QC,SZ,KP⟩:=zFO V0 C1 O1 (Nat.le_refl _) (by omega) (by omega) (⟨5,[],false,0,0,r,c,rf,cf,0,0,false,false,0⟩:NT) (.slice none 0 0);have HQ2:Hid _:=hy;have q0:=QC 0 _ rfl;have q1:=QC 1 _ rfl;have q2:=QC 2 _ rfl;have q3:=QC 3 _ rfl;have q4:=QC 4 _ rfl;have q5:=QC 5 _ rfl;have q6:=QC 6 _ rfl;have q7:=QC 7 _ rfl;have q8:=QC 8 _ rfl;have q9:=QC 9 _ rfl;have q10:=QC 10 _ rfl;have q11:=QC 11 _ rfl;have q12:=QC 12 _ rfl;have q13:=QC 13 _ rfl;have q14:=QC 14 _ rfl;have PO:Hid (zAE M b base (K+3 * z+500) w (.returned (.agg #[iQ 5,.string ⟨#[]⟩,.bool false,iQ 0,iQ 0,iQ r,iQ c,.bool rf,.bool cf,iQ 0,iQ 0,.bool false,.bool false,iQ 0,.slice none 0 0])) wy):=by
    refine ⟨⟨(⟨5,[],false,0,0,r,c,rf,cf,0,0,false,false,0⟩:NT),[],.slice none 0 0,rfl,(FitL.leaf (zDK (by show List.length _<=_;first | omega | simp) rfl)).more (by omega),zD8 _ _⟩,CF.more (by omega),OF⟩
   clear OF CF QC SZ KP hy C1 O1 V0;go_wp2_with (refine zAN rfl _ _ _ rfl w.heap.size 0 _ rfl rfl VT zDJ (by simp [Value.oneCell']) HQ2.out ?_);exact bodyPost_ret (v:=.agg #[iQ 5,.string ⟨#[]⟩,.bool false,iQ 0,iQ 0,iQ r,iQ c,.bool rf,.bool cf,iQ 0,iQ 0,.bool false,.bool false,iQ 0,.slice none 0 0]) (by simp [results,go_sem,q0,q1,q2,q3,q4,q5,q6,q7,q8,q9,q10,q11,q12,q13,q14]) rfl PO.out
theorem zV6 (D D1:Int) (m M z B B':Nat) (hM:3 * m+20<=M) (hD1:IntKind.i64.wrap (D - 1)=D1) (hB:B+3 * z+500<=B') (hB':B'<=900000) (IH0:¬ D=0->∀ (b base K:Nat) (w:World),Cur w b base K->K<=B'->Calls Tryz.prog 57 #[.pointer (some ⟨b,0,none⟩),iQ D1] w fun e w'=>zAE m b base (K+z) w e w')
  (b base K:Nat) (w wk:World) (bl:b<w.heap.size) (bb:base<=b) (hK:K<=B) (k:Int) (hk5:D=0->k<=5) (V0:Vec wk w.heap.size Z15) (C1:Cur wk b base (K+4)) (O1:Only b w wk) (hG:k=4\/k=5)
  {u14 u15 u16 u17 u18 u19 u20 u21 u22 u23 u26 u27 u28 u29 u31 u32 u33 u34 u35 u36 u38 u39 u40 u41 u42 u43 u44 u46 u47 u48 u49 u50 u51 u52 u54 u55 u56 u57 u58 u59 u60 u62 u63 u64 u65 u66 u67 u68 u70 u71 u72 u73 u74 u75 u76 u77 u78 u79 u80 u81 u82 u83 u84 u85 u86 u87 u88 u89 u90 u91 u92 u93 u94 u95 u96 u97 u98 u99 u100 u101 u102 u103 u105 u106 u107 u108 u109 u110 u111 u112 u113 u114 u115 u116 u117 u118 u119 u120 u121 u122 u123 u124 u125 u126 u127 u128 u129 u130 u131 u132 u133 u134 u135 u136 u137 u138 u139 u140 u141 u142 u143 u144 u145 u146 u147 u148 u149 u150 u151 u152 u153:Value} :
  Code.wp Tryz.prog zBT (bodyPost Tryz.prog Tryz.f57 fun e w'=>zAE M b base (K+3 * z+500) w e w') { tmps:=#[Value.pointer (some ⟨b,0,none⟩),Value.int .i64 D,undef,undef,Value.pointer (some ⟨w.heap.size,0,none⟩),Value.int .i64 k,undef,undef,undef,undef,undef,undef,undef,undef,u14,u15,u16,u17,u18,u19,u20,u21,u22,u23,undef,undef,u26,u27,u28,u29,undef,u31,u32,u33,u34,u35,u36,undef,u38,u39,u40,u41,u42,u43,u44,undef,u46,u47,u48,u49,u50,u51,u52,undef,u54,u55,u56,u57,u58,u59,u60,undef,u62,u63,u64,u65,u66,u67,u68,undef,u70,u71,u72,u73,u74,u75,u76,u77,u78,u79,u80,u81,u82,u83,u84,u85,u86,u87,u88,u89,u90,u91,u92,u93,u94,u95,u96,u97,u98,u99,u100,u101,u102,u103,undef,u105,u106,u107,u108,u109,u110,u111,u112,u113,u114,u115,u116,u117,u118,u119,u120,u121,u122,u123,u124,u125,u126,u127,u128,u129,u130,u131,u132,u133,u134,u135,u136,u137,u138,u139,u140,u141,u142,u143,u144,u145,u146,u147,u148,u149,u150,u151,u152,u153],defers:=[] } wk:=by
 have lk:w.heap.size<wk.heap.size:=World.block_lt_of_cell? _ _ (V0 0 _ rfl).1;have hkD:Hid _:=hk5;have IH:Hid _:=IH0;have HD1:Hid _:=hD1;clear hk5 IH0;obtain ⟨P,hP⟩:=nm (bodyPost Tryz.prog Tryz.f57 (fun e w'=>zAE M b base (K+3 * z+500) w e w'));rw [hP];unfold zBT;dsimp only [sndC,zKE,Tryz.f57];subst hP
 rcases hG with rfl | rfl
 ·clear IH hD1 hkD;go_wp2_with fail;refine (refC b base _ _ C1 (by omega)).mono ?_;rintro e w3 ⟨r,c,rf,cf,K1,rfl,_,_,hK1,C1,o1⟩;have V0:=o1.vecC (by omega) V0;have O1:=O1.trans o1;clear o1;go_wp2_with fail;refine (refC b base _ _ C1 (by omega)).mono ?_;rintro e w4 ⟨r2,c2,rf2,cf2,K2,rfl,_,_,hK2,C1,o1⟩;have V0:=o1.vecC (by omega) V0;have O1:=O1.trans o1;clear o1;obtain ⟨wy,hy,VT,OF,CF,QC,SZ,KP⟩:=zFO V0 C1 O1 (Nat.le_refl _) (by omega) (by omega) (⟨6,[],false,0,0,r,c,rf,cf,r2,c2,rf2,cf2,0⟩:NT) (.slice none 0 0);have HQ2:Hid _:=hy;have q0:=QC 0 _ rfl;have q1:=QC 1 _ rfl;have q2:=QC 2 _ rfl;have q3:=QC 3 _ rfl;have q4:=QC 4 _ rfl;have q5:=QC 5 _ rfl;have q6:=QC 6 _ rfl;have q7:=QC 7 _ rfl;have q8:=QC 8 _ rfl;have q9:=QC 9 _ rfl;have q10:=QC 10 _ rfl;have q11:=QC 11 _ rfl;have q12:=QC 12 _ rfl;have q13:=QC 13 _ rfl;have q14:=QC 14 _ rfl;have PO:Hid (zAE M b base (K+3 * z+500) w (.returned (.agg #[iQ 6,.string ⟨#[]⟩,.bool false,iQ 0,iQ 0,iQ r,iQ c,.bool rf,.bool cf,iQ r2,iQ c2,.bool rf2,.bool cf2,iQ 0,.slice none 0 0])) wy):=by
   refine ⟨⟨(⟨6,[],false,0,0,r,c,rf,cf,r2,c2,rf2,cf2,0⟩:NT),[],.slice none 0 0,rfl,(FitL.leaf (zDK (by show List.length _<=_;first | omega | simp) rfl)).more (by omega),zD8 _ _⟩,CF.more (by omega),OF⟩
  clear OF CF QC SZ KP hy C1 O1 V0;go_wp2_with (refine zAN rfl _ _ _ rfl w.heap.size 0 _ rfl rfl VT zDJ (by simp [Value.oneCell']) HQ2.out ?_);exact bodyPost_ret (v:=.agg #[iQ 6,.string ⟨#[]⟩,.bool false,iQ 0,iQ 0,iQ r,iQ c,.bool rf,.bool cf,iQ r2,iQ c2,.bool rf2,.bool cf2,iQ 0,.slice none 0 0]) (by simp [results,go_sem,q0,q1,q2,q3,q4,q5,q6,q7,q8,q9,q10,q11,q12,q13,q14]) rfl PO.out
 ·clear IH hD1 hkD;have bk:b<wk.heap.size:=by omega
  have E:=x1 wk (.cells (zNV.map sV).toArray 9);have VS:=zA4 wk (zNV.map sV) 9;have C1:=C1.ext E;have V0:=V0.l E;have O1:=O1.e E;obtain ⟨ws,hs⟩:=nm (wk.alloc (.cells (zNV.map sV).toArray 9));rw [hs] at C1 O1 VS V0;simp only [zNV,List.map,sV] at hs;have HS:Hid _:=hs;clear E hs;go_wp2_with (rw [HS.out]);refine (zAV b base _ 6 _ C1 (by omega) (by omega) (by omega)).mono ?_;rintro e w5 ⟨u,rfl,⟨u0,u9⟩,C1,o1⟩;have VS:=o1.vecC (by omega) VS;have V0:=o1.vecC (by omega) V0;have O1:=O1.trans o1;clear o1 HS;obtain ⟨u,rfl⟩:∃ z:Nat,u=(z:Int):=⟨u.toNat,by omega⟩;obtain ⟨t,ht,tl⟩:=zGI (l:=zNV) (u:=u) (by show u<6;omega) zQV;have cu:=(VS u _ ht).1;clear VS ht;have i0:(u:Int)<6:=by omega
  go_wp2_with fail;refine (zD0 7 t none 0 0 _).mono ?_;rintro e w4 ⟨rfl,E⟩;have C1:=C1.ext E;have V0:=V0.l E;have O1:=O1.e E;clear E cu;obtain ⟨wy,hy,VT,OF,CF,QC,SZ,KP⟩:=zFO V0 C1 O1 (Nat.le_refl _) (by omega) (by omega) (⟨7,t,false,0,0,0,0,false,false,0,0,false,false,((0:Nat):Int)⟩:NT) (.slice none 0 0);have HQ2:Hid _:=hy;have q0:=QC 0 _ rfl;have q1:=QC 1 _ rfl;have q2:=QC 2 _ rfl;have q3:=QC 3 _ rfl;have q4:=QC 4 _ rfl;have q5:=QC 5 _ rfl;have q6:=QC 6 _ rfl;have q7:=QC 7 _ rfl;have q8:=QC 8 _ rfl;have q9:=QC 9 _ rfl;have q10:=QC 10 _ rfl;have q11:=QC 11 _ rfl;have q12:=QC 12 _ rfl;have q13:=QC 13 _ rfl;have q14:=QC 14 _ rfl;have PO:Hid (zAE M b base (K+3 * z+500) w (.returned (.agg #[iQ 7,sV t,.bool false,iQ 0,iQ 0,iQ 0,iQ 0,.bool false,.bool false,iQ 0,iQ 0,.bool false,.bool false,iQ ((0:Nat):Int),.slice none 0 0])) wy):=by
   refine ⟨⟨(⟨7,t,false,0,0,0,0,false,false,0,0,false,false,((0:Nat):Int)⟩:NT),[],.slice none 0 0,rfl,(FitL.leaf (zDK (by show t.length<=_;omega) rfl)).more (by omega),zD8 _ _⟩,CF.more (by omega),OF⟩
  clear OF CF QC SZ KP hy C1 O1 V0;go_wp2_with (refine zAN rfl _ _ _ rfl w.heap.size 0 _ rfl rfl VT zDJ (by simp [Value.oneCell']) HQ2.out ?_);exact bodyPost_ret (v:=.agg #[iQ 7,sV t,.bool false,iQ 0,iQ 0,iQ 0,iQ 0,.bool false,.bool false,iQ 0,iQ 0,.bool false,.bool false,iQ ((0:Nat):Int),.slice none 0 0]) (by simp [results,go_sem,q0,q1,q2,q3,q4,q5,q6,q7,q8,q9,q10,q11,q12,q13,q14]) rfl PO.out
end Go.Proofs.YteliaeejooekbaaGreatDoor
