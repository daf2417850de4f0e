/-
  Several texts in one: AddNum, MulD, SubD, CmpD, DivNum.
-/
import Derived.Test.YtjlojlgdkfpcdaaGreatDoorMg6
import Derived.Deep.QuietTactic
import Derived.BigQuiet
set_option maxHeartbeats 2000000
set_option maxRecDepth 8000
namespace Go.Proofs.YtjlojlgdkfpcdaaGreatDoor
theorem zBP (xs:List Int) (i:Nat):lv (xs.take (i+1))=lv (xs.take i)+1000000000 ^ i * xs.getD i 0:=by
 by_cases h:i<xs.length
 ·exact zD6 xs i h
 ·rw [List.take_of_length_le (by omega),List.take_of_length_le (by omega),List.getD_eq_getElem?_getD,List.getElem?_eq_none (by omega)];simp
def zGM (xs ys fs:List Int) (n i:Nat) (c:Int):Prop:=
 fs.length=n+1/\Lim fs/\(∀ j,i<=j->fs.getD j 0=0)/\0<=c/\c<=1/\lv fs+1000000000 ^ i * c=lv (xs.take i)+lv (ys.take i)
theorem zGM.start (xs ys:List Int) (n:Nat):zGM xs ys (List.replicate (n+1) 0) n 0 0:=
 ⟨by simp,Lim.zeros _,fun j _=>zB9 _ j,by decide,by decide,by simp [lv,zB2]⟩
theorem zGM.step {xs ys fs:List Int} {n i:Nat} {c x y:Int} (h:zGM xs ys fs n i c) (hi:i<=n) (lx:Lim xs) (ly:Lim ys) (ex:xs.getD i 0=x) (ey:ys.getD i 0=y) :
  zGM xs ys (fs.set i ((c+x+y) % 1000000000)) n (i+1) ((c+x+y) / 1000000000):=by
 obtain ⟨h1,h2,h3,c0,c1,h4⟩:=h;have hx:=lx.getD i;have hy:=ly.getD i;rw [ex] at hx;rw [ey] at hy;refine ⟨by simpa using h1,h2.set _ (by omega) (by omega),?_,by omega,by omega,?_⟩
 ·intro j hj;rw [zBY (by omega),if_neg (by omega)];exact h3 j (by omega)
 ·rw [zHQ _ _ _ (by omega),h3 i (Nat.le_refl _),zBP xs,zBP ys,ex,ey,Int.pow_succ];have e3:(c+x+y) % 1000000000+1000000000 * ((c+x+y) / 1000000000)=c+x+y:=Int.emod_add_mul_ediv _ _;generalize (c+x+y) / 1000000000=q at *;generalize (c+x+y) % 1000000000=r at *;obtain rfl:r=c+x+y - 1000000000 * q:=by omega
  generalize (1000000000:Int) ^ i=p at *;generalize lv fs=F at *;generalize lv (List.take i xs)=X at *;generalize lv (List.take i ys)=Y at *;simp only [Int.sub_zero,Int.mul_add,Int.mul_sub,Int.mul_comm,Int.mul_left_comm] at h4 ⊢;omega
theorem zGM.done {xs ys fs:List Int} {n:Nat} {c:Int} (h:zGM xs ys fs n (n+1) c) (lx:Lim xs) (ly:Lim ys) (hx:xs.length<=n) (hy:ys.length<=n):lv fs=lv xs+lv ys:=by
 obtain ⟨h1,h2,h3,c0,c1,h4⟩:=h;rw [List.take_of_length_le (by omega),List.take_of_length_le (by omega)] at h4;have b1:=zL0 lx;have b2:=zL0 ly;have b3:=zB8 hx;have b4:=zB8 hy;have b5:=zCY h2;have hp:=zDX n;rw [Int.pow_succ] at h4;generalize (1000000000:Int) ^ n=p at *;by_cases hc:c=0
 ·subst hc;simp at h4;omega
 ·obtain rfl:c=1:=by omega
  omega
def zGK (xs ys fs:List Int) (i:Nat) (c:Int):Prop:=
 fs.length=xs.length/\Lim fs/\(∀ j,i<=j->fs.getD j 0=0)/\0<=c/\c<=1/\lv fs+lv (ys.take i)=lv (xs.take i)+1000000000 ^ i * c
theorem zGK.start (xs ys:List Int):zGK xs ys (List.replicate xs.length 0) 0 0:=
 ⟨by simp,Lim.zeros _,fun j _=>zB9 _ j,by decide,by decide,by simp [lv,zB2]⟩
theorem zGK.step {xs ys fs:List Int} {i:Nat} {c s d:Int} (h:zGK xs ys fs i c) (hi:i<xs.length) (d0:0<=d) (d1:d<=1) (hs:s=xs.getD i 0 - c - ys.getD i 0+1000000000 * d) (s0:0<=s) (s1:s<1000000000) :
  zGK xs ys (fs.set i s) (i+1) d:=by
 obtain ⟨h1,h2,h3,c0,c1,h4⟩:=h;refine ⟨by simpa using h1,h2.set _ s0 s1,?_,d0,d1,?_⟩
 ·intro j hj;rw [zBY (by omega),if_neg (by omega)];exact h3 j (by omega)
 ·rw [zHQ _ _ _ (by omega),h3 i (Nat.le_refl _),zBP xs,zBP ys,Int.pow_succ];generalize xs.getD i 0=x at *;generalize ys.getD i 0=y at *;subst hs;generalize (1000000000:Int) ^ i=p at *;generalize lv fs=F at *;generalize lv (List.take i xs)=X at *;generalize lv (List.take i ys)=Y at *;simp only [Int.sub_zero,Int.mul_add,Int.mul_sub,Int.mul_comm,Int.mul_left_comm] at h4 ⊢;omega
theorem zGK.done {xs ys fs:List Int} {c:Int} (h:zGK xs ys fs xs.length c) (hy:ys.length<=xs.length) (hle:lv ys<=lv xs):lv fs=lv xs - lv ys:=by
 obtain ⟨h1,h2,h3,c0,c1,h4⟩:=h;rw [List.take_of_length_le (Nat.le_refl _),List.take_of_length_le hy] at h4;have b1:=zL0 h2;rw [h1] at b1;generalize (1000000000:Int) ^ xs.length=p at *;by_cases hc:c=0
 ·subst hc;simp at h4;omega
 ·obtain rfl:c=1:=by omega
  omega
end Go.Proofs.YtjlojlgdkfpcdaaGreatDoor

namespace Go.Proofs.YtjlojlgdkfpcdaaGreatDoor
open Go.RowKit
def zBZ (w:World) (v:Value) (z:Int) (n:Nat):Prop:=∃ ys,Row w v ys/\Lim ys/\Top ys/\lv ys=z/\ys.length<=n
theorem zBZ.l {w w1:World} {v:Value} {z:Int} {n:Nat} (h:zBZ w v z n) (hb:Ext w w1):zBZ w1 v z n:=by
 obtain ⟨ys,h1,h2⟩:=h;exact ⟨ys,h1.l hb,h2⟩
theorem zMY {xs:List Int} {j:Nat} (hj:j<xs.length) (hz:xs.getD j 0 ≠ 0):Top (xs.take (j+1)):=by
 refine .inr ?_;have e:(xs.take (j+1)).length - 1=j:=by simp;omega
 rw [e,zFW (by omega)];exact hz
theorem C32.take {w:World} {b o:Nat} {xs:List Int} (h:C32 w b o xs) (k:Nat):C32 w b o (xs.take k):=fun i hi=>by
 have hi':i<k/\i<xs.length:=by simpa [Nat.lt_min] using hi
 rw [zFW hi'.1];exact h i hi'.2
theorem Row.take {w:World} {b o cap:Nat} {xs:List Int} (h:C32 w b o xs) (k:Nat) (hk:k<=xs.length) (h1:xs.length<=cap) (h2:cap<=9223372036854775807):Row w (.slice (some ⟨b,o,none⟩) k cap) (xs.take k):=by
 have e:(xs.take k).length=k:=by simp;omega
 exact ⟨_,cap,by rw [e],by omega,h2,.inr ⟨b,o,rfl,h.take k⟩⟩
def Off (n:Nat) (v:Value):Prop:=∀ p k c,v=.slice (some p) k c->n<=p.block
theorem Off.nil (n:Nat) (k c:Nat):Off n (.slice none k c):=fun p k c h=>by cases h
theorem Off.at {n b o k c:Nat} (h:n<=b):Off n (.slice (some ⟨b,o,none⟩) k c):=fun p k c e=>by cases e;exact h
theorem Off.less {n m:Nat} {v:Value} (h:Off n v) (hm:m<=n):Off m v:=fun p k c e=>Nat.le_trans hm (h p k c e)
theorem cut_some (b o cap:Nat) (xs:List Int) (w:World) (hc:xs.length<=cap) (hcap:cap<=9223372036854775807) (hx:C32 w b o xs) (hl:Lim xs) :
  Calls Tryz.prog 207 #[.slice (some ⟨b,o,none⟩) xs.length cap] w fun e w'=>∃ v',e=.returned v'/\zBZ w' v' (lv xs) xs.length/\Ext w w'/\∃ k,v'=.slice (some ⟨b,o,none⟩) k cap:=by
 go_enter Tryz.func207,Tryz.ntmps207
 go_wp2
 go_loop [3] (fun n=>∃ k:Nat,k<=xs.length/\n=.int .i64 k/\lv (xs.take k)=lv xs) (fun n=>(intOf n).toNat)
 case atStart=>exact ⟨xs.length,Nat.le_refl _,rfl,by simp⟩
 case round =>
  obtain ⟨k,hk,rfl,hv⟩:=hrel;have HV:=hid hv;clear hv;by_cases h0:k=0
  ·subst h0;have HR:Hid (Row w (.slice (some ⟨b,o,none⟩) 0 cap) (xs.take 0)):=Row.take hx 0 (by omega) hc hcap;clear hx
   go_wp2
   go_ret;exact ⟨_,rfl,⟨xs.take 0,HR.out,hl.take 0,.inl (by simp),HV.out,by simp⟩,xr _,_,rfl⟩
  ·obtain ⟨j,rfl⟩:∃ j,k=j+1:=⟨k - 1,by omega⟩;have hj:j<xs.length:=by omega
   have hcell:=hx j hj;by_cases hz:xs.getD j 0=0
   ·rw [hz] at hcell;have HN:Hid (lv (xs.take j)=lv xs):=(by have:=HV.out;rw [zDT hj hz] at this;exact this);clear h0 hz hx
    go_wp2
    go_round
    case rel=>exact ⟨j,by omega,by go_num,HN.out⟩
    case measure=>simp [intOf]
   ·have HT:Hid (Top (xs.take (j+1))):=zMY hj hz;have HR:Hid (Row w (.slice (some ⟨b,o,none⟩) (j+1) cap) (xs.take (j+1))):=Row.take hx (j+1) (by omega) hc hcap;obtain ⟨x,hxj⟩:=nm (xs.getD j 0);rw [hxj] at hcell hz;have hz':(x == 0)=false:=(by rw [beq_eq_false_iff_ne];exact hz);clear h0 hxj hz hx
    go_wp2
    go_ret;exact ⟨_,rfl,⟨xs.take (j+1),HR.out,hl.take _,HT.out,HV.out,by simp;omega⟩,xr _,_,rfl⟩
theorem cut_none (w:World) :
  Calls Tryz.prog 207 #[.slice none 0 0] w fun e w'=>∃ v',e=.returned v'/\zBZ w' v' 0 0/\Ext w w'/\v'=.slice none 0 0:=by
 go_enter Tryz.func207,Tryz.ntmps207
 go_wp2
 go_loop [3] (fun n=>n=.int .i64 0) (fun _=>0)
 case atStart=>rfl
 case round =>
  subst hrel
  go_wp2
  go_ret;exact ⟨_,rfl,⟨[],⟨none,0,rfl,Nat.le_refl _,by decide,.inl ⟨rfl,rfl⟩⟩,Lim.nil,.inl rfl,rfl,Nat.le_refl _⟩,xr _,rfl⟩
theorem zEJ {v:Value} {xs:List Int} (w:World) (h:Row w v xs) (hl:Lim xs) :
  Calls Tryz.prog 207 #[v] w fun e w'=>∃ v',e=.returned v'/\zBZ w' v' (lv xs) xs.length/\Ext w w'/\∀ n,Off n v->Off n v':=by
 obtain ⟨p,cap,rfl,h1,h2,h3⟩:=h
 rcases h3 with ⟨rfl,rfl⟩ | ⟨b,o,rfl,h3⟩
 ·obtain rfl:xs=[]:=List.eq_nil_of_length_eq_zero (by omega);refine (cut_none w).mono ?_;rintro e w' ⟨v',rfl,hC,hx,rfl⟩;exact ⟨_,rfl,hC,hx,fun n _=>Off.nil n 0 0⟩
 ·refine (cut_some b o cap xs w h1 h2 h3 hl).mono ?_;rintro e w' ⟨v',rfl,hC,hx,k,rfl⟩;exact ⟨_,rfl,hC,hx,fun n hn=>Off.at (hn _ _ _ rfl)⟩
def zI8 (xs fs:List Int) (m:Int) (i:Nat) (c:Int):Prop:=
 fs.length=xs.length+1/\Lim fs/\(∀ j,i<=j->fs.getD j 0=0)/\0<=c/\c<1000000000/\lv fs+1000000000 ^ i * c=lv (xs.take i) * m
theorem zI8.step {xs fs:List Int} {m:Int} {i:Nat} {c x:Int} (h:zI8 xs fs m i c) (hi:i<xs.length) (lx:Lim xs) (m0:0<=m) (m1:m<1000000000) (ex:xs.getD i 0=x) :
  zI8 xs (fs.set i ((x * m+c) % 1000000000)) m (i+1) ((x * m+c) / 1000000000):=by
 obtain ⟨h1,h2,h3,c0,c1,h4⟩:=h;have hx:=lx.getD i;rw [ex] at hx;obtain ⟨p0,p1,p2⟩:=zGD hx.1 hx.2 m0 m1 (show (0:Int)<=0 by decide) (by decide) c0 c1;refine ⟨by simpa using h1,h2.set _ (by omega) (by omega),?_,by omega,by omega,?_⟩
 ·intro j hj;rw [zBY (by omega),if_neg (by omega)];exact h3 j (by omega)
 ·rw [zHQ _ _ _ (by omega),h3 i (Nat.le_refl _),zBP xs,ex,Int.pow_succ];have e3:(x * m+c) % 1000000000+1000000000 * ((x * m+c) / 1000000000)=x * m+c:=Int.emod_add_mul_ediv _ _;generalize (x * m+c) / 1000000000=q at *;generalize (x * m+c) % 1000000000=r at *;obtain rfl:r=x * m+c - 1000000000 * q:=by omega
  generalize (1000000000:Int) ^ i=p at *;generalize lv fs=F at *;generalize lv (List.take i xs)=X at *;simp only [Int.sub_zero,Int.mul_add,Int.mul_sub,Int.mul_comm,Int.mul_left_comm] at h4 ⊢;omega
theorem zI8.done {xs fs:List Int} {m c:Int} (h:zI8 xs fs m xs.length c):(fs.set xs.length c).length=xs.length+1/\Lim (fs.set xs.length c)/\lv (fs.set xs.length c)=lv xs * m:=by
 obtain ⟨h1,h2,h3,c0,c1,h4⟩:=h;refine ⟨by simpa using h1,h2.set _ c0 c1,?_⟩;rw [zHQ _ _ _ (by omega),h3 _ (Nat.le_refl _),Int.sub_zero,h4,List.take_length]
theorem zFQ {va:Value} {xs:List Int} (m:Int) (w:World) (ha:Row w va xs) (lx:Lim xs) (nx:xs.length<=1000000000) (m0:0<=m) (m1:m<1000000000) :
  Calls Tryz.prog 206 #[va,.int .u64 m] w fun e w'=>∃ v',e=.returned v'/\zBZ w' v' (lv xs * m) (xs.length+1)/\Ext w w'/\Off w.heap.size v':=by
 obtain ⟨px,cx,rfl,cx1,cx2,cx3⟩:=ha;have hmk:=run_make_row' (P:=Tryz.prog) 101 146 (.int .u32 0) 4 Tryz.underlying101 zF0 rfl .i64 .i64 (xs.length+1) (by omega) (by omega);have ec:((xs.length+1:Nat):Int)=(xs.length:Int)+1:=by omega
 rw [ec] at hmk;clear ec;go_enter Tryz.func206,Tryz.ntmps206;go_wp2_with fail;go_loopw [6,16] (fun c i wr=>∃ (n:Nat) (fs:List Int) (cc:Int),n<=xs.length/\i=.int .i64 n/\c=.int .u64 cc/\zAH wr w.heap.size fs/\zI8 xs fs m n cc/\Ext w wr) (fun _ i _=>xs.length - (intOf i).toNat)
 case atStart=>exact ⟨0,List.replicate (xs.length+1) 0,0,Nat.zero_le _,rfl,rfl,zAH.zeros _ _,⟨by simp,Lim.zeros _,fun j _=>zB9 _ j,by decide,by decide,by simp [lv,zB2]⟩,x1 _ _⟩
 case round =>
  obtain ⟨n,fs,cc,hn,rfl,rfl,ho,hA,X⟩:=hrel;by_cases hlt:n<xs.length
  ·have hlt':(n:Int)<(xs.length:Int):=by omega
   have hA':=hA;obtain ⟨a1,a2,a3,a4,a5,_⟩:=hA';obtain ⟨x,ex⟩:=nm (xs.getD n 0);obtain ⟨x0,x1'⟩:=lx.getD n;rw [ex] at x0 x1';have HN:Hid (zI8 xs (fs.set n ((x * m+cc) % 1000000000)) m (n+1) ((x * m+cc) / 1000000000)):=hA.step hlt lx m0 m1 ex;have kz:=World.rowIs.frozen ho n;have kf:=World.rowIs.cell ho (i:=n) (by omega);have HQ:Hid (zAH wr w.heap.size fs/\n<fs.length):=⟨ho,by omega⟩;obtain ⟨bx,ox,rfl,kx⟩:∃ b o,px=some ⟨b,o,none⟩/\wr.cell? ⟨b,o+n,none⟩=some (.int .u32 x):=by
    rcases cx3 with ⟨_,h'⟩ | ⟨b,o,e,k⟩
    ·omega
    ·exact ⟨b,o,e,by rw [<- ex];exact (k.l X) n hlt⟩
   obtain ⟨p0,p1,p2⟩:=zGD x0 x1' m0 m1 (show (0:Int)<=0 by decide) (by decide) a4 a5;obtain ⟨P,hP⟩:=nm (x * m);rw [hP] at HN p0 p1 p2;rw [Int.zero_add] at p2;clear ho hA a3 ex cx3 lx hmk
   go_wp2
   go_roundw
   case rel=>exact ⟨n+1,_,_,by omega,by go_num,rfl,HQ.out.1.set _ HQ.out.2 _,HN.out,xset X (Nat.le_refl _) _⟩
   case measure=>simp [intOf];omega
  ·obtain rfl:n=xs.length:=by omega
   obtain ⟨d1,d2,d3⟩:=hA.done;have kz:=World.rowIs.frozen ho xs.length;have kf:=World.rowIs.cell ho (i:=xs.length) (by have:=hA.1;omega);have O2:=ho.set xs.length (by have:=hA.1;omega) cc;obtain ⟨a1,a2,a3,a4,a5,_⟩:=hA;have X2:=xset X (p:=⟨w.heap.size,xs.length,none⟩) (Nat.le_refl _) (.int .u32 cc);generalize fs.set xs.length cc=gs at *;have C:C32 (wr.setCell ⟨w.heap.size,xs.length,none⟩ (.int .u32 cc)) w.heap.size 0 gs:=fun i hi=>by rw [Nat.zero_add];exact World.rowIs.cell O2 hi
   have HC:=hid C;have HX:=hid X2;have D3:Hid _:=d3;clear ho a3 cx3 lx hmk O2 X2 C X d3;go_wp2_with fail
   go_loop [9] (fun n=>∃ k:Nat,k<=gs.length/\n=.int .i64 k/\lv (gs.take k)=lv gs) (fun n=>(intOf n).toNat)
   case atStart=>exact ⟨gs.length,Nat.le_refl _,by rw [d1];go_num,by simp⟩
   case round =>
    obtain ⟨k,hk,rfl,hv⟩:=hrel;have HV:=hid hv;clear hv;have hgn:gs.length<=9223372036854775807:=(by omega);by_cases h0:k=0
    ·subst h0;have HR:Hid (Row (wr.setCell ⟨w.heap.size,xs.length,none⟩ (.int .u32 cc)) (.slice (some ⟨w.heap.size,0,none⟩) 0 (xs.length+1)) (gs.take 0)):=by rw [<- d1];exact Row.take HC.out 0 (by omega) (Nat.le_refl _) hgn
     go_wp2
     go_ret;exact ⟨_,rfl,⟨gs.take 0,HR.out,d2.take 0,.inl (by simp),HV.out.trans D3.out,by simp⟩,HX.out,Off.at (Nat.le_refl _)⟩
    ·obtain ⟨j,rfl⟩:∃ j,k=j+1:=⟨k - 1,by omega⟩;have hj:j<gs.length:=(by omega);have hcell:=HC.out j hj;rw [Nat.zero_add] at hcell;by_cases hz:gs.getD j 0=0
     ·rw [hz] at hcell;have HN:Hid (lv (gs.take j)=lv gs):=(by have:=HV.out;rw [zDT hj hz] at this;exact this);clear h0 hz
      go_wp2
      go_round
      case rel=>exact ⟨j,by omega,by go_num,HN.out⟩
      case measure=>simp [intOf]
     ·have HT:Hid (Top (gs.take (j+1))):=zMY hj hz;have HR:Hid (Row (wr.setCell ⟨w.heap.size,xs.length,none⟩ (.int .u32 cc)) (.slice (some ⟨w.heap.size,0,none⟩) (j+1) (xs.length+1)) (gs.take (j+1))):=(by rw [<- d1];exact Row.take HC.out (j+1) (by omega) (Nat.le_refl _) hgn);obtain ⟨x,hxj⟩:=nm (gs.getD j 0);rw [hxj] at hcell hz;have hz':(x == 0)=false:=(by rw [beq_eq_false_iff_ne];exact hz);clear h0 hxj hz
      go_wp2
      go_ret;exact ⟨_,rfl,⟨gs.take (j+1),HR.out,d2.take _,HT.out,HV.out.trans D3.out,by simp;omega⟩,HX.out,Off.at (Nat.le_refl _)⟩
theorem zD3 {va vb:Value} {xs ys:List Int} (w:World) (ha:Row w va xs) (hb:Row w vb ys) (lx:Lim xs) (ly:Lim ys) (nx:xs.length<=1000000000) (nyx:ys.length<=xs.length) (hle:lv ys<=lv xs) :
  Calls Tryz.prog 176 #[va,vb] w fun e w'=>∃ v' fs,e=.returned v'/\Row w' v' fs/\Lim fs/\lv fs=lv xs - lv ys/\fs.length=xs.length/\Ext w w'/\∃ k c,v'=.slice (some ⟨w.heap.size,0,none⟩) k c:=by
 obtain ⟨px,cx,rfl,cx1,cx2,cx3⟩:=ha;obtain ⟨py,cy,rfl,cy1,cy2,cy3⟩:=hb;have hmk:=run_make_row' (P:=Tryz.prog) 101 146 (.int .u32 0) 4 Tryz.underlying101 zF0 rfl .i64 .i64 xs.length (by omega) (by omega);have HL:=hid hle;clear hle;go_enter Tryz.func176,Tryz.ntmps176;go_wp2_with fail;go_loopw [6,14] (fun c i wr=>∃ (m:Nat) (fs:List Int) (cc:Int),m<=xs.length/\i=.int .i64 m/\c=.int .i64 cc/\zAH wr w.heap.size fs/\zGK xs ys fs m cc/\Ext w wr) (fun _ i _=>xs.length - (intOf i).toNat)
 case atStart=>exact ⟨0,List.replicate xs.length 0,0,Nat.zero_le _,rfl,rfl,zAH.zeros _ _,zGK.start _ _,x1 _ _⟩
 case round =>
  obtain ⟨m,fs,cc,hm,rfl,rfl,ho,hA,X⟩:=hrel;by_cases hlt:m<xs.length
  ·have hlt':(m:Int)<(xs.length:Int):=by omega
   have hA':=hA;obtain ⟨a1,a2,a3,a4,a5,_⟩:=hA';obtain ⟨x,ex⟩:=nm (xs.getD m 0);obtain ⟨y,ey⟩:=nm (ys.getD m 0);obtain ⟨x0,x1'⟩:=lx.getD m;obtain ⟨y0,y1'⟩:=ly.getD m;rw [ex] at x0 x1';rw [ey] at y0 y1';have HE:Hid (xs.getD m 0=x/\ys.getD m 0=y):=⟨ex,ey⟩;have kf:=World.rowIs.cell ho (i:=m) (by omega);have kz:=World.rowIs.frozen ho m;have HQ:Hid (zAH wr w.heap.size fs/\m<fs.length):=⟨ho,by omega⟩;obtain ⟨bx,ox,rfl,kx⟩:∃ b o,px=some ⟨b,o,none⟩/\wr.cell? ⟨b,o+m,none⟩=some (.int .u32 x):=by
    rcases cx3 with ⟨_,h'⟩ | ⟨b,o,e,k⟩
    ·omega
    ·exact ⟨b,o,e,by rw [<- ex];exact (k.l X) m hlt⟩
   have KY:Hid (m<ys.length->∃ b o,py=some ⟨b,o,none⟩/\wr.cell? ⟨b,o+m,none⟩=some (.int .u32 y)):=fun h=>by
    rcases cy3 with ⟨_,h'⟩ | ⟨b,o,e,k⟩
    ·omega
    ·exact ⟨b,o,e,by rw [<- ey];exact (k.l X) m h⟩
   have EY:Hid (¬ m<ys.length->y=0):=fun h=>by rw [<- ey,List.getD_eq_getElem?_getD,List.getElem?_eq_none (by omega)];rfl
   clear ho a3 ex ey cx3 cy3 lx ly hmk HL;by_cases hy:m<ys.length
   ·obtain ⟨bv,ov,rfl,ky⟩:=KY.out hy;clear KY EY;by_cases hneg:x - cc - y<0
    ·have hs:x - cc - y<0:=(by omega);have HN:Hid (zGK xs ys (fs.set m (x - cc - y+1000000000)) (m+1) 1):=by
      refine hA.step hlt (by decide) (by decide) ?_ (by omega) (by omega);rw [HE.out.1,HE.out.2];omega
     clear hA
     go_wp2
     go_roundw
     case rel=>exact ⟨m+1,_,_,by omega,by go_num,rfl,HQ.out.1.set _ HQ.out.2 _,HN.out,xset X (Nat.le_refl _) _⟩
     case measure=>simp [intOf];omega
    ·have hs:0<=x - cc - y:=(by omega);have HN:Hid (zGK xs ys (fs.set m (x - cc - y)) (m+1) 0):=by
      refine hA.step hlt (by decide) (by decide) ?_ (by omega) (by omega);rw [HE.out.1,HE.out.2];omega
     clear hA
     go_wp2
     go_roundw
     case rel=>exact ⟨m+1,_,_,by omega,by go_num,rfl,HQ.out.1.set _ HQ.out.2 _,HN.out,xset X (Nat.le_refl _) _⟩
     case measure=>simp [intOf];omega
   ·obtain rfl:=EY.out hy;clear KY EY;by_cases hneg:x - cc<0
    ·have hs:x - cc<0:=(by omega);have HN:Hid (zGK xs ys (fs.set m (x - cc+1000000000)) (m+1) 1):=by
      refine hA.step hlt (by decide) (by decide) ?_ (by omega) (by omega);rw [HE.out.1,HE.out.2];omega
     clear hA
     go_wp2
     go_roundw
     case rel=>exact ⟨m+1,_,_,by omega,by go_num,rfl,HQ.out.1.set _ HQ.out.2 _,HN.out,xset X (Nat.le_refl _) _⟩
     case measure=>simp [intOf];omega
    ·have hs:0<=x - cc:=(by omega);have HN:Hid (zGK xs ys (fs.set m (x - cc)) (m+1) 0):=by
      refine hA.step hlt (by decide) (by decide) ?_ (by omega) (by omega);rw [HE.out.1,HE.out.2];omega
     clear hA
     go_wp2
     go_roundw
     case rel=>exact ⟨m+1,_,_,by omega,by go_num,rfl,HQ.out.1.set _ HQ.out.2 _,HN.out,xset X (Nat.le_refl _) _⟩
     case measure=>simp [intOf];omega
  ·obtain rfl:m=xs.length:=by omega
   have hd:=hA.done nyx HL.out;have hl:=hA.1;have hlim:=hA.2.1;have R:=ho.row (by omega);rw [hl] at R;have HR:Hid (Row wr (.slice (some ⟨w.heap.size,0,none⟩) xs.length xs.length) fs/\Lim fs/\lv fs=lv xs - lv ys/\fs.length=xs.length):=⟨R,hlim,hd,hl⟩;clear R hlim hd hl ho hA cx3 cy3 lx ly hmk
   go_wp2
   go_ret;exact ⟨_,fs,rfl,HR.out.1,HR.out.2.1,HR.out.2.2.1,HR.out.2.2.2,X,_,_,rfl⟩
theorem zEY {a b:World} (h:Ext a b) (n:Nat):Ext a (b.drewN n):=⟨h.os,h.tape,h.output,h.size,h.block⟩
theorem zE3 {va vb:Value} {xs ys:List Int} (w:World) (ha:Row w va xs) (hb:Row w vb ys) (lx:Lim xs) (ly:Lim ys) (tx:Top xs) (ty:Top ys) :
  Calls Tryz.prog 174 #[va,vb] w fun e w'=>e=.returned (iQ (cmpI (lv xs) (lv ys)))/\Ext w w':=by
 obtain ⟨px,cx,rfl,cx1,cx2,cx3⟩:=ha;obtain ⟨py,cy,rfl,cy1,cy2,cy3⟩:=hb;by_cases hl:xs.length<ys.length
 ·have H:=zEK (zHR lx ly (ty.resolve_left (by omega)) hl);have h1:(((xs.length:Int) != (ys.length:Int)))=true:=by rw [bne_iff_ne];omega
  have h2:(xs.length:Int)<(ys.length:Int):=by omega
  rw [H];clear cx3 cy3 lx ly tx ty H;go_enter Tryz.func174,Tryz.ntmps174
  go_wp2
  go_ret;exact ⟨rfl,xr _⟩
 ·by_cases hg:ys.length<xs.length
  ·have H:=zE2 (zHR ly lx (tx.resolve_left (by omega)) hg);have h1:(((xs.length:Int) != (ys.length:Int)))=true:=by rw [bne_iff_ne];omega
   have h2:¬ (xs.length:Int)<(ys.length:Int):=by omega
   rw [H];clear cx3 cy3 lx ly tx ty H;go_enter Tryz.func174,Tryz.ntmps174
   go_wp2
   go_ret;exact ⟨rfl,xr _⟩
  ·have he:ys.length=xs.length:=by omega
   have h1:(((xs.length:Int) != (xs.length:Int)))=false:=by simp
   rw [he] at cy1 ⊢;have HE:=hid he;clear hl hg he tx ty;go_enter Tryz.func174,Tryz.ntmps174;go_wp2_with fail;go_loopw [5] (fun i wr=>∃ m:Nat,m<=xs.length/\i=.int .i64 ((m:Int) - 1)/\xs.drop m=ys.drop m/\Ext w wr) (fun i _=>(intOf i+1).toNat)
   case atStart=>exact ⟨xs.length,Nat.le_refl _,rfl,by rw [List.drop_eq_nil_of_le (Nat.le_refl _),List.drop_eq_nil_of_le (by rw [HE.out];exact Nat.le_refl _)],xr _⟩
   case round =>
    obtain ⟨m,hm,rfl,hd,X⟩:=hrel;by_cases h0:m=0
    ·subst h0;have H:Hid (cmpI (lv xs) (lv ys)=0):=by
      simp only [List.drop_zero] at hd;rw [hd];exact zMU _
     clear cx3 cy3 hd
     go_wp2
     go_ret;exact ⟨zA8 H.out.symm,X⟩
    ·obtain ⟨j,rfl⟩:∃ j,m=j+1:=⟨m - 1,by omega⟩;have hj:j<xs.length:=(by omega);obtain ⟨bx,ox,rfl,kx⟩:∃ b o,px=some ⟨b,o,none⟩/\C32 w b o xs:=by
      rcases cx3 with ⟨_,h⟩ | h
      ·omega
      ·exact h
     obtain ⟨by1,oy,rfl,ky⟩:∃ b o,py=some ⟨b,o,none⟩/\C32 w b o ys:=by
      rcases cy3 with ⟨_,h⟩ | h
      ·omega
      ·exact h
     have fx:=(kx.l X) j hj;have fy:=(ky.l X) j (by rw [HE.out];exact hj);have HT:Hid (xs.getD j 0<ys.getD j 0->lv xs<lv ys):=fun h=>lv_top lx ly hj (by rw [HE.out];exact hj) hd h;have HG:Hid (ys.getD j 0<xs.getD j 0->lv ys<lv xs):=fun h=>lv_top ly lx (by rw [HE.out];exact hj) hj hd.symm h;have HS:Hid (xs.getD j 0=ys.getD j 0->xs.drop j=ys.drop j):=fun h=>zTF hj (by rw [HE.out];exact hj) hd h;obtain ⟨x,ex⟩:=nm (xs.getD j 0);obtain ⟨y,ey⟩:=nm (ys.getD j 0);rw [ex] at fx HT HG HS;rw [ey] at fy HT HG HS;have ej:(((j+1:Nat):Int) - 1)=(j:Int):=(by omega);rw [ej];have hj':(j:Int)<(xs.length:Int):=(by omega);clear cx3 cy3 kx ky hd lx ly ex ey ej h0;by_cases hxy:x<y
     ·have H:Hid (cmpI (lv xs) (lv ys) = -1):=zEK (HT.out hxy);go_wp2_with fail;go_quiet (fail)
      go_wp2
      go_ret;exact ⟨zA8 H.out.symm,zEY X _⟩
     ·by_cases hyx:y<x
      ·have H:Hid (cmpI (lv xs) (lv ys)=1):=zE2 (HG.out hyx);go_wp2_with fail;go_quiet (fail);go_wp2_with fail;go_quiet (fail)
       go_wp2
       go_ret;exact ⟨zA8 H.out.symm,zEY (zEY X _) _⟩
      ·have H:Hid (xs.drop j=ys.drop j):=HS.out (by omega);go_wp2_with fail;go_quiet (fail);go_wp2_with fail;go_quiet (fail)
       go_wp2
       go_roundw
       case rel=>exact ⟨j,by omega,by go_num,H.out,zEY X _⟩
       case measure=>simp [intOf]
end Go.Proofs.YtjlojlgdkfpcdaaGreatDoor

namespace Go.Proofs.YtjlojlgdkfpcdaaGreatDoor
theorem zBF (xs:List Int) (i:Nat) (h:i<xs.length):lv (xs.drop i)=xs.getD i 0+1000000000 * lv (xs.drop (i+1)):=by
 rw [List.drop_eq_getElem_cons h];simp [lv,h]
def zEM (xs bs qs:List Int) (n:Nat) (R:Int):Prop:=
 qs.length=xs.length+1/\Lim qs/\lv (xs.drop n)=lv (qs.drop n) * lv bs+R/\0<=R/\R<lv bs/\(∀ j,j<n->qs.getD j 0=0)/\qs.getD xs.length 0=0
theorem zEM.start (xs bs:List Int) (hb:0<lv bs):zEM xs bs (List.replicate (xs.length+1) 0) xs.length 0:=by
 refine ⟨by simp,Lim.zeros _,?_,by omega,hb,fun j _=>zB9 _ j,zB9 _ _⟩;rw [List.drop_eq_nil_of_le (Nat.le_refl _),List.drop_replicate,zB2];simp [lv]
theorem zEM.step {xs bs qs:List Int} {i:Nat} {R g R' x:Int} (h:zEM xs bs qs (i+1) R) (hi:i<xs.length) (ex:xs.getD i 0=x) (g0:0<=g) (g1:g<1000000000) (hR:R'=x+1000000000 * R - g * lv bs) (r0:0<=R') (r1:R'<lv bs) :
  zEM xs bs (qs.set i g) i R':=by
 obtain ⟨h1,h2,h3,_,_,h6,h7⟩:=h;refine ⟨by simpa using h1,h2.set _ g0 g1,?_,r0,r1,?_,?_⟩
 ·rw [zBF xs i hi,ex,h3,zBF (qs.set i g) i (by simp;omega),zBY (by omega),if_pos rfl,List.drop_set_of_lt (by omega),hR];generalize lv (qs.drop (i+1))=Q at *;generalize lv bs=B at *;simp only [Int.add_mul,Int.mul_add,Int.mul_assoc];omega
 ·intro j hj;rw [zBY (by omega),if_neg (by omega)];exact h6 j (by omega)
 ·rw [zBY (by omega),if_neg (by omega)];exact h7
theorem zEM.skip {xs bs qs:List Int} {i:Nat} {R x:Int} (h:zEM xs bs qs (i+1) R) (hi:i<xs.length) (lx:Lim xs) (ex:xs.getD i 0=x) (r1:x+1000000000 * R<lv bs) :
  zEM xs bs qs i (x+1000000000 * R):=by
 obtain ⟨h1,h2,h3,h4,_,h6,h7⟩:=h;have hx:=lx.getD i;rw [ex] at hx;refine ⟨h1,h2,?_,by omega,r1,fun j hj=>h6 j (by omega),h7⟩;rw [zBF xs i hi,ex,h3,zBF qs i (by omega),h6 i (by omega)];generalize lv (qs.drop (i+1))=Q at *;generalize lv bs=B at *;simp only [Int.mul_add,Int.zero_add,Int.mul_assoc];omega
theorem zEM.done {xs bs qs:List Int} {R:Int} (h:zEM xs bs qs 0 R):lv xs=lv qs * lv bs+R:=by
 have:=h.2.2.1;simpa using this
theorem zCR {bs ps:List Int} (lb:Lim bs) (lp:Lim ps) (tb:bs.length=0\/bs.getD (bs.length - 1) 0 ≠ 0) (h:lv bs<=lv ps):bs.length<=ps.length:=by
 by_cases hl:bs.length<=ps.length
 ·exact hl
 ·have:=zHR lp lb (tb.resolve_left (by omega)) (by omega);omega
theorem top_ge {bs:List Int} (lb:Lim bs) (hb:0<bs.length):bs.getD (bs.length - 1) 0 * 1000000000 ^ (bs.length - 1)<=lv bs:=by
 rw [zFR bs (bs.length - 1) (by omega),List.drop_eq_nil_of_le (by omega)];have:=zCY (lb.take (bs.length - 1));simp only [lv,Int.mul_zero,Int.add_zero];rw [Int.mul_comm];omega
theorem zFZ {a b p:Int} (hp:0<p) (h:a * p<b * p):a<b:=(Int.mul_lt_mul_right hp).1 h
theorem guess1 {rs bs:List Int} {t:Int} (lr:Lim rs) (lb:Lim bs) (hL:rs.length=bs.length) (hb:0<bs.length) (ht:0<bs.getD (bs.length - 1) 0) (t0:0<=t) (h:t * lv bs<=lv rs) :
  t<=rs.getD (rs.length - 1) 0 / bs.getD (bs.length - 1) 0:=by
 have hB:=top_ge lb hb;have hR:lv rs<(rs.getD (rs.length - 1) 0+1) * 1000000000 ^ (bs.length - 1):=by
  rw [zFR rs (rs.length - 1) (by omega),List.drop_eq_nil_of_le (by omega)];have h1:=zL0 (lr.take (rs.length - 1));have e:(rs.take (rs.length - 1)).length=rs.length - 1:=by simp
  rw [e] at h1;rw [hL] at h1 ⊢;simp only [lv,Int.mul_zero,Int.add_zero,Int.add_mul,Int.one_mul];rw [Int.mul_comm (rs.getD (bs.length - 1) 0)];omega
 generalize rs.getD (rs.length - 1) 0=r at *;generalize bs.getD (bs.length - 1) 0=b at *;have hp:=zDX (bs.length - 1);generalize (1000000000:Int) ^ (bs.length - 1)=p at *;have h2:t * (b * p)<=t * lv bs:=Int.mul_le_mul_of_nonneg_left hB t0;have h3:t * b * p<(r+1) * p:=by rw [Int.mul_assoc];omega
 have h4:=zFZ hp h3;exact (Int.le_ediv_iff_mul_le ht).2 (by omega)
theorem guess2 {rs bs:List Int} {t:Int} (lr:Lim rs) (lb:Lim bs) (hL:rs.length=bs.length+1) (hb:0<bs.length) (ht:0<bs.getD (bs.length - 1) 0) (t0:0<=t) (h:t * lv bs<=lv rs) :
  t<=(rs.getD (rs.length - 1) 0 * 1000000000+rs.getD (rs.length - 2) 0) / bs.getD (bs.length - 1) 0:=by
 have hB:=top_ge lb hb;have e2:rs.length - 2+1=rs.length - 1:=by omega
 have e3:rs.length - 2=bs.length - 1:=by omega
 have hR:lv rs<(rs.getD (rs.length - 1) 0 * 1000000000+rs.getD (rs.length - 2) 0+1) * 1000000000 ^ (bs.length - 1):=by
  rw [zFR rs (rs.length - 2) (by omega),e2,zBF rs (rs.length - 1) (by omega),List.drop_eq_nil_of_le (by omega)];have h1:=zL0 (lr.take (rs.length - 2));have e:(rs.take (rs.length - 2)).length=rs.length - 2:=by simp
  rw [e] at h1;rw [e3] at h1 ⊢;simp only [lv,Int.mul_zero,Int.add_zero];generalize rs.getD (rs.length - 1) 0=r at *;generalize rs.getD (bs.length - 1) 0=s at *;generalize (1000000000:Int) ^ (bs.length - 1)=p at *;generalize lv (List.take (bs.length - 1) rs)=X at *;simp only [Int.mul_add,Int.mul_comm,Int.mul_left_comm];omega
 generalize rs.getD (rs.length - 1) 0 * 1000000000+rs.getD (rs.length - 2) 0=r at *;generalize bs.getD (bs.length - 1) 0=b at *;have hp:=zDX (bs.length - 1);generalize (1000000000:Int) ^ (bs.length - 1)=p at *;have h2:t * (b * p)<=t * lv bs:=Int.mul_le_mul_of_nonneg_left hB t0;have h3:t * b * p<(r+1) * p:=by rw [Int.mul_assoc];omega
 have h4:=zFZ hp h3;exact (Int.le_ediv_iff_mul_le ht).2 (by omega)
theorem zT2 {B rho t:Int} (hB:0<B) (hr:rho<B * 1000000000) (h:t * B<=rho):t<=999999999:=by
 have h1:t * B<1000000000 * B:=by rw [Int.mul_comm 1000000000 B];omega
 have:=zFZ hB h1;omega
theorem zF5 {B rho g:Int} (hub:∀ t,0<=t->t * B<=rho->t<=g) (hg:rho<g * B):∀ t,0<=t->t * B<=rho->t<=g - 1:=fun t h0 h=>by
 have h1:=hub t h0 h;by_cases e:t=g
 ·subst e;omega
 ·omega
theorem zF4 {B rho g:Int} (g0:0<=g) (hub:∀ t,0<=t->t * B<=rho->t<=g):rho - g * B<B:=by
 by_cases h:rho - g * B<B
 ·exact h
 ·have:=hub (g+1) (by omega) (by rw [Int.add_mul,Int.one_mul];omega);omega
theorem zG6 {B rho g:Int} (r0:0<=rho) (g0:0<=g) (h:rho<g * B):1<=g:=by
 by_cases e:g=0
 ·subst e;simp at h;omega
 ·omega
def zG1 (rs fs:List Int) (k:Int) (n:Nat) (c:Int):Prop:=
 fs.length=rs.length/\Lim fs/\0<=c/\c<k/\lv (rs.drop n)=lv (fs.drop n) * k+c/\(∀ j,j<n->fs.getD j 0=0)
theorem zG1.start (rs:List Int) (k:Int) (hk:0<k):zG1 rs (List.replicate rs.length 0) k rs.length 0:=by
 refine ⟨by simp,Lim.zeros _,by omega,hk,?_,fun j _=>zB9 _ j⟩;rw [List.drop_eq_nil_of_le (Nat.le_refl _),List.drop_replicate,zB2];simp [lv]
theorem zG1.step {rs fs:List Int} {k:Int} {i:Nat} {c x:Int} (h:zG1 rs fs k (i+1) c) (hi:i<rs.length) (lr:Lim rs) (hk:0<k) (ex:rs.getD i 0=x) :
  zG1 rs (fs.set i ((c * 1000000000+x) / k)) k i ((c * 1000000000+x) % k)/\0<=(c * 1000000000+x) / k/\(c * 1000000000+x) / k<1000000000:=by
 obtain ⟨h1,h2,h3,h4,h5,h6⟩:=h;have hx:=lr.getD i;rw [ex] at hx;have q0:0<=(c * 1000000000+x) / k:=Int.ediv_nonneg (by omega) (by omega);have q1:(c * 1000000000+x) / k<1000000000:=by
  refine (Int.ediv_lt_iff_lt_mul hk).2 ?_;have:c * 1000000000+1000000000<=k * 1000000000:=by omega
  omega
 refine ⟨⟨by simpa using h1,h2.set _ q0 q1,Int.emod_nonneg _ (by omega),Int.emod_lt_of_pos _ hk,?_,?_⟩,q0,q1⟩
 ·rw [zBF rs i hi,ex,h5,zBF (fs.set i _) i (by simp;omega),zBY (by omega),if_pos rfl,List.drop_set_of_lt (by omega)];have e3:(c * 1000000000+x) % k+k * ((c * 1000000000+x) / k)=c * 1000000000+x:=Int.emod_add_mul_ediv _ _;generalize (c * 1000000000+x) / k=q at *;generalize (c * 1000000000+x) % k=r at *;generalize lv (fs.drop (i+1))=F at *;rw [Int.mul_comm k q] at e3;simp only [Int.add_mul,Int.mul_add,Int.mul_assoc];generalize F * k=Fk at *;generalize q * k=qk at *;omega
 ·intro j hj;rw [zBY (by omega),if_neg (by omega)];exact h6 j (by omega)
theorem zG1.done {rs fs:List Int} {k c:Int} (h:zG1 rs fs k 0 c):lv rs=lv fs * k+c:=by
 have:=h.2.2.2.2.1;simpa using this
theorem zTH {a b k q R r c:Int} (hk:0<k) (h1:a * k=q * (b * k)+R) (h2:0<=R) (h3:R<b * k) (h4:R=r * k+c) (c0:0<=c) (c1:c<k):q=a / b/\r=a % b:=by
 have e:(a - q * b - r) * k=c:=by
  rw [Int.sub_mul,Int.sub_mul,Int.mul_assoc];omega
 have hz:a - q * b - r=0:=by
  by_cases hp:a - q * b - r=0
  ·exact hp
  ·by_cases hn:a - q * b - r<0
   ·have:(a - q * b - r) * k <= -1 * k:=Int.mul_le_mul_of_nonneg_right (by omega) (by omega);omega
   ·have:1 * k<=(a - q * b - r) * k:=Int.mul_le_mul_of_nonneg_right (by omega) (by omega);omega
 have hc:c=0:=by rw [hz] at e;simpa using e.symm
 have r0:0<=r:=by
  by_cases h:0<=r
  ·exact h
  ·have:r * k <= -1 * k:=Int.mul_le_mul_of_nonneg_right (by omega) (by omega);omega
 have r1:r<b:=zFZ hk (by omega);have hb:0<b:=by omega
 have ea:a=r+b * q:=by rw [Int.mul_comm b q];omega
 constructor
 ·rw [ea,Int.add_mul_ediv_left _ _ (by omega),Int.ediv_eq_zero_of_lt r0 r1];omega
 ·rw [ea,Int.add_mul_emod_self_left,Int.emod_eq_of_lt r0 r1]
end Go.Proofs.YtjlojlgdkfpcdaaGreatDoor

