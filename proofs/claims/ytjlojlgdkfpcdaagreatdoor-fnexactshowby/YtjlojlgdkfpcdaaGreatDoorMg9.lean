/-
  Several texts in one: Make, MulNum, Mul.
-/
import Derived.Test.YtjlojlgdkfpcdaaGreatDoorMg7
import Derived.Test.YtjlojlgdkfpcdaaGreatDoorMg5
import Derived.Deep.OwnRows
import Derived.Deep.QuietTactic
import Derived.BigQuiet
import Derived.Deep.RegionWith
namespace Go.Proofs.YtjlojlgdkfpcdaaGreatDoor
open Go.RowKit
theorem take_zero_top {xs:List Int} {j:Nat} (hj:j<xs.length) (h0:xs.getD j 0=0):lv (xs.take (j+1))=lv (xs.take j):=by
 rw [lv_take_succ xs j hj,h0];simp
theorem lv_drop (xs:List Int) (i k:Nat) (h:i<k) (hk:k≤xs.length):lv ((xs.take k).drop i)=lv ((xs.take k).drop (i+1)) * 1000000000+xs.getD i 0:=by
 have hi:i<(xs.take k).length:=by simp;omega
 rw [List.drop_eq_getElem_cons hi];have hi':i<xs.length:=by omega
 simp [lv,hi'];omega
theorem lv_short {xs:List Int} (h:Lim xs) (hn:xs.length≤1):0≤lv xs∧lv xs<1000000000:=by
 match xs,h,hn with
 | [],_,_=>simp [lv]
 | [x],h,_=>have:=h.head;simp [lv];omega
theorem lv_two {xs:List Int} (h:Lim xs) (hn:xs.length≤2):0≤lv xs∧lv xs<1000000000000000000:=by
 match xs,h,hn with
 | [],_,_=>simp [lv]
 | [x],h,_=>have:=h.head;simp [lv];omega
 | [x,y],h,_=>have:=h.head;have:=h.tail.head;simp [lv];omega
theorem ZV.of_sgn (w:World) {neg:Bool} {z:Int} (h1:0≤z) (h2:z<1000000000000000000):ZV w (zS (if neg then -z else z)) (sgn neg z):=by
 cases neg
 ·exact ZV.small (by simp;omega) (by simp;omega)
 ·exact ZV.small (by simp;omega) (by simp;omega)
theorem getD_take {xs:List Int} {k i:Nat} (h:i<k):(xs.take k).getD i 0=xs.getD i 0:=by
 simp [List.getD_eq_getElem?_getD,h]
set_option maxHeartbeats 1000000 in
theorem make_some (neg:Bool) (b o cap:Nat) (xs:List Int) (w:World) (hc:xs.length≤cap) (hcap:cap≤9223372036854775807) (hx:C32 w b o xs) (hl:Lim xs) :
  Calls Tryz.prog 155 #[.bool neg,.slice (some ⟨b,o,none⟩) xs.length cap] w fun e w'=>∃ v',e=.returned v'∧ZV w' v' (sgn neg (lv xs))∧Ext w w':=by
 have HX:Hid (∀ o1 i,i<xs.length→(w.alloc o1).cell? ⟨b,o+i,none⟩=some (.int .u32 (xs.getD i 0))):=fun o1 i hi=>Lib.cell?_alloc_some o1 (hx i hi);go_enter Tryz.func155,Tryz.ntmps155
 go_wp2
 go_loop [5] (fun n=>∃ k:Nat,k≤xs.length∧n=.int .i64 k∧lv (xs.take k)=lv xs) (fun n=>(intOf n).toNat)
 case atStart=>exact ⟨xs.length,Nat.le_refl _,rfl,by simp⟩
 case round =>
  obtain ⟨k,hk,rfl,hv⟩:=hrel;have HV:=hid hv;clear hv;by_cases h0:k=0
  ·subst h0;have HV':Hid (sgn neg (lv xs)=0):=by rw [← HV.out];cases neg <;> simp [lv,sgn,Hid]
   go_wp2
   go_loop [6,7] (fun v i=>v=.int .i64 0∧i=.int .i64 (-1)) (fun _ _=>0)
   case atStart=>exact ⟨rfl,rfl⟩
   case round =>
    obtain ⟨rfl,rfl⟩:=hrel;cases neg
    all_goals go_wp2
    all_goals exact bodyPost_ret (v:=zS 0) (by simp [results,Tryz.results155,go_sem]) rfl ⟨_,rfl,by rw [HV'.out];exact ZV.small (by decide) (by decide),x1 _ _⟩
  ·obtain ⟨j,rfl⟩:∃ j,k=j+1:=⟨k - 1,by omega⟩;have hj:j<xs.length:=by omega
   by_cases hz:xs.getD j 0=0
   ·have hcell:=fun o1=>HX.out o1 j hj;rw [hz] at hcell;have HN:Hid (lv (xs.take j)=lv xs):=(by have:=HV.out;rw [take_zero_top hj hz] at this;exact this);clear h0 hz
    go_wp2
    go_round
    case rel=>exact ⟨j,by omega,by go_num,HN.out⟩
    case measure=>simp [intOf]
   ·have hcell:=fun o1=>HX.out o1 j hj;obtain ⟨x,hxj⟩:∃ x,xs.getD j 0=x:=⟨_,rfl⟩;rw [hxj] at hcell hz;have hz':(x == 0)=false:=(by rw [beq_eq_false_iff_ne];exact hz);have HT:Hid (Top (xs.take (j+1))):=by
     refine .inr ?_;have e:(xs.take (j+1)).length - 1=j:=(by simp;omega);rw [e,getD_take (by omega),hxj];exact hz
    clear h0 hxj hz;by_cases h2:j+1 > 2
    ·have h2':(2:Int)<(j:Int)+1:=by omega
     go_wp2
     have e:(xs.take (j+1)).length=j+1:=(by simp;omega);refine bodyPost_ret (v:=zB neg ⟨b,o,none⟩ (j+1) cap) (by simp [results,Tryz.results155,go_sem]) rfl ⟨_,rfl,.inr ⟨neg,b,o,cap,xs.take (j+1),by rw [e],by omega,hcap,?_,hl.take _,by omega,HT.out,by rw [HV.out]⟩,x1 _ _⟩;intro i hi;rw [getD_take (by omega)];exact Lib.cell?_alloc_some _ (hx i (by omega))
    ·have h2':(j:Int)+1≤2:=(by omega);have hl2:=hl.take (j+1);have LB:Hid (0≤lv xs∧lv xs<1000000000000000000):=by have:=lv_two hl2 (by simp;omega);rw [HV.out] at this;exact this
     go_wp2
     go_loop [6,7] (fun v i=>∃ m:Nat,m≤j+1∧i=.int .i64 ((m:Int) - 1)∧v=.int .i64 (lv ((xs.take (j+1)).drop m))) (fun _ i=>(intOf i+1).toNat)
     case atStart=>exact ⟨j+1,Nat.le_refl _,by go_num,by simp [lv]⟩
     case round =>
      obtain ⟨m,hm,rfl,rfl⟩:=hrel;by_cases hm0:m=0
      ·subst hm0;obtain ⟨l1,l2⟩:=LB.out;have hv0:lv ((xs.take (j+1)).drop 0)=lv xs:=HV.out;rw [hv0];cases neg
       ·go_wp2
        exact bodyPost_ret (v:=zS (lv xs)) (by simp [results,Tryz.results155,go_sem]) rfl ⟨_,rfl,ZV.of_sgn (neg:=false) _ l1 l2,x1 _ _⟩
       ·go_wp2
        exact bodyPost_ret (v:=zS (-lv xs)) (by simp [results,Tryz.results155,go_sem]) rfl ⟨_,rfl,ZV.of_sgn (neg:=true) _ l1 l2,x1 _ _⟩
      ·obtain ⟨i,rfl⟩:∃ i,m=i+1:=⟨m - 1,by omega⟩;have hi:i<xs.length:=(by omega);have hci:=fun o1=>HX.out o1 i hi;have hlx:=hl.getD i;have HS:Hid (lv ((xs.take (j+1)).drop i)=lv ((xs.take (j+1)).drop (i+1)) * 1000000000+xs.getD i 0):=lv_drop xs i (j+1) (by omega) (by omega);have hls:=lv_short ((hl.take (j+1)).drop (i+1)) (by simp;omega);obtain ⟨y,hy⟩:∃ y,xs.getD i 0=y:=⟨_,rfl⟩;obtain ⟨v,hv⟩:∃ v,lv ((xs.take (j+1)).drop (i+1))=v:=⟨_,rfl⟩;rw [hy] at hci hlx HS;rw [hv] at hls HS;rw [hv];obtain ⟨y1,y2⟩:=hlx;obtain ⟨v1,v2⟩:=hls;have e1:(((i+1:Nat):Int) - 1)=(i:Int):=(by omega);rw [e1];clear hy hv e1 hm0 hcell hz' h2'
       go_wp2
       go_round
       case rel=>exact ⟨i,by omega,by go_num,by rw [HS.out]⟩
       case measure=>simp [intOf]
set_option maxHeartbeats 1000000 in
theorem make_none (neg:Bool) (w:World) :
  Calls Tryz.prog 155 #[.bool neg,.slice none 0 0] w fun e w'=>∃ v',e=.returned v'∧ZV w' v' (sgn neg 0)∧Ext w w':=by
 have HV':Hid (sgn neg 0=0):=by cases neg <;> simp [sgn,Hid]
 rw [HV'.out];go_enter Tryz.func155,Tryz.ntmps155
 go_wp2
 go_loop [5] (fun n=>n=.int .i64 0) (fun _=>0)
 case atStart=>rfl
 case round =>
  subst hrel
  go_wp2
  go_loop [6,7] (fun v i=>v=.int .i64 0∧i=.int .i64 (-1)) (fun _ _=>0)
  case atStart=>exact ⟨rfl,rfl⟩
  case round =>
   obtain ⟨rfl,rfl⟩:=hrel;cases neg
   all_goals go_wp2
   all_goals exact bodyPost_ret (v:=zS 0) (by simp [results,Tryz.results155,go_sem]) rfl ⟨_,rfl,ZV.small (by decide) (by decide),x1 _ _⟩
theorem make_any (neg:Bool) {v:Value} {xs:List Int} (w:World) (h:Row w v xs) (hl:Lim xs) :
  Calls Tryz.prog 155 #[.bool neg,v] w fun e w'=>∃ v',e=.returned v'∧ZV w' v' (sgn neg (lv xs))∧Ext w w':=by
 obtain ⟨p,cap,rfl,h1,h2,h3⟩:=h
 rcases h3 with ⟨rfl,rfl⟩ | ⟨b,o,rfl,h3⟩
 ·obtain rfl:xs=[]:=List.eq_nil_of_length_eq_zero (by omega);exact make_none neg w
 ·exact make_some neg b o cap xs w h1 h2 h3 hl
end Go.Proofs.YtjlojlgdkfpcdaaGreatDoor

namespace Go.Proofs.YtjlojlgdkfpcdaaGreatDoor
def MulAt (xs ys fs:List Int) (i j:Nat) (c:Int):Prop:=
 fs.length=xs.length+ys.length+1∧Lim fs∧(∀ n,i+ys.length≤n→fs.getD n 0=0)∧0≤c∧c<1000000000 ∧
 lv fs+1000000000 ^ (i+j) * c=lv (xs.take i) * lv ys+xs.getD i 0 * (1000000000 ^ i * lv (ys.take j))
theorem MulAt.start {xs ys fs:List Int} {i:Nat} (h1:fs.length=xs.length+ys.length+1) (h2:Lim fs) (h3:∀ n,i+ys.length≤n→fs.getD n 0=0) (h4:lv fs=lv (xs.take i) * lv ys):MulAt xs ys fs i 0 0:=
 ⟨h1,h2,h3,by decide,by decide,by simp [lv,h4]⟩
theorem mul_sum {x y f c:Int} (x0:0≤x) (x1:x<1000000000) (y0:0≤y) (y1:y<1000000000) (f0:0≤f) (f1:f<1000000000) (c0:0≤c) (c1:c<1000000000) :
  0≤x * y∧x * y≤999999998000000001∧f+x * y+c<1000000000000000000:=by
 have h0:0≤x * y:=Int.mul_nonneg x0 y0;have h1:x * y≤999999999 * 999999999:=Int.mul_le_mul (by omega) (by omega) y0 (by decide);omega
theorem MulAt.step {xs ys fs:List Int} {i j:Nat} {c x y f:Int} (h:MulAt xs ys fs i j c) (hi:i<xs.length) (hj:j<ys.length) (lx:Lim xs) (ly:Lim ys)
  (ex:xs.getD i 0=x) (ey:ys.getD j 0=y) (ef:fs.getD (i+j) 0=f) :
  MulAt xs ys (fs.set (i+j) ((f+x * y+c) % 1000000000)) i (j+1) ((f+x * y+c) / 1000000000):=by
 obtain ⟨h1,h2,h3,c0,c1,h4⟩:=h;have hx:=lx.getD i;have hy:=ly.getD j;have hf:=h2.getD (i+j);rw [ex] at hx h4;rw [ey] at hy;rw [ef] at hf;obtain ⟨m0,m1,m2⟩:=mul_sum hx.1 hx.2 hy.1 hy.2 hf.1 hf.2 c0 c1;refine ⟨by simpa using h1,h2.set _ (by omega) (by omega),?_,by omega,by omega,?_⟩
 ·intro n hn;rw [getD_set (by omega),if_neg (by omega)];exact h3 n hn
 ·rw [lv_set _ _ _ (by omega),ef,ex,lv_take_succ ys j hj,ey];have e1:(1000000000:Int) ^ (i+(j+1))=1000000000 ^ (i+j) * 1000000000:=by rw [← Nat.add_assoc,Int.pow_succ]
  have e2:(1000000000:Int) ^ (i+j)=1000000000 ^ i * 1000000000 ^ j:=Int.pow_add _ _ _;have e3:(f+x * y+c) % 1000000000+1000000000 * ((f+x * y+c) / 1000000000)=f+x * y+c:=Int.emod_add_mul_ediv _ _;rw [e1];generalize (f+x * y+c) / 1000000000=q at *;generalize (f+x * y+c) % 1000000000=r at *;have e4:r=f+x * y+c - 1000000000 * q:=by omega
  subst e4;rw [e2] at h4 ⊢;generalize (1000000000:Int) ^ i=p at *;generalize (1000000000:Int) ^ j=s at *;generalize lv fs=F at *;generalize lv (List.take j ys)=Y at *;generalize lv (List.take i xs) * lv ys=P at *;simp only [Int.mul_add,Int.mul_sub,Int.mul_assoc,Int.mul_comm,Int.mul_left_comm] at h4 ⊢;omega
theorem MulAt.close {xs ys fs:List Int} {i:Nat} {c:Int} (h:MulAt xs ys fs i ys.length c) (hi:i<xs.length) :
  (fs.set (i+ys.length) c).length=xs.length+ys.length+1∧Lim (fs.set (i+ys.length) c)∧(∀ n,(i+1)+ys.length≤n→(fs.set (i+ys.length) c).getD n 0=0)∧lv (fs.set (i+ys.length) c)=lv (xs.take (i+1)) * lv ys:=by
 obtain ⟨h1,h2,h3,c0,c1,h4⟩:=h;refine ⟨by simpa using h1,h2.set _ c0 c1,?_,?_⟩
 ·intro n hn;rw [getD_set (by omega),if_neg (by omega)];exact h3 n (by omega)
 ·rw [lv_set _ _ _ (by omega),h3 _ (Nat.le_refl _),lv_take_succ xs i hi];simp only [List.take_length] at h4;simp only [Int.sub_zero,Int.add_mul];rw [h4];simp only [Int.mul_assoc,Int.mul_comm]
end Go.Proofs.YtjlojlgdkfpcdaaGreatDoor

namespace Go.Proofs.YtjlojlgdkfpcdaaGreatDoor
open Go.RowKit
theorem info32:(Tryz.prog.info? 146).map (fun i=>(i.zero,i.size,i.bytes))=some (some (.int .u32 0),1,4):=by kernel_rfl
abbrev Own32 (w:World) (g:Nat) (fs:List Int):Prop:=w.rowIs g 146 fs.length (fun j=>.int .u32 (fs.getD j 0))
theorem Own32.zeros (w:World) (n:Nat):Own32 (w.alloc (.cells (madeCells #[.int .u32 0] n) 146)) w.heap.size (List.replicate n 0):=by
 have:=World.rowIs_made w (.int .u32 0) n 146;unfold Own32;rw [List.length_replicate];exact this.congr (fun i _=>by rw [getD_zeros])
theorem Own32.set {w:World} {g:Nat} {fs:List Int} (h:Own32 w g fs) (i:Nat) (hi:i<fs.length) (v:Int):Own32 (w.setCell ⟨g,i,none⟩ (.int .u32 v)) g (fs.set i v):=by
 have:=World.rowIs.set h i (.int .u32 v);unfold Own32;rw [List.length_set];refine this.congr (fun j _=>?_);rw [getD_set hi]
 split <;> rfl
theorem Own32.drewN {w:World} {g:Nat} {fs:List Int} (h:Own32 w g fs) (n:Nat):Own32 (w.drewN n) g fs:=World.rowIs.of_block h rfl
theorem xdN {a b:World} (h:Ext a b) (n:Nat):Ext a (b.drewN n):=⟨h.os,h.tape,h.output,h.size,h.block⟩
theorem Own32.row {w:World} {g:Nat} {fs:List Int} (h:Own32 w g fs) (hn:fs.length≤9223372036854775807):Row w (.slice (some ⟨g,0,none⟩) fs.length fs.length) fs:=
 ⟨_,fs.length,rfl,Nat.le_refl _,hn,.inr ⟨g,0,rfl,fun i hi=>by rw [Nat.zero_add];exact World.rowIs.cell h hi⟩⟩
theorem sgn_mul (a b:Int):sgn (!(decide (a<0) == decide (b<0))) ((a.natAbs:Int) * (b.natAbs:Int))=a * b:=by
 have h:∀ z:Int,((z.natAbs:Int)=z∧¬ z<0)∨((z.natAbs:Int) = -z∧z<0):=fun z=>by omega
 rcases h a with ⟨ea,ha⟩ | ⟨ea,ha⟩ <;> rcases h b with ⟨eb,hb⟩ | ⟨eb,hb⟩ <;> simp [ea,eb,ha,hb,sgn,Int.neg_mul,Int.mul_neg]
set_option maxHeartbeats 2000000 in
theorem mul_bigA {va vb:Value} {a b:Int} (w:World) (ha:ZV w va a) (hb:ZV w vb b) (sa':smallB a=false) (k:Nat) (hk:k≤1000000000) (ka:(a.natAbs:Int)<1000000000 ^ k) (kb:(b.natAbs:Int)<1000000000 ^ k) :
  Calls Tryz.prog 92 #[va,vb] w fun e w'=>∃ v',e=.returned v'∧ZV w' v' (a * b)∧Ext w w':=by
 obtain ⟨a0,a1,pa,na,ca,rfl⟩:=ha.shape;obtain ⟨b0,b1,pb,nb,cb,rfl⟩:=hb.shape;go_enter Tryz.func92,Tryz.ntmps92;go_wp2_with fail;refine (isSmall_any _ (ha.later (xa (xa (x1 _ _) _) _))).mono ?_;rintro e w1 ⟨rfl,e1⟩;have Ba:=((Box3.made w (.int .i64 a0) (.bool a1) (.slice pa na ca) 103).later (xa (x1 _ _) _)).later e1;have Bb:=((Box3.made (w.alloc (.cells #[.int .i64 a0,.bool a1,.slice pa na ca] 103)) (.int .i64 b0) (.bool b1) (.slice pb nb cb) 103).later (x1 _ _)).later e1;have Br:=(Box3.made ((w.alloc (.cells #[.int .i64 a0,.bool a1,.slice pa na ca] 103)).alloc (.cells #[.int .i64 b0,.bool b1,.slice pb nb cb] 103)) (.int .i64 0) (.bool false) (.slice none 0 0) 103).later e1;simp only [World.size_alloc] at Ba Bb Br;have ha1:=(ha.later (xa (xa (x1 _ _) _) _)).later e1;have hb1:=(hb.later (xa (xa (x1 _ _) _) _)).later e1;have X1:=xt (xa (xa (x1 _ _) _) _) e1;clear e1 ha hb;have Ba':=Ba;obtain ⟨⟨p0,p1,p2⟩,_⟩:=Ba';go_wp2_with fail;clear p0 p1 p2 sa';refine (limbs_any _ ha1).mono ?_;rintro e w2 ⟨x,rfl,hx2,e2⟩;obtain ⟨⟨q0,q1,q2⟩,_⟩:=Bb.later e2;go_wp2_with fail;refine (limbs_any _ (hb1.later e2)).mono ?_;rintro e w3 ⟨y,rfl,hy3,e3⟩;obtain ⟨xs,⟨px,cx,rfl,cx1,cx2,cx3⟩,lx,tx,vx⟩:=hx2.later e3;obtain ⟨ys,⟨py,cy,rfl,cy1,cy2,cy3⟩,ly,ty,vy⟩:=hy3;have nx:xs.length≤k:=len_le lx tx (by rw [vx];exact ka);have ny:ys.length≤k:=len_le ly ty (by rw [vy];exact kb);have Ba3:=(Ba.later e2).later e3;have Bb3:=(Bb.later e2).later e3;have Br3:=(Br.later e2).later e3;have ha3:=(ha1.later e2).later e3;have hb3:=(hb1.later e2).later e3;have X3:=xt (xt X1 e2) e3;have HV:Hid (lv xs=(a.natAbs:Int)∧lv ys=(b.natAbs:Int)):=⟨vx,vy⟩;clear hx2 vx vy ha1 hb1 e2 e3 Ba Bb Br X1 q0 q1 q2 ka kb;have hmk:=run_make_row' (P:=Tryz.prog) 101 146 (.int .u32 0) 4 Tryz.underlying101 info32 rfl .i64 .i64 (xs.length+ys.length+1) (by omega) (by omega);have ec:((xs.length+ys.length+1:Nat):Int)=(xs.length:Int)+(ys.length:Int)+1:=by omega
 rw [ec] at hmk;clear ec;go_wp2_with fail;go_loopw [53] (fun i wr=>∃ (n:Nat) (fs:List Int),n≤xs.length∧i=.int .i64 n∧Own32 wr w3.heap.size fs∧fs.length=xs.length+ys.length+1∧Lim fs∧(∀ j,n+ys.length≤j→fs.getD j 0=0)∧lv fs=lv (xs.take n) * lv ys∧Ext w3 wr) (fun i _=>xs.length - (intOf i).toNat)
 case atStart=>exact ⟨0,List.replicate (xs.length+ys.length+1) 0,Nat.zero_le _,rfl,Own32.zeros _ _,by simp,Lim.zeros _,fun j _=>getD_zeros _ j,by simp [lv_replicate,lv],x1 _ _⟩
 case round =>
  obtain ⟨n,fs,hn,rfl,ho,hfl,hlf,hz,hv,X4⟩:=hrel;by_cases hlt:n<xs.length
  ·obtain ⟨bx,ox,rfl,cx4⟩:∃ b o,px=some ⟨b,o,none⟩∧C32 w3 b o xs:=by
    rcases cx3 with ⟨_,h⟩ | h
    ·omega
    ·exact h
   have hst:=MulAt.start (xs:=xs) (i:=n) hfl hlf hz hv;have HS:=hid hst;clear hst hz hv hfl hlf;go_wp2_with fail;go_loopw [11,58] (fun c j wq=>∃ (m:Nat) (gs:List Int) (cc:Int),m≤ys.length∧j=.int .i64 m∧c=.int .u64 cc∧Own32 wq w3.heap.size gs∧MulAt xs ys gs n m cc∧Ext w3 wq) (fun _ j _=>ys.length - (intOf j).toNat)
   case atStart=>exact ⟨0,fs,0,Nat.zero_le _,rfl,rfl,ho,HS.out,X4⟩
   case round =>
    obtain ⟨m,gs,cc,hm,rfl,rfl,hq,hM,X5⟩:=hrel;clear ho HS X4;by_cases hmlt:m<ys.length
    ·obtain ⟨by1,oy,rfl,cy4⟩:∃ b o,py=some ⟨b,o,none⟩∧C32 w3 b o ys:=by
      rcases cy3 with ⟨_,h⟩ | h
      ·omega
      ·exact h
     have HM:=hM;obtain ⟨m1,m2,m3,m4,m5,_⟩:=hM;obtain ⟨x,ex⟩:∃ x,xs.getD n 0=x:=⟨_,rfl⟩;obtain ⟨y,ey⟩:∃ y,ys.getD m 0=y:=⟨_,rfl⟩;obtain ⟨f,ef⟩:∃ f,gs.getD (n+m) 0=f:=⟨_,rfl⟩;have kx:=(cx4.later X5) n hlt;have ky:=(cy4.later X5) m hmlt;have kf:=World.rowIs.cell hq (i:=n+m) (by omega);have kz:=World.rowIs.frozen hq (n+m);rw [ex] at kx;rw [ey] at ky;rw [ef] at kf;obtain ⟨x0,x1'⟩:=lx.getD n;obtain ⟨y0,y1⟩:=ly.getD m;obtain ⟨f0,f1⟩:=m2.getD (n+m);rw [ex] at x0 x1';rw [ey] at y0 y1;rw [ef] at f0 f1;obtain ⟨s0,s1,s2⟩:=mul_sum x0 x1' y0 y1 f0 f1 m4 m5;have HN:Hid (MulAt xs ys (gs.set (n+m) ((f+x * y+cc) % 1000000000)) n (m+1) ((f+x * y+cc) / 1000000000)):=HM.step hlt hmlt lx ly ex ey ef;have HQ:Hid (Own32 wr w3.heap.size gs∧n+m<gs.length):=⟨hq,by omega⟩;clear HM ex ey ef hq m1 m3 m2 cx3 cy3 cx4 cy4 lx ly tx ty hmk ha3 hb3 Ba3 Bb3 Br3;go_wp2_with fail;go_quiet (fail)
     go_wp2
     go_roundw
     case rel=>exact ⟨m+1,_,_,by omega,by go_num,rfl,(HQ.out.1.drewN _).set _ HQ.out.2 _,HN.out,xset (xdN X5 _) (Nat.le_refl _) _⟩
     case measure=>simp [intOf];omega
    ·obtain rfl:m=ys.length:=(by omega);have hM':=hM;obtain ⟨m1,m2,m3,m4,m5,_⟩:=hM';have kf:=World.rowIs.cell hq (i:=n+ys.length) (by omega);have kz:=World.rowIs.frozen hq (n+ys.length);have HN:=hM.close hlt;have HC:Hid (∃ fs',fs'=gs.set (n+ys.length) cc∧fs'.length=xs.length+ys.length+1∧Lim fs'∧(∀ j,(n+1)+ys.length≤j→fs'.getD j 0=0)∧lv fs'=lv (xs.take (n+1)) * lv ys):=⟨_,rfl,HN⟩;have HQ:Hid (Own32 wr w3.heap.size gs∧n+ys.length<gs.length):=⟨hq,by omega⟩;clear HN hM hq m3 m2 cx3 cy3 cx4 lx ly tx ty hmk ha3 hb3 Ba3 Bb3 Br3
     go_wp2
     go_roundw
     case rel =>
      obtain ⟨fs',ef,c1,c2,c3,c4⟩:=HC.out;exact ⟨n+1,fs',by omega,by go_num,by rw [ef];exact HQ.out.1.set _ HQ.out.2 _,c1,c2,c3,c4,xset X5 (Nat.le_refl _) _⟩
     case measure=>simp [intOf];omega
  ·obtain rfl:n=xs.length:=by omega
   have hv':lv fs=(a.natAbs:Int) * (b.natAbs:Int):=by
    rw [hv,List.take_length,HV.out.1,HV.out.2]
   have R4:=ho.row (by omega);rw [hfl] at R4;have HR:Hid (Row wr (.slice (some ⟨w3.heap.size,0,none⟩) (xs.length+ys.length+1) (xs.length+ys.length+1)) fs∧Lim fs):=⟨R4,hlf⟩;have Ba4:=Ba3.later X4;have Bb4:=Bb3.later X4;have Br4:=Br3.later X4;have ha4:=ha3.later X4;have hb4:=hb3.later X4;have X5:=xt X3 X4;have Ba5:=Ba4;have Bb5:=Bb4;obtain ⟨⟨p0,p1,p2⟩,_⟩:=Ba5;obtain ⟨⟨q0,q1,q2⟩,_⟩:=Bb5;have HP:Hid (sgn (!(decide (a<0) == decide (b<0))) (lv fs)=a * b):=by rw [hv'];exact sgn_mul a b
   clear R4 hv hv' hz ho hfl hlf cx3 cy3 lx ly tx ty hmk ha3 hb3 Ba3 Bb3 Br3 HV X3 X4;go_wp2_with fail;go_region_with (first
    | (go_at_call_of 110 (Value.agg #[.int .i64 a0,.bool a1,.slice pa na ca]);refine (neg_any (z:=a) _ ?_).mono ?_;(exact ha4.later (by first | exact xr _ | exact xd (xr _)));rintro e w4 ⟨rfl,e4⟩;obtain ⟨⟨q0',q1',q2'⟩,_⟩:=Bb4.later (xt (xd (xr _)) e4))
    | (go_at_call_of 110 (Value.agg #[.int .i64 b0,.bool b1,.slice pb nb cb]);refine (neg_any (z:=b) _ ?_).mono ?_;(exact hb4.later (xt (xd (xr _)) (by assumption)));rintro e w5 ⟨rfl,e5⟩)
    | (go_at_call 155;refine (make_any _ _ (HR.out.1.later (xt (xt (xd (xr _)) (by assumption)) (by assumption))) HR.out.2).mono ?_;rintro e w6 ⟨v',rfl,hz6,e6⟩;obtain ⟨a0',a1',p',n',cap',rfl⟩:=hz6.shape;have X6:=xt (xt (xt (xd (xr wr)) (by assumption)) (by assumption)) e6;have B6:=Br4.later X6;obtain ⟨⟨r0,r1,r2⟩,s0,s1,s2⟩:=B6))
   all_goals
    go_wp2
    exact bodyPost_ret (v:=.agg #[.int .i64 a0',.bool a1',.slice p' n' cap']) (by simp [results,Tryz.results92,go_sem,r0,r1,r2]) rfl ⟨_,rfl,by rw [← HP.out];exact hz6.set3 (Br4.later X6) _ _ _,Ext.set3 (xt X5 X6) (by omega) _ _ _⟩
end Go.Proofs.YtjlojlgdkfpcdaaGreatDoor

