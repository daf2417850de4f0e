import Derived.Test.YteliaeejooekbaaGreatDoorMg12
import Derived.Test.YteliaeejooekbaaGreatDoorMg26
import Derived.Test.YteliaeejooekbaaGreatDoorMg35
import Derived.Test.YteliaeejooekbaaGreatDoorMg7
import Derived.Test.YteliaeejooekbaaGreatDoorMg5
set_option maxRecDepth 8000
set_option maxHeartbeats 4000000
namespace Go.Proofs.YteliaeejooekbaaGreatDoor
open Go.RowKit
mutual
def zBC:ET->List NT
 | .mk n ks=>{ n with q:=(ks.length:Int) } :: zAN ks
def zAN:List ET->List NT
 | []=>[]
 | k :: ks=>zBC k++zAN ks
end
theorem zCM:∀ (ks ls:List ET),zAN (ks++ls)=zAN ks++zAN ls
 | [],ls=>by rw [List.nil_append,zAN];rfl
 | k :: ks,ls=>by rw [List.cons_append,zAN,zAN,zCM ks ls,List.append_assoc]
theorem zCP (e:ET):zAN [e]=zBC e:=by rw [zAN,zAN,List.append_nil]
def FitL (m:Nat) (l:List NT):Prop:=(∀ x ∈ l,x.fits)/\l.length<=m
theorem FitL.more {m m':Nat} {l:List NT} (h:FitL m l) (hm:m<=m'):FitL m' l:=⟨h.1,Nat.le_trans h.2 hm⟩
theorem FitL.nil:FitL 0 []:=⟨fun _ h=>(by cases h),Nat.le_refl _⟩
theorem FitL.app {m m':Nat} {l l':List NT} (h:FitL m l) (h':FitL m' l'):FitL (m+m') (l++l'):=
 ⟨fun x hx=>(List.mem_append.1 hx).elim (h.1 x) (h'.1 x),by rw [List.length_append];exact Nat.add_le_add h.2 h'.2⟩
theorem FitL.mk {m:Nat} {x:NT} {ks:List ET} (hx:x.fits) (h:FitL m (zAN ks)):FitL (m+1) (zBC (.mk x ks)):=by
 rw [zBC];refine ⟨fun y hy=>?_,by rw [List.length_cons];exact Nat.succ_le_succ h.2⟩
 rcases List.mem_cons.1 hy with rfl | hy
 ·exact hx
 ·exact h.1 y hy
theorem FitL.leaf {x:NT} (hx:x.fits):FitL 1 (zBC (.mk x [])):=FitL.mk hx (by rw [zAN];exact FitL.nil)
theorem zDD {x:NT} (t1:x.t.length<=1048576) (d1:x.d=0):x.fits:=⟨t1,by rw [d1];decide,by rw [d1];decide⟩
def zAF (m:Nat) (b base K:Nat) (w:World) (e:Ending) (w':World):Prop:=
 (∃ (x:NT) (ks:List ET) (s:Value),e=.returned (.agg #[iQ x.k,sV x.t,.bool x.n,iQ x.d,iQ x.x,iQ x.r,iQ x.c,.bool x.f,.bool x.g,iQ x.r2,iQ x.c2,.bool x.f2,.bool x.g2,iQ x.q,s])/\FitL m (zBC (.mk x ks))/\KidsS w' (fun k=>w.heap.size<=k/\k<w'.heap.size) s ks)/\Cur w' b base K/\Only b w w'
theorem zAF.more {m m' b base K K':Nat} {w w':World} {e:Ending} (h:zAF m b base K w e w') (hm:m<=m') (hK:K<=K'):zAF m' b base K' w e w':=by
 obtain ⟨⟨x,ks,s,h1,h2,h3⟩,h4,h5⟩:=h;exact ⟨⟨x,ks,s,h1,h2.more hm,h3⟩,h4.more hK,h5⟩
theorem zD0 (w:World) (U:Nat->Prop):KidsS w U (.slice none 0 0) []:=KidsS.mk none 0 [] (fun _=>undef) (Nat.le_refl _) (fun h=>absurd h (by simp)) (fun i e h=>by simp at h)
theorem KidsS.only {w w':World} {U U':Nat->Prop} {b:Nat} {v:Value} {es:List ET} (h:KidsS w U v es) (o:Only b w w') (hU:∀ k,U k->k ≠ b/\k<w.heap.size) (hu:∀ k,U k->U' k):KidsS w' U' v es:=
 h.keep (fun k hk=>o.block k (hU k hk).1 (hU k hk).2) hu
def zB9 (w:World) (lo hi:Nat) (v:Value) (es:List ET):Prop:=KidsS w (fun k=>lo<=k/\k<hi) v es/\hi<=w.heap.size
theorem zB9.ext {w w':World} {lo hi:Nat} {v:Value} {es:List ET} (h:zB9 w lo hi v es) (x:Ext w w'):zB9 w' lo hi v es:=⟨h.1.l (fun _ hk=>Nat.lt_of_lt_of_le hk.2 h.2) x,Nat.le_trans h.2 x.size⟩
theorem zB9.only {w w':World} {lo hi b:Nat} {v:Value} {es:List ET} (h:zB9 w lo hi v es) (o:Only b w w') (hb:b<lo):zB9 w' lo hi v es:=⟨h.1.only o (fun _ hk=>⟨by have:=hk.1;omega,Nat.lt_of_lt_of_le hk.2 h.2⟩) (fun _ hk=>hk),Nat.le_trans h.2 o.size⟩
theorem zB9.block {w w':World} {lo hi g:Nat} {v:Value} {es:List ET} (h:zB9 w lo hi v es) (hw:∀ k,k ≠ g->w'.heap[k]?=w.heap[k]?) (hs:w'.heap.size=w.heap.size) (hg:g<lo):zB9 w' lo hi v es:=⟨h.1.keep (fun k hk=>hw k (by omega)) (fun _ hk=>hk),by rw [hs];exact h.2⟩
theorem zB9.blockH {w w':World} {lo hi g:Nat} {v:Value} {es:List ET} (h:zB9 w lo hi v es) (hw:∀ k,k ≠ g->w'.heap[k]?=w.heap[k]?) (hs:w'.heap.size=w.heap.size) (hg:hi<=g):zB9 w' lo hi v es:=⟨h.1.keep (fun k hk=>hw k (by have:=hk.2;omega)) (fun _ hk=>hk),by rw [hs];exact h.2⟩
theorem zB9.wide {w:World} {lo hi lo' hi':Nat} {v:Value} {es:List ET} (h:zB9 w lo hi v es) (hl:lo'<=lo) (hh:hi<=hi'):KidsS w (fun k=>lo'<=k/\k<hi') v es:=h.1.keep (fun _ _=>rfl) (fun k hk=>⟨by omega,by omega⟩)
theorem Vec.block {w w':World} {g h:Nat} {l:List Value} (V:Vec w h l) (hw:∀ k,k ≠ g->w'.heap[k]?=w.heap[k]?) (hg:h ≠ g):Vec w' h l:=fun i u hi=>by
 obtain ⟨hc,hf⟩:=V i u hi;unfold World.cell? World.frozen? at *;rw [hw h hg];exact ⟨hc,hf⟩
abbrev Z15:List Value:=[iQ 0,.string ⟨#[]⟩,.bool false,iQ 0,iQ 0,iQ 0,iQ 0,.bool false,.bool false,iQ 0,iQ 0,.bool false,.bool false,iQ 0,.slice none 0 0]
theorem Only.setCells {b g:Nat} {a:World} (hg:a.heap.size<=g):∀ (us:List Value) (o:Nat) (w:World),Only b a w->Only b a (w.setCells g o us)
 | [],_,_,h=>h
 | u :: us,o,_,h=>Only.setCells hg us (o+1) _ (h.setNew (g:=g) (i:=o) hg u)
theorem Cur.setCells {b base K g:Nat} (hb:b ≠ g) (hg:base<=g):∀ (us:List Value) (o:Nat) (w:World),Cur w b base K->Cur (w.setCells g o us) b base K
 | [],_,_,h=>h
 | u :: us,o,_,h=>Cur.setCells hb hg us (o+1) _ (h.far (g:=g) (i:=o) hb hg u)
theorem zFE {a w:World} {b base K g:Nat} (V:Vec w g Z15) (C:Cur w b base K) (O:Only b a w) (hg:a.heap.size<=g) (hb:b ≠ g) (hbase:base<=g) (x:NT) (s:Value) :
  ∃ wy,w.setCells g 0 (x.exL s)=wy/\w.there g 0 15/\Only b a wy/\Cur wy b base K/\(∀ i u,(x.exL s)[i]?=some u->wy.cell? ⟨g,i,none⟩=some u)/\wy.heap.size=w.heap.size/\(∀ k,k ≠ g->wy.heap[k]?=w.heap[k]?):=by
 have VT:w.there g 0 15:=V.there;exact ⟨_,rfl,VT,Only.setCells hg _ _ _ O,Cur.setCells hb hbase _ _ _ C,fun i u hi=>zA0 (World.rangeAt_setCells_same w g 0 (x.exL s) VT) hi,zC5 _ _ _,fun k hk=>zC6 _ _ _ k hk⟩
theorem zDC:(Tryz.prog.info? 77).map (·.size)=some 15:=by kernel_rfl
theorem zCU (k:Int) (t:List UInt8) (p:Option Addr) (n cap:Nat) (w:World) :
  Calls Tryz.prog 80 #[iQ k,sV t,.slice p n cap] w fun e w'=>e=.returned (.agg #[iQ k,sV t,.bool false,iQ 0,iQ 0,iQ 0,iQ 0,.bool false,.bool false,iQ 0,iQ 0,.bool false,.bool false,iQ (n:Int),.slice p n cap])/\Ext w w':=by
 have V0:=zA5 w Z15 77;have X0:=x1 w (.cells Z15.toArray 77);obtain ⟨wa,ha⟩:=nm (w.alloc (.cells Z15.toArray 77));rw [ha] at V0 X0;have HWA:Hid _:=ha;have VT:wa.there w.heap.size 0 15:=V0.there;have VR:=World.rangeAt_setCells_same wa w.heap.size 0 [iQ k,sV t,.bool false,iQ 0,iQ 0,iQ 0,iQ 0,.bool false,.bool false,iQ 0,iQ 0,.bool false,.bool false,iQ (n:Int),.slice p n cap] VT;have XR:=Ext.setCells (b:=w.heap.size) (Nat.le_refl _) [iQ k,sV t,.bool false,iQ 0,iQ 0,iQ 0,iQ 0,.bool false,.bool false,iQ 0,iQ 0,.bool false,.bool false,iQ (n:Int),.slice p n cap] 0 wa X0;obtain ⟨wq,hq⟩:=nm (wa.setCells w.heap.size 0 [iQ k,sV t,.bool false,iQ 0,iQ 0,iQ 0,iQ 0,.bool false,.bool false,iQ 0,iQ 0,.bool false,.bool false,iQ (n:Int),.slice p n cap]);have HQ2:Hid _:=hq;rw [hq] at VR XR;have q0:=zA0 VR (i:=0) rfl;have q1:=zA0 VR (i:=1) rfl;have q2:=zA0 VR (i:=2) rfl;have q3:=zA0 VR (i:=3) rfl;have q4:=zA0 VR (i:=4) rfl;have q5:=zA0 VR (i:=5) rfl;have q6:=zA0 VR (i:=6) rfl;have q7:=zA0 VR (i:=7) rfl;have q8:=zA0 VR (i:=8) rfl;have q9:=zA0 VR (i:=9) rfl;have q10:=zA0 VR (i:=10) rfl;have q11:=zA0 VR (i:=11) rfl;have q12:=zA0 VR (i:=12) rfl;have q13:=zA0 VR (i:=13) rfl;have q14:=zA0 VR (i:=14) rfl;have one:(#[iQ k,sV t,.bool false,iQ 0,iQ 0,iQ 0,iQ 0,.bool false,.bool false,iQ 0,iQ 0,.bool false,.bool false,iQ (n:Int),.slice p n cap]:Array Value).all (·.oneCell')=true:=by simp [Value.oneCell']
 clear VR V0 X0 ha hq;go_enter Tryz.func80,Tryz.ntmps80;go_wp2_with (rw [HWA.out];refine zAQ rfl _ _ _ rfl w.heap.size 0 _ rfl rfl VT zDC (by simp [Value.oneCell']) HQ2.out ?_);exact bodyPost_ret (v:=.agg #[iQ k,sV t,.bool false,iQ 0,iQ 0,iQ 0,iQ 0,.bool false,.bool false,iQ 0,iQ 0,.bool false,.bool false,iQ (n:Int),.slice p n cap]) (by simp [results,Tryz.results80,go_sem,q0,q1,q2,q3,q4,q5,q6,q7,q8,q9,q10,q11,q12,q13,q14]) rfl ⟨rfl,XR⟩
def zBZ (w:World) (v:Value) (z:Int) (n:Nat):Prop:=∃ ys,Row w v ys/\Lim ys/\Top ys/\lv ys=z/\ys.length<=n
theorem zBZ.l {w w1:World} {v:Value} {z:Int} {n:Nat} (h:zBZ w v z n) (hb:Ext w w1):zBZ w1 v z n:=by
 obtain ⟨ys,h1,h2⟩:=h;exact ⟨ys,h1.l hb,h2⟩
theorem zK9 {xs:List Int} {j:Nat} (hj:j<xs.length) (hz:xs.getD j 0 ≠ 0):Top (xs.take (j+1)):=by
 refine .inr ?_;have e:(xs.take (j+1)).length - 1=j:=by simp;omega
 rw [e,zF3 (by omega)];exact hz
theorem C32.take {w:World} {b o:Nat} {xs:List Int} (h:C32 w b o xs) (k:Nat):C32 w b o (xs.take k):=fun i hi=>by
 have hi':i<k/\i<xs.length:=by simpa [Nat.lt_min] using hi
 rw [zF3 hi'.1];exact h i hi'.2
theorem Row.take {w:World} {b o cap:Nat} {xs:List Int} (h:C32 w b o xs) (k:Nat) (hk:k<=xs.length) (h1:xs.length<=cap) (h2:cap<=9223372036854775807):Row w (.slice (some ⟨b,o,none⟩) k cap) (xs.take k):=by
 have e:(xs.take k).length=k:=by simp;omega
 exact ⟨_,cap,by rw [e],by omega,h2,.inr ⟨b,o,rfl,h.take k⟩⟩
def Off (n:Nat) (v:Value):Prop:=∀ p k c,v=.slice (some p) k c->n<=p.block
theorem Off.nil (n:Nat) (k c:Nat):Off n (.slice none k c):=fun p k c h=>by cases h
theorem Off.at {n b o k c:Nat} (h:n<=b):Off n (.slice (some ⟨b,o,none⟩) k c):=fun p k c e=>by cases e;exact h
theorem Off.less {n m:Nat} {v:Value} (h:Off n v) (hm:m<=n):Off m v:=fun p k c e=>Nat.le_trans hm (h p k c e)
theorem zQF (b o cap:Nat) (xs:List Int) (w:World) (hc:xs.length<=cap) (hcap:cap<=9223372036854775807) (hx:C32 w b o xs) (hl:Lim xs) :
  Calls Tryz.prog 167 #[.slice (some ⟨b,o,none⟩) xs.length cap] w fun e w'=>∃ v',e=.returned v'/\zBZ w' v' (lv xs) xs.length/\Ext w w'/\∃ k,v'=.slice (some ⟨b,o,none⟩) k cap:=by
 go_enter Tryz.func167,Tryz.ntmps167
 go_wp2
 go_loop [3] (fun n=>∃ k:Nat,k<=xs.length/\n=.int .i64 k/\lv (xs.take k)=lv xs) (fun n=>(intOf n).toNat)
 case atStart=>exact ⟨xs.length,Nat.le_refl _,rfl,by simp⟩
 case round =>
  obtain ⟨k,hk,rfl,hv⟩:=hrel;have HV:Hid _:=hv;clear hv;by_cases h0:k=0
  ·subst h0;have HR:Hid (Row w (.slice (some ⟨b,o,none⟩) 0 cap) (xs.take 0)):=Row.take hx 0 (by omega) hc hcap;clear hx
   go_wp2
   go_ret;exact ⟨_,rfl,⟨xs.take 0,HR.out,hl.take 0,.inl (by simp),HV.out,by simp⟩,xr _,_,rfl⟩
  ·obtain ⟨j,rfl⟩:∃ j,k=j+1:=⟨k - 1,by omega⟩;have hj:j<xs.length:=by omega
   have hcell:=hx j hj;by_cases hz:xs.getD j 0=0
   ·rw [hz] at hcell;have HN:Hid (lv (xs.take j)=lv xs):=(by have:=HV.out;rw [zDI hj hz] at this;exact this);clear h0 hz hx
    go_wp2
    go_round
    case rel=>exact ⟨j,by omega,by go_num,HN.out⟩
    case measure=>simp [intOf]
   ·have HT:Hid (Top (xs.take (j+1))):=zK9 hj hz;have HR:Hid (Row w (.slice (some ⟨b,o,none⟩) (j+1) cap) (xs.take (j+1))):=Row.take hx (j+1) (by omega) hc hcap;obtain ⟨x,hxj⟩:=nm (xs.getD j 0);rw [hxj] at hcell hz;have hz':(x == 0)=false:=(by rw [beq_eq_false_iff_ne];exact hz);clear h0 hxj hz hx
    go_wp2
    go_ret;exact ⟨_,rfl,⟨xs.take (j+1),HR.out,hl.take _,HT.out,HV.out,by simp;omega⟩,xr _,_,rfl⟩
theorem zQG (w:World) :
  Calls Tryz.prog 167 #[.slice none 0 0] w fun e w'=>∃ v',e=.returned v'/\zBZ w' v' 0 0/\Ext w w'/\v'=.slice none 0 0:=by
 go_enter Tryz.func167,Tryz.ntmps167
 go_wp2
 go_loop [3] (fun n=>n=.int .i64 0) (fun _=>0)
 case atStart=>rfl
 case round =>
  subst hrel
  go_wp2
  go_ret;exact ⟨_,rfl,⟨[],⟨none,0,rfl,Nat.le_refl _,by decide,.inl ⟨rfl,rfl⟩⟩,Lim.nil,.inl rfl,rfl,Nat.le_refl _⟩,xr _,rfl⟩
theorem zE1 {v:Value} {xs:List Int} (w:World) (h:Row w v xs) (hl:Lim xs) :
  Calls Tryz.prog 167 #[v] w fun e w'=>∃ v',e=.returned v'/\zBZ w' v' (lv xs) xs.length/\Ext w w'/\∀ n,Off n v->Off n v':=by
 obtain ⟨p,cap,rfl,h1,h2,h3⟩:=h
 rcases h3 with ⟨rfl,rfl⟩ | ⟨b,o,rfl,h3⟩
 ·obtain rfl:xs=[]:=List.eq_nil_of_length_eq_zero (by omega);refine (zQG w).mono ?_;rintro e w' ⟨v',rfl,hC,hx,rfl⟩;exact ⟨_,rfl,hC,hx,fun n _=>Off.nil n 0 0⟩
 ·refine (zQF b o cap xs w h1 h2 h3 hl).mono ?_;rintro e w' ⟨v',rfl,hC,hx,k,rfl⟩;exact ⟨_,rfl,hC,hx,fun n hn=>Off.at (hn _ _ _ rfl)⟩
def zGW (xs fs:List Int) (m:Int) (i:Nat) (c:Int):Prop:=
 fs.length=xs.length+1/\Lim fs/\(∀ j,i<=j->fs.getD j 0=0)/\0<=c/\c<1000000000/\lv fs+1000000000 ^ i * c=lv (xs.take i) * m
theorem zGW.step {xs fs:List Int} {m:Int} {i:Nat} {c x:Int} (h:zGW xs fs m i c) (hi:i<xs.length) (lx:Lim xs) (m0:0<=m) (m1:m<1000000000) (ex:xs.getD i 0=x) :
  zGW xs (fs.set i ((x * m+c) % 1000000000)) m (i+1) ((x * m+c) / 1000000000):=by
 obtain ⟨h1,h2,h3,c0,c1,h4⟩:=h;have hx:=lx.getD i;rw [ex] at hx;obtain ⟨p0,p1,p2⟩:=zFD hx.1 hx.2 m0 m1 (show (0:Int)<=0 by decide) (by decide) c0 c1;refine ⟨by simpa using h1,h2.set _ (by omega) (by omega),?_,by omega,by omega,?_⟩
 ·intro j hj;rw [zBT (by omega),if_neg (by omega)];exact h3 j (by omega)
 ·rw [zGE _ _ _ (by omega),h3 i (Nat.le_refl _),zBN xs,ex,Int.pow_succ];have e3:(x * m+c) % 1000000000+1000000000 * ((x * m+c) / 1000000000)=x * m+c:=Int.emod_add_mul_ediv _ _;generalize (x * m+c) / 1000000000=q at *;generalize (x * m+c) % 1000000000=r at *;obtain rfl:r=x * m+c - 1000000000 * q:=by omega
  generalize (1000000000:Int) ^ i=p at *;generalize lv fs=F at *;generalize lv (List.take i xs)=X at *;simp only [Int.sub_zero,Int.mul_add,Int.mul_sub,Int.mul_comm,Int.mul_left_comm] at h4 ⊢;omega
theorem zGW.done {xs fs:List Int} {m c:Int} (h:zGW xs fs m xs.length c):(fs.set xs.length c).length=xs.length+1/\Lim (fs.set xs.length c)/\lv (fs.set xs.length c)=lv xs * m:=by
 obtain ⟨h1,h2,h3,c0,c1,h4⟩:=h;refine ⟨by simpa using h1,h2.set _ c0 c1,?_⟩;rw [zGE _ _ _ (by omega),h3 _ (Nat.le_refl _),Int.sub_zero,h4,List.take_length]
theorem zEV {va:Value} {xs:List Int} (m:Int) (w:World) (ha:Row w va xs) (lx:Lim xs) (nx:xs.length<=1000000000) (m0:0<=m) (m1:m<1000000000) :
  Calls Tryz.prog 166 #[va,.int .u64 m] w fun e w'=>∃ v',e=.returned v'/\zBZ w' v' (lv xs * m) (xs.length+1)/\Ext w w'/\Off w.heap.size v':=by
 obtain ⟨px,cx,rfl,cx1,cx2,cx3⟩:=ha;have hmk:=run_make_row' (P:=Tryz.prog) 135 150 (.int .u32 0) 4 Tryz.underlying135 zEH rfl .i64 .i64 (xs.length+1) (by omega) (by omega);have ec:((xs.length+1:Nat):Int)=(xs.length:Int)+1:=by omega
 rw [ec] at hmk;clear ec;go_enter Tryz.func166,Tryz.ntmps166;go_wp2_with fail;go_loopw [6,16] (fun c i wr=>∃ (n:Nat) (fs:List Int) (cc:Int),n<=xs.length/\i=.int .i64 n/\c=.int .u64 cc/\zAS wr w.heap.size fs/\zGW xs fs m n cc/\Ext w wr) (fun _ i _=>xs.length - (intOf i).toNat)
 case atStart=>exact ⟨0,List.replicate (xs.length+1) 0,0,Nat.zero_le _,rfl,rfl,zAS.zeros _ _,⟨by simp,Lim.zeros _,fun j _=>zBB _ j,by decide,by decide,by simp [lv,zB3]⟩,x1 _ _⟩
 case round =>
  obtain ⟨n,fs,cc,hn,rfl,rfl,ho,hA,X⟩:=hrel;by_cases hlt:n<xs.length
  ·have hlt':(n:Int)<(xs.length:Int):=by omega
   have hA':=hA;obtain ⟨a1,a2,a3,a4,a5,_⟩:=hA';obtain ⟨x,ex⟩:=nm (xs.getD n 0);obtain ⟨x0,x1'⟩:=lx.getD n;rw [ex] at x0 x1';have HN:Hid (zGW xs (fs.set n ((x * m+cc) % 1000000000)) m (n+1) ((x * m+cc) / 1000000000)):=hA.step hlt lx m0 m1 ex;have kz:=World.rowIs.frozen ho n;have kf:=World.rowIs.cell ho (i:=n) (by omega);have HQ:Hid (zAS wr w.heap.size fs/\n<fs.length):=⟨ho,by omega⟩;obtain ⟨bx,ox,rfl,kx⟩:∃ b o,px=some ⟨b,o,none⟩/\wr.cell? ⟨b,o+n,none⟩=some (.int .u32 x):=by
    rcases cx3 with ⟨_,h'⟩ | ⟨b,o,e,k⟩
    ·omega
    ·exact ⟨b,o,e,by rw [<- ex];exact (k.l X) n hlt⟩
   obtain ⟨p0,p1,p2⟩:=zFD x0 x1' m0 m1 (show (0:Int)<=0 by decide) (by decide) a4 a5;obtain ⟨P,hP⟩:=nm (x * m);rw [hP] at HN p0 p1 p2;rw [Int.zero_add] at p2;clear ho hA a3 ex cx3 lx hmk
   go_wp2
   go_roundw
   case rel=>exact ⟨n+1,_,_,by omega,by go_num,rfl,HQ.out.1.set _ HQ.out.2 _,HN.out,xset X (Nat.le_refl _) _⟩
   case measure=>simp [intOf];omega
  ·obtain rfl:n=xs.length:=by omega
   obtain ⟨d1,d2,d3⟩:=hA.done;have kz:=World.rowIs.frozen ho xs.length;have kf:=World.rowIs.cell ho (i:=xs.length) (by have:=hA.1;omega);have O2:=ho.set xs.length (by have:=hA.1;omega) cc;obtain ⟨a1,a2,a3,a4,a5,_⟩:=hA;have X2:=xset X (p:=⟨w.heap.size,xs.length,none⟩) (Nat.le_refl _) (.int .u32 cc);generalize fs.set xs.length cc=gs at *;have C:C32 (wr.setCell ⟨w.heap.size,xs.length,none⟩ (.int .u32 cc)) w.heap.size 0 gs:=fun i hi=>by rw [Nat.zero_add];exact World.rowIs.cell O2 hi
   have HC:Hid _:=C;have HX:Hid _:=X2;have D3:Hid _:=d3;clear ho a3 cx3 lx hmk O2 X2 C X d3;go_wp2_with fail
   go_loop [9] (fun n=>∃ k:Nat,k<=gs.length/\n=.int .i64 k/\lv (gs.take k)=lv gs) (fun n=>(intOf n).toNat)
   case atStart=>exact ⟨gs.length,Nat.le_refl _,by rw [d1];go_num,by simp⟩
   case round =>
    obtain ⟨k,hk,rfl,hv⟩:=hrel;have HV:Hid _:=hv;clear hv;have hgn:gs.length<=9223372036854775807:=(by omega);by_cases h0:k=0
    ·subst h0;have HR:Hid (Row (wr.setCell ⟨w.heap.size,xs.length,none⟩ (.int .u32 cc)) (.slice (some ⟨w.heap.size,0,none⟩) 0 (xs.length+1)) (gs.take 0)):=by rw [<- d1];exact Row.take HC.out 0 (by omega) (Nat.le_refl _) hgn
     go_wp2
     go_ret;exact ⟨_,rfl,⟨gs.take 0,HR.out,d2.take 0,.inl (by simp),HV.out.trans D3.out,by simp⟩,HX.out,Off.at (Nat.le_refl _)⟩
    ·obtain ⟨j,rfl⟩:∃ j,k=j+1:=⟨k - 1,by omega⟩;have hj:j<gs.length:=(by omega);have hcell:=HC.out j hj;rw [Nat.zero_add] at hcell;by_cases hz:gs.getD j 0=0
     ·rw [hz] at hcell;have HN:Hid (lv (gs.take j)=lv gs):=(by have:=HV.out;rw [zDI hj hz] at this;exact this);clear h0 hz
      go_wp2
      go_round
      case rel=>exact ⟨j,by omega,by go_num,HN.out⟩
      case measure=>simp [intOf]
     ·have HT:Hid (Top (gs.take (j+1))):=zK9 hj hz;have HR:Hid (Row (wr.setCell ⟨w.heap.size,xs.length,none⟩ (.int .u32 cc)) (.slice (some ⟨w.heap.size,0,none⟩) (j+1) (xs.length+1)) (gs.take (j+1))):=(by rw [<- d1];exact Row.take HC.out (j+1) (by omega) (Nat.le_refl _) hgn);obtain ⟨x,hxj⟩:=nm (gs.getD j 0);rw [hxj] at hcell hz;have hz':(x == 0)=false:=(by rw [beq_eq_false_iff_ne];exact hz);clear h0 hxj hz
      go_wp2
      go_ret;exact ⟨_,rfl,⟨gs.take (j+1),HR.out,d2.take _,HT.out,HV.out.trans D3.out,by simp;omega⟩,HX.out,Off.at (Nat.le_refl _)⟩
theorem zCY {va vb:Value} {xs ys:List Int} (w:World) (ha:Row w va xs) (hb:Row w vb ys) (lx:Lim xs) (ly:Lim ys) (nx:xs.length<=1000000000) (nyx:ys.length<=xs.length) (hle:lv ys<=lv xs) :
  Calls Tryz.prog 113 #[va,vb] w fun e w'=>∃ v' fs,e=.returned v'/\Row w' v' fs/\Lim fs/\lv fs=lv xs - lv ys/\fs.length=xs.length/\Ext w w'/\∃ k c,v'=.slice (some ⟨w.heap.size,0,none⟩) k c:=by
 obtain ⟨px,cx,rfl,cx1,cx2,cx3⟩:=ha;obtain ⟨py,cy,rfl,cy1,cy2,cy3⟩:=hb;have hmk:=run_make_row' (P:=Tryz.prog) 135 150 (.int .u32 0) 4 Tryz.underlying135 zEH rfl .i64 .i64 xs.length (by omega) (by omega);have HL:Hid _:=hle;clear hle;go_enter Tryz.func113,Tryz.ntmps113;go_wp2_with fail;go_loopw [6,14] (fun c i wr=>∃ (m:Nat) (fs:List Int) (cc:Int),m<=xs.length/\i=.int .i64 m/\c=.int .i64 cc/\zAS wr w.heap.size fs/\zFG xs ys fs m cc/\Ext w wr) (fun _ i _=>xs.length - (intOf i).toNat)
 case atStart=>exact ⟨0,List.replicate xs.length 0,0,Nat.zero_le _,rfl,rfl,zAS.zeros _ _,zFG.start _ _,x1 _ _⟩
 case round =>
  obtain ⟨m,fs,cc,hm,rfl,rfl,ho,hA,X⟩:=hrel;by_cases hlt:m<xs.length
  ·have hlt':(m:Int)<(xs.length:Int):=by omega
   have hA':=hA;obtain ⟨a1,a2,a3,a4,a5,_⟩:=hA';obtain ⟨x,ex⟩:=nm (xs.getD m 0);obtain ⟨y,ey⟩:=nm (ys.getD m 0);obtain ⟨x0,x1'⟩:=lx.getD m;obtain ⟨y0,y1'⟩:=ly.getD m;rw [ex] at x0 x1';rw [ey] at y0 y1';have HE:Hid (xs.getD m 0=x/\ys.getD m 0=y):=⟨ex,ey⟩;have kf:=World.rowIs.cell ho (i:=m) (by omega);have kz:=World.rowIs.frozen ho m;have HQ:Hid (zAS wr w.heap.size fs/\m<fs.length):=⟨ho,by omega⟩;obtain ⟨bx,ox,rfl,kx⟩:∃ b o,px=some ⟨b,o,none⟩/\wr.cell? ⟨b,o+m,none⟩=some (.int .u32 x):=by
    rcases cx3 with ⟨_,h'⟩ | ⟨b,o,e,k⟩
    ·omega
    ·exact ⟨b,o,e,by rw [<- ex];exact (k.l X) m hlt⟩
   have KY:Hid (m<ys.length->∃ b o,py=some ⟨b,o,none⟩/\wr.cell? ⟨b,o+m,none⟩=some (.int .u32 y)):=fun h=>by
    rcases cy3 with ⟨_,h'⟩ | ⟨b,o,e,k⟩
    ·omega
    ·exact ⟨b,o,e,by rw [<- ey];exact (k.l X) m h⟩
   have EY:Hid (¬ m<ys.length->y=0):=fun h=>by rw [<- ey,List.getD_eq_getElem?_getD,List.getElem?_eq_none (by omega)];rfl
   clear ho a3 ex ey cx3 cy3 lx ly hmk HL;by_cases hy:m<ys.length
   ·obtain ⟨bv,ov,rfl,ky⟩:=KY.out hy;clear KY EY;by_cases hneg:x - cc - y<0
    ·have hs:x - cc - y<0:=(by omega);have HN:Hid (zFG xs ys (fs.set m (x - cc - y+1000000000)) (m+1) 1):=by
      refine hA.step hlt (by decide) (by decide) ?_ (by omega) (by omega);rw [HE.out.1,HE.out.2];omega
     clear hA
     go_wp2
     go_roundw
     case rel=>exact ⟨m+1,_,_,by omega,by go_num,rfl,HQ.out.1.set _ HQ.out.2 _,HN.out,xset X (Nat.le_refl _) _⟩
     case measure=>simp [intOf];omega
    ·have hs:0<=x - cc - y:=(by omega);have HN:Hid (zFG xs ys (fs.set m (x - cc - y)) (m+1) 0):=by
      refine hA.step hlt (by decide) (by decide) ?_ (by omega) (by omega);rw [HE.out.1,HE.out.2];omega
     clear hA
     go_wp2
     go_roundw
     case rel=>exact ⟨m+1,_,_,by omega,by go_num,rfl,HQ.out.1.set _ HQ.out.2 _,HN.out,xset X (Nat.le_refl _) _⟩
     case measure=>simp [intOf];omega
   ·obtain rfl:=EY.out hy;clear KY EY;by_cases hneg:x - cc<0
    ·have hs:x - cc<0:=(by omega);have HN:Hid (zFG xs ys (fs.set m (x - cc+1000000000)) (m+1) 1):=by
      refine hA.step hlt (by decide) (by decide) ?_ (by omega) (by omega);rw [HE.out.1,HE.out.2];omega
     clear hA
     go_wp2
     go_roundw
     case rel=>exact ⟨m+1,_,_,by omega,by go_num,rfl,HQ.out.1.set _ HQ.out.2 _,HN.out,xset X (Nat.le_refl _) _⟩
     case measure=>simp [intOf];omega
    ·have hs:0<=x - cc:=(by omega);have HN:Hid (zFG xs ys (fs.set m (x - cc)) (m+1) 0):=by
      refine hA.step hlt (by decide) (by decide) ?_ (by omega) (by omega);rw [HE.out.1,HE.out.2];omega
     clear hA
     go_wp2
     go_roundw
     case rel=>exact ⟨m+1,_,_,by omega,by go_num,rfl,HQ.out.1.set _ HQ.out.2 _,HN.out,xset X (Nat.le_refl _) _⟩
     case measure=>simp [intOf];omega
  ·obtain rfl:m=xs.length:=by omega
   have hd:=hA.done nyx HL.out;have hl:=hA.1;have hlim:=hA.2.1;have R:=ho.row (by omega);rw [hl] at R;have HR:Hid (Row wr (.slice (some ⟨w.heap.size,0,none⟩) xs.length xs.length) fs/\Lim fs/\lv fs=lv xs - lv ys/\fs.length=xs.length):=⟨R,hlim,hd,hl⟩;clear R hlim hd hl ho hA cx3 cy3 lx ly hmk
   go_wp2
   go_ret;exact ⟨_,fs,rfl,HR.out.1,HR.out.2.1,HR.out.2.2.1,HR.out.2.2.2,X,_,_,rfl⟩
end Go.Proofs.YteliaeejooekbaaGreatDoor
namespace Go.Proofs.YteliaeejooekbaaGreatDoor
theorem zBF (xs:List Int) (i:Nat) (h:i<xs.length):lv (xs.drop i)=xs.getD i 0+1000000000 * lv (xs.drop (i+1)):=by
 rw [List.drop_eq_getElem_cons h];simp [lv,h]
def zE6 (xs bs qs:List Int) (n:Nat) (R:Int):Prop:=
 qs.length=xs.length+1/\Lim qs/\lv (xs.drop n)=lv (qs.drop n) * lv bs+R/\0<=R/\R<lv bs/\(∀ j,j<n->qs.getD j 0=0)/\qs.getD xs.length 0=0
theorem zE6.start (xs bs:List Int) (hb:0<lv bs):zE6 xs bs (List.replicate (xs.length+1) 0) xs.length 0:=by
 refine ⟨by simp,Lim.zeros _,?_,by omega,hb,fun j _=>zBB _ j,zBB _ _⟩;rw [List.drop_eq_nil_of_le (Nat.le_refl _),List.drop_replicate,zB3];simp [lv]
theorem zE6.step {xs bs qs:List Int} {i:Nat} {R g R' x:Int} (h:zE6 xs bs qs (i+1) R) (hi:i<xs.length) (ex:xs.getD i 0=x) (g0:0<=g) (g1:g<1000000000) (hR:R'=x+1000000000 * R - g * lv bs) (r0:0<=R') (r1:R'<lv bs) :
  zE6 xs bs (qs.set i g) i R':=by
 obtain ⟨h1,h2,h3,_,_,h6,h7⟩:=h;refine ⟨by simpa using h1,h2.set _ g0 g1,?_,r0,r1,?_,?_⟩
 ·rw [zBF xs i hi,ex,h3,zBF (qs.set i g) i (by simp;omega),zBT (by omega),if_pos rfl,List.drop_set_of_lt (by omega),hR];generalize lv (qs.drop (i+1))=Q at *;generalize lv bs=B at *;simp only [Int.add_mul,Int.mul_add,Int.mul_assoc];omega
 ·intro j hj;rw [zBT (by omega),if_neg (by omega)];exact h6 j (by omega)
 ·rw [zBT (by omega),if_neg (by omega)];exact h7
theorem zE6.skip {xs bs qs:List Int} {i:Nat} {R x:Int} (h:zE6 xs bs qs (i+1) R) (hi:i<xs.length) (lx:Lim xs) (ex:xs.getD i 0=x) (r1:x+1000000000 * R<lv bs) :
  zE6 xs bs qs i (x+1000000000 * R):=by
 obtain ⟨h1,h2,h3,h4,_,h6,h7⟩:=h;have hx:=lx.getD i;rw [ex] at hx;refine ⟨h1,h2,?_,by omega,r1,fun j hj=>h6 j (by omega),h7⟩;rw [zBF xs i hi,ex,h3,zBF qs i (by omega),h6 i (by omega)];generalize lv (qs.drop (i+1))=Q at *;generalize lv bs=B at *;simp only [Int.mul_add,Int.zero_add,Int.mul_assoc];omega
theorem zE6.done {xs bs qs:List Int} {R:Int} (h:zE6 xs bs qs 0 R):lv xs=lv qs * lv bs+R:=by
 have:=h.2.2.1;simpa using this
theorem zCK {bs ps:List Int} (lb:Lim bs) (lp:Lim ps) (tb:bs.length=0\/bs.getD (bs.length - 1) 0 ≠ 0) (h:lv bs<=lv ps):bs.length<=ps.length:=by
 by_cases hl:bs.length<=ps.length
 ·exact hl
 ·have:=zGF lp lb (tb.resolve_left (by omega)) (by omega);omega
theorem zQZ {bs:List Int} (lb:Lim bs) (hb:0<bs.length):bs.getD (bs.length - 1) 0 * 1000000000 ^ (bs.length - 1)<=lv bs:=by
 rw [zEY bs (bs.length - 1) (by omega),List.drop_eq_nil_of_le (by omega)];have:=zCT (lb.take (bs.length - 1));simp only [lv,Int.mul_zero,Int.add_zero];rw [Int.mul_comm];omega
theorem zF6 {a b p:Int} (hp:0<p) (h:a * p<b * p):a<b:=(Int.mul_lt_mul_right hp).1 h
theorem zV3 {rs bs:List Int} {t:Int} (lr:Lim rs) (lb:Lim bs) (hL:rs.length=bs.length) (hb:0<bs.length) (ht:0<bs.getD (bs.length - 1) 0) (t0:0<=t) (h:t * lv bs<=lv rs) :
  t<=rs.getD (rs.length - 1) 0 / bs.getD (bs.length - 1) 0:=by
 have hB:=zQZ lb hb;have hR:lv rs<(rs.getD (rs.length - 1) 0+1) * 1000000000 ^ (bs.length - 1):=by
  rw [zEY rs (rs.length - 1) (by omega),List.drop_eq_nil_of_le (by omega)];have h1:=zIN (lr.take (rs.length - 1));have e:(rs.take (rs.length - 1)).length=rs.length - 1:=by simp
  rw [e] at h1;rw [hL] at h1 ⊢;simp only [lv,Int.mul_zero,Int.add_zero,Int.add_mul,Int.one_mul];rw [Int.mul_comm (rs.getD (bs.length - 1) 0)];omega
 generalize rs.getD (rs.length - 1) 0=r at *;generalize bs.getD (bs.length - 1) 0=b at *;have hp:=zDX (bs.length - 1);generalize (1000000000:Int) ^ (bs.length - 1)=p at *;have h2:t * (b * p)<=t * lv bs:=Int.mul_le_mul_of_nonneg_left hB t0;have h3:t * b * p<(r+1) * p:=by rw [Int.mul_assoc];omega
 have h4:=zF6 hp h3;exact (Int.le_ediv_iff_mul_le ht).2 (by omega)
theorem zV2 {rs bs:List Int} {t:Int} (lr:Lim rs) (lb:Lim bs) (hL:rs.length=bs.length+1) (hb:0<bs.length) (ht:0<bs.getD (bs.length - 1) 0) (t0:0<=t) (h:t * lv bs<=lv rs) :
  t<=(rs.getD (rs.length - 1) 0 * 1000000000+rs.getD (rs.length - 2) 0) / bs.getD (bs.length - 1) 0:=by
 have hB:=zQZ lb hb;have e2:rs.length - 2+1=rs.length - 1:=by omega
 have e3:rs.length - 2=bs.length - 1:=by omega
 have hR:lv rs<(rs.getD (rs.length - 1) 0 * 1000000000+rs.getD (rs.length - 2) 0+1) * 1000000000 ^ (bs.length - 1):=by
  rw [zEY rs (rs.length - 2) (by omega),e2,zBF rs (rs.length - 1) (by omega),List.drop_eq_nil_of_le (by omega)];have h1:=zIN (lr.take (rs.length - 2));have e:(rs.take (rs.length - 2)).length=rs.length - 2:=by simp
  rw [e] at h1;rw [e3] at h1 ⊢;simp only [lv,Int.mul_zero,Int.add_zero];generalize rs.getD (rs.length - 1) 0=r at *;generalize rs.getD (bs.length - 1) 0=s at *;generalize (1000000000:Int) ^ (bs.length - 1)=p at *;generalize lv (List.take (bs.length - 1) rs)=X at *;simp only [Int.mul_add,Int.mul_comm,Int.mul_left_comm];omega
 generalize rs.getD (rs.length - 1) 0 * 1000000000+rs.getD (rs.length - 2) 0=r at *;generalize bs.getD (bs.length - 1) 0=b at *;have hp:=zDX (bs.length - 1);generalize (1000000000:Int) ^ (bs.length - 1)=p at *;have h2:t * (b * p)<=t * lv bs:=Int.mul_le_mul_of_nonneg_left hB t0;have h3:t * b * p<(r+1) * p:=by rw [Int.mul_assoc];omega
 have h4:=zF6 hp h3;exact (Int.le_ediv_iff_mul_le ht).2 (by omega)
theorem zO5 {B rho t:Int} (hB:0<B) (hr:rho<B * 1000000000) (h:t * B<=rho):t<=999999999:=by
 have h1:t * B<1000000000 * B:=by rw [Int.mul_comm 1000000000 B];omega
 have:=zF6 hB h1;omega
theorem zEL {B rho g:Int} (hub:∀ t,0<=t->t * B<=rho->t<=g) (hg:rho<g * B):∀ t,0<=t->t * B<=rho->t<=g - 1:=fun t h0 h=>by
 have h1:=hub t h0 h;by_cases e:t=g
 ·subst e;omega
 ·omega
theorem zEK {B rho g:Int} (g0:0<=g) (hub:∀ t,0<=t->t * B<=rho->t<=g):rho - g * B<B:=by
 by_cases h:rho - g * B<B
 ·exact h
 ·have:=hub (g+1) (by omega) (by rw [Int.add_mul,Int.one_mul];omega);omega
theorem zF9 {B rho g:Int} (r0:0<=rho) (g0:0<=g) (h:rho<g * B):1<=g:=by
 by_cases e:g=0
 ·subst e;simp at h;omega
 ·omega
def zF7 (rs fs:List Int) (k:Int) (n:Nat) (c:Int):Prop:=
 fs.length=rs.length/\Lim fs/\0<=c/\c<k/\lv (rs.drop n)=lv (fs.drop n) * k+c/\(∀ j,j<n->fs.getD j 0=0)
theorem zF7.start (rs:List Int) (k:Int) (hk:0<k):zF7 rs (List.replicate rs.length 0) k rs.length 0:=by
 refine ⟨by simp,Lim.zeros _,by omega,hk,?_,fun j _=>zBB _ j⟩;rw [List.drop_eq_nil_of_le (Nat.le_refl _),List.drop_replicate,zB3];simp [lv]
theorem zF7.step {rs fs:List Int} {k:Int} {i:Nat} {c x:Int} (h:zF7 rs fs k (i+1) c) (hi:i<rs.length) (lr:Lim rs) (hk:0<k) (ex:rs.getD i 0=x) :
  zF7 rs (fs.set i ((c * 1000000000+x) / k)) k i ((c * 1000000000+x) % k)/\0<=(c * 1000000000+x) / k/\(c * 1000000000+x) / k<1000000000:=by
 obtain ⟨h1,h2,h3,h4,h5,h6⟩:=h;have hx:=lr.getD i;rw [ex] at hx;have q0:0<=(c * 1000000000+x) / k:=Int.ediv_nonneg (by omega) (by omega);have q1:(c * 1000000000+x) / k<1000000000:=by
  refine (Int.ediv_lt_iff_lt_mul hk).2 ?_;have:c * 1000000000+1000000000<=k * 1000000000:=by omega
  omega
 refine ⟨⟨by simpa using h1,h2.set _ q0 q1,Int.emod_nonneg _ (by omega),Int.emod_lt_of_pos _ hk,?_,?_⟩,q0,q1⟩
 ·rw [zBF rs i hi,ex,h5,zBF (fs.set i _) i (by simp;omega),zBT (by omega),if_pos rfl,List.drop_set_of_lt (by omega)];have e3:(c * 1000000000+x) % k+k * ((c * 1000000000+x) / k)=c * 1000000000+x:=Int.emod_add_mul_ediv _ _;generalize (c * 1000000000+x) / k=q at *;generalize (c * 1000000000+x) % k=r at *;generalize lv (fs.drop (i+1))=F at *;rw [Int.mul_comm k q] at e3;simp only [Int.add_mul,Int.mul_add,Int.mul_assoc];generalize F * k=Fk at *;generalize q * k=qk at *;omega
 ·intro j hj;rw [zBT (by omega),if_neg (by omega)];exact h6 j (by omega)
theorem zF7.done {rs fs:List Int} {k c:Int} (h:zF7 rs fs k 0 c):lv rs=lv fs * k+c:=by
 have:=h.2.2.2.2.1;simpa using this
theorem zOG {a b k q R r c:Int} (hk:0<k) (h1:a * k=q * (b * k)+R) (h2:0<=R) (h3:R<b * k) (h4:R=r * k+c) (c0:0<=c) (c1:c<k):q=a / b/\r=a % b:=by
 have e:(a - q * b - r) * k=c:=by
  rw [Int.sub_mul,Int.sub_mul,Int.mul_assoc];omega
 have hz:a - q * b - r=0:=by
  by_cases hp:a - q * b - r=0
  ·exact hp
  ·by_cases hn:a - q * b - r<0
   ·have:(a - q * b - r) * k <= -1 * k:=Int.mul_le_mul_of_nonneg_right (by omega) (by omega);omega
   ·have:1 * k<=(a - q * b - r) * k:=Int.mul_le_mul_of_nonneg_right (by omega) (by omega);omega
 have hc:c=0:=by rw [hz] at e;simpa using e.symm
 have r0:0<=r:=by
  by_cases h:0<=r
  ·exact h
  ·have:r * k <= -1 * k:=Int.mul_le_mul_of_nonneg_right (by omega) (by omega);omega
 have r1:r<b:=zF6 hk (by omega);have hb:0<b:=by omega
 have ea:a=r+b * q:=by rw [Int.mul_comm b q];omega
 constructor
 ·rw [ea,Int.add_mul_ediv_left _ _ (by omega),Int.ediv_eq_zero_of_lt r0 r1];omega
 ·rw [ea,Int.add_mul_emod_self_left,Int.emod_eq_of_lt r0 r1]
end Go.Proofs.YteliaeejooekbaaGreatDoor
