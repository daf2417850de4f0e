/-
  Several texts in one: Ar0, Hub.
-/
import Derived.Test.YtcjjobciokfehaaGreatDoorMg10
import Derived.Deep.DeepCutAuto
import Derived.Deep.AppendLies
import Derived.OwnWalk
import Derived.Laws.OwnMore
import Derived.Test.YtcjjobciokfehaaGreatDoorNor
namespace Go.Proofs.YtcjjobciokfehaaGreatDoor
open Go.RowKit
abbrev Ar:=Int × Int × Int × Int
def cellsA (x:Ar):List Value:=[.int .i64 x.1,.int .i64 x.2.1,.bool false,.bool false,.int .i64 x.2.2.1,.int .i64 x.2.2.2,.bool false,.bool false]
def flatA:List Ar→List Value
 | []=>[]
 | x :: l=>cellsA x++flatA l
theorem flatA_append (l m:List Ar):flatA (l++m)=flatA l++flatA m:=by
 induction l with
 | nil=>rfl
 | cons x l ih=>simp [flatA,ih]
theorem flatA_length (l:List Ar):(flatA l).length=l.length * 8:=by
 induction l with
 | nil=>rfl
 | cons x l ih=>simp [flatA,cellsA,ih];omega
abbrev OwnA (w:World) (base:Nat) (v:Value) (l:List Ar):Prop:=w.ownsRow base 61 8 v l.length (flatA l)
theorem infoA:(Tryz.prog.info? 61).map (fun i=>(i.zero,i.size,i.bytes))=some (some (arV 0 0 false false 0 0 false false),8,48):=by kernel_rfl
theorem infoA':∃ inf,Tryz.prog.info? 61=some inf∧inf.zero=some (arV 0 0 false false 0 0 false false)∧inf.size=8∧inf.bytes=48:=by
 obtain ⟨inf,e1,e2⟩:=Option.map_eq_some_iff.1 infoA;simp only [Prod.mk.injEq] at e2;exact ⟨inf,e1,e2.1,e2.2.1,e2.2.2⟩
theorem own_later {w w':World} {base:Nat} {e:TypeId} {size:Nat} {v:Value} {n:Nat} {xs:List Value} (h:w.ownsRow base e size v n xs) (hx:Ext w w'):w'.ownsRow base e size v n xs:=by
 refine ⟨h.1,h.2.imp id ?_⟩;rintro ⟨g,cap,cur,h1,h2,h3,h4⟩;have hlt:g<w.heap.size:=by
  rcases Nat.lt_or_ge g w.heap.size with h' | h'
  ·exact h'
  ·rw [Array.getElem?_eq_none h'] at h3;cases h3
 exact ⟨g,cap,cur,h1,h2,by rw [hx.block g hlt];exact h3,h4⟩
theorem own_block {w:World} {base:Nat} {e:TypeId} {size:Nat} {v:Value} {n:Nat} {xs:List Value} (h:w.ownsRow base e size v n xs):∀ r,v.ownBlock=some r→base≤r:=by
 intro r hr
 rcases h.2 with ⟨rfl,_⟩ | ⟨g,cap,cur,rfl,h2,_⟩
 ·cases hr
 ·have:g=r:=by simpa [Value.ownBlock] using hr
  omega
def AreasAt (w:World) (base:Nat) (v:Value) (n:Nat) (L:List Value):Prop:=
 L.length=n * 8∧n≤1000∧∃ p cap,v=.slice p n cap∧(0<n→∃ g,p=some ⟨g,0,none⟩∧base≤g∧g<w.heap.size∧Vec w g L)
theorem AreasAt.of_own {w:World} {base:Nat} {v:Value} {l:List Ar} (h:OwnA w base v l) (hn:l.length≤1000):AreasAt w base v l.length (flatA l):=by
 refine ⟨flatA_length l,hn,?_⟩
 rcases h.2 with ⟨rfl,h0⟩ | ⟨g,cap,cur,rfl,hb,hg,_,_,hcs,htake⟩
 ·exact ⟨none,0,by rw [h0],fun h=>absurd h0 (by omega)⟩
 ·refine ⟨_,cap,rfl,fun _=>⟨g,rfl,hb,?_,fun i u hi=>⟨?_,?_⟩⟩⟩
  ·rcases Nat.lt_or_ge g w.heap.size with h' | h'
   ·exact h'
   ·rw [Array.getElem?_eq_none h'] at hg;cases hg
  ·have:=h.cells (g:=g) rfl i u hi;rw [show (⟨g,0,none⟩:Addr).add i=⟨g,i,none⟩ by unfold Addr.add;split <;> simp_all] at this;exact this
  ·simp [World.frozen?,hg]
theorem AreasAt.later {w w':World} {base:Nat} {v:Value} {n:Nat} {L:List Value} (h:AreasAt w base v n L) (e:Ext w w'):AreasAt w' base v n L:=by
 obtain ⟨h1,h2,p,cap,hv,hg⟩:=h;refine ⟨h1,h2,p,cap,hv,fun h0=>?_⟩;obtain ⟨g,hp,hb,hlt,hV⟩:=hg h0;exact ⟨g,hp,hb,Nat.lt_of_lt_of_le hlt e.size,hV.later e⟩
theorem flatA_at {l:List Ar} {i:Nat} {x:Ar} (h:l[i]?=some x) (j:Nat) (hj:j<8):(flatA l)[i * 8+j]?=(cellsA x)[j]?:=by
 induction l generalizing i with
 | nil=>cases h
 | cons y l ih =>
  cases i with
  | zero =>
   have:y=x:=by simpa using h
   subst this;show (cellsA y++flatA l)[0 * 8+j]?=_;rw [Nat.zero_mul,Nat.zero_add,List.getElem?_append_left (by simp [cellsA];omega)]
  | succ i =>
   show (cellsA y++flatA l)[(i+1) * 8+j]?=_;rw [List.getElem?_append_right (by simp [cellsA];omega)];have e:(i+1) * 8+j - (cellsA y).length=i * 8+j:=by simp [cellsA];omega
   rw [e];exact ih (by simpa using h)
set_option maxRecDepth 8000 in
set_option maxHeartbeats 2000000 in
theorem eqAreas (base base':Nat) (v v':Value) (l:List Ar) (w:World) (h:AreasAt w base v l.length (flatA l)) (h':AreasAt w base' v' l.length (flatA l)) :
  Calls Tryz.prog 13 #[v,v'] w fun e w'=>e=.returned (.bool true)∧Ext w w':=by
 obtain ⟨_,hn,p,cap,rfl,hp⟩:=h;obtain ⟨_,_,p',cap',rfl,hp'⟩:=h';obtain ⟨n,hN⟩:∃ n,l.length=n:=⟨_,rfl⟩;rw [hN] at hn hp hp' ⊢;have H1:Hid (l.length=n):=hN;have H2:Hid (0<n→∃ g,p=some ⟨g,0,none⟩∧base≤g∧g<w.heap.size∧Vec w g (flatA l)):=hp;have H3:Hid (0<n→∃ g,p'=some ⟨g,0,none⟩∧base'≤g∧g<w.heap.size∧Vec w g (flatA l)):=hp';clear hN hp hp';go_enter Tryz.func13,Tryz.ntmps13;go_wp2_with fail;go_loopw [5] (fun i wr=>∃ k:Nat,k≤n∧i=.int .i64 k∧Ext w wr) (fun i _=>n - (intOf i).toNat)
 case atStart=>exact ⟨0,by omega,rfl,xr _⟩
 case round =>
  obtain ⟨k,hk,rfl,X⟩:=hrel;by_cases hlt:k<n
  ·obtain ⟨g,rfl,_,_,V⟩:=H2.out (by omega);obtain ⟨g',rfl,_,_,V'⟩:=H3.out (by omega);have V:=V.later X;have V':=V'.later X;obtain ⟨x,hx⟩:∃ x,l[k]?=some x:=⟨_,List.getElem?_eq_getElem (by rw [H1.out];exact hlt)⟩;have F:=fun j hj=>flatA_at hx j hj;clear H1 H2 H3 hx;obtain ⟨r,c,r',c'⟩:=x;have a0:=(V (k * 8+0) _ (F 0 (by omega))).1;have a1:=(V (k * 8+1) _ (F 1 (by omega))).1;have a2:=(V (k * 8+2) _ (F 2 (by omega))).1;have a3:=(V (k * 8+3) _ (F 3 (by omega))).1;have a4:=(V (k * 8+4) _ (F 4 (by omega))).1;have a5:=(V (k * 8+5) _ (F 5 (by omega))).1;have a6:=(V (k * 8+6) _ (F 6 (by omega))).1;have a7:=(V (k * 8+7) _ (F 7 (by omega))).1;have b0:=(V' (k * 8+0) _ (F 0 (by omega))).1;have b1:=(V' (k * 8+1) _ (F 1 (by omega))).1;have b2:=(V' (k * 8+2) _ (F 2 (by omega))).1;have b3:=(V' (k * 8+3) _ (F 3 (by omega))).1;have b4:=(V' (k * 8+4) _ (F 4 (by omega))).1;have b5:=(V' (k * 8+5) _ (F 5 (by omega))).1;have b6:=(V' (k * 8+6) _ (F 6 (by omega))).1;have b7:=(V' (k * 8+7) _ (F 7 (by omega))).1;simp only [Nat.add_zero] at a0 b0;have i1:(0:Int)≤(k:Int):=by omega
   have i2:(k:Int)<(n:Int):=by omega
   clear F V V';go_wp2_with fail;go_region_held3 (fun w'=>(w'.cell? ⟨g,k * 8,none⟩=some (.int .i64 r)∧w'.cell? ⟨g,k * 8+1,none⟩=some (.int .i64 c)∧w'.cell? ⟨g,k * 8+2,none⟩=some (.bool false)∧w'.cell? ⟨g,k * 8+3,none⟩=some (.bool false)∧w'.cell? ⟨g,k * 8+4,none⟩=some (.int .i64 r')∧w'.cell? ⟨g,k * 8+5,none⟩=some (.int .i64 c')∧w'.cell? ⟨g,k * 8+6,none⟩=some (.bool false)∧w'.cell? ⟨g,k * 8+7,none⟩=some (.bool false))∧w'.cell? ⟨g',k * 8,none⟩=some (.int .i64 r)∧w'.cell? ⟨g',k * 8+1,none⟩=some (.int .i64 c)∧w'.cell? ⟨g',k * 8+2,none⟩=some (.bool false)∧w'.cell? ⟨g',k * 8+3,none⟩=some (.bool false)∧w'.cell? ⟨g',k * 8+4,none⟩=some (.int .i64 r')∧w'.cell? ⟨g',k * 8+5,none⟩=some (.int .i64 c')∧w'.cell? ⟨g',k * 8+6,none⟩=some (.bool false)∧w'.cell? ⟨g',k * 8+7,none⟩=some (.bool false)) (go_keep) (first
    | (go_at_call 32;refine (eqArea_same _ _ _ _ _ _ _ _ _).mono ?_;rintro e w1 ⟨rfl,e1⟩;have X1:Ext wr w1:=(by first | exact xt (xd (xr _)) e1 | exact e1);have a0:=cell_later X1 a0;have a1:=cell_later X1 a1;have a2:=cell_later X1 a2;have a3:=cell_later X1 a3;have a4:=cell_later X1 a4;have a5:=cell_later X1 a5;have a6:=cell_later X1 a6;have a7:=cell_later X1 a7;have b0:=cell_later X1 b0;have b1:=cell_later X1 b1;have b2:=cell_later X1 b2;have b3:=cell_later X1 b3;have b4:=cell_later X1 b4;have b5:=cell_later X1 b5;have b6:=cell_later X1 b6;have b7:=cell_later X1 b7))
   go_wp2_with fail;go_roundw
   case rel=>exact ⟨k+1,by omega,by go_num,xt X X1⟩
   case measure=>simp [intOf];omega
  ·obtain rfl:k=n:=by omega
   go_wp2_with fail;go_ret;exact ⟨rfl,X⟩
def markC (m:Int):List Value:=
 [.int .i64 m,.int .i64 (m+1),.bool ((m+1+1) % 3 == 0),.bool ((m+1+1+1) % 3 == 0),.int .i64 (m+1+1+1+1),.int .i64 (m+1+1+1+1+1),.bool ((m+1+1+1+1+1+1) % 3 == 0),.bool ((m+1+1+1+1+1+1+1) % 3 == 0)]
def Marked (M:List Value) (n:Nat):Prop:=∀ i,i<n→∀ j,j<8→M[i * 8+j]?=(markC ((1+i * 8:Nat):Int))[j]?
def put8L (M:List Value) (o:Nat) (u0 u1 u2 u3 u4 u5 u6 u7:Value):List Value:=
 (((((((M.set o u0).set (o+1) u1).set (o+2) u2).set (o+3) u3).set (o+4) u4).set (o+4+1) u5).set (o+4+2) u6).set (o+4+3) u7
theorem put8L_length (M:List Value) (o:Nat) (u0 u1 u2 u3 u4 u5 u6 u7:Value):(put8L M o u0 u1 u2 u3 u4 u5 u6 u7).length=M.length:=by simp [put8L]
theorem put8L_far (M:List Value) (o:Nat) (u0 u1 u2 u3 u4 u5 u6 u7:Value) {i:Nat} (h:i<o):(put8L M o u0 u1 u2 u3 u4 u5 u6 u7)[i]?=M[i]?:=by
 unfold put8L;rw [List.getElem?_set_ne (by omega),List.getElem?_set_ne (by omega),List.getElem?_set_ne (by omega),List.getElem?_set_ne (by omega),List.getElem?_set_ne (by omega),List.getElem?_set_ne (by omega),List.getElem?_set_ne (by omega),List.getElem?_set_ne (by omega)]
theorem put8L_at (M:List Value) (o:Nat) (u0 u1 u2 u3 u4 u5 u6 u7:Value) (hM:o+8≤M.length) (j:Nat) (hj:j<8):(put8L M o u0 u1 u2 u3 u4 u5 u6 u7)[o+j]?=[u0,u1,u2,u3,u4,u5,u6,u7][j]?:=by
 unfold put8L
 match j,hj with
 | 0,_=>rw [List.getElem?_set_ne (by omega),List.getElem?_set_ne (by omega),List.getElem?_set_ne (by omega),List.getElem?_set_ne (by omega),List.getElem?_set_ne (by omega),List.getElem?_set_ne (by omega),List.getElem?_set_ne (by omega)];exact List.getElem?_set_self (by omega)
 | 1,_=>rw [List.getElem?_set_ne (by omega),List.getElem?_set_ne (by omega),List.getElem?_set_ne (by omega),List.getElem?_set_ne (by omega),List.getElem?_set_ne (by omega),List.getElem?_set_ne (by omega)];exact List.getElem?_set_self (by simp;omega)
 | 2,_=>rw [List.getElem?_set_ne (by omega),List.getElem?_set_ne (by omega),List.getElem?_set_ne (by omega),List.getElem?_set_ne (by omega),List.getElem?_set_ne (by omega)];exact List.getElem?_set_self (by simp;omega)
 | 3,_=>rw [List.getElem?_set_ne (by omega),List.getElem?_set_ne (by omega),List.getElem?_set_ne (by omega),List.getElem?_set_ne (by omega)];exact List.getElem?_set_self (by simp;omega)
 | 4,_=>rw [List.getElem?_set_ne (by omega),List.getElem?_set_ne (by omega),List.getElem?_set_ne (by omega)];exact List.getElem?_set_self (by simp;omega)
 | 5,_=>rw [List.getElem?_set_ne (by omega),List.getElem?_set_ne (by omega)];exact List.getElem?_set_self (by simp;omega)
 | 6,_=>rw [List.getElem?_set_ne (by omega)];exact List.getElem?_set_self (by simp;omega)
 | 7,_=>exact List.getElem?_set_self (by simp;omega)
theorem Marked.next {M:List Value} {k n:Nat} (h:Marked M k) (hM:M.length=n * 8) (hk:k<n) (m:Int) (hm:((1+k * 8:Nat):Int)=m) :
  Marked (put8L M (k * 8) (.int .i64 m) (.int .i64 (m+1)) (.bool ((m+1+1) % 3 == 0)) (.bool ((m+1+1+1) % 3 == 0)) (.int .i64 (m+1+1+1+1)) (.int .i64 (m+1+1+1+1+1)) (.bool ((m+1+1+1+1+1+1) % 3 == 0)) (.bool ((m+1+1+1+1+1+1+1) % 3 == 0))) (k+1):=by
 intro i hi j hj;by_cases e:i=k
 ·subst e;rw [put8L_at _ _ _ _ _ _ _ _ _ _ (by omega) j hj,hm];rfl
 ·rw [put8L_far _ _ _ _ _ _ _ _ _ _ (by omega)];exact h i (by omega) j hj
set_option maxRecDepth 8000 in
set_option maxHeartbeats 2000000 in
theorem markAreas (base:Nat) (v:Value) (n:Nat) (L:List Value) (w:World) (h:AreasAt w base v n L) :
  Calls Tryz.prog 15 #[v,.int .i64 1] w fun e w'=>e=.returned (.int .i64 ((1+n * 8:Nat):Int))∧(∃ M,AreasAt w' base v n M∧Marked M n)∧Below base w w':=by
 obtain ⟨hL,hn,p,cap,rfl,hp⟩:=h;have H1:Hid (L.length=n * 8):=hL;have H2:Hid (0<n→∃ g,p=some ⟨g,0,none⟩∧base≤g∧g<w.heap.size∧Vec w g L):=hp;clear hL hp;go_enter Tryz.func15,Tryz.ntmps15;go_wp2_with fail;go_loopw [1,5] (fun q i wr=>∃ k:Nat,k≤n∧i=.int .i64 k∧q=.int .i64 ((1+k * 8:Nat):Int)∧Hid (0<n→∃ (g:Nat) (M:List Value),p=some ⟨g,0,none⟩∧base≤g∧g<wr.heap.size∧M.length=n * 8∧Marked M k∧Vec wr g M)∧Below base w wr) (fun _ i _=>n - (intOf i).toNat)
 case atStart=>exact ⟨0,by omega,rfl,rfl,fun h0=>by obtain ⟨g,hg,hb,hs,V⟩:=H2.out h0;exact ⟨g,L,hg,hb,hs,H1.out,fun i hi=>absurd hi (by omega),V⟩,Below.refl _ _⟩
 case round =>
  obtain ⟨k,hk,rfl,rfl,H,X⟩:=hrel;by_cases hlt:k<n
  ·obtain ⟨g,M,rfl,hb,hs,hM,hK,V⟩:=H.out (by omega);have HK:Hid (Marked M k):=hK;clear H1 H2 H hK;obtain ⟨m,hm⟩:∃ m:Nat,1+k * 8=m:=⟨_,rfl⟩;have hm':m≤10000:=by omega
   rw [hm];have v0:=V (k * 8+0) _ (List.getElem?_eq_getElem (by omega));have v1:=V (k * 8+1) _ (List.getElem?_eq_getElem (by omega));have v2:=V (k * 8+2) _ (List.getElem?_eq_getElem (by omega));have v3:=V (k * 8+3) _ (List.getElem?_eq_getElem (by omega));have v4:=V (k * 8+4) _ (List.getElem?_eq_getElem (by omega));have v5:=V (k * 8+5) _ (List.getElem?_eq_getElem (by omega));have v6:=V (k * 8+6) _ (List.getElem?_eq_getElem (by omega));have v7:=V (k * 8+7) _ (List.getElem?_eq_getElem (by omega));simp only [Nat.add_zero] at v0;obtain ⟨a0,f0⟩:=v0;obtain ⟨a1,f1⟩:=v1;obtain ⟨a2,f2⟩:=v2;obtain ⟨a3,f3⟩:=v3;obtain ⟨a4,f4⟩:=v4;obtain ⟨a5,f5⟩:=v5;obtain ⟨a6,f6⟩:=v6;obtain ⟨a7,f7⟩:=v7;have i1:(0:Int)≤(k:Int):=by omega
   have i2:(k:Int)<(n:Int):=by omega
   have V':Hid (Vec wr g M):=V;clear V;go_wp2_with fail;refine ⟨⟨k+1,by omega,by go_num,by go_num,fun _=>⟨g,_,rfl,hb,?_,?_,HK.out.next hM hlt (m:Int) (by omega),?_⟩,?_⟩,by simp [intOf];omega⟩
   ·simp only [World.size_setCell];exact hs
   ·rw [put8L_length];exact hM
   ·have P:=V'.out;exact (((((((P.put (k * 8) (by omega) _).put (k * 8+1) (by simp;omega) _).put (k * 8+2) (by simp;omega) _).put (k * 8+3) (by simp;omega) _).put (k * 8+4) (by simp;omega) _).put (k * 8+4+1) (by simp;omega) _).put (k * 8+4+2) (by simp;omega) _).put (k * 8+4+3) (by simp;omega) _
   ·exact (((((((X.setCell (p:=⟨g,_,none⟩) hb _).setCell (p:=⟨g,_,none⟩) hb _).setCell (p:=⟨g,_,none⟩) hb _).setCell (p:=⟨g,_,none⟩) hb _).setCell (p:=⟨g,_,none⟩) hb _).setCell (p:=⟨g,_,none⟩) hb _).setCell (p:=⟨g,_,none⟩) hb _).setCell (p:=⟨g,_,none⟩) hb _
  ·obtain rfl:k=n:=by omega
   go_wp2_with fail;go_ret;refine ⟨rfl,?_,X⟩;by_cases h0:0<k
   ·obtain ⟨g,M,rfl,hb,hs,hM,hK,V⟩:=H.out h0;exact ⟨M,⟨hM,hn,_,cap,rfl,fun _=>⟨g,rfl,hb,hs,V⟩⟩,hK⟩
   ·exact ⟨L,⟨H1.out,hn,_,cap,rfl,fun h=>absurd h h0⟩,fun i hi=>absurd hi (by omega)⟩
set_option maxRecDepth 8000 in
set_option maxHeartbeats 2000000 in
theorem heldAreas (base:Nat) (v:Value) (n:Nat) (M:List Value) (w:World) (h:AreasAt w base v n M) (hM:Marked M n) :
  Calls Tryz.prog 16 #[v,.int .i64 1] w fun e w'=>e=.returned (.int .i64 ((1+n * 8:Nat):Int))∧w'=w:=by
 obtain ⟨hL,hn,p,cap,rfl,hp⟩:=h;have H1:Hid (Marked M n):=hM;have H2:Hid (0<n→∃ g,p=some ⟨g,0,none⟩∧base≤g∧g<w.heap.size∧Vec w g M):=hp;clear hL hp hM;go_enter Tryz.func16,Tryz.ntmps16;go_wp2_with fail
 go_loop [1,5] (fun q i=>∃ k:Nat,k≤n∧i=.int .i64 k∧q=.int .i64 ((1+k * 8:Nat):Int)) (fun _ i=>n - (intOf i).toNat)
 case atStart=>exact ⟨0,by omega,rfl,rfl⟩
 case round =>
  obtain ⟨k,hk,rfl,rfl⟩:=hrel;by_cases hlt:k<n
  ·obtain ⟨g,rfl,hb,hs,V⟩:=H2.out (by omega);have F:=H1.out k hlt;clear H1 H2;obtain ⟨m,hm⟩:∃ m:Nat,1+k * 8=m:=⟨_,rfl⟩;have hm':m≤10000:=by omega
   rw [hm] at F ⊢;have a0:=(V (k * 8+0) _ (F 0 (by omega))).1;have a1:=(V (k * 8+1) _ (F 1 (by omega))).1;have a2:=(V (k * 8+2) _ (F 2 (by omega))).1;have a3:=(V (k * 8+3) _ (F 3 (by omega))).1;have a4:=(V (k * 8+4) _ (F 4 (by omega))).1;have a5:w.cell? ⟨g,k * 8+4+1,none⟩=_:=(V (k * 8+5) _ (F 5 (by omega))).1;have a6:w.cell? ⟨g,k * 8+4+2,none⟩=_:=(V (k * 8+6) _ (F 6 (by omega))).1;have a7:w.cell? ⟨g,k * 8+4+3,none⟩=_:=(V (k * 8+7) _ (F 7 (by omega))).1;simp only [Nat.add_zero] at a0;have i1:(0:Int)≤(k:Int):=by omega
   have i2:(k:Int)<(n:Int):=by omega
   clear F V;go_wp2_with fail;exact ⟨⟨k+1,by omega,by go_num,by go_num⟩,by simp [intOf];omega⟩
  ·obtain rfl:k=n:=by omega
   go_wp2_with fail;go_ret;exact ⟨rfl,rfl⟩
abbrev spV (a b:Int):Value:=.agg #[.int .i64 a,.int .i64 b]
abbrev blV (a b c d:Int):Value:=.agg #[.int .i64 a,.int .i64 b,.int .i64 c,.int .i64 d]
set_option maxRecDepth 8000 in
set_option maxHeartbeats 1000000 in
theorem blockArea (a b c d:Int) (w:World) :
  Calls Tryz.prog 30 #[blV a b c d] w fun e w'=>e=.returned (arV a c false false b d false false)∧Ext w w':=by
 go_enter Tryz.func30,Tryz.ntmps30
 go_wp2
 exact bodyPost_ret (v:=arV a c false false b d false false) (by simp [results,Tryz.results30,go_sem]) rfl ⟨rfl,xa (x1 _ _) _⟩
set_option maxRecDepth 8000 in
set_option maxHeartbeats 1000000 in
theorem blockOf (r c:Int) (rf cf:Bool) (r' c':Int) (rf' cf':Bool) (w:World) (hg:goodAB r c r' c'=true) :
  Calls Tryz.prog 29 #[arV r c rf cf r' c' rf' cf'] w fun e w'=>e=.returned (blV (lo r r') (hi r r') (lo c c') (hi c c'))∧Ext w w':=by
 have N:=fun w=>normalI_good r c rf cf r' c' rf' cf' w hg;have B2:=Vec.made4 (w.alloc (.cells #[.int .i64 r,.int .i64 c,.bool rf,.bool cf,.int .i64 r',.int .i64 c',.bool rf',.bool cf'] 61)) (.int .i64 0) (.int .i64 0) (.int .i64 0) (.int .i64 0) 69;have X:=xa (x1 w (.cells #[.int .i64 r,.int .i64 c,.bool rf,.bool cf,.int .i64 r',.int .i64 c',.bool rf',.bool cf'] 61)) (.cells #[.int .i64 0,.int .i64 0,.int .i64 0,.int .i64 0] 69);rw [World.size_alloc] at B2;obtain ⟨n1,h1⟩:∃ n,lo r r'=n:=⟨_,rfl⟩;obtain ⟨n2,h2⟩:∃ n,lo c c'=n:=⟨_,rfl⟩;obtain ⟨n3,h3⟩:∃ n,loF r r' rf rf'=n:=⟨_,rfl⟩;obtain ⟨n4,h4⟩:∃ n,loF c c' cf cf'=n:=⟨_,rfl⟩;obtain ⟨n5,h5⟩:∃ n,hi r r'=n:=⟨_,rfl⟩;obtain ⟨n6,h6⟩:∃ n,hi c c'=n:=⟨_,rfl⟩;obtain ⟨n7,h7⟩:∃ n,hiF r r' rf rf'=n:=⟨_,rfl⟩;obtain ⟨n8,h8⟩:∃ n,hiF c c' cf cf'=n:=⟨_,rfl⟩;simp only [norV,h1,h2,h3,h4,h5,h6,h7,h8] at N ⊢;clear h1 h2 h3 h4 h5 h6 h7 h8 hg;go_enter Tryz.func29,Tryz.ntmps29;go_wp2_with fail;refine (N _).mono ?_;rintro e w1 ⟨rfl,e1⟩;have C2:=B2.later e1;have Y:=xt X e1;clear B2 X e1 N;obtain ⟨w2,h2⟩:∃ w2,w1.alloc (.cells #[.int .i64 n1,.int .i64 n2,.bool n3,.bool n4,.int .i64 n5,.int .i64 n6,.bool n7,.bool n8] 61)=w2:=⟨_,rfl⟩;have P:=Vec.made8 w1 (.int .i64 n1) (.int .i64 n2) (.bool n3) (.bool n4) (.int .i64 n5) (.int .i64 n6) (.bool n7) (.bool n8) 61;have x2:=x1 w1 (.cells #[.int .i64 n1,.int .i64 n2,.bool n3,.bool n4,.int .i64 n5,.int .i64 n6,.bool n7,.bool n8] 61);rw [h2] at P x2;have D2:=C2.later x2;have Z:=Ext.set4 (b:=w.heap.size+1) (o:=0) (xt Y x2) (by omega) (.int .i64 n1) (.int .i64 n5) (.int .i64 n2) (.int .i64 n6);obtain ⟨⟨⟨a0,a1,a2,a3⟩,a4,a5,a6,a7⟩,_⟩:=P.box8;obtain ⟨⟨m0,m1,m2,m3⟩,f0,f1,f2,f3⟩:=D2.box4;clear P D2 C2 Y x2;go_wp2_with fail;exact bodyPost_ret (v:=blV n1 n5 n2 n6) (by simp [results,Tryz.results29,go_sem,m0,m1,m2,m3]) rfl ⟨rfl,Z⟩
set_option maxHeartbeats 400000 in
theorem maxS (a b:Int) (w:World) :
  Calls Tryz.prog 50 #[.int .i64 a,.int .i64 b] w fun e w'=>e=.returned (.int .i64 (hi a b))∧w'=w:=by
 go_enter Tryz.func50,Tryz.ntmps50
 go_wp2
 all_goals go_ret
 all_goals exact ⟨ret_int (by unfold hi;split <;> omega),rfl⟩
set_option maxHeartbeats 400000 in
theorem minS (a b:Int) (w:World) :
  Calls Tryz.prog 49 #[.int .i64 a,.int .i64 b] w fun e w'=>e=.returned (.int .i64 (lo a b))∧w'=w:=by
 go_enter Tryz.func49,Tryz.ntmps49
 go_wp2
 all_goals go_ret
 all_goals exact ⟨ret_int (by unfold lo;split <;> omega),rfl⟩
set_option maxRecDepth 8000 in
set_option maxHeartbeats 400000 in
theorem areaS (a b c d:Int) (w:World) :
  Calls Tryz.prog 48 #[.int .i64 a,.int .i64 b,.int .i64 c,.int .i64 d] w fun e w'=>e=.returned (arV a b false false c d false false)∧Ext w w':=by
 go_enter Tryz.func48,Tryz.ntmps48
 go_wp2
 exact bodyPost_ret (v:=arV a b false false c d false false) (by simp [results,Tryz.results48,go_sem]) rfl ⟨rfl,x1 _ _⟩
def hullB (r c r' c' s d s' d':Int):Value:=
 if goodAB r c r' c'=true∧goodAB s d s' d'=true then arV (lo (lo r r') (lo s s')) (lo (lo c c') (lo d d')) false false (hi (hi r r') (hi s s')) (hi (hi c c') (hi d d')) false false else arV 0 0 false false 0 0 false false
set_option maxRecDepth 8000 in
set_option maxHeartbeats 4000000 in
theorem hullS (r c:Int) (f g:Bool) (r' c':Int) (f' g':Bool) (s d:Int) (h k:Bool) (s' d':Int) (h' k':Bool) (w:World) :
  Calls Tryz.prog 27 #[arV r c f g r' c' f' g',arV s d h k s' d' h' k'] w fun e w'=>e=.returned (hullB r c r' c' s d s' d')∧Ext w w':=by
 have B1:=Vec.made8 w (.int .i64 r) (.int .i64 c) (.bool f) (.bool g) (.int .i64 r') (.int .i64 c') (.bool f') (.bool g') 61;have X1:=x1 w (.cells #[.int .i64 r,.int .i64 c,.bool f,.bool g,.int .i64 r',.int .i64 c',.bool f',.bool g'] 61);obtain ⟨wa,ha⟩:∃ wa,w.alloc (.cells #[.int .i64 r,.int .i64 c,.bool f,.bool g,.int .i64 r',.int .i64 c',.bool f',.bool g'] 61)=wa:=⟨_,rfl⟩;have B2:=Vec.made8 wa (.int .i64 s) (.int .i64 d) (.bool h) (.bool k) (.int .i64 s') (.int .i64 d') (.bool h') (.bool k') 61;have X2:=x1 wa (.cells #[.int .i64 s,.int .i64 d,.bool h,.bool k,.int .i64 s',.int .i64 d',.bool h',.bool k'] 61);obtain ⟨wb,hb⟩:∃ wb,wa.alloc (.cells #[.int .i64 s,.int .i64 d,.bool h,.bool k,.int .i64 s',.int .i64 d',.bool h',.bool k'] 61)=wb:=⟨_,rfl⟩;have sa:wa.heap.size=w.heap.size+1:=by rw [← ha,World.size_alloc]
 have sb:wb.heap.size=w.heap.size+1+1:=by rw [← hb,World.size_alloc,sa]
 rw [ha] at X1 B1;rw [hb] at X2 B2;rw [sa] at B2;have B3:=Vec.made8 wb (.int .i64 0) (.int .i64 0) (.bool false) (.bool false) (.int .i64 0) (.int .i64 0) (.bool false) (.bool false) 61;have X3:=x1 wb (.cells #[.int .i64 0,.int .i64 0,.bool false,.bool false,.int .i64 0,.int .i64 0,.bool false,.bool false] 61);obtain ⟨wc,hc0⟩:∃ wc,wb.alloc (.cells #[.int .i64 0,.int .i64 0,.bool false,.bool false,.int .i64 0,.int .i64 0,.bool false,.bool false] 61)=wc:=⟨_,rfl⟩;rw [sb] at B3;have X:=xt (xt X1 X2) X3;have B1:=(B1.later X2).later X3;have B2:=B2.later X3;rw [hc0] at B1 B2 B3 X;clear X1 X2 X3;obtain ⟨⟨⟨a0,a1,a2,a3⟩,a4,a5,a6,a7⟩,_⟩:=B1.box8;have G1:=fun w=>goodAS r c f g r' c' f' g' w;have G2:=fun w=>goodAS s d h k s' d' h' k' w;go_enter Tryz.func27,Tryz.ntmps27;go_wp2_with fail;clear a0 a1 a2 a3 a4 a5 a6 a7 ha hb hc0 sa sb;refine (G1 _).mono ?_;rintro e w1 ⟨rfl,e1⟩;have B1:=B1.later e1;have B2:=B2.later e1;have B3:=B3.later e1;have X:=xt X e1;clear G1 e1;obtain ⟨⟨⟨a0,a1,a2,a3⟩,a4,a5,a6,a7⟩,_⟩:=B1.box8;obtain ⟨⟨⟨b0,b1,b2,b3⟩,b4,b5,b6,b7⟩,_⟩:=B2.box8;by_cases hA:goodAB r c r' c'=true
 ·rw [hA];go_wp2_with fail;refine (G2 _).mono ?_;rintro e w2 ⟨rfl,e2⟩;have B1:=B1.later e2;have B2:=B2.later e2;have B3:=B3.later e2;have X:=xt X e2;clear G2 e2 a0 a1 a2 a3 a4 a5 a6 a7 b0 b1 b2 b3 b4 b5 b6 b7;by_cases hB:goodAB s d s' d'=true
  ·rw [hB];have HB:Hid (hullB r c r' c' s d s' d'=arV (lo (lo r r') (lo s s')) (lo (lo c c') (lo d d')) false false (hi (hi r r') (hi s s')) (hi (hi c c') (hi d d')) false false):=by show _=_;unfold hullB;rw [if_pos ⟨hA,hB⟩]
   have N1:=fun w=>l3Normal r c f g r' c' f' g' w;have N2:=fun w=>l3Normal s d h k s' d' h' k' w;simp only [norV] at N1 N2;obtain ⟨⟨⟨a0,a1,a2,a3⟩,a4,a5,a6,a7⟩,_⟩:=B1.box8;clear hA hB;go_wp2_with fail;refine (N1 _).mono ?_;rintro e w3 ⟨rfl,e3⟩;have B1:=B1.later e3;have B2:=B2.later e3;have B3:=B3.later e3;have X:=xt X e3;clear a0 a1 a2 a3 a4 a5 a6 a7 e3 N1;obtain ⟨w4,hw4⟩:∃ wy,set8 w3 (w.heap.size) (.int .i64 (lo r r')) (.int .i64 (lo c c')) (.bool (loF r r' f f')) (.bool (loF c c' g g')) (.int .i64 (hi r r')) (.int .i64 (hi c c')) (.bool (hiF r r' f f')) (.bool (hiF c c' g g'))=wy:=⟨_,rfl⟩;obtain ⟨⟨⟨k0,k1,k2,k3⟩,k4,k5,k6,k7⟩,⟨f0,f1,f2,f3⟩,f4,f5,f6,f7⟩:=B1.box8;have B1:=B1.put8 (.int .i64 (lo r r')) (.int .i64 (lo c c')) (.bool (loF r r' f f')) (.bool (loF c c' g g')) (.int .i64 (hi r r')) (.int .i64 (hi c c')) (.bool (hiF r r' f f')) (.bool (hiF c c' g g'));have B2:=B2.far8 (k:=w.heap.size) (by omega) (.int .i64 (lo r r')) (.int .i64 (lo c c')) (.bool (loF r r' f f')) (.bool (loF c c' g g')) (.int .i64 (hi r r')) (.int .i64 (hi c c')) (.bool (hiF r r' f f')) (.bool (hiF c c' g g'));have B3:=B3.far8 (k:=w.heap.size) (by omega) (.int .i64 (lo r r')) (.int .i64 (lo c c')) (.bool (loF r r' f f')) (.bool (loF c c' g g')) (.int .i64 (hi r r')) (.int .i64 (hi c c')) (.bool (hiF r r' f f')) (.bool (hiF c c' g g'));have X:=Ext.set8 (b:=w.heap.size) X (by omega) (.int .i64 (lo r r')) (.int .i64 (lo c c')) (.bool (loF r r' f f')) (.bool (loF c c' g g')) (.int .i64 (hi r r')) (.int .i64 (hi c c')) (.bool (hiF r r' f f')) (.bool (hiF c c' g g'));rw [hw4] at B1 B2 B3 X;unfold set8 set4 at hw4;obtain ⟨⟨⟨a0,a1,a2,a3⟩,a4,a5,a6,a7⟩,_⟩:=B2.box8;go_wp2_with fail;refine (N2 _).mono ?_;rintro e w5 ⟨rfl,e5⟩;have B1:=B1.later e5;have B2:=B2.later e5;have B3:=B3.later e5;have X:=xt X e5;clear a0 a1 a2 a3 a4 a5 a6 a7 e5 N2 hw4 k0 k1 k2 k3 k4 k5 k6 k7 f0 f1 f2 f3 f4 f5 f6 f7;obtain ⟨w6,hw6⟩:∃ wy,set8 w5 (w.heap.size+1) (.int .i64 (lo s s')) (.int .i64 (lo d d')) (.bool (loF s s' h h')) (.bool (loF d d' k k')) (.int .i64 (hi s s')) (.int .i64 (hi d d')) (.bool (hiF s s' h h')) (.bool (hiF d d' k k'))=wy:=⟨_,rfl⟩;obtain ⟨⟨⟨k0,k1,k2,k3⟩,k4,k5,k6,k7⟩,⟨f0,f1,f2,f3⟩,f4,f5,f6,f7⟩:=B2.box8;have B2:=B2.put8 (.int .i64 (lo s s')) (.int .i64 (lo d d')) (.bool (loF s s' h h')) (.bool (loF d d' k k')) (.int .i64 (hi s s')) (.int .i64 (hi d d')) (.bool (hiF s s' h h')) (.bool (hiF d d' k k'));have B1:=B1.far8 (k:=w.heap.size+1) (by omega) (.int .i64 (lo s s')) (.int .i64 (lo d d')) (.bool (loF s s' h h')) (.bool (loF d d' k k')) (.int .i64 (hi s s')) (.int .i64 (hi d d')) (.bool (hiF s s' h h')) (.bool (hiF d d' k k'));have B3:=B3.far8 (k:=w.heap.size+1) (by omega) (.int .i64 (lo s s')) (.int .i64 (lo d d')) (.bool (loF s s' h h')) (.bool (loF d d' k k')) (.int .i64 (hi s s')) (.int .i64 (hi d d')) (.bool (hiF s s' h h')) (.bool (hiF d d' k k'));have X:=Ext.set8 (b:=w.heap.size+1) X (by omega) (.int .i64 (lo s s')) (.int .i64 (lo d d')) (.bool (loF s s' h h')) (.bool (loF d d' k k')) (.int .i64 (hi s s')) (.int .i64 (hi d d')) (.bool (hiF s s' h h')) (.bool (hiF d d' k k'));rw [hw6] at B2 B1 B3 X;unfold set8 set4 at hw6;have Y:=xr w6;go_upto_region 5 with fail;clear hw6 k0 k1 k2 k3 k4 k5 k6 k7 f0 f1 f2 f3 f4 f5 f6 f7;obtain ⟨⟨⟨a0,a1,a2,a3⟩,a4,a5,a6,a7⟩,_⟩:=B1.box8;obtain ⟨⟨⟨b0,b1,b2,b3⟩,b4,b5,b6,b7⟩,_⟩:=B2.box8;obtain ⟨⟨⟨m0,m1,m2,m3⟩,m4,m5,m6,m7⟩,⟨f0,f1,f2,f3⟩,f4,f5,f6,f7⟩:=B3.box8;have n1:(w.heap.size=w.heap.size+1+1)=False:=eq_false (by omega);have n2:(w.heap.size+1+1=w.heap.size)=False:=eq_false (by omega);have n3:(w.heap.size+1+1=w.heap.size+1)=False:=eq_false (by omega);go_region_held3 (fun w'=>(w'.cell? ⟨w.heap.size,0,none⟩=some (.int .i64 (lo r r'))∧w'.cell? ⟨w.heap.size,1,none⟩=some (.int .i64 (lo c c'))∧w'.cell? ⟨w.heap.size,4,none⟩=some (.int .i64 (hi r r'))∧w'.cell? ⟨w.heap.size,5,none⟩=some (.int .i64 (hi c c')))∧w'.cell? ⟨w.heap.size+1,0,none⟩=some (.int .i64 (lo s s'))∧w'.cell? ⟨w.heap.size+1,1,none⟩=some (.int .i64 (lo d d'))∧w'.cell? ⟨w.heap.size+1,4,none⟩=some (.int .i64 (hi s s'))∧w'.cell? ⟨w.heap.size+1,5,none⟩=some (.int .i64 (hi d d'))) (go_keep) (first
    | (go_at_call 50;refine (maxS _ _ _).mono ?_;rintro e w' ⟨rfl,rfl⟩)
    | (go_at_call 49;refine (minS _ _ _).mono ?_;rintro e w' ⟨rfl,rfl⟩)
    | (go_at_call 48;refine (areaS _ _ _ _ _).mono ?_;rintro e w7 ⟨rfl,e7⟩;have Y:Ext w6 w7:=(by first | exact xt Y e7 | exact xt (xd Y) e7);obtain ⟨⟨⟨a0,a1,a2,a3⟩,a4,a5,a6,a7⟩,_⟩:=(B1.later Y).box8;obtain ⟨⟨⟨b0,b1,b2,b3⟩,b4,b5,b6,b7⟩,_⟩:=(B2.later Y).box8;obtain ⟨⟨⟨m0,m1,m2,m3⟩,m4,m5,m6,m7⟩,⟨f0,f1,f2,f3⟩,f4,f5,f6,f7⟩:=(B3.later Y).box8))
   all_goals
    obtain ⟨wy,hy⟩:∃ wy,set8 w7 (w.heap.size+1+1) (.int .i64 (lo (lo r r') (lo s s'))) (.int .i64 (lo (lo c c') (lo d d'))) (.bool false) (.bool false) (.int .i64 (hi (hi r r') (hi s s'))) (.int .i64 (hi (hi c c') (hi d d'))) (.bool false) (.bool false)=wy:=⟨_,rfl⟩;have GR:=(B3.later Y).put8 (.int .i64 (lo (lo r r') (lo s s'))) (.int .i64 (lo (lo c c') (lo d d'))) (.bool false) (.bool false) (.int .i64 (hi (hi r r') (hi s s'))) (.int .i64 (hi (hi c c') (hi d d'))) (.bool false) (.bool false);have GZ:=Ext.set8 (b:=w.heap.size+1+1) (xt X Y) (by omega) (.int .i64 (lo (lo r r') (lo s s'))) (.int .i64 (lo (lo c c') (lo d d'))) (.bool false) (.bool false) (.int .i64 (hi (hi r r') (hi s s'))) (.int .i64 (hi (hi c c') (hi d d'))) (.bool false) (.bool false);rw [hy] at GR GZ;unfold set8 set4 at hy;simp only [Nat.zero_add,Nat.reduceAdd] at hy;rw [hy];clear hy;obtain ⟨⟨⟨d0,d1,d2,d3⟩,d4,d5,d6,d7⟩,_⟩:=GR.box8;go_wp2_with fail;exact bodyPost_ret (v:=arV (lo (lo r r') (lo s s')) (lo (lo c c') (lo d d')) false false (hi (hi r r') (hi s s')) (hi (hi c c') (hi d d')) false false) (by simp [results,Tryz.results27,go_sem,d0,d1,d2,d3,d4,d5,d6,d7]) rfl ⟨by rw [HB.out],GZ⟩
  ·have hB':goodAB s d s' d'=false:=by simpa using hB
   rw [hB'];have HB:Hid (hullB r c r' c' s d s' d'=arV 0 0 false false 0 0 false false):=by show _=_;unfold hullB;rw [if_neg (fun q=>by simp_all)]
   clear hA hB hB';obtain ⟨wy,hy⟩:∃ wy,set8 w2 (w.heap.size+1+1) (.int .i64 0) (.int .i64 0) (.bool false) (.bool false) (.int .i64 0) (.int .i64 0) (.bool false) (.bool false)=wy:=⟨_,rfl⟩;have GR:=B3.put8 (.int .i64 0) (.int .i64 0) (.bool false) (.bool false) (.int .i64 0) (.int .i64 0) (.bool false) (.bool false);have GZ:=Ext.set8 (b:=w.heap.size+1+1) X (by omega) (.int .i64 0) (.int .i64 0) (.bool false) (.bool false) (.int .i64 0) (.int .i64 0) (.bool false) (.bool false);obtain ⟨⟨⟨k0,k1,k2,k3⟩,k4,k5,k6,k7⟩,⟨f0,f1,f2,f3⟩,f4,f5,f6,f7⟩:=B3.box8;rw [hy] at GR GZ;unfold set8 set4 at hy;obtain ⟨⟨⟨d0,d1,d2,d3⟩,d4,d5,d6,d7⟩,_⟩:=GR.box8;go_wp2_with fail;exact bodyPost_ret (v:=arV 0 0 false false 0 0 false false) (by simp [results,Tryz.results27,go_sem,d0,d1,d2,d3,d4,d5,d6,d7]) rfl ⟨by rw [HB.out],GZ⟩
 ·have hA':goodAB r c r' c'=false:=by simpa using hA
  rw [hA'];have HB:Hid (hullB r c r' c' s d s' d'=arV 0 0 false false 0 0 false false):=by show _=_;unfold hullB;rw [if_neg (fun q=>by simp_all)]
  clear hA hA' a0 a1 a2 a3 a4 a5 a6 a7 b0 b1 b2 b3 b4 b5 b6 b7 G2;obtain ⟨wy,hy⟩:∃ wy,set8 w1 (w.heap.size+1+1) (.int .i64 0) (.int .i64 0) (.bool false) (.bool false) (.int .i64 0) (.int .i64 0) (.bool false) (.bool false)=wy:=⟨_,rfl⟩;have GR:=B3.put8 (.int .i64 0) (.int .i64 0) (.bool false) (.bool false) (.int .i64 0) (.int .i64 0) (.bool false) (.bool false);have GZ:=Ext.set8 (b:=w.heap.size+1+1) X (by omega) (.int .i64 0) (.int .i64 0) (.bool false) (.bool false) (.int .i64 0) (.int .i64 0) (.bool false) (.bool false);obtain ⟨⟨⟨k0,k1,k2,k3⟩,k4,k5,k6,k7⟩,⟨f0,f1,f2,f3⟩,f4,f5,f6,f7⟩:=B3.box8;rw [hy] at GR GZ;unfold set8 set4 at hy;obtain ⟨⟨⟨d0,d1,d2,d3⟩,d4,d5,d6,d7⟩,_⟩:=GR.box8;go_wp2_with fail;exact bodyPost_ret (v:=arV 0 0 false false 0 0 false false) (by simp [results,Tryz.results27,go_sem,d0,d1,d2,d3,d4,d5,d6,d7]) rfl ⟨by rw [HB.out],GZ⟩
end Go.Proofs.YtcjjobciokfehaaGreatDoor

