import Derived.Test.YteliaeejooekbaaGreatDoorBase
import Derived.Test.YteliaeejooekbaaGreatDoorMg4
import Derived.Deep.QuietTactic
import Derived.BigQuiet
import Derived.Deep.RegionHeld3
set_option maxHeartbeats 4000000
set_option maxRecDepth 8000
namespace Go.Proofs.YteliaeejooekbaaGreatDoor
open Go.RowKit
def C32 (w:World) (b o:Nat) (xs:List Int):Prop:=∀ i,i<xs.length->w.cell? ⟨b,o+i,none⟩=some (.int .u32 (xs.getD i 0))
theorem C32.l {w w1:World} {b o:Nat} {xs:List Int} (h:C32 w b o xs) (hb:Ext w w1):C32 w1 b o xs:=fun i hi=>cell_later hb (h i hi)
def Row (w:World) (v:Value) (xs:List Int):Prop:=
 ∃ (p:Option Addr) (cap:Nat),v=.slice p xs.length cap/\xs.length<=cap/\cap<=9223372036854775807/\((p=none/\cap=0)\/∃ b o,p=some ⟨b,o,none⟩/\C32 w b o xs)
theorem Row.l {w w1:World} {v:Value} {xs:List Int} (h:Row w v xs) (hb:Ext w w1):Row w1 v xs:=by
 obtain ⟨p,cap,e,h1,h2,h3⟩:=h;refine ⟨p,cap,e,h1,h2,?_⟩
 rcases h3 with h3 | ⟨b,o,e,h3⟩
 ·exact .inl h3
 ·exact .inr ⟨b,o,e,h3.l hb⟩
abbrev zS (z:Int):Value:=.agg #[iQ z,.bool false,.slice none 0 0]
abbrev zB (neg:Bool) (p:Addr) (n cap:Nat):Value:=.agg #[iQ 0,.bool neg,.slice (some p) n cap]
def sgn (neg:Bool) (z:Int):Int:=if neg then -z else z
def Top (xs:List Int):Prop:=xs.length=0\/xs.getD (xs.length - 1) 0 ≠ 0
def ZV (w:World) (v:Value) (z:Int):Prop:=
 (-1000000000000000000<z/\z<1000000000000000000/\v=zS z) \/
 ∃ neg b o cap xs,v=zB neg ⟨b,o,none⟩ xs.length cap/\xs.length<=cap/\cap<=9223372036854775807/\C32 w b o xs/\Lim xs/\3<=xs.length/\Top xs/\z=sgn neg (lv xs)
theorem ZV.l {w w1:World} {v:Value} {z:Int} (h:ZV w v z) (hb:Ext w w1):ZV w1 v z:=by
 rcases h with h | ⟨neg,b,o,cap,xs,e,h1,h2,h3,h4⟩
 ·exact .inl h
 ·exact .inr ⟨neg,b,o,cap,xs,e,h1,h2,h3.l hb,h4⟩
theorem ZV.small {w:World} {z:Int} (h1 : -1000000000000000000<z) (h2:z<1000000000000000000):ZV w (zS z) z:=.inl ⟨h1,h2,rfl⟩
theorem zOW {xs:List Int} (h:Lim xs) (h3:3<=xs.length) (ht:Top xs):1000000000000000000<=lv xs:=by
 have h1:=zLS h (by omega) (ht.resolve_left (by omega));have h2:(1000000000:Int) ^ 2<=1000000000 ^ (xs.length - 1):=by
  have:=Nat.pow_le_pow_right (n:=1000000000) (by decide) (show 2<=xs.length - 1 by omega);have h3:((1000000000 ^ 2:Nat):Int)<=((1000000000 ^ (xs.length - 1):Nat):Int):=by exact_mod_cast this
  simpa using h3
 omega
def zAP (z:Int):Bool:=decide (-1000000000000000000<z/\z<1000000000000000000)
theorem zI7 {neg:Bool} {xs:List Int} (h:Lim xs) (h3:3<=xs.length) (ht:Top xs):zAP (sgn neg (lv xs))=false:=by
 have:=zOW h h3 ht;unfold zAP sgn;cases neg <;> simp <;> omega
theorem zBD {z:Int} (h1 : -1000000000000000000<z) (h2:z<1000000000000000000):zAP z=true:=by simp [zAP,h1,h2]
theorem ZV.small_of {w:World} {v:Value} {z:Int} (h:ZV w v z) (hs:zAP z=true) : -1000000000000000000<z/\z<1000000000000000000/\v=zS z:=by
 rcases h with h | ⟨neg,b,o,cap,xs,rfl,h1,h2,h3,h4,h5,h6,rfl⟩
 ·exact h
 ·rw [zI7 h4 h5 h6] at hs;cases hs
theorem zAH {v:Value} {z:Int} (w:World) (h:ZV w v z) :
  Calls Tryz.prog 109 #[v] w fun e w'=>e=.returned (.bool (zAP z))/\Ext w w':=by
 rcases h with ⟨h1,h2,rfl⟩ | ⟨neg,b,o,cap,xs,rfl,h1,h2,h3,h4,h5,h6,h7⟩
 ·go_enter Tryz.func109,Tryz.ntmps109
  go_wp2
  go_ret;exact ⟨zA1 (zBD h1 h2).symm,x1 _ _⟩
 ·have h9:(((xs.length:Int) == 0))=false:=by rw [beq_eq_false_iff_ne];omega
  subst h7;have H:=zI7 (neg:=neg) h4 h5 h6;clear h6 h4 h3;go_enter Tryz.func109,Tryz.ntmps109
  go_wp2
  go_ret;exact ⟨zA1 H.symm,x1 _ _⟩
theorem zRU {neg:Bool} {xs:List Int} (h:Lim xs) (h3:3<=xs.length) (ht:Top xs):decide (sgn neg (lv xs)<0)=neg:=by
 have:=zOW h h3 ht;cases neg <;> simp [sgn] <;> omega
theorem zD2 {v:Value} {z:Int} (w:World) (h:ZV w v z) :
  Calls Tryz.prog 108 #[v] w fun e w'=>e=.returned (.bool (decide (z<0)))/\Ext w w':=by
 rcases h with ⟨h1,h2,rfl⟩ | ⟨neg,b,o,cap,xs,rfl,h1,h2,h3,h4,h5,h6,h7⟩
 ·go_enter Tryz.func108,Tryz.ntmps108
  go_wp2
  go_ret;exact ⟨rfl,x1 _ _⟩
 ·have h9:(0:Int)<(xs.length:Int):=by omega
  subst h7;have H:=zRU (neg:=neg) h4 h5 h6;clear h6 h4 h3;go_enter Tryz.func108,Tryz.ntmps108
  go_wp2
  go_ret;exact ⟨zA1 H.symm,x1 _ _⟩
theorem zK3 {v:Value} {z:Int} (w:World) (h:ZV w v z) :
  Calls Tryz.prog 128 #[v] w fun e w'=>e=.returned (.bool (z == 0))/\Ext w w':=by
 rcases h with ⟨h1,h2,rfl⟩ | ⟨neg,b,o,cap,xs,rfl,h1,h2,h3,h4,h5,h6,h7⟩
 ·go_enter Tryz.func128,Tryz.ntmps128
  go_wp2
  all_goals go_ret
  all_goals exact ⟨rfl,x1 _ _⟩
 ·have h9:(((xs.length:Int) == 0))=false:=by rw [beq_eq_false_iff_ne];omega
  have H:(sgn neg (lv xs) == 0)=false:=by
   have:=zOW h4 h5 h6;rw [beq_eq_false_iff_ne];cases neg <;> simp [sgn] <;> omega
  subst h7;clear h6 h4 h3;go_enter Tryz.func128,Tryz.ntmps128
  go_wp2
  all_goals go_ret
  all_goals exact ⟨zA1 H.symm,x1 _ _⟩
theorem zNG {v:Value} {z:Int} (w:World) (h:ZV w v z) :
  Calls Tryz.prog 149 #[v] w fun e w'=>∃ v',e=.returned v'/\ZV w' v' (-z)/\Ext w w':=by
 rcases h with ⟨h1,h2,rfl⟩ | ⟨neg,b,o,cap,xs,rfl,h1,h2,h3,h4,h5,h6,rfl⟩
 ·go_enter Tryz.func149,Tryz.ntmps149
  go_wp2
  exact bodyPost_ret (v:=zS (-z)) (by simp [results,Tryz.results149,go_sem]) rfl ⟨_,rfl,.inl ⟨by omega,by omega,rfl⟩,xa (xa (x1 _ _) _) _⟩
 ·have h9:(((xs.length:Int) == 0))=false:=by rw [beq_eq_false_iff_ne];omega
  have H : -sgn neg (lv xs)=sgn (!neg) (lv xs):=by cases neg <;> simp [sgn]
  rw [H];clear H;go_enter Tryz.func149,Tryz.ntmps149
  go_wp2
  exact bodyPost_ret (v:=zB (!neg) ⟨b,o,none⟩ xs.length cap) (by simp [results,Tryz.results149,go_sem]) rfl
   ⟨_,rfl,.inr ⟨!neg,b,o,cap,xs,rfl,h1,h2,((h3.l (x1 _ _)).l (x1 _ _)).l (x1 _ _),h4,h5,h6,rfl⟩,xa (xa (x1 _ _) _) _⟩
def No32 (u:Value):Prop:=∀ n,u ≠ .int .u32 n
theorem C32.apart {w:World} {b o:Nat} {xs:List Int} {p:Addr} {u:Value} (h:C32 w b o xs) (hp:w.cell? p=some u) (hu:No32 u):∀ i,i<xs.length->(⟨b,o+i,none⟩:Addr) ≠ p:=by
 rintro i hi rfl;rw [h i hi] at hp;exact hu _ (Option.some.inj hp).symm
theorem C32.set {w:World} {b o:Nat} {xs:List Int} {p:Addr} {u:Value} (h:C32 w b o xs) (hp:w.cell? p=some u) (hu:No32 u) (a:Value):C32 (w.setCell p a) b o xs:=fun i hi=>by
 rw [World.cell?_setCell_other _ _ _ _ (h.apart hp hu i hi).symm];exact h i hi
theorem ZV.set {w:World} {v:Value} {z:Int} {p:Addr} {u:Value} (h:ZV w v z) (hp:w.cell? p=some u) (hu:No32 u) (a:Value):ZV (w.setCell p a) v z:=by
 rcases h with h | ⟨neg,b,o,cap,xs,e,h1,h2,h3,h4⟩
 ·exact .inl h
 ·exact .inr ⟨neg,b,o,cap,xs,e,h1,h2,h3.set hp hu a,h4⟩
theorem ZV.shape {w:World} {v:Value} {z:Int} (h:ZV w v z):∃ a0 a1 p n cap,v=.agg #[iQ a0,.bool a1,.slice p n cap]:=by
 rcases h with ⟨_,_,rfl⟩ | ⟨neg,b,o,cap,xs,rfl,_⟩
 ·exact ⟨_,_,_,_,_,rfl⟩
 ·exact ⟨_,_,_,_,_,rfl⟩
theorem zPV (n:Int):No32 (iQ n):=fun _ h=>by cases h
theorem zN5 (n:Bool):No32 (.bool n):=fun _ h=>by cases h
theorem zLQ (p:Option Addr) (n c:Nat):No32 (.slice p n c):=fun _ h=>by cases h
abbrev ZBox (w:World) (b:Nat):Prop:=∃ a0 a1 p n cap,Box3 w b (iQ a0) (.bool a1) (.slice p n cap)
abbrev set3 (w:World) (b:Nat) (a0 a1 a2:Value):World:=((w.setCell ⟨b,0,none⟩ a0).setCell ⟨b,1,none⟩ a1).setCell ⟨b,2,none⟩ a2
theorem zCG {b i j:Nat} (h:i ≠ j):(⟨b,i,none⟩:Addr) ≠ ⟨b,j,none⟩:=fun e=>h (by cases e;rfl)
theorem ZV.set3 {w:World} {v:Value} {z:Int} {b:Nat} {a0:Int} {a1:Bool} {p:Option Addr} {n cap:Nat} (h:ZV w v z) (hb:Box3 w b (iQ a0) (.bool a1) (.slice p n cap)) (c0 c1 c2:Value):ZV (set3 w b c0 c1 c2) v z:=by
 obtain ⟨⟨q0,q1,q2⟩,_⟩:=hb;have k1:(w.setCell ⟨b,0,none⟩ c0).cell? ⟨b,1,none⟩=some (.bool a1):=by rw [World.cell?_setCell_other _ _ _ _ (zCG (by decide))];exact q1
 have k2:((w.setCell ⟨b,0,none⟩ c0).setCell ⟨b,1,none⟩ c1).cell? ⟨b,2,none⟩=some (.slice p n cap):=by
  rw [World.cell?_setCell_other _ _ _ _ (zCG (by decide)),World.cell?_setCell_other _ _ _ _ (zCG (by decide))];exact q2
 exact ((h.set q0 (zPV _) _).set k1 (zN5 _) _).set k2 (zLQ _ _ _) _
theorem Ext.set3 {w w1:World} {b:Nat} (h:Ext w w1) (hb:w.heap.size<=b) (c0 c1 c2:Value):Ext w (set3 w1 b c0 c1 c2):=xset (xset (xset h hb _) hb _) hb _
theorem zP2 {v:Value} {z:Int} (w:World) (h:ZV w v z) :
  Calls Tryz.prog 126 #[v] w fun e w'=>∃ v',e=.returned v'/\ZV w' v' (z.natAbs:Int)/\Ext w w':=by
 obtain ⟨a0,a1,p,n,cap,rfl⟩:=h.shape;by_cases hz:z<0
 ·have hd:decide (z<0)=true:=by simpa using hz
  have e1:(z.natAbs:Int) = -z:=by omega
  rw [e1];clear e1;go_enter Tryz.func126,Tryz.ntmps126;go_wp2_with fail;refine (zD2 _ (h.l (xa (x1 _ _) _))).mono ?_;rintro e w1 ⟨rfl,b1⟩;obtain ⟨⟨q0,q1,q2⟩,_⟩:=((Box3.made w (iQ a0) (.bool a1) (.slice p n cap) 137).l (x1 _ _)).l b1;go_wp2_with fail;refine (zNG _ ((h.l (xa (x1 _ _) _)).l b1)).mono ?_;rintro e w2 ⟨v',rfl,hz2,b2⟩;obtain ⟨a0',a1',p',n',cap',rfl⟩:=hz2.shape;have B:=((Box3.made (w.alloc (.cells #[iQ a0,.bool a1,.slice p n cap] 137)) (iQ 0) (.bool false) (.slice none 0 0) 137).l b1).l b2;simp only [World.size_alloc] at B;have Hz:=hz2.set3 B (iQ a0') (.bool a1') (.slice p' n' cap');have Hx:=Ext.set3 (b:=w.heap.size+1) (xt (xt (xa (x1 _ _) _) b1) b2) (by omega) (iQ a0') (.bool a1') (.slice p' n' cap');obtain ⟨⟨r0,r1,r2⟩,s0,s1,s2⟩:=B
  go_wp2
  exact bodyPost_ret (v:=.agg #[iQ a0',.bool a1',.slice p' n' cap']) (by simp [results,Tryz.results126,go_sem,r0,r1,r2]) rfl ⟨_,rfl,Hz,Hx⟩
 ·have hd:decide (z<0)=false:=by simpa using hz
  have e1:(z.natAbs:Int)=z:=by omega
  rw [e1];clear e1;go_enter Tryz.func126,Tryz.ntmps126;go_wp2_with fail;refine (zD2 _ (h.l (xa (x1 _ _) _))).mono ?_;rintro e w1 ⟨rfl,b1⟩;obtain ⟨⟨q0,q1,q2⟩,_⟩:=((Box3.made w (iQ a0) (.bool a1) (.slice p n cap) 137).l (x1 _ _)).l b1;have B:=(Box3.made (w.alloc (.cells #[iQ a0,.bool a1,.slice p n cap] 137)) (iQ 0) (.bool false) (.slice none 0 0) 137).l b1;simp only [World.size_alloc] at B;have Hz:=((h.l (xa (x1 _ _) _)).l b1).set3 B (iQ a0) (.bool a1) (.slice p n cap);have Hx:=Ext.set3 (b:=w.heap.size+1) (xt (xa (x1 _ _) _) b1) (by omega) (iQ a0) (.bool a1) (.slice p n cap);obtain ⟨⟨r0,r1,r2⟩,s0,s1,s2⟩:=B
  go_wp2
  exact bodyPost_ret (v:=.agg #[iQ a0,.bool a1,.slice p n cap]) (by simp [results,Tryz.results126,go_sem,r0,r1,r2]) rfl ⟨_,rfl,Hz,Hx⟩
theorem zP3 (n:Int) (w:World) (h1 : -1000000000000000000<n) (h2:n<1000000000000000000) :
  Calls Tryz.prog 114 #[iQ n] w fun e w'=>e=.returned (iQ (n.natAbs:Int))/\w'=w:=by
 go_enter Tryz.func114,Tryz.ntmps114
 go_wp2
 all_goals go_ret
 all_goals exact ⟨zAK (by omega),rfl⟩
theorem zFX (n x:Int) (w:World) (h1 : -1000000000000000000<n) (h2:n<1000000000000000000) (hx:(n.natAbs:Int)=x) :
  Calls Tryz.prog 114 #[iQ n] w fun e w'=>e=.returned (iQ x)/\w'=w:=by
 rw [<- hx];exact zP3 n w h1 h2
theorem three (u:Int) (h1:1000000000000000000<=u) (h2:u<9000000000000000000) :
  Lim [u % 1000000000,u / 1000000000 % 1000000000,u / 1000000000 / 1000000000]/\Top [u % 1000000000,u / 1000000000 % 1000000000,u / 1000000000 / 1000000000]/\lv [u % 1000000000,u / 1000000000 % 1000000000,u / 1000000000 / 1000000000]=u:=by
 refine ⟨Lim.cons (by omega) (by omega) (Lim.cons (by omega) (by omega) (Lim.cons (by omega) (by omega) Lim.nil)),.inr ?_,?_⟩
 ·show u / 1000000000 / 1000000000 ≠ 0;omega
 ·simp only [lv];omega
theorem C32.three {w:World} {a b c:Int} {t:TypeId} {g:Nat} (hg:g=w.heap.size):C32 (w.alloc (.cells #[.int .u32 a,.int .u32 b,.int .u32 c] t)) g 0 [a,b,c]:=by
 subst hg;intro i hi
 match i,hi with
 | 0,_ | 1,_ | 2,_=>simp [go_sem]
theorem C32.two {w:World} {a b:Int} {t:TypeId} {g:Nat} (hg:g=w.heap.size):C32 (w.alloc (.cells #[.int .u32 a,.int .u32 b] t)) g 0 [a,b]:=by
 subst hg;intro i hi
 match i,hi with
 | 0,_ | 1,_=>simp [go_sem]
theorem C32.one {w:World} {a:Int} {t:TypeId} {g:Nat} (hg:g=w.heap.size):C32 (w.alloc (.cells #[.int .u32 a] t)) g 0 [a]:=by
 subst hg;intro i hi
 match i,hi with
 | 0,_=>simp [go_sem]
theorem zCR (z:Int) (w:World) (h1 : -9000000000000000000<z) (h2:z<9000000000000000000) :
  Calls Tryz.prog 100 #[iQ z] w fun e w'=>∃ v',e=.returned v'/\ZV w' v' z/\Ext w w':=by
 by_cases hs : -1000000000000000000<z/\z<1000000000000000000
 ·obtain ⟨s1,s2⟩:=hs;go_enter Tryz.func100,Tryz.ntmps100
  go_wp2
  exact bodyPost_ret (v:=zS z) (by simp [results,Tryz.results100,go_sem]) rfl ⟨_,rfl,ZV.small s1 s2,x1 _ _⟩
 ·by_cases hn:z<0
  ·obtain ⟨u,rfl⟩:∃ u,z = -u:=⟨-z,by omega⟩;have u1:1000000000000000000<=u:=by omega
   have u2:u<9000000000000000000:=by omega
   clear hs h1 h2 hn;go_enter Tryz.func100,Tryz.ntmps100
   go_wp2
   obtain ⟨t1,t2,t3⟩:=three u u1 u2;refine bodyPost_ret (v:=zB true ⟨w.heap.size+1,0,none⟩ 3 3) (by simp [results,Tryz.results100,go_sem]) rfl ⟨_,rfl,.inr ⟨true,w.heap.size+1,0,3,_,rfl,by simp,by decide,C32.three (by simp),t1,by simp,t2,?_⟩,xa (x1 _ _) _⟩;rw [t3];rfl
  ·have u1:1000000000000000000<=z:=by omega
   have hd:decide (z<0)=false:=by simpa using hn
   clear hs hn h1;go_enter Tryz.func100,Tryz.ntmps100
   go_wp2
   obtain ⟨t1,t2,t3⟩:=three z u1 h2;refine bodyPost_ret (v:=zB false ⟨w.heap.size+1,0,none⟩ 3 3) (by simp [results,Tryz.results100,go_sem]) rfl ⟨_,rfl,.inr ⟨false,w.heap.size+1,0,3,_,rfl,by simp,by decide,C32.three (by simp),t1,by simp,t2,?_⟩,xa (x1 _ _) _⟩;rw [t3];rfl
def zDT (w:World) (v:Value) (u:Int):Prop:=∃ xs,Row w v xs/\Lim xs/\Top xs/\lv xs=u
theorem zDT.l {w w1:World} {v:Value} {u:Int} (h:zDT w v u) (hb:Ext w w1):zDT w1 v u:=by
 obtain ⟨xs,h1,h2⟩:=h;exact ⟨xs,h1.l hb,h2⟩
theorem zDT.nil (w:World):zDT w (.slice none 0 0) 0:=⟨[],⟨none,0,rfl,Nat.le_refl _,by decide,.inl ⟨rfl,rfl⟩⟩,Lim.nil,.inl rfl,rfl⟩
theorem zDT.one {w:World} {u:Int} {t:TypeId} {g:Nat} (hg:g=w.heap.size) (h1:0<u) (h2:u<1000000000):zDT (w.alloc (.cells #[.int .u32 u] t)) (.slice (some ⟨g,0,none⟩) 1 1) u:=
 ⟨[u],⟨_,1,rfl,Nat.le_refl _,by decide,.inr ⟨g,0,rfl,C32.one hg⟩⟩,Lim.cons (by omega) h2 Lim.nil,.inr (show u ≠ 0 by omega),by simp [lv]⟩
theorem zDT.two {w:World} {u:Int} {t:TypeId} {g:Nat} (hg:g=w.heap.size) (h1:1000000000<=u) (h2:u<1000000000000000000) :
  zDT (w.alloc (.cells #[.int .u32 (u % 1000000000),.int .u32 (u / 1000000000)] t)) (.slice (some ⟨g,0,none⟩) 2 2) u:=
 ⟨[u % 1000000000,u / 1000000000],⟨_,2,rfl,Nat.le_refl _,by decide,.inr ⟨g,0,rfl,C32.two hg⟩⟩,Lim.cons (by omega) (by omega) (Lim.cons (by omega) (by omega) Lim.nil),.inr (show u / 1000000000 ≠ 0 by omega),by simp only [lv];omega⟩
theorem zAO {v:Value} {z:Int} (w:World) (h:ZV w v z) :
  Calls Tryz.prog 107 #[v] w fun e w'=>∃ v',e=.returned v'/\zDT w' v' (z.natAbs:Int)/\Ext w w':=by
 rcases h with ⟨h1,h2,rfl⟩ | ⟨neg,b,o,cap,xs,rfl,h1,h2,h3,h4,h5,h6,rfl⟩
 ·by_cases hn:z<0
  ·obtain ⟨u,rfl⟩:∃ u,z = -u:=⟨-z,by omega⟩;have u1:0<u:=by omega
   have u2:u<1000000000000000000:=by omega
   have e1:((-u).natAbs:Int)=u:=by omega
   rw [e1];clear h1 h2 hn e1;by_cases hb:u<1000000000
   ·go_enter Tryz.func107,Tryz.ntmps107
    go_wp2
    go_ret;exact ⟨_,rfl,zDT.one (by simp) u1 hb,xa (x1 _ _) _⟩
   ·go_enter Tryz.func107,Tryz.ntmps107
    go_wp2
    go_ret;exact ⟨_,rfl,zDT.two (by simp) (by omega) u2,xa (x1 _ _) _⟩
  ·have e1:(z.natAbs:Int)=z:=by omega
   rw [e1];have u1:0<=z:=by omega
   clear h1 hn e1;by_cases hz:z=0
   ·subst hz;go_enter Tryz.func107,Tryz.ntmps107
    go_wp2
    go_ret;exact ⟨_,rfl,zDT.nil _,x1 _ _⟩
   ·by_cases hb:z<1000000000
    ·go_enter Tryz.func107,Tryz.ntmps107
     go_wp2
     go_ret;exact ⟨_,rfl,zDT.one (by simp) (by omega) hb,xa (x1 _ _) _⟩
    ·go_enter Tryz.func107,Tryz.ntmps107
     go_wp2
     go_ret;exact ⟨_,rfl,zDT.two (by simp) (by omega) h2,xa (x1 _ _) _⟩
 ·have h9:(0:Int)<(xs.length:Int):=by omega
  have e1:((sgn neg (lv xs)).natAbs:Int)=lv xs:=by
   have:=zCT h4;unfold sgn;cases neg <;> simp <;> omega
  rw [e1];have L:Hid (∀ w1,Ext w w1->zDT w1 (.slice (some ⟨b,o,none⟩) xs.length cap) (lv xs)):=fun w1 hx=>⟨xs,⟨_,cap,rfl,h1,h2,.inr ⟨b,o,rfl,h3.l hx⟩⟩,h4,h6,rfl⟩;clear h4 h6 h3 e1;go_enter Tryz.func107,Tryz.ntmps107
  go_wp2
  go_ret;exact ⟨_,rfl,L.out _ (x1 _ _),x1 _ _⟩
end Go.Proofs.YteliaeejooekbaaGreatDoor
namespace Go.Proofs.YteliaeejooekbaaGreatDoor
def cmpI (a b:Int):Int:=if a<b then -1 else if b<a then 1 else 0
theorem zEO {a b:Int} (h:a<b):cmpI a b = -1:=by unfold cmpI;rw [if_pos h]
theorem zE2 {a b:Int} (h:b<a):cmpI a b=1:=by unfold cmpI;rw [if_neg (by omega),if_pos h]
theorem zOO (a:Int):cmpI a a=0:=by unfold cmpI;rw [if_neg (by omega),if_neg (by omega)]
theorem zQO (a b:Int) : -cmpI a b=cmpI (-a) (-b):=by unfold cmpI;split <;> (try split) <;> (try split) <;> (try split) <;> omega
theorem zD7 {i j:Nat} (h:i<=j):(1000000000:Int) ^ i<=1000000000 ^ j:=by
 have:=Nat.pow_le_pow_right (n:=1000000000) (by decide) h;have h3:((1000000000 ^ i:Nat):Int)<=((1000000000 ^ j:Nat):Int):=by exact_mod_cast this
 simpa using h3
theorem zGF {xs ys:List Int} (lx:Lim xs) (ly:Lim ys) (ty:ys.getD (ys.length - 1) 0 ≠ 0) (h:xs.length<ys.length):lv xs<lv ys:=by
 have h1:=zIN lx;have h2:=zLS ly (by omega) ty;have h3:=zD7 (show xs.length<=ys.length - 1 by omega);omega
theorem zEY (xs:List Int) (j:Nat) (h:j<xs.length):lv xs=lv (xs.take j)+1000000000 ^ j * (xs.getD j 0+1000000000 * lv (xs.drop (j+1))):=by
 have e:xs=xs.take j++(xs[j] :: xs.drop (j+1)):=by rw [<- List.drop_eq_getElem_cons h,List.take_append_drop]
 have h1:=congrArg lv e;rw [zKR] at h1;simp only [lv,List.length_take,Nat.min_eq_left (Nat.le_of_lt h)] at h1;rw [h1];simp [h]
theorem zRA {xs ys:List Int} {j:Nat} (lx:Lim xs) (ly:Lim ys) (hx:j<xs.length) (hy:j<ys.length) (hd:xs.drop (j+1)=ys.drop (j+1)) (h:xs.getD j 0<ys.getD j 0):lv xs<lv ys:=by
 rw [zEY xs j hx,zEY ys j hy,hd];have h1:=zIN (lx.take j);have h2:=zCT (ly.take j);have e:(xs.take j).length=j:=by simp;omega
 rw [e] at h1;generalize lv (ys.drop (j+1))=D at *;generalize xs.getD j 0=x at *;generalize ys.getD j 0=y at *;generalize lv (xs.take j)=X at *;generalize lv (ys.take j)=Y at *;have hp:=zDX j;have h3:(1000000000:Int) ^ j * (x+1000000000 * D+1)<=1000000000 ^ j * (y+1000000000 * D):=Int.mul_le_mul_of_nonneg_left (by omega) (by omega);rw [Int.mul_add _ _ 1,Int.mul_one] at h3;omega
theorem zOF {xs ys:List Int} {j:Nat} (hx:j<xs.length) (hy:j<ys.length) (hd:xs.drop (j+1)=ys.drop (j+1)) (h:xs.getD j 0=ys.getD j 0):xs.drop j=ys.drop j:=by
 rw [List.drop_eq_getElem_cons hx,List.drop_eq_getElem_cons hy,hd];have e1:xs.getD j 0=xs[j]:=by simp [hx]
 have e2:ys.getD j 0=ys[j]:=by simp [hy]
 rw [<- e1,<- e2,h]
end Go.Proofs.YteliaeejooekbaaGreatDoor
namespace Go.Proofs.YteliaeejooekbaaGreatDoor
open Go.RowKit
theorem zK4 {a b:World} (h:Ext a b) (n:Nat):Ext a (b.drewN n):=⟨h.os,h.tape,h.output,h.size,h.block⟩
theorem zDN {va vb:Value} {xs ys:List Int} (w:World) (ha:Row w va xs) (hb:Row w vb ys) (lx:Lim xs) (ly:Lim ys) (tx:Top xs) (ty:Top ys) :
  Calls Tryz.prog 112 #[va,vb] w fun e w'=>e=.returned (iQ (cmpI (lv xs) (lv ys)))/\Ext w w':=by
 obtain ⟨px,cx,rfl,cx1,cx2,cx3⟩:=ha;obtain ⟨py,cy,rfl,cy1,cy2,cy3⟩:=hb;by_cases hl:xs.length<ys.length
 ·have H:=zEO (zGF lx ly (ty.resolve_left (by omega)) hl);have h1:(((xs.length:Int) != (ys.length:Int)))=true:=by rw [bne_iff_ne];omega
  have h2:(xs.length:Int)<(ys.length:Int):=by omega
  rw [H];clear cx3 cy3 lx ly tx ty H;go_enter Tryz.func112,Tryz.ntmps112
  go_wp2
  go_ret;exact ⟨rfl,xr _⟩
 ·by_cases hg:ys.length<xs.length
  ·have H:=zE2 (zGF ly lx (tx.resolve_left (by omega)) hg);have h1:(((xs.length:Int) != (ys.length:Int)))=true:=by rw [bne_iff_ne];omega
   have h2:¬ (xs.length:Int)<(ys.length:Int):=by omega
   rw [H];clear cx3 cy3 lx ly tx ty H;go_enter Tryz.func112,Tryz.ntmps112
   go_wp2
   go_ret;exact ⟨rfl,xr _⟩
  ·have he:ys.length=xs.length:=by omega
   have h1:(((xs.length:Int) != (xs.length:Int)))=false:=by simp
   rw [he] at cy1 ⊢;have HE:Hid _:=he;clear hl hg he tx ty;go_enter Tryz.func112,Tryz.ntmps112;go_wp2_with fail;go_loopw [5] (fun i wr=>∃ m:Nat,m<=xs.length/\i=.int .i64 ((m:Int) - 1)/\xs.drop m=ys.drop m/\Ext w wr) (fun i _=>(intOf i+1).toNat)
   case atStart=>exact ⟨xs.length,Nat.le_refl _,rfl,by rw [List.drop_eq_nil_of_le (Nat.le_refl _),List.drop_eq_nil_of_le (by rw [HE.out];exact Nat.le_refl _)],xr _⟩
   case round =>
    obtain ⟨m,hm,rfl,hd,X⟩:=hrel;by_cases h0:m=0
    ·subst h0;have H:Hid (cmpI (lv xs) (lv ys)=0):=by
      simp only [List.drop_zero] at hd;rw [hd];exact zOO _
     clear cx3 cy3 hd
     go_wp2
     go_ret;exact ⟨zAK H.out.symm,X⟩
    ·obtain ⟨j,rfl⟩:∃ j,m=j+1:=⟨m - 1,by omega⟩;have hj:j<xs.length:=(by omega);obtain ⟨bx,ox,rfl,kx⟩:∃ b o,px=some ⟨b,o,none⟩/\C32 w b o xs:=by
      rcases cx3 with ⟨_,h⟩ | h
      ·omega
      ·exact h
     obtain ⟨by1,oy,rfl,ky⟩:∃ b o,py=some ⟨b,o,none⟩/\C32 w b o ys:=by
      rcases cy3 with ⟨_,h⟩ | h
      ·omega
      ·exact h
     have fx:=(kx.l X) j hj;have fy:=(ky.l X) j (by rw [HE.out];exact hj);have HT:Hid (xs.getD j 0<ys.getD j 0->lv xs<lv ys):=fun h=>zRA lx ly hj (by rw [HE.out];exact hj) hd h;have HG:Hid (ys.getD j 0<xs.getD j 0->lv ys<lv xs):=fun h=>zRA ly lx (by rw [HE.out];exact hj) hj hd.symm h;have HS:Hid (xs.getD j 0=ys.getD j 0->xs.drop j=ys.drop j):=fun h=>zOF hj (by rw [HE.out];exact hj) hd h;obtain ⟨x,ex⟩:=nm (xs.getD j 0);obtain ⟨y,ey⟩:=nm (ys.getD j 0);rw [ex] at fx HT HG HS;rw [ey] at fy HT HG HS;have ej:(((j+1:Nat):Int) - 1)=(j:Int):=(by omega);rw [ej];have hj':(j:Int)<(xs.length:Int):=(by omega);clear cx3 cy3 kx ky hd lx ly ex ey ej h0;by_cases hxy:x<y
     ·have H:Hid (cmpI (lv xs) (lv ys) = -1):=zEO (HT.out hxy);go_wp2_with fail;go_quiet (fail)
      go_wp2
      go_ret;exact ⟨zAK H.out.symm,zK4 X _⟩
     ·by_cases hyx:y<x
      ·have H:Hid (cmpI (lv xs) (lv ys)=1):=zE2 (HG.out hyx);go_wp2_with fail;go_quiet (fail);go_wp2_with fail;go_quiet (fail)
       go_wp2
       go_ret;exact ⟨zAK H.out.symm,zK4 (zK4 X _) _⟩
      ·have H:Hid (xs.drop j=ys.drop j):=HS.out (by omega);go_wp2_with fail;go_quiet (fail);go_wp2_with fail;go_quiet (fail)
       go_wp2
       go_roundw
       case rel=>exact ⟨j,by omega,by go_num,H.out,zK4 X _⟩
       case measure=>simp [intOf]
theorem zGQ {a b:Int} (ha:a<0) (hb:b<0) : -cmpI (a.natAbs:Int) (b.natAbs:Int)=cmpI a b:=by
 have e1:(a.natAbs:Int) = -a:=by omega
 have e2:(b.natAbs:Int) = -b:=by omega
 rw [e1,e2,zQO];simp
theorem zGP {a b:Int} (ha:¬ a<0) (hb:¬ b<0):cmpI (a.natAbs:Int) (b.natAbs:Int)=cmpI a b:=by
 have e1:(a.natAbs:Int)=a:=by omega
 have e2:(b.natAbs:Int)=b:=by omega
 rw [e1,e2]
theorem zON {va vb:Value} {a b:Int} (w:World) (ha:ZV w va a) (hb:ZV w vb b) (sa:zAP a=true) (sb:zAP b=true) :
  Calls Tryz.prog 131 #[va,vb] w fun e w'=>e=.returned (iQ (cmpI a b))/\Ext w w':=by
 obtain ⟨s1,s2,rfl⟩:=ha.small_of sa;obtain ⟨t1,t2,rfl⟩:=hb.small_of sb;have H:Hid (cmpI a b=if a<b then -1 else if b<a then 1 else 0):=rfl;go_enter Tryz.func131,Tryz.ntmps131
 go_wp2
 all_goals go_ret
 all_goals refine ⟨zAK ?_,?_⟩
 all_goals first | (rw [H.out];split <;> (try split) <;> omega) | skip
 all_goals exact xa (xa (xa (x1 _ _) _) _) _
theorem zAW {v:Value} {z:Int} (c:Bool) (w:World) (hc:decide (z<0)=c) (h:ZV w v z) :
  Calls Tryz.prog 108 #[v] w fun e w'=>e=.returned (.bool c)/\Ext w w':=by
 rw [<- hc];exact zD2 w h
theorem zOP (a b:Int) : -1<=cmpI a b/\cmpI a b<=1:=by unfold cmpI;split <;> (try split) <;> omega
theorem zFW {va vb:Value} {a b:Int} (w:World) (ha:zDT w va a) (hb:zDT w vb b) :
  Calls Tryz.prog 112 #[va,vb] w fun e w'=>e=.returned (iQ (cmpI a b))/\Ext w w':=by
 obtain ⟨xs,h1,h2,h3,rfl⟩:=ha;obtain ⟨ys,k1,k2,k3,rfl⟩:=hb;exact zDN w h1 k1 h2 k2 h3 k3
theorem zQN {va vb:Value} {a b:Int} (w:World) (ha:ZV w va a) (hb:ZV w vb b) (sa:zAP a=false) :
  Calls Tryz.prog 131 #[va,vb] w fun e w'=>e=.returned (iQ (cmpI a b))/\Ext w w':=by
 obtain ⟨a0,a1,pa,na,ca,rfl⟩:=ha.shape;obtain ⟨b0,b1,pb,nb,cb,rfl⟩:=hb.shape;go_enter Tryz.func131,Tryz.ntmps131;go_wp2_with fail;refine (zAH _ (ha.l (xa (x1 _ _) _))).mono ?_;rintro e w1 ⟨rfl,e1⟩;have Ba:=((Box3.made w (iQ a0) (.bool a1) (.slice pa na ca) 137).l (x1 _ _)).l e1;have Bb:=(Box3.made (w.alloc (.cells #[iQ a0,.bool a1,.slice pa na ca] 137)) (iQ b0) (.bool b1) (.slice pb nb cb) 137).l e1;simp only [World.size_alloc] at Bb;have ha1:=(ha.l (xa (x1 _ _) _)).l e1;have hb1:=(hb.l (xa (x1 _ _) _)).l e1;have X1:=xt (xa (x1 _ _) _) e1;clear e1 ha hb;have Ba':=Ba;have Bb':=Bb;obtain ⟨⟨p0,p1,p2⟩,_⟩:=Ba';obtain ⟨⟨q0,q1,q2⟩,_⟩:=Bb';go_wp2_with fail;by_cases hn:a<0
 ·have hn':decide (a<0)=true:=by simpa using hn
  by_cases hm:b<0
  ·have hm':decide (b<0)=true:=by simpa using hm
   go_region_held3 (fun w'=>(w'.cell? ⟨w.heap.size,0,none⟩=some (iQ a0)/\w'.cell? ⟨w.heap.size,1,none⟩=some (.bool a1)/\w'.cell? ⟨w.heap.size,2,none⟩=some (.slice pa na ca))/\w'.cell? ⟨w.heap.size+1,0,none⟩=some (iQ b0)/\w'.cell? ⟨w.heap.size+1,1,none⟩=some (.bool b1)/\w'.cell? ⟨w.heap.size+1,2,none⟩=some (.slice pb nb cb)) (go_keep)
    (first
     | (go_at_call_of 108 (Value.agg #[iQ a0,.bool a1,.slice pa na ca]);refine (zAW (z:=a) true _ hn' ?_).mono ?_;(exact ha1.l (xd (xr _)));rintro e w4 ⟨rfl,e4⟩;have X4:=xt (xd (xr _)) e4;obtain ⟨⟨c0,c1,c2⟩,_⟩:=Ba.l X4;obtain ⟨⟨d0,d1,d2⟩,_⟩:=Bb.l X4)
     | (go_at_call_of 108 (Value.agg #[iQ b0,.bool b1,.slice pb nb cb]);refine (zAW (z:=b) true _ hm' ?_).mono ?_;(exact hb1.l X4);rintro e w5 ⟨rfl,e5⟩;have X5:=xt X4 e5;obtain ⟨⟨f0,f1,f2⟩,_⟩:=Ba.l X5;obtain ⟨⟨g0,g1,g2⟩,_⟩:=Bb.l X5))
   have HH:Hid (-cmpI (a.natAbs:Int) (b.natAbs:Int)=cmpI a b):=zGQ (by omega) (by omega);go_wp2_with fail;go_region_held3 (fun w'=>(w'.cell? ⟨w.heap.size,0,none⟩=some (iQ a0)/\w'.cell? ⟨w.heap.size,1,none⟩=some (.bool a1)/\w'.cell? ⟨w.heap.size,2,none⟩=some (.slice pa na ca))/\w'.cell? ⟨w.heap.size+1,0,none⟩=some (iQ b0)/\w'.cell? ⟨w.heap.size+1,1,none⟩=some (.bool b1)/\w'.cell? ⟨w.heap.size+1,2,none⟩=some (.slice pb nb cb)) (go_keep)
    (first
     | (go_at_call_of 107 (Value.agg #[iQ a0,.bool a1,.slice pa na ca]);refine (zAO (z:=a) _ ?_).mono ?_;(exact (ha1.l X5).l (xd (xr _)));rintro e w6 ⟨x6,rfl,l6,e6⟩;have X6:=xt (xt X5 (xd (xr _))) e6;obtain ⟨⟨i0,i1,i2⟩,_⟩:=Ba.l X6;obtain ⟨⟨j0,j1,j2⟩,_⟩:=Bb.l X6)
     | (go_at_call_of 107 (Value.agg #[iQ b0,.bool b1,.slice pb nb cb]);refine (zAO (z:=b) _ ?_).mono ?_;(exact hb1.l X6);rintro e w7 ⟨x7,rfl,l7,e7⟩;have X7:=xt X6 e7;obtain ⟨⟨k0,k1,k2⟩,_⟩:=Ba.l X7;obtain ⟨⟨m0,m1,m2⟩,_⟩:=Bb.l X7)
     | (go_at_call 112;refine (zFW _ (l6.l e7) l7).mono ?_;rintro e w8 ⟨rfl,e8⟩;have X8:=xt X7 e8;obtain ⟨⟨n0,n1,n2⟩,_⟩:=Ba.l X8;obtain ⟨⟨o0,o1,o2⟩,_⟩:=Bb.l X8))
   go_wp2_with fail;refine (zAW _ _ hn' (ha1.l X8)).mono ?_;rintro e w9 ⟨rfl,e9⟩;have cb:=zOP (a.natAbs:Int) (b.natAbs:Int)
   go_wp2
   go_ret;exact ⟨zAK HH.out,xt X1 (xt X8 e9)⟩
  ·have hm':decide (b<0)=false:=by simpa using hm
   go_region_held3 (fun w'=>(w'.cell? ⟨w.heap.size,0,none⟩=some (iQ a0)/\w'.cell? ⟨w.heap.size,1,none⟩=some (.bool a1)/\w'.cell? ⟨w.heap.size,2,none⟩=some (.slice pa na ca))/\w'.cell? ⟨w.heap.size+1,0,none⟩=some (iQ b0)/\w'.cell? ⟨w.heap.size+1,1,none⟩=some (.bool b1)/\w'.cell? ⟨w.heap.size+1,2,none⟩=some (.slice pb nb cb)) (go_keep)
    (first
     | (go_at_call_of 108 (Value.agg #[iQ a0,.bool a1,.slice pa na ca]);refine (zAW (z:=a) true _ hn' ?_).mono ?_;(exact ha1.l (xd (xr _)));rintro e w4 ⟨rfl,e4⟩;have X4:=xt (xd (xr _)) e4;obtain ⟨⟨c0,c1,c2⟩,_⟩:=Ba.l X4;obtain ⟨⟨d0,d1,d2⟩,_⟩:=Bb.l X4)
     | (go_at_call_of 108 (Value.agg #[iQ b0,.bool b1,.slice pb nb cb]);refine (zAW (z:=b) false _ hm' ?_).mono ?_;(exact hb1.l X4);rintro e w5 ⟨rfl,e5⟩;have X5:=xt X4 e5;obtain ⟨⟨f0,f1,f2⟩,_⟩:=Ba.l X5;obtain ⟨⟨g0,g1,g2⟩,_⟩:=Bb.l X5))
   have HH:Hid (cmpI a b = -1):=zEO (by omega);go_wp2_with fail;refine (zAW _ _ hn' (ha1.l X5)).mono ?_;rintro e w9 ⟨rfl,e9⟩
   go_wp2
   go_ret;exact ⟨zAK HH.out.symm,xt X1 (xt X5 e9)⟩
 ·have hn':decide (a<0)=false:=by simpa using hn
  by_cases hm:b<0
  ·have hm':decide (b<0)=true:=by simpa using hm
   go_region_held3 (fun w'=>(w'.cell? ⟨w.heap.size,0,none⟩=some (iQ a0)/\w'.cell? ⟨w.heap.size,1,none⟩=some (.bool a1)/\w'.cell? ⟨w.heap.size,2,none⟩=some (.slice pa na ca))/\w'.cell? ⟨w.heap.size+1,0,none⟩=some (iQ b0)/\w'.cell? ⟨w.heap.size+1,1,none⟩=some (.bool b1)/\w'.cell? ⟨w.heap.size+1,2,none⟩=some (.slice pb nb cb)) (go_keep)
    (first
     | (go_at_call_of 108 (Value.agg #[iQ a0,.bool a1,.slice pa na ca]);refine (zAW (z:=a) false _ hn' ?_).mono ?_;(exact ha1.l (xd (xr _)));rintro e w4 ⟨rfl,e4⟩;have X4:=xt (xd (xr _)) e4;obtain ⟨⟨c0,c1,c2⟩,_⟩:=Ba.l X4;obtain ⟨⟨d0,d1,d2⟩,_⟩:=Bb.l X4)
     | (go_at_call_of 108 (Value.agg #[iQ b0,.bool b1,.slice pb nb cb]);refine (zAW (z:=b) true _ hm' ?_).mono ?_;(exact hb1.l X4);rintro e w5 ⟨rfl,e5⟩;have X5:=xt X4 e5;obtain ⟨⟨f0,f1,f2⟩,_⟩:=Ba.l X5;obtain ⟨⟨g0,g1,g2⟩,_⟩:=Bb.l X5))
   have HH:Hid (cmpI a b=1):=zE2 (by omega);go_wp2_with fail;refine (zAW _ _ hn' (ha1.l X5)).mono ?_;rintro e w9 ⟨rfl,e9⟩
   go_wp2
   go_ret;exact ⟨zAK HH.out.symm,xt X1 (xt X5 e9)⟩
  ·have hm':decide (b<0)=false:=by simpa using hm
   go_region_held3 (fun w'=>(w'.cell? ⟨w.heap.size,0,none⟩=some (iQ a0)/\w'.cell? ⟨w.heap.size,1,none⟩=some (.bool a1)/\w'.cell? ⟨w.heap.size,2,none⟩=some (.slice pa na ca))/\w'.cell? ⟨w.heap.size+1,0,none⟩=some (iQ b0)/\w'.cell? ⟨w.heap.size+1,1,none⟩=some (.bool b1)/\w'.cell? ⟨w.heap.size+1,2,none⟩=some (.slice pb nb cb)) (go_keep)
    (first
     | (go_at_call_of 108 (Value.agg #[iQ a0,.bool a1,.slice pa na ca]);refine (zAW (z:=a) false _ hn' ?_).mono ?_;(exact ha1.l (xd (xr _)));rintro e w4 ⟨rfl,e4⟩;have X4:=xt (xd (xr _)) e4;obtain ⟨⟨c0,c1,c2⟩,_⟩:=Ba.l X4;obtain ⟨⟨d0,d1,d2⟩,_⟩:=Bb.l X4)
     | (go_at_call_of 108 (Value.agg #[iQ b0,.bool b1,.slice pb nb cb]);refine (zAW (z:=b) false _ hm' ?_).mono ?_;(exact hb1.l X4);rintro e w5 ⟨rfl,e5⟩;have X5:=xt X4 e5;obtain ⟨⟨f0,f1,f2⟩,_⟩:=Ba.l X5;obtain ⟨⟨g0,g1,g2⟩,_⟩:=Bb.l X5))
   have HH:Hid (cmpI (a.natAbs:Int) (b.natAbs:Int)=cmpI a b):=zGP (by omega) (by omega);go_wp2_with fail;go_region_held3 (fun w'=>(w'.cell? ⟨w.heap.size,0,none⟩=some (iQ a0)/\w'.cell? ⟨w.heap.size,1,none⟩=some (.bool a1)/\w'.cell? ⟨w.heap.size,2,none⟩=some (.slice pa na ca))/\w'.cell? ⟨w.heap.size+1,0,none⟩=some (iQ b0)/\w'.cell? ⟨w.heap.size+1,1,none⟩=some (.bool b1)/\w'.cell? ⟨w.heap.size+1,2,none⟩=some (.slice pb nb cb)) (go_keep)
    (first
     | (go_at_call_of 107 (Value.agg #[iQ a0,.bool a1,.slice pa na ca]);refine (zAO (z:=a) _ ?_).mono ?_;(exact (ha1.l X5).l (xd (xr _)));rintro e w6 ⟨x6,rfl,l6,e6⟩;have X6:=xt (xt X5 (xd (xr _))) e6;obtain ⟨⟨i0,i1,i2⟩,_⟩:=Ba.l X6;obtain ⟨⟨j0,j1,j2⟩,_⟩:=Bb.l X6)
     | (go_at_call_of 107 (Value.agg #[iQ b0,.bool b1,.slice pb nb cb]);refine (zAO (z:=b) _ ?_).mono ?_;(exact hb1.l X6);rintro e w7 ⟨x7,rfl,l7,e7⟩;have X7:=xt X6 e7;obtain ⟨⟨k0,k1,k2⟩,_⟩:=Ba.l X7;obtain ⟨⟨m0,m1,m2⟩,_⟩:=Bb.l X7)
     | (go_at_call 112;refine (zFW _ (l6.l e7) l7).mono ?_;rintro e w8 ⟨rfl,e8⟩;have X8:=xt X7 e8;obtain ⟨⟨n0,n1,n2⟩,_⟩:=Ba.l X8;obtain ⟨⟨o0,o1,o2⟩,_⟩:=Bb.l X8))
   go_wp2_with fail;refine (zAW _ _ hn' (ha1.l X8)).mono ?_;rintro e w9 ⟨rfl,e9⟩
   go_wp2
   go_ret;exact ⟨zAK HH.out,xt X1 (xt X8 e9)⟩
theorem zQM {va vb:Value} {a b:Int} (w:World) (ha:ZV w va a) (hb:ZV w vb b) (sa:zAP a=true) (sb:zAP b=false) :
  Calls Tryz.prog 131 #[va,vb] w fun e w'=>e=.returned (iQ (cmpI a b))/\Ext w w':=by
 obtain ⟨a0,a1,pa,na,ca,rfl⟩:=ha.shape;obtain ⟨b0,b1,pb,nb,cb,rfl⟩:=hb.shape;go_enter Tryz.func131,Tryz.ntmps131;go_wp2_with fail;refine (zAH _ (ha.l (xa (x1 _ _) _))).mono ?_;rintro e w1 ⟨rfl,e1⟩;have Ba:=((Box3.made w (iQ a0) (.bool a1) (.slice pa na ca) 137).l (x1 _ _)).l e1;have Bb:=(Box3.made (w.alloc (.cells #[iQ a0,.bool a1,.slice pa na ca] 137)) (iQ b0) (.bool b1) (.slice pb nb cb) 137).l e1;simp only [World.size_alloc] at Bb;have ha1:=(ha.l (xa (x1 _ _) _)).l e1;have hb1:=(hb.l (xa (x1 _ _) _)).l e1;have X1:=xt (xa (x1 _ _) _) e1;clear e1 ha hb;have Bb':=Bb;obtain ⟨⟨p0,p1,p2⟩,_⟩:=Bb';go_wp2_with fail;clear p0 p1 p2;refine (zAH _ hb1).mono ?_;rintro e w1b ⟨rfl,e1b⟩;replace Ba:=Ba.l e1b;replace Bb:=Bb.l e1b;replace ha1:=ha1.l e1b;replace hb1:=hb1.l e1b;replace X1:=xt X1 e1b;clear e1b;have Ba':=Ba;have Bb':=Bb;obtain ⟨⟨p0,p1,p2⟩,_⟩:=Ba';obtain ⟨⟨q0,q1,q2⟩,_⟩:=Bb';go_wp2_with fail;by_cases hn:a<0
 ·have hn':decide (a<0)=true:=by simpa using hn
  by_cases hm:b<0
  ·have hm':decide (b<0)=true:=by simpa using hm
   go_region_held3 (fun w'=>(w'.cell? ⟨w.heap.size,0,none⟩=some (iQ a0)/\w'.cell? ⟨w.heap.size,1,none⟩=some (.bool a1)/\w'.cell? ⟨w.heap.size,2,none⟩=some (.slice pa na ca))/\w'.cell? ⟨w.heap.size+1,0,none⟩=some (iQ b0)/\w'.cell? ⟨w.heap.size+1,1,none⟩=some (.bool b1)/\w'.cell? ⟨w.heap.size+1,2,none⟩=some (.slice pb nb cb)) (go_keep)
    (first
     | (go_at_call_of 108 (Value.agg #[iQ a0,.bool a1,.slice pa na ca]);refine (zAW (z:=a) true _ hn' ?_).mono ?_;(exact ha1.l (xd (xr _)));rintro e w4 ⟨rfl,e4⟩;have X4:=xt (xd (xr _)) e4;obtain ⟨⟨c0,c1,c2⟩,_⟩:=Ba.l X4;obtain ⟨⟨d0,d1,d2⟩,_⟩:=Bb.l X4)
     | (go_at_call_of 108 (Value.agg #[iQ b0,.bool b1,.slice pb nb cb]);refine (zAW (z:=b) true _ hm' ?_).mono ?_;(exact hb1.l X4);rintro e w5 ⟨rfl,e5⟩;have X5:=xt X4 e5;obtain ⟨⟨f0,f1,f2⟩,_⟩:=Ba.l X5;obtain ⟨⟨g0,g1,g2⟩,_⟩:=Bb.l X5))
   have HH:Hid (-cmpI (a.natAbs:Int) (b.natAbs:Int)=cmpI a b):=zGQ (by omega) (by omega);go_wp2_with fail;go_region_held3 (fun w'=>(w'.cell? ⟨w.heap.size,0,none⟩=some (iQ a0)/\w'.cell? ⟨w.heap.size,1,none⟩=some (.bool a1)/\w'.cell? ⟨w.heap.size,2,none⟩=some (.slice pa na ca))/\w'.cell? ⟨w.heap.size+1,0,none⟩=some (iQ b0)/\w'.cell? ⟨w.heap.size+1,1,none⟩=some (.bool b1)/\w'.cell? ⟨w.heap.size+1,2,none⟩=some (.slice pb nb cb)) (go_keep)
    (first
     | (go_at_call_of 107 (Value.agg #[iQ a0,.bool a1,.slice pa na ca]);refine (zAO (z:=a) _ ?_).mono ?_;(exact (ha1.l X5).l (xd (xr _)));rintro e w6 ⟨x6,rfl,l6,e6⟩;have X6:=xt (xt X5 (xd (xr _))) e6;obtain ⟨⟨i0,i1,i2⟩,_⟩:=Ba.l X6;obtain ⟨⟨j0,j1,j2⟩,_⟩:=Bb.l X6)
     | (go_at_call_of 107 (Value.agg #[iQ b0,.bool b1,.slice pb nb cb]);refine (zAO (z:=b) _ ?_).mono ?_;(exact hb1.l X6);rintro e w7 ⟨x7,rfl,l7,e7⟩;have X7:=xt X6 e7;obtain ⟨⟨k0,k1,k2⟩,_⟩:=Ba.l X7;obtain ⟨⟨m0,m1,m2⟩,_⟩:=Bb.l X7)
     | (go_at_call 112;refine (zFW _ (l6.l e7) l7).mono ?_;rintro e w8 ⟨rfl,e8⟩;have X8:=xt X7 e8;obtain ⟨⟨n0,n1,n2⟩,_⟩:=Ba.l X8;obtain ⟨⟨o0,o1,o2⟩,_⟩:=Bb.l X8))
   go_wp2_with fail;refine (zAW _ _ hn' (ha1.l X8)).mono ?_;rintro e w9 ⟨rfl,e9⟩;have cb:=zOP (a.natAbs:Int) (b.natAbs:Int)
   go_wp2
   go_ret;exact ⟨zAK HH.out,xt X1 (xt X8 e9)⟩
  ·have hm':decide (b<0)=false:=by simpa using hm
   go_region_held3 (fun w'=>(w'.cell? ⟨w.heap.size,0,none⟩=some (iQ a0)/\w'.cell? ⟨w.heap.size,1,none⟩=some (.bool a1)/\w'.cell? ⟨w.heap.size,2,none⟩=some (.slice pa na ca))/\w'.cell? ⟨w.heap.size+1,0,none⟩=some (iQ b0)/\w'.cell? ⟨w.heap.size+1,1,none⟩=some (.bool b1)/\w'.cell? ⟨w.heap.size+1,2,none⟩=some (.slice pb nb cb)) (go_keep)
    (first
     | (go_at_call_of 108 (Value.agg #[iQ a0,.bool a1,.slice pa na ca]);refine (zAW (z:=a) true _ hn' ?_).mono ?_;(exact ha1.l (xd (xr _)));rintro e w4 ⟨rfl,e4⟩;have X4:=xt (xd (xr _)) e4;obtain ⟨⟨c0,c1,c2⟩,_⟩:=Ba.l X4;obtain ⟨⟨d0,d1,d2⟩,_⟩:=Bb.l X4)
     | (go_at_call_of 108 (Value.agg #[iQ b0,.bool b1,.slice pb nb cb]);refine (zAW (z:=b) false _ hm' ?_).mono ?_;(exact hb1.l X4);rintro e w5 ⟨rfl,e5⟩;have X5:=xt X4 e5;obtain ⟨⟨f0,f1,f2⟩,_⟩:=Ba.l X5;obtain ⟨⟨g0,g1,g2⟩,_⟩:=Bb.l X5))
   have HH:Hid (cmpI a b = -1):=zEO (by omega);go_wp2_with fail;refine (zAW _ _ hn' (ha1.l X5)).mono ?_;rintro e w9 ⟨rfl,e9⟩
   go_wp2
   go_ret;exact ⟨zAK HH.out.symm,xt X1 (xt X5 e9)⟩
 ·have hn':decide (a<0)=false:=by simpa using hn
  by_cases hm:b<0
  ·have hm':decide (b<0)=true:=by simpa using hm
   go_region_held3 (fun w'=>(w'.cell? ⟨w.heap.size,0,none⟩=some (iQ a0)/\w'.cell? ⟨w.heap.size,1,none⟩=some (.bool a1)/\w'.cell? ⟨w.heap.size,2,none⟩=some (.slice pa na ca))/\w'.cell? ⟨w.heap.size+1,0,none⟩=some (iQ b0)/\w'.cell? ⟨w.heap.size+1,1,none⟩=some (.bool b1)/\w'.cell? ⟨w.heap.size+1,2,none⟩=some (.slice pb nb cb)) (go_keep)
    (first
     | (go_at_call_of 108 (Value.agg #[iQ a0,.bool a1,.slice pa na ca]);refine (zAW (z:=a) false _ hn' ?_).mono ?_;(exact ha1.l (xd (xr _)));rintro e w4 ⟨rfl,e4⟩;have X4:=xt (xd (xr _)) e4;obtain ⟨⟨c0,c1,c2⟩,_⟩:=Ba.l X4;obtain ⟨⟨d0,d1,d2⟩,_⟩:=Bb.l X4)
     | (go_at_call_of 108 (Value.agg #[iQ b0,.bool b1,.slice pb nb cb]);refine (zAW (z:=b) true _ hm' ?_).mono ?_;(exact hb1.l X4);rintro e w5 ⟨rfl,e5⟩;have X5:=xt X4 e5;obtain ⟨⟨f0,f1,f2⟩,_⟩:=Ba.l X5;obtain ⟨⟨g0,g1,g2⟩,_⟩:=Bb.l X5))
   have HH:Hid (cmpI a b=1):=zE2 (by omega);go_wp2_with fail;refine (zAW _ _ hn' (ha1.l X5)).mono ?_;rintro e w9 ⟨rfl,e9⟩
   go_wp2
   go_ret;exact ⟨zAK HH.out.symm,xt X1 (xt X5 e9)⟩
  ·have hm':decide (b<0)=false:=by simpa using hm
   go_region_held3 (fun w'=>(w'.cell? ⟨w.heap.size,0,none⟩=some (iQ a0)/\w'.cell? ⟨w.heap.size,1,none⟩=some (.bool a1)/\w'.cell? ⟨w.heap.size,2,none⟩=some (.slice pa na ca))/\w'.cell? ⟨w.heap.size+1,0,none⟩=some (iQ b0)/\w'.cell? ⟨w.heap.size+1,1,none⟩=some (.bool b1)/\w'.cell? ⟨w.heap.size+1,2,none⟩=some (.slice pb nb cb)) (go_keep)
    (first
     | (go_at_call_of 108 (Value.agg #[iQ a0,.bool a1,.slice pa na ca]);refine (zAW (z:=a) false _ hn' ?_).mono ?_;(exact ha1.l (xd (xr _)));rintro e w4 ⟨rfl,e4⟩;have X4:=xt (xd (xr _)) e4;obtain ⟨⟨c0,c1,c2⟩,_⟩:=Ba.l X4;obtain ⟨⟨d0,d1,d2⟩,_⟩:=Bb.l X4)
     | (go_at_call_of 108 (Value.agg #[iQ b0,.bool b1,.slice pb nb cb]);refine (zAW (z:=b) false _ hm' ?_).mono ?_;(exact hb1.l X4);rintro e w5 ⟨rfl,e5⟩;have X5:=xt X4 e5;obtain ⟨⟨f0,f1,f2⟩,_⟩:=Ba.l X5;obtain ⟨⟨g0,g1,g2⟩,_⟩:=Bb.l X5))
   have HH:Hid (cmpI (a.natAbs:Int) (b.natAbs:Int)=cmpI a b):=zGP (by omega) (by omega);go_wp2_with fail;go_region_held3 (fun w'=>(w'.cell? ⟨w.heap.size,0,none⟩=some (iQ a0)/\w'.cell? ⟨w.heap.size,1,none⟩=some (.bool a1)/\w'.cell? ⟨w.heap.size,2,none⟩=some (.slice pa na ca))/\w'.cell? ⟨w.heap.size+1,0,none⟩=some (iQ b0)/\w'.cell? ⟨w.heap.size+1,1,none⟩=some (.bool b1)/\w'.cell? ⟨w.heap.size+1,2,none⟩=some (.slice pb nb cb)) (go_keep)
    (first
     | (go_at_call_of 107 (Value.agg #[iQ a0,.bool a1,.slice pa na ca]);refine (zAO (z:=a) _ ?_).mono ?_;(exact (ha1.l X5).l (xd (xr _)));rintro e w6 ⟨x6,rfl,l6,e6⟩;have X6:=xt (xt X5 (xd (xr _))) e6;obtain ⟨⟨i0,i1,i2⟩,_⟩:=Ba.l X6;obtain ⟨⟨j0,j1,j2⟩,_⟩:=Bb.l X6)
     | (go_at_call_of 107 (Value.agg #[iQ b0,.bool b1,.slice pb nb cb]);refine (zAO (z:=b) _ ?_).mono ?_;(exact hb1.l X6);rintro e w7 ⟨x7,rfl,l7,e7⟩;have X7:=xt X6 e7;obtain ⟨⟨k0,k1,k2⟩,_⟩:=Ba.l X7;obtain ⟨⟨m0,m1,m2⟩,_⟩:=Bb.l X7)
     | (go_at_call 112;refine (zFW _ (l6.l e7) l7).mono ?_;rintro e w8 ⟨rfl,e8⟩;have X8:=xt X7 e8;obtain ⟨⟨n0,n1,n2⟩,_⟩:=Ba.l X8;obtain ⟨⟨o0,o1,o2⟩,_⟩:=Bb.l X8))
   go_wp2_with fail;refine (zAW _ _ hn' (ha1.l X8)).mono ?_;rintro e w9 ⟨rfl,e9⟩
   go_wp2
   go_ret;exact ⟨zAK HH.out,xt X1 (xt X8 e9)⟩
theorem zTO {va vb:Value} {a b:Int} (w:World) (ha:ZV w va a) (hb:ZV w vb b) :
  Calls Tryz.prog 131 #[va,vb] w fun e w'=>e=.returned (iQ (cmpI a b))/\Ext w w':=by
 cases sa:zAP a
 ·exact zQN w ha hb sa
 ·cases sb:zAP b
  ·exact zQM w ha hb sa sb
  ·exact zON w ha hb sa sb
end Go.Proofs.YteliaeejooekbaaGreatDoor
namespace Go.Proofs.YteliaeejooekbaaGreatDoor
theorem zBN (xs:List Int) (i:Nat):lv (xs.take (i+1))=lv (xs.take i)+1000000000 ^ i * xs.getD i 0:=by
 by_cases h:i<xs.length
 ·exact zCZ xs i h
 ·rw [List.take_of_length_le (by omega),List.take_of_length_le (by omega),List.getD_eq_getElem?_getD,List.getElem?_eq_none (by omega)];simp
def zFI (xs ys fs:List Int) (n i:Nat) (c:Int):Prop:=
 fs.length=n+1/\Lim fs/\(∀ j,i<=j->fs.getD j 0=0)/\0<=c/\c<=1/\lv fs+1000000000 ^ i * c=lv (xs.take i)+lv (ys.take i)
theorem zFI.start (xs ys:List Int) (n:Nat):zFI xs ys (List.replicate (n+1) 0) n 0 0:=
 ⟨by simp,Lim.zeros _,fun j _=>zBB _ j,by decide,by decide,by simp [lv,zB3]⟩
theorem zFI.step {xs ys fs:List Int} {n i:Nat} {c x y:Int} (h:zFI xs ys fs n i c) (hi:i<=n) (lx:Lim xs) (ly:Lim ys) (ex:xs.getD i 0=x) (ey:ys.getD i 0=y) :
  zFI xs ys (fs.set i ((c+x+y) % 1000000000)) n (i+1) ((c+x+y) / 1000000000):=by
 obtain ⟨h1,h2,h3,c0,c1,h4⟩:=h;have hx:=lx.getD i;have hy:=ly.getD i;rw [ex] at hx;rw [ey] at hy;refine ⟨by simpa using h1,h2.set _ (by omega) (by omega),?_,by omega,by omega,?_⟩
 ·intro j hj;rw [zBT (by omega),if_neg (by omega)];exact h3 j (by omega)
 ·rw [zGE _ _ _ (by omega),h3 i (Nat.le_refl _),zBN xs,zBN ys,ex,ey,Int.pow_succ];have e3:(c+x+y) % 1000000000+1000000000 * ((c+x+y) / 1000000000)=c+x+y:=Int.emod_add_mul_ediv _ _;generalize (c+x+y) / 1000000000=q at *;generalize (c+x+y) % 1000000000=r at *;obtain rfl:r=c+x+y - 1000000000 * q:=by omega
  generalize (1000000000:Int) ^ i=p at *;generalize lv fs=F at *;generalize lv (List.take i xs)=X at *;generalize lv (List.take i ys)=Y at *;simp only [Int.sub_zero,Int.mul_add,Int.mul_sub,Int.mul_comm,Int.mul_left_comm] at h4 ⊢;omega
theorem zFI.done {xs ys fs:List Int} {n:Nat} {c:Int} (h:zFI xs ys fs n (n+1) c) (lx:Lim xs) (ly:Lim ys) (hx:xs.length<=n) (hy:ys.length<=n):lv fs=lv xs+lv ys:=by
 obtain ⟨h1,h2,h3,c0,c1,h4⟩:=h;rw [List.take_of_length_le (by omega),List.take_of_length_le (by omega)] at h4;have b1:=zIN lx;have b2:=zIN ly;have b3:=zD7 hx;have b4:=zD7 hy;have b5:=zCT h2;have hp:=zDX n;rw [Int.pow_succ] at h4;generalize (1000000000:Int) ^ n=p at *;by_cases hc:c=0
 ·subst hc;simp at h4;omega
 ·obtain rfl:c=1:=by omega
  omega
def zFG (xs ys fs:List Int) (i:Nat) (c:Int):Prop:=
 fs.length=xs.length/\Lim fs/\(∀ j,i<=j->fs.getD j 0=0)/\0<=c/\c<=1/\lv fs+lv (ys.take i)=lv (xs.take i)+1000000000 ^ i * c
theorem zFG.start (xs ys:List Int):zFG xs ys (List.replicate xs.length 0) 0 0:=
 ⟨by simp,Lim.zeros _,fun j _=>zBB _ j,by decide,by decide,by simp [lv,zB3]⟩
theorem zFG.step {xs ys fs:List Int} {i:Nat} {c s d:Int} (h:zFG xs ys fs i c) (hi:i<xs.length) (d0:0<=d) (d1:d<=1) (hs:s=xs.getD i 0 - c - ys.getD i 0+1000000000 * d) (s0:0<=s) (s1:s<1000000000) :
  zFG xs ys (fs.set i s) (i+1) d:=by
 obtain ⟨h1,h2,h3,c0,c1,h4⟩:=h;refine ⟨by simpa using h1,h2.set _ s0 s1,?_,d0,d1,?_⟩
 ·intro j hj;rw [zBT (by omega),if_neg (by omega)];exact h3 j (by omega)
 ·rw [zGE _ _ _ (by omega),h3 i (Nat.le_refl _),zBN xs,zBN ys,Int.pow_succ];generalize xs.getD i 0=x at *;generalize ys.getD i 0=y at *;subst hs;generalize (1000000000:Int) ^ i=p at *;generalize lv fs=F at *;generalize lv (List.take i xs)=X at *;generalize lv (List.take i ys)=Y at *;simp only [Int.sub_zero,Int.mul_add,Int.mul_sub,Int.mul_comm,Int.mul_left_comm] at h4 ⊢;omega
theorem zFG.done {xs ys fs:List Int} {c:Int} (h:zFG xs ys fs xs.length c) (hy:ys.length<=xs.length) (hle:lv ys<=lv xs):lv fs=lv xs - lv ys:=by
 obtain ⟨h1,h2,h3,c0,c1,h4⟩:=h;rw [List.take_of_length_le (Nat.le_refl _),List.take_of_length_le hy] at h4;have b1:=zIN h2;rw [h1] at b1;generalize (1000000000:Int) ^ xs.length=p at *;by_cases hc:c=0
 ·subst hc;simp at h4;omega
 ·obtain rfl:c=1:=by omega
  omega
end Go.Proofs.YteliaeejooekbaaGreatDoor
