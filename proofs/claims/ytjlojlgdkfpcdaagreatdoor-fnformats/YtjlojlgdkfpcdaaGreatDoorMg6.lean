/-
  Several texts in one: Zval, Make, MulNum, Mul, CmpNum.
-/
import Derived.Test.YtjlojlgdkfpcdaaGreatDoorMg0
import Derived.Test.YtjlojlgdkfpcdaaGreatDoorMg5
import Derived.Deep.OwnRows
import Derived.Deep.QuietTactic
import Derived.BigQuiet
import Derived.Deep.RegionWith
set_option maxHeartbeats 2000000
set_option maxRecDepth 8000
namespace Go.Proofs.YtjlojlgdkfpcdaaGreatDoor
open Go.RowKit
def C32 (w:World) (b o:Nat) (xs:List Int):Prop:=∀ i,i<xs.length->w.cell? ⟨b,o+i,none⟩=some (.int .u32 (xs.getD i 0))
theorem C32.l {w w1:World} {b o:Nat} {xs:List Int} (h:C32 w b o xs) (hb:Ext w w1):C32 w1 b o xs:=fun i hi=>cell_later hb (h i hi)
def Row (w:World) (v:Value) (xs:List Int):Prop:=
 ∃ (p:Option Addr) (cap:Nat),v=.slice p xs.length cap/\xs.length<=cap/\cap<=9223372036854775807/\((p=none/\cap=0)\/∃ b o,p=some ⟨b,o,none⟩/\C32 w b o xs)
theorem Row.l {w w1:World} {v:Value} {xs:List Int} (h:Row w v xs) (hb:Ext w w1):Row w1 v xs:=by
 obtain ⟨p,cap,e,h1,h2,h3⟩:=h;refine ⟨p,cap,e,h1,h2,?_⟩
 rcases h3 with h3 | ⟨b,o,e,h3⟩
 ·exact .inl h3
 ·exact .inr ⟨b,o,e,h3.l hb⟩
abbrev zS (z:Int):Value:=.agg #[iQ z,.bool false,.slice none 0 0]
abbrev zB (neg:Bool) (p:Addr) (n cap:Nat):Value:=.agg #[iQ 0,.bool neg,.slice (some p) n cap]
def sgn (neg:Bool) (z:Int):Int:=if neg then -z else z
def Top (xs:List Int):Prop:=xs.length=0\/xs.getD (xs.length - 1) 0 ≠ 0
def ZV (w:World) (v:Value) (z:Int):Prop:=
 (-1000000000000000000<z/\z<1000000000000000000/\v=zS z) \/
 ∃ neg b o cap xs,v=zB neg ⟨b,o,none⟩ xs.length cap/\xs.length<=cap/\cap<=9223372036854775807/\C32 w b o xs/\Lim xs/\3<=xs.length/\Top xs/\z=sgn neg (lv xs)
theorem ZV.l {w w1:World} {v:Value} {z:Int} (h:ZV w v z) (hb:Ext w w1):ZV w1 v z:=by
 rcases h with h | ⟨neg,b,o,cap,xs,e,h1,h2,h3,h4⟩
 ·exact .inl h
 ·exact .inr ⟨neg,b,o,cap,xs,e,h1,h2,h3.l hb,h4⟩
theorem ZV.small {w:World} {z:Int} (h1 : -1000000000000000000<z) (h2:z<1000000000000000000):ZV w (zS z) z:=.inl ⟨h1,h2,rfl⟩
theorem zTZ {xs:List Int} (h:Lim xs) (h3:3<=xs.length) (ht:Top xs):1000000000000000000<=lv xs:=by
 have h1:=zPK h (by omega) (ht.resolve_left (by omega));have h2:(1000000000:Int) ^ 2<=1000000000 ^ (xs.length - 1):=by
  have:=Nat.pow_le_pow_right (n:=1000000000) (by decide) (show 2<=xs.length - 1 by omega);have h3:((1000000000 ^ 2:Nat):Int)<=((1000000000 ^ (xs.length - 1):Nat):Int):=by exact_mod_cast this
  simpa using h3
 omega
def zAF (z:Int):Bool:=decide (-1000000000000000000<z/\z<1000000000000000000)
theorem zKM {neg:Bool} {xs:List Int} (h:Lim xs) (h3:3<=xs.length) (ht:Top xs):zAF (sgn neg (lv xs))=false:=by
 have:=zTZ h h3 ht;unfold zAF sgn;cases neg <;> simp <;> omega
theorem zBD {z:Int} (h1 : -1000000000000000000<z) (h2:z<1000000000000000000):zAF z=true:=by simp [zAF,h1,h2]
theorem ZV.small_of {w:World} {v:Value} {z:Int} (h:ZV w v z) (hs:zAF z=true) : -1000000000000000000<z/\z<1000000000000000000/\v=zS z:=by
 rcases h with h | ⟨neg,b,o,cap,xs,rfl,h1,h2,h3,h4,h5,h6,rfl⟩
 ·exact h
 ·rw [zKM h4 h5 h6] at hs;cases hs
theorem zA9 {v:Value} {z:Int} (w:World) (h:ZV w v z) :
  Calls Tryz.prog 153 #[v] w fun e w'=>e=.returned (.bool (zAF z))/\Ext w w':=by
 rcases h with ⟨h1,h2,rfl⟩ | ⟨neg,b,o,cap,xs,rfl,h1,h2,h3,h4,h5,h6,h7⟩
 ·go_enter Tryz.func153,Tryz.ntmps153
  go_wp2
  go_ret;exact ⟨zA5 (zBD h1 h2).symm,x1 _ _⟩
 ·have h9:(((xs.length:Int) == 0))=false:=by rw [beq_eq_false_iff_ne];omega
  subst h7;have H:=zKM (neg:=neg) h4 h5 h6;clear h6 h4 h3;go_enter Tryz.func153,Tryz.ntmps153
  go_wp2
  go_ret;exact ⟨zA5 H.symm,x1 _ _⟩
theorem sgn_neg {neg:Bool} {xs:List Int} (h:Lim xs) (h3:3<=xs.length) (ht:Top xs):decide (sgn neg (lv xs)<0)=neg:=by
 have:=zTZ h h3 ht;cases neg <;> simp [sgn] <;> omega
theorem zDG {v:Value} {z:Int} (w:World) (h:ZV w v z) :
  Calls Tryz.prog 110 #[v] w fun e w'=>e=.returned (.bool (decide (z<0)))/\Ext w w':=by
 rcases h with ⟨h1,h2,rfl⟩ | ⟨neg,b,o,cap,xs,rfl,h1,h2,h3,h4,h5,h6,h7⟩
 ·go_enter Tryz.func110,Tryz.ntmps110
  go_wp2
  go_ret;exact ⟨rfl,x1 _ _⟩
 ·have h9:(0:Int)<(xs.length:Int):=by omega
  subst h7;have H:=sgn_neg (neg:=neg) h4 h5 h6;clear h6 h4 h3;go_enter Tryz.func110,Tryz.ntmps110
  go_wp2
  go_ret;exact ⟨zA5 H.symm,x1 _ _⟩
theorem zH0 {v:Value} {z:Int} (w:World) (h:ZV w v z) :
  Calls Tryz.prog 113 #[v] w fun e w'=>e=.returned (.bool (z == 0))/\Ext w w':=by
 rcases h with ⟨h1,h2,rfl⟩ | ⟨neg,b,o,cap,xs,rfl,h1,h2,h3,h4,h5,h6,h7⟩
 ·go_enter Tryz.func113,Tryz.ntmps113
  go_wp2
  all_goals go_ret
  all_goals exact ⟨rfl,x1 _ _⟩
 ·have h9:(((xs.length:Int) == 0))=false:=by rw [beq_eq_false_iff_ne];omega
  have H:(sgn neg (lv xs) == 0)=false:=by
   have:=zTZ h4 h5 h6;rw [beq_eq_false_iff_ne];cases neg <;> simp [sgn] <;> omega
  subst h7;clear h6 h4 h3;go_enter Tryz.func113,Tryz.ntmps113
  go_wp2
  all_goals go_ret
  all_goals exact ⟨zA5 H.symm,x1 _ _⟩
theorem zEE {v:Value} {z:Int} (w:World) (h:ZV w v z) :
  Calls Tryz.prog 146 #[v] w fun e w'=>∃ v',e=.returned v'/\ZV w' v' (-z)/\Ext w w':=by
 rcases h with ⟨h1,h2,rfl⟩ | ⟨neg,b,o,cap,xs,rfl,h1,h2,h3,h4,h5,h6,rfl⟩
 ·go_enter Tryz.func146,Tryz.ntmps146
  go_wp2
  exact bodyPost_ret (v:=zS (-z)) (by simp [results,Tryz.results146,go_sem]) rfl ⟨_,rfl,.inl ⟨by omega,by omega,rfl⟩,xa (xa (x1 _ _) _) _⟩
 ·have h9:(((xs.length:Int) == 0))=false:=by rw [beq_eq_false_iff_ne];omega
  have H : -sgn neg (lv xs)=sgn (!neg) (lv xs):=by cases neg <;> simp [sgn]
  rw [H];clear H;go_enter Tryz.func146,Tryz.ntmps146
  go_wp2
  exact bodyPost_ret (v:=zB (!neg) ⟨b,o,none⟩ xs.length cap) (by simp [results,Tryz.results146,go_sem]) rfl
   ⟨_,rfl,.inr ⟨!neg,b,o,cap,xs,rfl,h1,h2,((h3.l (x1 _ _)).l (x1 _ _)).l (x1 _ _),h4,h5,h6,rfl⟩,xa (xa (x1 _ _) _) _⟩
def No32 (u:Value):Prop:=∀ n,u ≠ .int .u32 n
theorem C32.apart {w:World} {b o:Nat} {xs:List Int} {p:Addr} {u:Value} (h:C32 w b o xs) (hp:w.cell? p=some u) (hu:No32 u):∀ i,i<xs.length->(⟨b,o+i,none⟩:Addr) ≠ p:=by
 rintro i hi rfl;rw [h i hi] at hp;exact hu _ (Option.some.inj hp).symm
theorem C32.set {w:World} {b o:Nat} {xs:List Int} {p:Addr} {u:Value} (h:C32 w b o xs) (hp:w.cell? p=some u) (hu:No32 u) (a:Value):C32 (w.setCell p a) b o xs:=fun i hi=>by
 rw [World.cell?_setCell_other _ _ _ _ (h.apart hp hu i hi).symm];exact h i hi
theorem ZV.set {w:World} {v:Value} {z:Int} {p:Addr} {u:Value} (h:ZV w v z) (hp:w.cell? p=some u) (hu:No32 u) (a:Value):ZV (w.setCell p a) v z:=by
 rcases h with h | ⟨neg,b,o,cap,xs,e,h1,h2,h3,h4⟩
 ·exact .inl h
 ·exact .inr ⟨neg,b,o,cap,xs,e,h1,h2,h3.set hp hu a,h4⟩
theorem ZV.shape {w:World} {v:Value} {z:Int} (h:ZV w v z):∃ a0 a1 p n cap,v=.agg #[iQ a0,.bool a1,.slice p n cap]:=by
 rcases h with ⟨_,_,rfl⟩ | ⟨neg,b,o,cap,xs,rfl,_⟩
 ·exact ⟨_,_,_,_,_,rfl⟩
 ·exact ⟨_,_,_,_,_,rfl⟩
theorem zV1 (n:Int):No32 (iQ n):=fun _ h=>by cases h
theorem zSG (n:Bool):No32 (.bool n):=fun _ h=>by cases h
theorem zPI (p:Option Addr) (n c:Nat):No32 (.slice p n c):=fun _ h=>by cases h
abbrev ZBox (w:World) (b:Nat):Prop:=∃ a0 a1 p n cap,Box3 w b (iQ a0) (.bool a1) (.slice p n cap)
abbrev set3 (w:World) (b:Nat) (a0 a1 a2:Value):World:=((w.setCell ⟨b,0,none⟩ a0).setCell ⟨b,1,none⟩ a1).setCell ⟨b,2,none⟩ a2
theorem zBC {b i j:Nat} (h:i ≠ j):(⟨b,i,none⟩:Addr) ≠ ⟨b,j,none⟩:=fun e=>h (by cases e;rfl)
theorem ZV.set3 {w:World} {v:Value} {z:Int} {b:Nat} {a0:Int} {a1:Bool} {p:Option Addr} {n cap:Nat} (h:ZV w v z) (hb:Box3 w b (iQ a0) (.bool a1) (.slice p n cap)) (c0 c1 c2:Value):ZV (set3 w b c0 c1 c2) v z:=by
 obtain ⟨⟨q0,q1,q2⟩,_⟩:=hb;have k1:(w.setCell ⟨b,0,none⟩ c0).cell? ⟨b,1,none⟩=some (.bool a1):=by rw [World.cell?_setCell_other _ _ _ _ (zBC (by decide))];exact q1
 have k2:((w.setCell ⟨b,0,none⟩ c0).setCell ⟨b,1,none⟩ c1).cell? ⟨b,2,none⟩=some (.slice p n cap):=by
  rw [World.cell?_setCell_other _ _ _ _ (zBC (by decide)),World.cell?_setCell_other _ _ _ _ (zBC (by decide))];exact q2
 exact ((h.set q0 (zV1 _) _).set k1 (zSG _) _).set k2 (zPI _ _ _) _
theorem Ext.set3 {w w1:World} {b:Nat} (h:Ext w w1) (hb:w.heap.size<=b) (c0 c1 c2:Value):Ext w (set3 w1 b c0 c1 c2):=xset (xset (xset h hb _) hb _) hb _
theorem zI6 {v:Value} {z:Int} (w:World) (h:ZV w v z) :
  Calls Tryz.prog 111 #[v] w fun e w'=>∃ v',e=.returned v'/\ZV w' v' (z.natAbs:Int)/\Ext w w':=by
 obtain ⟨a0,a1,p,n,cap,rfl⟩:=h.shape;by_cases hz:z<0
 ·have hd:decide (z<0)=true:=by simpa using hz
  have e1:(z.natAbs:Int) = -z:=by omega
  rw [e1];clear e1;go_enter Tryz.func111,Tryz.ntmps111;go_wp2_with fail;refine (zDG _ (h.l (xa (x1 _ _) _))).mono ?_;rintro e w1 ⟨rfl,b1⟩;obtain ⟨⟨q0,q1,q2⟩,_⟩:=((Box3.made w (iQ a0) (.bool a1) (.slice p n cap) 103).l (x1 _ _)).l b1;go_wp2_with fail;refine (zEE _ ((h.l (xa (x1 _ _) _)).l b1)).mono ?_;rintro e w2 ⟨v',rfl,hz2,b2⟩;obtain ⟨a0',a1',p',n',cap',rfl⟩:=hz2.shape;have B:=((Box3.made (w.alloc (.cells #[iQ a0,.bool a1,.slice p n cap] 103)) (iQ 0) (.bool false) (.slice none 0 0) 103).l b1).l b2;simp only [World.size_alloc] at B;have Hz:=hz2.set3 B (iQ a0') (.bool a1') (.slice p' n' cap');have Hx:=Ext.set3 (b:=w.heap.size+1) (xt (xt (xa (x1 _ _) _) b1) b2) (by omega) (iQ a0') (.bool a1') (.slice p' n' cap');obtain ⟨⟨r0,r1,r2⟩,s0,s1,s2⟩:=B
  go_wp2
  exact bodyPost_ret (v:=.agg #[iQ a0',.bool a1',.slice p' n' cap']) (by simp [results,Tryz.results111,go_sem,r0,r1,r2]) rfl ⟨_,rfl,Hz,Hx⟩
 ·have hd:decide (z<0)=false:=by simpa using hz
  have e1:(z.natAbs:Int)=z:=by omega
  rw [e1];clear e1;go_enter Tryz.func111,Tryz.ntmps111;go_wp2_with fail;refine (zDG _ (h.l (xa (x1 _ _) _))).mono ?_;rintro e w1 ⟨rfl,b1⟩;obtain ⟨⟨q0,q1,q2⟩,_⟩:=((Box3.made w (iQ a0) (.bool a1) (.slice p n cap) 103).l (x1 _ _)).l b1;have B:=(Box3.made (w.alloc (.cells #[iQ a0,.bool a1,.slice p n cap] 103)) (iQ 0) (.bool false) (.slice none 0 0) 103).l b1;simp only [World.size_alloc] at B;have Hz:=((h.l (xa (x1 _ _) _)).l b1).set3 B (iQ a0) (.bool a1) (.slice p n cap);have Hx:=Ext.set3 (b:=w.heap.size+1) (xt (xa (x1 _ _) _) b1) (by omega) (iQ a0) (.bool a1) (.slice p n cap);obtain ⟨⟨r0,r1,r2⟩,s0,s1,s2⟩:=B
  go_wp2
  exact bodyPost_ret (v:=.agg #[iQ a0,.bool a1,.slice p n cap]) (by simp [results,Tryz.results111,go_sem,r0,r1,r2]) rfl ⟨_,rfl,Hz,Hx⟩
theorem zU5 (n:Int) (w:World) (h1 : -1000000000000000000<n) (h2:n<1000000000000000000) :
  Calls Tryz.prog 154 #[iQ n] w fun e w'=>e=.returned (iQ (n.natAbs:Int))/\w'=w:=by
 go_enter Tryz.func154,Tryz.ntmps154
 go_wp2
 all_goals go_ret
 all_goals exact ⟨zA8 (by omega),rfl⟩
theorem zHA (n x:Int) (w:World) (h1 : -1000000000000000000<n) (h2:n<1000000000000000000) (hx:(n.natAbs:Int)=x) :
  Calls Tryz.prog 154 #[iQ n] w fun e w'=>e=.returned (iQ x)/\w'=w:=by
 rw [<- hx];exact zU5 n w h1 h2
theorem three (u:Int) (h1:1000000000000000000<=u) (h2:u<9000000000000000000) :
  Lim [u % 1000000000,u / 1000000000 % 1000000000,u / 1000000000 / 1000000000]/\Top [u % 1000000000,u / 1000000000 % 1000000000,u / 1000000000 / 1000000000]/\lv [u % 1000000000,u / 1000000000 % 1000000000,u / 1000000000 / 1000000000]=u:=by
 refine ⟨Lim.cons (by omega) (by omega) (Lim.cons (by omega) (by omega) (Lim.cons (by omega) (by omega) Lim.nil)),.inr ?_,?_⟩
 ·show u / 1000000000 / 1000000000 ≠ 0;omega
 ·simp only [lv];omega
theorem C32.three {w:World} {a b c:Int} {t:TypeId} {g:Nat} (hg:g=w.heap.size):C32 (w.alloc (.cells #[.int .u32 a,.int .u32 b,.int .u32 c] t)) g 0 [a,b,c]:=by
 subst hg;intro i hi
 match i,hi with
 | 0,_ | 1,_ | 2,_=>simp [go_sem]
theorem C32.two {w:World} {a b:Int} {t:TypeId} {g:Nat} (hg:g=w.heap.size):C32 (w.alloc (.cells #[.int .u32 a,.int .u32 b] t)) g 0 [a,b]:=by
 subst hg;intro i hi
 match i,hi with
 | 0,_ | 1,_=>simp [go_sem]
theorem C32.one {w:World} {a:Int} {t:TypeId} {g:Nat} (hg:g=w.heap.size):C32 (w.alloc (.cells #[.int .u32 a] t)) g 0 [a]:=by
 subst hg;intro i hi
 match i,hi with
 | 0,_=>simp [go_sem]
theorem zBL (z:Int) (w:World) (h1 : -9000000000000000000<z) (h2:z<9000000000000000000) :
  Calls Tryz.prog 58 #[iQ z] w fun e w'=>∃ v',e=.returned v'/\ZV w' v' z/\Ext w w':=by
 by_cases hs : -1000000000000000000<z/\z<1000000000000000000
 ·obtain ⟨s1,s2⟩:=hs;go_enter Tryz.func58,Tryz.ntmps58
  go_wp2
  exact bodyPost_ret (v:=zS z) (by simp [results,Tryz.results58,go_sem]) rfl ⟨_,rfl,ZV.small s1 s2,x1 _ _⟩
 ·by_cases hn:z<0
  ·obtain ⟨u,rfl⟩:∃ u,z = -u:=⟨-z,by omega⟩;have u1:1000000000000000000<=u:=by omega
   have u2:u<9000000000000000000:=by omega
   clear hs h1 h2 hn;go_enter Tryz.func58,Tryz.ntmps58
   go_wp2
   obtain ⟨t1,t2,t3⟩:=three u u1 u2;refine bodyPost_ret (v:=zB true ⟨w.heap.size+1,0,none⟩ 3 3) (by simp [results,Tryz.results58,go_sem]) rfl ⟨_,rfl,.inr ⟨true,w.heap.size+1,0,3,_,rfl,by simp,by decide,C32.three (by simp),t1,by simp,t2,?_⟩,xa (x1 _ _) _⟩;rw [t3];rfl
  ·have u1:1000000000000000000<=z:=by omega
   have hd:decide (z<0)=false:=by simpa using hn
   clear hs hn h1;go_enter Tryz.func58,Tryz.ntmps58
   go_wp2
   obtain ⟨t1,t2,t3⟩:=three z u1 h2;refine bodyPost_ret (v:=zB false ⟨w.heap.size+1,0,none⟩ 3 3) (by simp [results,Tryz.results58,go_sem]) rfl ⟨_,rfl,.inr ⟨false,w.heap.size+1,0,3,_,rfl,by simp,by decide,C32.three (by simp),t1,by simp,t2,?_⟩,xa (x1 _ _) _⟩;rw [t3];rfl
def zE9 (w:World) (v:Value) (u:Int):Prop:=∃ xs,Row w v xs/\Lim xs/\Top xs/\lv xs=u
theorem zE9.l {w w1:World} {v:Value} {u:Int} (h:zE9 w v u) (hb:Ext w w1):zE9 w1 v u:=by
 obtain ⟨xs,h1,h2⟩:=h;exact ⟨xs,h1.l hb,h2⟩
theorem zE9.nil (w:World):zE9 w (.slice none 0 0) 0:=⟨[],⟨none,0,rfl,Nat.le_refl _,by decide,.inl ⟨rfl,rfl⟩⟩,Lim.nil,.inl rfl,rfl⟩
theorem zE9.one {w:World} {u:Int} {t:TypeId} {g:Nat} (hg:g=w.heap.size) (h1:0<u) (h2:u<1000000000):zE9 (w.alloc (.cells #[.int .u32 u] t)) (.slice (some ⟨g,0,none⟩) 1 1) u:=
 ⟨[u],⟨_,1,rfl,Nat.le_refl _,by decide,.inr ⟨g,0,rfl,C32.one hg⟩⟩,Lim.cons (by omega) h2 Lim.nil,.inr (show u ≠ 0 by omega),by simp [lv]⟩
theorem zE9.two {w:World} {u:Int} {t:TypeId} {g:Nat} (hg:g=w.heap.size) (h1:1000000000<=u) (h2:u<1000000000000000000) :
  zE9 (w.alloc (.cells #[.int .u32 (u % 1000000000),.int .u32 (u / 1000000000)] t)) (.slice (some ⟨g,0,none⟩) 2 2) u:=
 ⟨[u % 1000000000,u / 1000000000],⟨_,2,rfl,Nat.le_refl _,by decide,.inr ⟨g,0,rfl,C32.two hg⟩⟩,Lim.cons (by omega) (by omega) (Lim.cons (by omega) (by omega) Lim.nil),.inr (show u / 1000000000 ≠ 0 by omega),by simp only [lv];omega⟩
theorem zAD {v:Value} {z:Int} (w:World) (h:ZV w v z) :
  Calls Tryz.prog 152 #[v] w fun e w'=>∃ v',e=.returned v'/\zE9 w' v' (z.natAbs:Int)/\Ext w w':=by
 rcases h with ⟨h1,h2,rfl⟩ | ⟨neg,b,o,cap,xs,rfl,h1,h2,h3,h4,h5,h6,rfl⟩
 ·by_cases hn:z<0
  ·obtain ⟨u,rfl⟩:∃ u,z = -u:=⟨-z,by omega⟩;have u1:0<u:=by omega
   have u2:u<1000000000000000000:=by omega
   have e1:((-u).natAbs:Int)=u:=by omega
   rw [e1];clear h1 h2 hn e1;by_cases hb:u<1000000000
   ·go_enter Tryz.func152,Tryz.ntmps152
    go_wp2
    go_ret;exact ⟨_,rfl,zE9.one (by simp) u1 hb,xa (x1 _ _) _⟩
   ·go_enter Tryz.func152,Tryz.ntmps152
    go_wp2
    go_ret;exact ⟨_,rfl,zE9.two (by simp) (by omega) u2,xa (x1 _ _) _⟩
  ·have e1:(z.natAbs:Int)=z:=by omega
   rw [e1];have u1:0<=z:=by omega
   clear h1 hn e1;by_cases hz:z=0
   ·subst hz;go_enter Tryz.func152,Tryz.ntmps152
    go_wp2
    go_ret;exact ⟨_,rfl,zE9.nil _,x1 _ _⟩
   ·by_cases hb:z<1000000000
    ·go_enter Tryz.func152,Tryz.ntmps152
     go_wp2
     go_ret;exact ⟨_,rfl,zE9.one (by simp) (by omega) hb,xa (x1 _ _) _⟩
    ·go_enter Tryz.func152,Tryz.ntmps152
     go_wp2
     go_ret;exact ⟨_,rfl,zE9.two (by simp) (by omega) h2,xa (x1 _ _) _⟩
 ·have h9:(0:Int)<(xs.length:Int):=by omega
  have e1:((sgn neg (lv xs)).natAbs:Int)=lv xs:=by
   have:=zCY h4;unfold sgn;cases neg <;> simp <;> omega
  rw [e1];have L:Hid (∀ w1,Ext w w1->zE9 w1 (.slice (some ⟨b,o,none⟩) xs.length cap) (lv xs)):=fun w1 hx=>⟨xs,⟨_,cap,rfl,h1,h2,.inr ⟨b,o,rfl,h3.l hx⟩⟩,h4,h6,rfl⟩;clear h4 h6 h3 e1;go_enter Tryz.func152,Tryz.ntmps152
  go_wp2
  go_ret;exact ⟨_,rfl,L.out _ (x1 _ _),x1 _ _⟩
theorem zDT {xs:List Int} {j:Nat} (hj:j<xs.length) (h0:xs.getD j 0=0):lv (xs.take (j+1))=lv (xs.take j):=by
 rw [zD6 xs j hj,h0];simp
theorem lv_drop (xs:List Int) (i k:Nat) (h:i<k) (hk:k<=xs.length):lv ((xs.take k).drop i)=lv ((xs.take k).drop (i+1)) * 1000000000+xs.getD i 0:=by
 have hi:i<(xs.take k).length:=by simp;omega
 rw [List.drop_eq_getElem_cons hi];have hi':i<xs.length:=by omega
 simp [lv,hi'];omega
theorem zVD {xs:List Int} (h:Lim xs) (hn:xs.length<=1):0<=lv xs/\lv xs<1000000000:=by
 match xs,h,hn with
 | [],_,_=>simp [lv]
 | [x],h,_=>have:=h.head;simp [lv];omega
theorem lv_two {xs:List Int} (h:Lim xs) (hn:xs.length<=2):0<=lv xs/\lv xs<1000000000000000000:=by
 match xs,h,hn with
 | [],_,_=>simp [lv]
 | [x],h,_=>have:=h.head;simp [lv];omega
 | [x,y],h,_=>have:=h.head;have:=h.tail.head;simp [lv];omega
theorem ZV.of_sgn (w:World) {neg:Bool} {z:Int} (h1:0<=z) (h2:z<1000000000000000000):ZV w (zS (if neg then -z else z)) (sgn neg z):=by
 cases neg
 ·exact ZV.small (by simp;omega) (by simp;omega)
 ·exact ZV.small (by simp;omega) (by simp;omega)
theorem zFW {xs:List Int} {k i:Nat} (h:i<k):(xs.take k).getD i 0=xs.getD i 0:=by
 simp [List.getD_eq_getElem?_getD,h]
theorem zST (neg:Bool) (b o cap:Nat) (xs:List Int) (w:World) (hc:xs.length<=cap) (hcap:cap<=9223372036854775807) (hx:C32 w b o xs) (hl:Lim xs) :
  Calls Tryz.prog 155 #[.bool neg,.slice (some ⟨b,o,none⟩) xs.length cap] w fun e w'=>∃ v',e=.returned v'/\ZV w' v' (sgn neg (lv xs))/\Ext w w':=by
 have HX:Hid (∀ o1 i,i<xs.length->(w.alloc o1).cell? ⟨b,o+i,none⟩=some (.int .u32 (xs.getD i 0))):=fun o1 i hi=>Lib.cell?_alloc_some o1 (hx i hi);go_enter Tryz.func155,Tryz.ntmps155
 go_wp2
 go_loop [5] (fun n=>∃ k:Nat,k<=xs.length/\n=.int .i64 k/\lv (xs.take k)=lv xs) (fun n=>(intOf n).toNat)
 case atStart=>exact ⟨xs.length,Nat.le_refl _,rfl,by simp⟩
 case round =>
  obtain ⟨k,hk,rfl,hv⟩:=hrel;have HV:=hid hv;clear hv;by_cases h0:k=0
  ·subst h0;have HV':Hid (sgn neg (lv xs)=0):=by rw [<- HV.out];cases neg <;> simp [lv,sgn,Hid]
   go_wp2
   go_loop [6,7] (fun v i=>v=.int .i64 0/\i=.int .i64 (-1)) (fun _ _=>0)
   case atStart=>exact ⟨rfl,rfl⟩
   case round =>
    obtain ⟨rfl,rfl⟩:=hrel;cases neg
    all_goals go_wp2
    all_goals exact bodyPost_ret (v:=zS 0) (by simp [results,Tryz.results155,go_sem]) rfl ⟨_,rfl,by rw [HV'.out];exact ZV.small (by decide) (by decide),x1 _ _⟩
  ·obtain ⟨j,rfl⟩:∃ j,k=j+1:=⟨k - 1,by omega⟩;have hj:j<xs.length:=by omega
   by_cases hz:xs.getD j 0=0
   ·have hcell:=fun o1=>HX.out o1 j hj;rw [hz] at hcell;have HN:Hid (lv (xs.take j)=lv xs):=(by have:=HV.out;rw [zDT hj hz] at this;exact this);clear h0 hz
    go_wp2
    go_round
    case rel=>exact ⟨j,by omega,by go_num,HN.out⟩
    case measure=>simp [intOf]
   ·have hcell:=fun o1=>HX.out o1 j hj;obtain ⟨x,hxj⟩:=nm (xs.getD j 0);rw [hxj] at hcell hz;have hz':(x == 0)=false:=(by rw [beq_eq_false_iff_ne];exact hz);have HT:Hid (Top (xs.take (j+1))):=by
     refine .inr ?_;have e:(xs.take (j+1)).length - 1=j:=(by simp;omega);rw [e,zFW (by omega),hxj];exact hz
    clear h0 hxj hz;by_cases h2:j+1 > 2
    ·have h2':(2:Int)<(j:Int)+1:=by omega
     go_wp2
     have e:(xs.take (j+1)).length=j+1:=(by simp;omega);refine bodyPost_ret (v:=zB neg ⟨b,o,none⟩ (j+1) cap) (by simp [results,Tryz.results155,go_sem]) rfl ⟨_,rfl,.inr ⟨neg,b,o,cap,xs.take (j+1),by rw [e],by omega,hcap,?_,hl.take _,by omega,HT.out,by rw [HV.out]⟩,x1 _ _⟩;intro i hi;rw [zFW (by omega)];exact Lib.cell?_alloc_some _ (hx i (by omega))
    ·have h2':(j:Int)+1<=2:=(by omega);have hl2:=hl.take (j+1);have LB:Hid (0<=lv xs/\lv xs<1000000000000000000):=by have:=lv_two hl2 (by simp;omega);rw [HV.out] at this;exact this
     go_wp2
     go_loop [6,7] (fun v i=>∃ m:Nat,m<=j+1/\i=.int .i64 ((m:Int) - 1)/\v=.int .i64 (lv ((xs.take (j+1)).drop m))) (fun _ i=>(intOf i+1).toNat)
     case atStart=>exact ⟨j+1,Nat.le_refl _,by go_num,by simp [lv]⟩
     case round =>
      obtain ⟨m,hm,rfl,rfl⟩:=hrel;by_cases hm0:m=0
      ·subst hm0;obtain ⟨l1,l2⟩:=LB.out;have hv0:lv ((xs.take (j+1)).drop 0)=lv xs:=HV.out;rw [hv0];cases neg
       ·go_wp2
        exact bodyPost_ret (v:=zS (lv xs)) (by simp [results,Tryz.results155,go_sem]) rfl ⟨_,rfl,ZV.of_sgn (neg:=false) _ l1 l2,x1 _ _⟩
       ·go_wp2
        exact bodyPost_ret (v:=zS (-lv xs)) (by simp [results,Tryz.results155,go_sem]) rfl ⟨_,rfl,ZV.of_sgn (neg:=true) _ l1 l2,x1 _ _⟩
      ·obtain ⟨i,rfl⟩:∃ i,m=i+1:=⟨m - 1,by omega⟩;have hi:i<xs.length:=(by omega);have hci:=fun o1=>HX.out o1 i hi;have hlx:=hl.getD i;have HS:Hid (lv ((xs.take (j+1)).drop i)=lv ((xs.take (j+1)).drop (i+1)) * 1000000000+xs.getD i 0):=lv_drop xs i (j+1) (by omega) (by omega);have hls:=zVD ((hl.take (j+1)).drop (i+1)) (by simp;omega);obtain ⟨y,hy⟩:=nm (xs.getD i 0);obtain ⟨v,hv⟩:=nm (lv ((xs.take (j+1)).drop (i+1)));rw [hy] at hci hlx HS;rw [hv] at hls HS;rw [hv];obtain ⟨y1,y2⟩:=hlx;obtain ⟨v1,v2⟩:=hls;have e1:(((i+1:Nat):Int) - 1)=(i:Int):=(by omega);rw [e1];clear hy hv e1 hm0 hcell hz' h2'
       go_wp2
       go_round
       case rel=>exact ⟨i,by omega,by go_num,by rw [HS.out]⟩
       case measure=>simp [intOf]
theorem zSU (neg:Bool) (w:World) :
  Calls Tryz.prog 155 #[.bool neg,.slice none 0 0] w fun e w'=>∃ v',e=.returned v'/\ZV w' v' (sgn neg 0)/\Ext w w':=by
 have HV':Hid (sgn neg 0=0):=by cases neg <;> simp [sgn,Hid]
 rw [HV'.out];go_enter Tryz.func155,Tryz.ntmps155
 go_wp2
 go_loop [5] (fun n=>n=.int .i64 0) (fun _=>0)
 case atStart=>rfl
 case round =>
  subst hrel
  go_wp2
  go_loop [6,7] (fun v i=>v=.int .i64 0/\i=.int .i64 (-1)) (fun _ _=>0)
  case atStart=>exact ⟨rfl,rfl⟩
  case round =>
   obtain ⟨rfl,rfl⟩:=hrel;cases neg
   all_goals go_wp2
   all_goals exact bodyPost_ret (v:=zS 0) (by simp [results,Tryz.results155,go_sem]) rfl ⟨_,rfl,ZV.small (by decide) (by decide),x1 _ _⟩
theorem zES (neg:Bool) {v:Value} {xs:List Int} (w:World) (h:Row w v xs) (hl:Lim xs) :
  Calls Tryz.prog 155 #[.bool neg,v] w fun e w'=>∃ v',e=.returned v'/\ZV w' v' (sgn neg (lv xs))/\Ext w w':=by
 obtain ⟨p,cap,rfl,h1,h2,h3⟩:=h
 rcases h3 with ⟨rfl,rfl⟩ | ⟨b,o,rfl,h3⟩
 ·obtain rfl:xs=[]:=List.eq_nil_of_length_eq_zero (by omega);exact zSU neg w
 ·exact zST neg b o cap xs w h1 h2 h3 hl
end Go.Proofs.YtjlojlgdkfpcdaaGreatDoor

namespace Go.Proofs.YtjlojlgdkfpcdaaGreatDoor
def zEX (xs ys fs:List Int) (i j:Nat) (c:Int):Prop:=
 fs.length=xs.length+ys.length+1/\Lim fs/\(∀ n,i+ys.length<=n->fs.getD n 0=0)/\0<=c/\c<1000000000 /\
 lv fs+1000000000 ^ (i+j) * c=lv (xs.take i) * lv ys+xs.getD i 0 * (1000000000 ^ i * lv (ys.take j))
theorem zEX.start {xs ys fs:List Int} {i:Nat} (h1:fs.length=xs.length+ys.length+1) (h2:Lim fs) (h3:∀ n,i+ys.length<=n->fs.getD n 0=0) (h4:lv fs=lv (xs.take i) * lv ys):zEX xs ys fs i 0 0:=
 ⟨h1,h2,h3,by decide,by decide,by simp [lv,h4]⟩
theorem zGD {x y f c:Int} (x0:0<=x) (x1:x<1000000000) (y0:0<=y) (y1:y<1000000000) (f0:0<=f) (f1:f<1000000000) (c0:0<=c) (c1:c<1000000000) :
  0<=x * y/\x * y<=999999998000000001/\f+x * y+c<1000000000000000000:=by
 have h0:0<=x * y:=Int.mul_nonneg x0 y0;have h1:x * y<=999999999 * 999999999:=Int.mul_le_mul (by omega) (by omega) y0 (by decide);omega
theorem zEX.step {xs ys fs:List Int} {i j:Nat} {c x y f:Int} (h:zEX xs ys fs i j c) (hi:i<xs.length) (hj:j<ys.length) (lx:Lim xs) (ly:Lim ys)
  (ex:xs.getD i 0=x) (ey:ys.getD j 0=y) (ef:fs.getD (i+j) 0=f) :
  zEX xs ys (fs.set (i+j) ((f+x * y+c) % 1000000000)) i (j+1) ((f+x * y+c) / 1000000000):=by
 obtain ⟨h1,h2,h3,c0,c1,h4⟩:=h;have hx:=lx.getD i;have hy:=ly.getD j;have hf:=h2.getD (i+j);rw [ex] at hx h4;rw [ey] at hy;rw [ef] at hf;obtain ⟨m0,m1,m2⟩:=zGD hx.1 hx.2 hy.1 hy.2 hf.1 hf.2 c0 c1;refine ⟨by simpa using h1,h2.set _ (by omega) (by omega),?_,by omega,by omega,?_⟩
 ·intro n hn;rw [zBY (by omega),if_neg (by omega)];exact h3 n hn
 ·rw [zHQ _ _ _ (by omega),ef,ex,zD6 ys j hj,ey];have e1:(1000000000:Int) ^ (i+(j+1))=1000000000 ^ (i+j) * 1000000000:=by rw [<- Nat.add_assoc,Int.pow_succ]
  have e2:(1000000000:Int) ^ (i+j)=1000000000 ^ i * 1000000000 ^ j:=Int.pow_add _ _ _;have e3:(f+x * y+c) % 1000000000+1000000000 * ((f+x * y+c) / 1000000000)=f+x * y+c:=Int.emod_add_mul_ediv _ _;rw [e1];generalize (f+x * y+c) / 1000000000=q at *;generalize (f+x * y+c) % 1000000000=r at *;have e4:r=f+x * y+c - 1000000000 * q:=by omega
  subst e4;rw [e2] at h4 ⊢;generalize (1000000000:Int) ^ i=p at *;generalize (1000000000:Int) ^ j=s at *;generalize lv fs=F at *;generalize lv (List.take j ys)=Y at *;generalize lv (List.take i xs) * lv ys=P at *;simp only [Int.mul_add,Int.mul_sub,Int.mul_assoc,Int.mul_comm,Int.mul_left_comm] at h4 ⊢;omega
theorem zEX.close {xs ys fs:List Int} {i:Nat} {c:Int} (h:zEX xs ys fs i ys.length c) (hi:i<xs.length) :
  (fs.set (i+ys.length) c).length=xs.length+ys.length+1/\Lim (fs.set (i+ys.length) c)/\(∀ n,(i+1)+ys.length<=n->(fs.set (i+ys.length) c).getD n 0=0)/\lv (fs.set (i+ys.length) c)=lv (xs.take (i+1)) * lv ys:=by
 obtain ⟨h1,h2,h3,c0,c1,h4⟩:=h;refine ⟨by simpa using h1,h2.set _ c0 c1,?_,?_⟩
 ·intro n hn;rw [zBY (by omega),if_neg (by omega)];exact h3 n (by omega)
 ·rw [zHQ _ _ _ (by omega),h3 _ (Nat.le_refl _),zD6 xs i hi];simp only [List.take_length] at h4;simp only [Int.sub_zero,Int.add_mul];rw [h4];simp only [Int.mul_assoc,Int.mul_comm]
end Go.Proofs.YtjlojlgdkfpcdaaGreatDoor

namespace Go.Proofs.YtjlojlgdkfpcdaaGreatDoor
open Go.RowKit
theorem zF0:(Tryz.prog.info? 146).map (fun i=>(i.zero,i.size,i.bytes))=some (some (.int .u32 0),1,4):=by kernel_rfl
abbrev zAH (w:World) (g:Nat) (fs:List Int):Prop:=w.rowIs g 146 fs.length (fun j=>.int .u32 (fs.getD j 0))
theorem zAH.zeros (w:World) (n:Nat):zAH (w.alloc (.cells (madeCells #[.int .u32 0] n) 146)) w.heap.size (List.replicate n 0):=by
 have:=World.rowIs_made w (.int .u32 0) n 146;unfold zAH;rw [List.length_replicate];exact this.congr (fun i _=>by rw [zB9])
theorem zAH.set {w:World} {g:Nat} {fs:List Int} (h:zAH w g fs) (i:Nat) (hi:i<fs.length) (v:Int):zAH (w.setCell ⟨g,i,none⟩ (.int .u32 v)) g (fs.set i v):=by
 have:=World.rowIs.set h i (.int .u32 v);unfold zAH;rw [List.length_set];refine this.congr (fun j _=>?_);rw [zBY hi]
 split <;> rfl
theorem zAH.drewN {w:World} {g:Nat} {fs:List Int} (h:zAH w g fs) (n:Nat):zAH (w.drewN n) g fs:=World.rowIs.of_block h rfl
theorem xdN {a b:World} (h:Ext a b) (n:Nat):Ext a (b.drewN n):=⟨h.os,h.tape,h.output,h.size,h.block⟩
theorem zAH.row {w:World} {g:Nat} {fs:List Int} (h:zAH w g fs) (hn:fs.length<=9223372036854775807):Row w (.slice (some ⟨g,0,none⟩) fs.length fs.length) fs:=
 ⟨_,fs.length,rfl,Nat.le_refl _,hn,.inr ⟨g,0,rfl,fun i hi=>by rw [Nat.zero_add];exact World.rowIs.cell h hi⟩⟩
theorem zM2 (a b:Int):sgn (!(decide (a<0) == decide (b<0))) ((a.natAbs:Int) * (b.natAbs:Int))=a * b:=by
 have h:∀ z:Int,((z.natAbs:Int)=z/\¬ z<0)\/((z.natAbs:Int) = -z/\z<0):=fun z=>by omega
 rcases h a with ⟨ea,ha⟩ | ⟨ea,ha⟩ <;> rcases h b with ⟨eb,hb⟩ | ⟨eb,hb⟩ <;> simp [ea,eb,ha,hb,sgn,Int.neg_mul,Int.mul_neg]
theorem zV6 {va vb:Value} {a b:Int} (w:World) (ha:ZV w va a) (hb:ZV w vb b) (sa':zAF a=false) (k:Nat) (hk:k<=1000000000) (ka:(a.natAbs:Int)<1000000000 ^ k) (kb:(b.natAbs:Int)<1000000000 ^ k) :
  Calls Tryz.prog 92 #[va,vb] w fun e w'=>∃ v',e=.returned v'/\ZV w' v' (a * b)/\Ext w w':=by
 obtain ⟨a0,a1,pa,na,ca,rfl⟩:=ha.shape;obtain ⟨b0,b1,pb,nb,cb,rfl⟩:=hb.shape;go_enter Tryz.func92,Tryz.ntmps92;go_wp2_with fail;refine (zA9 _ (ha.l (xa (xa (x1 _ _) _) _))).mono ?_;rintro e w1 ⟨rfl,e1⟩;have Ba:=((Box3.made w (iQ a0) (.bool a1) (.slice pa na ca) 103).l (xa (x1 _ _) _)).l e1;have Bb:=((Box3.made (w.alloc (.cells #[iQ a0,.bool a1,.slice pa na ca] 103)) (iQ b0) (.bool b1) (.slice pb nb cb) 103).l (x1 _ _)).l e1;have Br:=(Box3.made ((w.alloc (.cells #[iQ a0,.bool a1,.slice pa na ca] 103)).alloc (.cells #[iQ b0,.bool b1,.slice pb nb cb] 103)) (iQ 0) (.bool false) (.slice none 0 0) 103).l e1;simp only [World.size_alloc] at Ba Bb Br;have ha1:=(ha.l (xa (xa (x1 _ _) _) _)).l e1;have hb1:=(hb.l (xa (xa (x1 _ _) _) _)).l e1;have X1:=xt (xa (xa (x1 _ _) _) _) e1;clear e1 ha hb;have Ba':=Ba;obtain ⟨⟨p0,p1,p2⟩,_⟩:=Ba';go_wp2_with fail;clear p0 p1 p2 sa';refine (zAD _ ha1).mono ?_;rintro e w2 ⟨x,rfl,hx2,e2⟩;obtain ⟨⟨q0,q1,q2⟩,_⟩:=Bb.l e2;go_wp2_with fail;refine (zAD _ (hb1.l e2)).mono ?_;rintro e w3 ⟨y,rfl,hy3,e3⟩;obtain ⟨xs,⟨px,cx,rfl,cx1,cx2,cx3⟩,lx,tx,vx⟩:=hx2.l e3;obtain ⟨ys,⟨py,cy,rfl,cy1,cy2,cy3⟩,ly,ty,vy⟩:=hy3;have nx:xs.length<=k:=zEF lx tx (by rw [vx];exact ka);have ny:ys.length<=k:=zEF ly ty (by rw [vy];exact kb);have Ba3:=(Ba.l e2).l e3;have Bb3:=(Bb.l e2).l e3;have Br3:=(Br.l e2).l e3;have ha3:=(ha1.l e2).l e3;have hb3:=(hb1.l e2).l e3;have X3:=xt (xt X1 e2) e3;have HV:Hid (lv xs=(a.natAbs:Int)/\lv ys=(b.natAbs:Int)):=⟨vx,vy⟩;clear hx2 vx vy ha1 hb1 e2 e3 Ba Bb Br X1 q0 q1 q2 ka kb;have hmk:=run_make_row' (P:=Tryz.prog) 101 146 (.int .u32 0) 4 Tryz.underlying101 zF0 rfl .i64 .i64 (xs.length+ys.length+1) (by omega) (by omega);have ec:((xs.length+ys.length+1:Nat):Int)=(xs.length:Int)+(ys.length:Int)+1:=by omega
 rw [ec] at hmk;clear ec;go_wp2_with fail;go_loopw [53] (fun i wr=>∃ (n:Nat) (fs:List Int),n<=xs.length/\i=.int .i64 n/\zAH wr w3.heap.size fs/\fs.length=xs.length+ys.length+1/\Lim fs/\(∀ j,n+ys.length<=j->fs.getD j 0=0)/\lv fs=lv (xs.take n) * lv ys/\Ext w3 wr) (fun i _=>xs.length - (intOf i).toNat)
 case atStart=>exact ⟨0,List.replicate (xs.length+ys.length+1) 0,Nat.zero_le _,rfl,zAH.zeros _ _,by simp,Lim.zeros _,fun j _=>zB9 _ j,by simp [zB2,lv],x1 _ _⟩
 case round =>
  obtain ⟨n,fs,hn,rfl,ho,hfl,hlf,hz,hv,X4⟩:=hrel;by_cases hlt:n<xs.length
  ·obtain ⟨bx,ox,rfl,cx4⟩:∃ b o,px=some ⟨b,o,none⟩/\C32 w3 b o xs:=by
    rcases cx3 with ⟨_,h⟩ | h
    ·omega
    ·exact h
   have hst:=zEX.start (xs:=xs) (i:=n) hfl hlf hz hv;have HS:=hid hst;clear hst hz hv hfl hlf;go_wp2_with fail;go_loopw [11,58] (fun c j wq=>∃ (m:Nat) (gs:List Int) (cc:Int),m<=ys.length/\j=.int .i64 m/\c=.int .u64 cc/\zAH wq w3.heap.size gs/\zEX xs ys gs n m cc/\Ext w3 wq) (fun _ j _=>ys.length - (intOf j).toNat)
   case atStart=>exact ⟨0,fs,0,Nat.zero_le _,rfl,rfl,ho,HS.out,X4⟩
   case round =>
    obtain ⟨m,gs,cc,hm,rfl,rfl,hq,hM,X5⟩:=hrel;clear ho HS X4;by_cases hmlt:m<ys.length
    ·obtain ⟨by1,oy,rfl,cy4⟩:∃ b o,py=some ⟨b,o,none⟩/\C32 w3 b o ys:=by
      rcases cy3 with ⟨_,h⟩ | h
      ·omega
      ·exact h
     have HM:=hM;obtain ⟨m1,m2,m3,m4,m5,_⟩:=hM;obtain ⟨x,ex⟩:=nm (xs.getD n 0);obtain ⟨y,ey⟩:=nm (ys.getD m 0);obtain ⟨f,ef⟩:=nm (gs.getD (n+m) 0);have kx:=(cx4.l X5) n hlt;have ky:=(cy4.l X5) m hmlt;have kf:=World.rowIs.cell hq (i:=n+m) (by omega);have kz:=World.rowIs.frozen hq (n+m);rw [ex] at kx;rw [ey] at ky;rw [ef] at kf;obtain ⟨x0,x1'⟩:=lx.getD n;obtain ⟨y0,y1⟩:=ly.getD m;obtain ⟨f0,f1⟩:=m2.getD (n+m);rw [ex] at x0 x1';rw [ey] at y0 y1;rw [ef] at f0 f1;obtain ⟨s0,s1,s2⟩:=zGD x0 x1' y0 y1 f0 f1 m4 m5;have HN:Hid (zEX xs ys (gs.set (n+m) ((f+x * y+cc) % 1000000000)) n (m+1) ((f+x * y+cc) / 1000000000)):=HM.step hlt hmlt lx ly ex ey ef;have HQ:Hid (zAH wr w3.heap.size gs/\n+m<gs.length):=⟨hq,by omega⟩;clear HM ex ey ef hq m1 m3 m2 cx3 cy3 cx4 cy4 lx ly tx ty hmk ha3 hb3 Ba3 Bb3 Br3;go_wp2_with fail;go_quiet (fail)
     go_wp2
     go_roundw
     case rel=>exact ⟨m+1,_,_,by omega,by go_num,rfl,(HQ.out.1.drewN _).set _ HQ.out.2 _,HN.out,xset (xdN X5 _) (Nat.le_refl _) _⟩
     case measure=>simp [intOf];omega
    ·obtain rfl:m=ys.length:=(by omega);have hM':=hM;obtain ⟨m1,m2,m3,m4,m5,_⟩:=hM';have kf:=World.rowIs.cell hq (i:=n+ys.length) (by omega);have kz:=World.rowIs.frozen hq (n+ys.length);have HN:=hM.close hlt;have HC:Hid (∃ fs',fs'=gs.set (n+ys.length) cc/\fs'.length=xs.length+ys.length+1/\Lim fs'/\(∀ j,(n+1)+ys.length<=j->fs'.getD j 0=0)/\lv fs'=lv (xs.take (n+1)) * lv ys):=⟨_,rfl,HN⟩;have HQ:Hid (zAH wr w3.heap.size gs/\n+ys.length<gs.length):=⟨hq,by omega⟩;clear HN hM hq m3 m2 cx3 cy3 cx4 lx ly tx ty hmk ha3 hb3 Ba3 Bb3 Br3
     go_wp2
     go_roundw
     case rel =>
      obtain ⟨fs',ef,c1,c2,c3,c4⟩:=HC.out;exact ⟨n+1,fs',by omega,by go_num,by rw [ef];exact HQ.out.1.set _ HQ.out.2 _,c1,c2,c3,c4,xset X5 (Nat.le_refl _) _⟩
     case measure=>simp [intOf];omega
  ·obtain rfl:n=xs.length:=by omega
   have hv':lv fs=(a.natAbs:Int) * (b.natAbs:Int):=by
    rw [hv,List.take_length,HV.out.1,HV.out.2]
   have R4:=ho.row (by omega);rw [hfl] at R4;have HR:Hid (Row wr (.slice (some ⟨w3.heap.size,0,none⟩) (xs.length+ys.length+1) (xs.length+ys.length+1)) fs/\Lim fs):=⟨R4,hlf⟩;have Ba4:=Ba3.l X4;have Bb4:=Bb3.l X4;have Br4:=Br3.l X4;have ha4:=ha3.l X4;have hb4:=hb3.l X4;have X5:=xt X3 X4;have Ba5:=Ba4;have Bb5:=Bb4;obtain ⟨⟨p0,p1,p2⟩,_⟩:=Ba5;obtain ⟨⟨q0,q1,q2⟩,_⟩:=Bb5;have HP:Hid (sgn (!(decide (a<0) == decide (b<0))) (lv fs)=a * b):=by rw [hv'];exact zM2 a b
   clear R4 hv hv' hz ho hfl hlf cx3 cy3 lx ly tx ty hmk ha3 hb3 Ba3 Bb3 Br3 HV X3 X4;go_wp2_with fail;go_region_with (first
    | (go_at_call_of 110 (Value.agg #[iQ a0,.bool a1,.slice pa na ca]);refine (zDG (z:=a) _ ?_).mono ?_;(exact ha4.l (by first | exact xr _ | exact xd (xr _)));rintro e w4 ⟨rfl,e4⟩;obtain ⟨⟨q0',q1',q2'⟩,_⟩:=Bb4.l (xt (xd (xr _)) e4))
    | (go_at_call_of 110 (Value.agg #[iQ b0,.bool b1,.slice pb nb cb]);refine (zDG (z:=b) _ ?_).mono ?_;(exact hb4.l (xt (xd (xr _)) (by assumption)));rintro e w5 ⟨rfl,e5⟩)
    | (go_at_call 155;refine (zES _ _ (HR.out.1.l (xt (xt (xd (xr _)) (by assumption)) (by assumption))) HR.out.2).mono ?_;rintro e w6 ⟨v',rfl,hz6,e6⟩;obtain ⟨a0',a1',p',n',cap',rfl⟩:=hz6.shape;have X6:=xt (xt (xt (xd (xr wr)) (by assumption)) (by assumption)) e6;have B6:=Br4.l X6;obtain ⟨⟨r0,r1,r2⟩,s0,s1,s2⟩:=B6))
   all_goals
    go_wp2
    exact bodyPost_ret (v:=.agg #[iQ a0',.bool a1',.slice p' n' cap']) (by simp [results,Tryz.results92,go_sem,r0,r1,r2]) rfl ⟨_,rfl,by rw [<- HP.out];exact hz6.set3 (Br4.l X6) _ _ _,Ext.set3 (xt X5 X6) (by omega) _ _ _⟩
end Go.Proofs.YtjlojlgdkfpcdaaGreatDoor

namespace Go.Proofs.YtjlojlgdkfpcdaaGreatDoor
def cmpI (a b:Int):Int:=if a<b then -1 else if b<a then 1 else 0
theorem zEK {a b:Int} (h:a<b):cmpI a b = -1:=by unfold cmpI;rw [if_pos h]
theorem zE2 {a b:Int} (h:b<a):cmpI a b=1:=by unfold cmpI;rw [if_neg (by omega),if_pos h]
theorem zMU (a:Int):cmpI a a=0:=by unfold cmpI;rw [if_neg (by omega),if_neg (by omega)]
theorem cmpI_neg (a b:Int) : -cmpI a b=cmpI (-a) (-b):=by unfold cmpI;split <;> (try split) <;> (try split) <;> (try split) <;> omega
theorem zB8 {i j:Nat} (h:i<=j):(1000000000:Int) ^ i<=1000000000 ^ j:=by
 have:=Nat.pow_le_pow_right (n:=1000000000) (by decide) h;have h3:((1000000000 ^ i:Nat):Int)<=((1000000000 ^ j:Nat):Int):=by exact_mod_cast this
 simpa using h3
theorem zHR {xs ys:List Int} (lx:Lim xs) (ly:Lim ys) (ty:ys.getD (ys.length - 1) 0 ≠ 0) (h:xs.length<ys.length):lv xs<lv ys:=by
 have h1:=zL0 lx;have h2:=zPK ly (by omega) ty;have h3:=zB8 (show xs.length<=ys.length - 1 by omega);omega
theorem zFR (xs:List Int) (j:Nat) (h:j<xs.length):lv xs=lv (xs.take j)+1000000000 ^ j * (xs.getD j 0+1000000000 * lv (xs.drop (j+1))):=by
 have e:xs=xs.take j++(xs[j] :: xs.drop (j+1)):=by rw [<- List.drop_eq_getElem_cons h,List.take_append_drop]
 have h1:=congrArg lv e;rw [zL1] at h1;simp only [lv,List.length_take,Nat.min_eq_left (Nat.le_of_lt h)] at h1;rw [h1];simp [h]
theorem lv_top {xs ys:List Int} {j:Nat} (lx:Lim xs) (ly:Lim ys) (hx:j<xs.length) (hy:j<ys.length) (hd:xs.drop (j+1)=ys.drop (j+1)) (h:xs.getD j 0<ys.getD j 0):lv xs<lv ys:=by
 rw [zFR xs j hx,zFR ys j hy,hd];have h1:=zL0 (lx.take j);have h2:=zCY (ly.take j);have e:(xs.take j).length=j:=by simp;omega
 rw [e] at h1;generalize lv (ys.drop (j+1))=D at *;generalize xs.getD j 0=x at *;generalize ys.getD j 0=y at *;generalize lv (xs.take j)=X at *;generalize lv (ys.take j)=Y at *;have hp:=zDX j;have h3:(1000000000:Int) ^ j * (x+1000000000 * D+1)<=1000000000 ^ j * (y+1000000000 * D):=Int.mul_le_mul_of_nonneg_left (by omega) (by omega);rw [Int.mul_add _ _ 1,Int.mul_one] at h3;omega
theorem zTF {xs ys:List Int} {j:Nat} (hx:j<xs.length) (hy:j<ys.length) (hd:xs.drop (j+1)=ys.drop (j+1)) (h:xs.getD j 0=ys.getD j 0):xs.drop j=ys.drop j:=by
 rw [List.drop_eq_getElem_cons hx,List.drop_eq_getElem_cons hy,hd];have e1:xs.getD j 0=xs[j]:=by simp [hx]
 have e2:ys.getD j 0=ys[j]:=by simp [hy]
 rw [<- e1,<- e2,h]
end Go.Proofs.YtjlojlgdkfpcdaaGreatDoor

