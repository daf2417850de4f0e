/-
  Several texts in one: Num, Zval, CmpNum, CmpD, Cmp, AddNum, TextNum.
-/
import Derived.Test.YtogecaajnjcenaaGreatDoorBase
import Derived.Deep.QuietTactic
import Derived.BigQuiet
import Derived.Deep.RegionHeld3
namespace Go.Proofs.YtogecaajnjcenaaGreatDoor
def lv:List Int→Int
 | []=>0
 | x :: xs=>x+1000000000 * lv xs
def Lim (xs:List Int):Prop:=∀ x ∈ xs,0≤x∧x<1000000000
theorem Lim.nil:Lim []:=fun _ h=>by cases h
theorem Lim.cons {x:Int} {xs:List Int} (h0:0≤x) (h1:x<1000000000) (h:Lim xs):Lim (x :: xs):=fun y hy=>by
 rcases List.mem_cons.1 hy with rfl | hy
 ·exact ⟨h0,h1⟩
 ·exact h y hy
theorem Lim.head {x:Int} {xs:List Int} (h:Lim (x :: xs)):0≤x∧x<1000000000:=h x (by simp)
theorem Lim.tail {x:Int} {xs:List Int} (h:Lim (x :: xs)):Lim xs:=fun y hy=>h y (by simp [hy])
theorem Lim.take {xs:List Int} (h:Lim xs) (n:Nat):Lim (xs.take n):=fun y hy=>h y (List.mem_of_mem_take hy)
theorem Lim.drop {xs:List Int} (h:Lim xs) (n:Nat):Lim (xs.drop n):=fun y hy=>h y (List.mem_of_mem_drop hy)
theorem Lim.getD {xs:List Int} (h:Lim xs) (i:Nat):0≤xs.getD i 0∧xs.getD i 0<1000000000:=by
 by_cases hi:i<xs.length
 ·rw [List.getD_eq_getElem?_getD,List.getElem?_eq_getElem hi];exact h _ (List.getElem_mem hi)
 ·rw [List.getD_eq_getElem?_getD,List.getElem?_eq_none (by omega)];simp
theorem lv_nonneg:∀ {xs:List Int},Lim xs→0≤lv xs
 | [],_=>by simp [lv]
 | x :: xs,h=>by
  have:=lv_nonneg h.tail;have:=h.head;simp only [lv];omega
theorem lv_app:∀ (xs ys:List Int),lv (xs++ys)=lv xs+1000000000 ^ xs.length * lv ys
 | [],ys=>by simp [lv]
 | x :: xs,ys=>by
  simp only [List.cons_append,lv,lv_app xs ys,List.length_cons,Int.pow_succ];rw [Int.mul_add,Int.mul_comm (1000000000 ^ xs.length) 1000000000,← Int.mul_assoc];omega
theorem pos_pow (n:Nat):(0:Int)<1000000000 ^ n:=Int.pow_pos (by decide)
theorem lv_ge {xs:List Int} (h:Lim xs) (hn:0<xs.length) (ht:xs.getD (xs.length - 1) 0 ≠ 0):1000000000 ^ (xs.length - 1)≤lv xs:=by
 obtain ⟨ys,y,rfl⟩:∃ ys y,xs=ys++[y]:=⟨xs.dropLast,xs.getLast (by intro e;simp [e] at hn),(List.dropLast_concat_getLast _).symm⟩;have h1:(ys++[y]).getD ((ys++[y]).length - 1) 0=y:=by simp
 rw [h1] at ht;have hy:=h y (by simp);have h0:=lv_nonneg (fun z hz=>h z (by simp [hz]):Lim ys);rw [lv_app];simp only [List.length_append,List.length_singleton,Nat.add_sub_cancel,lv];have hp:=pos_pow ys.length;have:(1000000000:Int) ^ ys.length * 1≤1000000000 ^ ys.length * (y+1000000000 * 0):=Int.mul_le_mul_of_nonneg_left (by omega) (by omega);omega
theorem len_le {xs:List Int} {k:Nat} (h:Lim xs) (ht:xs.length=0∨xs.getD (xs.length - 1) 0 ≠ 0) (hk:lv xs<1000000000 ^ k):xs.length≤k:=by
 rcases ht with ht | ht
 ·omega
 ·by_cases hn:xs.length≤k
  ·exact hn
  ·have h1:=lv_ge h (by omega) ht;have h2:(1000000000:Int) ^ k≤1000000000 ^ (xs.length - 1):=by
    have:=Nat.pow_le_pow_right (n:=1000000000) (by decide) (show k≤xs.length - 1 by omega);have h3:((1000000000 ^ k:Nat):Int)≤((1000000000 ^ (xs.length - 1):Nat):Int):=(by exact_mod_cast this);simpa using h3
   omega
theorem lv_take_succ (xs:List Int) (i:Nat) (h:i<xs.length):lv (xs.take (i+1))=lv (xs.take i)+1000000000 ^ i * xs.getD i 0:=by
 rw [List.take_succ_eq_append_getElem h,lv_app];simp [lv,List.length_take,Nat.min_eq_left (Nat.le_of_lt h),h]
theorem lv_set:∀ (xs:List Int) (i:Nat) (v:Int),i<xs.length→lv (xs.set i v)=lv xs+1000000000 ^ i * (v - xs.getD i 0)
 | [],_,_,h=>by simp at h
 | x :: xs,0,v,_=>by simp [lv];omega
 | x :: xs,i+1,v,h=>by
  have:=lv_set xs i v (by simpa using h);simp only [List.set_cons_succ,lv,this,List.getD_cons_succ,Int.pow_succ];rw [Int.mul_add,Int.mul_comm (1000000000 ^ i) 1000000000,Int.mul_assoc];omega
theorem getD_set {xs:List Int} {i j:Nat} {v:Int} (h:i<xs.length):(xs.set i v).getD j 0=if j=i then v else xs.getD j 0:=by
 simp only [List.getD_eq_getElem?_getD,List.getElem?_set];by_cases e:i=j
 ·subst e;simp [h]
 ·rw [if_neg e,if_neg (fun h=>e h.symm)]
theorem Lim.set {xs:List Int} (h:Lim xs) (i:Nat) {v:Int} (h0:0≤v) (h1:v<1000000000):Lim (xs.set i v):=fun y hy=>by
 rcases List.mem_or_eq_of_mem_set hy with hy | rfl
 ·exact h y hy
 ·exact ⟨h0,h1⟩
theorem lv_replicate (n:Nat):lv (List.replicate n 0)=0:=by
 induction n with
 | zero=>rfl
 | succ n ih=>simp [List.replicate_succ,lv,ih]
theorem Lim.zeros (n:Nat):Lim (List.replicate n 0):=fun y hy=>by
 rw [List.eq_of_mem_replicate hy];decide
theorem getD_zeros (n i:Nat):(List.replicate n (0:Int)).getD i 0=0:=by
 simp only [List.getD_eq_getElem?_getD,List.getElem?_replicate]
 split <;> rfl
end Go.Proofs.YtogecaajnjcenaaGreatDoor

namespace Go.Proofs.YtogecaajnjcenaaGreatDoor
open Go.RowKit
def C32 (w:World) (b o:Nat) (xs:List Int):Prop:=∀ i,i<xs.length→w.cell? ⟨b,o+i,none⟩=some (.int .u32 (xs.getD i 0))
theorem C32.later {w w1:World} {b o:Nat} {xs:List Int} (h:C32 w b o xs) (hb:Ext w w1):C32 w1 b o xs:=fun i hi=>cell_later hb (h i hi)
def Row (w:World) (v:Value) (xs:List Int):Prop:=
 ∃ (p:Option Addr) (cap:Nat),v=.slice p xs.length cap∧xs.length≤cap∧cap≤9223372036854775807∧((p=none∧cap=0)∨∃ b o,p=some ⟨b,o,none⟩∧C32 w b o xs)
theorem Row.later {w w1:World} {v:Value} {xs:List Int} (h:Row w v xs) (hb:Ext w w1):Row w1 v xs:=by
 obtain ⟨p,cap,e,h1,h2,h3⟩:=h;refine ⟨p,cap,e,h1,h2,?_⟩
 rcases h3 with h3 | ⟨b,o,e,h3⟩
 ·exact .inl h3
 ·exact .inr ⟨b,o,e,h3.later hb⟩
abbrev zS (z:Int):Value:=.agg #[.int .i64 z,.bool false,.slice none 0 0]
abbrev zB (neg:Bool) (p:Addr) (n cap:Nat):Value:=.agg #[.int .i64 0,.bool neg,.slice (some p) n cap]
def sgn (neg:Bool) (z:Int):Int:=if neg then -z else z
def Top (xs:List Int):Prop:=xs.length=0∨xs.getD (xs.length - 1) 0 ≠ 0
def ZV (w:World) (v:Value) (z:Int):Prop:=
 (-1000000000000000000<z∧z<1000000000000000000∧v=zS z) ∨
 ∃ neg b o cap xs,v=zB neg ⟨b,o,none⟩ xs.length cap∧xs.length≤cap∧cap≤9223372036854775807∧C32 w b o xs∧Lim xs∧3≤xs.length∧Top xs∧z=sgn neg (lv xs)
theorem ZV.later {w w1:World} {v:Value} {z:Int} (h:ZV w v z) (hb:Ext w w1):ZV w1 v z:=by
 rcases h with h | ⟨neg,b,o,cap,xs,e,h1,h2,h3,h4⟩
 ·exact .inl h
 ·exact .inr ⟨neg,b,o,cap,xs,e,h1,h2,h3.later hb,h4⟩
theorem ZV.small {w:World} {z:Int} (h1 : -1000000000000000000<z) (h2:z<1000000000000000000):ZV w (zS z) z:=.inl ⟨h1,h2,rfl⟩
theorem big_ge {xs:List Int} (h:Lim xs) (h3:3≤xs.length) (ht:Top xs):1000000000000000000≤lv xs:=by
 have h1:=lv_ge h (by omega) (ht.resolve_left (by omega));have h2:(1000000000:Int) ^ 2≤1000000000 ^ (xs.length - 1):=by
  have:=Nat.pow_le_pow_right (n:=1000000000) (by decide) (show 2≤xs.length - 1 by omega);have h3:((1000000000 ^ 2:Nat):Int)≤((1000000000 ^ (xs.length - 1):Nat):Int):=by exact_mod_cast this
  simpa using h3
 omega
def smallB (z:Int):Bool:=decide (-1000000000000000000<z∧z<1000000000000000000)
theorem small_big {neg:Bool} {xs:List Int} (h:Lim xs) (h3:3≤xs.length) (ht:Top xs):smallB (sgn neg (lv xs))=false:=by
 have:=big_ge h h3 ht;unfold smallB sgn;cases neg <;> simp <;> omega
theorem smallB_true {z:Int} (h1 : -1000000000000000000<z) (h2:z<1000000000000000000):smallB z=true:=by simp [smallB,h1,h2]
theorem ZV.small_of {w:World} {v:Value} {z:Int} (h:ZV w v z) (hs:smallB z=true) : -1000000000000000000<z∧z<1000000000000000000∧v=zS z:=by
 rcases h with h | ⟨neg,b,o,cap,xs,rfl,h1,h2,h3,h4,h5,h6,rfl⟩
 ·exact h
 ·rw [small_big h4 h5 h6] at hs;cases hs
set_option maxHeartbeats 400000 in
theorem isSmall_any {v:Value} {z:Int} (w:World) (h:ZV w v z) :
  Calls Tryz.prog 99 #[v] w fun e w'=>e=.returned (.bool (smallB z))∧Ext w w':=by
 rcases h with ⟨h1,h2,rfl⟩ | ⟨neg,b,o,cap,xs,rfl,h1,h2,h3,h4,h5,h6,h7⟩
 ·go_enter Tryz.func99,Tryz.ntmps99
  go_wp2
  go_ret;exact ⟨ret_bool (smallB_true h1 h2).symm,x1 _ _⟩
 ·have h9:(((xs.length:Int) == 0))=false:=by rw [beq_eq_false_iff_ne];omega
  subst h7;have H:=small_big (neg:=neg) h4 h5 h6;clear h6 h4 h3;go_enter Tryz.func99,Tryz.ntmps99
  go_wp2
  go_ret;exact ⟨ret_bool H.symm,x1 _ _⟩
theorem sgn_neg {neg:Bool} {xs:List Int} (h:Lim xs) (h3:3≤xs.length) (ht:Top xs):decide (sgn neg (lv xs)<0)=neg:=by
 have:=big_ge h h3 ht;cases neg <;> simp [sgn] <;> omega
set_option maxHeartbeats 400000 in
theorem neg_any {v:Value} {z:Int} (w:World) (h:ZV w v z) :
  Calls Tryz.prog 98 #[v] w fun e w'=>e=.returned (.bool (decide (z<0)))∧Ext w w':=by
 rcases h with ⟨h1,h2,rfl⟩ | ⟨neg,b,o,cap,xs,rfl,h1,h2,h3,h4,h5,h6,h7⟩
 ·go_enter Tryz.func98,Tryz.ntmps98
  go_wp2
  go_ret;exact ⟨rfl,x1 _ _⟩
 ·have h9:(0:Int)<(xs.length:Int):=by omega
  subst h7;have H:=sgn_neg (neg:=neg) h4 h5 h6;clear h6 h4 h3;go_enter Tryz.func98,Tryz.ntmps98
  go_wp2
  go_ret;exact ⟨ret_bool H.symm,x1 _ _⟩
def No32 (u:Value):Prop:=∀ n,u ≠ .int .u32 n
theorem C32.apart {w:World} {b o:Nat} {xs:List Int} {p:Addr} {u:Value} (h:C32 w b o xs) (hp:w.cell? p=some u) (hu:No32 u):∀ i,i<xs.length→(⟨b,o+i,none⟩:Addr) ≠ p:=by
 rintro i hi rfl;rw [h i hi] at hp;exact hu _ (Option.some.inj hp).symm
theorem C32.set {w:World} {b o:Nat} {xs:List Int} {p:Addr} {u:Value} (h:C32 w b o xs) (hp:w.cell? p=some u) (hu:No32 u) (a:Value):C32 (w.setCell p a) b o xs:=fun i hi=>by
 rw [World.cell?_setCell_other _ _ _ _ (h.apart hp hu i hi).symm];exact h i hi
theorem ZV.set {w:World} {v:Value} {z:Int} {p:Addr} {u:Value} (h:ZV w v z) (hp:w.cell? p=some u) (hu:No32 u) (a:Value):ZV (w.setCell p a) v z:=by
 rcases h with h | ⟨neg,b,o,cap,xs,e,h1,h2,h3,h4⟩
 ·exact .inl h
 ·exact .inr ⟨neg,b,o,cap,xs,e,h1,h2,h3.set hp hu a,h4⟩
theorem ZV.shape {w:World} {v:Value} {z:Int} (h:ZV w v z):∃ a0 a1 p n cap,v=.agg #[.int .i64 a0,.bool a1,.slice p n cap]:=by
 rcases h with ⟨_,_,rfl⟩ | ⟨neg,b,o,cap,xs,rfl,_⟩
 ·exact ⟨_,_,_,_,_,rfl⟩
 ·exact ⟨_,_,_,_,_,rfl⟩
theorem no32_i64 (n:Int):No32 (.int .i64 n):=fun _ h=>by cases h
theorem no32_bool (n:Bool):No32 (.bool n):=fun _ h=>by cases h
theorem no32_slice (p:Option Addr) (n c:Nat):No32 (.slice p n c):=fun _ h=>by cases h
abbrev ZBox (w:World) (b:Nat):Prop:=∃ a0 a1 p n cap,Box3 w b (.int .i64 a0) (.bool a1) (.slice p n cap)
abbrev set3 (w:World) (b:Nat) (a0 a1 a2:Value):World:=((w.setCell ⟨b,0,none⟩ a0).setCell ⟨b,1,none⟩ a1).setCell ⟨b,2,none⟩ a2
theorem addr_ne {b i j:Nat} (h:i ≠ j):(⟨b,i,none⟩:Addr) ≠ ⟨b,j,none⟩:=fun e=>h (by cases e;rfl)
theorem ZV.set3 {w:World} {v:Value} {z:Int} {b:Nat} {a0:Int} {a1:Bool} {p:Option Addr} {n cap:Nat} (h:ZV w v z) (hb:Box3 w b (.int .i64 a0) (.bool a1) (.slice p n cap)) (c0 c1 c2:Value):ZV (set3 w b c0 c1 c2) v z:=by
 obtain ⟨⟨q0,q1,q2⟩,_⟩:=hb;have k1:(w.setCell ⟨b,0,none⟩ c0).cell? ⟨b,1,none⟩=some (.bool a1):=by rw [World.cell?_setCell_other _ _ _ _ (addr_ne (by decide))];exact q1
 have k2:((w.setCell ⟨b,0,none⟩ c0).setCell ⟨b,1,none⟩ c1).cell? ⟨b,2,none⟩=some (.slice p n cap):=by
  rw [World.cell?_setCell_other _ _ _ _ (addr_ne (by decide)),World.cell?_setCell_other _ _ _ _ (addr_ne (by decide))];exact q2
 exact ((h.set q0 (no32_i64 _) _).set k1 (no32_bool _) _).set k2 (no32_slice _ _ _) _
theorem Ext.set3 {w w1:World} {b:Nat} (h:Ext w w1) (hb:w.heap.size≤b) (c0 c1 c2:Value):Ext w (set3 w1 b c0 c1 c2):=xset (xset (xset h hb _) hb _) hb _
set_option maxHeartbeats 400000 in
theorem abs64_any (n:Int) (w:World) (h1 : -1000000000000000000<n) (h2:n<1000000000000000000) :
  Calls Tryz.prog 104 #[.int .i64 n] w fun e w'=>e=.returned (.int .i64 (n.natAbs:Int))∧w'=w:=by
 go_enter Tryz.func104,Tryz.ntmps104
 go_wp2
 all_goals go_ret
 all_goals exact ⟨ret_int (by omega),rfl⟩
theorem abs64_eq (n x:Int) (w:World) (h1 : -1000000000000000000<n) (h2:n<1000000000000000000) (hx:(n.natAbs:Int)=x) :
  Calls Tryz.prog 104 #[.int .i64 n] w fun e w'=>e=.returned (.int .i64 x)∧w'=w:=by
 rw [← hx];exact abs64_any n w h1 h2
theorem three (u:Int) (h1:1000000000000000000≤u) (h2:u<9000000000000000000) :
  Lim [u % 1000000000,u / 1000000000 % 1000000000,u / 1000000000 / 1000000000]∧Top [u % 1000000000,u / 1000000000 % 1000000000,u / 1000000000 / 1000000000]∧lv [u % 1000000000,u / 1000000000 % 1000000000,u / 1000000000 / 1000000000]=u:=by
 refine ⟨Lim.cons (by omega) (by omega) (Lim.cons (by omega) (by omega) (Lim.cons (by omega) (by omega) Lim.nil)),.inr ?_,?_⟩
 ·show u / 1000000000 / 1000000000 ≠ 0;omega
 ·simp only [lv];omega
theorem C32.three {w:World} {a b c:Int} {t:TypeId} {g:Nat} (hg:g=w.heap.size):C32 (w.alloc (.cells #[.int .u32 a,.int .u32 b,.int .u32 c] t)) g 0 [a,b,c]:=by
 subst hg;intro i hi
 match i,hi with
 | 0,_ | 1,_ | 2,_=>simp [go_sem]
theorem C32.two {w:World} {a b:Int} {t:TypeId} {g:Nat} (hg:g=w.heap.size):C32 (w.alloc (.cells #[.int .u32 a,.int .u32 b] t)) g 0 [a,b]:=by
 subst hg;intro i hi
 match i,hi with
 | 0,_ | 1,_=>simp [go_sem]
theorem C32.one {w:World} {a:Int} {t:TypeId} {g:Nat} (hg:g=w.heap.size):C32 (w.alloc (.cells #[.int .u32 a] t)) g 0 [a]:=by
 subst hg;intro i hi
 match i,hi with
 | 0,_=>simp [go_sem]
set_option maxHeartbeats 400000 in
theorem small_any (z:Int) (w:World) (h1 : -9000000000000000000<z) (h2:z<9000000000000000000) :
  Calls Tryz.prog 68 #[.int .i64 z] w fun e w'=>∃ v',e=.returned v'∧ZV w' v' z∧Ext w w':=by
 by_cases hs : -1000000000000000000<z∧z<1000000000000000000
 ·obtain ⟨s1,s2⟩:=hs;go_enter Tryz.func68,Tryz.ntmps68
  go_wp2
  exact bodyPost_ret (v:=zS z) (by simp [results,Tryz.results68,go_sem]) rfl ⟨_,rfl,ZV.small s1 s2,x1 _ _⟩
 ·by_cases hn:z<0
  ·obtain ⟨u,rfl⟩:∃ u,z = -u:=⟨-z,by omega⟩;have u1:1000000000000000000≤u:=by omega
   have u2:u<9000000000000000000:=by omega
   clear hs h1 h2 hn;go_enter Tryz.func68,Tryz.ntmps68
   go_wp2
   obtain ⟨t1,t2,t3⟩:=three u u1 u2;refine bodyPost_ret (v:=zB true ⟨w.heap.size+1,0,none⟩ 3 3) (by simp [results,Tryz.results68,go_sem]) rfl ⟨_,rfl,.inr ⟨true,w.heap.size+1,0,3,_,rfl,by simp,by decide,C32.three (by simp),t1,by simp,t2,?_⟩,xa (x1 _ _) _⟩;rw [t3];rfl
  ·have u1:1000000000000000000≤z:=by omega
   have hd:decide (z<0)=false:=by simpa using hn
   clear hs hn h1;go_enter Tryz.func68,Tryz.ntmps68
   go_wp2
   obtain ⟨t1,t2,t3⟩:=three z u1 h2;refine bodyPost_ret (v:=zB false ⟨w.heap.size+1,0,none⟩ 3 3) (by simp [results,Tryz.results68,go_sem]) rfl ⟨_,rfl,.inr ⟨false,w.heap.size+1,0,3,_,rfl,by simp,by decide,C32.three (by simp),t1,by simp,t2,?_⟩,xa (x1 _ _) _⟩;rw [t3];rfl
def Limbs (w:World) (v:Value) (u:Int):Prop:=∃ xs,Row w v xs∧Lim xs∧Top xs∧lv xs=u
theorem Limbs.later {w w1:World} {v:Value} {u:Int} (h:Limbs w v u) (hb:Ext w w1):Limbs w1 v u:=by
 obtain ⟨xs,h1,h2⟩:=h;exact ⟨xs,h1.later hb,h2⟩
theorem Limbs.nil (w:World):Limbs w (.slice none 0 0) 0:=⟨[],⟨none,0,rfl,Nat.le_refl _,by decide,.inl ⟨rfl,rfl⟩⟩,Lim.nil,.inl rfl,rfl⟩
theorem Limbs.one {w:World} {u:Int} {t:TypeId} {g:Nat} (hg:g=w.heap.size) (h1:0<u) (h2:u<1000000000):Limbs (w.alloc (.cells #[.int .u32 u] t)) (.slice (some ⟨g,0,none⟩) 1 1) u:=
 ⟨[u],⟨_,1,rfl,Nat.le_refl _,by decide,.inr ⟨g,0,rfl,C32.one hg⟩⟩,Lim.cons (by omega) h2 Lim.nil,.inr (show u ≠ 0 by omega),by simp [lv]⟩
theorem Limbs.two {w:World} {u:Int} {t:TypeId} {g:Nat} (hg:g=w.heap.size) (h1:1000000000≤u) (h2:u<1000000000000000000) :
  Limbs (w.alloc (.cells #[.int .u32 (u % 1000000000),.int .u32 (u / 1000000000)] t)) (.slice (some ⟨g,0,none⟩) 2 2) u:=
 ⟨[u % 1000000000,u / 1000000000],⟨_,2,rfl,Nat.le_refl _,by decide,.inr ⟨g,0,rfl,C32.two hg⟩⟩,Lim.cons (by omega) (by omega) (Lim.cons (by omega) (by omega) Lim.nil),.inr (show u / 1000000000 ≠ 0 by omega),by simp only [lv];omega⟩
set_option maxHeartbeats 400000 in
theorem limbs_any {v:Value} {z:Int} (w:World) (h:ZV w v z) :
  Calls Tryz.prog 97 #[v] w fun e w'=>∃ v',e=.returned v'∧Limbs w' v' (z.natAbs:Int)∧Ext w w':=by
 rcases h with ⟨h1,h2,rfl⟩ | ⟨neg,b,o,cap,xs,rfl,h1,h2,h3,h4,h5,h6,rfl⟩
 ·by_cases hn:z<0
  ·obtain ⟨u,rfl⟩:∃ u,z = -u:=⟨-z,by omega⟩;have u1:0<u:=by omega
   have u2:u<1000000000000000000:=by omega
   have e1:((-u).natAbs:Int)=u:=by omega
   rw [e1];clear h1 h2 hn e1;by_cases hb:u<1000000000
   ·go_enter Tryz.func97,Tryz.ntmps97
    go_wp2
    go_ret;exact ⟨_,rfl,Limbs.one (by simp) u1 hb,xa (x1 _ _) _⟩
   ·go_enter Tryz.func97,Tryz.ntmps97
    go_wp2
    go_ret;exact ⟨_,rfl,Limbs.two (by simp) (by omega) u2,xa (x1 _ _) _⟩
  ·have e1:(z.natAbs:Int)=z:=by omega
   rw [e1];have u1:0≤z:=by omega
   clear h1 hn e1;by_cases hz:z=0
   ·subst hz;go_enter Tryz.func97,Tryz.ntmps97
    go_wp2
    go_ret;exact ⟨_,rfl,Limbs.nil _,x1 _ _⟩
   ·by_cases hb:z<1000000000
    ·go_enter Tryz.func97,Tryz.ntmps97
     go_wp2
     go_ret;exact ⟨_,rfl,Limbs.one (by simp) (by omega) hb,xa (x1 _ _) _⟩
    ·go_enter Tryz.func97,Tryz.ntmps97
     go_wp2
     go_ret;exact ⟨_,rfl,Limbs.two (by simp) (by omega) h2,xa (x1 _ _) _⟩
 ·have h9:(0:Int)<(xs.length:Int):=by omega
  have e1:((sgn neg (lv xs)).natAbs:Int)=lv xs:=by
   have:=lv_nonneg h4;unfold sgn;cases neg <;> simp <;> omega
  rw [e1];have L:Hid (∀ w1,Ext w w1→Limbs w1 (.slice (some ⟨b,o,none⟩) xs.length cap) (lv xs)):=fun w1 hx=>⟨xs,⟨_,cap,rfl,h1,h2,.inr ⟨b,o,rfl,h3.later hx⟩⟩,h4,h6,rfl⟩;clear h4 h6 h3 e1;go_enter Tryz.func97,Tryz.ntmps97
  go_wp2
  go_ret;exact ⟨_,rfl,L.out _ (x1 _ _),x1 _ _⟩
end Go.Proofs.YtogecaajnjcenaaGreatDoor

namespace Go.Proofs.YtogecaajnjcenaaGreatDoor
end Go.Proofs.YtogecaajnjcenaaGreatDoor

namespace Go.Proofs.YtogecaajnjcenaaGreatDoor
open Go.RowKit
end Go.Proofs.YtogecaajnjcenaaGreatDoor

namespace Go.Proofs.YtogecaajnjcenaaGreatDoor
theorem lv_take_getD (xs:List Int) (i:Nat):lv (xs.take (i+1))=lv (xs.take i)+1000000000 ^ i * xs.getD i 0:=by
 by_cases h:i<xs.length
 ·exact lv_take_succ xs i h
 ·rw [List.take_of_length_le (by omega),List.take_of_length_le (by omega),List.getD_eq_getElem?_getD,List.getElem?_eq_none (by omega)];simp
end Go.Proofs.YtogecaajnjcenaaGreatDoor

namespace Go.Proofs.YtogecaajnjcenaaGreatDoor
def dv:List Int→Int
 | []=>0
 | x :: xs=>x+10 * dv xs
def D10 (xs:List Int):Prop:=∀ x ∈ xs,0≤x∧x<10
theorem D10.nil:D10 []:=fun _ h=>by cases h
theorem D10.snoc {xs:List Int} {x:Int} (h:D10 xs) (h0:0≤x) (h1:x<10):D10 (xs++[x]):=fun y hy=>by
 rcases List.mem_append.1 hy with hy | hy
 ·exact h y hy
 ·obtain rfl:y=x:=by simpa using hy
  exact ⟨h0,h1⟩
theorem D10.take {xs:List Int} (h:D10 xs) (n:Nat):D10 (xs.take n):=fun y hy=>h y (List.mem_of_mem_take hy)
theorem D10.getD {xs:List Int} (h:D10 xs) (i:Nat):0≤xs.getD i 0∧xs.getD i 0<10:=by
 by_cases hi:i<xs.length
 ·rw [List.getD_eq_getElem?_getD,List.getElem?_eq_getElem hi];exact h _ (List.getElem_mem hi)
 ·rw [List.getD_eq_getElem?_getD,List.getElem?_eq_none (by omega)];simp
theorem dv_app:∀ (xs ys:List Int),dv (xs++ys)=dv xs+10 ^ xs.length * dv ys
 | [],ys=>by simp [dv]
 | x :: xs,ys=>by
  simp only [List.cons_append,dv,dv_app xs ys,List.length_cons,Int.pow_succ];rw [Int.mul_add,Int.mul_comm (10 ^ xs.length) 10,← Int.mul_assoc];omega
theorem dv_snoc (xs:List Int) (x:Int):dv (xs++[x])=dv xs+10 ^ xs.length * x:=by
 rw [dv_app];simp [dv]
theorem take_snoc (xs:List Int) (i:Nat) (h:i<xs.length):xs.take (i+1)=xs.take i++[xs.getD i 0]:=by
 rw [List.take_succ_eq_append_getElem h];simp [List.getElem?_eq_getElem h]
theorem dv_take (xs:List Int) (i:Nat) (h:i<xs.length):dv (xs.take (i+1))=dv (xs.take i)+10 ^ i * xs.getD i 0:=by
 rw [take_snoc xs i h,dv_snoc];have e:(xs.take i).length=i:=by simp;omega
 rw [e]
theorem dv_nonneg:∀ {xs:List Int},D10 xs→0≤dv xs
 | [],_=>by simp [dv]
 | x :: xs,h=>by
  have:=dv_nonneg (xs:=xs) (fun y hy=>h y (by simp [hy]));have:=h x (by simp);simp only [dv];omega
theorem pow9 (i:Nat):(10:Int) ^ (9 * i)=1000000000 ^ i:=by
 rw [Int.pow_mul];rfl
def TextAt (xs ds:List Int) (i k:Nat) (x:Int):Prop:=
 ds.length=9 * i+k∧D10 ds∧0≤x∧x<10 ^ (9 - k)∧dv ds+10 ^ (9 * i+k) * x=lv (xs.take (i+1))
def LimbsTold (xs ds:List Int) (i:Nat):Prop:=ds.length=9 * i∧D10 ds∧dv ds=lv (xs.take i)
theorem LimbsTold.start (xs:List Int):LimbsTold xs [] 0:=⟨rfl,D10.nil,by simp [dv,lv]⟩
theorem LimbsTold.next {xs ds:List Int} {i:Nat} (h:LimbsTold xs ds i) (hl:Lim xs):TextAt xs ds i 0 (xs.getD i 0):=by
 obtain ⟨h1,h2,h3⟩:=h;have hx:=hl.getD i;refine ⟨h1,h2,hx.1,hx.2,?_⟩;rw [h3,lv_take_getD,Nat.add_zero,pow9]
theorem TextAt.step {xs ds:List Int} {i k:Nat} {x:Int} (h:TextAt xs ds i k x) (hk:k<9):TextAt xs (ds++[x % 10]) i (k+1) (x / 10):=by
 obtain ⟨h1,h2,h3,h4,h5⟩:=h;refine ⟨by simp;omega,h2.snoc (by omega) (by omega),by omega,?_,?_⟩
 ·have e:9 - k=(9 - (k+1))+1:=by omega
  rw [e,Int.pow_succ] at h4;omega
 ·rw [dv_snoc,h1,← h5,show 9 * i+(k+1)=(9 * i+k)+1 from rfl,Int.pow_succ];generalize (10:Int) ^ (9 * i+k)=p;have e3:x % 10+10 * (x / 10)=x:=Int.emod_add_mul_ediv _ _;generalize x % 10=r at *;generalize x / 10=q at *;subst e3;simp only [Int.mul_add,Int.mul_comm,Int.mul_left_comm];omega
theorem TextAt.done {xs ds:List Int} {i:Nat} {x:Int} (h:TextAt xs ds i 9 x):LimbsTold xs ds (i+1):=by
 obtain ⟨h1,h2,h3,h4,h5⟩:=h;have:x=0:=by simp at h4;omega
 subst this;exact ⟨by omega,h2,by simpa using h5⟩
def Digs (ds:List Int) (u:Int):Prop:=D10 ds∧dv ds=u∧0<ds.length∧ds.getD (ds.length - 1) 0 ≠ 0
theorem trim_zero {ds:List Int} {j:Nat} (hj:j<ds.length) (hz:ds.getD j 0=0):dv (ds.take (j+1))=dv (ds.take j):=by
 rw [dv_take ds j hj,hz];simp
theorem Digs.of {ds:List Int} {j:Nat} {u:Int} (h:D10 ds) (hj:j<ds.length) (hz:ds.getD j 0 ≠ 0) (hv:dv (ds.take (j+1))=u):Digs (ds.take (j+1)) u:=by
 have e:(ds.take (j+1)).length=j+1:=by simp;omega
 refine ⟨h.take _,hv,by omega,?_⟩;rw [e];simp only [Nat.add_sub_cancel,List.getD_eq_getElem?_getD,List.getElem?_take,Nat.lt_succ_self,if_true] at *;exact hz
theorem Digs.ge {ds:List Int} {u:Int} (h:Digs ds u):10 ^ (ds.length - 1)≤u:=by
 obtain ⟨h1,h2,h3,h4⟩:=h;have e:=dv_take ds (ds.length - 1) (by omega);rw [show ds.length - 1+1=ds.length by omega,List.take_length] at e;have h5:=dv_nonneg (h1.take (ds.length - 1));have h6:=h1.getD (ds.length - 1);have hp:(0:Int)<10 ^ (ds.length - 1):=Int.pow_pos (by decide);have:(10:Int) ^ (ds.length - 1) * 1≤10 ^ (ds.length - 1) * ds.getD (ds.length - 1) 0:=Int.mul_le_mul_of_nonneg_left (by omega) (by omega);omega
def chr (d:Int):UInt8:=UInt8.ofNat (48+d).toNat
theorem chr_nat {d:Int} (h0 : -48≤d) (h1:d<10):((chr d).toNat:Int)=48+d:=by
 unfold chr;rw [UInt8.toNat_ofNat'];omega
def TextOf (l:List UInt8) (z:Int):Prop:=
 (z=0∧l=[48])∨∃ ds,Digs ds (z.natAbs:Int)∧l=(if z<0 then [45] else [])++ds.reverse.map chr
end Go.Proofs.YtogecaajnjcenaaGreatDoor

