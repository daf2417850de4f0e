/-
  Several texts in one: CmpImpl, CmpImplB, CmpLaw, V6q, V6r, V6s, V6u, Qe, J1, J2, J3, Rh.
-/
import Derived.Test.YtnphbpmdohidcaaDoorMg0
import Derived.Test.YtnphbpmdohidcaaDoorWideE
import Derived.Test.YtnphbpmdohidcaaDoorMg3
import Derived.Test.YtnphbpmdohidcaaDoorMg9
import Derived.Test.YtnphbpmdohidcaaDoorMg17
import Derived.Test.YtnphbpmdohidcaaDoorMg14
import Derived.Deep.RegionHeld3
import Derived.Test.YtnphbpmdohidcaaDoorMg13
import Derived.Deep.DeepCutAuto
import Derived.DeepKeys4
import Derived.MapKept
import Derived.Maps.Own
import Derived.Maps.OwnSet
import Derived.Deep.AppendSrc
import Derived.Deep.Upon
import Derived.OwnWalk
import Derived.Laws.OwnMore
namespace Go.Proofs.YtnphbpmdohidcaaDoor
open Go.RowKit
set_option maxHeartbeats 1000000 in
theorem orderS (a b:List UInt8) (w:World) :
  Calls Tryd.prog 50 #[sV a,sV b] w fun e w'=>e=.returned (.int .i64 (Lib.compareBytes a b))∧w'=w:=by
 have h1:=cmp_less a b;have h2:=cmp_same a b
 rcases cmp_three a b with h | h | h
 all_goals
  rw [h] at h1 h2 ⊢;simp only [Int.reduceNeg,decide_true,decide_false,Int.reduceEq] at h1 h2;go_enter Tryd.func50,Tryd.ntmps50;go_wp2_with fail;go_ret;exact ⟨rfl,rfl⟩
def cmpR (k:Int) (n:Bool) (d x:Int) (t:List UInt8) (k':Int) (n':Bool) (d' x':Int) (t':List UInt8):Int:=
 if k ≠ k' then (if k<k' then -1 else 1) else
 if k=1 then cmpI (sgn n d * 10 ^ (x - min x x').toNat) (sgn n' d' * 10 ^ (x' - min x x').toNat) else
 if k=2 then Lib.compareBytes (t.map upC) (t'.map upC) else if k=3 then Lib.compareBytes t t' else 0
theorem goodB_bd {n:Bool} {d x:Int} (h:goodB n d x=true):0≤d∧d<1000000000000000 ∧ -300≤x∧x≤300:=by
 by_cases hd:d=0
 ·have:n=false∧x=0:=by simpa [goodB,hd] using h
  omega
 ·have:0<d∧d<1000000000000000∧¬ d % 10=0 ∧ -300≤x∧x≤300:=by simpa [goodB,hd] using h
  omega
set_option maxRecDepth 8000 in
set_option maxHeartbeats 2000000 in
theorem cmpS6 (k:Int) (n:Bool) (d x:Int) (t:List UInt8) (k':Int) (n':Bool) (d' x':Int) (t':List UInt8) (w:World)
  (p:Int) (q:Bool) (r s:Int) (u:List UInt8) (hv:besideV k n d x t k'=valV p q r s u) (gv:goodV p q r s u=true) (lu:u.length≤2000000)
  (p':Int) (q':Bool) (r' s':Int) (u':List UInt8) (hv':besideV k' n' d' x' t' k=valV p' q' r' s' u') (gv':goodV p' q' r' s' u'=true) (lu':u'.length≤2000000) :
  Calls Tryd.prog 32 #[valV k n d x t,valV k' n' d' x' t'] w fun e w'=>e=.returned (.int .i64 (cmpR p q r s u p' q' r' s' u'))∧Ext w w':=by
 obtain ⟨R,hR⟩:∃ R,cmpR p q r s u p' q' r' s' u'=R:=⟨_,rfl⟩;have HR0:Hid (cmpR p q r s u p' q' r' s' u'=R):=hR;rw [hR];clear hR;have X1:=x1 w (.cells #[.int .i64 k,.bool n,.int .i64 d,.int .i64 x,sV t] 46);have B1:=vec_made w (valL k n d x t) 46;obtain ⟨wa,ha⟩:∃ wa,w.alloc (.cells #[.int .i64 k,.bool n,.int .i64 d,.int .i64 x,sV t] 46)=wa:=⟨_,rfl⟩;have X2:=x1 wa (.cells #[.int .i64 k',.bool n',.int .i64 d',.int .i64 x',sV t'] 46);have B2:=vec_made wa (valL k' n' d' x' t') 46;obtain ⟨wb,hb⟩:∃ wb,wa.alloc (.cells #[.int .i64 k',.bool n',.int .i64 d',.int .i64 x',sV t'] 46)=wb:=⟨_,rfl⟩;have sa:wa.heap.size=w.heap.size+1:=by rw [← ha,World.size_alloc]
 have sb:wb.heap.size=w.heap.size+1+1:=by rw [← hb,World.size_alloc,sa]
 change Vec (w.alloc (.cells #[.int .i64 k,.bool n,.int .i64 d,.int .i64 x,sV t] 46)) _ _ at B1;change Vec (wa.alloc (.cells #[.int .i64 k',.bool n',.int .i64 d',.int .i64 x',sV t'] 46)) _ _ at B2;rw [ha] at X1 B1;rw [hb] at X2 B2;rw [sa] at B2;have B1:=B1.later X2;have X:=xt X1 X2;obtain ⟨a0,a1,a2,a3,a4⟩:=Vec.five B1;obtain ⟨c0,c1,c2,c3,c4⟩:=Vec.five B2;go_enter Tryd.func32,Tryd.ntmps32;go_wp2_with fail;clear ha hb sa sb a0 a1 a2 a3 a4 c0 c1 c2 c3 c4;refine (likeS k n d x t k' n' d' x' t' wb).mono ?_;rintro e w1 ⟨rfl,e1⟩;rw [hv];obtain ⟨wz,hz⟩:∃ wz,w1.alloc (.cells #[.int .i64 p,.bool q,.int .i64 r,.int .i64 s,sV u] 46)=wz:=⟨_,rfl⟩;have Y:=x1 w1 (.cells #[.int .i64 p,.bool q,.int .i64 r,.int .i64 s,sV u] 46);have Bx:=vec_made w1 (valL p q r s u) 46;change Vec (w1.alloc (.cells #[.int .i64 p,.bool q,.int .i64 r,.int .i64 s,sV u] 46)) _ _ at Bx;rw [hz] at Y Bx;have C1:=(B1.later e1).later Y;have C2:=(B2.later e1).later Y;have XZ:=xt (xt X e1) Y;clear B1 B2;obtain ⟨a0,a1,a2,a3,a4⟩:=Vec.five C1;obtain ⟨c0,c1,c2,c3,c4⟩:=Vec.five C2;go_wp2_with fail;clear hz a0 a1 a2 a3 a4 c0 c1 c2 c3 c4;refine (likeS k' n' d' x' t' k n d x t wz).mono ?_;rintro e w2 ⟨rfl,e2⟩;rw [hv'];obtain ⟨wu,hu⟩:∃ wu,w2.alloc (.cells #[.int .i64 p',.bool q',.int .i64 r',.int .i64 s',sV u'] 46)=wu:=⟨_,rfl⟩;have Y2:=x1 w2 (.cells #[.int .i64 p',.bool q',.int .i64 r',.int .i64 s',sV u'] 46);have By:=vec_made w2 (valL p' q' r' s' u') 46;change Vec (w2.alloc (.cells #[.int .i64 p',.bool q',.int .i64 r',.int .i64 s',sV u'] 46)) _ _ at By;rw [hu] at Y2 By;have Bx:=(Bx.later e2).later Y2;have XU:=xt (xt XZ e2) Y2;clear C1 C2 X XZ Y e1 e2 Y2 hv hv';obtain ⟨gx,hgx⟩:∃ gx,w1.heap.size=gx:=⟨_,rfl⟩;obtain ⟨gy,hgy⟩:∃ gy,w2.heap.size=gy:=⟨_,rfl⟩;rw [hgx] at Bx ⊢;rw [hgy] at By;obtain ⟨a0,a1,a2,a3,a4⟩:=Vec.five Bx;obtain ⟨c0,c1,c2,c3,c4⟩:=Vec.five By;by_cases hk:p=p'
 ·subst hk;by_cases h1:p=1
  ·subst h1;have HR:Hid (cmpI (sgn q r * 10 ^ (s - min s s').toNat) (sgn q' r' * 10 ^ (s' - min s s').toNat)=R):=by show _=_;rw [← HR0.out];simp [cmpR]
   obtain ⟨b0,b1,b2,b3⟩:=goodB_bd (goodV_num gv).1;obtain ⟨m0,m1,m2,m3⟩:=goodB_bd (goodV_num gv').1;clear gv gv';go_wp2_with fail;refine (sized_any q q' r s r' s' _ b0 b1 m0 m1 b2 b3 m2 m3).mono ?_;rintro e w3 ⟨rfl,e3⟩;go_wp2_with fail;go_ret;exact ⟨congrArg (fun z=>Ending.returned (.int .i64 z)) HR.out,xt XU e3⟩
  ·by_cases h2:p=2
   ·subst h2;have HR:Hid (Lib.compareBytes (u.map upC) (u'.map upC)=R):=(by show _=_;rw [← HR0.out];simp [cmpR]);clear gv gv' h1;go_wp2_with fail;go_region_held3 (fun w'=>w'.cell? ⟨gx,4,none⟩=some (sV u)∧w'.cell? ⟨gy,4,none⟩=some (sV u')) (go_keep)
     (first
      | (go_at_call_of 51 (sV u);refine (capsS u _ lu).mono ?_;rintro e w3 ⟨rfl,e3⟩;have X3:=xt (xd (xr _)) e3;have m3:=((Bx.later X3) 4 _ rfl).1;have n3:=((By.later X3) 4 _ rfl).1)
      | (go_at_call_of 51 (sV u');refine (capsS u' _ lu').mono ?_;rintro e w4 ⟨rfl,e4⟩;have X4:=xt X3 e4;have m4:=((Bx.later X4) 4 _ rfl).1;have n4:=((By.later X4) 4 _ rfl).1)
      | (go_at_call 50;refine (orderS _ _ _).mono ?_;rintro e w5 ⟨rfl,rfl⟩))
    go_wp2_with fail;go_ret;exact ⟨congrArg (fun z=>Ending.returned (.int .i64 z)) HR.out,xt XU X4⟩
   ·by_cases h3:p=3
    ·subst h3;have HR:Hid (Lib.compareBytes u u'=R):=(by show _=_;rw [← HR0.out];simp [cmpR]);clear gv gv' h1 h2;go_wp2_with fail;refine (orderS u u' _).mono ?_;rintro e w3 ⟨rfl,rfl⟩;go_wp2_with fail;go_ret;exact ⟨congrArg (fun z=>Ending.returned (.int .i64 z)) HR.out,XU⟩
    ·have HR:Hid (0=R):=(by show _=_;rw [← HR0.out];simp [cmpR,h1,h2,h3]);clear gv gv';go_wp2_with fail;go_ret;exact ⟨congrArg (fun z=>Ending.returned (.int .i64 z)) HR.out,XU⟩
 ·by_cases hlt:p<p'
  ·have HR:Hid (-1=R):=by show _=_;rw [← HR0.out];simp [cmpR,hk,hlt]
   clear gv gv';go_wp2_with fail;go_ret;exact ⟨congrArg (fun z=>Ending.returned (.int .i64 z)) HR.out,XU⟩
  ·have HR:Hid (1=R):=by show _=_;rw [← HR0.out];simp [cmpR,hk,hlt]
   clear gv gv';go_wp2_with fail;go_ret;exact ⟨congrArg (fun z=>Ending.returned (.int .i64 z)) HR.out,XU⟩
def bk (k k':Int):Int:=if k ≠ 0 then k else if k'=1 then 1 else if k'=2 then 2 else if k'=3 then 3 else 0
def bt (k:Int) (t:List UInt8) (k':Int):List UInt8:=if k=0∧k'=3 then falseT else t
theorem beside_eq {k:Int} {n:Bool} {d x:Int} {t:List UInt8} (hg:goodV k n d x t=true) (k':Int):besideV k n d x t k'=valV (bk k k') n d x (bt k t k')∧goodV (bk k k') n d x (bt k t k')=true:=by
 by_cases h0:k=0
 ·subst h0;obtain ⟨rfl,rfl,rfl⟩:=goodV_zero hg (by decide);obtain rfl:=goodV_empty hg;unfold besideV bk bt;by_cases h1:k'=1
  ·subst h1;exact ⟨rfl,by decide⟩
  ·by_cases h2:k'=2
   ·subst h2;exact ⟨rfl,by decide⟩
   ·by_cases h3:k'=3
    ·subst h3;exact ⟨rfl,by decide⟩
    ·simp [h1,h2,h3];decide
 ·unfold besideV bk bt;simp [h0,hg]
theorem bt_len {t:List UInt8} (k k':Int) (hl:t.length≤2000000):(bt k t k').length≤2000000:=by
 unfold bt
 split
 ·decide
 ·exact hl
def compareV (k:Int) (n:Bool) (d x:Int) (t:List UInt8) (k':Int) (n':Bool) (d' x':Int) (t':List UInt8):Int:=
 if goodV k n d x t=true∧goodV k' n' d' x' t'=true∧k ≠ 4∧k' ≠ 4 then cmpR (bk k k') n d x (bt k t k') (bk k' k) n' d' x' (bt k' t' k) else 2
theorem upC_bool {u:List UInt8} (h:boolB u=true):u.map upC=u:=by
 have:u=[84,82,85,69]∨u=[70,65,76,83,69]:=by simpa [boolB] using h
 rcases this with rfl | rfl <;> decide
def sameQ (a b:VT):Bool:=decide (a.k=b.k∧a.n=b.n∧a.d=b.d∧a.x=b.x∧a.t=b.t)
def cmpQ (a b:VT):Int:=compareV a.k a.n a.d a.x a.t b.k b.n b.d b.x b.t
def likeB (a b:VT):Bool:=decide (a.k=b.k) && (if a.k=4 then sameQ a b else decide (cmpQ a b=0))
set_option maxHeartbeats 1000000 in
theorem valQ_eql (k:Int) (n:Bool) (d x:Int) (t:List UInt8) (k':Int) (n':Bool) (d' x':Int) (t':List UInt8) (W:World) :
  (binOp BinOp.eql 46 (valV k n d x t) (valV k' n' d' x' t')).run Tryd.prog W=.ok (.bool (sameQ ⟨k,n,d,x,t⟩ ⟨k',n',d',x',t'⟩)) W:=by
 unfold sameQ;by_cases h:k=k'∧n=n'∧d=d'∧x=x'∧t=t'
 ·obtain ⟨rfl,rfl,rfl,rfl,rfl⟩:=h
  go_simp
 ·rw [decide_eq_false h];have H:Hid (¬ (k=k'∧n=n'∧d=d'∧x=x'∧t=t')):=h;clear h
  go_simp
  intros
  have:=H.out
  simp_all
def VT.room (e:VT):Prop:=e.t.length≤2000000 ∧ -9223372036854775808≤e.d∧e.d≤9223372036854775807
def nrm (e:VT):VT:=⟨e.k,e.n,e.d,e.x,e.t.map upC⟩
theorem bytes_zero:∀ (a b:List UInt8),Lib.compareBytes a b=0 ↔ a=b
 | [],[]=>by simp [Lib.compareBytes]
 | [],b :: bs=>by simp [Lib.compareBytes]
 | a :: ar,[]=>by simp [Lib.compareBytes]
 | a :: ar,b :: bs=>by
  unfold Lib.compareBytes;by_cases h1:a<b
  ·rw [if_pos h1];constructor
   ·intro h;cases h
   ·intro h;cases h;exact absurd h1 (by simp)
  ·by_cases h2:b<a
   ·rw [if_neg h1,if_pos h2];constructor
    ·intro h;cases h
    ·intro h;cases h;exact absurd h2 (by simp)
   ·rw [if_neg h1,if_neg h2,bytes_zero ar bs];have:a=b:=by
     have e1:¬ a.toNat<b.toNat:=fun h=>h1 h;have e2:¬ b.toNat<a.toNat:=fun h=>h2 h;exact UInt8.toNat_inj.1 (by omega)
    simp [this]
theorem cmpI_zero {a b:Int}:cmpI a b=0 ↔ a=b:=by
 unfold cmpI
 split
 ·constructor
  ·intro h;omega
  ·intro h;omega
 ·split <;> constructor <;> intro h <;> omega
theorem ten_dvd {n:Nat} (h:n ≠ 0):(10:Int) ∣ 10 ^ n:=by
 obtain ⟨m,rfl⟩:∃ m,n=m+1:=⟨n - 1,by omega⟩;exact ⟨10 ^ m,by rw [Int.pow_succ,Int.mul_comm]⟩
theorem goodB_parts {n:Bool} {d x:Int} (h:goodB n d x=true):(d=0∧n=false∧x=0)∨(0<d∧d % 10 ≠ 0):=by
 unfold goodB at h
 split at h
 ·left;rename_i h0;simp at h;exact ⟨h0,h.1,h.2⟩
 ·right;have:=of_decide_eq_true h;exact ⟨this.1,this.2.2.1⟩
theorem dec_one_lt {n n':Bool} {d d' x x':Int} (g:goodB n d x=true) (hx:x<x') (e:sgn n d=sgn n' d' * 10 ^ (x' - x).toNat):d=0:=by
 rcases goodB_parts g with ⟨h,_,_⟩ | ⟨h,hm⟩
 ·exact h
 ·exfalso;have hd:(10:Int) ∣ sgn n d:=by
   have hn:(x' - x).toNat ≠ 0:=by omega
   rw [e];exact Int.dvd_trans (ten_dvd hn) ⟨sgn n' d',by rw [Int.mul_comm]⟩
  have:(10:Int) ∣ d:=by
   unfold sgn at hd
   split at hd
   ·exact (Int.dvd_neg).1 hd
   ·exact hd
  omega
theorem pow_ne (k:Nat):(10:Int) ^ k ≠ 0:=by
 have:(0:Int)<10 ^ k:=Int.pow_pos (by omega);omega
theorem sgn_zero {n:Bool} {d:Int}:sgn n d=0 ↔ d=0:=by unfold sgn;split <;> omega
theorem dec_one {n n':Bool} {d d' x x':Int} (g:goodB n d x=true) (g':goodB n' d' x'=true) (e:sgn n d * 10 ^ (x - min x x').toNat=sgn n' d' * 10 ^ (x' - min x x').toNat):n=n'∧d=d'∧x=x':=by
 have zero:d=0→d'=0→n=n'∧d=d'∧x=x':=fun h h'=>by
  rcases goodB_parts g with ⟨_,a,b⟩ | ⟨a,_⟩
  ·rcases goodB_parts g' with ⟨_,a',b'⟩ | ⟨a',_⟩
   ·exact ⟨by rw [a,a'],by rw [h,h'],by rw [b,b']⟩
   ·omega
  ·omega
 rcases Int.lt_trichotomy x x' with hx | hx | hx
 ·rw [show min x x'=x by omega,Int.sub_self,show (0:Int).toNat=0 from rfl,Int.pow_zero,Int.mul_one] at e;have d0:=dec_one_lt g hx e;have:sgn n' d'=0:=by
   have e0:sgn n d=0:=sgn_zero.2 d0;rw [e0] at e
   rcases Int.mul_eq_zero.1 e.symm with h | h
   ·exact h
   ·exact absurd h (pow_ne _)
  exact zero d0 (sgn_zero.1 this)
 ·subst hx;rw [show min x x=x by omega,Int.sub_self,show (0:Int).toNat=0 from rfl,Int.pow_zero,Int.mul_one,Int.mul_one] at e
  rcases goodB_parts g with ⟨h,a,_⟩ | ⟨h,_⟩
  ·have:d'=0:=sgn_zero.1 (by rw [← e];exact sgn_zero.2 h);exact zero h this
  ·rcases goodB_parts g' with ⟨h',_,_⟩ | ⟨h',_⟩
   ·have:d=0:=sgn_zero.1 (by rw [e];exact sgn_zero.2 h');omega
   ·unfold sgn at e;cases n <;> cases n' <;> simp at e <;> first | exact ⟨rfl,by omega,rfl⟩ | omega
 ·rw [show min x x'=x' by omega,Int.sub_self,show (0:Int).toNat=0 from rfl,Int.pow_zero,Int.mul_one] at e;have d0:=dec_one_lt g' hx e.symm;have:sgn n d=0:=by
   have e0:sgn n' d'=0:=sgn_zero.2 d0;rw [e0] at e
   rcases Int.mul_eq_zero.1 e with h | h
   ·exact h
   ·exact absurd h (pow_ne _)
  exact zero (sgn_zero.1 this) d0
theorem upC_err {t:List UInt8} (h:memB errL t=true):t.map upC=t:=by
 have:t ∈ errL:=by simpa [memB] using h
 simp only [errL,List.mem_cons,List.not_mem_nil,or_false] at this
 rcases this with rfl | rfl | rfl | rfl | rfl | rfl | rfl | rfl | rfl <;> decide
theorem goodV_kinds {k:Int} {n:Bool} {d x:Int} {t:List UInt8} (h:goodV k n d x t=true):k=0∨k=1∨k=2∨(k=3∧boolB t=true)∨(k=4∧memB errL t=true):=by
 unfold goodV at h;by_cases h1:k=1
 ·exact Or.inr (Or.inl h1)
 rw [if_neg h1] at h;have h2:=(Bool.and_eq_true _ _ ▸ h:_∧_).2;by_cases h0:k=0
 ·exact Or.inl h0
 rw [if_neg h0] at h2;by_cases h2':k=2
 ·exact Or.inr (Or.inr (Or.inl h2'))
 rw [if_neg h2'] at h2;by_cases h3:k=3
 ·rw [if_pos h3] at h2;exact Or.inr (Or.inr (Or.inr (Or.inl ⟨h3,h2⟩)))
 rw [if_neg h3] at h2;by_cases h4:k=4
 ·rw [if_pos h4] at h2;exact Or.inr (Or.inr (Or.inr (Or.inr ⟨h4,h2⟩)))
 rw [if_neg h4] at h2;cases h2
theorem like_nrm {a b:VT} (ga:a.good=true) (gb:b.good=true):likeB a b=true ↔ nrm a=nrm b:=by
 obtain ⟨k,n,d,x,t⟩:=a;obtain ⟨k',n',d',x',t'⟩:=b;have ga':goodV k n d x t=true:=ga;have gb':goodV k' n' d' x' t'=true:=gb;unfold likeB nrm;simp only [VT.mk.injEq];by_cases hk:k=k'
 ·subst hk;rw [decide_eq_true rfl,Bool.true_and];have hz:k ≠ 1→n=n'∧d=d'∧x=x':=fun h=>by
   obtain ⟨h1,h2,h3⟩:=goodV_zero ga' h;obtain ⟨h1',h2',h3'⟩:=goodV_zero gb' h;exact ⟨by rw [h1,h1'],by rw [h2,h2'],by rw [h3,h3']⟩
  have hc:k ≠ 4→cmpQ ⟨k,n,d,x,t⟩ ⟨k,n',d',x',t'⟩=cmpR (bk k k) n d x (bt k t k) (bk k k) n' d' x' (bt k t' k):=fun h=>by
   unfold cmpQ compareV;rw [if_pos ⟨ga',gb',h,h⟩]
  rcases goodV_kinds ga' with rfl | rfl | rfl | ⟨rfl,hb⟩ | ⟨rfl,hb⟩
  ·obtain rfl:=goodV_empty ga';obtain rfl:=goodV_empty gb';rw [if_neg (by decide),hc (by decide)];obtain ⟨rfl,rfl,rfl⟩:=hz (by decide);simp [cmpR,bk]
  ·obtain ⟨g,rfl⟩:=goodV_num ga';obtain ⟨g',rfl⟩:=goodV_num gb';rw [if_neg (by decide),hc (by decide)];have:cmpR (bk 1 1) n d x (bt 1 [] 1) (bk 1 1) n' d' x' (bt 1 [] 1)=cmpI (sgn n d * 10 ^ (x - min x x').toNat) (sgn n' d' * 10 ^ (x' - min x x').toNat):=by
    have:bk 1 1=1:=(by decide);rw [this];unfold cmpR;rw [if_neg (by simp),if_pos rfl]
   rw [this];constructor
   ·intro h;obtain ⟨rfl,rfl,rfl⟩:=dec_one g g' (cmpI_zero.1 (of_decide_eq_true h));simp
   ·rintro ⟨_,rfl,rfl,rfl,_⟩;exact decide_eq_true (cmpI_zero.2 rfl)
  ·rw [if_neg (by decide),hc (by decide)];obtain ⟨rfl,rfl,rfl⟩:=hz (by decide);have:cmpR (bk 2 2) n d x (bt 2 t 2) (bk 2 2) n d x (bt 2 t' 2)=Lib.compareBytes (t.map upC) (t'.map upC):=by
    have e1:bk 2 2=2:=(by decide);have e2:∀ u,bt 2 u 2=u:=fun u=>(by unfold bt;rw [if_neg (by decide)]);rw [e1,e2,e2];unfold cmpR;rw [if_neg (by simp),if_neg (by decide),if_pos rfl]
   rw [this];constructor
   ·intro h;exact ⟨rfl,rfl,rfl,rfl,(bytes_zero _ _).1 (of_decide_eq_true h)⟩
   ·rintro ⟨_,_,_,_,h⟩;exact decide_eq_true ((bytes_zero _ _).2 h)
  ·rw [if_neg (by decide),hc (by decide)];obtain ⟨rfl,rfl,rfl⟩:=hz (by decide);have hb':boolB t'=true:=by
    rcases goodV_kinds gb' with h | h | h | ⟨_,h⟩ | ⟨h,_⟩
    ·exact absurd h (by decide)
    ·exact absurd h (by decide)
    ·exact absurd h (by decide)
    ·exact h
    ·exact absurd h (by decide)
   have:cmpR (bk 3 3) n d x (bt 3 t 3) (bk 3 3) n d x (bt 3 t' 3)=Lib.compareBytes t t':=by
    have e1:bk 3 3=3:=(by decide);have e2:∀ u,bt 3 u 3=u:=fun u=>(by unfold bt;rw [if_neg (by decide)]);rw [e1,e2,e2];unfold cmpR;rw [if_neg (by simp),if_neg (by decide),if_neg (by decide),if_pos rfl]
   rw [this,upC_bool hb,upC_bool hb'];constructor
   ·intro h;exact ⟨rfl,rfl,rfl,rfl,(bytes_zero _ _).1 (of_decide_eq_true h)⟩
   ·rintro ⟨_,_,_,_,h⟩;exact decide_eq_true ((bytes_zero _ _).2 h)
  ·have hb':memB errL t'=true:=by
    rcases goodV_kinds gb' with h | h | h | ⟨h,_⟩ | ⟨_,h⟩
    ·exact absurd h (by decide)
    ·exact absurd h (by decide)
    ·exact absurd h (by decide)
    ·exact absurd h (by decide)
    ·exact h
   rw [if_pos rfl,upC_err hb,upC_err hb'];unfold sameQ;simp
 ·simp [hk]
theorem val_law:WideMaps.KeyLaw Tryd.prog 46:=
 deep_law (m:=5) (by decide) (by kernel_rfl) (by kernel_rfl) (by kernel_rfl)
theorem valK:Maps.Keyed Tryd.prog 46:=Maps.Keyed.of_law val_law
theorem mapG_type:Tryd.prog.underlying 58=some (.map 46 60):=by kernel_rfl
abbrev InJ (a:Int):Prop:=-9223372036854775808≤a∧a≤9223372036854775807
def InK (e:VT):Prop:=InJ e.k∧InJ e.d∧InJ e.x∧e.t.length≤2000000
theorem val_key {e:VT} (h:InK e):∃ l,keyOf Tryd.prog 46 e.val=some l:=by
 obtain ⟨k,n,d,x,t⟩:=e;obtain ⟨hk,hd,hx,ht⟩:=h;simp only at hk hd hx ht;have hu:=Tryd.underlying46;have hv:=Tryd.underlying44;have h3:=Tryd.underlying3;have h4:=Tryd.underlying4;have h9:=Tryd.underlying9;have hT:Tryd.prog.keyType 46=true:=by kernel_rfl
 have hc:Tryd.prog.cellsOf 46=5:=by kernel_rfl
 have hcd:Tryd.prog.cellsOf 44=3:=by kernel_rfl
 have hc3:Tryd.prog.cellsOf 3=1:=by kernel_rfl
 have hc4:Tryd.prog.cellsOf 4=1:=by kernel_rfl
 have hc9:Tryd.prog.cellsOf 9=1:=by kernel_rfl
 have m0:IntKind.i64.min = -9223372036854775808:=by decide
 have m1:IntKind.i64.max=9223372036854775807:=by decide
 have wk:(Lit.int .i64 k).wf=true:=by simp [Lit.wf,m0,m1];omega
 have wd:(Lit.int .i64 d).wf=true:=by simp [Lit.wf,m0,m1];omega
 have wx:(Lit.int .i64 x).wf=true:=by simp [Lit.wf,m0,m1];omega
 have ws:(⟨t.toArray⟩:ByteArray).size≤maxLen:=by show t.toArray.size≤maxLen;unfold maxLen;simp;omega
 obtain ⟨N,hN⟩:∃ N,Tryd.prog.types.size=N+1+1:=⟨_,rfl⟩;have hf:(valV k n d x t).formed Tryd.prog 46=true:=by simp [Value.formed,hc]
 unfold keyOf;show ∃ l,_=some l;rw [hu];simp only [hT,hf,hN];simp [Program.keyLits,hu,hv,h3,h4,h9,hc,hcd,hc3,hc4,hc9,wk,wd,wx,Value.cells,ws];rw [if_pos (fun i hi=>by
  match i,hi with
  | 0,_=>simp
  | 1,_=>simp
  | 2,_=>simp)]
 exact ⟨_,rfl⟩
noncomputable def kvOf (e:VT):Lit:=(keyOf Tryd.prog 46 e.val).getD (.bool false)
theorem kvOf_key {e:VT} (h:InK e):keyOf Tryd.prog 46 e.val=some (kvOf e):=by
 obtain ⟨l,hl⟩:=val_key h;unfold kvOf;rw [hl];rfl
theorem kvOf_inj {a b:VT} (ha:InK a) (hb:InK b) (h:kvOf a=kvOf b):a=b:=by
 have:=valK.inj (kvOf_key ha) (by rw [h];exact kvOf_key hb);obtain ⟨k,n,d,x,t⟩:=a;obtain ⟨k',n',d',x',t'⟩:=b;simpa using this
structure GE where
 g:Nat
 cp:Nat
 ns:List Nat
abbrev GE.sl (e:GE):Value:=.slice (some ⟨e.g,0,none⟩) e.ns.length e.cp
def glR (v:Value):Option (DataW Unit × List MemPlace):=match v with
 | .slice none 0 0=>some (.nil,[])
 | .slice (some ⟨g,0,none⟩) n c=>some (.agg [.lit (.int .i64 g),.lit (.int .i64 n),.lit (.int .i64 c)],[])
 | _=>none
def GE.d (e:GE):DataW Unit:=.agg [.lit (.int .i64 e.g),.lit (.int .i64 e.ns.length),.lit (.int .i64 e.cp)]
theorem glR_of (e:GE):glR e.sl=some (e.d,[]):=rfl
theorem glR_inv {v:Value} {y:DataW Unit × List MemPlace} (h:glR v=some y):(v=.slice none 0 0∧y=(.nil,[]))∨∃ g n c,v=.slice (some ⟨g,0,none⟩) n c∧y=(.agg [.lit (.int .i64 (g:Nat)),.lit (.int .i64 (n:Nat)),.lit (.int .i64 (c:Nat))],[]):=by
 unfold glR at h
 split at h
 ·cases h;exact Or.inl ⟨rfl,rfl⟩
 ·cases h;exact Or.inr ⟨_,_,_,rfl,rfl⟩
 ·cases h
def HoldsF (D:DataW Unit) (f:VT→Option GE):Prop:=
 Maps.IsMap D∧∀ K,InK K→∀ z,D.atKey (kvOf K) z=match f K with | some e=>e.d | none=>z
def updF (f:VT→Option GE) (K:VT) (e:GE):VT→Option GE:=fun Q=>if sameQ K Q=true then some e else f Q
theorem sameQ_iff {a b:VT}:sameQ a b=true ↔ a=b:=by
 obtain ⟨k,n,d,x,t⟩:=a;obtain ⟨k',n',d',x',t'⟩:=b;unfold sameQ;simp
theorem updF_same (f:VT→Option GE) (K:VT) (e:GE):updF f K e K=some e:=by unfold updF;rw [if_pos (sameQ_iff.2 rfl)]
theorem updF_other {f:VT→Option GE} {K Q:VT} {e:GE} (h:K ≠ Q):updF f K e Q=f Q:=by unfold updF;rw [if_neg (fun q=>h (sameQ_iff.1 q))]
set_option maxRecDepth 20000 in
theorem kvOf_lit {e:VT} (h:InK e):WideAt.IsKeyLit (kvOf e):=valK.key (kvOf_key h)
set_option maxRecDepth 20000 in
theorem HoldsF.put {D:DataW Unit} {f:VT→Option GE} (h:HoldsF D f) {K:VT} (hK:InK K) (e:GE):HoldsF (D.put (kvOf K) e.d) (updF f K e):=by
 obtain ⟨h1,h2⟩:=h;refine ⟨h1.put _ _,fun Q hQ z=>?_⟩;by_cases q:K=Q
 ·subst q;rw [Maps.atKey_put_same h1 (kvOf_lit hK),updF_same]
 ·rw [Maps.atKey_put_other (fun e=>q (kvOf_inj hK hQ e.symm)),h2 Q hQ,updF_other q]
def MapF (w:World) (m n:Nat) (f:VT→Option GE):Prop:=∃ D,w.ownsMap Tryd.prog 46 glR m n D∧HoldsF D f
theorem MapF.lt {w:World} {m n:Nat} {f:VT→Option GE} (h:MapF w m n f):m<w.heap.size:=by
 obtain ⟨D,h1,h2⟩:=h;exact h1.lt
theorem MapF.later {w w':World} {m n:Nat} {f:VT→Option GE} (h:MapF w m n f) (x:Ext w w'):MapF w' m n f:=by
 obtain ⟨D,h1,h2⟩:=h;have hlt:=h1.lt;obtain ⟨es,c,hb,h3⟩:=h1;exact ⟨D,⟨es,c,by rw [x.block m hlt];exact hb,h3⟩,h2⟩
theorem MapF.kept {w w':World} {m n:Nat} {f:VT→Option GE} {row:Option Nat} (h:MapF w m n f) (g:w.grownBy w' row) (hne:some m ≠ row):MapF w' m n f:=by
 obtain ⟨D,h1,h2⟩:=h;exact ⟨D,h1.kept g hne,h2⟩
theorem MapF.made (w:World):MapF (w.alloc (.map #[] 0)) w.heap.size 0 (fun _=>none):=⟨_,World.ownsMap_made w _ _ _,⟨⟨[],rfl⟩,fun _ _ _=>rfl⟩⟩
set_option maxRecDepth 20000 in
theorem MapF.put {w:World} {m n:Nat} {f:VT→Option GE} (h:MapF w m n f) (hn:n≤2000000) {K:VT} (hK:InK K) (e:GE) :
  ∃ u,(Instr.mapUpdate 58 (.map (some m)) K.val e.sl).run Tryd.prog w=.ok () u∧MapF u m (n+1) (updF f K e)∧w.grownBy u (some m):=by
 obtain ⟨D,h1,h2⟩:=h;obtain ⟨u,r,o,g⟩:=h1.update valK mapG_type (show n<maxLen by unfold maxLen;omega) (kvOf_key hK) (glR_of e);exact ⟨u,r,⟨_,o,h2.put hK e⟩,g⟩
def lookF (f:VT→Option GE) (K:VT):Value:=match f K with | some e=>e.sl | none=>.slice none 0 0
set_option maxRecDepth 20000 in
theorem zero_ints (w:World):(zeroValue 60).run Tryd.prog w=.ok (.slice none 0 0) w:=by
 first | rfl | kernel_rfl | (simp [zeroValue,Tryd.underlying60,go_sem])
set_option maxRecDepth 20000 in
theorem MapF.look {w:World} {m n:Nat} {f:VT→Option GE} (h:MapF w m n f) {K:VT} (hK:InK K) :
  (Instr.lookup 58 (.map (some m)) K.val false).run Tryd.prog w=.ok (lookF f K) w:=by
 obtain ⟨D,h1,h2⟩:=h;obtain ⟨v,ps,hrun,hv⟩:=h1.lookup valK mapG_type (zero_ints w) (show glR (.slice none 0 0)=some (.nil,[]) from rfl) (kvOf_key hK);rw [hrun]
 congr 1
 rw [h2.2 K hK] at hv;unfold lookF;cases hf:f K with
 | none =>
  rw [hf] at hv
  rcases glR_inv hv with ⟨rfl,_⟩ | ⟨g,n,c,rfl,e⟩
  ·rfl
  ·cases congrArg Prod.fst e
 | some q =>
  rw [hf] at hv
  rcases glR_inv hv with ⟨rfl,e⟩ | ⟨g,n,c,rfl,e⟩
  ·cases congrArg Prod.fst e
  ·have e1:=congrArg Prod.fst e;simp [GE.d] at e1;obtain ⟨a,b,c'⟩:=e1;have a':q.g=g:=by omega
   have b':q.ns.length=n:=by omega
   have c'':q.cp=c:=by omega
   simp only;rw [← a',← b',← c'']
theorem app_srcG {P:Program} (w:World) (base:Nat) (t tx ty e:TypeId) (i:TypeInfo) (z:Value) (ht:P.underlying t=some (.slice e)) (hi:P.info? e=some i) (hz:i.zero=some z)
  (sz:Nat) (hsize:i.size=sz) (hby:i.bytes≤64) (hzs:z.cells.size=sz) (v:Value) (n:Nat) (xs:List Value) (hown:w.ownsRow base e sz v n xs) (x:Value) (m:Nat) (news:List Value) (hs:Src P sz tx x m news w)
  (hnm:n+m≤1000000000) (hbase:base≤w.heap.size) :
  ∃ v' w',(Builtin.append_ #[t,tx] ty #[v,x]).run P w=.ok v' w'∧w'.ownsRow base e sz v' (n+m) (xs++news)∧w.grownBy w' v.ownBlock∧(v'.ownBlock=v.ownBlock∨v'.ownBlock=some w.heap.size):=by
 have hs':Src P i.size tx x m news w:=by rw [hsize];exact hs
 have hml:n+m≤maxLen:=by simp only [maxLen];omega
 have hlen:(xs++news).length=(n+m) * sz:=by rw [List.length_append,hown.1,hs.newsLen,Nat.add_mul]
 have grown:∀ (old:Nat) (row:Option Nat),
   (w.drew.alloc (.cells ((xs++news).toArray++Builtin.zeroCells z.cells (grownCap w (n+m) old e - (n+m))) e)).ownsRow base e sz (.slice (some ⟨w.heap.size,0,none⟩) (n+m) (grownCap w (n+m) old e)) (n+m) (xs++news) ∧
   w.grownBy (w.drew.alloc (.cells ((xs++news).toArray++Builtin.zeroCells z.cells (grownCap w (n+m) old e - (n+m))) e)) row:=by
  intro old row;have hge:=grownCap_ge w (n+m) old e;refine ⟨⟨hlen,.inr ⟨w.heap.size,_,_,rfl,hbase,heap_alloc_new w.drew _,hge,grownCap_le_maxLen w (n+m) old e hml,?_,?_⟩⟩,⟨rfl,rfl,rfl,by simp,fun k hk _=>heap_alloc_old w.drew _ hk⟩⟩
  ·rw [Array.size_append,List.size_toArray,size_zeroCells,hzs,hlen,← Nat.add_mul]
   congr 1
   omega
  ·rw [Array.toList_append,← hlen];exact List.take_left
 rcases hown.2 with ⟨rfl,rfl⟩ | ⟨g,cap,cur,rfl,hbg,hg,hnc,hcm,hcs,htake⟩
 ·have hx:xs=[]:=List.eq_nil_of_length_eq_zero (by have:=hown.1;rw [Nat.zero_mul] at this;exact this);subst hx;by_cases hm:m=0
  ·subst hm;have hn:news=[]:=List.eq_nil_of_length_eq_zero (by have:=hs.newsLen;rw [Nat.zero_mul] at this;exact this);subst hn;exact ⟨_,_,run_append_nothing w t tx ty e i ht hi none 0 0 (Nat.le_refl _) x hs',World.ownsRow_nil w base e sz,⟨rfl,rfl,rfl,Nat.le_refl _,fun _ _ _=>rfl⟩,Or.inl rfl⟩
  ·have hr:=run_append_grow_src (P:=P) w t tx ty e i z ht hi hz none 0 0 [] (run_firstCells_none w.drew i.size 0 0 0) x m news hs' (by omega) (by omega) (growslice_fits (by omega) (by have:=Nat.mul_le_mul hnm hby;omega));have hgr:=grown 0 (Value.ownBlock (.slice none 0 0));exact ⟨_,_,hr,hgr.1,hgr.2,Or.inr rfl⟩
 ·by_cases hroom:n+m≤cap
  ·have hfit:n * i.size+news.length≤cur.size:=by rw [hs'.newsLen,hcs,hsize,← Nat.add_mul];exact Nat.mul_le_mul_right _ hroom
   have hst:=run_storeCells_at P g (n * i.size) e news 0 cur w hg (by simpa using hfit) hs.one;simp only [Nat.add_zero] at hst;have hr:(Builtin.append_ #[t,tx] ty #[.slice (some ⟨g,0,none⟩) n cap,x]).run P w=.ok (.slice (some ⟨g,0,none⟩) (n+m) cap) (w.setRow g (cur.toList.take (n * i.size)++news++cur.toList.drop (n * i.size+news.length)).toArray):=by
    rcases hs'.kind with ⟨e',hk⟩ | hk <;> simp [Builtin.append_,run_underlying ht,run_underlying hk,sizeOf,typeInfo,hi,hs'.len,hroom,hs'.cells,Addr.add_lit,hst]
   refine ⟨_,_,hr,⟨hlen,.inr ⟨g,cap,_,rfl,hbg,setRow_heap w g cur _ e _ hg,hroom,hcm,?_,?_⟩⟩,⟨rfl,rfl,rfl,by simp,fun k _ hk=>setRow_other w g k _ (fun e=>hk (by simp [Value.ownBlock,e]))⟩,Or.inl rfl⟩
   ·simp only [List.size_toArray,List.length_append,List.length_take,List.length_drop,Array.length_toList];omega
   ·rw [hsize,htake,← hlen];exact List.take_left
  ·have holds:∀ j u,xs[j]?=some u→w.cell? ((⟨g,0,none⟩:Addr).add j)=some u:=hown.cells (g:=g) rfl;have hr:=run_append_grow_src (P:=P) w t tx ty e i z ht hi hz (some ⟨g,0,none⟩) n cap xs (run_firstCells_some (P:=P) w.drew i.size n ⟨g,0,none⟩ n cap xs (by rw [hsize];exact hown.1) (by simpa using holds)) x m news hs' (by omega) (by omega) (growslice_fits (by omega) (by have:=Nat.mul_le_mul hnm hby;omega));have hgr:=grown cap (Value.ownBlock (.slice (some ⟨g,0,none⟩) n cap));exact ⟨_,_,hr,hgr.1,hgr.2,Or.inr rfl⟩
theorem ownI_far {w w':World} {base:Nat} {v:Value} {l:List Nat} {row:Option Nat} (h:OwnI w base v l) (hg:w.grownBy w' row) (hr:∀ k,v.ownBlock=some k→some k ≠ row):OwnI w' base v l:=by
 refine ⟨h.1,h.2.imp id ?_⟩;rintro ⟨g,cap,cur,h1,h2,h3,h4⟩;have hlt:g<w.heap.size:=by
  rcases Nat.lt_or_ge g w.heap.size with h' | h'
  ·exact h'
  ·rw [Array.getElem?_eq_none h'] at h3;cases h3
 exact ⟨g,cap,cur,h1,h2,by rw [hg.block g hlt (hr g (by rw [h1];rfl))];exact h3,h4⟩
def RowsF (w:World) (base m:Nat) (f:VT→Option GE):Prop:=
 (∀ K,InK K→∀ e,f K=some e→OwnI w base e.sl e.ns∧e.g ≠ m∧e.g<w.heap.size)∧∀ K Q e q,InK K→InK Q→K ≠ Q→f K=some e→f Q=some q→e.g ≠ q.g
theorem RowsF.nil (w:World) (base m:Nat):RowsF w base m (fun _=>none):=⟨(fun _ _ _ h=>by cases h),(fun _ _ _ _ _ _ _ h _=>by cases h)⟩
theorem RowsF.later {w w':World} {base m:Nat} {f:VT→Option GE} (h:RowsF w base m f) (x:Ext w w'):RowsF w' base m f:=
 ⟨fun K hK e he=>⟨ownI_later (h.1 K hK e he).1 x,(h.1 K hK e he).2.1,Nat.lt_of_lt_of_le (h.1 K hK e he).2.2 x.size⟩,h.2⟩
theorem RowsF.map {w w':World} {base m:Nat} {f:VT→Option GE} (h:RowsF w base m f) (g:w.grownBy w' (some m)):RowsF w' base m f:=by
 refine ⟨fun K hK e he=>⟨ownI_far (h.1 K hK e he).1 g (fun k hk=>?_),(h.1 K hK e he).2.1,Nat.lt_of_lt_of_le (h.1 K hK e he).2.2 g.size⟩,h.2⟩;have:e.g=k:=by simpa [Value.ownBlock] using hk
 subst this;exact fun q=>(h.1 K hK e he).2.1 (by simpa using q)
def nsF (f:VT→Option GE) (K:VT):List Nat:=match f K with | some e=>e.ns | none=>[]
theorem lookF_own {w:World} {base m:Nat} {f:VT→Option GE} (h:RowsF w base m f) {K:VT} (hK:InK K):OwnI w base (lookF f K) (nsF f K):=by
 unfold lookF nsF;cases hf:f K with
 | none=>exact ownI_nil w base
 | some e=>exact (h.1 K hK e hf).1
theorem RowsF.grow {w w':World} {base m y:Nat} {f:VT→Option GE} {v':Value} (h:RowsF w base m f) {K:VT} (hK:InK K) (hm:m<w.heap.size) (O:OwnI w' base v' (nsF f K++[y])) (G:w.grownBy w' (lookF f K).ownBlock)
  (hb:v'.ownBlock=(lookF f K).ownBlock∨v'.ownBlock=some w.heap.size):∃ e:GE,v'=e.sl∧e.ns=nsF f K++[y]∧RowsF w' base m (updF f K e):=by
 have hO:=O
 rcases O.2 with ⟨_,h0⟩ | ⟨g,cap,cur,rfl,hbg,hg,hc,hz,hcs,ht⟩
 ·simp at h0
 ·refine ⟨⟨g,cap,nsF f K++[y]⟩,rfl,rfl,?_,?_⟩
  ·intro Q hQ q hq;by_cases e:K=Q
   ·subst e;rw [updF_same] at hq;cases hq;refine ⟨hO,?_,?_⟩
    ·show g ≠ m
     rcases hb with hb | hb
     ·unfold lookF at hb;cases hf:f K with
      | none=>rw [hf] at hb;cases hb
      | some e =>
       rw [hf] at hb;have:g=e.g:=(by simpa [Value.ownBlock] using hb);rw [this];exact (h.1 K hK e hf).2.1
     ·have:g=w.heap.size:=(by simpa [Value.ownBlock] using hb);omega
    ·show g<w'.heap.size
     rcases Nat.lt_or_ge g w'.heap.size with h' | h'
     ·exact h'
     ·rw [Array.getElem?_eq_none h'] at hg;cases hg
   ·rw [updF_other e] at hq;obtain ⟨a,b,c⟩:=h.1 Q hQ q hq;refine ⟨ownI_far a G (fun k hk=>?_),b,Nat.lt_of_lt_of_le c G.size⟩;have hk':q.g=k:=(by simpa [Value.ownBlock] using hk);subst hk';unfold lookF;cases hf:f K with
    | none=>simp [Value.ownBlock]
    | some e' =>
     have:=h.2 K Q e' q hK hQ e hf hq;simp [Value.ownBlock];exact fun z=>this z.symm
  ·have key:∀ Q q,InK Q→K ≠ Q→f Q=some q→g ≠ q.g:=fun Q q hQ e hq=>by
    rcases hb with hb | hb
    ·unfold lookF at hb;cases hf:f K with
     | none=>rw [hf] at hb;cases hb
     | some e' =>
      rw [hf] at hb;have:g=e'.g:=(by simpa [Value.ownBlock] using hb);rw [this];exact h.2 K Q e' q hK hQ e hf hq
    ·have:g=w.heap.size:=(by simpa [Value.ownBlock] using hb);have:=(h.1 Q hQ q hq).2.2;omega
   intro A B a b hA hB hAB ha hb';by_cases e:K=A
   ·subst e;rw [updF_same] at ha;cases ha;rw [updF_other hAB] at hb';exact key B b hB hAB hb'
   ·rw [updF_other e] at ha;by_cases e2:K=B
    ·subst e2;rw [updF_same] at hb';cases hb';exact fun z=>key A a hA e ha z.symm
    ·rw [updF_other e2] at hb';exact h.2 A B a b hA hB hAB ha hb'
section
variable {P:Program} {ops:Array Oper} {Q:Exit→Act→World→Prop}
def rhOk (md:Region.Mode) (ops:Array Oper):Bool:=
 (List.range ops.size).all fun i =>
  match ops[i]? with
  | none=>true
  | some o=>o.after.all fun e=>!Region.binds md e || decide (e.on<i)
theorem rhOk_spec {md:Region.Mode} (h:rhOk md ops=true) {i:Nat} {o:Oper} (hi:ops[i]?=some o):∀ e ∈ o.after,Region.binds md e=true→e.on<i:=by
 have hlt:i<ops.size:=by
  rcases Nat.lt_or_ge i ops.size with h' | h'
  ·exact h'
  ·rw [Array.getElem?_eq_none h'] at hi;cases hi
 have:=(List.all_eq_true.1 h) i (List.mem_range.2 hlt);rw [hi] at this;intro e he hb;have h2:=(Array.all_eq_true_iff_forall_mem.1 this) e he;rw [hb] at h2;simpa using h2
theorem wpOp_of_ops_g {i:Nat} {o:Oper} {K:Act→World→Prop} {a:Act} {w:World} (ho:ops[i]?=some o)
  (h:if Region.wanted o (yielded ops a.tmps)=true then wpList P #[{ o with guard:=none }] (Exit.then K Q) [{ o with guard:=none }] a w else K (a.put o.dst undef) w):wpOp P ops Q i K a w:=by
 unfold wpOp;simp only [ho]
 split
 ·next hw =>
  rw [if_pos hw] at h;simp only [wpList,Region.wanted,if_true] at h
  rcases h with h | ⟨h1,h2⟩
  ·left;unfold Oper.wp at *;have e:execOp a.eval { o with guard:=none }=execOp a.eval o:=rfl;rw [e] at h;generalize (execOp a.eval o).run P w=r at *;cases r with
   | ok n w' =>
    cases n
    case enter f args =>
     refine Calls.mono h fun e w'' he=>?_;cases e <;> exact he
    all_goals exact h
   | halt x w'=>cases x <;> exact h
  ·exact .inr ⟨h1,h2⟩
 ·next hw =>
  rw [if_neg hw] at h;exact h
theorem all_listed_g {md:Region.Mode} (hc:rhOk md ops=true) {listed:Array Bool} (hsz:listed.size=ops.size) (hr:Region.ready md ops listed=[]):∀ i,i<ops.size→listed.getD i false=true:=by
 intro i
 induction i using Nat.strongRecOn with
 | ind i ih =>
  intro hi;cases hl:listed.getD i false with
  | true=>rfl
  | false =>
   exfalso;have hlt:i<listed.size:=by omega
   have h1:listed.getD i true=false:=by
    rw [Array.getD_eq_getD_getElem?,Array.getElem?_eq_getElem hlt] at hl ⊢;exact hl
   have ho:ops[i]?=some ops[i]:=Array.getElem?_eq_getElem hi;have hlow:=rhOk_spec hc ho;have:i ∈ Region.ready md ops listed:=mem_ready.2 ⟨h1,_,ho,fun e he hb=>ih e.on (hlow e he hb) (Nat.lt_trans (hlow e he hb) hi)⟩;rw [hr] at this;cases this
theorem wp_region_letters_g {X:Type} {id:Nat} {a:Act} {w:World} (F:X→Act) (I:(Nat→Bool)→X→World→Prop) (hm:P.follows .mixedOrders=true) (hc:rhOk .any ops=true)
  (x0:X) (h0:a=F x0) (hI:I (fun _=>false) x0 { w with drawn:=w.drawn+1 })
  (step:∀ L x w i o (K:Act→World→Prop),(∀ x' w',I (fun j=>if j=i then true else L j) x' w'→K (F x') w')→ops[i]?=some o→L i=false→(∀ e ∈ o.after,Region.binds .any e=true→L e.on=true)→I L x w →
   if Region.wanted o (yielded ops (F x).tmps)=true then wpList P #[{ o with guard:=none }] (Exit.then K Q) [{ o with guard:=none }] (F x) w else K ((F x).put o.dst undef) w)
  (fin:∀ L x w,(∀ j,j<ops.size→L j=true)→I L x w→Q .normal (F x) w):(Code.region id ops true).wp P Q a w:=by
 refine wp_region_inv (fun listed a w=>listed.size=ops.size∧∃ x,a=F x∧I (fun j=>listed.getD j false) x w) hm ?_ ?_ ?_
 ·refine ⟨by simp,x0,h0,?_⟩;have e:(fun j=>(Array.replicate ops.size false).getD j false)=fun _=>false:=by
   funext j
   rw [Array.getD_eq_getD_getElem?]
   rcases Nat.lt_or_ge j ops.size with h' | h'
   ·rw [Array.getElem?_eq_getElem (by simpa using h')];simp
   ·rw [Array.getElem?_eq_none (by simpa using h')];simp
  rw [e];exact hI
 ·rintro listed a w i o ⟨hs,x,rfl,hx⟩ hi ho;obtain ⟨hun,o',ho',hall⟩:=mem_ready.1 hi;have:o'=o:=by rw [ho] at ho';exact (Option.some.inj ho').symm
  subst this;have hlt:i<listed.size:=by
   rcases Nat.lt_or_ge i listed.size with h' | h'
   ·exact h'
   ·rw [Array.getD_eq_getD_getElem?,Array.getElem?_eq_none h'] at hun;cases hun
  have hun':listed.getD i false=false:=by
   rw [Array.getD_eq_getD_getElem?,Array.getElem?_eq_getElem hlt] at hun ⊢;exact hun
  refine wpOp_mono ?_ (wpOp_of_ops_g ho (step _ x w i o' (fun a' w'=>∃ x',a'=F x'∧I (fun j=>if j=i then true else listed.getD j false) x' w') (fun x' w' h=>⟨x',rfl,h⟩) ho hun' hall hx));rintro a' w' ⟨x',rfl,hx'⟩;refine ⟨by simp [hs],x',rfl,?_⟩;have e:(fun j=>(listed.setIfInBounds i true).getD j false)=fun j=>if j=i then true else listed.getD j false:=by
   funext j
   by_cases hj:j=i
   ·subst hj;rw [if_pos rfl,Array.getD_eq_getD_getElem?,Array.getElem?_setIfInBounds_self_of_lt hlt];rfl
   ·rw [if_neg hj,getD_set_ne false (fun e=>hj e.symm)]
  rw [e];exact hx'
 ·rintro listed a w hr ⟨hs,x,rfl,hx⟩;exact fin _ x w (all_listed_g hc hs hr) hx
end
end Go.Proofs.YtnphbpmdohidcaaDoor

