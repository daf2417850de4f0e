/-
  Several texts in one: K4, K5, Fb, V6e, V6f, TxS, TxI.
-/
import Derived.Test.YtjlojlgdkfpcdaaGreatDoorMg28
import Derived.Test.YtjlojlgdkfpcdaaGreatDoorMg1
import Derived.Test.YtjlojlgdkfpcdaaGreatDoorMg16
import Derived.Test.YtjlojlgdkfpcdaaGreatDoorMg5
import Derived.Test.YtjlojlgdkfpcdaaGreatDoorMg11
import Derived.Test.YtjlojlgdkfpcdaaGreatDoorMg26
import Derived.Test.YtjlojlgdkfpcdaaGreatDoorMg22
import Derived.Deep.RegionHeld3
set_option maxRecDepth 8000
set_option maxHeartbeats 1000000
namespace Go.Proofs.YtjlojlgdkfpcdaaGreatDoor
open Go.RowKit
theorem zB7 {k last p:Nat} {c:BL} {f:KT} (h:zAI last c=some p):zDW (k+1) last c f=zDW k p (c.drop (zA0 p c)) (zB6 p (c.take (zA0 p c)) f):=by
 show (match zAI last c with | none=>_ | some p=>_)=_;rw [h]
theorem zCB {k last:Nat} {c:BL} {f:KT} (h:zAI last c=none):zDW (k+1) last c f=(f,c,last):=by
 show (match zAI last c with | none=>_ | some p=>_)=_;rw [h]
theorem next0 (c:BL):zAI 0 c=(cond (decide (0<zA0 1 c)) (some 1) (cond (decide (0<zA0 2 c)) (some 2) (cond (decide (0<zA0 3 c)) (some 3) (cond (decide (0<zA0 8 c)) (some 8) none)))):=by
 unfold zAI fitP;rw [show List.range 10=[0,1,2,3,4,5,6,7,8,9] from rfl];simp only [List.find?_cons];generalize decide (0<zA0 0 c)=b0;generalize decide (0<zA0 1 c)=b1;generalize decide (0<zA0 2 c)=b2;generalize decide (0<zA0 3 c)=b3;generalize decide (0<zA0 4 c)=b4;generalize decide (0<zA0 5 c)=b5;generalize decide (0<zA0 6 c)=b6;generalize decide (0<zA0 7 c)=b7;generalize decide (0<zA0 8 c)=b8;generalize decide (0<zA0 9 c)=b9;cases b1 <;> cases b2 <;> cases b3 <;> cases b8 <;> rfl
theorem next1 (c:BL):zAI 1 c=(cond (decide (0<zA0 2 c)) (some 2) (cond (decide (0<zA0 3 c)) (some 3) (cond (decide (0<zA0 8 c)) (some 8) none))):=by
 unfold zAI fitP;rw [show List.range 10=[0,1,2,3,4,5,6,7,8,9] from rfl];simp only [List.find?_cons];generalize decide (0<zA0 0 c)=b0;generalize decide (0<zA0 1 c)=b1;generalize decide (0<zA0 2 c)=b2;generalize decide (0<zA0 3 c)=b3;generalize decide (0<zA0 4 c)=b4;generalize decide (0<zA0 5 c)=b5;generalize decide (0<zA0 6 c)=b6;generalize decide (0<zA0 7 c)=b7;generalize decide (0<zA0 8 c)=b8;generalize decide (0<zA0 9 c)=b9;cases b2 <;> cases b3 <;> cases b8 <;> rfl
theorem next2 (c:BL):zAI 2 c=(cond (decide (0<zA0 3 c)) (some 3) none):=by
 unfold zAI fitP;rw [show List.range 10=[0,1,2,3,4,5,6,7,8,9] from rfl];simp only [List.find?_cons];generalize decide (0<zA0 0 c)=b0;generalize decide (0<zA0 1 c)=b1;generalize decide (0<zA0 2 c)=b2;generalize decide (0<zA0 3 c)=b3;generalize decide (0<zA0 4 c)=b4;generalize decide (0<zA0 5 c)=b5;generalize decide (0<zA0 6 c)=b6;generalize decide (0<zA0 7 c)=b7;generalize decide (0<zA0 8 c)=b8;generalize decide (0<zA0 9 c)=b9;cases b3 <;> rfl
theorem next3 (c:BL):zAI 3 c=(cond (decide (0<zA0 4 c)) (some 4) (cond (decide (0<zA0 7 c)) (some 7) (cond (decide (0<zA0 9 c)) (some 9) none))):=by
 unfold zAI fitP;rw [show List.range 10=[0,1,2,3,4,5,6,7,8,9] from rfl];simp only [List.find?_cons];generalize decide (0<zA0 0 c)=b0;generalize decide (0<zA0 1 c)=b1;generalize decide (0<zA0 2 c)=b2;generalize decide (0<zA0 3 c)=b3;generalize decide (0<zA0 4 c)=b4;generalize decide (0<zA0 5 c)=b5;generalize decide (0<zA0 6 c)=b6;generalize decide (0<zA0 7 c)=b7;generalize decide (0<zA0 8 c)=b8;generalize decide (0<zA0 9 c)=b9;cases b4 <;> cases b7 <;> cases b9 <;> rfl
theorem next4 (c:BL):zAI 4 c=(cond (decide (0<zA0 5 c)) (some 5) (cond (decide (0<zA0 6 c)) (some 6) none)):=by
 unfold zAI fitP;rw [show List.range 10=[0,1,2,3,4,5,6,7,8,9] from rfl];simp only [List.find?_cons];generalize decide (0<zA0 0 c)=b0;generalize decide (0<zA0 1 c)=b1;generalize decide (0<zA0 2 c)=b2;generalize decide (0<zA0 3 c)=b3;generalize decide (0<zA0 4 c)=b4;generalize decide (0<zA0 5 c)=b5;generalize decide (0<zA0 6 c)=b6;generalize decide (0<zA0 7 c)=b7;generalize decide (0<zA0 8 c)=b8;generalize decide (0<zA0 9 c)=b9;cases b5 <;> cases b6 <;> rfl
theorem next5 (c:BL):zAI 5 c=(cond (decide (0<zA0 6 c)) (some 6) (cond (decide (0<zA0 7 c)) (some 7) (cond (decide (0<zA0 9 c)) (some 9) none))):=by
 unfold zAI fitP;rw [show List.range 10=[0,1,2,3,4,5,6,7,8,9] from rfl];simp only [List.find?_cons];generalize decide (0<zA0 0 c)=b0;generalize decide (0<zA0 1 c)=b1;generalize decide (0<zA0 2 c)=b2;generalize decide (0<zA0 3 c)=b3;generalize decide (0<zA0 4 c)=b4;generalize decide (0<zA0 5 c)=b5;generalize decide (0<zA0 6 c)=b6;generalize decide (0<zA0 7 c)=b7;generalize decide (0<zA0 8 c)=b8;generalize decide (0<zA0 9 c)=b9;cases b6 <;> cases b7 <;> cases b9 <;> rfl
theorem next6 (c:BL):zAI 6 c=(cond (decide (0<zA0 7 c)) (some 7) (cond (decide (0<zA0 9 c)) (some 9) none)):=by
 unfold zAI fitP;rw [show List.range 10=[0,1,2,3,4,5,6,7,8,9] from rfl];simp only [List.find?_cons];generalize decide (0<zA0 0 c)=b0;generalize decide (0<zA0 1 c)=b1;generalize decide (0<zA0 2 c)=b2;generalize decide (0<zA0 3 c)=b3;generalize decide (0<zA0 4 c)=b4;generalize decide (0<zA0 5 c)=b5;generalize decide (0<zA0 6 c)=b6;generalize decide (0<zA0 7 c)=b7;generalize decide (0<zA0 8 c)=b8;generalize decide (0<zA0 9 c)=b9;cases b7 <;> cases b9 <;> rfl
theorem next7 (c:BL):zAI 7 c=(cond (decide (0<zA0 9 c)) (some 9) none):=by
 unfold zAI fitP;rw [show List.range 10=[0,1,2,3,4,5,6,7,8,9] from rfl];simp only [List.find?_cons];generalize decide (0<zA0 0 c)=b0;generalize decide (0<zA0 1 c)=b1;generalize decide (0<zA0 2 c)=b2;generalize decide (0<zA0 3 c)=b3;generalize decide (0<zA0 4 c)=b4;generalize decide (0<zA0 5 c)=b5;generalize decide (0<zA0 6 c)=b6;generalize decide (0<zA0 7 c)=b7;generalize decide (0<zA0 8 c)=b8;generalize decide (0<zA0 9 c)=b9;cases b9 <;> rfl
theorem next8 (c:BL):zAI 8 c=(cond (decide (0<zA0 9 c)) (some 9) none):=by
 unfold zAI fitP;rw [show List.range 10=[0,1,2,3,4,5,6,7,8,9] from rfl];simp only [List.find?_cons];generalize decide (0<zA0 0 c)=b0;generalize decide (0<zA0 1 c)=b1;generalize decide (0<zA0 2 c)=b2;generalize decide (0<zA0 3 c)=b3;generalize decide (0<zA0 4 c)=b4;generalize decide (0<zA0 5 c)=b5;generalize decide (0<zA0 6 c)=b6;generalize decide (0<zA0 7 c)=b7;generalize decide (0<zA0 8 c)=b8;generalize decide (0<zA0 9 c)=b9;cases b9 <;> rfl
theorem next9 (c:BL):zAI 9 c=none:=by
 unfold zAI fitP;rw [show List.range 10=[0,1,2,3,4,5,6,7,8,9] from rfl];simp only [List.find?_cons];generalize decide (0<zA0 0 c)=b0;generalize decide (0<zA0 1 c)=b1;generalize decide (0<zA0 2 c)=b2;generalize decide (0<zA0 3 c)=b3;generalize decide (0<zA0 4 c)=b4;generalize decide (0<zA0 5 c)=b5;generalize decide (0<zA0 6 c)=b6;generalize decide (0<zA0 7 c)=b7;generalize decide (0<zA0 8 c)=b8;generalize decide (0<zA0 9 c)=b9;rfl
theorem scan9 (k:Nat) (c:BL) (f:KT):zDW k 9 c f=(f,c,9):=by
 cases k with
 | zero=>rfl
 | succ k=>exact zCB (next9 c)
theorem zGW:mayB 10 0=false/\mayB 10 1=false/\mayB 10 2=false/\mayB 10 3=true/\mayB 10 4=false/\mayB 10 5=true/\mayB 10 6=true/\mayB 10 7=true/\mayB 10 8=true/\mayB 10 9=true:=by decide
def zGU (o:Option (KT × BL)) (s:KT × BL × Nat):Prop:=match o with
 | some x=>s.1=x.1/\s.2.1=x.2/\mayB 10 s.2.2=true
 | none=>mayB 10 s.2.2=false\/(s.2.1 ≠ []/\Lib.hasPrefix s.2.1 [59]=false)
theorem mem_tw {P:UInt8->Bool} {l:BL} {x:UInt8} (h:x ∈ l.takeWhile P):P x=true:=by
 induction l with
 | nil=>cases h
 | cons y l ih =>
  cases hy:P y with
  | false=>simp [List.takeWhile,hy] at h
  | true =>
   simp [List.takeWhile,hy] at h
   rcases h with h | h
   ·rw [h];exact hy
   ·exact ih h
theorem zNJ {c:BL} {x:UInt8} (h:Lib.hasPrefix c [x]=true):∃ r,c=x :: r:=by
 cases c with
 | nil=>simp [Lib.hasPrefix,List.isPrefixOf] at h
 | cons y r =>
  simp [Lib.hasPrefix,List.isPrefixOf] at h;exact ⟨r,by rw [h]⟩
theorem zFM (y:UInt8) (r:BL) (x:UInt8):Lib.hasPrefix (y :: r) [x]=(x == y):=by
 simp [Lib.hasPrefix,List.isPrefixOf]
theorem zH4 {c t r:BL} (h:qT c=some (t,r)):c=34 :: (t++34 :: r)/\(∀ x ∈ t,x ≠ 34)/\t ≠ []:=by
 cases c with
 | nil=>cases h
 | cons c0 r0 =>
  have h:(if (c0 == 34)=true then (if (r0.dropWhile nq) ≠ []/\(r0.takeWhile nq) ≠ []/\(r0.takeWhile nq).length<=20/\zBW (r0.takeWhile nq)=true then some (r0.takeWhile nq,(r0.dropWhile nq).drop 1) else none) else none)=some (t,r):=h
  split at h
  ·rename_i hc
   split at h
   ·rename_i hh;obtain ⟨h1,h2,_,_⟩:=hh;cases h;have hc0:c0=34:=(by simpa using hc);obtain ⟨y,q,hq⟩:∃ y q,r0.dropWhile nq=y :: q:=by
     cases hd:r0.dropWhile nq with
     | nil=>exact absurd hd h1
     | cons y q=>exact ⟨y,q,rfl⟩
    have hy:y=34:=by
     have:=zSF r0;rw [hq] at this;rw [zFM] at this;simp at this;exact this.symm
    refine ⟨?_,?_,h2⟩
    ·rw [hc0]
     congr 1
     show r0=r0.takeWhile nq++34 :: (r0.dropWhile nq).drop 1;rw [hq];show r0=r0.takeWhile nq++34 :: q;rw [<- hy,<- hq];exact (List.takeWhile_append_dropWhile (p:=nq) (l:=r0)).symm
    ·intro x hx;have:=mem_tw hx;simpa [nq] using this
   ·cases h
  ·cases h
theorem zLT {t:BL} (h:∀ x ∈ t,x ≠ 34) (hne:t ≠ []):Lib.trimS (34 :: (t++[34])) [34]=t:=by
 have hc:∀ x,([(34:UInt8)].contains x)=(x == 34):=fun x=>Lib.contains_one 34 x;have h1:Lib.trimRightS (34 :: (t++[34])) [34]=34 :: t:=by
  unfold Lib.trimRightS;have e:(34 :: (t++[34])).reverse=34 :: (t.reverse++[34]):=by simp
  rw [e];obtain ⟨z,q,hz⟩:∃ z q,t.reverse=z :: q:=by
   cases hr:t.reverse with
   | nil=>exact absurd (List.reverse_eq_nil_iff.1 hr) hne
   | cons z q=>exact ⟨z,q,rfl⟩
  have hz34:z ≠ 34:=h z (by rw [<- List.mem_reverse,hz];simp);rw [hz];have d1:([(34:UInt8)].contains (34:UInt8))=true:=by decide
  have d2:([(34:UInt8)].contains z)=false:=by rw [hc];simpa using hz34
  show ((34 :: ((z :: q)++[34])).dropWhile (fun x=>[(34:UInt8)].contains x)).reverse=_;simp only [List.cons_append,List.dropWhile,d1,d2];rw [<- List.cons_append,<- hz];simp
 unfold Lib.trimS;rw [h1];unfold Lib.trimLeftS;cases t with
 | nil=>exact absurd rfl hne
 | cons y q =>
  have d1:([(34:UInt8)].contains (34:UInt8))=true:=by decide
  have d2:([(34:UInt8)].contains y)=false:=by rw [hc];have:=h y (by simp);simpa using this
  show (34 :: y :: q).dropWhile (fun x=>[(34:UInt8)].contains x)=_;simp only [List.dropWhile,d1,d2]
theorem zKT {c t r:BL} (h:qT c=some (t,r)):zCC c=t.length+2/\Lib.trimS (c.take (t.length+2)) [34]=t/\c.drop (t.length+2)=r:=by
 obtain ⟨h1,h2,h3⟩:=zH4 h;refine ⟨by unfold zCC;rw [h],?_,?_⟩
 ·have:c.take (t.length+2)=34 :: (t++[34]):=by
   rw [h1,show t.length+2=(t.length+1)+1 by omega,List.take_succ_cons]
   congr 1
   rw [List.take_append,List.take_of_length_le (by omega)];simp
  rw [this];exact zLT h2 h3
 ·rw [h1,show t.length+2=(t.length+1)+1 by omega,List.drop_succ_cons];rw [List.drop_append];simp
theorem aft (k last:Nat) (c b d:BL) (wn pn mn tn:Int) (g:Bool) (hn:zAI last c=cond (decide (0<zA0 9 c)) (some 9) none) (hl:mayB 10 last=true) :
  zGU ((quoS c).map fun x=>(⟨false,b,x.1,wn,pn,mn,g,tn,d⟩,x.2)) (zDW (k+1) last c ⟨false,b,[],wn,pn,mn,g,tn,d⟩):=by
 by_cases hq:Lib.hasPrefix c [34]=true
 ·have hS:quoS c=qT c:=by unfold quoS;rw [if_pos hq]
  rw [hS];cases hT:qT c with
  | none =>
   have h0:zA0 9 c=0:=by show zCC c=0;unfold zCC;rw [hT]
   rw [h0] at hn;rw [zCB hn];obtain ⟨r,hr⟩:=zNJ hq;right;refine ⟨by rw [hr];simp,?_⟩;rw [hr,zFM];decide
  | some x =>
   obtain ⟨t,r⟩:=x;obtain ⟨h1,h2,h3⟩:=zKT hT;have h0:zA0 9 c=t.length+2:=h1;rw [h0] at hn;have hn':zAI last c=some 9:=by rw [hn];simp
   rw [zB7 hn',scan9,h0,h3];refine ⟨?_,rfl,zGW.2.2.2.2.2.2.2.2.2⟩;show zB6 9 (c.take (t.length+2)) _=_;simp only [zB6,h2]
 ·have hq':Lib.hasPrefix c [34]=false:=by simpa using hq
  have h0:zA0 9 c=0:=zEA hq';rw [h0] at hn;rw [zCB hn];have hS:quoS c=some ([],c):=by unfold quoS;rw [hq'];rfl
  rw [hS];exact ⟨rfl,rfl,hl⟩
theorem zEP {n:Nat} {c:BL} (h:n<=c.length):((c.take n).length:Int)=(n:Int):=by rw [List.length_take];omega
theorem tim (k last:Nat) (c b:BL) (wn pn mn:Int) (g:Bool) (hn:zAI last c=cond (decide (0<zA0 7 c)) (some 7) (cond (decide (0<zA0 9 c)) (some 9) none)) (hl:mayB 10 last=true) :
  zGU ((quoS (c.drop (runF 37 3 c))).map fun x=>(⟨false,b,x.1,wn,pn,mn,g,runF 37 3 c,[]⟩,x.2)) (zDW (k+2) last c ⟨false,b,[],wn,pn,mn,g,0,[]⟩):=by
 obtain ⟨tn,htn⟩:=nm (runF 37 3 c);have h7:zA0 7 c=tn:=htn;have hle:tn<=c.length:=by rw [<- htn];exact zDF _ _ _
 rw [htn];rw [h7] at hn
 rcases Nat.eq_zero_or_pos tn with h0 | h0
 ·subst h0;exact aft (k+1) last c b [] wn pn mn 0 g (by rw [hn];rfl) hl
 ·have hn':zAI last c=some 7:=by rw [hn,decide_eq_true h0];rfl
  rw [zB7 hn',h7];have:=aft k 7 (c.drop tn) b [] wn pn mn tn g (next7 _) zGW.2.2.2.2.2.2.2.1;simp only [zB6,zEP hle];exact this
theorem run46 (c:BL):runF 46 1 c=if Lib.hasPrefix c [46] then 1 else 0:=by
 cases h:Lib.hasPrefix c [46] with
 | true=>rw [zJH h (by decide),zN8];rfl
 | false=>rw [zH3 h];rfl
def zUE (r:BL):Prop:=∀ y q,r=y :: q->sepC y=false
theorem pre_app:∀ (o d r:BL),(∀ x ∈ o,sepC x=true)->zUE r->o.isPrefixOf (d++r)=o.isPrefixOf d:=by
 intro o
 induction o with
 | nil=>intro d r _ _;simp [List.isPrefixOf]
 | cons x o ih =>
  intro d r ho hr;cases d with
  | nil =>
   cases r with
   | nil=>rfl
   | cons y q =>
    have hx:=ho x (by simp);have hy:=hr y q rfl;have:(x == y)=false:=by
     rw [beq_eq_false_iff_ne];intro e;rw [e,hy] at hx;cases hx
    show ((x == y) && o.isPrefixOf q)=false;rw [this];rfl
  | cons z d =>
   show ((x == z) && o.isPrefixOf (d++r))=((x == z) && o.isPrefixOf d);rw [ih d r (fun y hy=>ho y (by simp [hy])) hr]
theorem zQH:∀ o ∈ zAG,∀ x ∈ o,sepC x=true:=by decide
theorem zJ4 {P Q:BL->Bool}:∀ (l:List BL),(∀ o ∈ l,P o=Q o)->l.find? P=l.find? Q
 | [],_=>rfl
 | o :: l,h=>by
  rw [List.find?_cons,List.find?_cons,h o (by simp),zJ4 l (fun x hx=>h x (by simp [hx]))]
theorem zU9 (d r:BL) (hr:zUE r):zAC (d++r)=zAC d:=by
 unfold zAC;rw [zJ4 zAG (fun o ho=>show Lib.hasPrefix (d++r) o=Lib.hasPrefix d o from pre_app o d r (zQH o ho) hr)]
theorem zRT {d:BL} {ps:List BL} (h:zA6 d.length d=some ps) (hd:d ≠ []):1<=ps.length:=by
 rcases Nat.eq_zero_or_pos ps.length with h0 | h0
 ·have:ps=[]:=List.length_eq_zero_iff.1 h0;rw [this] at h;exact absurd (zHN _ _ h) hd
 ·exact h0
theorem zTP:∀ (k:Nat) (d r:BL),zUE r->zD1 k (d++r)<=d.length/\(zD1 k (d++r)=d.length ↔ ∃ ps,zA6 d.length d=some ps/\ps.length<=k):=by
 intro k
 induction k with
 | zero =>
  intro d r _;refine ⟨by simp [zD1],?_⟩;constructor
  ·intro h;have:d=[]:=List.length_eq_zero_iff.1 (by simpa [zD1] using h.symm);subst this;exact ⟨[],rfl,by simp⟩
  ·rintro ⟨ps,h1,h2⟩;have:ps=[]:=List.length_eq_zero_iff.1 (by omega);rw [this] at h1;rw [zHN _ _ h1];rfl
 | succ k ih =>
  intro d r hr;have hw:=zU9 d r hr;simp only [zD1,hw];by_cases h0:zAC d=[]
  ·rw [h0];simp only [List.length_nil,Nat.zero_add,List.drop_zero];obtain ⟨i1,i2⟩:=ih d r hr;refine ⟨i1,?_⟩;rw [i2];by_cases hd:d=[]
   ·subst hd;constructor
    ·intro _;exact ⟨[],rfl,by simp⟩
    ·intro _;exact ⟨[],rfl,by simp⟩
   ·have hp:0<d.length:=by
     rcases Nat.eq_zero_or_pos d.length with h | h
     ·exact absurd (List.length_eq_zero_iff.1 h) hd
     ·exact h
    have hn:=zGB (s:=d) (j:=0) hp (by simpa using h0);rw [Nat.sub_zero,List.drop_zero] at hn;rw [hn];simp
  ·have hle:=zFF d;have hp:0<d.length:=by
    rcases Nat.eq_zero_or_pos (zAC d).length with h | h
    ·exact absurd (List.length_eq_zero_iff.1 h) h0
    ·omega
   have hdr:(d++r).drop (zAC d).length=d.drop (zAC d).length++r:=List.drop_append_of_le_length hle;rw [hdr];obtain ⟨i1,i2⟩:=ih (d.drop (zAC d).length) r hr;rw [List.length_drop] at i1 i2;have hs:=zIU (s:=d) (j:=0) hp (by simpa using h0);simp only [Nat.sub_zero,List.drop_zero,Nat.zero_add] at hs;refine ⟨by omega,?_⟩;rw [hs];constructor
   ·intro h;obtain ⟨ps,h1,h2⟩:=i2.1 (by omega);exact ⟨zAC d :: ps,by rw [h1];rfl,by simp;omega⟩
   ·rintro ⟨ps,h1,h2⟩;cases hq:zA6 (d.length - (zAC d).length) (d.drop (zAC d).length) with
    | none=>rw [hq] at h1;cases h1
    | some qs =>
     rw [hq] at h1;cases h1;have hqs:qs.length<=k:=(by simpa using h2);have e:=i2.2 ⟨qs,hq,hqs⟩;clear i2 h2 hs hq;omega
theorem tw_stop (c:BL):zUE (c.dropWhile sepC):=by
 induction c with
 | nil=>intro y q h;cases h
 | cons x c ih =>
  cases hx:sepC x with
  | false=>intro y q h;simp only [List.dropWhile,hx] at h;cases h;exact hx
  | true=>simp only [List.dropWhile,hx];exact ih
theorem zW5 (c:BL):(zAT (c.takeWhile sepC)=true->zAO c=(c.takeWhile sepC).length/\0<zAO c)/\(zAT (c.takeWhile sepC)=false->zAO c=0\/zAO c<(c.takeWhile sepC).length):=by
 have hc:c.takeWhile sepC++c.dropWhile sepC=c:=List.takeWhile_append_dropWhile;have hst:=tw_stop c;obtain ⟨d,hd⟩:=nm (c.takeWhile sepC);obtain ⟨r,hr⟩:=nm (c.dropWhile sepC);rw [hr] at hst;obtain ⟨h1,h2⟩:=zTP 12 d r hst;rw [<- hd,<- hr,hc] at h1 h2;rw [hd] at h1 h2 ⊢;cases c with
 | nil =>
  have:d=[]:=hd.symm;subst this;exact ⟨fun h=>by simp [zAT,zA6] at h,fun _=>.inl rfl⟩
 | cons x q =>
  cases hx:sepC x with
  | false =>
   have hd0:d=[]:=by rw [<- hd];simp only [List.takeWhile,hx]
   subst hd0;refine ⟨fun h=>by simp [zAT,zA6] at h,fun _=>.inl ?_⟩;have hl:letF x=false:=by
    unfold sepC at hx;rw [Bool.and_eq_false_iff] at hx
    rcases hx with hx | hx
    ·have:x=34:=(by simpa using hx);rw [this];decide
    ·have:x=59:=(by simpa using hx);rw [this];decide
   show (if letF x then _ else 0)=0;rw [hl];rfl
  | true =>
   have hdn:d ≠ []:=by rw [<- hd];simp only [List.takeWhile,hx];simp
   have hg:d.getD 0 0=x:=by rw [<- hd];simp only [List.takeWhile,hx];rfl
   have hdl:0<d.length:=by
    rcases Nat.eq_zero_or_pos d.length with h | h
    ·exact absurd (List.length_eq_zero_iff.1 h) hdn
    ·exact h
   have hD:zAO (x :: q)=if letF x then zD1 12 (x :: q) else 0:=rfl;rw [hD];cases hl:letF x with
   | false =>
    refine ⟨fun h=>?_,fun _=>.inl rfl⟩;unfold zAT at h;rw [hg,hl] at h
    split at h
    ·simp at h
    ·cases h
   | true =>
    refine ⟨fun h=>?_,fun h=>.inr ?_⟩
    ·unfold zAT at h
     split at h
     ·rename_i ps hps;rw [Bool.and_eq_true] at h;have hh:=of_decide_eq_true h.1;have:=h2.2 ⟨ps,hps,hh.2⟩;exact ⟨this,by show 0<zD1 12 (x :: q);omega⟩
     ·cases h
    ·show zD1 12 (x :: q)<_
     rcases Nat.lt_or_ge (zD1 12 (x :: q)) d.length with h3 | h3
     ·exact h3
     ·obtain ⟨ps,hps,hle⟩:=h2.1 (by omega);have hpos:=zRT hps hdn;unfold zAT at h;rw [hps] at h;simp only [hg,hl] at h;rw [decide_eq_true ⟨hpos,hle⟩] at h;cases h
theorem dateRel (k last:Nat) (c b:BL) (hl:mayB 10 last=false) (hn:zAI last c=cond (decide (0<zA0 8 c)) (some 8) none) :
  zGU (zE8 b c) (zDW (k+2) last c ⟨false,b,[],0,0,0,false,0,[]⟩):=by
 obtain ⟨h1,h2⟩:=zW5 c;have hdr:c.drop (c.takeWhile sepC).length=c.dropWhile sepC:=zIE sepC c;have htk:c.take (c.takeWhile sepC).length=c.takeWhile sepC:=zEZ sepC c;have hS:zE8 b c=if zAT (c.takeWhile sepC)=true then (quoS (c.drop (c.takeWhile sepC).length)).map (fun x=>(⟨false,b,x.1,0,0,0,false,0,c.takeWhile sepC⟩,x.2)) else none:=rfl;have h8:zA0 8 c=zAO c:=rfl;rw [h8] at hn;cases hp:zAT (c.takeWhile sepC) with
 | true =>
  obtain ⟨e,e0⟩:=h1 hp;have hn':zAI last c=some 8:=by rw [hn,decide_eq_true e0];rfl
  rw [hS,hp,if_pos rfl,zB7 hn',h8,e,htk];exact aft k 8 (c.drop (c.takeWhile sepC).length) b (c.takeWhile sepC) 0 0 0 0 false (next8 _) zGW.2.2.2.2.2.2.2.2.1
 | false =>
  rw [hS,hp,if_neg (by decide)]
  rcases Nat.eq_zero_or_pos (zAO c) with e0 | e0
  ·rw [e0] at hn;rw [zCB hn];exact .inl hl
  ·have hlt:zAO c<(c.takeWhile sepC).length:=by
    rcases h2 hp with h | h
    ·omega
    ·exact h
   have hn':zAI last c=some 8:=by rw [hn,decide_eq_true e0];rfl
   rw [zB7 hn',h8];obtain ⟨y,q,hy,hs⟩:∃ y q,c.drop (zAO c)=y :: q/\sepC y=true:=by
    have hc:c.takeWhile sepC++c.dropWhile sepC=c:=List.takeWhile_append_dropWhile;have e1:c.drop (zAO c)=(c.takeWhile sepC).drop (zAO c)++c.dropWhile sepC:=by
     rw [show c.drop (zAO c)=(c.takeWhile sepC++c.dropWhile sepC).drop (zAO c) by rw [hc]];exact List.drop_append_of_le_length (by omega)
    cases hd:(c.takeWhile sepC).drop (zAO c) with
    | nil =>
     have:=congrArg List.length hd;rw [List.length_drop] at this;simp at this;omega
    | cons y q =>
     refine ⟨y,q++c.dropWhile sepC,by rw [e1,hd];rfl,mem_tw (l:=c) ?_⟩;have:y ∈ (c.takeWhile sepC).drop (zAO c):=(by rw [hd];simp);exact List.mem_of_mem_drop this
   have hy34:y ≠ 34/\y ≠ 59:=by
    unfold sepC at hs;rw [Bool.and_eq_true] at hs;exact ⟨by simpa using hs.1,by simpa using hs.2⟩
   have h9:zA0 9 (c.drop (zAO c))=0:=by
    show zCC _=0;apply zEA;rw [hy,zFM,beq_eq_false_iff_ne];exact fun e=>hy34.1 e.symm
   have hn8:zAI 8 (c.drop (zAO c))=none:=by rw [next8,h9];rfl
   rw [zCB hn8];right;refine ⟨by rw [hy];simp,?_⟩;rw [hy,zFM,beq_eq_false_iff_ne];exact fun e=>hy34.2 e.symm
theorem zLH (k:Nat) (c b:BL) (wn:Int) (g:Bool) :
  zGU (let pt:=Lib.hasPrefix c [46]
   let l4:=if pt then c.drop 1 else c
   let p:=if pt then runF 48 9 l4 else 0
   let l5:=l4.drop p
   let m:=if pt then runF 35 9 l5 else 0
   if pt=true/\p+m=0 then none else
   let l6:=l5.drop m
   let t:=runF 37 3 l6
   (quoS (l6.drop t)).map fun x=>(⟨false,b,x.1,wn,p,m,g,t,[]⟩,x.2)) (zDW (k+6) 3 c ⟨false,b,[],wn,0,0,g,0,[]⟩):=by
 have h4:zA0 4 c=if Lib.hasPrefix c [46] then 1 else 0:=run46 c;cases hpt:Lib.hasPrefix c [46] with
 | false =>
  simp only [Bool.false_eq_true,if_false,false_and,List.drop_zero];rw [hpt] at h4;have hn:zAI 3 c=cond (decide (0<zA0 7 c)) (some 7) (cond (decide (0<zA0 9 c)) (some 9) none):=by rw [next3,h4];rfl
  exact tim (k+4) 3 c b wn 0 0 g hn zGW.2.2.2.1
 | true =>
  simp only [if_true,true_and];rw [hpt] at h4;have hn:zAI 3 c=some 4:=by rw [next3,h4];rfl
  rw [zB7 hn,h4];simp only [if_true,zB6];obtain ⟨c4,hc4⟩:=nm (c.drop 1);rw [hc4];obtain ⟨p,hp⟩:=nm (runF 48 9 c4);have hpl:p<=c4.length:=by rw [<- hp];exact zDF _ _ _
  rw [hp];obtain ⟨c5,hc5⟩:=nm (c4.drop p);rw [hc5];obtain ⟨m,hm⟩:=nm (runF 35 9 c5);have hml:m<=c5.length:=by rw [<- hm];exact zDF _ _ _
  rw [hm];have h5:zA0 5 c4=p:=hp
  rcases Nat.eq_zero_or_pos p with hp0 | hp0
  ·subst hp0;have hc54:c5=c4:=by rw [<- hc5];rfl
   have h6:zA0 6 c4=m:=by rw [<- hc54];exact hm
   rcases Nat.eq_zero_or_pos m with hm0 | hm0
   ·subst hm0;rw [if_pos (by rfl)];have hn4:zAI 4 c4=none:=(by rw [next4,h5,h6];rfl);rw [zCB hn4];exact .inl zGW.2.2.2.2.1
   ·rw [if_neg (by omega)];have hn4:zAI 4 c4=some 6:=(by rw [next4,h5,h6,decide_eq_true hm0];rfl);rw [zB7 hn4,h6];rw [hc54] at hml ⊢;simp only [zB6,zEP hml];exact tim (k+2) 6 (c4.drop m) b wn 0 m g (next6 _) zGW.2.2.2.2.2.2.1
  ·rw [if_neg (by omega)];have hn4:zAI 4 c4=some 5:=by rw [next4,h5,decide_eq_true hp0];rfl
   rw [zB7 hn4,h5,hc5];simp only [zB6,zEP hpl];have h6:zA0 6 c5=m:=hm
   rcases Nat.eq_zero_or_pos m with hm0 | hm0
   ·subst hm0;have hn5:zAI 5 c5=cond (decide (0<zA0 7 c5)) (some 7) (cond (decide (0<zA0 9 c5)) (some 9) none):=(by rw [next5,h6];rfl);exact tim (k+2) 5 c5 b wn p 0 g hn5 zGW.2.2.2.2.2.1
   ·have hn5:zAI 5 c5=some 6:=(by rw [next5,h6,decide_eq_true hm0];rfl);rw [zB7 hn5,h6];simp only [zB6,zEP hml];exact tim (k+1) 6 (c5.drop m) b wn p m g (next6 _) zGW.2.2.2.2.2.2.1
theorem numRel (k last:Nat) (c b:BL) (hh:(Lib.hasPrefix c [35,44] || Lib.hasPrefix c [48])=true)
  (hn:zAI last c=cond (decide (0<zA0 2 c)) (some 2) (cond (decide (0<zA0 3 c)) (some 3) (cond (decide (0<zA0 8 c)) (some 8) none))) :
  zGU (numS b c) (zDW (k+8) last c ⟨false,b,[],0,0,0,false,0,[]⟩):=by
 have h2:zA0 2 c=if Lib.hasPrefix c [35,44] then 2 else 0:=rfl;cases hg:Lib.hasPrefix c [35,44] with
 | true =>
  rw [hg] at h2;have hn':zAI last c=some 2:=by rw [hn,h2];rfl
  rw [zB7 hn',h2];simp only [if_true,zB6];unfold numS;simp only [hg,if_true];obtain ⟨c2,hc2⟩:=nm (c.drop 2);rw [hc2];obtain ⟨wn,hwn⟩:=nm (runF 48 9 c2);have hwl:wn<=c2.length:=by rw [<- hwn];exact zDF _ _ _
  rw [hwn];have h3:zA0 3 c2=wn:=hwn
  rcases Nat.eq_zero_or_pos wn with h0 | h0
  ·subst h0;have hn2:zAI 2 c2=none:=by rw [next2,h3];rfl
   rw [zCB hn2];exact .inl zGW.2.2.1
  ·rw [if_neg (by omega)];have hn2:zAI 2 c2=some 3:=by rw [next2,h3,decide_eq_true h0];rfl
   rw [zB7 hn2,h3];simp only [zB6,zEP hwl];exact zLH k (c2.drop wn) b wn true
 | false =>
  rw [hg] at h2 hh;have hz:Lib.hasPrefix c [48]=true:=hh;unfold numS;simp only [hg,Bool.false_eq_true,if_false];obtain ⟨wn,hwn⟩:=nm (runF 48 9 c);have hwl:wn<=c.length:=by rw [<- hwn];exact zDF _ _ _
  have h0:0<wn:=by rw [<- hwn,zJH hz (by decide)];omega
  rw [hwn,if_neg (by omega)];have h3:zA0 3 c=wn:=hwn;have hn':zAI last c=some 3:=by rw [hn,h2,h3,decide_eq_true h0];rfl
  rw [zB7 hn',h3];simp only [zB6,zEP hwl];exact zLH (k+1) (c.drop wn) b wn false
theorem zRJ (k last:Nat) (c b:BL) (hl:mayB 10 last=false)
  (hn:zAI last c=cond (decide (0<zA0 2 c)) (some 2) (cond (decide (0<zA0 3 c)) (some 3) (cond (decide (0<zA0 8 c)) (some 8) none))) :
  zGU (if Lib.hasPrefix c [35,44] || Lib.hasPrefix c [48] then numS b c else zE8 b c) (zDW (k+8) last c ⟨false,b,[],0,0,0,false,0,[]⟩):=by
 cases hh:(Lib.hasPrefix c [35,44] || Lib.hasPrefix c [48]) with
 | true=>exact numRel k last c b hh hn
 | false =>
  rw [Bool.or_eq_false_iff] at hh;have h2:zA0 2 c=0:=by show (if Lib.hasPrefix c [35,44] then 2 else 0)=0;rw [hh.1];rfl
  have h3:zA0 3 c=0:=zH3 hh.2;exact dateRel (k+6) last c b hl (by rw [hn,h2,h3];rfl)
theorem secRel (c:BL):zGU (secS c) (secI c):=by
 unfold secI;cases hq:Lib.hasPrefix c [34] with
 | false =>
  have hS:secS c=if Lib.hasPrefix c [35,44] || Lib.hasPrefix c [48] then numS [] c else zE8 [] c:=by
   unfold secS;have:quoS c=some ([],c):=by unfold quoS;rw [hq];rfl
   rw [this]
  rw [hS];have h1:zA0 1 c=0:=zEA hq;exact zRJ 2 0 c [] zGW.1 (by rw [next0,h1];rfl)
 | true =>
  have hqS:quoS c=qT c:=by unfold quoS;rw [if_pos hq]
  obtain ⟨r0,hr0⟩:=zNJ hq;cases hT:qT c with
  | none =>
   have hS:secS c=none:=by unfold secS;rw [hqS,hT]
   rw [hS];have h1:zA0 1 c=0:=by show zCC c=0;unfold zCC;rw [hT]
   have h2:zA0 2 c=0:=by
    show (if Lib.hasPrefix c [35,44] then 2 else 0)=0;have:Lib.hasPrefix c [35,44]=false:=(by rw [hr0];simp [Lib.hasPrefix,List.isPrefixOf]);rw [this];rfl
   have h3:zA0 3 c=0:=zH3 (by rw [hr0,zFM];decide);have h8:zA0 8 c=0:=by
    show zAO c=0;rw [hr0];show (if letF 34=true then zD1 12 (34 :: r0) else 0)=0;rw [if_neg (by decide)]
   rw [zCB (by rw [next0,h1,h2,h3,h8];rfl)];exact .inl zGW.1
  | some x =>
   obtain ⟨t,r⟩:=x;obtain ⟨e1,e2,e3⟩:=zKT hT;have hS:secS c=if Lib.hasPrefix r [35,44] || Lib.hasPrefix r [48] then numS t r else zE8 t r:=by unfold secS;rw [hqS,hT]
   rw [hS];have h1:zA0 1 c=t.length+2:=e1;rw [zB7 (by rw [next0,h1];rfl),h1,e3];show zGU _ (zDW 9 1 r (zB6 1 (c.take (t.length+2)) zBM));simp only [zB6,e2];exact zRJ 1 1 r t zGW.2.1 (next1 r)
theorem zRL:∀ (k:Nat) (c:BL) (acc:List KT),zHL k c acc=zBV k c acc:=by
 intro k
 induction k with
 | zero=>intro c acc;rfl
 | succ k ih =>
  intro c acc;have hr:=secRel c;cases hS:secS c with
  | none =>
   rw [zIR hS];rw [hS] at hr;simp only [zHL]
   rcases hr with hr | ⟨h1,h2⟩
   ·rw [if_pos (.inl hr)]
   ·rw [h2,if_neg h1]
    split <;> rfl
  | some x =>
   obtain ⟨f,r⟩:=x;rw [hS] at hr;obtain ⟨h1,h2,h3⟩:=hr;have h1:(secI c).1=f:=h1;have h2:(secI c).2.1=r:=h2;simp only [zHL,zBV,hS,h1,h2,h3];by_cases ha:acc.length=3
   ·simp [ha]
   ·by_cases hr0:r=[]
    ·subst hr0;simp [ha,Lib.hasPrefix,List.isPrefixOf]
    ·cases hp:Lib.hasPrefix r [59] with
     | true=>simp [ha,hr0,ih]
     | false=>simp [ha,hr0]
theorem zG9 (l:BL):zFK l=zAZ l:=by unfold zFK zAZ;rw [zRL]
def zBE (D:List UInt8) (x:Int):List UInt8:=
 if 0<=x/\(D.length:Int) - 1+x<15 then D++List.replicate x.toNat 48
 else if x<0/\0<=(D.length:Int) - 1+x then D.take ((D.length:Int) - 1+x+1).toNat++46 :: D.drop ((D.length:Int) - 1+x+1).toNat
 else if x<0 /\ -5<=(D.length:Int) - 1+x then 48 :: 46 :: (List.replicate (-((D.length:Int) - 1+x) - 1).toNat 48++D)
 else D.take 1++(if 1<D.length then 46 :: D.drop 1 else []) ++
  (if (D.length:Int) - 1+x<0 then 69 :: 45 :: Lib.decDigits (-((D.length:Int) - 1+x)).toNat else 69 :: 43 :: Lib.decDigits ((D.length:Int) - 1+x).toNat)
def zDS (n:Bool) (d x:Int):List UInt8:=
 if zA1 n d x then (if d=0 then [48] else (if n then [45] else [])++zBE (Lib.decDigits d.toNat) x) else []
theorem zNY {n:Bool} {d e:Int} (h:zA1 n d e=true) : -300<=e/\e<=300:=by
 unfold zA1 at h
 split at h
 ·simp at h;omega
 ·simp at h;omega
theorem zC6:∀ (k u:Nat),u<10 ^ (k+1)->1<=(Lib.decDigits u).length/\(Lib.decDigits u).length<=k+1
 | 0,u,h=>by rw [Lib.decDigits,dif_pos (by simpa using h)];simp
 | k+1,u,h=>by
  rw [Lib.decDigits]
  split
  ·simp
  ·have:=zC6 k (u / 10) (by rw [Nat.pow_succ] at h;omega);simp;omega
theorem zHZ {d:Int} (h0:0<d) (h1:d<1000000000000000):1<=(Lib.decDigits d.toNat).length/\(Lib.decDigits d.toNat).length<=15:=
 zC6 14 d.toNat (by
  have:(10:Nat) ^ (14+1)=1000000000000000:=by decide
  omega)
theorem zIW (n:Int) (w:World) (h0:0<=n) (hn:n<=1000000) :
  Calls Tryz.prog 94 #[iQ n] w fun e w'=>e=.returned (.string ⟨(List.replicate n.toNat (48:UInt8)).toArray⟩)/\Ext w w':=by
 obtain ⟨m,rfl⟩:=Int.eq_ofNat_of_zero_le h0;exact zER m w (by omega)
theorem zMB (n:Int) (w:World) (n0:0<=n) (n1:n<1000000000000000) :
  Calls Tryz.prog 90 #[iQ n] w fun e w'=>e=.returned (.string ⟨(Lib.decDigits n.toNat).toArray⟩)/\Ext w w':=by
 refine (zJU n w n0 n1).mono ?_;rintro e w1 ⟨l,rfl,ht,e1⟩;rw [ht.dec n0];exact ⟨rfl,e1⟩
theorem textS (n:Bool) (d x:Int) (w:World) :
  Calls Tryz.prog 141 #[.agg #[.bool n,iQ d,iQ x]] w fun e w'=>∃ s,e=.returned (.string s)/\s.data.toList=zDS n d x/\Ext w w':=by
 go_enter Tryz.func141,Tryz.ntmps141;go_wp2_with fail;refine (zVR n d x _).mono ?_;rintro r w1 ⟨rfl,e1⟩;have B:=(Box3.made w (.bool n) (iQ d) (iQ x) 31).l e1;have X1:=xt (x1 _ _) e1;clear e1;have B':=B;obtain ⟨⟨p0,p1,p2⟩,_⟩:=B';cases hg:zA1 n d x
 ·have HT:Hid (zDS n d x=[]):=by simp [zDS,hg,Hid]
  clear hg;go_wp2_with fail;go_ret;exact ⟨_,rfl,by rw [HT.out],X1⟩
 ·by_cases hd:d=0
  ·subst hd;have HT:Hid (zDS n 0 x=[48]):=by simp [zDS,hg,Hid]
   clear hg;go_wp2_with fail;go_ret;exact ⟨_,rfl,by rw [HT.out],X1⟩
  ·obtain ⟨D,eD⟩:=nm (Lib.decDigits d.toNat);have HT:Hid (zDS n d x=(if n then [45] else [])++zBE D x):=by simp [zDS,hg,hd,Hid,eD]
   obtain ⟨g0,g1,_⟩:=zBQ hg;have gx : -300<=x/\x<=300:=zNY hg;obtain ⟨gx0,gx1⟩:=gx;have hl:=zHZ (d:=d) (by omega) g1;rw [eD] at hl;obtain ⟨l0,l1⟩:=hl;have ND:Hid (∀ w2:World,Calls Tryz.prog 90 #[iQ d] w2 fun e w'=>e=.returned (.string ⟨D.toArray⟩)/\Ext w2 w'):=fun w2=>by
    have:=zMB d w2 g0 g1
    rwa [eD] at this
   have hd':(d == 0)=false:=by rw [beq_eq_false_iff_ne];exact hd
   clear hg hd g0 g1 eD;go_wp2_with fail;refine (ND.out _).mono ?_;rintro r w2 ⟨rfl,e2⟩;obtain ⟨s,hs⟩:∃ s:ByteArray,s=⟨D.toArray⟩:=⟨_,rfl⟩;have hsz:s.size=D.length:=by rw [hs];simp [ByteArray.size]
   have HS:Hid (s.data.toList=D):=by rw [hs];simp [Hid]
   rw [<- hs];have B2:=B.l e2;have X2:=xt X1 e2;obtain ⟨L,hL⟩:=nm (D.length);rw [hL] at hsz l0 l1;have HL:Hid (D.length=L):=hL;clear hs e2 B X1 ND p0 p1 p2 hd' hL;have B3:=B2;obtain ⟨⟨p0,p1,p2⟩,_⟩:=B3;have l0':(1:Int)<=(L:Int):=by omega
   have l1':(L:Int)<=15:=by omega
   by_cases ca:0<=x/\(L:Int) - 1+x<15
   ·obtain ⟨c1,c2⟩:=ca;have HZ:Hid (zBE D x=D++List.replicate x.toNat 48):=(by unfold zBE;rw [HL.out,if_pos ⟨c1,c2⟩];rfl);have NO:Hid (∀ w2:World,Calls Tryz.prog 94 #[iQ x] w2 fun e w'=>e=.returned (.string ⟨(List.replicate x.toNat (48:UInt8)).toArray⟩)/\Ext w2 w'):=fun w2=>zIW x w2 c1 (by omega);go_wp2_with fail;refine (NO.out _).mono ?_;rintro r w3 ⟨rfl,e3⟩;have X3:=xt X2 e3;obtain ⟨t,ht⟩:∃ t:ByteArray,t=⟨(List.replicate x.toNat (48:UInt8)).toArray⟩:=⟨_,rfl⟩;have htz:t.size=x.toNat:=(by rw [ht];simp [ByteArray.size]);have HTT:Hid (t.data.toList=List.replicate x.toNat 48):=(by rw [ht];simp [Hid]);rw [<- ht];obtain ⟨⟨q0,q1,q2⟩,_⟩:=B2.l e3;clear ht NO p0 p1 p2 B2 e3 X2;cases n
    ·go_wp2_with fail;go_ret;exact ⟨_,rfl,by rw [HT.out,HZ.out];simp [HS.out,HTT.out],X3⟩
    ·go_wp2_with fail;go_ret;exact ⟨_,rfl,by rw [HT.out,HZ.out];simp [HS.out,HTT.out],X3⟩
   ·have HA:Hid (¬ (0<=x/\(L:Int) - 1+x<15)):=ca;by_cases cb:x<0/\0<=(L:Int) - 1+x
    ·obtain ⟨c1,c2⟩:=cb;obtain ⟨k,hk⟩:∃ k:Nat,(L:Int) - 1+x+1=(k:Int):=⟨((L:Int) - 1+x+1).toNat,by omega⟩;have HZ:Hid (zBE D x=D.take k++46 :: D.drop k):=(by unfold zBE;rw [HL.out,if_neg (by omega),if_pos ⟨c1,c2⟩,hk];rfl);have k1:k<=L:=(by omega);have hk':(L:Int) - 1+x=(k:Int) - 1:=(by omega);clear ca HA;have hw:IntKind.i64.wrap ((k:Int) - 1+1)=(k:Int):=(by rw [IntKind.wrap_i64];omega);have hk0:(0:Int)<=(k:Int):=(by omega);have hks:(k:Int)<=(L:Int):=(by omega);have hwk:IntKind.i64.wrap (k:Int)=(k:Int):=(by rw [IntKind.wrap_i64];omega);have hwk':wrap64 (k:Int)=(k:Int):=(by unfold wrap64;omega);have A1:∀ w':World,(Op.stringOp .add (s.extract 0 k) ⟨#[46]⟩).run Tryz.prog w'=.ok (.string (s.extract 0 k++⟨#[46]⟩)) w':=fun w'=>run_string_add_sum w' _ _ (by rw [ByteArray.size_extract,hsz];show min k L - 0+1<=_;omega);have A2:∀ w':World,(Op.stringOp .add (s.extract 0 k++⟨#[46]⟩) (s.extract k L)).run Tryz.prog w'=.ok (.string (s.extract 0 k++⟨#[46]⟩++s.extract k L)) w':=fun w'=>run_string_add_sum w' _ _ (by rw [ByteArray.size_append,ByteArray.size_extract,ByteArray.size_extract,hsz];show min k L - 0+1+(min L L - k)<=_;omega);go_wp2_with fail;go_region_held3 (fun _=>True) (trivial) (fail);have HE:Hid (∀ p:List UInt8,p++(s.extract 0 k++(⟨#[46]⟩:ByteArray)++s.extract k L).data.toList=p++zBE D x):=fun p=>by
      rw [HZ.out];have e5:List.take (L - k) (List.drop k D)=List.drop k D:=List.take_of_length_le (by simp [HL.out]);simp [HS.out,e5]
     have esz:(s.extract 0 k++(⟨#[46]⟩:ByteArray)++s.extract k L).size<=100:=by
      rw [ByteArray.size_append,ByteArray.size_append,ByteArray.size_extract,ByteArray.size_extract,hsz];show min k L - 0+1+(min L L - k)<=_;omega
     obtain ⟨o,ho⟩:=nm (s.extract 0 k++(⟨#[46]⟩:ByteArray)++s.extract k L);rw [ho] at HE esz;rw [ho];clear ho A1 A2;cases n
     ·go_wp2_with fail;go_ret;exact ⟨_,rfl,by rw [HT.out];simpa using HE.out [],xd X2⟩
     ·go_wp2_with fail;go_ret;exact ⟨_,rfl,by rw [HT.out];simpa using HE.out [45],xd X2⟩
    ·by_cases cc:x<0 /\ -5<=(L:Int) - 1+x
     ·obtain ⟨c1,c2⟩:=cc;have c3:(L:Int) - 1+x<0:=(by omega);have HZ:Hid (zBE D x=48 :: 46 :: (List.replicate (-((L:Int) - 1+x) - 1).toNat 48++D)):=(by unfold zBE;rw [HL.out,if_neg (by omega),if_neg (by omega),if_pos ⟨c1,c2⟩];rfl);have NO:Hid (∀ w2:World,Calls Tryz.prog 94 #[iQ (-((L:Int) - 1+x) - 1)] w2 fun e w'=>e=.returned (.string ⟨(List.replicate (-((L:Int) - 1+x) - 1).toNat (48:UInt8)).toArray⟩)/\Ext w2 w'):=fun w2=>zIW _ w2 (by omega) (by omega);clear ca HA cb;go_wp2_with fail;refine (NO.out _).mono ?_;rintro r w3 ⟨rfl,e3⟩;have X3:=xt X2 e3;obtain ⟨t,ht⟩:∃ t:ByteArray,t=⟨(List.replicate (-((L:Int) - 1+x) - 1).toNat (48:UInt8)).toArray⟩:=⟨_,rfl⟩;have htz:t.size<=1000:=(by rw [ht];simp [ByteArray.size];omega);have HTT:Hid (t.data.toList=List.replicate (-((L:Int) - 1+x) - 1).toNat 48):=(by rw [ht];simp [Hid]);rw [<- ht];obtain ⟨⟨q0,q1,q2⟩,_⟩:=B2.l e3;clear ht NO p0 p1 p2 B2 e3 X2;cases n
      ·go_wp2_with fail;go_ret;exact ⟨_,rfl,by rw [HT.out,HZ.out];simp [HS.out,HTT.out],X3⟩
      ·go_wp2_with fail;go_ret;exact ⟨_,rfl,by rw [HT.out,HZ.out];simp [HS.out,HTT.out],X3⟩
     ·have HZ:Hid (zBE D x=D.take 1++(if 1<L then 46 :: D.drop 1 else [])++(if (L:Int) - 1+x<0 then 69 :: 45 :: Lib.decDigits (-((L:Int) - 1+x)).toNat else 69 :: 43 :: Lib.decDigits ((L:Int) - 1+x).toNat)):=by
       unfold zBE;rw [HL.out,if_neg (by omega),if_neg (by omega),if_neg (by omega)];rfl
      have hs1:(1:Int)<=(s.size:Int):=(by omega);by_cases hx:x<0
      ·have ct:(L:Int) - 1+x < -5:=(by omega);have ct2:¬ (-5<=(L:Int) - 1+x):=(by omega);have ct3:¬ (0<=(L:Int) - 1+x):=(by omega);have NU:Hid (∀ w2:World,Calls Tryz.prog 90 #[iQ (-((L:Int) - 1+x))] w2 fun e w'=>e=.returned (.string ⟨(Lib.decDigits (-((L:Int) - 1+x)).toNat).toArray⟩)/\Ext w2 w'):=fun w2=>zMB _ w2 (by omega) (by omega);clear ca HA cb cc;by_cases hL1:1<L
       ·have hL1':(1:Int)<(L:Int):=(by omega);go_wp2_with fail;refine (NU.out _).mono ?_;rintro r w3 ⟨rfl,e3⟩;have X3:=xt X2 e3;obtain ⟨t,ht⟩:∃ t:ByteArray,t=⟨(Lib.decDigits (-((L:Int) - 1+x)).toNat).toArray⟩:=⟨_,rfl⟩;have htz:t.size<=15:=(by rw [ht];simp only [ByteArray.size,List.size_toArray];exact (zHZ (by omega) (by omega)).2);have HTT:Hid (t.data.toList=Lib.decDigits (-((L:Int) - 1+x)).toNat):=(by rw [ht];simp [Hid]);rw [<- ht];obtain ⟨⟨q0,q1,q2⟩,_⟩:=B2.l e3;have HE:Hid (∀ p:List UInt8,p++((s.extract 0 1++((⟨#[46]⟩:ByteArray)++s.extract 1 L)).data.toList++((⟨#[69,45]⟩:ByteArray)++t).data.toList)=p++zBE D x):=fun p=>by
         rw [HZ.out,if_pos hL1,if_pos (by omega)];have e5:List.take (L - 1) D.tail=D.tail:=List.take_of_length_le (by simp [HL.out]);simp [HS.out,HTT.out,e5]
        have esz:(s.extract 0 1++((⟨#[46]⟩:ByteArray)++s.extract 1 L)).size<=100:=by
         rw [ByteArray.size_append,ByteArray.size_append,ByteArray.size_extract,ByteArray.size_extract,hsz];show min 1 L - 0+(1+(min L L - 1))<=_;omega
        obtain ⟨o,ho⟩:=nm (s.extract 0 1++((⟨#[46]⟩:ByteArray)++s.extract 1 L));rw [ho] at HE esz;rw [ho];clear ht NU p0 p1 p2 B2 e3 X2 ho;cases n
        ·go_wp2_with fail;go_ret;exact ⟨_,rfl,by rw [HT.out];simpa using HE.out [],X3⟩
        ·go_wp2_with fail;go_ret;exact ⟨_,rfl,by rw [HT.out];simpa using HE.out [45],X3⟩
       ·have hL1':¬ (1:Int)<(L:Int):=(by omega);go_wp2_with fail;refine (NU.out _).mono ?_;rintro r w3 ⟨rfl,e3⟩;have X3:=xt X2 e3;obtain ⟨t,ht⟩:∃ t:ByteArray,t=⟨(Lib.decDigits (-((L:Int) - 1+x)).toNat).toArray⟩:=⟨_,rfl⟩;have htz:t.size<=15:=(by rw [ht];simp only [ByteArray.size,List.size_toArray];exact (zHZ (by omega) (by omega)).2);have HTT:Hid (t.data.toList=Lib.decDigits (-((L:Int) - 1+x)).toNat):=(by rw [ht];simp [Hid]);rw [<- ht];obtain ⟨⟨q0,q1,q2⟩,_⟩:=B2.l e3;have HE:Hid (∀ p:List UInt8,p++((s.extract 0 1).data.toList++((⟨#[69,45]⟩:ByteArray)++t).data.toList)=p++zBE D x):=fun p=>by
         rw [HZ.out,if_neg hL1,if_pos (by omega)];simp [HS.out,HTT.out]
        have esz:(s.extract 0 1).size<=100:=by
         rw [ByteArray.size_extract,hsz];omega
        obtain ⟨o,ho⟩:=nm (s.extract 0 1);rw [ho] at HE esz;rw [ho];clear ht NU p0 p1 p2 B2 e3 X2 ho;cases n
        ·go_wp2_with fail;go_ret;exact ⟨_,rfl,by rw [HT.out];simpa using HE.out [],X3⟩
        ·go_wp2_with fail;go_ret;exact ⟨_,rfl,by rw [HT.out];simpa using HE.out [45],X3⟩
      ·have ct:15<=(L:Int) - 1+x:=(by omega);have ct2:¬ ((L:Int) - 1+x<15):=(by omega);have ct3:¬ ((L:Int) - 1+x<0):=(by omega);have NU:Hid (∀ w2:World,Calls Tryz.prog 90 #[iQ ((L:Int) - 1+x)] w2 fun e w'=>e=.returned (.string ⟨(Lib.decDigits ((L:Int) - 1+x).toNat).toArray⟩)/\Ext w2 w'):=fun w2=>zMB _ w2 (by omega) (by omega);clear ca HA cb cc;by_cases hL1:1<L
       ·have hL1':(1:Int)<(L:Int):=(by omega);go_wp2_with fail;refine (NU.out _).mono ?_;rintro r w3 ⟨rfl,e3⟩;have X3:=xt X2 e3;obtain ⟨t,ht⟩:∃ t:ByteArray,t=⟨(Lib.decDigits ((L:Int) - 1+x).toNat).toArray⟩:=⟨_,rfl⟩;have htz:t.size<=15:=(by rw [ht];simp only [ByteArray.size,List.size_toArray];exact (zHZ (by omega) (by omega)).2);have HTT:Hid (t.data.toList=Lib.decDigits ((L:Int) - 1+x).toNat):=(by rw [ht];simp [Hid]);rw [<- ht];obtain ⟨⟨q0,q1,q2⟩,_⟩:=B2.l e3;have HE:Hid (∀ p:List UInt8,p++((s.extract 0 1++((⟨#[46]⟩:ByteArray)++s.extract 1 L)).data.toList++((⟨#[69,43]⟩:ByteArray)++t).data.toList)=p++zBE D x):=fun p=>by
         rw [HZ.out,if_pos hL1,if_neg (show ¬ ((L:Int) - 1+x<0) by omega)];have e5:List.take (L - 1) D.tail=D.tail:=List.take_of_length_le (by simp [HL.out]);simp [HS.out,HTT.out,e5]
        have esz:(s.extract 0 1++((⟨#[46]⟩:ByteArray)++s.extract 1 L)).size<=100:=by
         rw [ByteArray.size_append,ByteArray.size_append,ByteArray.size_extract,ByteArray.size_extract,hsz];show min 1 L - 0+(1+(min L L - 1))<=_;omega
        obtain ⟨o,ho⟩:=nm (s.extract 0 1++((⟨#[46]⟩:ByteArray)++s.extract 1 L));rw [ho] at HE esz;rw [ho];clear ht NU p0 p1 p2 B2 e3 X2 ho;cases n
        ·go_wp2_with fail;go_ret;exact ⟨_,rfl,by rw [HT.out];simpa using HE.out [],X3⟩
        ·go_wp2_with fail;go_ret;exact ⟨_,rfl,by rw [HT.out];simpa using HE.out [45],X3⟩
       ·have hL1':¬ (1:Int)<(L:Int):=(by omega);go_wp2_with fail;refine (NU.out _).mono ?_;rintro r w3 ⟨rfl,e3⟩;have X3:=xt X2 e3;obtain ⟨t,ht⟩:∃ t:ByteArray,t=⟨(Lib.decDigits ((L:Int) - 1+x).toNat).toArray⟩:=⟨_,rfl⟩;have htz:t.size<=15:=(by rw [ht];simp only [ByteArray.size,List.size_toArray];exact (zHZ (by omega) (by omega)).2);have HTT:Hid (t.data.toList=Lib.decDigits ((L:Int) - 1+x).toNat):=(by rw [ht];simp [Hid]);rw [<- ht];obtain ⟨⟨q0,q1,q2⟩,_⟩:=B2.l e3;have HE:Hid (∀ p:List UInt8,p++((s.extract 0 1).data.toList++((⟨#[69,43]⟩:ByteArray)++t).data.toList)=p++zBE D x):=fun p=>by
         rw [HZ.out,if_neg hL1,if_neg (show ¬ ((L:Int) - 1+x<0) by omega)];simp [HS.out,HTT.out]
        have esz:(s.extract 0 1).size<=100:=by
         rw [ByteArray.size_extract,hsz];omega
        obtain ⟨o,ho⟩:=nm (s.extract 0 1);rw [ho] at HE esz;rw [ho];clear ht NU p0 p1 p2 B2 e3 X2 ho;cases n
        ·go_wp2_with fail;go_ret;exact ⟨_,rfl,by rw [HT.out];simpa using HE.out [],X3⟩
        ·go_wp2_with fail;go_ret;exact ⟨_,rfl,by rw [HT.out];simpa using HE.out [45],X3⟩
theorem zDD {s:ByteArray} {l:List UInt8} (h:s.data.toList=l):s.size=l.length:=by
 rw [<- h,Array.length_toList];rfl
theorem zM9 (RP:RepC) (s:ByteArray) (D:List UInt8) (m:Int) (w:World) (hs:s.data.toList=D) (l1:D.length<=15) (m0 : -300<=m) (m1:m<=D.length) :
  Calls Tryz.prog 210 #[.string s,iQ m] w fun e w'=>∃ t,e=.returned (.string t)/\t.data.toList=(if m<=0 then 48 :: 46 :: (List.replicate (-m).toNat 48++D) else D.take m.toNat++46 :: D.drop m.toNat)/\Ext w w':=by
 have hsz:=zDD hs;obtain ⟨L,hL⟩:=nm (D.length);have HL:Hid (D.length=L):=hL;have HS:Hid (s.data.toList=D):=hs;rw [hL] at hsz l1 m1;clear hL hs;by_cases hm:m<=0
 ·rw [if_pos hm];have R:Hid (∀ w:World,Calls Tryz.prog 45 #[.string ⟨#[48]⟩,iQ (-m)] w fun e w'=>∃ s,e=.returned (.string s)/\s.data.toList=List.replicate (-m).toNat 48/\Ext w w'):=fun w=>RP (-m) w (by omega) (by omega);go_enter Tryz.func210,Tryz.ntmps210;go_wp2_with fail;refine (R.out _).mono ?_;rintro e w1 ⟨t,rfl,ht,e1⟩;have htz:=zDD ht;rw [List.length_replicate] at htz;have HT:Hid (t.data.toList=List.replicate (-m).toNat 48):=ht;clear ht R;go_wp2_with fail;go_ret;exact ⟨_,rfl,by simp [HS.out,HT.out],e1⟩
 ·rw [if_neg hm];obtain ⟨k,rfl⟩:=Int.eq_ofNat_of_zero_le (show 0<=m by omega);have hk0:(0:Int)<=(k:Int):=by omega
  have hks:(k:Int)<=(L:Int):=by omega
  have hkn:k<=L:=by omega
  have A1:∀ w':World,(Op.stringOp .add (s.extract 0 k) ⟨#[46]⟩).run Tryz.prog w'=.ok (.string (s.extract 0 k++⟨#[46]⟩)) w':=fun w'=>run_string_add_sum w' _ _ (by rw [ByteArray.size_extract,hsz];show min k L - 0+1<=_;omega);have A2:∀ w':World,(Op.stringOp .add (s.extract 0 k++⟨#[46]⟩) (s.extract k L)).run Tryz.prog w'=.ok (.string (s.extract 0 k++⟨#[46]⟩++s.extract k L)) w':=fun w'=>run_string_add_sum w' _ _ (by rw [ByteArray.size_append,ByteArray.size_extract,ByteArray.size_extract,hsz];show min k L - 0+1+(min L L - k)<=_;omega);have HE:Hid ((s.extract 0 k++(⟨#[46]⟩:ByteArray)++s.extract k L).data.toList=D.take (k:Int).toNat++46 :: D.drop (k:Int).toNat):=by
   have e5:List.take (L - k) (List.drop k D)=List.drop k D:=List.take_of_length_le (by simp [HL.out]);simp [HS.out,e5,Hid]
  clear m0 m1;go_enter Tryz.func210,Tryz.ntmps210;go_wp2_with fail;go_region_held3 (fun _=>True) (trivial) (fail);go_wp2_with fail;go_ret;exact ⟨_,rfl,HE.out,xd (xr _)⟩
def powT (f:Int):List UInt8:=if f<0 then 69 :: 45 :: Lib.decDigits (-f).toNat else 69 :: 43 :: Lib.decDigits f.toNat
theorem zVK {n:Int} (h1 : -1000000000000000<n) (h2:n<1000000000000000):(Lib.itoa n).length<=16:=by
 unfold Lib.itoa;have e:(10:Nat) ^ (14+1)=1000000000000000:=by decide
 split
 ·have:=(zC6 14 n.natAbs (by omega)).2;simp;omega
 ·have:=(zC6 14 n.toNat (by omega)).2;omega
theorem zM8 (s:ByteArray) (D:List UInt8) (f:Int) (w0 w:World) (IT:zD2 w0) (X0:Ext w0 w) (hs:s.data.toList=D) (l0:1<=D.length) (l1:D.length<=15) (f0 : -1000<=f) (f1:f<=1000) :
  Calls Tryz.prog 211 #[.string s,iQ f] w fun e w'=>∃ t,e=.returned (.string t)/\t.data.toList=D.take 1++(if 1<D.length then 46 :: D.drop 1 else [])++powT f/\Ext w w':=by
 have hsz:=zDD hs;obtain ⟨L,hL⟩:=nm (D.length);have HL:Hid (D.length=L):=hL;have HS:Hid (s.data.toList=D):=hs;rw [hL] at hsz l1 l0;have I:Hid (Calls Tryz.prog 138 #[iQ f] w fun e w'=>∃ s,e=.returned (.string s)/\s.data.toList=Lib.itoa f/\Ext w w'):=IT f w (by omega) (by omega) X0;have IL:Hid ((Lib.itoa f).length<=16):=zVK (by omega) (by omega);rw [hL];clear hL hs IT X0;have hs1:(1:Int)<=(L:Int):=by omega
 by_cases h1:1<L
 ·have h1':(1:Int)<(L:Int):=by omega
  have HE:Hid ((s.extract 0 1++((⟨#[46]⟩:ByteArray)++s.extract 1 L)).data.toList=D.take 1++46 :: D.drop 1):=by
   have e5:List.take (L - 1) D.tail=D.tail:=List.take_of_length_le (by simp [HL.out]);simp [HS.out,e5,Hid]
  have esz:(s.extract 0 1++((⟨#[46]⟩:ByteArray)++s.extract 1 L)).size<=100:=by
   rw [ByteArray.size_append,ByteArray.size_append,ByteArray.size_extract,ByteArray.size_extract,hsz];show min 1 L - 0+(1+(min L L - 1))<=_;omega
  rw [if_pos h1];by_cases hf:0<=f
  ·have HP:Hid (powT f=69 :: 43 :: Lib.itoa f):=by unfold powT Lib.itoa;rw [if_neg (by omega),if_neg (by omega)];rfl
   go_enter Tryz.func211,Tryz.ntmps211;go_wp2_with fail;refine (I.out).mono ?_;rintro e w1 ⟨t,rfl,ht,e1⟩;have htl:t.size<=16:=by rw [zDD ht];exact IL.out
   have HT:Hid (t.data.toList=Lib.itoa f):=ht;obtain ⟨o,ho⟩:=nm (s.extract 0 1++((⟨#[46]⟩:ByteArray)++s.extract 1 L));rw [ho] at HE esz;rw [ho];clear ht I IL ho;go_wp2_with fail;go_ret;exact ⟨_,rfl,by rw [HP.out];simp [HE.out,HT.out],e1⟩
  ·have HP:Hid (powT f=69 :: Lib.itoa f):=by unfold powT Lib.itoa;rw [if_pos (by omega),if_pos (by omega)];show _=_;congr 4;omega
   go_enter Tryz.func211,Tryz.ntmps211;go_wp2_with fail;refine (I.out).mono ?_;rintro e w1 ⟨t,rfl,ht,e1⟩;have htl:t.size<=16:=by rw [zDD ht];exact IL.out
   have HT:Hid (t.data.toList=Lib.itoa f):=ht;obtain ⟨o,ho⟩:=nm (s.extract 0 1++((⟨#[46]⟩:ByteArray)++s.extract 1 L));rw [ho] at HE esz;rw [ho];clear ht I IL ho;go_wp2_with fail;go_ret;exact ⟨_,rfl,by rw [HP.out];simp [HE.out,HT.out],e1⟩
 ·have h1':¬ (1:Int)<(L:Int):=by omega
  have HE:Hid ((s.extract 0 1).data.toList=D.take 1):=by simp [HS.out,Hid]
  have esz:(s.extract 0 1).size<=100:=by
   rw [ByteArray.size_extract,hsz];omega
  rw [if_neg h1];by_cases hf:0<=f
  ·have HP:Hid (powT f=69 :: 43 :: Lib.itoa f):=by unfold powT Lib.itoa;rw [if_neg (by omega),if_neg (by omega)];rfl
   go_enter Tryz.func211,Tryz.ntmps211;go_wp2_with fail;refine (I.out).mono ?_;rintro e w1 ⟨t,rfl,ht,e1⟩;have htl:t.size<=16:=by rw [zDD ht];exact IL.out
   have HT:Hid (t.data.toList=Lib.itoa f):=ht;obtain ⟨o,ho⟩:=nm (s.extract 0 1);rw [ho] at HE esz;rw [ho];clear ht I IL ho;go_wp2_with fail;go_ret;exact ⟨_,rfl,by rw [HP.out];simp [HE.out,HT.out],e1⟩
  ·have HP:Hid (powT f=69 :: Lib.itoa f):=by unfold powT Lib.itoa;rw [if_pos (by omega),if_pos (by omega)];show _=_;congr 4;omega
   go_enter Tryz.func211,Tryz.ntmps211;go_wp2_with fail;refine (I.out).mono ?_;rintro e w1 ⟨t,rfl,ht,e1⟩;have htl:t.size<=16:=by rw [zDD ht];exact IL.out
   have HT:Hid (t.data.toList=Lib.itoa f):=ht;obtain ⟨o,ho⟩:=nm (s.extract 0 1);rw [ho] at HE esz;rw [ho];clear ht I IL ho;go_wp2_with fail;go_ret;exact ⟨_,rfl,by rw [HP.out];simp [HE.out,HT.out],e1⟩
end Go.Proofs.YtjlojlgdkfpcdaaGreatDoor

