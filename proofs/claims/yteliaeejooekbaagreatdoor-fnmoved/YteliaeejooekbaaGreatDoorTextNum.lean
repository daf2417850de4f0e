import Derived.Test.YteliaeejooekbaaGreatDoorMg5
set_option maxRecDepth 8000
namespace Go.Proofs.YteliaeejooekbaaGreatDoor
def dv:List Int->Int
 | []=>0
 | x :: xs=>x+10 * dv xs
def D10 (xs:List Int):Prop:=∀ x ∈ xs,0<=x/\x<10
theorem D10.nil:D10 []:=fun _ h=>by cases h
theorem D10.snoc {xs:List Int} {x:Int} (h:D10 xs) (h0:0<=x) (h1:x<10):D10 (xs++[x]):=fun y hy=>by
 rcases List.mem_append.1 hy with hy | hy
 ·exact h y hy
 ·obtain rfl:y=x:=by simpa using hy
  exact ⟨h0,h1⟩
theorem D10.take {xs:List Int} (h:D10 xs) (n:Nat):D10 (xs.take n):=fun y hy=>h y (List.mem_of_mem_take hy)
theorem D10.getD {xs:List Int} (h:D10 xs) (i:Nat):0<=xs.getD i 0/\xs.getD i 0<10:=by
 by_cases hi:i<xs.length
 ·rw [List.getD_eq_getElem?_getD,List.getElem?_eq_getElem hi];exact h _ (List.getElem_mem hi)
 ·rw [List.getD_eq_getElem?_getD,List.getElem?_eq_none (by omega)];simp
theorem zRG:∀ (xs ys:List Int),dv (xs++ys)=dv xs+10 ^ xs.length * dv ys
 | [],ys=>by simp [dv]
 | x :: xs,ys=>by
  simp only [List.cons_append,dv,zRG xs ys,List.length_cons,Int.pow_succ];rw [Int.mul_add,Int.mul_comm (10 ^ xs.length) 10,<- Int.mul_assoc];omega
theorem zOE (xs:List Int) (x:Int):dv (xs++[x])=dv xs+10 ^ xs.length * x:=by
 rw [zRG];simp [dv]
theorem zML (xs:List Int) (i:Nat) (h:i<xs.length):xs.take (i+1)=xs.take i++[xs.getD i 0]:=by
 rw [List.take_succ_eq_append_getElem h];simp [List.getElem?_eq_getElem h]
theorem zOD (xs:List Int) (i:Nat) (h:i<xs.length):dv (xs.take (i+1))=dv (xs.take i)+10 ^ i * xs.getD i 0:=by
 rw [zML xs i h,zOE];have e:(xs.take i).length=i:=by simp;omega
 rw [e]
theorem zJ1:∀ {xs:List Int},D10 xs->0<=dv xs
 | [],_=>by simp [dv]
 | x :: xs,h=>by
  have:=zJ1 (xs:=xs) (fun y hy=>h y (by simp [hy]));have:=h x (by simp);simp only [dv];omega
theorem zVA:∀ {xs:List Int},D10 xs->dv xs<10 ^ xs.length
 | [],_=>by simp [dv]
 | x :: xs,h=>by
  have:=zVA (xs:=xs) (fun y hy=>h y (by simp [hy]));have:=h x (by simp);simp only [dv,List.length_cons,Int.pow_succ];omega
theorem pow9 (i:Nat):(10:Int) ^ (9 * i)=1000000000 ^ i:=by
 rw [Int.pow_mul];rfl
def TextAt (xs ds:List Int) (i k:Nat) (x:Int):Prop:=
 ds.length=9 * i+k/\D10 ds/\0<=x/\x<10 ^ (9 - k)/\dv ds+10 ^ (9 * i+k) * x=lv (xs.take (i+1))
def zCB (xs ds:List Int) (i:Nat):Prop:=ds.length=9 * i/\D10 ds/\dv ds=lv (xs.take i)
theorem zCB.start (xs:List Int):zCB xs [] 0:=⟨rfl,D10.nil,by simp [dv,lv]⟩
theorem zCB.next {xs ds:List Int} {i:Nat} (h:zCB xs ds i) (hl:Lim xs):TextAt xs ds i 0 (xs.getD i 0):=by
 obtain ⟨h1,h2,h3⟩:=h;have hx:=hl.getD i;refine ⟨h1,h2,hx.1,hx.2,?_⟩;rw [h3,zBN,Nat.add_zero,pow9]
theorem TextAt.step {xs ds:List Int} {i k:Nat} {x:Int} (h:TextAt xs ds i k x) (hk:k<9):TextAt xs (ds++[x % 10]) i (k+1) (x / 10):=by
 obtain ⟨h1,h2,h3,h4,h5⟩:=h;refine ⟨by simp;omega,h2.snoc (by omega) (by omega),by omega,?_,?_⟩
 ·have e:9 - k=(9 - (k+1))+1:=by omega
  rw [e,Int.pow_succ] at h4;omega
 ·rw [zOE,h1,<- h5,show 9 * i+(k+1)=(9 * i+k)+1 from rfl,Int.pow_succ];generalize (10:Int) ^ (9 * i+k)=p;have e3:x % 10+10 * (x / 10)=x:=Int.emod_add_mul_ediv _ _;generalize x % 10=r at *;generalize x / 10=q at *;subst e3;simp only [Int.mul_add,Int.mul_comm,Int.mul_left_comm];omega
theorem TextAt.done {xs ds:List Int} {i:Nat} {x:Int} (h:TextAt xs ds i 9 x):zCB xs ds (i+1):=by
 obtain ⟨h1,h2,h3,h4,h5⟩:=h;have:x=0:=by simp at h4;omega
 subst this;exact ⟨by omega,h2,by simpa using h5⟩
def Digs (ds:List Int) (u:Int):Prop:=D10 ds/\dv ds=u/\0<ds.length/\ds.getD (ds.length - 1) 0 ≠ 0
theorem zME {ds:List Int} {j:Nat} (hj:j<ds.length) (hz:ds.getD j 0=0):dv (ds.take (j+1))=dv (ds.take j):=by
 rw [zOD ds j hj,hz];simp
theorem Digs.of {ds:List Int} {j:Nat} {u:Int} (h:D10 ds) (hj:j<ds.length) (hz:ds.getD j 0 ≠ 0) (hv:dv (ds.take (j+1))=u):Digs (ds.take (j+1)) u:=by
 have e:(ds.take (j+1)).length=j+1:=by simp;omega
 refine ⟨h.take _,hv,by omega,?_⟩;rw [e];simp only [Nat.add_sub_cancel,List.getD_eq_getElem?_getD,List.getElem?_take,Nat.lt_succ_self,if_true] at *;exact hz
theorem Digs.ge {ds:List Int} {u:Int} (h:Digs ds u):10 ^ (ds.length - 1)<=u:=by
 obtain ⟨h1,h2,h3,h4⟩:=h;have e:=zOD ds (ds.length - 1) (by omega);rw [show ds.length - 1+1=ds.length by omega,List.take_length] at e;have h5:=zJ1 (h1.take (ds.length - 1));have h6:=h1.getD (ds.length - 1);have hp:(0:Int)<10 ^ (ds.length - 1):=Int.pow_pos (by decide);have:(10:Int) ^ (ds.length - 1) * 1<=10 ^ (ds.length - 1) * ds.getD (ds.length - 1) 0:=Int.mul_le_mul_of_nonneg_left (by omega) (by omega);omega
theorem Digs.lt {ds:List Int} {u:Int} (h:Digs ds u):u<10 ^ ds.length:=by
 rw [<- h.2.1];exact zVA h.1
def chr (d:Int):UInt8:=UInt8.ofNat (48+d).toNat
theorem zTQ {d:Int} (h0 : -48<=d) (h1:d<10):((chr d).toNat:Int)=48+d:=by
 unfold chr;rw [UInt8.toNat_ofNat'];omega
def zFO (l:List UInt8) (z:Int):Prop:=
 (z=0/\l=[48])\/∃ ds,Digs ds (z.natAbs:Int)/\l=(if z<0 then [45] else [])++ds.reverse.map chr
end Go.Proofs.YteliaeejooekbaaGreatDoor
