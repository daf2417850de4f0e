/-
  Several texts in one: V6j, Num, Zval.
-/
import Derived.Test.YtkadkfmidlhedaaGreatDoorMg4
import Derived.Test.YtkadkfmidlhedaaGreatDoorShelc
import Derived.Lib.SlTrimSet
import Derived.Test.YtkadkfmidlhedaaGreatDoorMg0
namespace Go.Proofs.YtkadkfmidlhedaaGreatDoor
open Go.RowKit
def isB (c:UInt8):Bool:=decide (c=32)
def ldrop (l:List UInt8):List UInt8:=l.dropWhile isB
def rdrop (l:List UInt8):List UInt8:=(l.reverse.dropWhile isB).reverse
theorem ldrop_cons (c:UInt8) (l:List UInt8):ldrop (c :: l)=if isB c then ldrop l else c :: l:=by
 unfold ldrop;rw [List.dropWhile_cons]
theorem rdrop_snoc (c:UInt8) (l:List UInt8):rdrop (l++[c])=if isB c then rdrop l else l++[c]:=by
 unfold rdrop;rw [List.reverse_append,List.reverse_cons,List.reverse_nil,List.nil_append,List.singleton_append,List.dropWhile_cons]
 split
 ·rfl
 ·simp
theorem rdrop_cons (c:UInt8) (l:List UInt8):rdrop (c :: l)=if rdrop l=[]∧isB c=true then [] else c :: rdrop l:=by
 unfold rdrop;rw [List.reverse_cons,List.dropWhile_append];cases h:l.reverse.dropWhile isB with
 | nil =>
  simp only [List.isEmpty_nil,if_true,List.reverse_nil,true_and];rw [List.dropWhile_cons]
  split
  ·simp
  ·simp
 | cons a m=>simp
theorem trim_comm (l:List UInt8):rdrop (ldrop l)=ldrop (rdrop l):=by
 induction l with
 | nil=>rfl
 | cons c l ih =>
  rw [ldrop_cons,rdrop_cons];by_cases hc:isB c=true
  ·rw [if_pos hc,ih];by_cases hr:rdrop l=[]
   ·rw [if_pos ⟨hr,hc⟩,hr]
   ·rw [if_neg (fun h=>hr h.1),ldrop_cons,if_pos hc]
  ·rw [if_neg hc,if_neg (fun h=>hc h.2),rdrop_cons,if_neg (fun h=>hc h.2),ldrop_cons,if_neg hc]
def trimB (l:List UInt8):List UInt8:=ldrop (rdrop l)
theorem contains32:(fun c=>([32]:List UInt8).contains c)=isB:=by
 funext c
 unfold isB;simp
theorem trimS_blank (l:List UInt8):Lib.trimS l [32]=trimB l:=by
 unfold Lib.trimS Lib.trimLeftS Lib.trimRightS trimB ldrop rdrop;rw [contains32]
theorem trimB_le (l:List UInt8):(trimB l).length≤l.length:=by
 unfold trimB ldrop rdrop;refine Nat.le_trans ((List.dropWhile_sublist _).length_le) ?_;rw [List.length_reverse];refine Nat.le_trans ((List.dropWhile_sublist _).length_le) ?_;rw [List.length_reverse];exact Nat.le_refl _
def lenOf:Value→Nat
 | .string s=>s.size
 | _=>0
theorem data_drop1 (s:ByteArray):(s.extract 1 s.size).data.toList=s.data.toList.drop 1:=by
 rw [ByteArray.data_extract,Array.toList_extract];show List.take (s.data.size - 1) (List.drop 1 s.data.toList)=_;rw [List.take_of_length_le (by simp)]
theorem sV_eq {s:ByteArray} {l:List UInt8} (h:s.data.toList=l):(.string s:Value)=sV l:=by
 subst h;rfl
theorem data_dropLast (s:ByteArray) (m:Nat):(s.extract 0 m).data.toList=s.data.toList.take m:=by
 rw [ByteArray.data_extract,Array.toList_extract];simp
set_option maxRecDepth 8000 in
set_option maxHeartbeats 2000000 in
theorem trimSp (l:List UInt8) (w:World) (hl:l.length≤2000000) :
  Calls Tryz.prog 163 #[sV l] w fun e w'=>e=.returned (sV (trimB l))∧w'=w:=by
 obtain ⟨s,hs⟩:∃ s:ByteArray,(⟨l.toArray⟩:ByteArray)=s:=⟨_,rfl⟩;have HS:Hid (s.data.toList=l):=by show _=_;rw [← hs]
 have hsz:s.size≤2000000:=by rw [← hs];exact hl
 show Calls Tryz.prog 163 #[.string ⟨l.toArray⟩] w _;rw [hs];clear hs;go_enter Tryz.func163,Tryz.ntmps163;go_wp2_with fail
 go_loop [0] (fun v=>∃ s:ByteArray,v=.string s∧s.size≤2000000∧Hid (ldrop s.data.toList=ldrop l)) (fun v=>lenOf v)
 case atStart=>exact ⟨s,rfl,hsz,by show _=_;rw [HS.out]⟩
 case round =>
  clear HS hsz;obtain ⟨s,rfl,hsz,HS⟩:=hrel;obtain ⟨n,hn⟩:∃ n,s.size=n:=⟨_,rfl⟩;rw [hn] at hsz;by_cases h0:n=0
  ·subst h0;have HE:Hid (s.data.toList=ldrop l):=by
    show _=_;have e:s.data.toList=[]:=by
     have:s.data.toList.length=0:=(by rw [Array.length_toList];exact hn);exact List.length_eq_zero_iff.1 this
    rw [← HS.out,e];rfl
   go_wp2_with fail
   go_loop [0] (fun v=>∃ s:ByteArray,v=.string s∧s.size≤2000000∧Hid (rdrop s.data.toList=rdrop (ldrop l))) (fun v=>lenOf v)
   case atStart=>exact ⟨s,rfl,by omega,by show _=_;rw [HE.out]⟩
   case round =>
    obtain ⟨r,rfl,hrz,HR⟩:=hrel;clear HE;obtain ⟨n,hn'⟩:∃ n,r.size=n:=⟨_,rfl⟩;rw [hn'] at hrz;by_cases h0:n=0
    ·subst h0;have HT:Hid (r.data.toList=trimB l):=by
      show _=_;have e:r.data.toList=[]:=by
       have:r.data.toList.length=0:=(by rw [Array.length_toList];exact hn');exact List.length_eq_zero_iff.1 this
      have:=HR.out;rw [e] at this;rw [trimB,← trim_comm,← this,e];rfl
     go_wp2_with fail;go_ret;exact ⟨congrArg Ending.returned (sV_eq HT.out),rfl⟩
    ·obtain ⟨k,rfl⟩:∃ k,n=k+1:=⟨n - 1,by omega⟩;have hk:k<r.size:=(by omega);have hlen:r.data.toList.length=k+1:=(by rw [Array.length_toList];exact hn');obtain ⟨m,c,hmc⟩:∃ m c,r.data.toList=m++[c]:=by
      rcases List.eq_nil_or_concat r.data.toList with e | ⟨m,c,e⟩
      ·rw [e] at hlen;simp at hlen
      ·exact ⟨m,c,e.trans (List.concat_eq_append ..)⟩
     have hmk:m.length=k:=(by rw [hmc] at hlen;simpa using hlen);have hb0:=byte_atA hmc hk;have hb:((r[k]'hk).toNat:Int)=(c.toNat:Int):=by
      rw [hb0,List.getD_eq_getElem?_getD,List.getElem?_append_right (by omega),hmk];simp
     have HC:Hid (r.data.toList=m++[c]):=hmc;clear hb0 hmc hlen;have hk2:(k:Int)<(k:Int)+1:=(by omega);by_cases hc:c=32
     ·subst hc;have hb:((r[k]'hk).toNat:Int)=32:=hb;go_wp2_with fail
      go_round
      case rel =>
       refine ⟨r.extract 0 k,rfl,by rw [ByteArray.size_extract];omega,?_⟩;show _=_;rw [data_dropLast,HC.out,List.take_left' hmk,← HR.out,HC.out,rdrop_snoc,if_pos (by decide)]
      case measure =>
       show (r.extract 0 k).size<r.size;rw [ByteArray.size_extract];omega
     ·have HT:Hid (r.data.toList=trimB l):=by
       show _=_;rw [trimB,← trim_comm,← HR.out,HC.out,rdrop_snoc,if_neg (by simpa [isB] using hc)]
      have hN:c.toNat ≠ 32:=fun e=>hc (by apply UInt8.toNat_inj.1;rw [e];rfl);obtain ⟨N,hNN⟩:∃ N:Int,(c.toNat:Int)=N:=⟨_,rfl⟩;rw [hNN] at hb;have hN2:N ≠ 32:=(by omega);clear hN hNN hc HC hmk;go_wp2_with fail;go_ret;exact ⟨congrArg Ending.returned (sV_eq HT.out),rfl⟩
  ·obtain ⟨k,rfl⟩:∃ k,n=k+1:=⟨n - 1,by omega⟩;have hk:0<s.size:=by omega
   obtain ⟨c,m,hcm⟩:∃ c m,s.data.toList=c :: m:=by
    cases e:s.data.toList with
    | nil =>
     have:s.data.toList.length=0:=(by rw [e];rfl);rw [Array.length_toList] at this;have h2:s.data.size=k+1:=hn;omega
    | cons c m=>exact ⟨c,m,rfl⟩
   have hb0:=byte_atA hcm hk;have hb:((s[0]'hk).toNat:Int)=(c.toNat:Int):=by rw [hb0];rfl
   have HC:Hid (s.data.toList=c :: m):=hcm;clear hb0 hcm;by_cases hc:c=32
   ·subst hc;have hb:((s[0]'hk).toNat:Int)=32:=hb;go_wp2_with fail
    go_round
    case rel =>
     refine ⟨s.extract 1 (k+1),rfl,by rw [ByteArray.size_extract];omega,?_⟩;show _=_;rw [← hn,data_drop1,HC.out];show ldrop m=_;rw [← HS.out,HC.out,ldrop_cons,if_pos (by decide)]
    case measure =>
     show (s.extract 1 (k+1)).size<s.size;rw [ByteArray.size_extract];omega
   ·have HE:Hid (s.data.toList=ldrop l):=by
     show _=_;rw [← HS.out,HC.out,ldrop_cons,if_neg (by simpa [isB] using hc)]
    have hN:c.toNat ≠ 32:=fun e=>hc (by apply UInt8.toNat_inj.1;rw [e];rfl);obtain ⟨N,hNN⟩:∃ N:Int,(c.toNat:Int)=N:=⟨_,rfl⟩;rw [hNN] at hb;have hN2:N ≠ 32:=(by omega);clear hN hNN hc HC;go_wp2_with fail
    go_loop [0] (fun v=>∃ s:ByteArray,v=.string s∧s.size≤2000000∧Hid (rdrop s.data.toList=rdrop (ldrop l))) (fun v=>lenOf v)
    case atStart=>exact ⟨s,rfl,by omega,by show _=_;rw [HE.out]⟩
    case round =>
     obtain ⟨r,rfl,hrz,HR⟩:=hrel;clear HE;obtain ⟨n,hn'⟩:∃ n,r.size=n:=⟨_,rfl⟩;rw [hn'] at hrz;by_cases h0:n=0
     ·subst h0;have HT:Hid (r.data.toList=trimB l):=by
       show _=_;have e:r.data.toList=[]:=by
        have:r.data.toList.length=0:=(by rw [Array.length_toList];exact hn');exact List.length_eq_zero_iff.1 this
       have:=HR.out;rw [e] at this;rw [trimB,← trim_comm,← this,e];rfl
      go_wp2_with fail;go_ret;exact ⟨congrArg Ending.returned (sV_eq HT.out),rfl⟩
     ·obtain ⟨k,rfl⟩:∃ k,n=k+1:=⟨n - 1,by omega⟩;have hk:k<r.size:=(by omega);have hlen:r.data.toList.length=k+1:=(by rw [Array.length_toList];exact hn');obtain ⟨m,c,hmc⟩:∃ m c,r.data.toList=m++[c]:=by
       rcases List.eq_nil_or_concat r.data.toList with e | ⟨m,c,e⟩
       ·rw [e] at hlen;simp at hlen
       ·exact ⟨m,c,e.trans (List.concat_eq_append ..)⟩
      have hmk:m.length=k:=(by rw [hmc] at hlen;simpa using hlen);have hb0:=byte_atA hmc hk;have hb:((r[k]'hk).toNat:Int)=(c.toNat:Int):=by
       rw [hb0,List.getD_eq_getElem?_getD,List.getElem?_append_right (by omega),hmk];simp
      have HC:Hid (r.data.toList=m++[c]):=hmc;clear hb0 hmc hlen;have hk2:(k:Int)<(k:Int)+1:=(by omega);by_cases hc:c=32
      ·subst hc;have hb:((r[k]'hk).toNat:Int)=32:=hb;go_wp2_with fail
       go_round
       case rel =>
        refine ⟨r.extract 0 k,rfl,by rw [ByteArray.size_extract];omega,?_⟩;show _=_;rw [data_dropLast,HC.out,List.take_left' hmk,← HR.out,HC.out,rdrop_snoc,if_pos (by decide)]
       case measure =>
        show (r.extract 0 k).size<r.size;rw [ByteArray.size_extract];omega
      ·have HT:Hid (r.data.toList=trimB l):=by
        show _=_;rw [trimB,← trim_comm,← HR.out,HC.out,rdrop_snoc,if_neg (by simpa [isB] using hc)]
       have hN:c.toNat ≠ 32:=fun e=>hc (by apply UInt8.toNat_inj.1;rw [e];rfl);obtain ⟨N,hNN⟩:∃ N:Int,(c.toNat:Int)=N:=⟨_,rfl⟩;rw [hNN] at hb;have hN2:N ≠ 32:=(by omega);clear hN hNN hc HC hmk;go_wp2_with fail;go_ret;exact ⟨congrArg Ending.returned (sV_eq HT.out),rfl⟩
end Go.Proofs.YtkadkfmidlhedaaGreatDoor

namespace Go.Proofs.YtkadkfmidlhedaaGreatDoor
def lv:List Int→Int
 | []=>0
 | x :: xs=>x+1000000000 * lv xs
def Lim (xs:List Int):Prop:=∀ x ∈ xs,0≤x∧x<1000000000
theorem Lim.nil:Lim []:=fun _ h=>by cases h
theorem Lim.cons {x:Int} {xs:List Int} (h0:0≤x) (h1:x<1000000000) (h:Lim xs):Lim (x :: xs):=fun y hy=>by
 rcases List.mem_cons.1 hy with rfl | hy
 ·exact ⟨h0,h1⟩
 ·exact h y hy
theorem Lim.head {x:Int} {xs:List Int} (h:Lim (x :: xs)):0≤x∧x<1000000000:=h x (by simp)
theorem Lim.tail {x:Int} {xs:List Int} (h:Lim (x :: xs)):Lim xs:=fun y hy=>h y (by simp [hy])
theorem Lim.app {xs ys:List Int} (h:Lim xs) (k:Lim ys):Lim (xs++ys):=fun y hy=>by
 rcases List.mem_append.1 hy with hy | hy
 ·exact h y hy
 ·exact k y hy
theorem Lim.take {xs:List Int} (h:Lim xs) (n:Nat):Lim (xs.take n):=fun y hy=>h y (List.mem_of_mem_take hy)
theorem Lim.drop {xs:List Int} (h:Lim xs) (n:Nat):Lim (xs.drop n):=fun y hy=>h y (List.mem_of_mem_drop hy)
theorem Lim.getD {xs:List Int} (h:Lim xs) (i:Nat):0≤xs.getD i 0∧xs.getD i 0<1000000000:=by
 by_cases hi:i<xs.length
 ·rw [List.getD_eq_getElem?_getD,List.getElem?_eq_getElem hi];exact h _ (List.getElem_mem hi)
 ·rw [List.getD_eq_getElem?_getD,List.getElem?_eq_none (by omega)];simp
theorem lv_nonneg:∀ {xs:List Int},Lim xs→0≤lv xs
 | [],_=>by simp [lv]
 | x :: xs,h=>by
  have:=lv_nonneg h.tail;have:=h.head;simp only [lv];omega
theorem lv_app:∀ (xs ys:List Int),lv (xs++ys)=lv xs+1000000000 ^ xs.length * lv ys
 | [],ys=>by simp [lv]
 | x :: xs,ys=>by
  simp only [List.cons_append,lv,lv_app xs ys,List.length_cons,Int.pow_succ];rw [Int.mul_add,Int.mul_comm (1000000000 ^ xs.length) 1000000000,← Int.mul_assoc];omega
theorem lv_lt:∀ {xs:List Int},Lim xs→lv xs<1000000000 ^ xs.length
 | [],_=>by simp [lv]
 | x :: xs,h=>by
  have:=lv_lt h.tail;have:=h.head;simp only [lv,List.length_cons,Int.pow_succ];omega
theorem pos_pow (n:Nat):(0:Int)<1000000000 ^ n:=Int.pow_pos (by decide)
theorem lv_ge {xs:List Int} (h:Lim xs) (hn:0<xs.length) (ht:xs.getD (xs.length - 1) 0 ≠ 0):1000000000 ^ (xs.length - 1)≤lv xs:=by
 obtain ⟨ys,y,rfl⟩:∃ ys y,xs=ys++[y]:=⟨xs.dropLast,xs.getLast (by intro e;simp [e] at hn),(List.dropLast_concat_getLast _).symm⟩;have h1:(ys++[y]).getD ((ys++[y]).length - 1) 0=y:=by simp
 rw [h1] at ht;have hy:=h y (by simp);have h0:=lv_nonneg (fun z hz=>h z (by simp [hz]):Lim ys);rw [lv_app];simp only [List.length_append,List.length_singleton,Nat.add_sub_cancel,lv];have hp:=pos_pow ys.length;have:(1000000000:Int) ^ ys.length * 1≤1000000000 ^ ys.length * (y+1000000000 * 0):=Int.mul_le_mul_of_nonneg_left (by omega) (by omega);omega
theorem len_le {xs:List Int} {k:Nat} (h:Lim xs) (ht:xs.length=0∨xs.getD (xs.length - 1) 0 ≠ 0) (hk:lv xs<1000000000 ^ k):xs.length≤k:=by
 rcases ht with ht | ht
 ·omega
 ·by_cases hn:xs.length≤k
  ·exact hn
  ·have h1:=lv_ge h (by omega) ht;have h2:(1000000000:Int) ^ k≤1000000000 ^ (xs.length - 1):=by
    have:=Nat.pow_le_pow_right (n:=1000000000) (by decide) (show k≤xs.length - 1 by omega);have h3:((1000000000 ^ k:Nat):Int)≤((1000000000 ^ (xs.length - 1):Nat):Int):=(by exact_mod_cast this);simpa using h3
   omega
theorem lv_take_succ (xs:List Int) (i:Nat) (h:i<xs.length):lv (xs.take (i+1))=lv (xs.take i)+1000000000 ^ i * xs.getD i 0:=by
 rw [List.take_succ_eq_append_getElem h,lv_app];simp [lv,List.length_take,Nat.min_eq_left (Nat.le_of_lt h),h]
theorem lv_set:∀ (xs:List Int) (i:Nat) (v:Int),i<xs.length→lv (xs.set i v)=lv xs+1000000000 ^ i * (v - xs.getD i 0)
 | [],_,_,h=>by simp at h
 | x :: xs,0,v,_=>by simp [lv];omega
 | x :: xs,i+1,v,h=>by
  have:=lv_set xs i v (by simpa using h);simp only [List.set_cons_succ,lv,this,List.getD_cons_succ,Int.pow_succ];rw [Int.mul_add,Int.mul_comm (1000000000 ^ i) 1000000000,Int.mul_assoc];omega
theorem getD_set {xs:List Int} {i j:Nat} {v:Int} (h:i<xs.length):(xs.set i v).getD j 0=if j=i then v else xs.getD j 0:=by
 simp only [List.getD_eq_getElem?_getD,List.getElem?_set];by_cases e:i=j
 ·subst e;simp [h]
 ·rw [if_neg e,if_neg (fun h=>e h.symm)]
theorem Lim.set {xs:List Int} (h:Lim xs) (i:Nat) {v:Int} (h0:0≤v) (h1:v<1000000000):Lim (xs.set i v):=fun y hy=>by
 rcases List.mem_or_eq_of_mem_set hy with hy | rfl
 ·exact h y hy
 ·exact ⟨h0,h1⟩
theorem lv_replicate (n:Nat):lv (List.replicate n 0)=0:=by
 induction n with
 | zero=>rfl
 | succ n ih=>simp [List.replicate_succ,lv,ih]
theorem Lim.zeros (n:Nat):Lim (List.replicate n 0):=fun y hy=>by
 rw [List.eq_of_mem_replicate hy];decide
theorem getD_zeros (n i:Nat):(List.replicate n (0:Int)).getD i 0=0:=by
 simp only [List.getD_eq_getElem?_getD,List.getElem?_replicate]
 split <;> rfl
end Go.Proofs.YtkadkfmidlhedaaGreatDoor

namespace Go.Proofs.YtkadkfmidlhedaaGreatDoor
open Go.RowKit
def C32 (w:World) (b o:Nat) (xs:List Int):Prop:=∀ i,i<xs.length→w.cell? ⟨b,o+i,none⟩=some (.int .u32 (xs.getD i 0))
theorem C32.later {w w1:World} {b o:Nat} {xs:List Int} (h:C32 w b o xs) (hb:Ext w w1):C32 w1 b o xs:=fun i hi=>cell_later hb (h i hi)
def Row (w:World) (v:Value) (xs:List Int):Prop:=
 ∃ (p:Option Addr) (cap:Nat),v=.slice p xs.length cap∧xs.length≤cap∧cap≤9223372036854775807∧((p=none∧cap=0)∨∃ b o,p=some ⟨b,o,none⟩∧C32 w b o xs)
theorem Row.later {w w1:World} {v:Value} {xs:List Int} (h:Row w v xs) (hb:Ext w w1):Row w1 v xs:=by
 obtain ⟨p,cap,e,h1,h2,h3⟩:=h;refine ⟨p,cap,e,h1,h2,?_⟩
 rcases h3 with h3 | ⟨b,o,e,h3⟩
 ·exact .inl h3
 ·exact .inr ⟨b,o,e,h3.later hb⟩
abbrev zS (z:Int):Value:=.agg #[.int .i64 z,.bool false,.slice none 0 0]
abbrev zB (neg:Bool) (p:Addr) (n cap:Nat):Value:=.agg #[.int .i64 0,.bool neg,.slice (some p) n cap]
def sgn (neg:Bool) (z:Int):Int:=if neg then -z else z
def Top (xs:List Int):Prop:=xs.length=0∨xs.getD (xs.length - 1) 0 ≠ 0
def ZV (w:World) (v:Value) (z:Int):Prop:=
 (-1000000000000000000<z∧z<1000000000000000000∧v=zS z) ∨
 ∃ neg b o cap xs,v=zB neg ⟨b,o,none⟩ xs.length cap∧xs.length≤cap∧cap≤9223372036854775807∧C32 w b o xs∧Lim xs∧3≤xs.length∧Top xs∧z=sgn neg (lv xs)
theorem ZV.later {w w1:World} {v:Value} {z:Int} (h:ZV w v z) (hb:Ext w w1):ZV w1 v z:=by
 rcases h with h | ⟨neg,b,o,cap,xs,e,h1,h2,h3,h4⟩
 ·exact .inl h
 ·exact .inr ⟨neg,b,o,cap,xs,e,h1,h2,h3.later hb,h4⟩
theorem ZV.small {w:World} {z:Int} (h1 : -1000000000000000000<z) (h2:z<1000000000000000000):ZV w (zS z) z:=.inl ⟨h1,h2,rfl⟩
theorem big_ge {xs:List Int} (h:Lim xs) (h3:3≤xs.length) (ht:Top xs):1000000000000000000≤lv xs:=by
 have h1:=lv_ge h (by omega) (ht.resolve_left (by omega));have h2:(1000000000:Int) ^ 2≤1000000000 ^ (xs.length - 1):=by
  have:=Nat.pow_le_pow_right (n:=1000000000) (by decide) (show 2≤xs.length - 1 by omega);have h3:((1000000000 ^ 2:Nat):Int)≤((1000000000 ^ (xs.length - 1):Nat):Int):=by exact_mod_cast this
  simpa using h3
 omega
def smallB (z:Int):Bool:=decide (-1000000000000000000<z∧z<1000000000000000000)
theorem small_big {neg:Bool} {xs:List Int} (h:Lim xs) (h3:3≤xs.length) (ht:Top xs):smallB (sgn neg (lv xs))=false:=by
 have:=big_ge h h3 ht;unfold smallB sgn;cases neg <;> simp <;> omega
theorem smallB_true {z:Int} (h1 : -1000000000000000000<z) (h2:z<1000000000000000000):smallB z=true:=by simp [smallB,h1,h2]
theorem ZV.small_of {w:World} {v:Value} {z:Int} (h:ZV w v z) (hs:smallB z=true) : -1000000000000000000<z∧z<1000000000000000000∧v=zS z:=by
 rcases h with h | ⟨neg,b,o,cap,xs,rfl,h1,h2,h3,h4,h5,h6,rfl⟩
 ·exact h
 ·rw [small_big h4 h5 h6] at hs;cases hs
set_option maxHeartbeats 400000 in
theorem isSmall_any {v:Value} {z:Int} (w:World) (h:ZV w v z) :
  Calls Tryz.prog 181 #[v] w fun e w'=>e=.returned (.bool (smallB z))∧Ext w w':=by
 rcases h with ⟨h1,h2,rfl⟩ | ⟨neg,b,o,cap,xs,rfl,h1,h2,h3,h4,h5,h6,h7⟩
 ·go_enter Tryz.func181,Tryz.ntmps181
  go_wp2
  go_ret;exact ⟨ret_bool (smallB_true h1 h2).symm,x1 _ _⟩
 ·have h9:(((xs.length:Int) == 0))=false:=by rw [beq_eq_false_iff_ne];omega
  subst h7;have H:=small_big (neg:=neg) h4 h5 h6;clear h6 h4 h3;go_enter Tryz.func181,Tryz.ntmps181
  go_wp2
  go_ret;exact ⟨ret_bool H.symm,x1 _ _⟩
theorem sgn_neg {neg:Bool} {xs:List Int} (h:Lim xs) (h3:3≤xs.length) (ht:Top xs):decide (sgn neg (lv xs)<0)=neg:=by
 have:=big_ge h h3 ht;cases neg <;> simp [sgn] <;> omega
set_option maxHeartbeats 400000 in
theorem neg_any {v:Value} {z:Int} (w:World) (h:ZV w v z) :
  Calls Tryz.prog 172 #[v] w fun e w'=>e=.returned (.bool (decide (z<0)))∧Ext w w':=by
 rcases h with ⟨h1,h2,rfl⟩ | ⟨neg,b,o,cap,xs,rfl,h1,h2,h3,h4,h5,h6,h7⟩
 ·go_enter Tryz.func172,Tryz.ntmps172
  go_wp2
  go_ret;exact ⟨rfl,x1 _ _⟩
 ·have h9:(0:Int)<(xs.length:Int):=by omega
  subst h7;have H:=sgn_neg (neg:=neg) h4 h5 h6;clear h6 h4 h3;go_enter Tryz.func172,Tryz.ntmps172
  go_wp2
  go_ret;exact ⟨ret_bool H.symm,x1 _ _⟩
set_option maxHeartbeats 400000 in
theorem zero_any {v:Value} {z:Int} (w:World) (h:ZV w v z) :
  Calls Tryz.prog 175 #[v] w fun e w'=>e=.returned (.bool (z == 0))∧Ext w w':=by
 rcases h with ⟨h1,h2,rfl⟩ | ⟨neg,b,o,cap,xs,rfl,h1,h2,h3,h4,h5,h6,h7⟩
 ·go_enter Tryz.func175,Tryz.ntmps175
  go_wp2
  all_goals go_ret
  all_goals exact ⟨rfl,x1 _ _⟩
 ·have h9:(((xs.length:Int) == 0))=false:=by rw [beq_eq_false_iff_ne];omega
  have H:(sgn neg (lv xs) == 0)=false:=by
   have:=big_ge h4 h5 h6;rw [beq_eq_false_iff_ne];cases neg <;> simp [sgn] <;> omega
  subst h7;clear h6 h4 h3;go_enter Tryz.func175,Tryz.ntmps175
  go_wp2
  all_goals go_ret
  all_goals exact ⟨ret_bool H.symm,x1 _ _⟩
set_option maxHeartbeats 400000 in
theorem minus_any {v:Value} {z:Int} (w:World) (h:ZV w v z) :
  Calls Tryz.prog 171 #[v] w fun e w'=>∃ v',e=.returned v'∧ZV w' v' (-z)∧Ext w w':=by
 rcases h with ⟨h1,h2,rfl⟩ | ⟨neg,b,o,cap,xs,rfl,h1,h2,h3,h4,h5,h6,rfl⟩
 ·go_enter Tryz.func171,Tryz.ntmps171
  go_wp2
  exact bodyPost_ret (v:=zS (-z)) (by simp [results,Tryz.results171,go_sem]) rfl ⟨_,rfl,.inl ⟨by omega,by omega,rfl⟩,xa (xa (x1 _ _) _) _⟩
 ·have h9:(((xs.length:Int) == 0))=false:=by rw [beq_eq_false_iff_ne];omega
  have H : -sgn neg (lv xs)=sgn (!neg) (lv xs):=by cases neg <;> simp [sgn]
  rw [H];clear H;go_enter Tryz.func171,Tryz.ntmps171
  go_wp2
  exact bodyPost_ret (v:=zB (!neg) ⟨b,o,none⟩ xs.length cap) (by simp [results,Tryz.results171,go_sem]) rfl
   ⟨_,rfl,.inr ⟨!neg,b,o,cap,xs,rfl,h1,h2,((h3.later (x1 _ _)).later (x1 _ _)).later (x1 _ _),h4,h5,h6,rfl⟩,xa (xa (x1 _ _) _) _⟩
def No32 (u:Value):Prop:=∀ n,u ≠ .int .u32 n
theorem C32.apart {w:World} {b o:Nat} {xs:List Int} {p:Addr} {u:Value} (h:C32 w b o xs) (hp:w.cell? p=some u) (hu:No32 u):∀ i,i<xs.length→(⟨b,o+i,none⟩:Addr) ≠ p:=by
 rintro i hi rfl;rw [h i hi] at hp;exact hu _ (Option.some.inj hp).symm
theorem C32.set {w:World} {b o:Nat} {xs:List Int} {p:Addr} {u:Value} (h:C32 w b o xs) (hp:w.cell? p=some u) (hu:No32 u) (a:Value):C32 (w.setCell p a) b o xs:=fun i hi=>by
 rw [World.cell?_setCell_other _ _ _ _ (h.apart hp hu i hi).symm];exact h i hi
theorem ZV.set {w:World} {v:Value} {z:Int} {p:Addr} {u:Value} (h:ZV w v z) (hp:w.cell? p=some u) (hu:No32 u) (a:Value):ZV (w.setCell p a) v z:=by
 rcases h with h | ⟨neg,b,o,cap,xs,e,h1,h2,h3,h4⟩
 ·exact .inl h
 ·exact .inr ⟨neg,b,o,cap,xs,e,h1,h2,h3.set hp hu a,h4⟩
theorem ZV.shape {w:World} {v:Value} {z:Int} (h:ZV w v z):∃ a0 a1 p n cap,v=.agg #[.int .i64 a0,.bool a1,.slice p n cap]:=by
 rcases h with ⟨_,_,rfl⟩ | ⟨neg,b,o,cap,xs,rfl,_⟩
 ·exact ⟨_,_,_,_,_,rfl⟩
 ·exact ⟨_,_,_,_,_,rfl⟩
theorem no32_i64 (n:Int):No32 (.int .i64 n):=fun _ h=>by cases h
theorem no32_bool (n:Bool):No32 (.bool n):=fun _ h=>by cases h
theorem no32_slice (p:Option Addr) (n c:Nat):No32 (.slice p n c):=fun _ h=>by cases h
abbrev set3 (w:World) (b:Nat) (a0 a1 a2:Value):World:=((w.setCell ⟨b,0,none⟩ a0).setCell ⟨b,1,none⟩ a1).setCell ⟨b,2,none⟩ a2
theorem addr_ne {b i j:Nat} (h:i ≠ j):(⟨b,i,none⟩:Addr) ≠ ⟨b,j,none⟩:=fun e=>h (by cases e;rfl)
theorem ZV.set3 {w:World} {v:Value} {z:Int} {b:Nat} {a0:Int} {a1:Bool} {p:Option Addr} {n cap:Nat} (h:ZV w v z) (hb:Box3 w b (.int .i64 a0) (.bool a1) (.slice p n cap)) (c0 c1 c2:Value):ZV (set3 w b c0 c1 c2) v z:=by
 obtain ⟨⟨q0,q1,q2⟩,_⟩:=hb;have k1:(w.setCell ⟨b,0,none⟩ c0).cell? ⟨b,1,none⟩=some (.bool a1):=by rw [World.cell?_setCell_other _ _ _ _ (addr_ne (by decide))];exact q1
 have k2:((w.setCell ⟨b,0,none⟩ c0).setCell ⟨b,1,none⟩ c1).cell? ⟨b,2,none⟩=some (.slice p n cap):=by
  rw [World.cell?_setCell_other _ _ _ _ (addr_ne (by decide)),World.cell?_setCell_other _ _ _ _ (addr_ne (by decide))];exact q2
 exact ((h.set q0 (no32_i64 _) _).set k1 (no32_bool _) _).set k2 (no32_slice _ _ _) _
theorem Ext.set3 {w w1:World} {b:Nat} (h:Ext w w1) (hb:w.heap.size≤b) (c0 c1 c2:Value):Ext w (set3 w1 b c0 c1 c2):=xset (xset (xset h hb _) hb _) hb _
set_option maxHeartbeats 400000 in
theorem abs_any {v:Value} {z:Int} (w:World) (h:ZV w v z) :
  Calls Tryz.prog 173 #[v] w fun e w'=>∃ v',e=.returned v'∧ZV w' v' (z.natAbs:Int)∧Ext w w':=by
 obtain ⟨a0,a1,p,n,cap,rfl⟩:=h.shape;by_cases hz:z<0
 ·have hd:decide (z<0)=true:=by simpa using hz
  have e1:(z.natAbs:Int) = -z:=by omega
  rw [e1];clear e1;go_enter Tryz.func173,Tryz.ntmps173;go_wp2_with fail;refine (neg_any _ (h.later (xa (x1 _ _) _))).mono ?_;rintro e w1 ⟨rfl,b1⟩;obtain ⟨⟨q0,q1,q2⟩,_⟩:=((Box3.made w (.int .i64 a0) (.bool a1) (.slice p n cap) 133).later (x1 _ _)).later b1;go_wp2_with fail;refine (minus_any _ ((h.later (xa (x1 _ _) _)).later b1)).mono ?_;rintro e w2 ⟨v',rfl,hz2,b2⟩;obtain ⟨a0',a1',p',n',cap',rfl⟩:=hz2.shape;have B:=((Box3.made (w.alloc (.cells #[.int .i64 a0,.bool a1,.slice p n cap] 133)) (.int .i64 0) (.bool false) (.slice none 0 0) 133).later b1).later b2;simp only [World.size_alloc] at B;have Hz:=hz2.set3 B (.int .i64 a0') (.bool a1') (.slice p' n' cap');have Hx:=Ext.set3 (b:=w.heap.size+1) (xt (xt (xa (x1 _ _) _) b1) b2) (by omega) (.int .i64 a0') (.bool a1') (.slice p' n' cap');obtain ⟨⟨r0,r1,r2⟩,s0,s1,s2⟩:=B
  go_wp2
  exact bodyPost_ret (v:=.agg #[.int .i64 a0',.bool a1',.slice p' n' cap']) (by simp [results,Tryz.results173,go_sem,r0,r1,r2]) rfl ⟨_,rfl,Hz,Hx⟩
 ·have hd:decide (z<0)=false:=by simpa using hz
  have e1:(z.natAbs:Int)=z:=by omega
  rw [e1];clear e1;go_enter Tryz.func173,Tryz.ntmps173;go_wp2_with fail;refine (neg_any _ (h.later (xa (x1 _ _) _))).mono ?_;rintro e w1 ⟨rfl,b1⟩;obtain ⟨⟨q0,q1,q2⟩,_⟩:=((Box3.made w (.int .i64 a0) (.bool a1) (.slice p n cap) 133).later (x1 _ _)).later b1;have B:=(Box3.made (w.alloc (.cells #[.int .i64 a0,.bool a1,.slice p n cap] 133)) (.int .i64 0) (.bool false) (.slice none 0 0) 133).later b1;simp only [World.size_alloc] at B;have Hz:=((h.later (xa (x1 _ _) _)).later b1).set3 B (.int .i64 a0) (.bool a1) (.slice p n cap);have Hx:=Ext.set3 (b:=w.heap.size+1) (xt (xa (x1 _ _) _) b1) (by omega) (.int .i64 a0) (.bool a1) (.slice p n cap);obtain ⟨⟨r0,r1,r2⟩,s0,s1,s2⟩:=B
  go_wp2
  exact bodyPost_ret (v:=.agg #[.int .i64 a0,.bool a1,.slice p n cap]) (by simp [results,Tryz.results173,go_sem,r0,r1,r2]) rfl ⟨_,rfl,Hz,Hx⟩
set_option maxHeartbeats 400000 in
theorem abs64_any (n:Int) (w:World) (h1 : -1000000000000000000<n) (h2:n<1000000000000000000) :
  Calls Tryz.prog 184 #[.int .i64 n] w fun e w'=>e=.returned (.int .i64 (n.natAbs:Int))∧w'=w:=by
 go_enter Tryz.func184,Tryz.ntmps184
 go_wp2
 all_goals go_ret
 all_goals exact ⟨ret_int (by omega),rfl⟩
theorem abs64_eq (n x:Int) (w:World) (h1 : -1000000000000000000<n) (h2:n<1000000000000000000) (hx:(n.natAbs:Int)=x) :
  Calls Tryz.prog 184 #[.int .i64 n] w fun e w'=>e=.returned (.int .i64 x)∧w'=w:=by
 rw [← hx];exact abs64_any n w h1 h2
theorem three (u:Int) (h1:1000000000000000000≤u) (h2:u<9000000000000000000) :
  Lim [u % 1000000000,u / 1000000000 % 1000000000,u / 1000000000 / 1000000000]∧Top [u % 1000000000,u / 1000000000 % 1000000000,u / 1000000000 / 1000000000]∧lv [u % 1000000000,u / 1000000000 % 1000000000,u / 1000000000 / 1000000000]=u:=by
 refine ⟨Lim.cons (by omega) (by omega) (Lim.cons (by omega) (by omega) (Lim.cons (by omega) (by omega) Lim.nil)),.inr ?_,?_⟩
 ·show u / 1000000000 / 1000000000 ≠ 0;omega
 ·simp only [lv];omega
theorem C32.three {w:World} {a b c:Int} {t:TypeId} {g:Nat} (hg:g=w.heap.size):C32 (w.alloc (.cells #[.int .u32 a,.int .u32 b,.int .u32 c] t)) g 0 [a,b,c]:=by
 subst hg;intro i hi
 match i,hi with
 | 0,_ | 1,_ | 2,_=>simp [go_sem]
theorem C32.two {w:World} {a b:Int} {t:TypeId} {g:Nat} (hg:g=w.heap.size):C32 (w.alloc (.cells #[.int .u32 a,.int .u32 b] t)) g 0 [a,b]:=by
 subst hg;intro i hi
 match i,hi with
 | 0,_ | 1,_=>simp [go_sem]
theorem C32.one {w:World} {a:Int} {t:TypeId} {g:Nat} (hg:g=w.heap.size):C32 (w.alloc (.cells #[.int .u32 a] t)) g 0 [a]:=by
 subst hg;intro i hi
 match i,hi with
 | 0,_=>simp [go_sem]
set_option maxHeartbeats 400000 in
theorem small_any (z:Int) (w:World) (h1 : -9000000000000000000<z) (h2:z<9000000000000000000) :
  Calls Tryz.prog 126 #[.int .i64 z] w fun e w'=>∃ v',e=.returned v'∧ZV w' v' z∧Ext w w':=by
 by_cases hs : -1000000000000000000<z∧z<1000000000000000000
 ·obtain ⟨s1,s2⟩:=hs;go_enter Tryz.func126,Tryz.ntmps126
  go_wp2
  exact bodyPost_ret (v:=zS z) (by simp [results,Tryz.results126,go_sem]) rfl ⟨_,rfl,ZV.small s1 s2,x1 _ _⟩
 ·by_cases hn:z<0
  ·obtain ⟨u,rfl⟩:∃ u,z = -u:=⟨-z,by omega⟩;have u1:1000000000000000000≤u:=by omega
   have u2:u<9000000000000000000:=by omega
   clear hs h1 h2 hn;go_enter Tryz.func126,Tryz.ntmps126
   go_wp2
   obtain ⟨t1,t2,t3⟩:=three u u1 u2;refine bodyPost_ret (v:=zB true ⟨w.heap.size+1,0,none⟩ 3 3) (by simp [results,Tryz.results126,go_sem]) rfl ⟨_,rfl,.inr ⟨true,w.heap.size+1,0,3,_,rfl,by simp,by decide,C32.three (by simp),t1,by simp,t2,?_⟩,xa (x1 _ _) _⟩;rw [t3];rfl
  ·have u1:1000000000000000000≤z:=by omega
   have hd:decide (z<0)=false:=by simpa using hn
   clear hs hn h1;go_enter Tryz.func126,Tryz.ntmps126
   go_wp2
   obtain ⟨t1,t2,t3⟩:=three z u1 h2;refine bodyPost_ret (v:=zB false ⟨w.heap.size+1,0,none⟩ 3 3) (by simp [results,Tryz.results126,go_sem]) rfl ⟨_,rfl,.inr ⟨false,w.heap.size+1,0,3,_,rfl,by simp,by decide,C32.three (by simp),t1,by simp,t2,?_⟩,xa (x1 _ _) _⟩;rw [t3];rfl
def Limbs (w:World) (v:Value) (u:Int):Prop:=∃ xs,Row w v xs∧Lim xs∧Top xs∧lv xs=u
theorem Limbs.later {w w1:World} {v:Value} {u:Int} (h:Limbs w v u) (hb:Ext w w1):Limbs w1 v u:=by
 obtain ⟨xs,h1,h2⟩:=h;exact ⟨xs,h1.later hb,h2⟩
theorem Limbs.nil (w:World):Limbs w (.slice none 0 0) 0:=⟨[],⟨none,0,rfl,Nat.le_refl _,by decide,.inl ⟨rfl,rfl⟩⟩,Lim.nil,.inl rfl,rfl⟩
theorem Limbs.one {w:World} {u:Int} {t:TypeId} {g:Nat} (hg:g=w.heap.size) (h1:0<u) (h2:u<1000000000):Limbs (w.alloc (.cells #[.int .u32 u] t)) (.slice (some ⟨g,0,none⟩) 1 1) u:=
 ⟨[u],⟨_,1,rfl,Nat.le_refl _,by decide,.inr ⟨g,0,rfl,C32.one hg⟩⟩,Lim.cons (by omega) h2 Lim.nil,.inr (show u ≠ 0 by omega),by simp [lv]⟩
theorem Limbs.two {w:World} {u:Int} {t:TypeId} {g:Nat} (hg:g=w.heap.size) (h1:1000000000≤u) (h2:u<1000000000000000000) :
  Limbs (w.alloc (.cells #[.int .u32 (u % 1000000000),.int .u32 (u / 1000000000)] t)) (.slice (some ⟨g,0,none⟩) 2 2) u:=
 ⟨[u % 1000000000,u / 1000000000],⟨_,2,rfl,Nat.le_refl _,by decide,.inr ⟨g,0,rfl,C32.two hg⟩⟩,Lim.cons (by omega) (by omega) (Lim.cons (by omega) (by omega) Lim.nil),.inr (show u / 1000000000 ≠ 0 by omega),by simp only [lv];omega⟩
set_option maxHeartbeats 400000 in
theorem limbs_any {v:Value} {z:Int} (w:World) (h:ZV w v z) :
  Calls Tryz.prog 183 #[v] w fun e w'=>∃ v',e=.returned v'∧Limbs w' v' (z.natAbs:Int)∧Ext w w':=by
 rcases h with ⟨h1,h2,rfl⟩ | ⟨neg,b,o,cap,xs,rfl,h1,h2,h3,h4,h5,h6,rfl⟩
 ·by_cases hn:z<0
  ·obtain ⟨u,rfl⟩:∃ u,z = -u:=⟨-z,by omega⟩;have u1:0<u:=by omega
   have u2:u<1000000000000000000:=by omega
   have e1:((-u).natAbs:Int)=u:=by omega
   rw [e1];clear h1 h2 hn e1;by_cases hb:u<1000000000
   ·go_enter Tryz.func183,Tryz.ntmps183
    go_wp2
    go_ret;exact ⟨_,rfl,Limbs.one (by simp) u1 hb,xa (x1 _ _) _⟩
   ·go_enter Tryz.func183,Tryz.ntmps183
    go_wp2
    go_ret;exact ⟨_,rfl,Limbs.two (by simp) (by omega) u2,xa (x1 _ _) _⟩
  ·have e1:(z.natAbs:Int)=z:=by omega
   rw [e1];have u1:0≤z:=by omega
   clear h1 hn e1;by_cases hz:z=0
   ·subst hz;go_enter Tryz.func183,Tryz.ntmps183
    go_wp2
    go_ret;exact ⟨_,rfl,Limbs.nil _,x1 _ _⟩
   ·by_cases hb:z<1000000000
    ·go_enter Tryz.func183,Tryz.ntmps183
     go_wp2
     go_ret;exact ⟨_,rfl,Limbs.one (by simp) (by omega) hb,xa (x1 _ _) _⟩
    ·go_enter Tryz.func183,Tryz.ntmps183
     go_wp2
     go_ret;exact ⟨_,rfl,Limbs.two (by simp) (by omega) h2,xa (x1 _ _) _⟩
 ·have h9:(0:Int)<(xs.length:Int):=by omega
  have e1:((sgn neg (lv xs)).natAbs:Int)=lv xs:=by
   have:=lv_nonneg h4;unfold sgn;cases neg <;> simp <;> omega
  rw [e1];have L:Hid (∀ w1,Ext w w1→Limbs w1 (.slice (some ⟨b,o,none⟩) xs.length cap) (lv xs)):=fun w1 hx=>⟨xs,⟨_,cap,rfl,h1,h2,.inr ⟨b,o,rfl,h3.later hx⟩⟩,h4,h6,rfl⟩;clear h4 h6 h3 e1;go_enter Tryz.func183,Tryz.ntmps183
  go_wp2
  go_ret;exact ⟨_,rfl,L.out _ (x1 _ _),x1 _ _⟩
end Go.Proofs.YtkadkfmidlhedaaGreatDoor

