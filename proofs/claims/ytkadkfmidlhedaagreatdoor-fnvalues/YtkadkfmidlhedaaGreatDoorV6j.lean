/-
  Chapter 6: a text without the blanks at its ends.
-/
import Derived.Test.YtkadkfmidlhedaaGreatDoorMg3
import Derived.Test.YtkadkfmidlhedaaGreatDoorShelc
import Derived.Lib.SlTrimSet
set_option maxRecDepth 8000
set_option maxHeartbeats 2000000
namespace Go.Proofs.YtkadkfmidlhedaaGreatDoor
open Go.RowKit
def isB (c:UInt8):Bool:=decide (c=32)
def zEX (l:List UInt8):List UInt8:=l.dropWhile isB
def zDZ (l:List UInt8):List UInt8:=(l.reverse.dropWhile isB).reverse
theorem zD5 (c:UInt8) (l:List UInt8):zEX (c :: l)=if isB c then zEX l else c :: l:=by
 unfold zEX;rw [List.dropWhile_cons]
theorem zEE (c:UInt8) (l:List UInt8):zDZ (l++[c])=if isB c then zDZ l else l++[c]:=by
 unfold zDZ;rw [List.reverse_append,List.reverse_cons,List.reverse_nil,List.nil_append,List.singleton_append,List.dropWhile_cons]
 split
 ·rfl
 ·simp
theorem zHT (c:UInt8) (l:List UInt8):zDZ (c :: l)=if zDZ l=[]/\isB c=true then [] else c :: zDZ l:=by
 unfold zDZ;rw [List.reverse_cons,List.dropWhile_append];cases h:l.reverse.dropWhile isB with
 | nil =>
  simp only [List.isEmpty_nil,if_true,List.reverse_nil,true_and];rw [List.dropWhile_cons]
  split
  ·simp
  ·simp
 | cons a m=>simp
theorem zF2 (l:List UInt8):zDZ (zEX l)=zEX (zDZ l):=by
 induction l with
 | nil=>rfl
 | cons c l ih =>
  rw [zD5,zHT];by_cases hc:isB c=true
  ·rw [if_pos hc,ih];by_cases hr:zDZ l=[]
   ·rw [if_pos ⟨hr,hc⟩,hr]
   ·rw [if_neg (fun h=>hr h.1),zD5,if_pos hc]
  ·rw [if_neg hc,if_neg (fun h=>hc h.2),zHT,if_neg (fun h=>hc h.2),zD5,if_neg hc]
def zBL (l:List UInt8):List UInt8:=zEX (zDZ l)
theorem zMY:(fun c=>([32]:List UInt8).contains c)=isB:=by
 funext c
 unfold isB;simp
theorem zJY (l:List UInt8):Lib.trimS l [32]=zBL l:=by
 unfold Lib.trimS Lib.trimLeftS Lib.trimRightS zBL zEX zDZ;rw [zMY]
theorem zKW (l:List UInt8):(zBL l).length<=l.length:=by
 unfold zBL zEX zDZ;refine Nat.le_trans ((List.dropWhile_sublist _).length_le) ?_;rw [List.length_reverse];refine Nat.le_trans ((List.dropWhile_sublist _).length_le) ?_;rw [List.length_reverse];exact Nat.le_refl _
def zU9:Value->Nat
 | .string s=>s.size
 | _=>0
theorem zMX (s:ByteArray):(s.extract 1 s.size).data.toList=s.data.toList.drop 1:=by
 rw [ByteArray.data_extract,Array.toList_extract];show List.take (s.data.size - 1) (List.drop 1 s.data.toList)=_;rw [List.take_of_length_le (by simp)]
theorem zQE {s:ByteArray} {l:List UInt8} (h:s.data.toList=l):(.string s:Value)=sV l:=by
 subst h;rfl
theorem zFE (s:ByteArray) (m:Nat):(s.extract 0 m).data.toList=s.data.toList.take m:=by
 rw [ByteArray.data_extract,Array.toList_extract];simp
theorem zVE (l:List UInt8) (w:World) (hl:l.length<=2000000) :
  Calls Tryz.prog 163 #[sV l] w fun e w'=>e=.returned (sV (zBL l))/\w'=w:=by
 obtain ⟨s,hs⟩:∃ s:ByteArray,(⟨l.toArray⟩:ByteArray)=s:=⟨_,rfl⟩;have HS:Hid (s.data.toList=l):=by show _=_;rw [<- hs]
 have hsz:s.size<=2000000:=by rw [<- hs];exact hl
 show Calls Tryz.prog 163 #[.string ⟨l.toArray⟩] w _;rw [hs];clear hs;go_enter Tryz.func163,Tryz.ntmps163;go_wp2_with fail
 go_loop [0] (fun v=>∃ s:ByteArray,v=.string s/\s.size<=2000000/\Hid (zEX s.data.toList=zEX l)) (fun v=>zU9 v)
 case atStart=>exact ⟨s,rfl,hsz,by show _=_;rw [HS.out]⟩
 case round =>
  clear HS hsz;obtain ⟨s,rfl,hsz,HS⟩:=hrel;obtain ⟨n,hn⟩:=nm (s.size);rw [hn] at hsz;by_cases h0:n=0
  ·subst h0;have HE:Hid (s.data.toList=zEX l):=by
    show _=_;have e:s.data.toList=[]:=by
     have:s.data.toList.length=0:=(by rw [Array.length_toList];exact hn);exact List.length_eq_zero_iff.1 this
    rw [<- HS.out,e];rfl
   go_wp2_with fail
   go_loop [0] (fun v=>∃ s:ByteArray,v=.string s/\s.size<=2000000/\Hid (zDZ s.data.toList=zDZ (zEX l))) (fun v=>zU9 v)
   case atStart=>exact ⟨s,rfl,by omega,by show _=_;rw [HE.out]⟩
   case round =>
    obtain ⟨r,rfl,hrz,HR⟩:=hrel;clear HE;obtain ⟨n,hn'⟩:=nm (r.size);rw [hn'] at hrz;by_cases h0:n=0
    ·subst h0;have HT:Hid (r.data.toList=zBL l):=by
      show _=_;have e:r.data.toList=[]:=by
       have:r.data.toList.length=0:=(by rw [Array.length_toList];exact hn');exact List.length_eq_zero_iff.1 this
      have:=HR.out;rw [e] at this;rw [zBL,<- zF2,<- this,e];rfl
     go_wp2_with fail;go_ret;exact ⟨congrArg Ending.returned (zQE HT.out),rfl⟩
    ·obtain ⟨k,rfl⟩:∃ k,n=k+1:=⟨n - 1,by omega⟩;have hk:k<r.size:=(by omega);have hlen:r.data.toList.length=k+1:=(by rw [Array.length_toList];exact hn');obtain ⟨m,c,hmc⟩:∃ m c,r.data.toList=m++[c]:=by
      rcases List.eq_nil_or_concat r.data.toList with e | ⟨m,c,e⟩
      ·rw [e] at hlen;simp at hlen
      ·exact ⟨m,c,e.trans (List.concat_eq_append ..)⟩
     have hmk:m.length=k:=(by rw [hmc] at hlen;simpa using hlen);have hb0:=zFG hmc hk;have hb:((r[k]'hk).toNat:Int)=(c.toNat:Int):=by
      rw [hb0,List.getD_eq_getElem?_getD,List.getElem?_append_right (by omega),hmk];simp
     have HC:Hid (r.data.toList=m++[c]):=hmc;clear hb0 hmc hlen;have hk2:(k:Int)<(k:Int)+1:=(by omega);by_cases hc:c=32
     ·subst hc;have hb:((r[k]'hk).toNat:Int)=32:=hb;go_wp2_with fail
      go_round
      case rel =>
       refine ⟨r.extract 0 k,rfl,by rw [ByteArray.size_extract];omega,?_⟩;show _=_;rw [zFE,HC.out,List.take_left' hmk,<- HR.out,HC.out,zEE,if_pos (by decide)]
      case measure =>
       show (r.extract 0 k).size<r.size;rw [ByteArray.size_extract];omega
     ·have HT:Hid (r.data.toList=zBL l):=by
       show _=_;rw [zBL,<- zF2,<- HR.out,HC.out,zEE,if_neg (by simpa [isB] using hc)]
      have hN:c.toNat ≠ 32:=fun e=>hc (by apply UInt8.toNat_inj.1;rw [e];rfl);obtain ⟨N,hNN⟩:∃ N:Int,(c.toNat:Int)=N:=⟨_,rfl⟩;rw [hNN] at hb;have hN2:N ≠ 32:=(by omega);clear hN hNN hc HC hmk;go_wp2_with fail;go_ret;exact ⟨congrArg Ending.returned (zQE HT.out),rfl⟩
  ·obtain ⟨k,rfl⟩:∃ k,n=k+1:=⟨n - 1,by omega⟩;have hk:0<s.size:=by omega
   obtain ⟨c,m,hcm⟩:∃ c m,s.data.toList=c :: m:=by
    cases e:s.data.toList with
    | nil =>
     have:s.data.toList.length=0:=(by rw [e];rfl);rw [Array.length_toList] at this;have h2:s.data.size=k+1:=hn;omega
    | cons c m=>exact ⟨c,m,rfl⟩
   have hb0:=zFG hcm hk;have hb:((s[0]'hk).toNat:Int)=(c.toNat:Int):=by rw [hb0];rfl
   have HC:Hid (s.data.toList=c :: m):=hcm;clear hb0 hcm;by_cases hc:c=32
   ·subst hc;have hb:((s[0]'hk).toNat:Int)=32:=hb;go_wp2_with fail
    go_round
    case rel =>
     refine ⟨s.extract 1 (k+1),rfl,by rw [ByteArray.size_extract];omega,?_⟩;show _=_;rw [<- hn,zMX,HC.out];show zEX m=_;rw [<- HS.out,HC.out,zD5,if_pos (by decide)]
    case measure =>
     show (s.extract 1 (k+1)).size<s.size;rw [ByteArray.size_extract];omega
   ·have HE:Hid (s.data.toList=zEX l):=by
     show _=_;rw [<- HS.out,HC.out,zD5,if_neg (by simpa [isB] using hc)]
    have hN:c.toNat ≠ 32:=fun e=>hc (by apply UInt8.toNat_inj.1;rw [e];rfl);obtain ⟨N,hNN⟩:∃ N:Int,(c.toNat:Int)=N:=⟨_,rfl⟩;rw [hNN] at hb;have hN2:N ≠ 32:=(by omega);clear hN hNN hc HC;go_wp2_with fail
    go_loop [0] (fun v=>∃ s:ByteArray,v=.string s/\s.size<=2000000/\Hid (zDZ s.data.toList=zDZ (zEX l))) (fun v=>zU9 v)
    case atStart=>exact ⟨s,rfl,by omega,by show _=_;rw [HE.out]⟩
    case round =>
     obtain ⟨r,rfl,hrz,HR⟩:=hrel;clear HE;obtain ⟨n,hn'⟩:=nm (r.size);rw [hn'] at hrz;by_cases h0:n=0
     ·subst h0;have HT:Hid (r.data.toList=zBL l):=by
       show _=_;have e:r.data.toList=[]:=by
        have:r.data.toList.length=0:=(by rw [Array.length_toList];exact hn');exact List.length_eq_zero_iff.1 this
       have:=HR.out;rw [e] at this;rw [zBL,<- zF2,<- this,e];rfl
      go_wp2_with fail;go_ret;exact ⟨congrArg Ending.returned (zQE HT.out),rfl⟩
     ·obtain ⟨k,rfl⟩:∃ k,n=k+1:=⟨n - 1,by omega⟩;have hk:k<r.size:=(by omega);have hlen:r.data.toList.length=k+1:=(by rw [Array.length_toList];exact hn');obtain ⟨m,c,hmc⟩:∃ m c,r.data.toList=m++[c]:=by
       rcases List.eq_nil_or_concat r.data.toList with e | ⟨m,c,e⟩
       ·rw [e] at hlen;simp at hlen
       ·exact ⟨m,c,e.trans (List.concat_eq_append ..)⟩
      have hmk:m.length=k:=(by rw [hmc] at hlen;simpa using hlen);have hb0:=zFG hmc hk;have hb:((r[k]'hk).toNat:Int)=(c.toNat:Int):=by
       rw [hb0,List.getD_eq_getElem?_getD,List.getElem?_append_right (by omega),hmk];simp
      have HC:Hid (r.data.toList=m++[c]):=hmc;clear hb0 hmc hlen;have hk2:(k:Int)<(k:Int)+1:=(by omega);by_cases hc:c=32
      ·subst hc;have hb:((r[k]'hk).toNat:Int)=32:=hb;go_wp2_with fail
       go_round
       case rel =>
        refine ⟨r.extract 0 k,rfl,by rw [ByteArray.size_extract];omega,?_⟩;show _=_;rw [zFE,HC.out,List.take_left' hmk,<- HR.out,HC.out,zEE,if_pos (by decide)]
       case measure =>
        show (r.extract 0 k).size<r.size;rw [ByteArray.size_extract];omega
      ·have HT:Hid (r.data.toList=zBL l):=by
        show _=_;rw [zBL,<- zF2,<- HR.out,HC.out,zEE,if_neg (by simpa [isB] using hc)]
       have hN:c.toNat ≠ 32:=fun e=>hc (by apply UInt8.toNat_inj.1;rw [e];rfl);obtain ⟨N,hNN⟩:∃ N:Int,(c.toNat:Int)=N:=⟨_,rfl⟩;rw [hNN] at hb;have hN2:N ≠ 32:=(by omega);clear hN hNN hc HC hmk;go_wp2_with fail;go_ret;exact ⟨congrArg Ending.returned (zQE HT.out),rfl⟩
end Go.Proofs.YtkadkfmidlhedaaGreatDoor

