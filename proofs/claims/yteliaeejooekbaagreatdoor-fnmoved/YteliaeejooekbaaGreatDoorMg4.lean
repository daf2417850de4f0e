import Derived.Test.YteliaeejooekbaaGreatDoorMg2
import Derived.Test.YteliaeejooekbaaGreatDoorShelf
import Derived.Test.YteliaeejooekbaaGreatDoorMg1
import Derived.Test.YteliaeejooekbaaGreatDoorBase
import Derived.Lib.ItoaNum
import Derived.WalkSmall
import Derived.Lib.LaidTab
import Derived.Lib.AtoiErrMem
import Derived.Lib.AtoiAllCases
import Derived.Lib.SlTrimSet
import Derived.Lib.IndexBytes
import Derived.Lib.IndexMore
set_option maxRecDepth 8000
set_option maxHeartbeats 1000000
namespace Go.Proofs.YteliaeejooekbaaGreatDoor
open Go.RowKit
theorem zM1:layIndexByte_ren.f 137=187:=by kernel_rfl
theorem zV0 (b:UInt8) (w:World) :
  Calls Tryz.prog 187 #[.string ⟨#[65,66,67,68,69,70,71,72,73,74,75,76,77,78,79,80,81,82,83,84,85,86,87,88,89,90]⟩,.int .u8 (b.toNat:Int)] w fun e w'=>e=.returned (iQ (if zAI b then (b.toNat:Int) - 65 else -1))/\w'=w:=by
 have h:=Any.strings_IndexByte layIndexByte ⟨#[65,66,67,68,69,70,71,72,73,74,75,76,77,78,79,80,81,82,83,84,85,86,87,88,89,90]⟩ (b.toNat:Int) w;rw [zM1] at h;rw [<- zIR b];have e:((b.toNat:Int)).toNat.toUInt8=b:=by simp
 rw [e] at h;exact h
theorem zTM (s:ByteArray) (l:List UInt8) (w:World) (hs:s.data.toList=l) (hlen:s.size<=1048576) :
  Calls Tryz.prog 172 #[.string s] w fun e w'=>e=.returned (iQ (colV l))/\w'=w:=by
 have hsz:=zBJ hs;obtain ⟨L,hL⟩:=nm (l.length);have HL:Hid _:=hL;rw [hL] at hsz;have HS:Hid _:=hs;have L20:L<=1048576:=by omega
 clear hL hs hlen;go_enter Tryz.func172,Tryz.ntmps172;go_wp2_with fail
 go_loop [3,8] (fun a i=>∃ (k:Nat) (acc:Nat),k<=L/\i=.int .i64 k/\a=.int .i64 acc/\acc<=200/\Hid ((l.take k).all zAI=true)/\Hid (acc=valF 0 (l.take k))) (fun _ i=>L - (intOf i).toNat)
 case atStart=>exact ⟨0,0,by omega,rfl,rfl,by omega,by simp [Hid],by simp [Hid,zFQ]⟩
 case round =>
  obtain ⟨k,acc,hk,rfl,rfl,a0,HA,HN⟩:=hrel;by_cases hlt:k<L
  ·have hlt':(k:Int)<(L:Int):=by omega
   have hkl:k<l.length:=by rw [HL.out];exact hlt
   have hdr:l=l.take k++l.getD k 0 :: l.drop (k+1):=by rw [<- zKZ hkl,List.take_append_drop]
   have htk:=zDJ hkl;have hks:k<s.size:=by omega
   have hb0:=zB8 HS.out hks;obtain ⟨c,hcc⟩:=nm (l.getD k 0);rw [hcc] at hdr hb0 htk;have hb:((s[k]'hks).toNat:Int)=(c.toNat:Int):=by rw [hb0]
   have c255:=c.toNat_lt;have IX:=fun w=>zV0 c w;have hv:valF 0 (l.take (k+1))=acc * 26+(c.toNat - 64):=by rw [htk,zHY,HN.out]
   by_cases hc:zAI c=true
   ·have hc':=hc;simp only [zAI,decide_eq_true_eq] at hc';rw [if_pos hc] at IX;have HA2:Hid ((l.take (k+1)).all zAI=true):=by
     show _=_;rw [htk,List.all_append,HA.out];simp [hc]
    by_cases hbig:200<acc * 26+(c.toNat - 64)
    ·have HZ:Hid (colV l=0):=by
      show _=_;rw [hdr];exact zL1 (.inr ⟨HA.out,hc,by rw [<- htk,hv];exact hbig⟩)
     obtain ⟨N,hN⟩:∃ N:Int,(c.toNat:Int)=N:=⟨_,rfl⟩;rw [hN] at hb IX;have n1:65<=N/\N<=90:=(by omega);have n2:200<(acc:Int) * 26+(N - 65)+1:=(by omega);have n3:decide ((acc:Int) * 26+(N - 65)+1 > 200)=true:=(by simp;omega);have n4:decide (N - 65<0)=false:=(by simp;omega);clear hN hbig hv htk hdr hb0 hcc HN HA HA2 hc hc' c255;go_wp2_with (go_at_call 187;refine (IX _).mono ?_;rintro e w' ⟨rfl,rfl⟩);go_ret;exact ⟨zAK HZ.out.symm,rfl⟩
    ·have HN2:Hid (acc * 26+(c.toNat - 64)=valF 0 (l.take (k+1))):=hv.symm;obtain ⟨N,hN⟩:∃ N:Int,(c.toNat:Int)=N:=⟨_,rfl⟩;obtain ⟨a2,ha2⟩:∃ a2:Nat,acc * 26+(c.toNat - 64)=a2:=⟨_,rfl⟩;rw [ha2] at HN2 hbig;have ha3:(acc:Int) * 26+(N - 65)+1=(a2:Int):=(by omega);rw [hN] at hb IX;have n1:65<=N/\N<=90:=(by omega);have n3:decide ((acc:Int) * 26+(N - 65)+1 > 200)=false:=(by simp;omega);have n4:decide (N - 65<0)=false:=(by simp;omega);clear hN ha2 hv htk hdr hb0 hcc HN HA hc hc' c255;go_wp2_with (go_at_call 187;refine (IX _).mono ?_;rintro e w' ⟨rfl,rfl⟩)
     go_round
     case rel=>exact ⟨k+1,a2,by omega,by go_num,by first | rfl | rw [ha3],by omega,HA2,HN2⟩
     case measure=>simp [intOf];omega
   ·have hc2:zAI c=false:=(by simpa using hc);rw [if_neg hc] at IX;have HZ:Hid (colV l=0):=by
     show _=_;rw [hdr];exact zL1 (.inl hc2)
    obtain ⟨N,hN⟩:∃ N:Int,(c.toNat:Int)=N:=⟨_,rfl⟩;rw [hN] at hb IX;clear hN hv htk hdr hb0 hcc HN HA hc hc2 c255;go_wp2_with (go_at_call 187;refine (IX _).mono ?_;rintro e w' ⟨rfl,rfl⟩);go_ret;exact ⟨zAK HZ.out.symm,rfl⟩
  ·obtain rfl:k=L:=by omega
   have HZ:Hid ((acc:Int)=colV l):=by
    show _=_;have h1:=HA.out;have h2:=HN.out;rw [List.take_of_length_le (by rw [HL.out];omega)] at h1 h2;rw [colV,if_pos ⟨h1,by omega⟩,h2]
   clear HA HN;go_wp2_with fail;go_ret;exact ⟨zAK HZ.out,rfl⟩
theorem zTL (s:ByteArray) (l:List UInt8) (w:World) (hs:s.data.toList=l) :
  Calls Tryz.prog 164 #[.string s] w fun e w'=>e=.returned (iQ (colV l))/\Ext w w':=by
 have hsz:=zBJ hs;obtain ⟨L,hL⟩:=nm (l.length);have HL:Hid _:=hL;rw [hL] at hsz;have HS:Hid _:=hs;clear hL hs;go_enter Tryz.func164,Tryz.ntmps164;go_wp2_with fail
 go_loop [3,4] (fun a i=>∃ (k:Nat) (acc:Nat),(k<=L/\k<=4)/\i=.int .i64 k/\a=.int .i64 acc/\Hid (acc+1<=27 ^ k)/\Hid ((l.take k).all zAI=true)/\Hid (acc=valF 0 (l.take k))) (fun _ i=>4 - (intOf i).toNat)
 case atStart=>exact ⟨0,0,by omega,rfl,rfl,by simp [Hid],by simp [Hid],by simp [Hid,zFQ]⟩
 case round =>
  obtain ⟨k,acc,⟨hk,hk4⟩,rfl,rfl,HB,HA,HN⟩:=hrel;by_cases hlt:k<L/\k<4
  ·obtain ⟨hlt,hlt4⟩:=hlt;have hlt':(k:Int)<(L:Int):=by omega
   have hlt4':(k:Int)<4:=by omega
   have hkl:k<l.length:=by rw [HL.out];exact hlt
   have htk:=zDJ hkl;have hks:k<s.size:=by omega
   have hb0:=zB8 HS.out hks;obtain ⟨c,hcc⟩:=nm (l.getD k 0);rw [hcc] at hb0 htk;have hb:((s[k]'hks).toNat:Int)=(c.toNat:Int):=by rw [hb0]
   have c255:=c.toNat_lt;have hv:valF 0 (l.take (k+1))=acc * 26+(c.toNat - 64):=by rw [htk,zHY,HN.out]
   have ab:acc<19683:=by
    have h1:=HB.out;have h2:27 ^ k<=27 ^ 3:=Nat.pow_le_pow_right (by decide) (by omega);have h3:27 ^ 3=19683:=(by decide);omega
   by_cases hc:zAI c=true
   ·have hc':=hc;simp only [zAI,decide_eq_true_eq] at hc';have HA2:Hid ((l.take (k+1)).all zAI=true):=by
     show _=_;rw [htk,List.all_append,HA.out];simp [hc]
    have HB2:Hid (acc * 26+(c.toNat - 64)+1<=27 ^ (k+1)):=by
     show _<=_;have h1:=HB.out;rw [Nat.pow_succ];omega
    have HN2:Hid (acc * 26+(c.toNat - 64)=valF 0 (l.take (k+1))):=hv.symm;obtain ⟨N,hN⟩:∃ N:Int,(c.toNat:Int)=N:=⟨_,rfl⟩;obtain ⟨a2,ha2⟩:∃ a2:Nat,acc * 26+(c.toNat - 64)=a2:=⟨_,rfl⟩;rw [ha2] at HN2 HB2;have ha3:(acc:Int) * 26+(N - 65)+1=(a2:Int):=(by omega);rw [hN] at hb;have n1:65<=N/\N<=90:=(by omega);have n3:decide (N<65)=false:=(by simp;omega);have n4:decide (N > 90)=false:=(by simp;omega);have hw8:IntKind.u8.wrap (N - 65)=N - 65:=(by rw [IntKind.wrap_u8];omega);clear hN ha2 hv htk hb0 hcc HN HA HB hc hc' c255;go_wp2_with fail
    go_round
    case rel=>exact ⟨k+1,a2,by omega,by go_num,by first | rfl | rw [ha3],HB2,HA2,HN2⟩
    case measure=>simp [intOf];omega
   ·have hc2:¬ (65<=c.toNat/\c.toNat<=90):=(by simpa [zAI] using hc);have HZ:Hid (colV l=0):=by
     show _=_;refine zQI (t:=l.take 4) rfl ?_;intro h;rw [List.all_eq_true] at h;have:c ∈ l.take 4:=by
      have h1:c ∈ l.take (k+1):=(by rw [htk];simp);have h2:l.take (k+1)=(l.take 4).take (k+1):=(by rw [List.take_take,Nat.min_eq_left (by omega)]);rw [h2] at h1;exact List.mem_of_mem_take h1
     exact hc (h c this)
    obtain ⟨N,hN⟩:∃ N:Int,(c.toNat:Int)=N:=⟨_,rfl⟩;rw [hN] at hb;by_cases n3:N<65
    ·have n4:decide (N<65)=true:=(by simp;omega);clear hN hv htk hb0 hcc HN HA HB hc hc2 c255;go_wp2_with fail;go_ret;exact ⟨zAK HZ.out.symm,xr _⟩
    ·have n4:decide (N<65)=false:=(by simp;omega);have n5:decide (N > 90)=true:=(by simp;omega);clear hN hv htk hb0 hcc HN HA HB hc hc2 c255;go_wp2_with fail;go_ret;exact ⟨zAK HZ.out.symm,xr _⟩
  ·have ab:acc<531441:=by
    have h1:=HB.out;have h2:27 ^ k<=27 ^ 4:=Nat.pow_le_pow_right (by decide) hk4;have h3:27 ^ 4=531441:=(by decide);omega
   have HT:Hid (l.take k=l.take 4):=by
    show _=_
    rcases Nat.lt_or_ge k 4 with h | h
    ·have:k=L:=(by omega);have hl:=HL.out;rw [List.take_of_length_le (by omega),List.take_of_length_le (by omega)]
    ·rw [show k=4 by omega]
   have HC:Hid ((if zAM acc=l then (acc:Int) else 0)=colV l):=by
    show _=_;have:=zOL (l:=l) (t:=l.take k) HT.out;rw [<- HN.out] at this;exact this
   have CN:=fun w=>zL2 (acc:Int) w;clear HN HA HB HT;have FIN:Hid (∀ (t:ByteArray),t.data.toList=zAM (acc:Int)->((t=s->colV l=acc)/\(¬ t=s->colV l=0))):=fun t ht=>by
    have h:=HC.out;refine ⟨fun e=>?_,fun e=>?_⟩
    ·subst e;rw [if_pos (ht.symm.trans HS.out)] at h;exact h.symm
    ·rw [if_neg (fun e2=>e (zHT ht (HS.out.trans e2.symm)))] at h;exact h.symm
   by_cases hkL:k<L
   ·have hlt':(k:Int)<(L:Int):=(by omega);have h4:¬ (k:Int)<4:=(by omega);go_wp2_with fail;refine (CN _).mono ?_;rintro e w1 ⟨t,rfl,ht,e1⟩;obtain ⟨F1,F2⟩:=FIN.out t ht;have F1:Hid _:=F1;have F2:Hid _:=F2;clear ht CN HC FIN HS;go_wp2_with fail
    all_goals go_ret
    ·exact ⟨zAK (F2.out (zR1 (by assumption))).symm,e1⟩
    ·exact ⟨zAK (F1.out (zR2 (by assumption))).symm,e1⟩
   ·have hlt':¬ (k:Int)<(L:Int):=(by omega);go_wp2_with fail;refine (CN _).mono ?_;rintro e w1 ⟨t,rfl,ht,e1⟩;obtain ⟨F1,F2⟩:=FIN.out t ht;have F1:Hid _:=F1;have F2:Hid _:=F2;clear ht CN HC FIN HS;go_wp2_with fail
    all_goals go_ret
    ·exact ⟨zAK (F2.out (zR1 (by assumption))).symm,e1⟩
    ·exact ⟨zAK (F1.out (zR2 (by assumption))).symm,e1⟩
def letZ (z:Int):Bool:=(decide (97<=z) && decide (z<=122)) || (decide (65<=z) && decide (z<=90))
def digZ (z:Int):Bool:=decide (48<=z) && decide (z<=57)
def zG2 (z:Int):Bool:=letZ z || digZ z || decide (z=95) || decide (z=46)
def digC (c:UInt8):Bool:=digZ (c.toNat:Int)
def zC7 (c:UInt8):Bool:=zG2 (c.toNat:Int)
theorem ltrI (z:Int) (w:World):Calls Tryz.prog 156 #[.int .u8 z] w fun e w'=>e=.returned (.bool (letZ z))/\w'=w:=by
 by_cases h1:97<=z <;> by_cases h2:z<=122 <;> by_cases h3:65<=z <;> by_cases h4:z<=90
 all_goals
  go_enter Tryz.func156,Tryz.ntmps156;go_wp2_with fail;go_ret;exact ⟨zA1 (by simp [letZ,h1,h2,h3,h4] <;> omega),rfl⟩
theorem ltrS (z:Int) (w:World):Calls Tryz.prog 144 #[.int .u8 z] w fun e w'=>e=.returned (.bool (letZ z))/\w'=w:=by
 by_cases h1:97<=z <;> by_cases h2:z<=122 <;> by_cases h3:65<=z <;> by_cases h4:z<=90
 all_goals
  go_enter Tryz.func144,Tryz.ntmps144;go_wp2_with fail;go_ret;exact ⟨zA1 (by simp [letZ,h1,h2,h3,h4] <;> omega),rfl⟩
theorem dgtI (z:Int) (w:World):Calls Tryz.prog 181 #[.int .u8 z] w fun e w'=>e=.returned (.bool (digZ z))/\w'=w:=by
 by_cases h1:48<=z <;> by_cases h2:z<=57
 all_goals
  go_enter Tryz.func181,Tryz.ntmps181;go_wp2_with fail;go_ret;exact ⟨zA1 (by simp [digZ,h1,h2] <;> omega),rfl⟩
theorem dgtS (z:Int) (w:World):Calls Tryz.prog 148 #[.int .u8 z] w fun e w'=>e=.returned (.bool (digZ z))/\w'=w:=by
 by_cases h1:48<=z <;> by_cases h2:z<=57
 all_goals
  go_enter Tryz.func148,Tryz.ntmps148;go_wp2_with fail;go_ret;exact ⟨zA1 (by simp [digZ,h1,h2] <;> omega),rfl⟩
theorem zVQ (z:Int) (w:World):Calls Tryz.prog 169 #[.int .u8 z] w fun e w'=>e=.returned (.bool (zG2 z))/\w'=w:=by
 have L:=ltrI z w;have D:=dgtI z w;obtain ⟨p,hp⟩:=nm (letZ z);obtain ⟨q,hq⟩:=nm (digZ z);obtain ⟨a,ha⟩:=nm ((z == 95));obtain ⟨b,hb⟩:=nm ((z == 46));have e:zG2 z=(p || q || a || b):=by unfold zG2;rw [hp,hq,<- ha,<- hb];rfl
 rw [hp] at L;rw [hq] at D;rw [e];clear e hp hq;cases p <;> cases q <;> cases a <;> cases b
 all_goals
  go_enter Tryz.func169,Tryz.ntmps169;go_wp2_with fail;refine L.mono ?_;rintro e w1 ⟨rfl,rfl⟩;go_wp2_with (go_at_call 181;refine D.mono ?_;rintro e w2 ⟨rfl,rfl⟩);go_ret;exact ⟨rfl,rfl⟩
theorem zVP (z:Int) (w:World):Calls Tryz.prog 145 #[.int .u8 z] w fun e w'=>e=.returned (.bool (zG2 z))/\w'=w:=by
 have L:=ltrS z w;have D:=dgtS z w;obtain ⟨p,hp⟩:=nm (letZ z);obtain ⟨q,hq⟩:=nm (digZ z);obtain ⟨a,ha⟩:=nm ((z == 95));obtain ⟨b,hb⟩:=nm ((z == 46));have e:zG2 z=(p || q || a || b):=by unfold zG2;rw [hp,hq,<- ha,<- hb];rfl
 rw [hp] at L;rw [hq] at D;rw [e];clear e hp hq;cases p <;> cases q <;> cases a <;> cases b
 all_goals
  go_enter Tryz.func145,Tryz.ntmps145;go_wp2_with fail;refine L.mono ?_;rintro e w1 ⟨rfl,rfl⟩;go_wp2_with (go_at_call 148;refine D.mono ?_;rintro e w2 ⟨rfl,rfl⟩);go_ret;exact ⟨rfl,rfl⟩
theorem zOR (l:List UInt8) (k:Nat) (w:World):Calls Tryz.prog 155 #[sV l,iQ k] w fun e w'=>e=.returned (.int .u8 ((l.getD k 0).toNat:Int))/\w'=w:=by
 obtain ⟨s,hs⟩:∃ s:ByteArray,(⟨l.toArray⟩:ByteArray)=s:=⟨_,rfl⟩;have hl:s.data.toList=l:=by rw [<- hs]
 have hsz:=zBJ hl;show Calls Tryz.prog 155 #[.string ⟨l.toArray⟩,iQ k] w _;rw [hs];clear hs;by_cases h:k<l.length
 ·have hk:k<s.size:=by omega
  have hb:=zB8 hl hk;have h1:(k:Int)<(s.size:Int):=by omega
  rw [<- hb];clear hb hl;go_enter Tryz.func155,Tryz.ntmps155;go_wp2_with fail;go_ret;exact ⟨rfl,rfl⟩
 ·have e:l.getD k 0=0:=by rw [List.getD_eq_getElem?_getD,List.getElem?_eq_none (by omega)];rfl
  have h1:(s.size:Int)<=(k:Int):=by omega
  rw [e];clear e hl;go_enter Tryz.func155,Tryz.ntmps155;go_wp2_with fail;go_ret;exact ⟨rfl,rfl⟩
theorem zCX (P:UInt8->Bool) (l:List UInt8) (k:Nat) (h:(l.take k).all P=true) (hk:k<=l.length) (hs:k=l.length\/P (l.getD k 0)=false):(l.takeWhile P).length=k:=by
 induction l generalizing k with
 | nil=>simp at hk;simp [hk]
 | cons c l ih =>
  cases k with
  | zero =>
   rcases hs with hs | hs
   ·simp at hs
   ·have:P c=false:=(by simpa using hs);simp [this]
  | succ k =>
   simp only [List.take_succ_cons,List.all_cons,Bool.and_eq_true] at h;rw [List.takeWhile_cons_of_pos h.1];simp only [List.length_cons] at hk hs ⊢;rw [ih k h.2 (by omega) (by rcases hs with hs | hs;exact .inl (by omega);exact .inr (by simpa using hs))]
theorem zP7 (l:List UInt8) (w:World) (hl:l.length<=2000000):Calls Tryz.prog 157 #[sV l] w fun e w'=>e=.returned (iQ ((l.takeWhile zC7).length:Int))/\w'=w:=by
 have B:=fun k w=>zOR l k w;have Wd:=fun z w=>zVQ z w;obtain ⟨n,hn⟩:=nm (l.length);have HN:Hid _:=hn;rw [hn] at hl;clear hn;go_enter Tryz.func157,Tryz.ntmps157;go_wp2_with fail
 go_loop [3] (fun i=>∃ k:Nat,k<=n/\i=.int .i64 k/\Hid ((l.take k).all zC7=true)) (fun i=>n+1 - (intOf i).toNat)
 case atStart=>exact ⟨0,by omega,rfl,by show _=_;simp⟩
 case round =>
  obtain ⟨k,hk,rfl,HA⟩:=hrel;have Bk:=fun w=>B k w;have HC:Hid (∀ p,zG2 ((l.getD k 0).toNat:Int)=p->zC7 (l.getD k 0)=p):=fun p h=>h;have HE:Hid (n<=k->zG2 ((l.getD k 0).toNat:Int)=false):=fun h=>by
   rw [List.getD_eq_getElem?_getD,List.getElem?_eq_none (by rw [HN.out];exact h)];decide
  obtain ⟨z,hz⟩:∃ z:Int,((l.getD k 0).toNat:Int)=z:=⟨_,rfl⟩;rw [hz] at Bk HC HE;have Wz:=fun w=>Wd z w;obtain ⟨p,hp⟩:=nm (zG2 z);rw [hp] at Wz HE;have hcp:=HC.out p hp;have HCP:Hid _:=hcp;clear hz hp HC hcp B Wd;go_wp2_with fail;refine (Bk _).mono ?_;rintro e w1 ⟨rfl,rfl⟩;go_wp2_with fail;refine (Wz _).mono ?_;rintro e w2 ⟨rfl,rfl⟩;cases p
  ·have hr:=zCX zC7 l k HA.out (by rw [HN.out];exact hk) (.inr HCP.out);have HR:Hid _:=hr;clear hr HA;go_wp2_with fail;go_ret;exact ⟨zAK (by rw [HR.out]),rfl⟩
  ·have hlt:k<n:=by
    rcases Nat.lt_or_ge k n with h | h
    ·exact h
    ·have:=HE.out h;cases this
   have HA2:Hid ((l.take (k+1)).all zC7=true):=by
    show _=_;rw [zDJ (by rw [HN.out];exact hlt),List.all_append,HA.out,List.all_cons,HCP.out];rfl
   clear HA HCP;go_wp2_with fail
   go_round
   case rel=>exact ⟨k+1,by omega,by go_num,HA2⟩
   case measure=>simp [intOf];omega
def zBY (w0:World):Prop:=∀ (n:Int) (w:World),-1000000000000000<n->n<1000000000000000->Ext w0 w->Calls Tryz.prog 160 #[iQ n] w fun e w'=>∃ s,e=.returned (.string s)/\s.data.toList=Lib.itoa n/\Ext w w'
theorem fItoa:layItoa_ren.f 171=160:=by kernel_rfl
theorem zOA:Tryz.prog.globalNamed "internal/strconv.uint64pow10" = some 5:=by kernel_rfl
theorem zQ6 (w:World) (k:Nat) (os:Array Obj):Ext w (Sort.grow (w.drewN k) os):=
 ⟨rfl,rfl,rfl,by simp [Sort.grow,World.drewN],fun i hi=>by simp [Sort.grow,World.drewN,Array.getElem?_append_left hi]⟩
theorem zW7 {w0:World} (h0:Lib.TabIs Tryz.prog w0 "internal/strconv.uint64pow10" .u64 Lib.pow10Tab):zBY w0:=by
 intro n w b0 b1 X;have hlt:5<w0.heap.size:=by
  have h:=h0;unfold Lib.TabIs World.var? at h;simp only [zOA,Option.bind_some] at h;by_cases hk:5<w0.heap.size
  ·exact hk
  ·rw [Array.getElem?_eq_none (by omega)] at h;cases h
 have h:=Any.strconv_Itoa layItoa n (by omega) (by omega) w (var?_below X zOA hlt h0);rw [fItoa] at h;refine h.mono fun e w' ⟨he,k,os,hw⟩=>⟨_,he,rfl,?_⟩;subst hw;exact zQ6 w k os
theorem zKD {s:ByteArray} {l:List UInt8} (h:s.data.toList=l):s.size=l.length:=by
 rw [<- h,Array.length_toList];rfl
def dig (a:Nat):UInt8:=UInt8.ofNat (48+a)
theorem dec1 {u:Nat} (h:u<10):Lib.decDigits u=[dig u]:=by rw [Lib.decDigits,dif_pos h];rfl
theorem zEA {u:Nat} (h:¬ u<10):Lib.decDigits u=Lib.decDigits (u / 10)++[dig (u % 10)]:=by rw [Lib.decDigits,dif_neg h];rfl
def zIP (c:UInt8):Bool:=decide (48<=c.toNat/\c.toNat<=57)
def numF (acc:Int):List UInt8->Int
 | []=>acc
 | c :: r=>if zIP c then numF (acc * 10+((c.toNat:Int) - 48)) r else -1
def numL (l:List UInt8):Int:=if 1<=l.length/\l.length<=6 then numF 0 l else -1
theorem zPU (acc:Int) (c:UInt8) (r:List UInt8) (h:zIP c=false):numF acc (c :: r) = -1:=by rw [numF,h];rfl
theorem zN3 (acc:Int) (c:UInt8) (r:List UInt8) (h:zIP c=true):numF acc (c :: r)=numF (acc * 10+((c.toNat:Int) - 48)) r:=by rw [numF,h];rfl
theorem zTJ {l:List UInt8} {i:Nat} (h:i<l.length):l.drop i=l.getD i 0 :: l.drop (i+1):=by
 rw [List.drop_eq_getElem_cons h];simp [h]
theorem zTR {s:ByteArray} {l:List UInt8} (h:s.data.toList=l) {p:Nat} (hp:p<s.size):(s[p]'hp)=l.getD p 0:=by
 subst h;simp only [ByteArray.getElem_eq_getElem_data];have hp':p<s.data.size:=hp;simp only [List.getD,Array.getElem?_toList];rw [Array.getElem?_eq_getElem hp'];rfl
theorem zVB (n:Int) (w:World) :
  Calls Tryz.prog 148 #[.int .u8 n] w fun e w'=>e=.returned (.bool (decide (48<=n/\n<=57)))/\w'=w:=by
 go_enter Tryz.func148,Tryz.ntmps148
 go_wp2
 all_goals go_ret
 all_goals refine ⟨zA1 ?_,rfl⟩
 all_goals simp_all
 all_goals (intros;omega)
theorem numS (s:ByteArray) (l:List UInt8) (w:World) (hs:s.data.toList=l) :
  Calls Tryz.prog 124 #[.string s] w fun e w'=>e=.returned (iQ (numL l))/\w'=w:=by
 have hsz:=zKD hs;by_cases hl:1<=l.length/\l.length<=6
 ·have HR:Hid (numL l=numF 0 l):=by show _=_;unfold numL;rw [if_pos hl]
  obtain ⟨L,hL⟩:=nm (l.length);have HL:Hid _:=hL;rw [hL] at hsz hl;rw [HR.out];have f1:decide ((L:Int)<1)=false:=by simp;omega
  have f2:decide ((L:Int) > 6)=false:=by simp;omega
  have HS:Hid _:=hs;clear hL hs HR;go_enter Tryz.func124,Tryz.ntmps124;go_wp2_with fail
  go_loop [3,4] (fun a i=>∃ (k:Nat) (acc:Int),k<=L/\i=.int .i64 k/\a=.int .i64 acc/\0<=acc/\Hid (acc<10 ^ k)/\Hid (numF acc (l.drop k)=numF 0 l)) (fun _ i=>L - (intOf i).toNat)
  case atStart=>exact ⟨0,0,by omega,rfl,rfl,by omega,by simp [Hid],by simp [Hid]⟩
  case round =>
   obtain ⟨k,acc,hk,rfl,rfl,a0,HA,HN⟩:=hrel;by_cases hlt:k<L
   ·have hlt':(k:Int)<(L:Int):=(by omega);have hdr:=zTJ (l:=l) (i:=k) (by rw [HL.out];exact hlt);have hks:k<s.size:=(by omega);have hb0:=zTR HS.out hks;obtain ⟨c,hcc⟩:=nm (l.getD k 0);rw [hcc] at hdr hb0;have hb:((s[k]'hks).toNat:Int)=(c.toNat:Int):=(by rw [hb0]);have c255:=c.toNat_lt;have HN1:=HN.out;rw [hdr] at HN1;have ka:acc<1000000:=by
     have h1:=HA.out;have h2:(10:Int) ^ k<=10 ^ 5:=by
      have:=Nat.pow_le_pow_right (n:=10) (by decide) (show k<=5 by omega);exact_mod_cast this
     have h3:(10:Int) ^ 5=100000:=(by decide);omega
    obtain ⟨N,hN⟩:∃ N:Int,(c.toNat:Int)=N:=⟨_,rfl⟩;rw [hN] at hb;have n255:0<=N/\N<=255:=(by omega);have DG:=fun w=>zVB N w;by_cases hd:48<=N/\N<=57
    ·have HN2:Hid (numF (acc * 10+(N - 48)) (l.drop (k+1))=numF 0 l):=by
      rw [zN3 _ _ _ (by simp [zIP];omega),hN] at HN1;exact HN1
     have HA2:Hid (acc * 10+(N - 48)<10 ^ (k+1)):=by
      have h1:=HA.out;show _<_;rw [Int.pow_succ];omega
     simp only [hd,and_self,decide_true] at DG;have hw8:IntKind.u8.wrap (N - 48)=N - 48:=(by rw [IntKind.wrap_u8];omega);clear HN1 hdr hb0 HN HA hN c255 hcc f1 f2;go_wp2_with (go_at_call 148;refine (DG _).mono ?_;rintro e w' ⟨rfl,rfl⟩)
     go_round
     case rel=>exact ⟨k+1,acc * 10+(N - 48),by omega,by go_num,by go_num,by omega,HA2,HN2⟩
     case measure=>simp [intOf];omega
    ·have HN2:Hid (numF 0 l = -1):=by
      rw [zPU _ _ _ (by simp [zIP];omega)] at HN1;exact HN1.symm
     simp only [hd,decide_false] at DG;clear HN1 hdr hb0 HN HA hN c255 hcc f1 f2;go_wp2_with (go_at_call 148;refine (DG _).mono ?_;rintro e w' ⟨rfl,rfl⟩);go_ret;exact ⟨zAK HN2.out.symm,rfl⟩
   ·obtain rfl:k=L:=(by omega);have HN2:Hid (acc=numF 0 l):=by
     have h:=HN.out;rw [List.drop_of_length_le (by rw [HL.out];omega),numF] at h;exact h
    clear HN HA f1 f2;go_wp2_with fail;go_ret;exact ⟨zAK HN2.out,rfl⟩
 ·have HR:Hid (numL l = -1):=by show _=_;unfold numL;rw [if_neg hl]
  obtain ⟨L,hL⟩:=nm (l.length);rw [hL] at hsz hl;rw [HR.out];clear hL hs HR;by_cases h1:L<1
  ·have f1:decide ((L:Int)<1)=true:=by simp;omega
   go_enter Tryz.func124,Tryz.ntmps124;go_wp2_with fail;go_ret;exact ⟨rfl,rfl⟩
  ·have f1:decide ((L:Int)<1)=false:=by simp;omega
   have f2:decide ((L:Int) > 6)=true:=by simp;omega
   go_enter Tryz.func124,Tryz.ntmps124;go_wp2_with fail;go_ret;exact ⟨rfl,rfl⟩
def zDH (r c:Int):Prop:=(1<=r/\r<=1000)/\(1<=c/\c<=200)
instance (r c:Int):Decidable (zDH r c):=by unfold zDH;infer_instance
def dN (u:Nat):List UInt8:=
 if u<10 then [dig u] else if u<100 then [dig (u / 10),dig (u % 10)] else if u<1000 then [dig (u / 100),dig (u / 10 % 10),dig (u % 10)] else [dig (u / 1000),dig (u / 100 % 10),dig (u / 10 % 10),dig (u % 10)]
theorem zOJ {u:Nat} (h:u<10000):Lib.decDigits u=dN u:=by
 unfold dN;by_cases h1:u<10
 ·rw [if_pos h1,dec1 h1]
 ·rw [if_neg h1];by_cases h2:u<100
  ·rw [if_pos h2,zEA h1,dec1 (by omega)];rfl
  ·rw [if_neg h2];by_cases h3:u<1000
   ·rw [if_pos h3,zEA h1,zEA (by omega),dec1 (by omega),show u / 10 / 10=u / 100 by omega];rfl
   ·rw [if_neg h3,zEA h1,zEA (by omega),zEA (by omega),dec1 (by omega),show u / 10 / 10 / 10=u / 1000 by omega,show u / 10 / 10 % 10=u / 100 % 10 by omega];rfl
def zC0 (l:List UInt8):Int:=match Lib.atoiAll l with
 | .ok v=>v
 | _=>0
theorem zE7:∀ u:Nat,u<1001->zC0 (dN u)=u/\zC0 (45 :: dN u) = -(u:Int)/\numL (dN u)=u/\(dN u).all zIP=true/\1<=(dN u).length/\(dN u).length<=4:=by decide +kernel
def intT (n:Int):List UInt8:=if n<0 then 45 :: dN n.natAbs else dN n.toNat
theorem zNY {n:Int} (h1 : -10000<n) (h2:n<10000):Lib.itoa n=intT n:=by
 unfold Lib.itoa intT
 split
 ·rw [zOJ (by omega)]
 ·rw [zOJ (by omega)]
theorem zHN {n:Int} (h1:0<=n):intT n=dN n.toNat:=by rw [intT,if_neg (by omega)]
theorem zLB {n:Int} (h1 : -1000<=n) (h2:n<=1000):zC0 (intT n)=n:=by
 unfold intT
 split
 ·rw [(zE7 n.natAbs (by omega)).2.1];omega
 ·rw [(zE7 n.toNat (by omega)).1];omega
def fixT (b:Bool):List UInt8:=if b then [36] else []
def refL (r c:Int) (rf cf:Bool):List UInt8:=fixT cf++zAM c++fixT rf++intT r
def refT (r c:Int) (rf cf:Bool):List UInt8:=if zDH r c then refL r c rf cf else []
theorem zL5 {l:List UInt8} {p:UInt8->Bool} (h:l.all p=true):∀ r:List UInt8,(∀ b,r.head?=some b->p b=false)->(l++r).dropWhile p=r/\(l++r).takeWhile p=l:=by
 induction l with
 | nil =>
  intro r hr;cases r with
  | nil=>exact ⟨rfl,rfl⟩
  | cons b r=>simp [hr b rfl]
 | cons a l ih =>
  intro r hr;simp only [List.all_cons,Bool.and_eq_true] at h;obtain ⟨h1,h2⟩:=ih h.2 r hr;simp [h.1,h1,h2]
theorem zSP:∀ u:Nat,u<1001->∀ b,(dN u).head?=some b->zAI b=false/\b ≠ 36/\b ≠ 91/\zIP b=true:=by
 intro u hu b hb;have h:=(zE7 u hu).2.2.2.1;have:b ∈ dN u:=List.mem_of_mem_head? hb;have hd:=List.all_eq_true.1 h b this;have hd':=hd;simp only [zIP,decide_eq_true_eq] at hd';refine ⟨by simp [zAI];omega,fun e=>?_,fun e=>?_,hd⟩ <;> subst e <;> simp at hd'
theorem zJE (l:List UInt8):Lib.trimLeftS l letters=l.dropWhile zAI:=by
 unfold Lib.trimLeftS
 congr 1
 funext c
 exact zGM c
theorem zKL {b:Bool} {l:List UInt8} (h:∀ x,l.head?=some x->x ≠ 36):Lib.hasPrefix (fixT b++l) [36]=b/\Lib.trimPrefix (fixT b++l) [36]=l:=by
 cases b with
 | true =>
  have e:Lib.hasPrefix (36 :: l) [36]=true:=by simp [Lib.hasPrefix]
  exact ⟨e,by show Lib.trimPrefix (36 :: l) [36]=l;unfold Lib.trimPrefix;rw [e];rfl⟩
 | false =>
  have e:Lib.hasPrefix l [36]=false:=by
   cases l with
   | nil=>rfl
   | cons a r =>
    have ha:¬ (36:UInt8)=a:=fun e=>h a rfl e.symm;show ((36 == a) && _)=false;rw [beq_eq_false_iff_ne.2 ha];rfl
  exact ⟨e,by show Lib.trimPrefix l [36]=l;unfold Lib.trimPrefix;rw [e];rfl⟩
theorem zQ5 {c:Int} (h1:1<=c) (h2:c<=200) (l:List UInt8):∀ x,(zAM c++l).head?=some x->x ≠ 36:=by
 obtain ⟨_,b,_,d⟩:=zF5 c.toNat (by omega) (by omega);rw [zAM,if_pos ⟨h1,h2⟩];intro x hx;cases hc:colN c.toNat with
 | nil=>rw [hc] at d;simp at d
 | cons a r =>
  rw [hc] at hx b;simp at hx;subst hx;simp only [List.all_cons,Bool.and_eq_true,zAI,decide_eq_true_eq] at b;rintro rfl;simp at b
theorem zIC {r c:Int} {rf cf:Bool} (h:zDH r c):∃ rest num0,Lib.trimPrefix (refL r c rf cf) [36]=rest/\Lib.hasPrefix (refL r c rf cf) [36]=cf/\rest.dropWhile zAI=num0/\rest.takeWhile zAI=zAM c/\rest.length - num0.length=(zAM c).length/\rest=zAM c++num0 /\
  Lib.hasPrefix num0 [36]=rf/\Lib.trimPrefix num0 [36]=intT r:=by
 obtain ⟨⟨r1,r2⟩,c1,c2⟩:=h;have e:refL r c rf cf=fixT cf++(zAM c++(fixT rf++intT r)):=by simp [refL]
 obtain ⟨p1,p2⟩:=zKL (b:=cf) (l:=zAM c++(fixT rf++intT r)) (zQ5 c1 c2 _);have hd:=zSP r.toNat (by omega);have ei:=zHN (n:=r) (by omega);have al:(zAM c).all zAI=true:=by rw [zAM,if_pos ⟨c1,c2⟩];exact (zF5 c.toNat (by omega) (by omega)).2.1
 have nh:∀ b,(fixT rf++intT r).head?=some b->zAI b=false:=by
  intro b hb;cases rf with
  | true=>simp [fixT] at hb;subst hb;decide
  | false=>rw [ei] at hb;exact (hd b hb).1
 obtain ⟨q1,q2⟩:=zL5 al (fixT rf++intT r) nh;obtain ⟨s1,s2⟩:=zKL (b:=rf) (l:=intT r) (fun x hx=>(hd x (by rw [ei] at hx;exact hx)).2.1);refine ⟨zAM c++(fixT rf++intT r),fixT rf++intT r,by rw [e];exact p2,by rw [e];exact p1,q1,q2,by simp,rfl,s1,s2⟩
def zE5 (t:List UInt8) (ok:Bool) (r c:Int) (rf cf:Bool):Prop:=
 (ok=true/\zDH r c/\refL r c rf cf=t)\/(ok=false/\(r=0/\c=0/\rf=false/\cf=false)/\∀ r' c' rf' cf',zDH r' c'->refL r' c' rf' cf' ≠ t)
theorem zE5.of_parse {t:List UInt8} {r c:Int} {rf cf:Bool} (hp:∀ r' c' rf' cf',zDH r' c'->refL r' c' rf' cf'=t->r=r'/\c=c'/\rf=rf'/\cf=cf') (hn:¬ (zDH r c/\refL r c rf cf=t)):zE5 t false 0 0 false false:=
 .inr ⟨rfl,⟨rfl,rfl,rfl,rfl⟩,fun r' c' rf' cf' g e=>by
  obtain ⟨rfl,rfl,rfl,rfl⟩:=hp r' c' rf' cf' g e;exact hn ⟨g,e⟩⟩
end Go.Proofs.YteliaeejooekbaaGreatDoor
namespace Go.Proofs.YteliaeejooekbaaGreatDoor
def lv:List Int->Int
 | []=>0
 | x :: xs=>x+1000000000 * lv xs
def Lim (xs:List Int):Prop:=∀ x ∈ xs,0<=x/\x<1000000000
theorem Lim.nil:Lim []:=fun _ h=>by cases h
theorem Lim.cons {x:Int} {xs:List Int} (h0:0<=x) (h1:x<1000000000) (h:Lim xs):Lim (x :: xs):=fun y hy=>by
 rcases List.mem_cons.1 hy with rfl | hy
 ·exact ⟨h0,h1⟩
 ·exact h y hy
theorem Lim.head {x:Int} {xs:List Int} (h:Lim (x :: xs)):0<=x/\x<1000000000:=h x (by simp)
theorem Lim.tail {x:Int} {xs:List Int} (h:Lim (x :: xs)):Lim xs:=fun y hy=>h y (by simp [hy])
theorem Lim.take {xs:List Int} (h:Lim xs) (n:Nat):Lim (xs.take n):=fun y hy=>h y (List.mem_of_mem_take hy)
theorem Lim.drop {xs:List Int} (h:Lim xs) (n:Nat):Lim (xs.drop n):=fun y hy=>h y (List.mem_of_mem_drop hy)
theorem Lim.getD {xs:List Int} (h:Lim xs) (i:Nat):0<=xs.getD i 0/\xs.getD i 0<1000000000:=by
 by_cases hi:i<xs.length
 ·rw [List.getD_eq_getElem?_getD,List.getElem?_eq_getElem hi];exact h _ (List.getElem_mem hi)
 ·rw [List.getD_eq_getElem?_getD,List.getElem?_eq_none (by omega)];simp
theorem zCT:∀ {xs:List Int},Lim xs->0<=lv xs
 | [],_=>by simp [lv]
 | x :: xs,h=>by
  have:=zCT h.tail;have:=h.head;simp only [lv];omega
theorem zKR:∀ (xs ys:List Int),lv (xs++ys)=lv xs+1000000000 ^ xs.length * lv ys
 | [],ys=>by simp [lv]
 | x :: xs,ys=>by
  simp only [List.cons_append,lv,zKR xs ys,List.length_cons,Int.pow_succ];rw [Int.mul_add,Int.mul_comm (1000000000 ^ xs.length) 1000000000,<- Int.mul_assoc];omega
theorem zIN:∀ {xs:List Int},Lim xs->lv xs<1000000000 ^ xs.length
 | [],_=>by simp [lv]
 | x :: xs,h=>by
  have:=zIN h.tail;have:=h.head;simp only [lv,List.length_cons,Int.pow_succ];omega
theorem zDX (n:Nat):(0:Int)<1000000000 ^ n:=Int.pow_pos (by decide)
theorem zLS {xs:List Int} (h:Lim xs) (hn:0<xs.length) (ht:xs.getD (xs.length - 1) 0 ≠ 0):1000000000 ^ (xs.length - 1)<=lv xs:=by
 obtain ⟨ys,y,rfl⟩:∃ ys y,xs=ys++[y]:=⟨xs.dropLast,xs.getLast (by intro e;simp [e] at hn),(List.dropLast_concat_getLast _).symm⟩;have h1:(ys++[y]).getD ((ys++[y]).length - 1) 0=y:=by simp
 rw [h1] at ht;have hy:=h y (by simp);have h0:=zCT (fun z hz=>h z (by simp [hz]):Lim ys);rw [zKR];simp only [List.length_append,List.length_singleton,Nat.add_sub_cancel,lv];have hp:=zDX ys.length;have:(1000000000:Int) ^ ys.length * 1<=1000000000 ^ ys.length * (y+1000000000 * 0):=Int.mul_le_mul_of_nonneg_left (by omega) (by omega);omega
theorem zE0 {xs:List Int} {k:Nat} (h:Lim xs) (ht:xs.length=0\/xs.getD (xs.length - 1) 0 ≠ 0) (hk:lv xs<1000000000 ^ k):xs.length<=k:=by
 rcases ht with ht | ht
 ·omega
 ·by_cases hn:xs.length<=k
  ·exact hn
  ·have h1:=zLS h (by omega) ht;have h2:(1000000000:Int) ^ k<=1000000000 ^ (xs.length - 1):=by
    have:=Nat.pow_le_pow_right (n:=1000000000) (by decide) (show k<=xs.length - 1 by omega);have h3:((1000000000 ^ k:Nat):Int)<=((1000000000 ^ (xs.length - 1):Nat):Int):=(by exact_mod_cast this);simpa using h3
   omega
theorem zCZ (xs:List Int) (i:Nat) (h:i<xs.length):lv (xs.take (i+1))=lv (xs.take i)+1000000000 ^ i * xs.getD i 0:=by
 rw [List.take_succ_eq_append_getElem h,zKR];simp [lv,List.length_take,Nat.min_eq_left (Nat.le_of_lt h),h]
theorem zGE:∀ (xs:List Int) (i:Nat) (v:Int),i<xs.length->lv (xs.set i v)=lv xs+1000000000 ^ i * (v - xs.getD i 0)
 | [],_,_,h=>by simp at h
 | x :: xs,0,v,_=>by simp [lv];omega
 | x :: xs,i+1,v,h=>by
  have:=zGE xs i v (by simpa using h);simp only [List.set_cons_succ,lv,this,List.getD_cons_succ,Int.pow_succ];rw [Int.mul_add,Int.mul_comm (1000000000 ^ i) 1000000000,Int.mul_assoc];omega
theorem zBT {xs:List Int} {i j:Nat} {v:Int} (h:i<xs.length):(xs.set i v).getD j 0=if j=i then v else xs.getD j 0:=by
 simp only [List.getD_eq_getElem?_getD,List.getElem?_set];by_cases e:i=j
 ·subst e;simp [h]
 ·rw [if_neg e,if_neg (fun h=>e h.symm)]
theorem Lim.set {xs:List Int} (h:Lim xs) (i:Nat) {v:Int} (h0:0<=v) (h1:v<1000000000):Lim (xs.set i v):=fun y hy=>by
 rcases List.mem_or_eq_of_mem_set hy with hy | rfl
 ·exact h y hy
 ·exact ⟨h0,h1⟩
theorem zB3 (n:Nat):lv (List.replicate n 0)=0:=by
 induction n with
 | zero=>rfl
 | succ n ih=>simp [List.replicate_succ,lv,ih]
theorem Lim.zeros (n:Nat):Lim (List.replicate n 0):=fun y hy=>by
 rw [List.eq_of_mem_replicate hy];decide
theorem zBB (n i:Nat):(List.replicate n (0:Int)).getD i 0=0:=by
 simp only [List.getD_eq_getElem?_getD,List.getElem?_replicate]
 split <;> rfl
end Go.Proofs.YteliaeejooekbaaGreatDoor
