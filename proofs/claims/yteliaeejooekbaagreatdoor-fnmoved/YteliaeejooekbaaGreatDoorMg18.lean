import Derived.Test.YteliaeejooekbaaGreatDoorFo
import Derived.Test.YteliaeejooekbaaGreatDoorMg10
import Derived.Test.YteliaeejooekbaaGreatDoorMg1
import Derived.Test.YteliaeejooekbaaGreatDoorMg11
set_option maxRecDepth 8000
set_option maxHeartbeats 4000000
namespace Go.Proofs.YteliaeejooekbaaGreatDoor
open Go.RowKit
def zAB (neg:Bool) (d x:Int):Bool:=!neg && decide (d=0) && decide (x=0)
def zA4 (r c:Int) (rf cf:Bool):Bool:=decide (r=0) && decide (c=0) && !rf && !cf
theorem zG0 {neg:Bool} {d x:Int} (h:zAB neg d x=false):neg=true\/(neg=false/\(d ≠ 0\/(d=0/\x ≠ 0))):=by
 cases neg
 ·right;refine ⟨rfl,?_⟩;by_cases hd:d=0
  ·right;refine ⟨hd,fun hx=>?_⟩;simp [zAB,hd,hx] at h
  ·exact Or.inl hd
 ·exact Or.inl rfl
theorem zDU {r c:Int} {rf cf:Bool} (h:zA4 r c rf cf=false):r ≠ 0\/(r=0/\(c ≠ 0\/(c=0/\(rf=true\/(rf=false/\cf=true))))):=by
 by_cases hr:r=0
 ·right;refine ⟨hr,?_⟩;by_cases hc:c=0
  ·right;refine ⟨hc,?_⟩;cases rf
   ·right;refine ⟨rfl,?_⟩;cases cf
    ·simp [zA4,hr,hc] at h
    ·rfl
   ·exact Or.inl rfl
  ·exact Or.inl hc
 ·exact Or.inl hr
theorem zAY (k:Int) (t:List UInt8) (neg:Bool) (d x r c:Int) (rf cf:Bool) (r2 c2:Int) (rf2 cf2:Bool) (m:Int) (w:World) :
  Calls Tryz.prog 119 #[ndV k t neg d x r c rf cf r2 c2 rf2 cf2 m] w fun e w'=>e=.returned (.bool (zAB neg d x && zA4 r c rf cf && zA4 r2 c2 rf2 cf2))/\Ext w w':=by
 have X:=x1 w (.cells #[iQ k,sV t,.bool neg,iQ d,iQ x,iQ r,iQ c,.bool rf,.bool cf,iQ r2,iQ c2,.bool rf2,.bool cf2,iQ m] 73);obtain ⟨Q,hQ⟩:=nm ((zAB neg d x && zA4 r c rf cf && zA4 r2 c2 rf2 cf2));have HQ:Hid _:=hQ;rw [hQ];clear hQ;cases hd:zAB neg d x
 ·have HB:Hid (false=Q):=by show _=_;rw [<- HQ.out,hd];rfl
  rcases zG0 hd with rfl | ⟨rfl,h | ⟨rfl,h⟩⟩
  all_goals
   clear hd;go_enter Tryz.func119,Tryz.ntmps119;go_wp2_with fail;go_ret;exact ⟨zA1 HB.out,X⟩
 obtain ⟨rfl,rfl,rfl⟩:neg=false/\d=0/\x=0:=by simpa [zAB,and_assoc] using hd
 cases h1:zA4 r c rf cf
 ·have HB:Hid (false=Q):=by show _=_;rw [<- HQ.out,hd,h1];rfl
  rcases zDU h1 with h | ⟨rfl,h | ⟨rfl,rfl | ⟨rfl,rfl⟩⟩⟩
  all_goals
   clear hd h1;go_enter Tryz.func119,Tryz.ntmps119;go_wp2_with fail;go_ret;exact ⟨zA1 HB.out,X⟩
 obtain ⟨rfl,rfl,rfl,rfl⟩:r=0/\c=0/\rf=false/\cf=false:=by simpa [zA4,and_assoc] using h1
 cases h2:zA4 r2 c2 rf2 cf2
 ·have HB:Hid (false=Q):=by show _=_;rw [<- HQ.out,hd,h1,h2];rfl
  rcases zDU h2 with h | ⟨rfl,h | ⟨rfl,rfl | ⟨rfl,rfl⟩⟩⟩
  all_goals
   clear hd h1 h2;go_enter Tryz.func119,Tryz.ntmps119;go_wp2_with fail;go_ret;exact ⟨zA1 HB.out,X⟩
 obtain ⟨rfl,rfl,rfl,rfl⟩:r2=0/\c2=0/\rf2=false/\cf2=false:=by simpa [zA4,and_assoc] using h2
 have HB:Hid (true=Q):=by show _=_;rw [<- HQ.out];rfl
 clear hd h1 h2;go_enter Tryz.func119,Tryz.ntmps119;go_wp2_with fail;go_ret;exact ⟨zA1 HB.out,X⟩
def zD8 (b:UInt8) (l:List UInt8):List UInt8:=if Lib.hasPrefix l [b]=true then (Lib.trimPrefix l [b]).dropWhile digC else l
def zDY (l:List UInt8):Bool:=(Lib.hasPrefix l [82] || Lib.hasPrefix (zD8 82 l) [67]) && (zD8 67 (zD8 82 l) == [])
theorem zRO {b:UInt8} {l:List UInt8} (h:Lib.hasPrefix l [b]=false):Lib.trimPrefix l [b]=l:=by unfold Lib.trimPrefix;rw [h];rfl
theorem zJD (b:UInt8) (l:List UInt8):(Lib.trimPrefix l [b]).length<=l.length:=by
 unfold Lib.trimPrefix
 split
 ·rw [List.length_drop];omega
 ·omega
theorem zJ2 (P:UInt8->Bool) (l:List UInt8):(l.dropWhile P).length<=l.length:=(List.dropWhile_suffix P).sublist.length_le
theorem zPS (b:UInt8) (l:List UInt8):(zD8 b l).length<=l.length:=by
 unfold zD8
 split
 ·exact Nat.le_trans (zJ2 _ _) (zJD b l)
 ·omega
theorem zQC (p:List UInt8):(bs p).toList.isEmpty=(p == []):=by
 have h:(bs p).toList=p:=by rw [ByteArray.toList_eq,zCF]
 rw [h];cases p <;> rfl
theorem zKM (b:UInt8) (l:List UInt8) (q:Bool) (h:Lib.hasPrefix l [b]=q):zD8 b l=if q=true then (Lib.trimPrefix l [b]).dropWhile digC else Lib.trimPrefix l [b]:=by
 unfold zD8;rw [h];cases q
 ·rw [if_neg (by decide),if_neg (by decide),zRO h]
 ·rfl
theorem zUA (l:List UInt8) (w:World) (hl:l.length<=2000000):Calls Tryz.prog 159 #[.string (bs l)] w fun e w'=>e=.returned (.bool (zDY l))/\Ext w w':=by
 have C1:=fun w=>zEB l 82 w;have C2:=fun w=>zEB (zD8 82 l) 67 w;have D1:=fun w=>zUW (Lib.trimPrefix l [82]) w (Nat.le_trans (zJD _ _) hl);have D2:=fun w=>zUW (Lib.trimPrefix (zD8 82 l) [67]) w (Nat.le_trans (zJD _ _) (Nat.le_trans (zPS _ _) hl));unfold zDY;obtain ⟨q1,h1⟩:=nm (Lib.hasPrefix l [82]);obtain ⟨q2,h2⟩:=nm (Lib.hasPrefix (zD8 82 l) [67]);have f1:=zKM 82 l q1 h1;have f2:=zKM 67 (zD8 82 l) q2 h2;rw [h1] at C1 ⊢;rw [h2] at C2 ⊢;clear h1 h2;obtain ⟨t1,ht1⟩:=nm (Lib.trimPrefix l [82]);rw [ht1] at C1 D1 f1;obtain ⟨p1,hp1⟩:=nm (zD8 82 l);rw [hp1] at C2 D2 f1 f2 ⊢;obtain ⟨t2,ht2⟩:=nm (Lib.trimPrefix p1 [67]);rw [ht2] at C2 D2 f2;obtain ⟨p2,hp2⟩:=nm (zD8 67 p1);rw [hp2] at f2 ⊢;clear ht1 hp1 ht2 hp2;have HZ:Hid _:=zQC;cases q1
 ·obtain rfl:p1=t1:=by simpa using f1
  clear f1 D1;cases q2
  ·obtain rfl:p2=t2:=by simpa using f2
   clear f2 D2;go_enter Tryz.func159,Tryz.ntmps159;go_wp2_with fail;refine (C1 _).mono ?_;rintro e w1 ⟨rfl,rfl⟩;go_wp2_with fail;refine (C2 _).mono ?_;rintro e w2 ⟨rfl,rfl⟩;go_wp2_with fail;go_ret;exact ⟨rfl,xr _⟩
  ·obtain rfl:p2=t2.dropWhile digC:=by simpa using f2
   have hz:=HZ.out (t2.dropWhile digC);obtain ⟨z,ez⟩:=nm ((t2.dropWhile digC == []));rw [ez] at hz ⊢;clear f2 ez;go_enter Tryz.func159,Tryz.ntmps159;go_wp2_with fail;refine (C1 _).mono ?_;rintro e w1 ⟨rfl,rfl⟩;go_wp2_with fail;refine (C2 _).mono ?_;rintro e w2 ⟨rfl,rfl⟩;go_wp2_with fail;refine (D2 _).mono ?_;rintro e w3 ⟨rfl,e3⟩;go_wp2_with fail;go_ret;exact ⟨by first | rfl | rw [hz] | (simp [hz]),e3⟩
 ·obtain rfl:p1=t1.dropWhile digC:=by simpa using f1
  clear f1;cases q2
  ·obtain rfl:p2=t2:=by simpa using f2
   have hz:=HZ.out p2;obtain ⟨z,ez⟩:=nm ((p2 == []));rw [ez] at hz ⊢;clear f2 D2 ez;go_enter Tryz.func159,Tryz.ntmps159;go_wp2_with fail;refine (C1 _).mono ?_;rintro e w1 ⟨rfl,rfl⟩;go_wp2_with fail;refine (D1 _).mono ?_;rintro e w3 ⟨rfl,e3⟩;go_wp2_with fail;refine (C2 _).mono ?_;rintro e w2 ⟨rfl,rfl⟩;go_wp2_with fail;go_ret;exact ⟨by first | rfl | rw [hz] | (simp [hz]),e3⟩
  ·obtain rfl:p2=t2.dropWhile digC:=by simpa using f2
   have hz:=HZ.out (t2.dropWhile digC);obtain ⟨z,ez⟩:=nm ((t2.dropWhile digC == []));rw [ez] at hz ⊢;clear f2 ez;go_enter Tryz.func159,Tryz.ntmps159;go_wp2_with fail;refine (C1 _).mono ?_;rintro e w1 ⟨rfl,rfl⟩;go_wp2_with fail;refine (D1 _).mono ?_;rintro e w3 ⟨rfl,e3⟩;go_wp2_with fail;refine (C2 _).mono ?_;rintro e w2 ⟨rfl,rfl⟩;go_wp2_with fail;refine (D2 _).mono ?_;rintro e w4 ⟨rfl,e4⟩;go_wp2_with fail;go_ret;exact ⟨by first | rfl | rw [hz] | (simp [hz]),xt e3 e4⟩
theorem zID (l:List UInt8) (k:Nat) (b:UInt8) (q:Bool) (h:Lib.hasPrefix (l.drop k) [b]=q):(q=true->k<l.length/\l.getD k 0=b)/\(q=false->l.length<=k\/l.getD k 0 ≠ b):=by
 rcases Nat.lt_or_ge k l.length with hk | hk
 ·have e:l.drop k=l.getD k 0 :: l.drop (k+1):=by
   rw [List.getD_eq_getElem?_getD,List.getElem?_eq_getElem hk];exact List.drop_eq_getElem_cons hk
  rw [e] at h;have h':(b == l.getD k 0)=q:=by
   have:=h;simp only [Lib.hasPrefix,List.isPrefixOf,Bool.and_true] at this;exact this
  refine ⟨fun hq=>⟨hk,?_⟩,fun hq=>.inr ?_⟩
  ·rw [hq] at h';exact (beq_iff_eq.1 h').symm
  ·rw [hq] at h';exact fun e=>by rw [e] at h';simp at h'
 ·refine ⟨fun hq=>?_,fun _=>.inl hk⟩;rw [List.drop_eq_nil_of_le hk,hq] at h;cases h
theorem zMZ (l:List UInt8) (k:Nat) (b:UInt8) (hp:Lib.hasPrefix (l.drop k) [b]=true):zD8 b (l.drop k)=(l.drop (k+1)).dropWhile digC:=by
 unfold zD8 Lib.trimPrefix;rw [if_pos hp,if_pos hp];rw [List.drop_drop];rfl
theorem zFU {l:List UInt8} {n k0 k:Nat} (hn:l.length=n) (h1:k0+1<=k) (h2:k<=n) (ha:((l.drop (k0+1)).take (k - (k0+1))).all digC=true) (hs:k=n\/digC (l.getD k 0)=false):l.drop k=(l.drop (k0+1)).dropWhile digC:=by
 have e:l.getD k 0=(l.drop (k0+1)).getD (k - (k0+1)) 0:=by
  rw [List.getD_eq_getElem?_getD,List.getD_eq_getElem?_getD,List.getElem?_drop]
  congr 2
  omega
 have hr:=zCX digC (l.drop (k0+1)) (k - (k0+1)) ha (by rw [List.length_drop];omega) (by
  rcases hs with hs | hs
  ·left;rw [List.length_drop];omega
  ·right;rw [<- e];exact hs)
 have h3:=(zMR digC (l.drop (k0+1))).2;rw [hr,List.drop_drop] at h3;rw [<- h3]
 congr 1
 omega
theorem zKP {l:List UInt8} {n k0 k:Nat} (hn:l.length=n) (h1:k0+1<=k) (h2:k<n) (ha:((l.drop (k0+1)).take (k - (k0+1))).all digC=true) (hd:digC (l.getD k 0)=true):((l.drop (k0+1)).take (k+1 - (k0+1))).all digC=true:=by
 have e:l.getD k 0=(l.drop (k0+1)).getD (k - (k0+1)) 0:=by
  rw [List.getD_eq_getElem?_getD,List.getD_eq_getElem?_getD,List.getElem?_drop]
  congr 2
  omega
 rw [show k+1 - (k0+1)=(k - (k0+1))+1 by omega,zDJ (by rw [List.length_drop];omega),List.all_append,ha,List.all_cons,<- e,hd];rfl
theorem zRV (l:List UInt8) (w:World) (hl:l.length<=2000000):Calls Tryz.prog 146 #[.string (bs l)] w fun e w'=>e=.returned (.bool (zDY l))/\w'=w:=by
 obtain ⟨s,hs⟩:∃ s:ByteArray,bs l=s:=⟨_,rfl⟩;have hsl:s.data.toList=l:=by rw [<- hs];rfl
 have hsz:=zBJ hsl;rw [hs];clear hs;obtain ⟨n,hn⟩:=nm (l.length);have HN:Hid _:=hn;have HS:Hid _:=hsl;rw [hn] at hl hsz;clear hn hsl;obtain ⟨q1,hq1⟩:=nm (Lib.hasPrefix l [82]);obtain ⟨P1,hP1⟩:=nm (zD8 82 l);have HP82:Hid (q1=true->P1=(l.drop (0+1)).dropWhile digC):=fun h=>by rw [<- hP1];exact zMZ l 0 82 (by rw [List.drop_zero,hq1,h])
 have HF82:Hid (q1=false->l.drop 0=P1):=fun h=>by rw [<- hP1];unfold zD8;rw [hq1,h];rfl
 have t1:=zID l 0 82 q1 hq1;have T82:Hid ((q1=true->0<n/\∀ h:0<s.size,((s[0]'h).toNat:Int)=82)/\(q1=false->n<=0\/(0<n/\∀ h:0<s.size,((s[0]'h).toNat:Int) ≠ 82))):=by
  refine ⟨fun h=>?_,fun h=>?_⟩
  ·obtain ⟨h1,h2⟩:=t1.1 h;exact ⟨by rw [<- HN.out];exact h1,fun hk=>by rw [zB8 HS.out hk,h2];rfl⟩
  ·rcases Nat.eq_zero_or_pos n with h0 | h0
   ·exact .inl (by omega)
   ·refine .inr ⟨h0,fun hk=>?_⟩
    rcases t1.2 h with h2 | h2
    ·rw [HN.out] at h2;omega
    ·rw [zB8 HS.out hk];intro e;exact h2 (UInt8.toNat_inj.1 (show (l.getD 0 0).toNat=82 by omega))
 obtain ⟨q2,hq2⟩:=nm (Lib.hasPrefix P1 [67]);obtain ⟨P2,hP2⟩:=nm (zD8 67 P1);have HQ2:Hid (Lib.hasPrefix P1 [67]=q2/\zD8 67 P1=P2):=⟨hq2,hP2⟩;have PB:zDY l=((q1 || q2) && (P2 == [])):=by unfold zDY;rw [hP1,hq1,hq2,hP2]
 rw [PB];obtain ⟨R,hR⟩:=nm (((q1 || q2) && (P2 == [])));have HR:Hid _:=hR;rw [hR];clear t1 hq1 hP1 PB hq2 hP2 hR;go_enter Tryz.func146,Tryz.ntmps146;go_upto_region 3 with fail;go_cut [14] (fun v wc=>v=.bool q1/\wc=w)
 case first =>
  cases q1
  ·have hf:=T82.out.2 rfl
   rcases hf with hf | ⟨hf,hne⟩
   ·have hf':¬ ((0:Int)<(n:Int)):=(by omega);go_wp2_with fail;go_meet
    case rel=>exact ⟨rfl,rfl⟩
   ·have hks:0<s.size:=(by omega);obtain ⟨N,hN⟩:∃ N:Int,((s[0]'hks).toNat:Int)=N:=⟨_,rfl⟩;have hne':(N == 82)=false:=(by rw [beq_eq_false_iff_ne,<- hN];exact hne hks);have hf':(0:Int)<(n:Int):=(by omega);go_wp2_with fail;go_meet
    case rel=>exact ⟨rfl,rfl⟩
  ·obtain ⟨hf,he⟩:=T82.out.1 rfl;have hks:0<s.size:=by omega
   have hN:((s[0]'hks).toNat:Int)=82:=he hks;have hf':(0:Int)<(n:Int):=by omega
   go_wp2_with fail;go_meet
   case rel=>exact ⟨rfl,rfl⟩
 case rest =>
  obtain ⟨rfl,hwc⟩:=hcut;rw [hwc];clear hwc;go_upto_if 14 with fail;go_cut [3,4] (fun i a wc=>∃ k:Nat,i=iQ k/\a=iQ (if q1=true then 1 else 0)/\k<=n/\Hid (l.drop k=P1)/\wc=w)
  case first =>
   cases q1
   ·have HE:=HF82.out rfl;have HE':Hid _:=HE;clear HE;go_wp2_with fail;go_meet
    case rel=>exact ⟨0,rfl,rfl,by omega,HE',rfl⟩
   ·have h0:=(T82.out.1 rfl).1;go_wp2_with fail
    go_loop [3] (fun i=>∃ k:Nat,(0+1<=k/\k<=n)/\i=.int .i64 k/\Hid (((l.drop (0+1)).take (k - (0+1))).all digC=true)) (fun i=>n - (intOf i).toNat)
    case atStart=>exact ⟨0+1,by omega,by go_num,by show _=_;simp⟩
    case round =>
     obtain ⟨k,⟨hk1,hk⟩,rfl,HA⟩:=hrel;by_cases hlt:k<n
     ·have hks:k<s.size:=(by omega);have hb0:=zB8 HS.out hks;obtain ⟨c,hcc⟩:=nm (l.getD k 0);have hb:((s[k]'hks).toNat:Int)=(c.toNat:Int):=(by rw [hb0,hcc]);have i2:(k:Int)<(n:Int):=(by omega);obtain ⟨p,hp⟩:=nm (digC c);have D:=fun w=>dgtS (c.toNat:Int) w;have hp':digZ (c.toNat:Int)=p:=hp;rw [hp'] at D;cases p
      ·have HE:Hid (l.drop k=P1):=by show _=_;rw [HP82.out (by first | rfl | trivial)];exact zFU HN.out hk1 hk HA.out (.inr (by rw [hcc];exact hp))
       obtain ⟨N,hN⟩:∃ N:Int,(c.toNat:Int)=N:=⟨_,rfl⟩;rw [hN] at hb D;clear hN hp hp' hb0 hcc HA;go_wp2_with (go_at_call 148;refine (D _).mono ?_;rintro e w1 ⟨rfl,rfl⟩);go_meet
       case rel=>exact ⟨k,rfl,rfl,hk,HE,rfl⟩
      ·have HA2:Hid (((l.drop (0+1)).take (k+1 - (0+1))).all digC=true):=zKP HN.out hk1 hlt HA.out (by rw [hcc];exact hp);obtain ⟨N,hN⟩:∃ N:Int,(c.toNat:Int)=N:=⟨_,rfl⟩;rw [hN] at hb D;clear hN hp hp' hb0 hcc HA;go_wp2_with (go_at_call 148;refine (D _).mono ?_;rintro e w1 ⟨rfl,rfl⟩)
       go_round
       case rel=>exact ⟨k+1,by omega,by go_num,HA2⟩
       case measure=>simp [intOf];omega
     ·obtain rfl:k=n:=(by omega);have HE:Hid (l.drop k=P1):=by show _=_;rw [HP82.out (by first | rfl | trivial)];exact zFU HN.out hk1 hk HA.out (.inl rfl)
      clear HA;go_wp2_with fail;go_meet
      case rel=>exact ⟨k,rfl,rfl,hk,HE,rfl⟩
  case rest =>
   obtain ⟨k0,rfl,rfl,hk0,HD,hwc⟩:=hcut;rw [hwc];clear hwc T82 HF82 HP82;obtain ⟨a1,ha1⟩:∃ a:Int,(if q1=true then (1:Int) else 0)=a:=⟨_,rfl⟩;have ha2:Hid ((a1=0/\q1=false)\/(a1=1/\q1=true)):=by
    show _\/_;rw [<- ha1];cases q1
    ·exact .inl ⟨rfl,rfl⟩
    ·exact .inr ⟨rfl,rfl⟩
   have ha3:0<=a1/\a1<=1:=by rcases ha2.out with h | h <;> omega
   rw [ha1];clear ha1;obtain ⟨hq2,hP2⟩:=HQ2.out;have HP67:Hid (q2=true->P2=(l.drop (k0+1)).dropWhile digC):=fun h=>by rw [<- hP2,<- HD.out];exact zMZ l k0 67 (by rw [HD.out,hq2,h])
   have HF67:Hid (q2=false->l.drop k0=P2):=fun h=>by rw [<- hP2,HD.out];unfold zD8;rw [hq2,h];rfl
   have t1:=zID l k0 67 q2 (by rw [HD.out];exact hq2);have T67:Hid ((q2=true->k0<n/\∀ h:k0<s.size,((s[k0]'h).toNat:Int)=67)/\(q2=false->n<=k0\/(k0<n/\∀ h:k0<s.size,((s[k0]'h).toNat:Int) ≠ 67))):=by
    refine ⟨fun h=>?_,fun h=>?_⟩
    ·obtain ⟨h1,h2⟩:=t1.1 h;exact ⟨by rw [<- HN.out];exact h1,fun hk=>by rw [zB8 HS.out hk,h2];rfl⟩
    ·rcases Nat.lt_or_ge k0 n with h0 | h0
     ·refine .inr ⟨h0,fun hk=>?_⟩
      rcases t1.2 h with h2 | h2
      ·rw [HN.out] at h2;omega
      ·rw [zB8 HS.out hk];intro e;exact h2 (UInt8.toNat_inj.1 (show (l.getD k0 0).toNat=67 by omega))
     ·exact .inl h0
   clear t1 hq2 hP2 HD HQ2;go_upto_region 8 with fail;go_cut [40] (fun v wc=>v=.bool q2/\wc=w)
   case first =>
    cases q2
    ·have hf:=T67.out.2 rfl
     rcases hf with hf | ⟨hf,hne⟩
     ·have hf':¬ ((k0:Int)<(n:Int)):=(by omega);go_wp2_with fail;go_meet
      case rel=>exact ⟨rfl,rfl⟩
     ·have hks:k0<s.size:=(by omega);obtain ⟨N,hN⟩:∃ N:Int,((s[k0]'hks).toNat:Int)=N:=⟨_,rfl⟩;have hne':(N == 67)=false:=(by rw [beq_eq_false_iff_ne,<- hN];exact hne hks);have hf':(k0:Int)<(n:Int):=(by omega);go_wp2_with fail;go_meet
      case rel=>exact ⟨rfl,rfl⟩
    ·obtain ⟨hf,he⟩:=T67.out.1 rfl;have hks:k0<s.size:=(by omega);have hN:((s[k0]'hks).toNat:Int)=67:=he hks;have hf':(k0:Int)<(n:Int):=(by omega);go_wp2_with fail;go_meet
     case rel=>exact ⟨rfl,rfl⟩
   case rest =>
    obtain ⟨rfl,hwc⟩:=hcut;rw [hwc];clear hwc;go_upto_if 40 with fail;go_cut [3,4] (fun i a wc=>∃ k:Nat,i=iQ k/\a=iQ (a1+if q2=true then 1 else 0)/\k<=n/\Hid (l.drop k=P2)/\wc=w)
    case first =>
     cases q2
     ·have HE':Hid (l.drop k0=P2):=HF67.out rfl;go_wp2_with fail;go_meet
      case rel=>exact ⟨k0,rfl,by simp,hk0,HE',rfl⟩
     ·have h0:=(T67.out.1 rfl).1;go_wp2_with fail
      go_loop [3] (fun i=>∃ k:Nat,(k0+1<=k/\k<=n)/\i=.int .i64 k/\Hid (((l.drop (k0+1)).take (k - (k0+1))).all digC=true)) (fun i=>n - (intOf i).toNat)
      case atStart=>exact ⟨k0+1,by omega,by go_num,by show _=_;simp⟩
      case round =>
       obtain ⟨k,⟨hk1,hk⟩,rfl,HA⟩:=hrel;by_cases hlt:k<n
       ·have hks:k<s.size:=(by omega);have hb0:=zB8 HS.out hks;obtain ⟨c,hcc⟩:=nm (l.getD k 0);have hb:((s[k]'hks).toNat:Int)=(c.toNat:Int):=(by rw [hb0,hcc]);have i2:(k:Int)<(n:Int):=(by omega);obtain ⟨p,hp⟩:=nm (digC c);have D:=fun w=>dgtS (c.toNat:Int) w;have hp':digZ (c.toNat:Int)=p:=hp;rw [hp'] at D;cases p
        ·have HE:Hid (l.drop k=P2):=by show _=_;rw [HP67.out (by first | rfl | trivial)];exact zFU HN.out hk1 hk HA.out (.inr (by rw [hcc];exact hp))
         obtain ⟨N,hN⟩:∃ N:Int,(c.toNat:Int)=N:=⟨_,rfl⟩;rw [hN] at hb D;clear hN hp hp' hb0 hcc HA;go_wp2_with (go_at_call 148;refine (D _).mono ?_;rintro e w1 ⟨rfl,rfl⟩);go_meet
         case rel=>exact ⟨k,rfl,by simp,hk,HE,rfl⟩
        ·have HA2:Hid (((l.drop (k0+1)).take (k+1 - (k0+1))).all digC=true):=zKP HN.out hk1 hlt HA.out (by rw [hcc];exact hp);obtain ⟨N,hN⟩:∃ N:Int,(c.toNat:Int)=N:=⟨_,rfl⟩;rw [hN] at hb D;clear hN hp hp' hb0 hcc HA;go_wp2_with (go_at_call 148;refine (D _).mono ?_;rintro e w1 ⟨rfl,rfl⟩)
         go_round
         case rel=>exact ⟨k+1,by omega,by go_num,HA2⟩
         case measure=>simp [intOf];omega
       ·obtain rfl:k=n:=(by omega);have HE:Hid (l.drop k=P2):=by show _=_;rw [HP67.out (by first | rfl | trivial)];exact zFU HN.out hk1 hk HA.out (.inl rfl)
        clear HA;go_wp2_with fail;go_meet
        case rel=>exact ⟨k,rfl,by simp,hk,HE,rfl⟩
    case rest =>
     obtain ⟨k2,rfl,rfl,hk2,HD,hwc⟩:=hcut;rw [hwc];clear hwc T67 HF67 HP67;have HZ:Hid ((P2 == [])=decide ((k2:Int)=(n:Int))):=by
      show _=_;rw [<- HD.out];by_cases h:k2=n
      ·subst h;rw [List.drop_eq_nil_of_le (by rw [HN.out];omega)];simp
      ·have hne:l.drop k2 ≠ []:=fun e=>by
        have:=congrArg List.length e;rw [List.length_drop,HN.out] at this;simp at this;omega
       rw [beq_eq_false_iff_ne.2 hne];simp;omega
     have HQ:Hid ((q1 || q2)=decide (a1+(if q2=true then 1 else 0) > 0)):=by
      show _=_
      rcases ha2.out with ⟨rfl,rfl⟩ | ⟨rfl,rfl⟩ <;> cases q2 <;> decide
     obtain ⟨a2,ha4⟩:∃ a:Int,a1+(if q2=true then (1:Int) else 0)=a:=⟨_,rfl⟩;rw [ha4] at HQ ⊢;clear ha4 ha2 ha3 HD;by_cases c1:a2 > 0
     ·by_cases c2:(k2:Int)=(n:Int)
      ·have hr:R=true:=(by rw [<- HR.out,HQ.out,HZ.out];simp [c1,c2]);subst hr;clear HR HQ HZ;go_wp2_with fail;go_ret;exact ⟨by first | rfl | simp [c2],rfl⟩
      ·have hr:R=false:=(by rw [<- HR.out,HQ.out,HZ.out];simp [c2]);have c3:((k2:Int) == (n:Int))=false:=(by rw [beq_eq_false_iff_ne];exact c2);subst hr;clear HR HQ HZ c2;go_wp2_with fail;go_ret;exact ⟨by first | rfl | simp [c3],rfl⟩
     ·have hr:R=false:=(by rw [<- HR.out,HQ.out];simp [c1]);subst hr;clear HR HQ HZ;go_wp2_with fail;go_ret;exact ⟨rfl,rfl⟩
theorem zVE (l:List UInt8) (w:World) (hl:l.length<=2000000) :
  Calls Tryz.prog 138 #[sV l] w fun e w'=>e=.returned (sV (l.map upC))/\Ext w w':=by
 obtain ⟨cap,wb,hcv,hcap,X0,V0⟩:=zHB l w;obtain ⟨n,hn⟩:=nm (l.length);rw [hn] at hcv hcap hl;have HN:Hid _:=hn;have V0':Hid (Vec wb w.heap.size (encB (upK l 0))):=by show Vec _ _ _;rw [zK7];exact V0
 clear hn V0;go_enter Tryz.func138,Tryz.ntmps138;go_wp2_with fail;clear hcv;go_loopw [10] (fun i wr=>∃ k:Nat,k<=n/\i=.int .i64 k/\Hid (Vec wr w.heap.size (encB (upK l k)))/\Ext w wr) (fun i _=>n - (intOf i).toNat)
 case atStart=>exact ⟨0,by omega,rfl,V0',X0⟩
 case round =>
  obtain ⟨k,hk,rfl,V,X⟩:=hrel;by_cases hlt:k<n
  ·obtain ⟨c,hc⟩:∃ c,l[k]?=some c:=⟨_,List.getElem?_eq_getElem (by rw [HN.out];exact hlt)⟩;obtain ⟨a0,f0⟩:=V.out k _ (zJW (zK8 hc));have i1:(0:Int)<=(k:Int):=by omega
   have i2:(k:Int)<(n:Int):=by omega
   have hz:c.toNat<256:=UInt8.toNat_lt c;have VP:=V.out.put k (by rw [zGL,zE8,HN.out];exact hlt) (.int .u8 ((upC c).toNat:Int));have es:(encB (upK l k)).set k (.int .u8 ((upC c).toNat:Int))=encB (upK l (k+1)):=by rw [zFR hc];simp [encB,List.map_set]
   rw [es] at VP;by_cases hs:97<=c.toNat/\c.toNat<=122
   ·have eu:=zI0 hs;rw [eu] at VP;have HV:Hid _:=VP;obtain ⟨z,ez⟩:∃ z:Int,(c.toNat:Int)=z:=⟨_,rfl⟩;rw [ez] at a0 HV;have z1:97<=z:=(by omega);have z2:z<=122:=(by omega);clear V VP es eu hc hs ez hz;go_wp2_with fail;go_roundw
    case rel=>exact ⟨k+1,by omega,by go_num,by first | exact HV | (show Vec _ _ _;have:=HV.out;rw [show z - 97+65=z - 32 by omega];exact this),xset X (Nat.le_refl _) _⟩
    case measure=>simp [intOf];omega
   ·have eu:=zI1 hs;have HV:Hid (Vec wr w.heap.size (encB (upK l (k+1)))):=by
     show Vec _ _ _;have:upK l (k+1)=upK l k:=by
      rw [zFR hc,eu];exact List.ext_getElem? fun i=>by
       rw [List.getElem?_set]
       split
       ·next e=>subst e;rw [if_pos (by rw [zE8,HN.out];exact hlt)];exact (zK8 hc).symm
       ·rfl
     rw [this];exact V.out
    obtain ⟨z,ez⟩:∃ z:Int,(c.toNat:Int)=z:=⟨_,rfl⟩;rw [ez] at a0;have z3:0<=z/\z<=255:=(by omega);have z4:z<97\/122<z:=(by omega);clear V VP es eu hc hs ez hz
    rcases z4 with z4 | z4
    ·go_wp2_with fail;go_roundw
     case rel=>exact ⟨k+1,by omega,by go_num,HV,X⟩
     case measure=>simp [intOf];omega
    ·have z5:97<=z:=(by omega);go_wp2_with fail;go_roundw
     case rel=>exact ⟨k+1,by omega,by go_num,HV,X⟩
     case measure=>simp [intOf];omega
  ·obtain rfl:k=n:=by omega
   have hb:=zHC (l.map upC) w.heap.size cap wr (by have:=V.out;rw [<- HN.out,zMD] at this;exact this);rw [List.length_map,HN.out] at hb;go_wp2_with fail;go_ret;exact ⟨rfl,X⟩
theorem zVD (l:List UInt8) (w:World) (hl:l.length<=2000000) :
  Calls Tryz.prog 123 #[sV l] w fun e w'=>e=.returned (sV (l.map upC))/\Ext w w':=by
 obtain ⟨cap,wb,hcv,hcap,X0,V0⟩:=zHB l w;obtain ⟨n,hn⟩:=nm (l.length);rw [hn] at hcv hcap hl;have HN:Hid _:=hn;have V0':Hid (Vec wb w.heap.size (encB (upK l 0))):=by show Vec _ _ _;rw [zK7];exact V0
 clear hn V0;go_enter Tryz.func123,Tryz.ntmps123;go_wp2_with fail;clear hcv;go_loopw [10] (fun i wr=>∃ k:Nat,k<=n/\i=.int .i64 k/\Hid (Vec wr w.heap.size (encB (upK l k)))/\Ext w wr) (fun i _=>n - (intOf i).toNat)
 case atStart=>exact ⟨0,by omega,rfl,V0',X0⟩
 case round =>
  obtain ⟨k,hk,rfl,V,X⟩:=hrel;by_cases hlt:k<n
  ·obtain ⟨c,hc⟩:∃ c,l[k]?=some c:=⟨_,List.getElem?_eq_getElem (by rw [HN.out];exact hlt)⟩;obtain ⟨a0,f0⟩:=V.out k _ (zJW (zK8 hc));have i1:(0:Int)<=(k:Int):=by omega
   have i2:(k:Int)<(n:Int):=by omega
   have hz:c.toNat<256:=UInt8.toNat_lt c;have VP:=V.out.put k (by rw [zGL,zE8,HN.out];exact hlt) (.int .u8 ((upC c).toNat:Int));have es:(encB (upK l k)).set k (.int .u8 ((upC c).toNat:Int))=encB (upK l (k+1)):=by rw [zFR hc];simp [encB,List.map_set]
   rw [es] at VP;by_cases hs:97<=c.toNat/\c.toNat<=122
   ·have eu:=zI0 hs;rw [eu] at VP;have HV:Hid _:=VP;obtain ⟨z,ez⟩:∃ z:Int,(c.toNat:Int)=z:=⟨_,rfl⟩;rw [ez] at a0 HV;have z1:97<=z:=(by omega);have z2:z<=122:=(by omega);clear V VP es eu hc hs ez hz;go_wp2_with fail;go_roundw
    case rel=>exact ⟨k+1,by omega,by go_num,HV,xset X (Nat.le_refl _) _⟩
    case measure=>simp [intOf];omega
   ·have eu:=zI1 hs;have HV:Hid (Vec wr w.heap.size (encB (upK l (k+1)))):=by
     show Vec _ _ _;have:upK l (k+1)=upK l k:=by
      rw [zFR hc,eu];exact List.ext_getElem? fun i=>by
       rw [List.getElem?_set]
       split
       ·next e=>subst e;rw [if_pos (by rw [zE8,HN.out];exact hlt)];exact (zK8 hc).symm
       ·rfl
     rw [this];exact V.out
    obtain ⟨z,ez⟩:∃ z:Int,(c.toNat:Int)=z:=⟨_,rfl⟩;rw [ez] at a0;have z3:0<=z/\z<=255:=(by omega);have z4:z<97\/122<z:=(by omega);clear V VP es eu hc hs ez hz
    rcases z4 with z4 | z4
    ·go_wp2_with fail;go_roundw
     case rel=>exact ⟨k+1,by omega,by go_num,HV,X⟩
     case measure=>simp [intOf];omega
    ·have z5:97<=z:=(by omega);go_wp2_with fail;go_roundw
     case rel=>exact ⟨k+1,by omega,by go_num,HV,X⟩
     case measure=>simp [intOf];omega
  ·obtain rfl:k=n:=by omega
   have hb:=zHC (l.map upC) w.heap.size cap wr (by have:=V.out;rw [<- HN.out,zMD] at this;exact this);rw [List.length_map,HN.out] at hb;go_wp2_with fail;go_ret;exact ⟨rfl,X⟩
theorem zUB {l:List UInt8} {r c:Int} {rf cf:Bool} (hg:zDH r c) (e:refL r c rf cf=l) :
  numL (Lib.trimPrefix ((Lib.trimPrefix l [36]).dropWhile zAI) [36])=r/\colV ((Lib.trimPrefix l [36]).takeWhile zAI)=c/\Lib.hasPrefix ((Lib.trimPrefix l [36]).dropWhile zAI) [36]=rf/\Lib.hasPrefix l [36]=cf:=by
 obtain ⟨rest,num0,a1,a2,a3,a4,a5,a6,a7,a8⟩:=zIC (rf:=rf) (cf:=cf) hg;obtain ⟨_,h2,h3,h4⟩:=zR7 hg e;refine ⟨?_,h2,h3,h4⟩;rw [e] at a1;obtain ⟨⟨r1,r2⟩,c1,c2⟩:=hg;rw [a1,a3,a8,zHN (by omega),(zE7 r.toNat (by omega)).2.2.1];omega
theorem zNJ (D:List UInt8):∃ j:Nat,(j=if Lib.hasPrefix D [36] then 1 else 0)/\j<=D.length/\Lib.trimPrefix D [36]=D.drop j/\(Lib.hasPrefix D [36]=true->0<D.length/\D.getD 0 0=36)/\(Lib.hasPrefix D [36]=false->0<D.length->D.getD 0 0 ≠ 36):=by
 cases D with
 | nil=>exact ⟨0,by rfl,by simp,by rfl,by intro h;exact absurd h (by decide),by intro _ h;simp at h⟩
 | cons a D =>
  by_cases ha:a=36
  ·subst ha;have e:Lib.hasPrefix (36 :: D) [36]=true:=by simp [Lib.hasPrefix]
   refine ⟨1,by rw [e];rfl,by simp,by unfold Lib.trimPrefix;rw [e];rfl,fun _=>by simp,(fun h=>by rw [e] at h;cases h)⟩
  ·have e:Lib.hasPrefix (a :: D) [36]=false:=by
    show ((36 == a) && _)=false;rw [beq_eq_false_iff_ne.2 (fun q=>ha q.symm)];rfl
   refine ⟨0,by rw [e];rfl,by simp,by unfold Lib.trimPrefix;rw [e];rfl,(fun h=>by rw [e] at h;cases h),fun _ _=>by simpa using ha⟩
theorem zJ9 {l R:List UInt8} {i k:Nat} (h:l.drop i=R):l.getD (i+k) 0=R.getD k 0:=by
 subst h;simp [List.getD,List.getElem?_drop]
theorem zHU {l:List UInt8} {p:Nat} (hp:p<(bs l).size):((bs l)[p]'hp)=l.getD p 0:=zB8 (zCF l) hp
theorem zPL (l:List UInt8) (w:World) (hl:l.length<=1048576) :
  Calls Tryz.prog 147 #[.string (bs l)] w fun e w'=>∃ ok r c rf cf,e=.returned (.tuple #[refV r c rf cf,.bool ok])/\zE5 l ok r c rf cf/\Ext w w':=by
 have PA:=fun r c rf cf (hg:zDH r c) (e:refL r c rf cf=l)=>zUB hg e;obtain ⟨L,hL⟩:=nm (l.length);have zL:(bs l).size=L:=by rw [zBG,hL]
 obtain ⟨i0,hi0,hi0L,hdrop0,hm1,hm2⟩:=zNJ l;obtain ⟨R,hR⟩:=nm (Lib.trimPrefix l [36]);rw [hR] at hdrop0;obtain ⟨cf,hcf⟩:=nm (Lib.hasPrefix l [36]);rw [hcf] at hi0 hm1 hm2;obtain ⟨LR,hLR⟩:=nm (R.length);have hLL:i0+LR=L:=by
  have:=congrArg List.length hdrop0;rw [List.length_drop] at this;omega
 have HA:Hid (∀ k,k<LR->∀ hp:i0+k<(bs l).size,(bs l)[i0+k]=R.getD k 0):=fun k hk hp=>by rw [zHU hp,zJ9 hdrop0.symm]
 have L20:(L:Int)<=1048576:=by omega
 have B2:=Vec.made4 w (iQ 0) (iQ 0) (.bool false) (.bool false) 26;have B4:=Vec.made4' w (.cells #[iQ 0,iQ 0,.bool false,.bool false] 26) (iQ 0) (iQ 0) (.bool false) (.bool false) 26;have X:=xa (x1 w (.cells #[iQ 0,iQ 0,.bool false,.bool false] 26)) (.cells #[iQ 0,iQ 0,.bool false,.bool false] 26);have B2:=B2.l (x1 _ (.cells #[iQ 0,iQ 0,.bool false,.bool false] 26));have HI0:Hid (l.drop i0=R):=hdrop0.symm;go_enter Tryz.func147,Tryz.ntmps147;go_upto_region 3 with fail;go_cut [17] (fun v wc=>v=.bool cf/\wc=(w.alloc (.cells #[iQ 0,iQ 0,.bool false,.bool false] 26)).alloc (.cells #[iQ 0,iQ 0,.bool false,.bool false] 26))
 case first =>
  cases cf
  ·by_cases h0:0<L
   ·have hp:0<(bs l).size:=(by omega);have hb:((bs l)[0]'hp) ≠ 36:=(by rw [zHU hp];exact hm2 rfl (by omega));obtain ⟨c,hc⟩:=nm (((bs l)[0]'hp));rw [hc] at hb;have hb2:((((bs l)[0]'hp).toNat:Int) == 36)=false:=by
     rw [hc,beq_eq_false_iff_ne];intro q;exact hb (UInt8.toNat_inj.1 (by show c.toNat=36;omega))
    have h0':(0:Int)<(L:Int):=(by omega);clear HA PA hm1 hm2 hi0 HI0 hb hc B2 B4 X;go_wp2_with fail;go_meet
    case rel=>exact ⟨rfl,rfl⟩
   ·have h0':¬ (0:Int)<(L:Int):=(by omega);clear HA PA hm1 hm2 hi0 HI0 B2 B4 X;go_wp2_with fail;go_meet
    case rel=>exact ⟨rfl,rfl⟩
  ·obtain ⟨h0,h36⟩:=hm1 rfl;have hp:0<(bs l).size:=by omega
   have hb2:((((bs l)[0]'hp).toNat:Int) == 36)=true:=by rw [zHU hp,h36];decide
   have h0':(0:Int)<(L:Int):=by omega
   clear HA PA hm1 hm2 hi0 HI0 h36 B2 B4 X;go_wp2_with fail;go_meet
   case rel=>exact ⟨rfl,rfl⟩
 case rest =>
 obtain ⟨rfl,rfl⟩:=hcut;clear hm1 hm2;obtain ⟨wa,ha⟩:=nm ((w.alloc (.cells #[iQ 0,iQ 0,.bool false,.bool false] 26)).alloc (.cells #[iQ 0,iQ 0,.bool false,.bool false] 26));rw [ha] at B2 B4 X ⊢;clear ha;go_upto_if 17 with fail;go_cut [5] (fun v wc=>v=iQ i0/\Vec wc (w.heap.size+1) [iQ 0,iQ 0,.bool false,.bool cf]/\Vec wc w.heap.size [iQ 0,iQ 0,.bool false,.bool false]/\Ext w wc)
 case first =>
  obtain ⟨⟨m0,m1,m2,m3⟩,f0,f1,f2,f3⟩:=B4.box4;cases cf
  ·obtain rfl:i0=0:=by simpa using hi0
   go_wp2_with fail;go_meet
   case rel=>exact ⟨rfl,B4,B2,X⟩
  ·obtain rfl:i0=1:=by simpa using hi0
   clear HA PA HI0 hdrop0 hLL hR hcf hLR hi0 hi0L;go_wp2_with fail;go_meet
   case rel=>exact ⟨rfl,B4.put 3 (by simp) (.bool true),B2.far (p:=⟨w.heap.size+1,3,none⟩) (by simp) (.bool true),xset X (by simp) _⟩
 case rest =>
 obtain ⟨rfl,B4,B2,X⟩:=hcut;clear hi0;go_wp2_with fail
 go_loop [5] (fun v=>∃ k:Nat,v=.int .i64 ((i0+k:Nat):Int)/\k<=LR/\Hid ((R.take k).all zAI=true)) (fun v=>L - (intOf v).toNat)
 case atStart=>exact ⟨0,rfl,by omega,by simp [Hid]⟩
 case round =>
  obtain ⟨k,rfl,hk,HK⟩:=hrel;obtain ⟨q,hq⟩:=nm ((decide (k<LR) && zAI (R.getD k 0)));obtain ⟨i1,hi1⟩:∃ i1:Nat,i0+k=i1:=⟨_,rfl⟩;rw [hi1];have L1:(i1:Int)<=(L:Int):=by omega
  go_upto_region 7 with fail;go_cut [37] from 22 to 39 (fun v wd=>v=.bool q/\wd=wc)
  case first =>
   by_cases h0:k<LR
   ·have hp:i0+k<(bs l).size:=(by omega);have hb:=HA.out k h0 hp;have hp1:i1<(bs l).size:=(by omega);obtain ⟨c,hc⟩:=nm (R.getD k 0);have hb2:(((bs l)[i1]'hp1).toNat:Int)=(c.toNat:Int):=by
     have:((bs l)[i1]'hp1)=c:=(by rw [<- hc,<- hb];simp [hi1]);rw [this]
    have h0':(i1:Int)<(L:Int):=(by omega);have hq':zAI c=q:=(by rw [<- hq,hc];simp [h0]);have c255:=c.toNat_lt;obtain ⟨N,hN⟩:∃ N:Int,(c.toNat:Int)=N:=⟨_,rfl⟩;rw [hN] at hb2;have hq2:(decide (N >= 65) && decide (N<=90))=q:=by
     rw [<- hq',zAI];by_cases g1:65<=N <;> by_cases g2:N<=90
     all_goals simp [g1,g2]
     all_goals omega
    clear HA PA HI0 hdrop0 hR hcf hLR hb hc hq hq' hN c255 HK B2 B4 X;by_cases g1:N >= 65
    ·have g1':decide (N >= 65)=true:=decide_eq_true g1;by_cases g2:N<=90
     ·have g2':decide (N<=90)=true:=decide_eq_true g2;rw [g1',g2'] at hq2;go_wp2_with fail;go_meet
      case rel=>exact ⟨by rw [<- hq2];rfl,rfl⟩
     ·have g2':decide (N<=90)=false:=decide_eq_false g2;rw [g1',g2'] at hq2;go_wp2_with fail;go_meet
      case rel=>exact ⟨by rw [<- hq2];rfl,rfl⟩
    ·have g1':decide (N >= 65)=false:=decide_eq_false g1;rw [g1'] at hq2;go_wp2_with fail;go_meet
     case rel=>exact ⟨by rw [<- hq2];rfl,rfl⟩
   ·have h0':¬ (i1:Int)<(L:Int):=(by omega);have hq2:q=false:=(by rw [<- hq];simp [h0]);clear HA PA HI0 hdrop0 hR hcf hLR hq HK B2 B4 X;go_wp2_with fail;go_meet
    case rel=>exact ⟨by rw [hq2],rfl⟩
  case rest =>
   obtain ⟨rfl,rfl⟩:=hcut;cases q
   ·have hkR:k<=R.length:=(by omega);have HT:R.takeWhile zAI=R.take k/\R.dropWhile zAI=R.drop k:=by
     have h:=zL5 HK.out (R.drop k) (fun b hb=>by
      have hk2:k<R.length:=by
       rcases Nat.lt_or_ge k R.length with g | g
       ·exact g
       ·rw [List.drop_of_length_le g] at hb;cases hb
      rw [zKZ hk2] at hb;simp only [List.head?_cons,Option.some.injEq] at hb;subst hb;simpa [show k<LR by omega] using hq)
     rw [List.take_append_drop] at h;exact ⟨h.2,h.1⟩
    obtain ⟨M,hM⟩:=nm (R.take k);obtain ⟨D,hD⟩:=nm (R.drop k);have hdrop1:l.drop i1=D:=(by rw [<- hD,hdrop0,List.drop_drop,hi1]);obtain ⟨j,hj,hjD,hdrop2,hm1,hm2⟩:=zNJ D;obtain ⟨U,hU⟩:=nm (Lib.trimPrefix D [36]);obtain ⟨rf,hrf⟩:=nm (Lib.hasPrefix D [36]);obtain ⟨col,hcol⟩:=nm (colV M);obtain ⟨row,hrow⟩:=nm (numL U);obtain ⟨LD,hLD⟩:=nm (D.length);have hDL:i1+LD=L:=by
     have:=congrArg List.length hdrop1;rw [List.length_drop] at this;omega
    obtain ⟨i2,hi2⟩:∃ i2:Nat,i1+j=i2:=⟨_,rfl⟩;have hi2L:i2<=L:=(by omega);have HX1:(bs l).extract i0 i1=bs M:=by
     rw [zDF,<- hdrop0,show i1 - i0=k by omega,hM]
    have HX2:(bs l).extract i2 L=bs U:=by
     rw [zDF,<- hi2,<- List.drop_drop,hdrop1,<- hdrop2,hU,List.take_of_length_le];rw [<- hU,hdrop2,List.length_drop];omega
    have HP:Hid (∀ r' c' rf' cf',zDH r' c'->refL r' c' rf' cf'=l->row=r'/\col=c'/\rf=rf'/\cf=cf'):=fun r' c' rf' cf' hg e=>by
     have h:=PA r' c' rf' cf' hg e;rw [hR,HT.1,HT.2,hM,hD,hU,hrow,hcol,hrf,hcf] at h;exact h
    have C1:∀ w',Calls Tryz.prog 164 #[.string (bs M)] w' fun e w''=>e=.returned (iQ col)/\Ext w' w'':=fun w'=>by
     have:=zTL (bs M) M w' (zCF M)
     rwa [hcol] at this
    have C2:∀ w',Calls Tryz.prog 124 #[.string (bs U)] w' fun e w''=>e=.returned (iQ row)/\w''=w':=fun w'=>by
     have:=numS (bs U) U w' (zCF U)
     rwa [hrow] at this
    rw [hrf] at hj hm1 hm2;have HB:Hid (0<LD->∀ hp:i1<(bs l).size,(bs l)[i1]=D.getD 0 0):=fun _ hp=>(by rw [zHU hp,show i1=i1+0 from rfl,zJ9 hdrop1]);have b1:(i0:Int)<=(i1:Int):=(by omega);have b2:(i2:Int)<=(L:Int):=(by omega);have b3:(0:Int)<=(i0:Int):=(by omega);have b4:(0:Int)<=(i2:Int):=(by omega);clear HA PA HI0 hdrop0 hR hcf hLR hq HK HT hM hD hdrop1 hdrop2 hU hrf hcol hrow hkR hk hLL hi1;obtain ⟨⟨m0,m1,m2,m3⟩,f0,f1,f2,f3⟩:=B4.box4;go_wp2_with fail;refine (C1 _).mono ?_;rintro e w2 ⟨rfl,e2⟩;have B4:=B4.l e2;have B2:=B2.l e2;have X:=xt X e2;clear C1 e2 HX1 m0 m1 m2 m3 f0 f1 f2 f3;obtain ⟨w3,h3⟩:=nm (w2.setCell ⟨w.heap.size+1,1,none⟩ (iQ col));obtain ⟨⟨m0,m1,m2,m3⟩,f0,f1,f2,f3⟩:=B4.box4;have B4:=B4.put 1 (by simp) (iQ col);have B2:=B2.far (p:=⟨w.heap.size+1,1,none⟩) (by simp) (iQ col);have X:=xset X (p:=⟨w.heap.size+1,1,none⟩) (by simp) (iQ col);rw [h3] at B4 B2 X;simp only [List.set_cons_zero,List.set_cons_succ] at B4;go_upto_region 10 with fail;clear h3 m0 m1 m2 m3 f0 f1 f2 f3;go_cut [55] (fun v wd=>v=.bool rf/\wd=w3)
    case first =>
     clear B4 B2 X HX2 C2 HP;cases rf
     ·by_cases h0:0<LD
      ·have hp:i1<(bs l).size:=(by omega);have hb:((bs l)[i1]'hp) ≠ 36:=(by rw [HB.out h0 hp];exact hm2 rfl (by omega));obtain ⟨c,hc⟩:=nm (((bs l)[i1]'hp));rw [hc] at hb;have hb2:((((bs l)[i1]'hp).toNat:Int) == 36)=false:=by
        rw [hc,beq_eq_false_iff_ne];intro q;exact hb (UInt8.toNat_inj.1 (by show c.toNat=36;omega))
       have h0':(i1:Int)<(L:Int):=(by omega);clear hm1 hm2 hj hb hc HB hi2;go_wp2_with fail;go_meet
       case rel=>exact ⟨rfl,rfl⟩
      ·have h0':¬ (i1:Int)<(L:Int):=(by omega);clear hm1 hm2 hj HB hi2;go_wp2_with fail;go_meet
       case rel=>exact ⟨rfl,rfl⟩
     ·obtain ⟨h0,h36⟩:=hm1 rfl;have hp:i1<(bs l).size:=(by omega);have hb2:((((bs l)[i1]'hp).toNat:Int) == 36)=true:=(by rw [HB.out (by omega) hp,h36];decide);have h0':(i1:Int)<(L:Int):=(by omega);clear hm1 hm2 hj HB hi2 h36;go_wp2_with fail;go_meet
      case rel=>exact ⟨rfl,rfl⟩
    case rest =>
    obtain ⟨rfl,rfl⟩:=hcut;clear hm1 hm2 HB;go_upto_if 55 with fail;go_cut [5] (fun v wd=>v=iQ i2/\Vec wd (w.heap.size+1) [iQ 0,iQ col,.bool rf,.bool cf]/\Vec wd w.heap.size [iQ 0,iQ 0,.bool false,.bool false]/\Ext w wd)
    case first =>
     obtain ⟨⟨m0,m1,m2,m3⟩,f0,f1,f2,f3⟩:=B4.box4;cases rf
     ·obtain rfl:j=0:=(by simpa using hj);obtain rfl:i1=i2:=(by simpa using hi2);clear HX2 C2 HP hj hi2;go_wp2_with fail;go_meet
      case rel=>exact ⟨rfl,B4,B2,X⟩
     ·obtain rfl:j=1:=(by simpa using hj);have hi3:(i1:Int)+1=(i2:Int):=(by omega);clear HX2 C2 HP hj hi2;go_wp2_with fail;go_meet
      case rel=>exact ⟨by first | rfl | rw [hi3],B4.put 2 (by simp) (.bool true),B2.far (p:=⟨w.heap.size+1,2,none⟩) (by simp) (.bool true),xset X (by simp) _⟩
    case rest =>
    obtain ⟨rfl,B4c,B2c,Xc⟩:=hcut;clear hj hi2 hjD B4 B2 X;obtain ⟨w5,h5⟩:=nm (wc.setCell ⟨w.heap.size+1,0,none⟩ (iQ row));obtain ⟨⟨m0,m1,m2,m3⟩,f0,f1,f2,f3⟩:=B4c.box4;have B4:=B4c.put 0 (by simp) (iQ row);have B2:=B2c.far (p:=⟨w.heap.size+1,0,none⟩) (by simp) (iQ row);have X:=xset Xc (p:=⟨w.heap.size+1,0,none⟩) (by simp) (iQ row);rw [h5] at B4 B2 X;clear B4c B2c Xc;simp only [List.set_cons_zero] at B4;obtain ⟨⟨a0,a1,a2,a3⟩,_⟩:=B4.box4;go_wp2_with fail;refine (C2 _).mono ?_;rintro e w1 ⟨rfl,rfl⟩;go_wp2_with fail;clear h5 m0 m1 m2 m3 f0 f1 f2 f3 HX2 C2;refine (zCJ _ _ _ _ _).mono ?_;rintro e w6 ⟨rfl,e6⟩;have B4:=B4.l e6;have B2:=B2.l e6;have X:=xt X e6;clear e6 a0 a1 a2 a3;obtain ⟨⟨a0,a1,a2,a3⟩,_⟩:=B4.box4;by_cases hg:zDH row col
    ·rw [(zBP row col).2 hg];go_wp2_with fail;refine (zPJ row col rf cf _).mono ?_;rintro e w7 ⟨rfl,e7⟩;have HT:Hid (refT row col rf cf=refL row col rf cf):=(by show _=_;unfold refT;rw [if_pos hg]);rw [HT.out];have B4:=B4.l e7;have B2:=B2.l e7;have X:=xt X e7;clear e7 a0 a1 a2 a3;obtain ⟨⟨a0,a1,a2,a3⟩,_⟩:=B4.box4;obtain ⟨⟨m0,m1,m2,m3⟩,f0,f1,f2,f3⟩:=B2.box4;by_cases he:refL row col rf cf=l
     ·have HO:Hid (zE5 l true row col rf cf):=.inl ⟨rfl,hg,he⟩;rw [he];clear hg he HP HT;go_wp2_with fail;exact bodyPost_ret (v:=.tuple #[refV row col rf cf,.bool true]) (by simp [results,Tryz.results147,go_sem,m0,m1,m2,m3]) rfl ⟨true,row,col,rf,cf,rfl,HO.out,Ext.set4 (o:=0) X (Nat.le_refl _) _ _ _ _⟩
     ·have HO:Hid (zE5 l false 0 0 false false):=zE5.of_parse HP.out (fun q=>he q.2);have hne:((bs (refL row col rf cf)).toList == (bs l).toList)=false:=zMN (fun q=>he (by have:=congrArg (fun s:ByteArray=>s.data.toList) q;exact this));obtain ⟨s6,hs6⟩:=nm (bs (refL row col rf cf));obtain ⟨s7,hs7⟩:=nm (bs l);rw [hs6,hs7] at hne;rw [hs6,hs7];clear hg he HP HT hs6 hs7 zL;go_wp2_with fail;exact bodyPost_ret (v:=.tuple #[refV 0 0 false false,.bool false]) (by simp [results,Tryz.results147,go_sem,m0,m1,m2,m3]) rfl ⟨false,0,0,false,false,rfl,HO.out,Ext.set4 (o:=0) X (Nat.le_refl _) _ _ _ _⟩
    ·have HO:Hid (zE5 l false 0 0 false false):=zE5.of_parse HP.out (fun q=>hg q.1);have hb:zAL row col=false:=by
      rw [<- Bool.not_eq_true,zBP];exact hg
     rw [hb];obtain ⟨⟨m0,m1,m2,m3⟩,f0,f1,f2,f3⟩:=B2.box4;clear hg hb HP;go_wp2_with fail;exact bodyPost_ret (v:=.tuple #[refV 0 0 false false,.bool false]) (by simp [results,Tryz.results147,go_sem,m0,m1,m2,m3]) rfl ⟨false,0,0,false,false,rfl,HO.out,Ext.set4 (o:=0) X (Nat.le_refl _) _ _ _ _⟩
   ·have hk1:k<LR:=by
     have:=hq;simp only [Bool.and_eq_true,decide_eq_true_eq] at this;exact this.1
    have HK2:Hid ((R.take (k+1)).all zAI=true):=by
     have:=hq;simp only [Bool.and_eq_true,decide_eq_true_eq] at this;show _=_;rw [zDJ (by omega),List.all_append,HK.out,List.all_cons,this.2];rfl
    have h2:((i0+(k+1):Nat):Int)=(i1:Int)+1:=(by omega);clear HA PA HI0 hdrop0 hR hcf hq HK;go_wp2_with fail
    go_round
    case rel=>exact ⟨k+1,by rw [h2],by omega,HK2⟩
    case measure=>simp [intOf];omega
end Go.Proofs.YteliaeejooekbaaGreatDoor
