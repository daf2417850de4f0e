/-
  Several texts in one: Fs, Fg, Fh, Fb.
-/
import Derived.Test.YtogecaajnjcenaaGreatDoorFo
import Derived.Test.YtogecaajnjcenaaGreatDoorMg11
import Derived.Test.YtogecaajnjcenaaGreatDoorMg1
namespace Go.Proofs.YtogecaajnjcenaaGreatDoor
open Go.RowKit
def zeroDN (neg:Bool) (d x:Int):Bool:=!neg && decide (d=0) && decide (x=0)
def zeroRN (r c:Int) (rf cf:Bool):Bool:=decide (r=0) && decide (c=0) && !rf && !cf
theorem zeroDN_no {neg:Bool} {d x:Int} (h:zeroDN neg d x=false):neg=true∨(neg=false∧(d ≠ 0∨(d=0∧x ≠ 0))):=by
 cases neg
 ·right;refine ⟨rfl,?_⟩;by_cases hd:d=0
  ·right;refine ⟨hd,fun hx=>?_⟩;simp [zeroDN,hd,hx] at h
  ·exact Or.inl hd
 ·exact Or.inl rfl
theorem zeroRN_no {r c:Int} {rf cf:Bool} (h:zeroRN r c rf cf=false):r ≠ 0∨(r=0∧(c ≠ 0∨(c=0∧(rf=true∨(rf=false∧cf=true))))):=by
 by_cases hr:r=0
 ·right;refine ⟨hr,?_⟩;by_cases hc:c=0
  ·right;refine ⟨hc,?_⟩;cases rf
   ·right;refine ⟨rfl,?_⟩;cases cf
    ·simp [zeroRN,hr,hc] at h
    ·rfl
   ·exact Or.inl rfl
  ·exact Or.inl hc
 ·exact Or.inl hr
set_option maxRecDepth 8000 in
set_option maxHeartbeats 4000000 in
theorem bareS (k:Int) (t:List UInt8) (neg:Bool) (d x r c:Int) (rf cf:Bool) (r2 c2:Int) (rf2 cf2:Bool) (m:Int) (w:World) :
  Calls Tryz.prog 89 #[ndV k t neg d x r c rf cf r2 c2 rf2 cf2 m] w fun e w'=>e=.returned (.bool (zeroDN neg d x && zeroRN r c rf cf && zeroRN r2 c2 rf2 cf2))∧Ext w w':=by
 have X:=x1 w (.cells #[.int .i64 k,sV t,.bool neg,.int .i64 d,.int .i64 x,.int .i64 r,.int .i64 c,.bool rf,.bool cf,.int .i64 r2,.int .i64 c2,.bool rf2,.bool cf2,.int .i64 m] 43);obtain ⟨Q,hQ⟩:∃ Q,(zeroDN neg d x && zeroRN r c rf cf && zeroRN r2 c2 rf2 cf2)=Q:=⟨_,rfl⟩;have HQ:Hid _:=hQ;rw [hQ];clear hQ;cases hd:zeroDN neg d x
 ·have HB:Hid (false=Q):=by show _=_;rw [← HQ.out,hd];rfl
  rcases zeroDN_no hd with rfl | ⟨rfl,h | ⟨rfl,h⟩⟩
  all_goals
   clear hd;go_enter Tryz.func89,Tryz.ntmps89;go_wp2_with fail;go_ret;exact ⟨ret_bool HB.out,X⟩
 obtain ⟨rfl,rfl,rfl⟩:neg=false∧d=0∧x=0:=by simpa [zeroDN,and_assoc] using hd
 cases h1:zeroRN r c rf cf
 ·have HB:Hid (false=Q):=by show _=_;rw [← HQ.out,hd,h1];rfl
  rcases zeroRN_no h1 with h | ⟨rfl,h | ⟨rfl,rfl | ⟨rfl,rfl⟩⟩⟩
  all_goals
   clear hd h1;go_enter Tryz.func89,Tryz.ntmps89;go_wp2_with fail;go_ret;exact ⟨ret_bool HB.out,X⟩
 obtain ⟨rfl,rfl,rfl,rfl⟩:r=0∧c=0∧rf=false∧cf=false:=by simpa [zeroRN,and_assoc] using h1
 cases h2:zeroRN r2 c2 rf2 cf2
 ·have HB:Hid (false=Q):=by show _=_;rw [← HQ.out,hd,h1,h2];rfl
  rcases zeroRN_no h2 with h | ⟨rfl,h | ⟨rfl,rfl | ⟨rfl,rfl⟩⟩⟩
  all_goals
   clear hd h1 h2;go_enter Tryz.func89,Tryz.ntmps89;go_wp2_with fail;go_ret;exact ⟨ret_bool HB.out,X⟩
 obtain ⟨rfl,rfl,rfl,rfl⟩:r2=0∧c2=0∧rf2=false∧cf2=false:=by simpa [zeroRN,and_assoc] using h2
 have HB:Hid (true=Q):=by show _=_;rw [← HQ.out];rfl
 clear hd h1 h2;go_enter Tryz.func89,Tryz.ntmps89;go_wp2_with fail;go_ret;exact ⟨ret_bool HB.out,X⟩
def pastM (b:UInt8) (l:List UInt8):List UInt8:=if Lib.hasPrefix l [b]=true then (Lib.trimPrefix l [b]).dropWhile digC else l
def placeB (l:List UInt8):Bool:=(Lib.hasPrefix l [82] || Lib.hasPrefix (pastM 82 l) [67]) && (pastM 67 (pastM 82 l) == [])
theorem trim_no {b:UInt8} {l:List UInt8} (h:Lib.hasPrefix l [b]=false):Lib.trimPrefix l [b]=l:=by unfold Lib.trimPrefix;rw [h];rfl
theorem trim_le (b:UInt8) (l:List UInt8):(Lib.trimPrefix l [b]).length≤l.length:=by
 unfold Lib.trimPrefix
 split
 ·rw [List.length_drop];omega
 ·omega
theorem dropWhile_le (P:UInt8→Bool) (l:List UInt8):(l.dropWhile P).length≤l.length:=(List.dropWhile_suffix P).sublist.length_le
theorem pastM_le (b:UInt8) (l:List UInt8):(pastM b l).length≤l.length:=by
 unfold pastM
 split
 ·exact Nat.le_trans (dropWhile_le _ _) (trim_le b l)
 ·omega
theorem empty_bs (p:List UInt8):(bs p).toList.isEmpty=(p == []):=by
 have h:(bs p).toList=p:=by rw [ByteArray.toList_eq,bs_list]
 rw [h];cases p <;> rfl
theorem pastM_eq (b:UInt8) (l:List UInt8) (q:Bool) (h:Lib.hasPrefix l [b]=q):pastM b l=if q=true then (Lib.trimPrefix l [b]).dropWhile digC else Lib.trimPrefix l [b]:=by
 unfold pastM;rw [h];cases q
 ·rw [if_neg (by decide),if_neg (by decide),trim_no h]
 ·rfl
set_option maxRecDepth 8000 in
set_option maxHeartbeats 2000000 in
theorem placeI (l:List UInt8) (w:World) (hl:l.length≤2000000):Calls Tryz.prog 111 #[.string (bs l)] w fun e w'=>e=.returned (.bool (placeB l))∧Ext w w':=by
 have C1:=fun w=>cutPrefixC l 82 w;have C2:=fun w=>cutPrefixC (pastM 82 l) 67 w;have D1:=fun w=>leadI (Lib.trimPrefix l [82]) w (Nat.le_trans (trim_le _ _) hl);have D2:=fun w=>leadI (Lib.trimPrefix (pastM 82 l) [67]) w (Nat.le_trans (trim_le _ _) (Nat.le_trans (pastM_le _ _) hl));unfold placeB;obtain ⟨q1,h1⟩:∃ q,Lib.hasPrefix l [82]=q:=⟨_,rfl⟩;obtain ⟨q2,h2⟩:∃ q,Lib.hasPrefix (pastM 82 l) [67]=q:=⟨_,rfl⟩;have f1:=pastM_eq 82 l q1 h1;have f2:=pastM_eq 67 (pastM 82 l) q2 h2;rw [h1] at C1 ⊢;rw [h2] at C2 ⊢;clear h1 h2;obtain ⟨t1,ht1⟩:∃ t,Lib.trimPrefix l [82]=t:=⟨_,rfl⟩;rw [ht1] at C1 D1 f1;obtain ⟨p1,hp1⟩:∃ t,pastM 82 l=t:=⟨_,rfl⟩;rw [hp1] at C2 D2 f1 f2 ⊢;obtain ⟨t2,ht2⟩:∃ t,Lib.trimPrefix p1 [67]=t:=⟨_,rfl⟩;rw [ht2] at C2 D2 f2;obtain ⟨p2,hp2⟩:∃ t,pastM 67 p1=t:=⟨_,rfl⟩;rw [hp2] at f2 ⊢;clear ht1 hp1 ht2 hp2;have HZ:Hid _:=empty_bs;cases q1
 ·obtain rfl:p1=t1:=by simpa using f1
  clear f1 D1;cases q2
  ·obtain rfl:p2=t2:=by simpa using f2
   clear f2 D2;go_enter Tryz.func111,Tryz.ntmps111;go_wp2_with fail;refine (C1 _).mono ?_;rintro e w1 ⟨rfl,rfl⟩;go_wp2_with fail;refine (C2 _).mono ?_;rintro e w2 ⟨rfl,rfl⟩;go_wp2_with fail;go_ret;exact ⟨rfl,xr _⟩
  ·obtain rfl:p2=t2.dropWhile digC:=by simpa using f2
   have hz:=HZ.out (t2.dropWhile digC);obtain ⟨z,ez⟩:∃ z,(t2.dropWhile digC == [])=z:=⟨_,rfl⟩;rw [ez] at hz ⊢;clear f2 ez;go_enter Tryz.func111,Tryz.ntmps111;go_wp2_with fail;refine (C1 _).mono ?_;rintro e w1 ⟨rfl,rfl⟩;go_wp2_with fail;refine (C2 _).mono ?_;rintro e w2 ⟨rfl,rfl⟩;go_wp2_with fail;refine (D2 _).mono ?_;rintro e w3 ⟨rfl,e3⟩;go_wp2_with fail;go_ret;exact ⟨by first | rfl | rw [hz] | (simp [hz]),e3⟩
 ·obtain rfl:p1=t1.dropWhile digC:=by simpa using f1
  clear f1;cases q2
  ·obtain rfl:p2=t2:=by simpa using f2
   have hz:=HZ.out p2;obtain ⟨z,ez⟩:∃ z,(p2 == [])=z:=⟨_,rfl⟩;rw [ez] at hz ⊢;clear f2 D2 ez;go_enter Tryz.func111,Tryz.ntmps111;go_wp2_with fail;refine (C1 _).mono ?_;rintro e w1 ⟨rfl,rfl⟩;go_wp2_with fail;refine (D1 _).mono ?_;rintro e w3 ⟨rfl,e3⟩;go_wp2_with fail;refine (C2 _).mono ?_;rintro e w2 ⟨rfl,rfl⟩;go_wp2_with fail;go_ret;exact ⟨by first | rfl | rw [hz] | (simp [hz]),e3⟩
  ·obtain rfl:p2=t2.dropWhile digC:=by simpa using f2
   have hz:=HZ.out (t2.dropWhile digC);obtain ⟨z,ez⟩:∃ z,(t2.dropWhile digC == [])=z:=⟨_,rfl⟩;rw [ez] at hz ⊢;clear f2 ez;go_enter Tryz.func111,Tryz.ntmps111;go_wp2_with fail;refine (C1 _).mono ?_;rintro e w1 ⟨rfl,rfl⟩;go_wp2_with fail;refine (D1 _).mono ?_;rintro e w3 ⟨rfl,e3⟩;go_wp2_with fail;refine (C2 _).mono ?_;rintro e w2 ⟨rfl,rfl⟩;go_wp2_with fail;refine (D2 _).mono ?_;rintro e w4 ⟨rfl,e4⟩;go_wp2_with fail;go_ret;exact ⟨by first | rfl | rw [hz] | (simp [hz]),xt e3 e4⟩
theorem prefix_at (l:List UInt8) (k:Nat) (b:UInt8) (q:Bool) (h:Lib.hasPrefix (l.drop k) [b]=q):(q=true→k<l.length∧l.getD k 0=b)∧(q=false→l.length≤k∨l.getD k 0 ≠ b):=by
 rcases Nat.lt_or_ge k l.length with hk | hk
 ·have e:l.drop k=l.getD k 0 :: l.drop (k+1):=by
   rw [List.getD_eq_getElem?_getD,List.getElem?_eq_getElem hk];exact List.drop_eq_getElem_cons hk
  rw [e] at h;have h':(b == l.getD k 0)=q:=by
   have:=h;simp only [Lib.hasPrefix,List.isPrefixOf,Bool.and_true] at this;exact this
  refine ⟨fun hq=>⟨hk,?_⟩,fun hq=>.inr ?_⟩
  ·rw [hq] at h';exact (beq_iff_eq.1 h').symm
  ·rw [hq] at h';exact fun e=>by rw [e] at h';simp at h'
 ·refine ⟨fun hq=>?_,fun _=>.inl hk⟩;rw [List.drop_eq_nil_of_le hk,hq] at h;cases h
theorem past_at (l:List UInt8) (k:Nat) (b:UInt8) (hp:Lib.hasPrefix (l.drop k) [b]=true):pastM b (l.drop k)=(l.drop (k+1)).dropWhile digC:=by
 unfold pastM Lib.trimPrefix;rw [if_pos hp,if_pos hp];rw [List.drop_drop];rfl
theorem past_end {l:List UInt8} {n k0 k:Nat} (hn:l.length=n) (h1:k0+1≤k) (h2:k≤n) (ha:((l.drop (k0+1)).take (k - (k0+1))).all digC=true) (hs:k=n∨digC (l.getD k 0)=false):l.drop k=(l.drop (k0+1)).dropWhile digC:=by
 have e:l.getD k 0=(l.drop (k0+1)).getD (k - (k0+1)) 0:=by
  rw [List.getD_eq_getElem?_getD,List.getD_eq_getElem?_getD,List.getElem?_drop]
  congr 2
  omega
 have hr:=takeWhile_at digC (l.drop (k0+1)) (k - (k0+1)) ha (by rw [List.length_drop];omega) (by
  rcases hs with hs | hs
  ·left;rw [List.length_drop];omega
  ·right;rw [← e];exact hs)
 have h3:=(splitW digC (l.drop (k0+1))).2;rw [hr,List.drop_drop] at h3;rw [← h3]
 congr 1
 omega
theorem more_dig {l:List UInt8} {n k0 k:Nat} (hn:l.length=n) (h1:k0+1≤k) (h2:k<n) (ha:((l.drop (k0+1)).take (k - (k0+1))).all digC=true) (hd:digC (l.getD k 0)=true):((l.drop (k0+1)).take (k+1 - (k0+1))).all digC=true:=by
 have e:l.getD k 0=(l.drop (k0+1)).getD (k - (k0+1)) 0:=by
  rw [List.getD_eq_getElem?_getD,List.getD_eq_getElem?_getD,List.getElem?_drop]
  congr 2
  omega
 rw [show k+1 - (k0+1)=(k - (k0+1))+1 by omega,take_at (by rw [List.length_drop];omega),List.all_append,ha,List.all_cons,← e,hd];rfl
set_option maxRecDepth 8000 in
set_option maxHeartbeats 4000000 in
theorem secondS (l:List UInt8) (w:World) (hl:l.length≤2000000):Calls Tryz.prog 125 #[.string (bs l)] w fun e w'=>e=.returned (.bool (placeB l))∧w'=w:=by
 obtain ⟨s,hs⟩:∃ s:ByteArray,bs l=s:=⟨_,rfl⟩;have hsl:s.data.toList=l:=by rw [← hs];rfl
 have hsz:=size_ofL' hsl;rw [hs];clear hs;obtain ⟨n,hn⟩:∃ n,l.length=n:=⟨_,rfl⟩;have HN:Hid _:=hn;have HS:Hid _:=hsl;rw [hn] at hl hsz;clear hn hsl;obtain ⟨q1,hq1⟩:∃ q,Lib.hasPrefix l [82]=q:=⟨_,rfl⟩;obtain ⟨P1,hP1⟩:∃ P,pastM 82 l=P:=⟨_,rfl⟩;have HP82:Hid (q1=true→P1=(l.drop (0+1)).dropWhile digC):=fun h=>by rw [← hP1];exact past_at l 0 82 (by rw [List.drop_zero,hq1,h])
 have HF82:Hid (q1=false→l.drop 0=P1):=fun h=>by rw [← hP1];unfold pastM;rw [hq1,h];rfl
 have t1:=prefix_at l 0 82 q1 hq1;have T82:Hid ((q1=true→0<n∧∀ h:0<s.size,((s[0]'h).toNat:Int)=82)∧(q1=false→n≤0∨(0<n∧∀ h:0<s.size,((s[0]'h).toNat:Int) ≠ 82))):=by
  refine ⟨fun h=>?_,fun h=>?_⟩
  ·obtain ⟨h1,h2⟩:=t1.1 h;exact ⟨by rw [← HN.out];exact h1,fun hk=>by rw [byte_atA HS.out hk,h2];rfl⟩
  ·rcases Nat.eq_zero_or_pos n with h0 | h0
   ·exact .inl (by omega)
   ·refine .inr ⟨h0,fun hk=>?_⟩
    rcases t1.2 h with h2 | h2
    ·rw [HN.out] at h2;omega
    ·rw [byte_atA HS.out hk];intro e;exact h2 (UInt8.toNat_inj.1 (show (l.getD 0 0).toNat=82 by omega))
 obtain ⟨q2,hq2⟩:∃ q,Lib.hasPrefix P1 [67]=q:=⟨_,rfl⟩;obtain ⟨P2,hP2⟩:∃ P,pastM 67 P1=P:=⟨_,rfl⟩;have HQ2:Hid (Lib.hasPrefix P1 [67]=q2∧pastM 67 P1=P2):=⟨hq2,hP2⟩;have PB:placeB l=((q1 || q2) && (P2 == [])):=by unfold placeB;rw [hP1,hq1,hq2,hP2]
 rw [PB];obtain ⟨R,hR⟩:∃ R,((q1 || q2) && (P2 == []))=R:=⟨_,rfl⟩;have HR:Hid _:=hR;rw [hR];clear t1 hq1 hP1 PB hq2 hP2 hR;go_enter Tryz.func125,Tryz.ntmps125;go_upto_region 3 with fail;go_cut [14] (fun v wc=>v=.bool q1∧wc=w)
 case first =>
  cases q1
  ·have hf:=T82.out.2 rfl
   rcases hf with hf | ⟨hf,hne⟩
   ·have hf':¬ ((0:Int)<(n:Int)):=(by omega);go_wp2_with fail;go_meet
    case rel=>exact ⟨rfl,rfl⟩
   ·have hks:0<s.size:=(by omega);obtain ⟨N,hN⟩:∃ N:Int,((s[0]'hks).toNat:Int)=N:=⟨_,rfl⟩;have hne':(N == 82)=false:=(by rw [beq_eq_false_iff_ne,← hN];exact hne hks);have hf':(0:Int)<(n:Int):=(by omega);go_wp2_with fail;go_meet
    case rel=>exact ⟨rfl,rfl⟩
  ·obtain ⟨hf,he⟩:=T82.out.1 rfl;have hks:0<s.size:=by omega
   have hN:((s[0]'hks).toNat:Int)=82:=he hks;have hf':(0:Int)<(n:Int):=by omega
   go_wp2_with fail;go_meet
   case rel=>exact ⟨rfl,rfl⟩
 case rest =>
  obtain ⟨rfl,hwc⟩:=hcut;rw [hwc];clear hwc;go_upto_if 14 with fail;go_cut [3,4] (fun i a wc=>∃ k:Nat,i=.int .i64 k∧a=.int .i64 (if q1=true then 1 else 0)∧k≤n∧Hid (l.drop k=P1)∧wc=w)
  case first =>
   cases q1
   ·have HE:=HF82.out rfl;have HE':Hid _:=HE;clear HE;go_wp2_with fail;go_meet
    case rel=>exact ⟨0,rfl,rfl,by omega,HE',rfl⟩
   ·have h0:=(T82.out.1 rfl).1;go_wp2_with fail
    go_loop [3] (fun i=>∃ k:Nat,(0+1≤k∧k≤n)∧i=.int .i64 k∧Hid (((l.drop (0+1)).take (k - (0+1))).all digC=true)) (fun i=>n - (intOf i).toNat)
    case atStart=>exact ⟨0+1,by omega,by go_num,by show _=_;simp⟩
    case round =>
     obtain ⟨k,⟨hk1,hk⟩,rfl,HA⟩:=hrel;by_cases hlt:k<n
     ·have hks:k<s.size:=(by omega);have hb0:=byte_atA HS.out hks;obtain ⟨c,hcc⟩:∃ c,l.getD k 0=c:=⟨_,rfl⟩;have hb:((s[k]'hks).toNat:Int)=(c.toNat:Int):=(by rw [hb0,hcc]);have i2:(k:Int)<(n:Int):=(by omega);obtain ⟨p,hp⟩:∃ p,digC c=p:=⟨_,rfl⟩;have D:=fun w=>dgtS (c.toNat:Int) w;have hp':digZ (c.toNat:Int)=p:=hp;rw [hp'] at D;cases p
      ·have HE:Hid (l.drop k=P1):=by show _=_;rw [HP82.out (by first | rfl | trivial)];exact past_end HN.out hk1 hk HA.out (.inr (by rw [hcc];exact hp))
       obtain ⟨N,hN⟩:∃ N:Int,(c.toNat:Int)=N:=⟨_,rfl⟩;rw [hN] at hb D;clear hN hp hp' hb0 hcc HA;go_wp2_with (go_at_call 56;refine (D _).mono ?_;rintro e w1 ⟨rfl,rfl⟩);go_meet
       case rel=>exact ⟨k,rfl,rfl,hk,HE,rfl⟩
      ·have HA2:Hid (((l.drop (0+1)).take (k+1 - (0+1))).all digC=true):=more_dig HN.out hk1 hlt HA.out (by rw [hcc];exact hp);obtain ⟨N,hN⟩:∃ N:Int,(c.toNat:Int)=N:=⟨_,rfl⟩;rw [hN] at hb D;clear hN hp hp' hb0 hcc HA;go_wp2_with (go_at_call 56;refine (D _).mono ?_;rintro e w1 ⟨rfl,rfl⟩)
       go_round
       case rel=>exact ⟨k+1,by omega,by go_num,HA2⟩
       case measure=>simp [intOf];omega
     ·obtain rfl:k=n:=(by omega);have HE:Hid (l.drop k=P1):=by show _=_;rw [HP82.out (by first | rfl | trivial)];exact past_end HN.out hk1 hk HA.out (.inl rfl)
      clear HA;go_wp2_with fail;go_meet
      case rel=>exact ⟨k,rfl,rfl,hk,HE,rfl⟩
  case rest =>
   obtain ⟨k0,rfl,rfl,hk0,HD,hwc⟩:=hcut;rw [hwc];clear hwc T82 HF82 HP82;obtain ⟨a1,ha1⟩:∃ a:Int,(if q1=true then (1:Int) else 0)=a:=⟨_,rfl⟩;have ha2:Hid ((a1=0∧q1=false)∨(a1=1∧q1=true)):=by
    show _∨_;rw [← ha1];cases q1
    ·exact .inl ⟨rfl,rfl⟩
    ·exact .inr ⟨rfl,rfl⟩
   have ha3:0≤a1∧a1≤1:=by rcases ha2.out with h | h <;> omega
   rw [ha1];clear ha1;obtain ⟨hq2,hP2⟩:=HQ2.out;have HP67:Hid (q2=true→P2=(l.drop (k0+1)).dropWhile digC):=fun h=>by rw [← hP2,← HD.out];exact past_at l k0 67 (by rw [HD.out,hq2,h])
   have HF67:Hid (q2=false→l.drop k0=P2):=fun h=>by rw [← hP2,HD.out];unfold pastM;rw [hq2,h];rfl
   have t1:=prefix_at l k0 67 q2 (by rw [HD.out];exact hq2);have T67:Hid ((q2=true→k0<n∧∀ h:k0<s.size,((s[k0]'h).toNat:Int)=67)∧(q2=false→n≤k0∨(k0<n∧∀ h:k0<s.size,((s[k0]'h).toNat:Int) ≠ 67))):=by
    refine ⟨fun h=>?_,fun h=>?_⟩
    ·obtain ⟨h1,h2⟩:=t1.1 h;exact ⟨by rw [← HN.out];exact h1,fun hk=>by rw [byte_atA HS.out hk,h2];rfl⟩
    ·rcases Nat.lt_or_ge k0 n with h0 | h0
     ·refine .inr ⟨h0,fun hk=>?_⟩
      rcases t1.2 h with h2 | h2
      ·rw [HN.out] at h2;omega
      ·rw [byte_atA HS.out hk];intro e;exact h2 (UInt8.toNat_inj.1 (show (l.getD k0 0).toNat=67 by omega))
     ·exact .inl h0
   clear t1 hq2 hP2 HD HQ2;go_upto_region 8 with fail;go_cut [40] (fun v wc=>v=.bool q2∧wc=w)
   case first =>
    cases q2
    ·have hf:=T67.out.2 rfl
     rcases hf with hf | ⟨hf,hne⟩
     ·have hf':¬ ((k0:Int)<(n:Int)):=(by omega);go_wp2_with fail;go_meet
      case rel=>exact ⟨rfl,rfl⟩
     ·have hks:k0<s.size:=(by omega);obtain ⟨N,hN⟩:∃ N:Int,((s[k0]'hks).toNat:Int)=N:=⟨_,rfl⟩;have hne':(N == 67)=false:=(by rw [beq_eq_false_iff_ne,← hN];exact hne hks);have hf':(k0:Int)<(n:Int):=(by omega);go_wp2_with fail;go_meet
      case rel=>exact ⟨rfl,rfl⟩
    ·obtain ⟨hf,he⟩:=T67.out.1 rfl;have hks:k0<s.size:=(by omega);have hN:((s[k0]'hks).toNat:Int)=67:=he hks;have hf':(k0:Int)<(n:Int):=(by omega);go_wp2_with fail;go_meet
     case rel=>exact ⟨rfl,rfl⟩
   case rest =>
    obtain ⟨rfl,hwc⟩:=hcut;rw [hwc];clear hwc;go_upto_if 40 with fail;go_cut [3,4] (fun i a wc=>∃ k:Nat,i=.int .i64 k∧a=.int .i64 (a1+if q2=true then 1 else 0)∧k≤n∧Hid (l.drop k=P2)∧wc=w)
    case first =>
     cases q2
     ·have HE':Hid (l.drop k0=P2):=HF67.out rfl;go_wp2_with fail;go_meet
      case rel=>exact ⟨k0,rfl,by simp,hk0,HE',rfl⟩
     ·have h0:=(T67.out.1 rfl).1;go_wp2_with fail
      go_loop [3] (fun i=>∃ k:Nat,(k0+1≤k∧k≤n)∧i=.int .i64 k∧Hid (((l.drop (k0+1)).take (k - (k0+1))).all digC=true)) (fun i=>n - (intOf i).toNat)
      case atStart=>exact ⟨k0+1,by omega,by go_num,by show _=_;simp⟩
      case round =>
       obtain ⟨k,⟨hk1,hk⟩,rfl,HA⟩:=hrel;by_cases hlt:k<n
       ·have hks:k<s.size:=(by omega);have hb0:=byte_atA HS.out hks;obtain ⟨c,hcc⟩:∃ c,l.getD k 0=c:=⟨_,rfl⟩;have hb:((s[k]'hks).toNat:Int)=(c.toNat:Int):=(by rw [hb0,hcc]);have i2:(k:Int)<(n:Int):=(by omega);obtain ⟨p,hp⟩:∃ p,digC c=p:=⟨_,rfl⟩;have D:=fun w=>dgtS (c.toNat:Int) w;have hp':digZ (c.toNat:Int)=p:=hp;rw [hp'] at D;cases p
        ·have HE:Hid (l.drop k=P2):=by show _=_;rw [HP67.out (by first | rfl | trivial)];exact past_end HN.out hk1 hk HA.out (.inr (by rw [hcc];exact hp))
         obtain ⟨N,hN⟩:∃ N:Int,(c.toNat:Int)=N:=⟨_,rfl⟩;rw [hN] at hb D;clear hN hp hp' hb0 hcc HA;go_wp2_with (go_at_call 56;refine (D _).mono ?_;rintro e w1 ⟨rfl,rfl⟩);go_meet
         case rel=>exact ⟨k,rfl,by simp,hk,HE,rfl⟩
        ·have HA2:Hid (((l.drop (k0+1)).take (k+1 - (k0+1))).all digC=true):=more_dig HN.out hk1 hlt HA.out (by rw [hcc];exact hp);obtain ⟨N,hN⟩:∃ N:Int,(c.toNat:Int)=N:=⟨_,rfl⟩;rw [hN] at hb D;clear hN hp hp' hb0 hcc HA;go_wp2_with (go_at_call 56;refine (D _).mono ?_;rintro e w1 ⟨rfl,rfl⟩)
         go_round
         case rel=>exact ⟨k+1,by omega,by go_num,HA2⟩
         case measure=>simp [intOf];omega
       ·obtain rfl:k=n:=(by omega);have HE:Hid (l.drop k=P2):=by show _=_;rw [HP67.out (by first | rfl | trivial)];exact past_end HN.out hk1 hk HA.out (.inl rfl)
        clear HA;go_wp2_with fail;go_meet
        case rel=>exact ⟨k,rfl,by simp,hk,HE,rfl⟩
    case rest =>
     obtain ⟨k2,rfl,rfl,hk2,HD,hwc⟩:=hcut;rw [hwc];clear hwc T67 HF67 HP67;have HZ:Hid ((P2 == [])=decide ((k2:Int)=(n:Int))):=by
      show _=_;rw [← HD.out];by_cases h:k2=n
      ·subst h;rw [List.drop_eq_nil_of_le (by rw [HN.out];omega)];simp
      ·have hne:l.drop k2 ≠ []:=fun e=>by
        have:=congrArg List.length e;rw [List.length_drop,HN.out] at this;simp at this;omega
       rw [beq_eq_false_iff_ne.2 hne];simp;omega
     have HQ:Hid ((q1 || q2)=decide (a1+(if q2=true then 1 else 0) > 0)):=by
      show _=_
      rcases ha2.out with ⟨rfl,rfl⟩ | ⟨rfl,rfl⟩ <;> cases q2 <;> decide
     obtain ⟨a2,ha4⟩:∃ a:Int,a1+(if q2=true then (1:Int) else 0)=a:=⟨_,rfl⟩;rw [ha4] at HQ ⊢;clear ha4 ha2 ha3 HD;by_cases c1:a2 > 0
     ·by_cases c2:(k2:Int)=(n:Int)
      ·have hr:R=true:=(by rw [← HR.out,HQ.out,HZ.out];simp [c1,c2]);subst hr;clear HR HQ HZ;go_wp2_with fail;go_ret;exact ⟨by first | rfl | simp [c2],rfl⟩
      ·have hr:R=false:=(by rw [← HR.out,HQ.out,HZ.out];simp [c2]);have c3:((k2:Int) == (n:Int))=false:=(by rw [beq_eq_false_iff_ne];exact c2);subst hr;clear HR HQ HZ c2;go_wp2_with fail;go_ret;exact ⟨by first | rfl | simp [c3],rfl⟩
     ·have hr:R=false:=(by rw [← HR.out,HQ.out];simp [c1]);subst hr;clear HR HQ HZ;go_wp2_with fail;go_ret;exact ⟨rfl,rfl⟩
set_option maxRecDepth 8000 in
set_option maxHeartbeats 1000000 in
theorem capsI (l:List UInt8) (w:World) (hl:l.length≤2000000) :
  Calls Tryz.prog 79 #[sV l] w fun e w'=>e=.returned (sV (l.map upC))∧Ext w w':=by
 obtain ⟨cap,wb,hcv,hcap,X0,V0⟩:=bytes_made l w;obtain ⟨n,hn⟩:∃ n,l.length=n:=⟨_,rfl⟩;rw [hn] at hcv hcap hl;have HN:Hid _:=hn;have V0':Hid (Vec wb w.heap.size (encB (upK l 0))):=by show Vec _ _ _;rw [upK_zero];exact V0
 clear hn V0;go_enter Tryz.func79,Tryz.ntmps79;go_wp2_with fail;clear hcv;go_loopw [10] (fun i wr=>∃ k:Nat,k≤n∧i=.int .i64 k∧Hid (Vec wr w.heap.size (encB (upK l k)))∧Ext w wr) (fun i _=>n - (intOf i).toNat)
 case atStart=>exact ⟨0,by omega,rfl,V0',X0⟩
 case round =>
  obtain ⟨k,hk,rfl,V,X⟩:=hrel;by_cases hlt:k<n
  ·obtain ⟨c,hc⟩:∃ c,l[k]?=some c:=⟨_,List.getElem?_eq_getElem (by rw [HN.out];exact hlt)⟩;obtain ⟨a0,f0⟩:=V.out k _ (encB_at (upK_at hc));have i1:(0:Int)≤(k:Int):=by omega
   have i2:(k:Int)<(n:Int):=by omega
   have hz:c.toNat<256:=UInt8.toNat_lt c;have VP:=V.out.put k (by rw [encB_length,upK_length,HN.out];exact hlt) (.int .u8 ((upC c).toNat:Int));have es:(encB (upK l k)).set k (.int .u8 ((upC c).toNat:Int))=encB (upK l (k+1)):=by rw [upK_succ hc];simp [encB,List.map_set]
   rw [es] at VP;by_cases hs:97≤c.toNat∧c.toNat≤122
   ·have eu:=upC_small hs;rw [eu] at VP;have HV:Hid _:=VP;obtain ⟨z,ez⟩:∃ z:Int,(c.toNat:Int)=z:=⟨_,rfl⟩;rw [ez] at a0 HV;have z1:97≤z:=(by omega);have z2:z≤122:=(by omega);clear V VP es eu hc hs ez hz;go_wp2_with fail;go_roundw
    case rel=>exact ⟨k+1,by omega,by go_num,by first | exact HV | (show Vec _ _ _;have:=HV.out;rw [show z - 97+65=z - 32 by omega];exact this),xset X (Nat.le_refl _) _⟩
    case measure=>simp [intOf];omega
   ·have eu:=upC_other hs;have HV:Hid (Vec wr w.heap.size (encB (upK l (k+1)))):=by
     show Vec _ _ _;have:upK l (k+1)=upK l k:=by
      rw [upK_succ hc,eu];exact List.ext_getElem? fun i=>by
       rw [List.getElem?_set]
       split
       ·next e=>subst e;rw [if_pos (by rw [upK_length,HN.out];exact hlt)];exact (upK_at hc).symm
       ·rfl
     rw [this];exact V.out
    obtain ⟨z,ez⟩:∃ z:Int,(c.toNat:Int)=z:=⟨_,rfl⟩;rw [ez] at a0;have z3:0≤z∧z≤255:=(by omega);have z4:z<97∨122<z:=(by omega);clear V VP es eu hc hs ez hz
    rcases z4 with z4 | z4
    ·go_wp2_with fail;go_roundw
     case rel=>exact ⟨k+1,by omega,by go_num,HV,X⟩
     case measure=>simp [intOf];omega
    ·have z5:97≤z:=(by omega);go_wp2_with fail;go_roundw
     case rel=>exact ⟨k+1,by omega,by go_num,HV,X⟩
     case measure=>simp [intOf];omega
  ·obtain rfl:k=n:=by omega
   have hb:=bytes_back (l.map upC) w.heap.size cap wr (by have:=V.out;rw [← HN.out,upK_all] at this;exact this);rw [List.length_map,HN.out] at hb;go_wp2_with fail;go_ret;exact ⟨rfl,X⟩
set_option maxRecDepth 8000 in
set_option maxHeartbeats 1000000 in
theorem capsS (l:List UInt8) (w:World) (hl:l.length≤2000000) :
  Calls Tryz.prog 95 #[sV l] w fun e w'=>e=.returned (sV (l.map upC))∧Ext w w':=by
 obtain ⟨cap,wb,hcv,hcap,X0,V0⟩:=bytes_made l w;obtain ⟨n,hn⟩:∃ n,l.length=n:=⟨_,rfl⟩;rw [hn] at hcv hcap hl;have HN:Hid _:=hn;have V0':Hid (Vec wb w.heap.size (encB (upK l 0))):=by show Vec _ _ _;rw [upK_zero];exact V0
 clear hn V0;go_enter Tryz.func95,Tryz.ntmps95;go_wp2_with fail;clear hcv;go_loopw [10] (fun i wr=>∃ k:Nat,k≤n∧i=.int .i64 k∧Hid (Vec wr w.heap.size (encB (upK l k)))∧Ext w wr) (fun i _=>n - (intOf i).toNat)
 case atStart=>exact ⟨0,by omega,rfl,V0',X0⟩
 case round =>
  obtain ⟨k,hk,rfl,V,X⟩:=hrel;by_cases hlt:k<n
  ·obtain ⟨c,hc⟩:∃ c,l[k]?=some c:=⟨_,List.getElem?_eq_getElem (by rw [HN.out];exact hlt)⟩;obtain ⟨a0,f0⟩:=V.out k _ (encB_at (upK_at hc));have i1:(0:Int)≤(k:Int):=by omega
   have i2:(k:Int)<(n:Int):=by omega
   have hz:c.toNat<256:=UInt8.toNat_lt c;have VP:=V.out.put k (by rw [encB_length,upK_length,HN.out];exact hlt) (.int .u8 ((upC c).toNat:Int));have es:(encB (upK l k)).set k (.int .u8 ((upC c).toNat:Int))=encB (upK l (k+1)):=by rw [upK_succ hc];simp [encB,List.map_set]
   rw [es] at VP;by_cases hs:97≤c.toNat∧c.toNat≤122
   ·have eu:=upC_small hs;rw [eu] at VP;have HV:Hid _:=VP;obtain ⟨z,ez⟩:∃ z:Int,(c.toNat:Int)=z:=⟨_,rfl⟩;rw [ez] at a0 HV;have z1:97≤z:=(by omega);have z2:z≤122:=(by omega);clear V VP es eu hc hs ez hz;go_wp2_with fail;go_roundw
    case rel=>exact ⟨k+1,by omega,by go_num,HV,xset X (Nat.le_refl _) _⟩
    case measure=>simp [intOf];omega
   ·have eu:=upC_other hs;have HV:Hid (Vec wr w.heap.size (encB (upK l (k+1)))):=by
     show Vec _ _ _;have:upK l (k+1)=upK l k:=by
      rw [upK_succ hc,eu];exact List.ext_getElem? fun i=>by
       rw [List.getElem?_set]
       split
       ·next e=>subst e;rw [if_pos (by rw [upK_length,HN.out];exact hlt)];exact (upK_at hc).symm
       ·rfl
     rw [this];exact V.out
    obtain ⟨z,ez⟩:∃ z:Int,(c.toNat:Int)=z:=⟨_,rfl⟩;rw [ez] at a0;have z3:0≤z∧z≤255:=(by omega);have z4:z<97∨122<z:=(by omega);clear V VP es eu hc hs ez hz
    rcases z4 with z4 | z4
    ·go_wp2_with fail;go_roundw
     case rel=>exact ⟨k+1,by omega,by go_num,HV,X⟩
     case measure=>simp [intOf];omega
    ·have z5:97≤z:=(by omega);go_wp2_with fail;go_roundw
     case rel=>exact ⟨k+1,by omega,by go_num,HV,X⟩
     case measure=>simp [intOf];omega
  ·obtain rfl:k=n:=by omega
   have hb:=bytes_back (l.map upC) w.heap.size cap wr (by have:=V.out;rw [← HN.out,upK_all] at this;exact this);rw [List.length_map,HN.out] at hb;go_wp2_with fail;go_ret;exact ⟨rfl,X⟩
end Go.Proofs.YtogecaajnjcenaaGreatDoor

