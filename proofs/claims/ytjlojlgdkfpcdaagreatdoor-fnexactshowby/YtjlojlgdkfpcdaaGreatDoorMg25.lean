/-
  Several texts in one: Kz, K1, Kt.
-/
import Derived.Test.YtjlojlgdkfpcdaaGreatDoorMg24
import Derived.Test.YtjlojlgdkfpcdaaGreatDoorMg3
namespace Go.Proofs.YtjlojlgdkfpcdaaGreatDoor
open Go.RowKit
abbrev wordsV:Value:=.agg marksV.toArray
theorem word_at (k:Nat) (hk:k<14):∃ o,wordsT[k]?=some o∧∀ W:World,(Instr.index 197 wordsV (.int .i64 k)).run Tryz.prog W=.ok (sV o) W:=by
 match k,hk with
 | 0,_=>exact ⟨_,rfl,fun W=>by kernel_rfl⟩
 | 1,_=>exact ⟨_,rfl,fun W=>by kernel_rfl⟩
 | 2,_=>exact ⟨_,rfl,fun W=>by kernel_rfl⟩
 | 3,_=>exact ⟨_,rfl,fun W=>by kernel_rfl⟩
 | 4,_=>exact ⟨_,rfl,fun W=>by kernel_rfl⟩
 | 5,_=>exact ⟨_,rfl,fun W=>by kernel_rfl⟩
 | 6,_=>exact ⟨_,rfl,fun W=>by kernel_rfl⟩
 | 7,_=>exact ⟨_,rfl,fun W=>by kernel_rfl⟩
 | 8,_=>exact ⟨_,rfl,fun W=>by kernel_rfl⟩
 | 9,_=>exact ⟨_,rfl,fun W=>by kernel_rfl⟩
 | 10,_=>exact ⟨_,rfl,fun W=>by kernel_rfl⟩
 | 11,_=>exact ⟨_,rfl,fun W=>by kernel_rfl⟩
 | 12,_=>exact ⟨_,rfl,fun W=>by kernel_rfl⟩
 | 13,_=>exact ⟨_,rfl,fun W=>by kernel_rfl⟩
set_option maxRecDepth 8000 in
set_option maxHeartbeats 2000000 in
theorem wordI (l:BL) (w:World) (T:TabK w):Calls Tryz.prog 131 #[sV l] w fun e w'=>e=.returned (sV (wordF l))∧w'=w:=by
 have HF:Hid (∀ (k:Nat) o,wordsT[k]?=some o→Lib.hasPrefix l o=true→(∀ (j:Nat) o,j<k→wordsT[j]?=some o→Lib.hasPrefix l o=false)→wordF l=o):=fun k o h1 h2 h3=>wordF_at h1 h2 h3;have HX:Hid ((∀ (j:Nat) o,wordsT[j]?=some o→Lib.hasPrefix l o=false)→wordF l=[]):=fun h=>wordF_none h;obtain ⟨R,hR⟩:∃ R,wordF l=R:=⟨_,rfl⟩;rw [hR] at HF HX ⊢;clear hR;have hr':w.rangeAt 3 0 marksV:=T.2.2;clear T;go_enter Tryz.func131,Tryz.ntmps131;go_wp2_with (refine wpList_load_mid rfl _ _ rfl 3 0 rfl marksV _ hr' Tryz.underlying197 rfl (by kernel_rfl) ?_);clear hr';go_loopw [6] (fun i wr=>∃ k:Nat,k≤14∧i=.int .i64 k∧Hid (∀ (j:Nat) o,j<k→wordsT[j]?=some o→Lib.hasPrefix l o=false)∧wr=w) (fun i _=>14 - (intOf i).toNat)
 case atStart=>exact ⟨0,by omega,rfl,(fun j o hj=>by omega),rfl⟩
 case round =>
  obtain ⟨k,hk,rfl,HA,rfl⟩:=hrel;by_cases hlt:k<14
  ·obtain ⟨t,ho,hix⟩:=word_at k hlt;have i2:(k:Int)<14:=by omega
   have P:=fun w=>hasPrefI l t w;obtain ⟨p,hp⟩:∃ p,Lib.hasPrefix l t=p:=⟨_,rfl⟩;rw [hp] at P;cases p
   ·have HA2:Hid (∀ (j:Nat) o,j<k+1→wordsT[j]?=some o→Lib.hasPrefix l o=false):=fun j o hj h=>by
     rcases Nat.lt_or_ge j k with hjk | hjk
     ·exact HA.out j o hjk h
     ·obtain rfl:j=k:=(by omega);rw [ho] at h;cases h;exact hp
    clear HA ho hp;go_wp2_with fail;refine (P _).mono ?_;rintro e w2 ⟨rfl,h2⟩;rw [h2];clear h2;go_wp2_with fail;go_roundw
    case rel=>exact ⟨k+1,by omega,by go_num,HA2,trivial⟩
    case measure=>simp [intOf];omega
   ·have hr:=HF.out k t ho hp HA.out;subst hr;clear HA ho hp HF HX;go_wp2_with fail;refine (P _).mono ?_;rintro e w2 ⟨rfl,h2⟩;rw [h2];clear h2;go_wp2_with fail;go_ret;exact ⟨rfl,rfl⟩
  ·obtain rfl:k=14:=by omega
   have hr:=HX.out (fun j o h=>HA.out j o (by have:=(List.getElem?_eq_some_iff.1 h).1;simpa [wordsT] using this) h);subst hr;clear HA HF HX;go_wp2_with fail;go_ret;exact ⟨rfl,rfl⟩
theorem dateN_le:∀ (k:Nat) (l:BL),dateN k l≤l.length:=by
 intro k
 induction k with
 | zero=>intro l;simp [dateN]
 | succ k ih =>
  intro l;have h1:=wordF_le l;have h2:=ih (l.drop (wordF l).length);rw [List.length_drop] at h2;simp only [dateN];omega
set_option maxRecDepth 8000 in
set_option maxHeartbeats 2000000 in
theorem dateLenI (l:BL) (hl:l.length≤1000) (w:World) (T:TabK w) :
  Calls Tryz.prog 107 #[sV l] w fun e w'=>e=.returned (.int .i64 (dateLen l:Nat))∧w'=w:=by
 cases l with
 | nil =>
  clear T;go_enter Tryz.func107,Tryz.ntmps107;go_wp2_with fail;go_ret;exact ⟨rfl,rfl⟩
 | cons c r =>
  have he:(c :: r == ([]:BL))=false:=rfl;obtain ⟨l,hL⟩:∃ l,c :: r=l:=⟨_,rfl⟩;have hd0:dateLen (c :: r)=if letF c then dateN 12 (c :: r) else 0:=rfl;have hc0:l.getD 0 0=c:=by rw [← hL];rfl
  have hn0:0<l.length:=by rw [← hL];simp
  rw [hL] at he hd0 hl ⊢;clear hL;obtain ⟨s,hs⟩:∃ s:ByteArray,(⟨l.toArray⟩:ByteArray)=s:=⟨_,rfl⟩;have hsl:s.data.toList=l:=by rw [← hs]
  have hsz:=size_ofL' hsl;have hk0:0<s.size:=by omega
  have hb0:=byte_atA hsl hk0;rw [hc0] at hb0;have hb:((s[0]'hk0).toNat:Int)=(c.toNat:Int):=by rw [hb0]
  have EX:∀ q,s.extract q s.size=⟨(l.drop q).toArray⟩:=fun q=>by
   rw [← hs,ext_sub]
   congr 2
   rw [List.take_of_length_le];rw [List.length_drop];exact Nat.le_refl _
  have LC:=fun W=>letterI c W;obtain ⟨N,hN⟩:∃ N:Int,(c.toNat:Int)=N:=⟨_,rfl⟩;rw [hN] at hb;simp only [hN] at LC;have hse:(s.toList == [])=false:=by
   rw [ByteArray.toList_eq,hsl];exact he
  show Calls Tryz.prog 107 #[.string ⟨l.toArray⟩] w _;rw [hs];obtain ⟨n,hn⟩:∃ n,l.length=n:=⟨_,rfl⟩;have HN:Hid (l.length=n):=hn;rw [hn] at hl hsz hn0;obtain ⟨R,hR⟩:∃ R,dateLen l=R:=⟨_,rfl⟩;have HD:Hid (R=if letF c then dateN 12 l else 0):=by show _=_;rw [← hR];exact hd0
  rw [hR];clear hR hd0 hN hb0 hs hn hc0 he;obtain ⟨lb,hlb⟩:∃ b,letF c=b:=⟨_,rfl⟩;rw [hlb] at HD;simp only [hlb] at LC;clear hlb;cases lb
  ·have HE:Hid (R=0):=HD.out;clear HD EX hsl;go_enter Tryz.func107,Tryz.ntmps107;go_wp2_with fail;refine (LC _).mono ?_;rintro e w1 ⟨rfl,rfl⟩;go_wp2_with fail;go_ret;exact ⟨ret_int (by rw [HE.out];rfl),rfl⟩
  ·have HE:Hid (0+dateN (12 - 0) (l.drop 0)=R):=by show _=_;rw [HD.out];simp
   have HT:Hid (TabK w):=T;have HX:Hid (∀ q,s.extract q s.size=⟨(l.drop q).toArray⟩):=EX;clear HD EX hsl T;go_enter Tryz.func107,Tryz.ntmps107;go_wp2_with fail;refine (LC _).mono ?_;rintro e w1 ⟨rfl,rfl⟩;go_wp2_with fail;go_loopw [13,3] (fun i v wr=>∃ (k q:Nat),k≤12∧i=.int .i64 k∧q≤n∧v=.int .i64 q∧Hid (q+dateN (12 - k) (l.drop q)=R)∧wr=w1) (fun i _ _=>12 - (intOf i).toNat)
   case atStart=>exact ⟨0,0,by omega,rfl,by omega,rfl,HE,rfl⟩
   case round =>
    obtain ⟨k,q,hk,rfl,hq,rfl,HQ,rfl⟩:=hrel;by_cases hlt:k<12
    ·have i2:(k:Int)<12:=(by omega);have i3:(q:Int)≤(n:Int):=(by omega);have WI:∀ W,TabK W→Calls Tryz.prog 131 #[.string (s.extract q n)] W fun e w'=>e=.returned (sV (wordF (l.drop q)))∧w'=W:=fun W hW=>by
      have:=HX.out q;rw [hsz] at this;rw [this];exact wordI (l.drop q) W hW
     have hle:=wordF_le (l.drop q);rw [List.length_drop,HN.out] at hle;have HQ2:Hid ((q+(wordF (l.drop q)).length)+dateN (12 - (k+1)) (l.drop (q+(wordF (l.drop q)).length))=R):=by
      show _=_;have:=HQ.out;rw [show 12 - k=(12 - (k+1))+1 by omega] at this;simp only [dateN,List.drop_drop] at this;omega
     obtain ⟨t,ht⟩:∃ t,wordF (l.drop q)=t:=⟨_,rfl⟩;rw [ht] at HQ2 hle;simp only [ht] at WI;have zt:(⟨t.toArray⟩:ByteArray).size=t.length:=rfl;obtain ⟨m,hm⟩:∃ m,t.length=m:=⟨_,rfl⟩;rw [hm] at HQ2 hle zt;clear HQ ht hm;go_wp2_with fail;refine (WI _ HT.out).mono ?_;rintro e w2 ⟨rfl,h2⟩;rw [h2];clear h2;go_wp2_with fail;go_roundw
     case rel=>exact ⟨k+1,q+m,by omega,by go_num,by omega,by go_num,HQ2,trivial⟩
     case measure=>simp [intOf];omega
    ·obtain rfl:k=12:=(by omega);have HE2:Hid (q=R):=(by show _=_;have:=HQ.out;simp [dateN] at this;exact this);clear HQ;go_wp2_with fail;go_ret;exact ⟨ret_int (by rw [HE2.out]),rfl⟩
theorem partLen_le (p:Nat) (l:BL):partLen p l≤l.length:=by
 have hq:quoLen l≤l.length:=by
  by_cases h:Lib.hasPrefix l [34]=true
  ·rw [quoLen_is h]
   split
   ·rename_i hc;have h1:=takeWhile_drop nq (l.drop 1);have h2:1≤((l.drop 1).dropWhile nq).length:=by
     rcases Nat.eq_zero_or_pos ((l.drop 1).dropWhile nq).length with h0 | h0
     ·exact absurd (List.length_eq_zero_iff.1 h0) hc.1
     ·exact h0
    rw [List.length_drop] at h1;omega
   ·omega
  ·rw [quoLen_no (by simpa using h)];omega
 have hd:dateLen l≤l.length:=by
  cases l with
  | nil=>simp [dateLen]
  | cons c r =>
   show (if letF c then dateN 12 (c :: r) else 0)≤_
   split
   ·exact dateN_le _ _
   ·omega
 unfold partLen
 split
 ·exact hq
 ·split
  ·rename_i h;rw [prefK_iff,Bool.and_eq_true] at h;exact of_decide_eq_true h.1
  ·omega
 ·exact run_len _ _ _
 ·exact run_len _ _ _
 ·exact run_len _ _ _
 ·exact run_len _ _ _
 ·exact run_len _ _ _
 ·exact hd
 ·exact hq
 ·omega
theorem trimPre_len (l:BL):l.length - (Lib.trimPrefix l [35,44]).length=(if Lib.hasPrefix l [35,44] then 2 else 0)∧(Lib.trimPrefix l [35,44]).length≤l.length:=by
 unfold Lib.trimPrefix;cases h:Lib.hasPrefix l [35,44] with
 | false=>simp
 | true =>
  rw [prefK_iff,Bool.and_eq_true] at h;have:2≤l.length:=of_decide_eq_true h.1;simp;omega
set_option maxRecDepth 8000 in
set_option maxHeartbeats 1000000 in
theorem partLen1I (l:BL) (hl:l.length≤1000) (w:World) (T:TabK w):Calls Tryz.prog 54 #[.int .i64 1,sV l] w fun e w'=>e=.returned (.int .i64 (partLen 1 l:Nat))∧Ext w w':=by
 have C:Calls Tryz.prog 104 #[sV l] w fun e w'=>e=.returned (.int .i64 (partLen 1 l:Nat))∧Ext w w':=quoLenI l hl w T;obtain ⟨R,hR⟩:∃ R,partLen 1 l=R:=⟨_,rfl⟩;rw [hR] at C ⊢;clear hR hl T;go_enter Tryz.func54,Tryz.ntmps54;go_wp2_with fail;refine C.mono ?_;rintro e w1 ⟨rfl,e1⟩;go_wp2_with fail;go_ret;exact ⟨rfl,e1⟩
set_option maxRecDepth 8000 in
set_option maxHeartbeats 1000000 in
theorem partLen9I (l:BL) (hl:l.length≤1000) (w:World) (T:TabK w):Calls Tryz.prog 54 #[.int .i64 9,sV l] w fun e w'=>e=.returned (.int .i64 (partLen 9 l:Nat))∧Ext w w':=by
 have C:Calls Tryz.prog 104 #[sV l] w fun e w'=>e=.returned (.int .i64 (partLen 9 l:Nat))∧Ext w w':=quoLenI l hl w T;obtain ⟨R,hR⟩:∃ R,partLen 9 l=R:=⟨_,rfl⟩;rw [hR] at C ⊢;clear hR hl T;go_enter Tryz.func54,Tryz.ntmps54;go_wp2_with fail;refine C.mono ?_;rintro e w1 ⟨rfl,e1⟩;go_wp2_with fail;go_ret;exact ⟨rfl,e1⟩
set_option maxRecDepth 8000 in
set_option maxHeartbeats 1000000 in
theorem partLen3I (l:BL) (hl:l.length≤1000) (w:World):Calls Tryz.prog 54 #[.int .i64 3,sV l] w fun e w'=>e=.returned (.int .i64 (partLen 3 l:Nat))∧Ext w w':=by
 have C:Calls Tryz.prog 106 #[sV l,sV [48],.int .i64 9] w fun e w'=>e=.returned (.int .i64 (partLen 3 l:Nat))∧Ext w w':=runI l 48 9 (by decide) hl w;obtain ⟨R,hR⟩:∃ R,partLen 3 l=R:=⟨_,rfl⟩;rw [hR] at C ⊢;clear hR hl;go_enter Tryz.func54,Tryz.ntmps54;go_wp2_with fail;refine C.mono ?_;rintro e w1 ⟨rfl,e1⟩;go_wp2_with fail;go_ret;exact ⟨rfl,e1⟩
set_option maxRecDepth 8000 in
set_option maxHeartbeats 1000000 in
theorem partLen4I (l:BL) (hl:l.length≤1000) (w:World):Calls Tryz.prog 54 #[.int .i64 4,sV l] w fun e w'=>e=.returned (.int .i64 (partLen 4 l:Nat))∧Ext w w':=by
 have C:Calls Tryz.prog 106 #[sV l,sV [46],.int .i64 1] w fun e w'=>e=.returned (.int .i64 (partLen 4 l:Nat))∧Ext w w':=runI l 46 1 (by decide) hl w;obtain ⟨R,hR⟩:∃ R,partLen 4 l=R:=⟨_,rfl⟩;rw [hR] at C ⊢;clear hR hl;go_enter Tryz.func54,Tryz.ntmps54;go_wp2_with fail;refine C.mono ?_;rintro e w1 ⟨rfl,e1⟩;go_wp2_with fail;go_ret;exact ⟨rfl,e1⟩
set_option maxRecDepth 8000 in
set_option maxHeartbeats 1000000 in
theorem partLen5I (l:BL) (hl:l.length≤1000) (w:World):Calls Tryz.prog 54 #[.int .i64 5,sV l] w fun e w'=>e=.returned (.int .i64 (partLen 5 l:Nat))∧Ext w w':=by
 have C:Calls Tryz.prog 106 #[sV l,sV [48],.int .i64 9] w fun e w'=>e=.returned (.int .i64 (partLen 5 l:Nat))∧Ext w w':=runI l 48 9 (by decide) hl w;obtain ⟨R,hR⟩:∃ R,partLen 5 l=R:=⟨_,rfl⟩;rw [hR] at C ⊢;clear hR hl;go_enter Tryz.func54,Tryz.ntmps54;go_wp2_with fail;refine C.mono ?_;rintro e w1 ⟨rfl,e1⟩;go_wp2_with fail;go_ret;exact ⟨rfl,e1⟩
set_option maxRecDepth 8000 in
set_option maxHeartbeats 1000000 in
theorem partLen6I (l:BL) (hl:l.length≤1000) (w:World):Calls Tryz.prog 54 #[.int .i64 6,sV l] w fun e w'=>e=.returned (.int .i64 (partLen 6 l:Nat))∧Ext w w':=by
 have C:Calls Tryz.prog 106 #[sV l,sV [35],.int .i64 9] w fun e w'=>e=.returned (.int .i64 (partLen 6 l:Nat))∧Ext w w':=runI l 35 9 (by decide) hl w;obtain ⟨R,hR⟩:∃ R,partLen 6 l=R:=⟨_,rfl⟩;rw [hR] at C ⊢;clear hR hl;go_enter Tryz.func54,Tryz.ntmps54;go_wp2_with fail;refine C.mono ?_;rintro e w1 ⟨rfl,e1⟩;go_wp2_with fail;go_ret;exact ⟨rfl,e1⟩
set_option maxRecDepth 8000 in
set_option maxHeartbeats 1000000 in
theorem partLen7I (l:BL) (hl:l.length≤1000) (w:World):Calls Tryz.prog 54 #[.int .i64 7,sV l] w fun e w'=>e=.returned (.int .i64 (partLen 7 l:Nat))∧Ext w w':=by
 have C:Calls Tryz.prog 106 #[sV l,sV [37],.int .i64 3] w fun e w'=>e=.returned (.int .i64 (partLen 7 l:Nat))∧Ext w w':=runI l 37 3 (by decide) hl w;obtain ⟨R,hR⟩:∃ R,partLen 7 l=R:=⟨_,rfl⟩;rw [hR] at C ⊢;clear hR hl;go_enter Tryz.func54,Tryz.ntmps54;go_wp2_with fail;refine C.mono ?_;rintro e w1 ⟨rfl,e1⟩;go_wp2_with fail;go_ret;exact ⟨rfl,e1⟩
set_option maxRecDepth 8000 in
set_option maxHeartbeats 1000000 in
theorem partLen8I (l:BL) (hl:l.length≤1000) (w:World) (T:TabK w):Calls Tryz.prog 54 #[.int .i64 8,sV l] w fun e w'=>e=.returned (.int .i64 (partLen 8 l:Nat))∧Ext w w':=by
 have C:Calls Tryz.prog 107 #[sV l] w fun e w'=>e=.returned (.int .i64 (partLen 8 l:Nat))∧Ext w w':=(dateLenI l hl w T).mono fun _ _ ⟨h1,h2⟩=>⟨h1,by rw [h2];exact xr _⟩;obtain ⟨R,hR⟩:∃ R,partLen 8 l=R:=⟨_,rfl⟩;rw [hR] at C ⊢;clear hR hl T;go_enter Tryz.func54,Tryz.ntmps54;go_wp2_with fail;refine C.mono ?_;rintro e w1 ⟨rfl,e1⟩;go_wp2_with fail;go_ret;exact ⟨rfl,e1⟩
set_option maxRecDepth 8000 in
set_option maxHeartbeats 1000000 in
theorem partLen2I (l:BL) (hl:l.length≤1000) (w:World):Calls Tryz.prog 54 #[.int .i64 2,sV l] w fun e w'=>e=.returned (.int .i64 (partLen 2 l:Nat))∧Ext w w':=by
 have C:=trimPrefixK l w;obtain ⟨h1,h2⟩:=trimPre_len l;obtain ⟨R,hR⟩:∃ R,partLen 2 l=R:=⟨_,rfl⟩;have HR:Hid (l.length - (Lib.trimPrefix l [35,44]).length=R):=by show _=_;rw [h1,← hR];rfl
 rw [hR];obtain ⟨t,ht⟩:∃ t,Lib.trimPrefix l [35,44]=t:=⟨_,rfl⟩;rw [ht] at C HR h2;have z1:(⟨l.toArray⟩:ByteArray).size=l.length:=rfl;have z2:(⟨t.toArray⟩:ByteArray).size=t.length:=rfl;obtain ⟨n,hn⟩:∃ n,l.length=n:=⟨_,rfl⟩;obtain ⟨q,hq⟩:∃ n,t.length=n:=⟨_,rfl⟩;rw [hn] at z1 HR h2 hl;rw [hq] at z2 HR h2;clear hR ht hn hq h1;go_enter Tryz.func54,Tryz.ntmps54;go_wp2_with fail;refine C.mono ?_;rintro e w1 ⟨rfl,rfl⟩;go_wp2_with fail;go_ret;exact ⟨ret_int (by have:=HR.out;omega),xr _⟩
theorem partLenI (p:Nat) (hp:1≤p) (hp9:p≤9) (l:BL) (hl:l.length≤1000) (w:World) (T:TabK w):Calls Tryz.prog 54 #[.int .i64 (p:Int),sV l] w fun e w'=>e=.returned (.int .i64 (partLen p l:Nat))∧Ext w w':=by
 match p,hp,hp9 with
 | 1,_,_=>exact partLen1I l hl w T
 | 2,_,_=>exact partLen2I l hl w
 | 3,_,_=>exact partLen3I l hl w
 | 4,_,_=>exact partLen4I l hl w
 | 5,_,_=>exact partLen5I l hl w
 | 6,_,_=>exact partLen6I l hl w
 | 7,_,_=>exact partLen7I l hl w
 | 8,_,_=>exact partLen8I l hl w T
 | 9,_,_=>exact partLen9I l hl w T
set_option maxRecDepth 8000 in
set_option maxHeartbeats 1000000 in
theorem take1I (F:Nat) (x:BL) (f:KT) (w:World) (h:Vec w F f.cells) (hx:x.length≤1000):Calls Tryz.prog 55 #[.pointer (some ⟨F,0,none⟩),.int .i64 1,sV x] w fun e w'=>(∃ v,e=.returned v)∧Vec w' F (takeP 1 x f).cells∧OnlyK F w w':=by
 have C:=trimK x w hx;have HV:Hid (∀ W,Ext w W→Vec (W.setCell ⟨F,1,none⟩ (sV (Lib.trimS x [34]))) F (takeP 1 x f).cells):=fun W e=>(h.later e).put 1 (by simp) _;have HC:Hid (∀ W,Ext w W→W.cell? ⟨F,1,none⟩=some (sV (KT.bf f))∧W.frozen? ⟨F,1,none⟩=false):=fun W e=>(h.later e) 1 _ rfl;clear h;go_enter Tryz.func55,Tryz.ntmps55;go_wp2_with fail;refine C.mono ?_;rintro e w1 ⟨rfl,e1⟩;obtain ⟨c,g⟩:=HC.out w1 e1;go_wp2_with fail;refine bodyPost_end (results_none rfl _ _ _) rfl ?_;exact ⟨⟨_,rfl⟩,HV.out w1 e1,(OnlyK.of_ext e1).set _⟩
set_option maxRecDepth 8000 in
set_option maxHeartbeats 1000000 in
theorem take9I (F:Nat) (x:BL) (f:KT) (w:World) (h:Vec w F f.cells) (hx:x.length≤1000):Calls Tryz.prog 55 #[.pointer (some ⟨F,0,none⟩),.int .i64 9,sV x] w fun e w'=>(∃ v,e=.returned v)∧Vec w' F (takeP 9 x f).cells∧OnlyK F w w':=by
 have C:=trimK x w hx;have HV:Hid (∀ W,Ext w W→Vec (W.setCell ⟨F,2,none⟩ (sV (Lib.trimS x [34]))) F (takeP 9 x f).cells):=fun W e=>(h.later e).put 2 (by simp) _;have HC:Hid (∀ W,Ext w W→W.cell? ⟨F,2,none⟩=some (sV (KT.af f))∧W.frozen? ⟨F,2,none⟩=false):=fun W e=>(h.later e) 2 _ rfl;clear h;go_enter Tryz.func55,Tryz.ntmps55;go_wp2_with fail;refine C.mono ?_;rintro e w1 ⟨rfl,e1⟩;obtain ⟨c,g⟩:=HC.out w1 e1;go_wp2_with fail;refine bodyPost_end (results_none rfl _ _ _) rfl ?_;exact ⟨⟨_,rfl⟩,HV.out w1 e1,(OnlyK.of_ext e1).set _⟩
set_option maxRecDepth 8000 in
set_option maxHeartbeats 1000000 in
theorem take2I (F:Nat) (x:BL) (f:KT) (w:World) (h:Vec w F f.cells) (_hx:x.length≤1000):Calls Tryz.prog 55 #[.pointer (some ⟨F,0,none⟩),.int .i64 2,sV x] w fun e w'=>(∃ v,e=.returned v)∧Vec w' F (takeP 2 x f).cells∧OnlyK F w w':=by
 have HV:Hid (Vec (w.setCell ⟨F,6,none⟩ (.bool true)) F (takeP 2 x f).cells):=h.put 6 (by simp) _;obtain ⟨c,g⟩:=h 6 _ rfl;have z1:(⟨x.toArray⟩:ByteArray).size=x.length:=rfl;clear h;go_enter Tryz.func55,Tryz.ntmps55;go_wp2_with fail;refine bodyPost_end (results_none rfl _ _ _) rfl ?_;exact ⟨⟨_,rfl⟩,HV.out,(OnlyK.refl _ _).set _⟩
set_option maxRecDepth 8000 in
set_option maxHeartbeats 1000000 in
theorem take3I (F:Nat) (x:BL) (f:KT) (w:World) (h:Vec w F f.cells) (_hx:x.length≤1000):Calls Tryz.prog 55 #[.pointer (some ⟨F,0,none⟩),.int .i64 3,sV x] w fun e w'=>(∃ v,e=.returned v)∧Vec w' F (takeP 3 x f).cells∧OnlyK F w w':=by
 have HV:Hid (Vec (w.setCell ⟨F,3,none⟩ (.int .i64 (x.length:Int))) F (takeP 3 x f).cells):=h.put 3 (by simp) _;obtain ⟨c,g⟩:=h 3 _ rfl;have z1:(⟨x.toArray⟩:ByteArray).size=x.length:=rfl;obtain ⟨n,hn⟩:∃ n,x.length=n:=⟨_,rfl⟩;rw [hn] at HV z1;clear hn;clear h;go_enter Tryz.func55,Tryz.ntmps55;go_wp2_with fail;refine bodyPost_end (results_none rfl _ _ _) rfl ?_;exact ⟨⟨_,rfl⟩,HV.out,(OnlyK.refl _ _).set _⟩
set_option maxRecDepth 8000 in
set_option maxHeartbeats 1000000 in
theorem take5I (F:Nat) (x:BL) (f:KT) (w:World) (h:Vec w F f.cells) (_hx:x.length≤1000):Calls Tryz.prog 55 #[.pointer (some ⟨F,0,none⟩),.int .i64 5,sV x] w fun e w'=>(∃ v,e=.returned v)∧Vec w' F (takeP 5 x f).cells∧OnlyK F w w':=by
 have HV:Hid (Vec (w.setCell ⟨F,4,none⟩ (.int .i64 (x.length:Int))) F (takeP 5 x f).cells):=h.put 4 (by simp) _;obtain ⟨c,g⟩:=h 4 _ rfl;have z1:(⟨x.toArray⟩:ByteArray).size=x.length:=rfl;obtain ⟨n,hn⟩:∃ n,x.length=n:=⟨_,rfl⟩;rw [hn] at HV z1;clear hn;clear h;go_enter Tryz.func55,Tryz.ntmps55;go_wp2_with fail;refine bodyPost_end (results_none rfl _ _ _) rfl ?_;exact ⟨⟨_,rfl⟩,HV.out,(OnlyK.refl _ _).set _⟩
set_option maxRecDepth 8000 in
set_option maxHeartbeats 1000000 in
theorem take6I (F:Nat) (x:BL) (f:KT) (w:World) (h:Vec w F f.cells) (_hx:x.length≤1000):Calls Tryz.prog 55 #[.pointer (some ⟨F,0,none⟩),.int .i64 6,sV x] w fun e w'=>(∃ v,e=.returned v)∧Vec w' F (takeP 6 x f).cells∧OnlyK F w w':=by
 have HV:Hid (Vec (w.setCell ⟨F,5,none⟩ (.int .i64 (x.length:Int))) F (takeP 6 x f).cells):=h.put 5 (by simp) _;obtain ⟨c,g⟩:=h 5 _ rfl;have z1:(⟨x.toArray⟩:ByteArray).size=x.length:=rfl;obtain ⟨n,hn⟩:∃ n,x.length=n:=⟨_,rfl⟩;rw [hn] at HV z1;clear hn;clear h;go_enter Tryz.func55,Tryz.ntmps55;go_wp2_with fail;refine bodyPost_end (results_none rfl _ _ _) rfl ?_;exact ⟨⟨_,rfl⟩,HV.out,(OnlyK.refl _ _).set _⟩
set_option maxRecDepth 8000 in
set_option maxHeartbeats 1000000 in
theorem take7I (F:Nat) (x:BL) (f:KT) (w:World) (h:Vec w F f.cells) (_hx:x.length≤1000):Calls Tryz.prog 55 #[.pointer (some ⟨F,0,none⟩),.int .i64 7,sV x] w fun e w'=>(∃ v,e=.returned v)∧Vec w' F (takeP 7 x f).cells∧OnlyK F w w':=by
 have HV:Hid (Vec (w.setCell ⟨F,7,none⟩ (.int .i64 (x.length:Int))) F (takeP 7 x f).cells):=h.put 7 (by simp) _;obtain ⟨c,g⟩:=h 7 _ rfl;have z1:(⟨x.toArray⟩:ByteArray).size=x.length:=rfl;obtain ⟨n,hn⟩:∃ n,x.length=n:=⟨_,rfl⟩;rw [hn] at HV z1;clear hn;clear h;go_enter Tryz.func55,Tryz.ntmps55;go_wp2_with fail;refine bodyPost_end (results_none rfl _ _ _) rfl ?_;exact ⟨⟨_,rfl⟩,HV.out,(OnlyK.refl _ _).set _⟩
set_option maxRecDepth 8000 in
set_option maxHeartbeats 1000000 in
theorem take8I (F:Nat) (x:BL) (f:KT) (w:World) (h:Vec w F f.cells) (_hx:x.length≤1000):Calls Tryz.prog 55 #[.pointer (some ⟨F,0,none⟩),.int .i64 8,sV x] w fun e w'=>(∃ v,e=.returned v)∧Vec w' F (takeP 8 x f).cells∧OnlyK F w w':=by
 have HV:Hid (Vec (w.setCell ⟨F,8,none⟩ (sV x)) F (takeP 8 x f).cells):=h.put 8 (by simp) _;obtain ⟨c,g⟩:=h 8 _ rfl;have z1:(⟨x.toArray⟩:ByteArray).size=x.length:=rfl;clear h;go_enter Tryz.func55,Tryz.ntmps55;go_wp2_with fail;refine bodyPost_end (results_none rfl _ _ _) rfl ?_;exact ⟨⟨_,rfl⟩,HV.out,(OnlyK.refl _ _).set _⟩
set_option maxRecDepth 8000 in
set_option maxHeartbeats 1000000 in
theorem take4I (F:Nat) (x:BL) (f:KT) (w:World) (h:Vec w F f.cells) (_hx:x.length≤1000):Calls Tryz.prog 55 #[.pointer (some ⟨F,0,none⟩),.int .i64 4,sV x] w fun e w'=>(∃ v,e=.returned v)∧Vec w' F (takeP 4 x f).cells∧OnlyK F w w':=by
 go_enter Tryz.func55,Tryz.ntmps55;go_wp2_with fail;refine bodyPost_end (results_none rfl _ _ _) rfl ?_;exact ⟨⟨_,rfl⟩,h,OnlyK.refl _ _⟩
theorem takeI (p:Nat) (hp:1≤p) (hp9:p≤9) (F:Nat) (x:BL) (f:KT) (w:World) (h:Vec w F f.cells) (hx:x.length≤1000):Calls Tryz.prog 55 #[.pointer (some ⟨F,0,none⟩),.int .i64 (p:Int),sV x] w fun e w'=>(∃ v,e=.returned v)∧Vec w' F (takeP p x f).cells∧OnlyK F w w':=by
 match p,hp,hp9 with
 | 1,_,_=>exact take1I F x f w h hx
 | 2,_,_=>exact take2I F x f w h hx
 | 3,_,_=>exact take3I F x f w h hx
 | 4,_,_=>exact take4I F x f w h hx
 | 5,_,_=>exact take5I F x f w h hx
 | 6,_,_=>exact take6I F x f w h hx
 | 7,_,_=>exact take7I F x f w h hx
 | 8,_,_=>exact take8I F x f w h hx
 | 9,_,_=>exact take9I F x f w h hx
theorem partsOK_none {s:BL} (h:partsF s.length s=none):partsOK s=false:=by unfold partsOK;rw [h]
theorem partsOK_some {s:BL} {ps:List BL} (h:partsF s.length s=some ps):partsOK s=(decide (1≤ps.length∧ps.length≤12) && letF (s.getD 0 0)):=by unfold partsOK;rw [h]
theorem parts_nil:∀ (f:Nat) (s:BL),partsF f s=some []→s=[]:=by
 intro f s h;cases f with
 | zero =>
  by_cases hs:s=[]
  ·exact hs
  ·simp [partsF,hs] at h
 | succ f =>
  by_cases hs:s=[]
  ·exact hs
  ·by_cases hw:wordF s=[] <;> simp [partsF,hs,hw] at h
set_option maxRecDepth 8000 in
set_option maxHeartbeats 4000000 in
theorem partsK (s:BL) (w:World) (hs:s.length≤1000) :
  Calls Tryz.prog 89 #[sV s] w fun e w'=>(∃ v,e=.returned (.tuple #[v,.bool (partsOK s)])∧∀ ps,partsF s.length s=some ps→OwnT w' (w.heap.size+1) v ps)∧Ext w w':=by
 obtain ⟨S,hS⟩:∃ S:ByteArray,(⟨s.toArray⟩:ByteArray)=S:=⟨_,rfl⟩;have HSL:Hid (S.data.toList=s):=by show _=_;rw [← hS]
 have V0:Vec (w.alloc (.cells #[.string S,.int .i64 0] 89)) w.heap.size [sV s,.int .i64 0]:=by rw [← hS];exact vec_made w [sV s,.int .i64 0] 89
 have X0:=x1 w (.cells #[.string S,.int .i64 0] 89);have A0:Hid (AtK (w.alloc (.cells #[.string S,.int .i64 0] 89)) w.heap.size s 0):=⟨V0,by omega,hs⟩;have HZ:S.size=s.length:=size_ofL' HSL.out;show Calls Tryz.prog 89 #[.string ⟨s.toArray⟩] w _;rw [hS];clear hS;obtain ⟨n,hn⟩:∃ n,s.length=n:=⟨_,rfl⟩;have HN:Hid (s.length=n):=hn;rw [hn] at hs HZ ⊢;obtain ⟨P,hP⟩:∃ P,partsF n s=P:=⟨_,rfl⟩;have HP0:Hid ((partsF (n - 0) (s.drop 0)).map ([]++·)=P):=by show _=_;simp [hP]
 have HOK0:Hid (P=none→partsOK s=false):=fun h=>partsOK_none (by rw [hn,hP];exact h);have HOK1:Hid (∀ ps,P=some ps→partsOK s=(decide (1≤ps.length∧ps.length≤12) && letF (s.getD 0 0))):=fun ps h=>partsOK_some (by rw [hn,hP];exact h);have HNil:Hid (P=some []→n=0):=fun h=>by have:=parts_nil n s (by rw [hP];exact h);rw [← hn,this];rfl
 rw [hP];clear hP hn V0;obtain ⟨K,hK⟩:∃ K,partsOK s=K:=⟨_,rfl⟩;rw [hK] at HOK0 HOK1 ⊢;clear hK;obtain ⟨B,hB⟩:∃ B,w.heap.size=B:=⟨_,rfl⟩;have HB:Hid (w.heap.size=B):=hB;have sz0:(w.alloc (.cells #[.string S,.int .i64 0] 89)).heap.size=B+1:=by rw [World.size_alloc,hB]
 rw [hB] at A0 ⊢;go_enter Tryz.func89,Tryz.ntmps89;go_wp2_with fail;clear hB;have T0:=ownT_nil (w.alloc (.cells #[.string S,.int .i64 0] 89)) (B+1)
 go_loopg [5] n (fun gk v wr=>∃ (j:Nat) (ps:List BL),Hid (j+gk=n)∧Hid (AtK wr B s j)∧OwnT wr (B+1) v ps∧Hid ((partsF (n - j) (s.drop j)).map (ps++·)=P)∧Hid (ps.length≤j)∧Hid (B+1≤wr.heap.size)∧Ext w wr)
 case atStart=>exact ⟨0,[],by show _=_;omega,A0,T0,HP0,Nat.le_refl _,by show _≤_;omega,X0⟩
 case round =>
  clear A0 T0 HP0 sz0 X0;obtain ⟨j,ps,HG,HA,OT,HP,HL,HSz,X⟩:=hrel;have hj:j≤n:=by have:=HA.out.2.1;rw [HN.out] at this;exact this
  obtain ⟨c1,f1⟩:=HA.out.1 1 _ rfl;obtain ⟨p5,q5,rfl,hq5⟩:=ownT_slice OT;by_cases hlt:j<n
  ·have i2:(j:Int)<(n:Int):=by omega
   have g1:decide ((j:Int)<(n:Int))=true:=by simp;omega
   obtain ⟨g,hg⟩:∃ g,wr.heap.size=g:=⟨_,rfl⟩;have HGS:Hid (B<g):=by show _<_;have:=HSz.out;omega
   have HOB:Hid (∀ r,(Value.slice p5 ps.length q5).ownBlock=some r→B+1≤r∧r<g):=fun r hr=>by rw [← hg];exact ownT_block OT r hr
   have OTH:Hid (OwnT wr (B+1) (.slice p5 ps.length q5) ps):=OT;have MK:=marksK wr;rw [hg] at MK;clear hg OT;go_wp2_with fail;refine MK.mono ?_;rintro e wm ⟨rfl,VM,em⟩;have A1:Hid (AtK wm B s j):=HA.out.later em;have O1:=ownT_later OTH.out em;have X1:=xt X em;have S1:Hid (B+1≤wm.heap.size):=by show _≤_;have:=HSz.out;have:=em.size;omega
   clear MK em c1 f1 HA OTH X HSz;go_wp2_with fail;go_loopw [21,5,6] (fun i v f wx=>∃ k:Nat,k≤14∧i=.int .i64 k∧Hid (Vec wx g marksV)∧Ext w wx∧Hid (B+1≤wx.heap.size)∧((f=.bool false∧v=.slice p5 ps.length q5∧Hid (AtK wx B s j)∧Hid (OwnT wx (B+1) (.slice p5 ps.length q5) ps)∧Hid (∀ (q:Nat) o,q<k→wordsT[q]?=some o→Lib.hasPrefix (s.drop j) o=false))∨(∃ t,f=.bool true∧Hid (wordF (s.drop j)=t∧1≤t.length∧t.length≤4)∧Hid (AtK wx B s (j+t.length))∧Hid (OwnT wx (B+1) v (ps++[t]))))) (fun i _ _ _=>14 - (intOf i).toNat)
   case atStart=>exact ⟨0,by omega,rfl,VM,X1,S1,.inl ⟨rfl,rfl,A1,O1,fun q o hq=>by omega⟩⟩
   case round =>
    clear A1 O1 X1 VM S1;obtain ⟨k,hk,rfl,VM,X,HSz,hcs⟩:=hrel;by_cases hk14:k<14
    ·obtain ⟨o,ho,hmo,hol1,hol4⟩:=marks_at k hk14;have i3:(k:Int)<14:=(by omega);have m0:=(VM.out k _ hmo).1
     rcases hcs with ⟨rfl,rfl,HA,HO,HF⟩ | ⟨t,rfl,HW,HA,HO⟩
     ·have CT:=takeK B s o j wr HA.out (by omega);obtain ⟨pp,hpp⟩:∃ pp,Lib.hasPrefix (s.drop j) o=pp:=⟨_,rfl⟩;rw [hpp] at CT;obtain ⟨ol,hol⟩:∃ ol,o.length=ol:=⟨_,rfl⟩;rw [hol] at CT hol1 hol4;cases pp
      ·have HF2:Hid (∀ (q:Nat) o,q<k+1→wordsT[q]?=some o→Lib.hasPrefix (s.drop j) o=false):=fun q o' hq h=>by
        rcases Nat.lt_or_ge q k with hqk | hqk
        ·exact HF.out q o' hqk h
        ·obtain rfl:q=k:=(by omega);rw [ho] at h;cases h;exact hpp
       clear HF ho hmo hpp hol HA;go_wp2_with fail;refine CT.mono ?_;rintro e w2 ⟨rfl,hA2,o2⟩;have hA2:AtK w2 B s j:=hA2;have VM2:Hid (Vec w2 g marksV):=o2.vec (by have:=HGS.out;omega) VM.out;have X2:=OnlyK.ext X o2 (by have:=HB.out;omega);have O2:=ownT_only HO.out o2 (by omega);have S2:Hid (B+1≤w2.heap.size):=(by show _≤_;have:=HSz.out;have:=o2.size;omega);clear CT m0 VM HO X o2 HSz;go_wp2_with fail;go_roundw
       case rel=>exact ⟨k+1,by omega,by go_num,VM2,X2,S2,.inl ⟨rfl,rfl,hA2,O2,HF2⟩⟩
       case measure=>simp [intOf];omega
      ·have HW:Hid (wordF (s.drop j)=o∧1≤o.length∧o.length≤4):=by
        refine ⟨wordF_at ho hpp HF.out,?_,?_⟩ <;> omega
       have HOL:Hid (o.length=ol):=hol;clear HF ho hmo hpp hol HA;go_wp2_with fail;refine CT.mono ?_;rintro e w2 ⟨rfl,hA2,o2⟩;have hA2:AtK w2 B s (j+ol):=hA2;have VM2:Vec w2 g marksV:=o2.vec (by have:=HGS.out;omega) VM.out;have X2:=OnlyK.ext X o2 (by have:=HB.out;omega);have OQ:Hid (OwnT w2 (B+1) (.slice p5 ps.length q5) ps):=ownT_only HO.out o2 (by omega);have S2:B+1≤w2.heap.size:=(by have:=HSz.out;have:=o2.size;omega);have hL:=HL.out;clear CT m0 VM HO X o2 HSz;obtain ⟨inf,hi,hz,hz1,hz2⟩:=infoT;go_wp2_with (at_builtin;refine wpList_append_own _ rfl _ _ 51 rfl (B+1) 9 inf (.string ByteArray.empty) 1 16 Tryz.underlying51 hi hz hz1 hz2 rfl (by decide) _ _ _ rfl (OQ.out.alloc _) ⟨w2.heap.size,0,none⟩ 1 1 [sV o] rfl rfl (World.news_of_block (heap_alloc_new w2 (.cells [sV o].toArray 9))) (by simp [Value.oneCell']) (by simp only [maxLen];omega) (by omega) (by simp;omega) ?_);intro v7 wC ownC gC _;have XA:=xa X2 (.cells [sV o].toArray 9);have EA:=x1 w2 (.cells [sV o].toArray 9);have XC:Ext w wC:=XA.grown gC XA.size (fun q hq=>by have:=(HOB.out q hq).1;have:=HB.out;omega);have OC:Hid (OwnT wC (B+1) v7 (ps++[o])):=by
        show World.ownsRow _ _ _ _ _ _ _;rw [List.map_append,List.length_append];exact ownC
       have AC:Hid (AtK wC B s (j+o.length)):=by
        rw [HOL.out];exact (hA2.later EA).grown gC (fun r hr=>by have:=(HOB.out r hr).1;omega)
       have VC:Hid (Vec wC g marksV):=vec_grown (VM2.later EA) gC (fun r hr=>by have:=(HOB.out r hr).2;omega) (by simp [marksV]);have SC:Hid (B+1≤wC.heap.size):=(by show _≤_;have:=gC.size;have:=EA.size;omega);obtain ⟨p7,q7,rfl,hq7⟩:=ownT_slice OC.out;clear gC ownC OQ XA X2 EA hi hz hz1 hz2 VM2 hA2 hL;go_wp2_with fail;go_roundw
       case rel=>exact ⟨k+1,by omega,by go_num,VC,XC,SC,.inr ⟨o,rfl,HW,AC,OC⟩⟩
       case measure=>simp [intOf];omega
     ·clear ho hmo hol1 hol4;have ⟨p6,q6,hv,hq6⟩:=ownT_slice HO.out;subst hv;go_wp2_with fail;go_roundw
      case rel=>exact ⟨k+1,by omega,by go_num,VM,X,HSz,.inr ⟨t,rfl,HW,HA,HO⟩⟩
      case measure=>simp [intOf];omega
    ·obtain rfl:k=14:=by omega
     rcases hcs with ⟨rfl,rfl,HA,HO,HF⟩ | ⟨t,rfl,HW,HA,HO⟩
     ·have HK:Hid (K=false):=HOK0.out (by rw [← HP.out,← HN.out,parts_none (by rw [HN.out];exact hlt) (wordF_none (fun q o h=>HF.out q o (by have:=(List.getElem?_eq_some_iff.1 h).1;simpa [wordsT] using this) h))];rfl);have HPn:Hid (P=none):=(by show _=_;rw [← HP.out,← HN.out,parts_none (by rw [HN.out];exact hlt) (wordF_none (fun q o h=>HF.out q o (by have:=(List.getElem?_eq_some_iff.1 h).1;simpa [wordsT] using this) h))];rfl);clear HF HA HO HP;go_wp2_with fail;exact bodyPost_ret (v:=.tuple #[.slice none 0 0,.bool false]) (by simp [results,Tryz.results89,go_sem]) rfl ⟨⟨_,by rw [HK.out],fun ps' h=>by rw [HPn.out] at h;cases h⟩,X⟩
     ·have ⟨p6,q6,hv,hq6⟩:=ownT_slice HO.out;subst hv;have HP2:Hid ((partsF (n - (j+t.length)) (s.drop (j+t.length))).map ((ps++[t])++·)=P):=by
       show _=_;have hw:wordF (s.drop j) ≠ []:=fun e=>(by have:=HW.out.2.1;rw [← HW.out.1,e] at this;simp at this);rw [← HP.out,← HN.out,parts_step (by rw [HN.out];exact hlt) hw,HW.out.1,Option.map_map]
       congr 1
       funext x
       simp
      have HL2:Hid ((ps++[t]).length≤j+t.length):=(by show _≤_;rw [List.length_append];have:=HL.out;have:=HW.out.2.1;simp;omega);have HJ:Hid (j+t.length≤n):=(by have:=HA.out.2.1;rw [HN.out] at this;exact this);go_wp2_with fail
      go_roundg (gk - t.length)
      case measure=>have:=HG.out;have:=HW.out.2.1;have:=HJ.out;omega
      case rel=>exact ⟨j+t.length,ps++[t],by show _=_;have:=HG.out;have:=HJ.out;omega,HA,HO.out,HP2,HL2,HSz,X⟩
  ·obtain rfl:j=n:=by omega
   have HPs:Hid (P=some ps):=by
    show _=_;rw [← HP.out,← HN.out,parts_end];simp
   have HKs:Hid (K=(decide (1≤ps.length∧ps.length≤12) && letF (s.getD 0 0))):=HOK1.out ps HPs.out;have OTH:Hid (OwnT wr (B+1) (.slice p5 ps.length q5) ps):=OT;have hnn:1≤ps.length→0<j:=fun h=>by
    have:=HL.out;omega
   clear OT HP HOK0 HOK1 HNil;by_cases h1:ps.length<1
   ·have i1:(ps.length:Int)<1:=(by omega);have HK:Hid (K=false):=(by show _=_;rw [HKs.out,decide_eq_false (by omega)];rfl);clear HKs hnn;go_wp2_with fail;exact bodyPost_ret (v:=.tuple #[.slice p5 ps.length q5,.bool false]) (by simp [results,Tryz.results89,go_sem]) rfl ⟨⟨_,by rw [HK.out],fun ps' h=>by rw [HPs.out] at h;cases h;exact OTH.out⟩,X⟩
   ·have i1:1≤(ps.length:Int):=(by omega);by_cases h2:ps.length≤12
    ·have i2:(ps.length:Int)≤12:=(by omega);have hk0:0<S.size:=(by have:=hnn (by omega);omega);have hb0:=byte_atA HSL.out hk0;obtain ⟨c,hcc⟩:∃ c,s.getD 0 0=c:=⟨_,rfl⟩;rw [hcc] at hb0;have HK:Hid (K=letF c):=(by show _=_;rw [HKs.out,decide_eq_true ⟨by omega,h2⟩,hcc];rfl);have LC:=fun W=>letterS c W;have hb:((S[0]'hk0).toNat:Int)=(c.toNat:Int):=(by rw [hb0]);obtain ⟨N,hN⟩:∃ N:Int,(c.toNat:Int)=N:=⟨_,rfl⟩;rw [hN] at hb;simp only [hN] at LC;obtain ⟨lb,hlb⟩:∃ b,letF c=b:=⟨_,rfl⟩;rw [hlb] at HK;simp only [hlb] at LC;clear HKs hcc hb0 hN hlb hnn;go_wp2_with fail;refine (LC _).mono ?_;rintro e w2 ⟨rfl,rfl⟩;go_wp2_with fail;exact bodyPost_ret (v:=.tuple #[.slice p5 ps.length q5,.bool lb]) (by simp [results,Tryz.results89,go_sem]) rfl ⟨⟨_,by rw [HK.out],fun ps' h=>by rw [HPs.out] at h;cases h;exact OTH.out⟩,X⟩
    ·have i2:12<(ps.length:Int):=(by omega);have HK:Hid (K=false):=(by show _=_;rw [HKs.out,decide_eq_false (by omega)];rfl);clear HKs hnn;go_wp2_with fail;exact bodyPost_ret (v:=.tuple #[.slice p5 ps.length q5,.bool false]) (by simp [results,Tryz.results89,go_sem]) rfl ⟨⟨_,by rw [HK.out],fun ps' h=>by rw [HPs.out] at h;cases h;exact OTH.out⟩,X⟩
end Go.Proofs.YtjlojlgdkfpcdaaGreatDoor

