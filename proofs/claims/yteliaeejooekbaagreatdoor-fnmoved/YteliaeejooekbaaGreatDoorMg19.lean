import Derived.Test.YteliaeejooekbaaGreatDoorMg18
import Derived.Test.YteliaeejooekbaaGreatDoorMg1
import Derived.Test.YteliaeejooekbaaGreatDoorMg16
import Derived.Deep.AppendSrc
import Derived.Deep.Upon
import Derived.OwnWalk
import Derived.Laws.OwnMore
import Derived.Test.YteliaeejooekbaaGreatDoorFo
set_option maxRecDepth 8000
set_option maxHeartbeats 4000000
namespace Go.Proofs.YteliaeejooekbaaGreatDoor
open Go.RowKit
noncomputable def zFK (l:List UInt8):Bool:=by
 classical
 exact decide (∃ r c rf cf,zE5 l true r c rf cf)
theorem zKK {l:List UInt8} {ok:Bool} {r c:Int} {rf cf:Bool} (h:zE5 l ok r c rf cf):ok=zFK l:=by
 classical
 unfold zFK;cases ok
 ·symm;refine decide_eq_false ?_;rintro ⟨r',c',rf',cf',h'⟩;unfold zE5 at h h'
  rcases h with ⟨h1,_⟩ | ⟨_,h2⟩
  ·cases h1
  ·rcases h' with ⟨_,h3⟩ | ⟨h3,_⟩
   ·exact h2.2 r' c' rf' cf' h3.1 h3.2
   ·cases h3
 ·symm;exact decide_eq_true ⟨r,c,rf,cf,h⟩
theorem zHW (P:UInt8->Bool) (l:List UInt8):∀ c ∈ l.takeWhile P,P c=true:=by
 induction l with
 | nil=>intro c hc;cases hc
 | cons x l ih =>
  intro c hc;by_cases h:P x=true
  ·rw [List.takeWhile_cons_of_pos h] at hc
   rcases List.mem_cons.1 hc with rfl | hc
   ·exact h
   ·exact ih c hc
  ·rw [List.takeWhile_cons_of_neg h] at hc;cases hc
noncomputable def zCC (l:List UInt8):Bool:=
 (letZ ((l.getD 0 0).toNat:Int) || (((l.getD 0 0).toNat:Int) == 95)) && !decide (20<l.length) && l.all zC7 && !zFK (l.map upC) && !zEP (l.map upC) && !zDY (l.map upC)
theorem zUO (l:List UInt8) (w:World) (hl:l.length<=1048576) (LW:LibW w) {w0:World} (IT:zBY w0) (X0:Ext w0 w) :
  Calls Tryz.prog 136 #[.string (bs l)] w fun e w'=>e=.returned (.bool (zCC l))/\Ext w w':=by
 have B0:∀ w,Calls Tryz.prog 155 #[.string (bs l),iQ 0] w fun e w'=>e=.returned (.int .u8 ((l.getD 0 0).toNat:Int))/\w'=w:=fun w=>zOR l 0 w;have WL:∀ w,Calls Tryz.prog 157 #[.string (bs l)] w fun e w'=>e=.returned (iQ ((l.takeWhile zC7).length:Int))/\w'=w:=fun w=>zP7 l w (by omega);have CP:∀ w,Calls Tryz.prog 138 #[.string (bs l)] w fun e w'=>e=.returned (.string (bs (l.map upC)))/\Ext w w':=fun w=>zVE l w (by omega);have hul:(l.map upC).length<=1048576:=by simpa using hl
 have BL:∀ w,Calls Tryz.prog 134 #[.string (bs (l.map upC))] w fun e w'=>e=.returned (.bool (zEP (l.map upC)))/\w'=w:=fun w=>zVF _ w;have PL:=fun w=>zUA (l.map upC) w (by omega);have RR:=fun w LW X0=>zPM (l.map upC) w hul LW IT (w0:=w0) X0;have hsz:(bs l).size=l.length:=zBG l;have hW:((l.takeWhile zC7).length=l.length) ↔ l.all zC7=true:=by
  constructor
  ·intro h;have e:l.takeWhile zC7=l:=by
    have:=(zMR zC7 l).1;rw [h,List.take_length] at this;exact this.symm
   rw [<- e,List.all_eq_true];exact zHW zC7 l
  ·intro h;exact zCX zC7 l l.length (by rw [List.take_length];exact h) (Nat.le_refl _) (.inl rfl)
 have eN:zCC l=((letZ ((l.getD 0 0).toNat:Int) || (((l.getD 0 0).toNat:Int) == 95)) && !decide (20<l.length) && l.all zC7 && !zFK (l.map upC) && !zEP (l.map upC) && !zDY (l.map upC)):=rfl;rw [eN];clear eN;obtain ⟨s,hs⟩:=nm (bs l);obtain ⟨u,hu⟩:=nm (l.map upC);obtain ⟨N,hN⟩:∃ N:Int,((l.getD 0 0).toNat:Int)=N:=⟨_,rfl⟩;obtain ⟨n,hn⟩:=nm (l.length);obtain ⟨k,hk⟩:=nm ((l.takeWhile zC7).length);obtain ⟨D,hD⟩:=nm (l.all zC7);rw [hs] at B0 WL CP hsz ⊢;rw [hu] at CP BL PL RR ⊢;rw [hN] at B0 ⊢;rw [hn] at hsz hW hl ⊢;rw [hk] at WL hW;rw [hD] at hW ⊢;clear hs hu hN hn hk hD hul;obtain ⟨A,hA⟩:=nm (letZ N);obtain ⟨B,hB⟩:=nm ((N == 95));have LT:=fun w=>ltrI N w;rw [hA] at LT ⊢;rw [hB];have hB':(N != 95)=!B:=by rw [<- hB];rfl
 obtain ⟨T,hT⟩:=nm (zEP u);obtain ⟨P,hP⟩:=nm (zDY u);obtain ⟨Q,hQ⟩:=nm (zFK u);have RR:∀ w,LibW w->Ext w0 w->Calls Tryz.prog 158 #[.string (bs u)] w fun e w'=>∃ r c rf cf,e=.returned (.tuple #[refV r c rf cf,.bool Q])/\Ext w w':=fun w LW X0=>(RR w LW X0).mono fun e w' ⟨ok,r,c,rf,cf,he,hr,hx⟩=>⟨r,c,rf,cf,by rw [he,zKK hr,hQ],hx⟩;rw [hT] at BL ⊢;rw [hP] at PL ⊢;rw [hQ];clear hA hT hP hQ;have hE:(A=true/\B=true)\/(A=true/\B=false)\/(A=false/\B=true)\/(A=false/\B=false):=by cases A <;> cases B <;> simp
 by_cases h20:20<n
 ·have e1:decide (20<n)=true:=decide_eq_true h20;rw [e1];have i1:(20:Int)<(n:Int):=by omega
  clear hW RR CP BL PL WL
  rcases hE with ⟨rfl,rfl⟩ | ⟨rfl,rfl⟩ | ⟨rfl,rfl⟩ | ⟨rfl,rfl⟩
  all_goals
   go_enter Tryz.func136,Tryz.ntmps136;go_wp2_with fail;refine (B0 _).mono ?_;rintro e w1 ⟨rfl,rfl⟩;go_wp2_with fail;refine (LT _).mono ?_;rintro e w2 ⟨rfl,rfl⟩;go_wp2_with fail;go_ret;exact ⟨rfl,xr _⟩
 ·have e1:decide (20<n)=false:=decide_eq_false h20;rw [e1];have i1:(n:Int)<=20:=by omega
  by_cases hAB:A=false/\B=false
  ·obtain ⟨rfl,rfl⟩:=hAB;clear hW RR CP BL PL WL hE;go_enter Tryz.func136,Tryz.ntmps136;go_wp2_with fail;refine (B0 _).mono ?_;rintro e w1 ⟨rfl,rfl⟩;go_wp2_with fail;refine (LT _).mono ?_;rintro e w2 ⟨rfl,rfl⟩;go_wp2_with fail;go_ret;exact ⟨rfl,xr _⟩
  ·have hE:(A=true/\B=true)\/(A=true/\B=false)\/(A=false/\B=true):=by rcases hE with h | h | h | h;exact .inl h;exact .inr (.inl h);exact .inr (.inr h);exact absurd h hAB
   clear hAB;cases D
   ·have hk:¬ k=n:=fun h=>(by have:=hW.1 h;cases this);have k1:((k:Int) == (n:Int))=false:=(by rw [beq_eq_false_iff_ne];omega);have k2:((k:Int) != (n:Int))=true:=(by simp;omega);clear hW hk RR CP BL PL
    rcases hE with ⟨rfl,rfl⟩ | ⟨rfl,rfl⟩ | ⟨rfl,rfl⟩
    all_goals
     go_enter Tryz.func136,Tryz.ntmps136;go_wp2_with fail;refine (B0 _).mono ?_;rintro e w1 ⟨rfl,rfl⟩;go_wp2_with fail;refine (LT _).mono ?_;rintro e w2 ⟨rfl,rfl⟩;go_wp2_with fail;refine (WL _).mono ?_;rintro e w3 ⟨rfl,rfl⟩;go_wp2_with fail;go_ret;exact ⟨rfl,xr _⟩
   ·obtain rfl:k=n:=hW.2 rfl;clear hW
    rcases hE with ⟨rfl,rfl⟩ | ⟨rfl,rfl⟩ | ⟨rfl,rfl⟩
    all_goals
     go_enter Tryz.func136,Tryz.ntmps136;go_wp2_with fail;refine (B0 _).mono ?_;rintro e w1 ⟨rfl,rfl⟩;go_wp2_with fail;refine (LT _).mono ?_;rintro e w2 ⟨rfl,rfl⟩;go_wp2_with fail;refine (WL _).mono ?_;rintro e w3 ⟨rfl,rfl⟩;go_wp2_with fail;refine (CP _).mono ?_;rintro e w4 ⟨rfl,e4⟩;go_wp2_with fail;refine (RR _ (LW.l e4) (xt X0 e4)).mono ?_;rintro e w5 ⟨r,c,rf,cf,rfl,e5⟩;have X5:=xt e4 e5;clear e4 e5;cases Q
     ·cases T
      ·go_wp2_with fail;refine (BL _).mono ?_;rintro e w6 ⟨rfl,h6⟩;rw [h6];clear h6;go_wp2_with fail;refine (PL _).mono ?_;rintro e w7 ⟨rfl,e7⟩;go_wp2_with fail;go_ret;exact ⟨rfl,xt (xa X5 _) e7⟩
      ·go_wp2_with fail;refine (BL _).mono ?_;rintro e w6 ⟨rfl,h6⟩;rw [h6];clear h6;go_wp2_with fail;go_ret;exact ⟨rfl,xa X5 _⟩
     ·go_wp2_with fail;go_ret;exact ⟨rfl,xa X5 _⟩
theorem zN9 {l:List UInt8} {c:UInt8} (h:c ∈ l) (hc:zC7 c=false):zCC l=false:=by
 have hf:l.all zC7=false:=by
  cases hq:l.all zC7 with
  | false=>rfl
  | true=>have:=(List.all_eq_true.1 hq) c h;rw [hc] at this;cases this
 unfold zCC;rw [hf];simp
theorem zSK (l:List UInt8) (w:World) (hl:l.length<=1048576) :
  Calls Tryz.prog 122 #[sV l] w fun e w'=>e=.returned (.bool (zCC l))/\Ext w w':=by
 have CP:∀ w,Calls Tryz.prog 123 #[sV l] w fun e w'=>e=.returned (sV (l.map upC))/\Ext w w':=fun w=>zVD l w (by omega);have hul:(l.map upC).length<=1048576:=by simpa using hl
 have SC:∀ w,Calls Tryz.prog 146 #[sV (l.map upC)] w fun e w'=>e=.returned (.bool (zDY (l.map upC)))/\w'=w:=fun w=>zRV (l.map upC) w (by omega);have RR:∀ w,Calls Tryz.prog 147 #[sV (l.map upC)] w fun e w'=>∃ r c rf cf,e=.returned (.tuple #[refV r c rf cf,.bool (zFK (l.map upC))])/\Ext w w':=fun w=>(zPL (l.map upC) w hul).mono fun e w' ⟨ok,r,c,rf,cf,he,hr,hx⟩=>⟨r,c,rf,cf,by rw [he,zKK hr],hx⟩;have NN:Hid (∀ c,c ∈ l->zC7 c=false->zCC l=false):=fun c h hc=>zN9 h hc;have eN:Hid (l.all zC7=true->zCC l=((letZ ((l.getD 0 0).toNat:Int) || (((l.getD 0 0).toNat:Int) == 95)) && !decide (20<l.length) && !zFK (l.map upC) && !((l.map upC == [84,82,85,69]) || (l.map upC == [70,65,76,83,69])) && !zDY (l.map upC))):=fun h=>by unfold zCC zEP;rw [h,Bool.and_true]
 have eF:Hid ((letZ ((l.getD 0 0).toNat:Int) || (((l.getD 0 0).toNat:Int) == 95))=false\/20<l.length->zCC l=false):=fun h=>by
  unfold zCC
  rcases h with h | h
  ·rw [h];rfl
  ·rw [decide_eq_true h];simp
 have e0:Hid (l.length=0->zCC l=false):=fun h=>by
  have:l=[]:=List.eq_nil_of_length_eq_zero h;subst this;unfold zCC;rfl
 obtain ⟨R,hR⟩:=nm (zCC l);rw [hR] at NN eN eF e0 ⊢;clear hR;obtain ⟨u,hu⟩:=nm (l.map upC);rw [hu] at CP SC RR eN;clear hu hul;obtain ⟨P,hP⟩:=nm (zDY u);obtain ⟨Q,hQ⟩:=nm (zFK u);rw [hP] at SC eN;rw [hQ] at RR eN;clear hP hQ;obtain ⟨s,hs⟩:∃ s:ByteArray,(⟨l.toArray⟩:ByteArray)=s:=⟨_,rfl⟩;have hsl:s.data.toList=l:=by rw [<- hs]
 have hsz:=zBJ hsl;have CP:∀ w,Calls Tryz.prog 123 #[.string s] w fun e w'=>e=.returned (sV u)/\Ext w w':=by rw [<- hs];exact CP
 show Calls Tryz.prog 122 #[.string ⟨l.toArray⟩] w _;rw [hs];clear hs;obtain ⟨n,hn⟩:=nm (l.length);have HN:Hid _:=hn;have HS:Hid _:=hsl;rw [hn] at hl hsz eN eF e0;clear hn hsl
 rcases Nat.eq_zero_or_pos n with h0 | h0
 ·have hr:=e0.out h0;subst hr;subst h0;clear NN eN eF e0 CP SC RR;go_enter Tryz.func122,Tryz.ntmps122;go_wp2_with fail;go_ret;exact ⟨rfl,xr _⟩
 ·clear e0;have p0:¬ ((n:Int)<1):=by omega
  by_cases h20:20<n
  ·have hr:=eF.out (.inr h20);subst hr;have i1:(20:Int)<(n:Int):=by omega
   clear NN eN eF CP SC RR;go_enter Tryz.func122,Tryz.ntmps122;go_wp2_with fail;go_ret;exact ⟨rfl,xr _⟩
  ·have i1:(n:Int)<=20:=by omega
   have hks:0<s.size:=by omega
   have hb0:=zB8 HS.out hks;have hd:decide (20<n)=false:=decide_eq_false h20;rw [hd] at eN;obtain ⟨N,hN⟩:∃ N:Int,((l.getD 0 0).toNat:Int)=N:=⟨_,rfl⟩;have hb:((s[0]'hks).toNat:Int)=N:=by rw [hb0];exact hN
   rw [hN] at eN eF;have LT:=fun w=>ltrS N w;obtain ⟨A,hA⟩:=nm (letZ N);obtain ⟨B,hB⟩:=nm ((N == 95));have hB':(N != 95)=!B:=by rw [<- hB];rfl
   rw [hA] at LT eN eF;rw [hB] at eN eF;clear hN hb0 hA hd;by_cases hAB:A=false/\B=false
   ·obtain ⟨rfl,rfl⟩:=hAB;have hr:=eF.out (.inl rfl);subst hr;clear NN eN eF CP SC RR;go_enter Tryz.func122,Tryz.ntmps122;go_wp2_with fail;refine (LT _).mono ?_;rintro e w2 ⟨rfl,rfl⟩;go_wp2_with fail;go_ret;exact ⟨rfl,xr _⟩
   ·have hE:(A=true/\B=true)\/(A=true/\B=false)\/(A=false/\B=true):=by
     cases A <;> cases B <;> simp_all
    have eN':Hid (l.all zC7=true->R=(!Q && !((u == [84,82,85,69]) || (u == [70,65,76,83,69])) && !P)):=fun h=>by
     rw [eN.out h]
     rcases hE with ⟨rfl,rfl⟩ | ⟨rfl,rfl⟩ | ⟨rfl,rfl⟩ <;> rfl
    clear hAB eN eF;go_enter Tryz.func122,Tryz.ntmps122;go_upto_region 1 with fail;go_cut [25] (fun v wc=>v=.bool false/\wc=w)
    case first =>
     rcases hE with ⟨rfl,rfl⟩ | ⟨rfl,rfl⟩ | ⟨rfl,rfl⟩
     all_goals
      go_wp2_with fail;refine (LT _).mono ?_;rintro e w2 ⟨rfl,h2⟩;rw [h2];clear h2;go_wp2_with fail;go_meet
      case rel=>exact ⟨by first | rfl | (congr 1;exact decide_eq_false (by omega)),rfl⟩
    case rest =>
     obtain ⟨rfl,hwc⟩:=hcut;rw [hwc];clear hwc hE LT hb hB hB';go_wp2_with fail
     go_loop [3] (fun i=>∃ k:Nat,k<=n/\i=.int .i64 k/\Hid ((l.take k).all zC7=true)) (fun i=>n - (intOf i).toNat)
     case atStart=>exact ⟨0,by omega,rfl,by show _=_;simp⟩
     case round =>
      obtain ⟨k,hk,rfl,HA⟩:=hrel;by_cases hlt:k<n
      ·have hkk:k<s.size:=(by omega);have hb0:=zB8 HS.out hkk;have htk:=zDJ (l:=l) (i:=k) (by rw [HN.out];exact hlt);obtain ⟨c,hcc⟩:=nm (l.getD k 0);rw [hcc] at hb0 htk;have hb:((s[k]'hkk).toNat:Int)=(c.toNat:Int):=(by rw [hb0]);have i2:(k:Int)<(n:Int):=(by omega);have W:=fun w=>zVP (c.toNat:Int) w;obtain ⟨p,hp⟩:=nm (zC7 c);have hp':zG2 (c.toNat:Int)=p:=hp;rw [hp'] at W;obtain ⟨M,hM⟩:∃ M:Int,(c.toNat:Int)=M:=⟨_,rfl⟩;rw [hM] at hb W;cases p
       ·have hm:c ∈ l:=by
         have:c ∈ l.take (k+1):=(by rw [htk];simp);exact List.mem_of_mem_take this
        have hr:=NN.out c hm hp;subst hr;clear NN eN' HA hm hp hp' hM htk hcc hb0 CP SC RR;go_wp2_with fail;refine (W _).mono ?_;rintro e w2 ⟨rfl,h2⟩;rw [h2];clear h2;go_wp2_with fail;go_ret;exact ⟨rfl,xr _⟩
       ·have HA2:Hid ((l.take (k+1)).all zC7=true):=by
         show _=_;rw [htk,List.all_append,HA.out,List.all_cons,hp];rfl
        clear HA hp hp' hM htk hcc hb0;go_wp2_with fail;refine (W _).mono ?_;rintro e w2 ⟨rfl,h2⟩;rw [h2];clear h2;go_wp2_with fail
        go_round
        case rel=>exact ⟨k+1,by omega,by go_num,HA2⟩
        case measure=>simp [intOf];omega
      ·obtain rfl:k=n:=(by omega);have hall:l.all zC7=true:=by
        have:=HA.out;rw [List.take_of_length_le (by rw [HN.out];omega)] at this;exact this
       have hr:=eN'.out hall;subst hr;clear hall eN' HA NN;obtain ⟨t1,ht1⟩:=nm ((u == [84,82,85,69]));obtain ⟨t2,ht2⟩:=nm ((u == [70,65,76,83,69]));have HT1:Hid _:=ht1;have HT2:Hid _:=ht2;go_wp2_with fail;refine (CP _).mono ?_;rintro e w4 ⟨rfl,e4⟩;cases t1
       ·cases t2
        ·go_wp2_with fail;refine (SC _).mono ?_;rintro e w5 ⟨rfl,h5⟩;rw [h5];clear h5;cases P
         ·go_wp2_with fail;refine (RR _).mono ?_;rintro e w6 ⟨r,c,rf,cf,rfl,e6⟩;go_wp2_with fail;go_ret;exact ⟨by rw [HT1.out,HT2.out];simp,xa (xt e4 e6) _⟩
         ·go_wp2_with fail;go_ret;exact ⟨by simp,e4⟩
        ·go_wp2_with fail;go_ret;exact ⟨by rw [HT1.out,HT2.out];simp,e4⟩
       ·go_wp2_with fail;go_ret;exact ⟨by rw [HT1.out];simp,e4⟩
def zF1 (neg:Bool) (d x:Int):Bool:=
 if d=0 then (!neg && decide (x=0)) else decide (0<d/\d<1000000000000000/\d % 10 ≠ 0 /\ -300<=x/\x<=300)
theorem goodI (neg:Bool) (d x:Int) (w:World) (h1 : -9223372036854775808<=d) (h2:d<=9223372036854775807) (hT:Tens w) :
  Calls Tryz.prog 132 #[.agg #[.bool neg,iQ d,iQ x]] w fun e w'=>e=.returned (.bool (zF1 neg d x))/\Ext w w':=by
 have hT':=fun o=>Lib.cell?_alloc_some o hT.at15;clear hT;go_enter Tryz.func132,Tryz.ntmps132
 go_wp2
 all_goals go_ret
 all_goals refine ⟨zA1 ?_,?_⟩
 all_goals first | exact x1 _ _ | skip
 all_goals clear hT'
 all_goals simp_all [zF1]
 all_goals (intros;omega)
theorem zO6 (neg:Bool) (d x:Int) (w:World) :
  Calls Tryz.prog 118 #[.agg #[.bool neg,iQ d,iQ x]] w fun e w'=>e=.returned (.bool (zF1 neg d x))/\Ext w w':=by
 go_enter Tryz.func118,Tryz.ntmps118
 go_wp2
 all_goals go_ret
 all_goals refine ⟨zA1 ?_,?_⟩
 all_goals first | exact x1 _ _ | skip
 all_goals simp_all [zF1]
 all_goals (intros;omega)
abbrev exV (k:Int) (t:List UInt8) (neg:Bool) (d x r c:Int) (rf cf:Bool) (r2 c2:Int) (rf2 cf2:Bool) (m:Int) (s:Value):Value:=.agg #[iQ k,sV t,.bool neg,iQ d,iQ x,iQ r,iQ c,.bool rf,.bool cf,iQ r2,iQ c2,.bool rf2,.bool cf2,iQ m,s]
inductive KidsS (w:World) (U:Nat->Prop):Value->List ET->Prop
 | mk (p:Option Addr) (cap:Nat) (es:List ET) (s:Nat->Value) (hc:es.length<=cap)
   (hp:0<es.length->∃ g,p=some ⟨g,0,none⟩/\U g/\∀ (i:Nat) (e:ET),es[i]?=some e->∀ (c:Nat) (u:Value),(e.n.cells++[s i])[c]?=some u->w.cell? ⟨g,i * 15+c,none⟩=some u)
   (hk:∀ (i:Nat) (e:ET),es[i]?=some e->KidsS w U (s i) e.kids):KidsS w U (.slice p es.length cap) es
theorem KidsS.keep {w w':World} {U U':Nat->Prop} {v:Value} {es:List ET} (h:KidsS w U v es) (hw:∀ k,U k->w'.heap[k]?=w.heap[k]?) (hu:∀ k,U k->U' k):KidsS w' U' v es:=by
 induction h with
 | mk p cap es s hc hp hk ih =>
  refine KidsS.mk p cap es s hc (fun h0=>?_) ih;obtain ⟨g,h1,h2,h3⟩:=hp h0;refine ⟨g,h1,hu g h2,fun i e hi c u hcu=>?_⟩;rw [<- h3 i e hi c u hcu];unfold World.cell?;simp only [hw g h2]
theorem KidsS.l {w w':World} {U:Nat->Prop} {v:Value} {es:List ET} (h:KidsS w U v es) (hU:∀ k,U k->k<w.heap.size) (x:Ext w w'):KidsS w' U v es:=h.keep (fun k hk=>x.block k (hU k hk)) (fun _ h=>h)
theorem KidsS.slice {w:World} {U:Nat->Prop} {v:Value} {es:List ET} (h:KidsS w U v es):∃ p cap,v=.slice p es.length cap/\es.length<=cap:=by
 cases h with
 | mk p cap es s hc hp hk=>exact ⟨p,cap,rfl,hc⟩
theorem KidsS.row {w:World} {U:Nat->Prop} {v:Value} {es:List ET} (h:KidsS w U v es) {j:Nat} {e:ET} (hj:es[j]?=some e):∃ cap g s,v=.slice (some ⟨g,0,none⟩) es.length cap/\w.rangeAt g (j * 15) (e.n.cells++[s])/\KidsS w U s e.kids:=by
 cases h with
 | mk p cap es s hc hp hk =>
  obtain ⟨g,rfl,_,h3⟩:=hp (by have:=(List.getElem?_eq_some_iff.1 hj).1;omega);exact ⟨cap,g,s j,rfl,fun c u hu=>h3 j e hj c u hu,hk j e hj⟩
abbrev NT.ex (x:NT) (s:Value):Value:=exV x.k x.t x.n x.d x.x x.r x.c x.f x.g x.r2 x.c2 x.f2 x.g2 x.q s
abbrev NT.exL (x:NT) (s:Value):List Value:=[iQ x.k,sV x.t,.bool x.n,iQ x.d,iQ x.x,iQ x.r,iQ x.c,.bool x.f,.bool x.g,iQ x.r2,iQ x.c2,.bool x.f2,.bool x.g2,iQ x.q,s]
theorem zDL:(Tryz.prog.info? 77).map (·.size)=some 15:=by kernel_rfl
theorem zVC (x:NT) (s:Value) (ks:List ET) (U:Nat->Prop) (w:World) (h:KidsS w U s ks) :
  Calls Tryz.prog 125 #[x.ex s] w fun e w'=>e=.returned (.bool (zAR (.mk x ks)))/\Ext w w':=by
 cases h with
 | mk p cap es sv hc hp hkk =>
 obtain ⟨Q,hQ⟩:=nm (zAR (.mk x ks));have HQ:Hid _:=hQ;rw [hQ];clear hQ;obtain ⟨n,hn⟩:=nm (ks.length);have HN:Hid _:=hn;have HP:Hid _:=hp;rw [hn];clear hp hkk hc hn;obtain ⟨k,hk⟩:=nm (x.k);have X:=x1 w (.cells (x.exL (.slice p n cap)).toArray 77);have VN:=zA5 w (x.exL (.slice p n cap)) 77;obtain ⟨wa,ha⟩:=nm (w.alloc (.cells (x.exL (.slice p n cap)).toArray 77));rw [ha] at X VN;have a0:=(VN 0 _ rfl).1;have a14:=(VN 14 _ rfl).1;have HK:Hid _:=hk;have ha':w.alloc (.cells #[iQ k,sV x.t,.bool x.n,iQ x.d,iQ x.x,iQ x.r,iQ x.c,.bool x.f,.bool x.g,iQ x.r2,iQ x.c2,.bool x.f2,.bool x.g2,iQ x.q,.slice p n cap] 77)=wa:=by rw [<- hk];exact ha
 show Calls Tryz.prog 125 #[exV x.k x.t x.n x.d x.x x.r x.c x.f x.g x.r2 x.c2 x.f2 x.g2 x.q (.slice p n cap)] w _;rw [hk] at a0 ⊢;clear VN hk ha;have CU:Hid (∀ {b:Bool},(decide (k=1\/k=2\/k=3\/k=4) || (decide (k=8) && decide (ks.length=1) && ks.head?.any fun x=>decide (x.n.k=1)))=b->b=Q):=fun h=>by
  rw [<- HQ.out,<- h];unfold zAR;show _=(decide (x.k=1\/x.k=2\/x.k=3\/x.k=4) || (decide (x.k=8) && decide (ks.length=1) && ks.head?.any fun x=>decide (x.n.k=1)));rw [HK.out]
 clear HQ HK;by_cases h14:k=1\/k=2\/k=3\/k=4
 ·have HE:Hid (true=Q):=CU.out (by simp [h14]);clear CU a14
  rcases h14 with rfl | rfl | rfl | rfl
  all_goals
   go_enter Tryz.func125,Tryz.ntmps125;go_wp2_with fail;go_ret;exact ⟨zA1 HE.out,X⟩
 ·have q1:¬ k=1:=fun q=>h14 (.inl q);have q2:¬ k=2:=fun q=>h14 (.inr (.inl q));have q3:¬ k=3:=fun q=>h14 (.inr (.inr (.inl q)));have q4:¬ k=4:=fun q=>h14 (.inr (.inr (.inr q)));by_cases h8:k=8
  ·subst h8;by_cases h1:n=1
   ·subst h1;obtain ⟨e,he⟩:=List.length_eq_one_iff.1 HN.out;subst he;obtain ⟨g,rfl,_,hcell⟩:=HP.out (by simp);have c0:=cell_later X (hcell 0 e rfl 0 _ rfl);rw [Nat.zero_mul,Nat.add_zero] at c0;obtain ⟨j,hj⟩:=nm (e.n.k);have HE:Hid ((decide (j=1))=Q):=CU.out (by simp [hj]);rw [hj] at c0;clear CU h14 hj HP hcell q1 q2 q3 q4 HN;go_enter Tryz.func125,Tryz.ntmps125;go_wp2_with fail;go_ret;exact ⟨(zA1 (by first | rfl | simp | (cases hq:_ == _ <;> simp_all))).trans (zA1 HE.out),X⟩
   ·have HE:Hid (false=Q):=CU.out (by simp [HN.out,h1]);have g1:¬ (n:Int)=1:=(by omega);have g2:((n:Int) == 1)=false:=(by simp;omega);clear CU h14 HP HN q1 q2 q3 q4;go_enter Tryz.func125,Tryz.ntmps125;go_wp2_with fail;go_ret;exact ⟨zA1 HE.out,X⟩
  ·have HE:Hid (false=Q):=CU.out (by simp [h14,h8]);clear CU h14 a14 HP HN;go_enter Tryz.func125,Tryz.ntmps125;go_wp2_with fail;go_ret;exact ⟨zA1 HE.out,X⟩
theorem zQS {P:Program} (w:World) (base:Nat) (t tx ty e:TypeId) (i:TypeInfo) (z:Value) (ht:P.underlying t=some (.slice e)) (hi:P.info? e=some i) (hz:i.zero=some z)
  (sz:Nat) (hsize:i.size=sz) (hby:i.bytes<=64) (hzs:z.cells.size=sz) (v:Value) (n:Nat) (xs:List Value) (hown:w.ownsRow base e sz v n xs) (x:Value) (m:Nat) (news:List Value) (hs:Src P sz tx x m news w)
  (hnm:n+m<=1000000000) (hbase:base<=w.heap.size) :
  ∃ v' w',(Builtin.append_ #[t,tx] ty #[v,x]).run P w=.ok v' w'/\w'.ownsRow base e sz v' (n+m) (xs++news)/\w.grownBy w' v.ownBlock/\(v'.ownBlock=v.ownBlock\/v'.ownBlock=some w.heap.size):=by
 have hs':Src P i.size tx x m news w:=by rw [hsize];exact hs
 have hml:n+m<=maxLen:=by simp only [maxLen];omega
 have hlen:(xs++news).length=(n+m) * sz:=by rw [List.length_append,hown.1,hs.newsLen,Nat.add_mul]
 have grown:∀ (old:Nat) (row:Option Nat),
   (w.drew.alloc (.cells ((xs++news).toArray++Builtin.zeroCells z.cells (grownCap w (n+m) old e - (n+m))) e)).ownsRow base e sz (.slice (some ⟨w.heap.size,0,none⟩) (n+m) (grownCap w (n+m) old e)) (n+m) (xs++news) /\
   w.grownBy (w.drew.alloc (.cells ((xs++news).toArray++Builtin.zeroCells z.cells (grownCap w (n+m) old e - (n+m))) e)) row:=by
  intro old row;have hge:=grownCap_ge w (n+m) old e;refine ⟨⟨hlen,.inr ⟨w.heap.size,_,_,rfl,hbase,heap_alloc_new w.drew _,hge,grownCap_le_maxLen w (n+m) old e hml,?_,?_⟩⟩,⟨rfl,rfl,rfl,by simp,fun k hk _=>heap_alloc_old w.drew _ (h:=hk)⟩⟩
  ·rw [Array.size_append,List.size_toArray,size_zeroCells,hzs,hlen,<- Nat.add_mul]
   congr 1
   omega
  ·rw [Array.toList_append,<- hlen];exact List.take_left
 rcases hown.2 with ⟨rfl,rfl⟩ | ⟨g,cap,cur,rfl,hbg,hg,hnc,hcm,hcs,htake⟩
 ·have hx:xs=[]:=List.eq_nil_of_length_eq_zero (by have:=hown.1;rw [Nat.zero_mul] at this;exact this);subst hx;by_cases hm:m=0
  ·subst hm;have hn:news=[]:=List.eq_nil_of_length_eq_zero (by have:=hs.newsLen;rw [Nat.zero_mul] at this;exact this);subst hn;exact ⟨_,_,run_append_nothing w t tx ty e i ht hi none 0 0 (Nat.le_refl _) x hs',World.ownsRow_nil w base e sz,⟨rfl,rfl,rfl,Nat.le_refl _,fun _ _ _=>rfl⟩,Or.inl rfl⟩
  ·have hr:=run_append_grow_src (P:=P) w t tx ty e i z ht hi hz none 0 0 [] (run_firstCells_none w.drew i.size 0 0 0) x m news hs' (by omega) (by omega) (growslice_fits (by omega) (by have:=Nat.mul_le_mul hnm hby;omega));have hgr:=grown 0 (Value.ownBlock (.slice none 0 0));exact ⟨_,_,hr,hgr.1,hgr.2,Or.inr rfl⟩
 ·by_cases hroom:n+m<=cap
  ·have hfit:n * i.size+news.length<=cur.size:=by rw [hs'.newsLen,hcs,hsize,<- Nat.add_mul];exact Nat.mul_le_mul_right _ hroom
   have hst:=run_storeCells_at P g (n * i.size) e news 0 cur w hg (by simpa using hfit) hs.one;simp only [Nat.add_zero] at hst;have hr:(Builtin.append_ #[t,tx] ty #[.slice (some ⟨g,0,none⟩) n cap,x]).run P w=.ok (.slice (some ⟨g,0,none⟩) (n+m) cap) (w.setRow g (cur.toList.take (n * i.size)++news++cur.toList.drop (n * i.size+news.length)).toArray):=by
    rcases hs'.kind with ⟨e',hk⟩ | hk <;> simp [Builtin.append_,run_underlying ht,run_underlying hk,sizeOf,typeInfo,hi,hs'.len,hroom,hs'.cells,Addr.add_lit,hst]
   refine ⟨_,_,hr,⟨hlen,.inr ⟨g,cap,_,rfl,hbg,setRow_heap w g cur _ e _ hg,hroom,hcm,?_,?_⟩⟩,⟨rfl,rfl,rfl,by simp,fun k _ hk=>setRow_other w g k _ (fun e=>hk (by simp [Value.ownBlock,e]))⟩,Or.inl rfl⟩
   ·simp only [List.size_toArray,List.length_append,List.length_take,List.length_drop,Array.length_toList];omega
   ·rw [hsize,htake,<- hlen];exact List.take_left
  ·have holds:∀ j u,xs[j]?=some u->w.cell? ((⟨g,0,none⟩:Addr).add j)=some u:=hown.cells (g:=g) rfl;have hr:=run_append_grow_src (P:=P) w t tx ty e i z ht hi hz (some ⟨g,0,none⟩) n cap xs (run_firstCells_some (P:=P) w.drew i.size n ⟨g,0,none⟩ n cap xs (by rw [hsize];exact hown.1) (by simpa using holds)) x m news hs' (by omega) (by omega) (growslice_fits (by omega) (by have:=Nat.mul_le_mul hnm hby;omega));have hgr:=grown cap (Value.ownBlock (.slice (some ⟨g,0,none⟩) n cap));exact ⟨_,_,hr,hgr.1,hgr.2,Or.inr rfl⟩
abbrev NT.val (e:NT):Value:=nodV e.k e.t e.n e.d e.x e.r e.c e.f e.g e.r2 e.c2 e.f2 e.g2 e.q
theorem zCE:(Tryz.prog.info? 73).map (·.size)=some 14:=by kernel_rfl
theorem zGB (x:NT) (w:World):Calls Tryz.prog 256 #[.agg #[iQ x.k,sV x.t,.bool x.n,iQ x.d,iQ x.x,iQ x.r,iQ x.c,.bool x.f,.bool x.g,iQ x.r2,iQ x.c2,.bool x.f2,.bool x.g2,iQ x.q]] w fun e w'=>e=.returned (.agg #[iQ x.k,sV x.t,.bool x.n,iQ x.d,iQ x.x,iQ x.r,iQ x.c,.bool x.f,.bool x.g,iQ x.r2,iQ x.c2,.bool x.f2,.bool x.g2,iQ x.q])/\Ext w w':=by
 obtain ⟨wa,ha,X1,VN,-⟩:=zAD w [iQ x.k,sV x.t,.bool x.n,iQ x.d,iQ x.x,iQ x.r,iQ x.c,.bool x.f,.bool x.g,iQ x.r2,iQ x.c2,.bool x.f2,.bool x.g2,iQ x.q] 185;obtain ⟨wb,hb,X2,VZ,-⟩:=zAD wa [iQ 0,.string ⟨#[]⟩,.bool false,iQ 0,iQ 0,iQ 0,iQ 0,.bool false,.bool false,iQ 0,iQ 0,.bool false,.bool false,iQ 0] 73;have sa:wa.heap.size=w.heap.size+1:=by rw [<- ha,World.size_alloc]
 rw [sa] at VZ;have VN:=VN.l X2;have X:=xt X1 X2;clear X1 X2;have HRA:wb.rangeAt w.heap.size 0 [iQ x.k,sV x.t,.bool x.n,iQ x.d,iQ x.x,iQ x.r,iQ x.c,.bool x.f,.bool x.g,iQ x.r2,iQ x.c2,.bool x.f2,.bool x.g2,iQ x.q]:=fun j v hv=>by rw [Nat.zero_add];exact (VN j v hv).1
 go_enter Tryz.func256,Tryz.ntmps256;have VT:=VZ.there;have VR:=World.rangeAt_setCells_same wb (w.heap.size+1) 0 [iQ x.k,sV x.t,.bool x.n,iQ x.d,iQ x.x,iQ x.r,iQ x.c,.bool x.f,.bool x.g,iQ x.r2,iQ x.c2,.bool x.f2,.bool x.g2,iQ x.q] VT;have XR:=Ext.setCells (b:=w.heap.size+1) (by omega) [iQ x.k,sV x.t,.bool x.n,iQ x.d,iQ x.x,iQ x.r,iQ x.c,.bool x.f,.bool x.g,iQ x.r2,iQ x.c2,.bool x.f2,.bool x.g2,iQ x.q] 0 wb X;obtain ⟨wq,hq⟩:=nm (wb.setCells (w.heap.size+1) 0 [iQ x.k,sV x.t,.bool x.n,iQ x.d,iQ x.x,iQ x.r,iQ x.c,.bool x.f,.bool x.g,iQ x.r2,iQ x.c2,.bool x.f2,.bool x.g2,iQ x.q]);rw [hq] at VR XR;have e0:=zA0 VR (i:=0) rfl;have e1:=zA0 VR (i:=1) rfl;have e2:=zA0 VR (i:=2) rfl;have e3:=zA0 VR (i:=3) rfl;have e4:=zA0 VR (i:=4) rfl;have e5:=zA0 VR (i:=5) rfl;have e6:=zA0 VR (i:=6) rfl;have e7:=zA0 VR (i:=7) rfl;have e8:=zA0 VR (i:=8) rfl;have e9:=zA0 VR (i:=9) rfl;have e10:=zA0 VR (i:=10) rfl;have e11:=zA0 VR (i:=11) rfl;have e12:=zA0 VR (i:=12) rfl;have e13:=zA0 VR (i:=13) rfl;clear VR;have one:(#[iQ x.k,sV x.t,.bool x.n,iQ x.d,iQ x.x,iQ x.r,iQ x.c,.bool x.f,.bool x.g,iQ x.r2,iQ x.c2,.bool x.f2,.bool x.g2,iQ x.q]:Array Value).all (·.oneCell')=true:=by simp [Value.oneCell']
 go_wp2_with (first | (refine wpList_load_mid rfl 73 (.tmp 3) rfl w.heap.size 0 rfl _ _ HRA Tryz.underlying73 rfl zCE ?_) | (refine wpList_store_mid rfl _ _ _ rfl (w.heap.size+1) 0 #[iQ x.k,sV x.t,.bool x.n,iQ x.d,iQ x.x,iQ x.r,iQ x.c,.bool x.f,.bool x.g,iQ x.r2,iQ x.c2,.bool x.f2,.bool x.g2,iQ x.q] rfl rfl VT zCE one ?_;show wpList _ _ _ _ _ (wb.setCells (w.heap.size+1) 0 [iQ x.k,sV x.t,.bool x.n,iQ x.d,iQ x.x,iQ x.r,iQ x.c,.bool x.f,.bool x.g,iQ x.r2,iQ x.c2,.bool x.f2,.bool x.g2,iQ x.q]);rw [hq]));exact bodyPost_ret (v:=.agg #[iQ x.k,sV x.t,.bool x.n,iQ x.d,iQ x.x,iQ x.r,iQ x.c,.bool x.f,.bool x.g,iQ x.r2,iQ x.c2,.bool x.f2,.bool x.g2,iQ x.q]) (by simp [results,Tryz.results256,go_sem,e0,e1,e2,e3,e4,e5,e6,e7,e8,e9,e10,e11,e12,e13]) rfl ⟨rfl,XR⟩
theorem zDK (k:Int) (kid:Value) (w:World):Calls Tryz.prog 244 #[.agg #[iQ k,kid]] w fun e w'=>e=.returned (.agg #[iQ k,.string ⟨#[]⟩,.bool false,iQ 0,iQ 0,iQ 0,iQ 0,.bool false,.bool false,iQ 0,iQ 0,.bool false,.bool false,iQ 1])/\Ext w w':=by
 obtain ⟨wa,ha,X1,VN,-⟩:=zAD w [iQ k,kid] 174;obtain ⟨wb,hb,X2,VZ,-⟩:=zAD wa [iQ 0,.string ⟨#[]⟩,.bool false,iQ 0,iQ 0,iQ 0,iQ 0,.bool false,.bool false,iQ 0,iQ 0,.bool false,.bool false,iQ 0] 73;have sa:wa.heap.size=w.heap.size+1:=by rw [<- ha,World.size_alloc]
 rw [sa] at VZ;have VN:=VN.l X2;have X:=xt X1 X2;clear X1 X2;have a0:=vC2 VN;go_enter Tryz.func244,Tryz.ntmps244;have VT:=VZ.there;have VR:=World.rangeAt_setCells_same wb (w.heap.size+1) 0 [iQ k,.string ⟨#[]⟩,.bool false,iQ 0,iQ 0,iQ 0,iQ 0,.bool false,.bool false,iQ 0,iQ 0,.bool false,.bool false,iQ 1] VT;have XR:=Ext.setCells (b:=w.heap.size+1) (by omega) [iQ k,.string ⟨#[]⟩,.bool false,iQ 0,iQ 0,iQ 0,iQ 0,.bool false,.bool false,iQ 0,iQ 0,.bool false,.bool false,iQ 1] 0 wb X;obtain ⟨wq,hq⟩:=nm (wb.setCells (w.heap.size+1) 0 [iQ k,.string ⟨#[]⟩,.bool false,iQ 0,iQ 0,iQ 0,iQ 0,.bool false,.bool false,iQ 0,iQ 0,.bool false,.bool false,iQ 1]);rw [hq] at VR XR;have e0:=zA0 VR (i:=0) rfl;have e1:=zA0 VR (i:=1) rfl;have e2:=zA0 VR (i:=2) rfl;have e3:=zA0 VR (i:=3) rfl;have e4:=zA0 VR (i:=4) rfl;have e5:=zA0 VR (i:=5) rfl;have e6:=zA0 VR (i:=6) rfl;have e7:=zA0 VR (i:=7) rfl;have e8:=zA0 VR (i:=8) rfl;have e9:=zA0 VR (i:=9) rfl;have e10:=zA0 VR (i:=10) rfl;have e11:=zA0 VR (i:=11) rfl;have e12:=zA0 VR (i:=12) rfl;have e13:=zA0 VR (i:=13) rfl;clear VR;have one:(#[iQ k,.string ⟨#[]⟩,.bool false,iQ 0,iQ 0,iQ 0,iQ 0,.bool false,.bool false,iQ 0,iQ 0,.bool false,.bool false,iQ 1]:Array Value).all (·.oneCell')=true:=by simp [Value.oneCell']
 go_wp2_with (refine wpList_store_mid rfl _ _ _ rfl (w.heap.size+1) 0 #[iQ k,.string ⟨#[]⟩,.bool false,iQ 0,iQ 0,iQ 0,iQ 0,.bool false,.bool false,iQ 0,iQ 0,.bool false,.bool false,iQ 1] rfl rfl VT zCE one ?_;show wpList _ _ _ _ _ (wb.setCells (w.heap.size+1) 0 [iQ k,.string ⟨#[]⟩,.bool false,iQ 0,iQ 0,iQ 0,iQ 0,.bool false,.bool false,iQ 0,iQ 0,.bool false,.bool false,iQ 1]);rw [hq]);exact bodyPost_ret (v:=.agg #[iQ k,.string ⟨#[]⟩,.bool false,iQ 0,iQ 0,iQ 0,iQ 0,.bool false,.bool false,iQ 0,iQ 0,.bool false,.bool false,iQ 1]) (by simp [results,Tryz.results244,go_sem,e0,e1,e2,e3,e4,e5,e6,e7,e8,e9,e10,e11,e12,e13]) rfl ⟨rfl,XR⟩
theorem zGA (t:List UInt8) (lev:Int) (l r:Value) (w:World):Calls Tryz.prog 247 #[.agg #[sV t,iQ lev,l,r]] w fun e w'=>e=.returned (.agg #[iQ 10,sV t,.bool false,iQ 0,iQ 0,iQ 0,iQ 0,.bool false,.bool false,iQ 0,iQ 0,.bool false,.bool false,iQ 2])/\Ext w w':=by
 obtain ⟨wa,ha,X1,VN,-⟩:=zAD w [sV t,iQ lev,l,r] 179;obtain ⟨wb,hb,X2,VZ,-⟩:=zAD wa [iQ 0,.string ⟨#[]⟩,.bool false,iQ 0,iQ 0,iQ 0,iQ 0,.bool false,.bool false,iQ 0,iQ 0,.bool false,.bool false,iQ 0] 73;have sa:wa.heap.size=w.heap.size+1:=by rw [<- ha,World.size_alloc]
 rw [sa] at VZ;have VN:=VN.l X2;have X:=xt X1 X2;clear X1 X2;have a0:=vC4 VN;go_enter Tryz.func247,Tryz.ntmps247;have VT:=VZ.there;have VR:=World.rangeAt_setCells_same wb (w.heap.size+1) 0 [iQ 10,sV t,.bool false,iQ 0,iQ 0,iQ 0,iQ 0,.bool false,.bool false,iQ 0,iQ 0,.bool false,.bool false,iQ 2] VT;have XR:=Ext.setCells (b:=w.heap.size+1) (by omega) [iQ 10,sV t,.bool false,iQ 0,iQ 0,iQ 0,iQ 0,.bool false,.bool false,iQ 0,iQ 0,.bool false,.bool false,iQ 2] 0 wb X;obtain ⟨wq,hq⟩:=nm (wb.setCells (w.heap.size+1) 0 [iQ 10,sV t,.bool false,iQ 0,iQ 0,iQ 0,iQ 0,.bool false,.bool false,iQ 0,iQ 0,.bool false,.bool false,iQ 2]);rw [hq] at VR XR;have e0:=zA0 VR (i:=0) rfl;have e1:=zA0 VR (i:=1) rfl;have e2:=zA0 VR (i:=2) rfl;have e3:=zA0 VR (i:=3) rfl;have e4:=zA0 VR (i:=4) rfl;have e5:=zA0 VR (i:=5) rfl;have e6:=zA0 VR (i:=6) rfl;have e7:=zA0 VR (i:=7) rfl;have e8:=zA0 VR (i:=8) rfl;have e9:=zA0 VR (i:=9) rfl;have e10:=zA0 VR (i:=10) rfl;have e11:=zA0 VR (i:=11) rfl;have e12:=zA0 VR (i:=12) rfl;have e13:=zA0 VR (i:=13) rfl;clear VR;have one:(#[iQ 10,sV t,.bool false,iQ 0,iQ 0,iQ 0,iQ 0,.bool false,.bool false,iQ 0,iQ 0,.bool false,.bool false,iQ 2]:Array Value).all (·.oneCell')=true:=by simp [Value.oneCell']
 go_wp2_with (refine wpList_store_mid rfl _ _ _ rfl (w.heap.size+1) 0 #[iQ 10,sV t,.bool false,iQ 0,iQ 0,iQ 0,iQ 0,.bool false,.bool false,iQ 0,iQ 0,.bool false,.bool false,iQ 2] rfl rfl VT zCE one ?_;show wpList _ _ _ _ _ (wb.setCells (w.heap.size+1) 0 [iQ 10,sV t,.bool false,iQ 0,iQ 0,iQ 0,iQ 0,.bool false,.bool false,iQ 0,iQ 0,.bool false,.bool false,iQ 2]);rw [hq]);exact bodyPost_ret (v:=.agg #[iQ 10,sV t,.bool false,iQ 0,iQ 0,iQ 0,iQ 0,.bool false,.bool false,iQ 0,iQ 0,.bool false,.bool false,iQ 2]) (by simp [results,Tryz.results247,go_sem,e0,e1,e2,e3,e4,e5,e6,e7,e8,e9,e10,e11,e12,e13]) rfl ⟨rfl,XR⟩
theorem zGC (t:List UInt8) (p:Option Addr) (n c:Nat) (w:World):Calls Tryz.prog 250 #[.agg #[sV t,.slice p n c]] w fun e w'=>e=.returned (.agg #[iQ 11,sV t,.bool false,iQ 0,iQ 0,iQ 0,iQ 0,.bool false,.bool false,iQ 0,iQ 0,.bool false,.bool false,iQ (n:Int)])/\Ext w w':=by
 obtain ⟨wa,ha,X1,VN,-⟩:=zAD w [sV t,.slice p n c] 181;obtain ⟨wb,hb,X2,VZ,-⟩:=zAD wa [iQ 0,.string ⟨#[]⟩,.bool false,iQ 0,iQ 0,iQ 0,iQ 0,.bool false,.bool false,iQ 0,iQ 0,.bool false,.bool false,iQ 0] 73;have sa:wa.heap.size=w.heap.size+1:=by rw [<- ha,World.size_alloc]
 rw [sa] at VZ;have VN:=VN.l X2;have X:=xt X1 X2;clear X1 X2;have a0:=vC2 VN;go_enter Tryz.func250,Tryz.ntmps250;have VT:=VZ.there;have VR:=World.rangeAt_setCells_same wb (w.heap.size+1) 0 [iQ 11,sV t,.bool false,iQ 0,iQ 0,iQ 0,iQ 0,.bool false,.bool false,iQ 0,iQ 0,.bool false,.bool false,iQ (n:Int)] VT;have XR:=Ext.setCells (b:=w.heap.size+1) (by omega) [iQ 11,sV t,.bool false,iQ 0,iQ 0,iQ 0,iQ 0,.bool false,.bool false,iQ 0,iQ 0,.bool false,.bool false,iQ (n:Int)] 0 wb X;obtain ⟨wq,hq⟩:=nm (wb.setCells (w.heap.size+1) 0 [iQ 11,sV t,.bool false,iQ 0,iQ 0,iQ 0,iQ 0,.bool false,.bool false,iQ 0,iQ 0,.bool false,.bool false,iQ (n:Int)]);rw [hq] at VR XR;have e0:=zA0 VR (i:=0) rfl;have e1:=zA0 VR (i:=1) rfl;have e2:=zA0 VR (i:=2) rfl;have e3:=zA0 VR (i:=3) rfl;have e4:=zA0 VR (i:=4) rfl;have e5:=zA0 VR (i:=5) rfl;have e6:=zA0 VR (i:=6) rfl;have e7:=zA0 VR (i:=7) rfl;have e8:=zA0 VR (i:=8) rfl;have e9:=zA0 VR (i:=9) rfl;have e10:=zA0 VR (i:=10) rfl;have e11:=zA0 VR (i:=11) rfl;have e12:=zA0 VR (i:=12) rfl;have e13:=zA0 VR (i:=13) rfl;clear VR;have one:(#[iQ 11,sV t,.bool false,iQ 0,iQ 0,iQ 0,iQ 0,.bool false,.bool false,iQ 0,iQ 0,.bool false,.bool false,iQ (n:Int)]:Array Value).all (·.oneCell')=true:=by simp [Value.oneCell']
 go_wp2_with (refine wpList_store_mid rfl _ _ _ rfl (w.heap.size+1) 0 #[iQ 11,sV t,.bool false,iQ 0,iQ 0,iQ 0,iQ 0,.bool false,.bool false,iQ 0,iQ 0,.bool false,.bool false,iQ (n:Int)] rfl rfl VT zCE one ?_;show wpList _ _ _ _ _ (wb.setCells (w.heap.size+1) 0 [iQ 11,sV t,.bool false,iQ 0,iQ 0,iQ 0,iQ 0,.bool false,.bool false,iQ 0,iQ 0,.bool false,.bool false,iQ (n:Int)]);rw [hq]);exact bodyPost_ret (v:=.agg #[iQ 11,sV t,.bool false,iQ 0,iQ 0,iQ 0,iQ 0,.bool false,.bool false,iQ 0,iQ 0,.bool false,.bool false,iQ (n:Int)]) (by simp [results,Tryz.results250,go_sem,e0,e1,e2,e3,e4,e5,e6,e7,e8,e9,e10,e11,e12,e13]) rfl ⟨rfl,XR⟩
end Go.Proofs.YteliaeejooekbaaGreatDoor
