/-
  Several texts in one: K2, Sb2, Nought, TxNum, DgS, DatS, DgI, Sb7, DatB, DatT, DatU, DatV, DatW, DatX, DatY, DatZ.
-/
import Derived.Test.YtjlojlgdkfpcdaaGreatDoorMg24
import Derived.Test.YtjlojlgdkfpcdaaGreatDoorKu
import Derived.Test.YtjlojlgdkfpcdaaGreatDoorMg16
import Derived.Test.YtjlojlgdkfpcdaaGreatDoorText
import Derived.Test.YtjlojlgdkfpcdaaGreatDoorMg6
import Derived.Test.YtjlojlgdkfpcdaaGreatDoorMg9
import Derived.Lib.ItoaNum
import Derived.Test.YtjlojlgdkfpcdaaGreatDoorMg11
import Derived.Test.YtjlojlgdkfpcdaaGreatDoorMg1
import Derived.Deep.QuietTactic
import Derived.BigQuiet
import Derived.Deep.RegionWith
import Derived.Deep.RegionHeld3
import Derived.Deep.DeepCutAuto
set_option maxRecDepth 8000
set_option maxHeartbeats 4000000
namespace Go.Proofs.YtjlojlgdkfpcdaaGreatDoor
open Go.RowKit
theorem zOB (p:Nat) (hp:p<11):zU1[p]?=some (.int .u16 ((zI4.getD p 0:Nat):Int))/\zI4.getD p 0<65536:=by
 match p,hp with
 | 0,_=>exact ⟨rfl,by decide⟩
 | 1,_=>exact ⟨rfl,by decide⟩
 | 2,_=>exact ⟨rfl,by decide⟩
 | 3,_=>exact ⟨rfl,by decide⟩
 | 4,_=>exact ⟨rfl,by decide⟩
 | 5,_=>exact ⟨rfl,by decide⟩
 | 6,_=>exact ⟨rfl,by decide⟩
 | 7,_=>exact ⟨rfl,by decide⟩
 | 8,_=>exact ⟨rfl,by decide⟩
 | 9,_=>exact ⟨rfl,by decide⟩
 | 10,_=>exact ⟨rfl,by decide⟩
theorem zSS (last:Nat):mayB 0 last=false:=by unfold mayB zI4;simp
theorem zTA (last:Nat) (c:BL):∀ q,q<1->fitP last c q=false:=fun q hq=>by
 obtain rfl:q=0:=by omega
 unfold fitP;rw [zSS];rfl
theorem next_at {last p:Nat} {l:BL} (hp:p<10) (h:fitP last l p=true) (hn:∀ q,q<p->fitP last l q=false):zAI last l=some p:=by
 unfold zAI;rw [List.find?_eq_some_iff_getElem];refine ⟨h,p,by simpa using hp,by simp,fun j hj=>?_⟩;simp only [List.getElem_range];rw [hn j hj];rfl
theorem zSH {last:Nat} {l:BL} (hn:∀ q,q<10->fitP last l q=false):zAI last l=none:=by
 unfold zAI;rw [List.find?_eq_none];intro q hq;rw [hn q (by simpa using hq)];decide
theorem zD8 (l:BL) (k:Nat):(⟨l.toArray⟩:ByteArray).extract 0 k=⟨(l.take k).toArray⟩:=by
 rw [zF9,List.drop_zero,Nat.sub_zero]
theorem zD7 (l:BL) (k:Nat):(⟨l.toArray⟩:ByteArray).extract k l.length=⟨(l.drop k).toArray⟩:=by
 rw [zF9,List.take_of_length_le (by rw [List.length_drop];omega)]
theorem secIw (l:BL) (hl:l.length<=1000) (w:World) (T:TabK w) :
  Calls Tryz.prog 25 #[sV l] w fun e w'=>e=.returned (.tuple #[.agg (secI l).1.cells.toArray,sV (secI l).2.1,.bool (mayB 10 (secI l).2.2)])/\Ext w w':=by
 obtain ⟨R,hR⟩:=nm (secI l);have HR:Hid (zDW 10 0 l zBM=R):=hR;rw [hR];clear hR;obtain ⟨F,hF⟩:=nm (w.heap.size);have HF:Hid (w.heap.size=F):=hF;have V1:=zA2 w zsK 28;have X1:=x1 w (.cells zsK.toArray 28);have V2:=zA2 (w.alloc (.cells zsK.toArray 28)) zsK 28;have X2:=x1 (w.alloc (.cells zsK.toArray 28)) (.cells zsK.toArray 28);rw [World.size_alloc,hF] at V2;rw [hF] at V1;have S0:Hid (Vec ((w.alloc (.cells zsK.toArray 28)).alloc (.cells zsK.toArray 28)) (F+1) zBM.cells/\Vec ((w.alloc (.cells zsK.toArray 28)).alloc (.cells zsK.toArray 28)) F zsK/\Ext w ((w.alloc (.cells zsK.toArray 28)).alloc (.cells zsK.toArray 28))):=⟨V2,V1.l X2,xt X1 X2⟩;have HT:Hid (TabK w):=T;clear V1 V2 X1 X2 T;go_enter Tryz.func25,Tryz.ntmps25;go_wp2_with fail
 go_step3
 go_wp2_with fail
 go_step3
 go_wp2_with fail;clear hF
 go_loopg [0,6] 10 (fun gk sc sl wr=>∃ (c:BL) (last:Nat) (f:KT) (k:Nat),Hid (last+gk=10)/\sc=sV c/\sl=.int .i64 last/\c.length<=1000/\last<=9/\Hid (10<=k+last/\zDW k last c f=R)/\Hid (Vec wr (F+1) f.cells/\Vec wr F zsK/\Ext w wr))
 case atStart=>exact ⟨l,0,zBM,10,by show _=_;rfl,rfl,rfl,hl,by omega,⟨by omega,HR.out⟩,S0⟩
 case round =>
  clear S0 HR hl;obtain ⟨c,last,f,k,HG,rfl,rfl,hc,hlast,HK,HV⟩:=hrel;go_wp2_with fail;go_loopw [0,6,7] (fun sc sl i wx=>∃ (p:Nat),1<=p/\p<=10/\sc=sV c/\sl=.int .i64 last/\i=.int .i64 p/\Hid (∀ q,q<p->fitP last c q=false)/\Hid (Vec wx (F+1) f.cells/\Vec wx F zsK/\Ext w wx)) (fun _ _ i _=>10 - (intOf i).toNat)
  case atStart=>exact ⟨1,by omega,by omega,rfl,rfl,rfl,zTA last c,HV⟩
  case round =>
   clear HV;obtain ⟨p,hp1,hp10,rfl,rfl,rfl,HN,HV⟩:=hrel;by_cases hlt:p<10
   ·have i1:(p:Int)<10:=(by omega);obtain ⟨ha,hu⟩:=zOB p (by omega);have ga:=(HT.out.l HV.out.2.2).2.1 p _ ha;rw [Nat.zero_add] at ga;have HI:=fun W=>hasI (zI4.getD p 0) last hu (by omega) W;obtain ⟨m,hm⟩:=nm (mayB p last);have hm':(zI4.getD p 0 / 2 ^ last % 2 == 1)=m:=hm;simp only [hm'] at HI;obtain ⟨u,huu⟩:∃ u:Int,((zI4.getD p 0:Nat):Int)=u:=⟨_,rfl⟩;simp only [huu] at HI;rw [huu] at ga;clear ha hu hm' huu;cases m
    ·have HN2:Hid (∀ q,q<p+1->fitP last c q=false):=fun q hq=>by
      rcases Nat.lt_or_ge q p with h1 | h1
      ·exact HN.out q h1
      ·obtain rfl:q=p:=(by omega);unfold fitP;rw [hm];rfl
     clear HN hm;go_wp2_with fail;refine (HI _).mono ?_;rintro e w2 ⟨rfl,h2⟩;rw [h2];clear h2;go_wp2_with fail;go_roundw
     case rel=>exact ⟨p+1,by omega,by omega,rfl,rfl,by go_num,HN2,HV⟩
     case measure=>simp [intOf];omega
    ·have PL:=zUU p hp1 (by omega) c hc wr (HT.out.l HV.out.2.2);have hle:=zPC p c;obtain ⟨n,hn⟩:=nm (zA0 p c);rw [hn] at PL hle;have hmf:fitP last c p=decide (0<n):=(by unfold fitP;rw [hm,hn];rfl);by_cases hn0:n=0
     ·have HN2:Hid (∀ q,q<p+1->fitP last c q=false):=fun q hq=>by
       rcases Nat.lt_or_ge q p with h1 | h1
       ·exact HN.out q h1
       ·obtain rfl:q=p:=(by omega);rw [hmf,hn0];rfl
      subst hn0;have PL:Calls Tryz.prog 54 #[iQ (p:Int),sV c] wr fun e w'=>e=.returned (iQ 0)/\Ext wr w':=PL;clear HN hm hmf hn;go_wp2_with fail;refine (HI _).mono ?_;rintro e w2 ⟨rfl,h2⟩;rw [h2];clear h2;go_wp2_with fail;refine PL.mono ?_;rintro e w3 ⟨rfl,e3⟩;have HV3:Hid (Vec w3 (F+1) f.cells/\Vec w3 F zsK/\Ext w w3):=⟨HV.out.1.l e3,HV.out.2.1.l e3,xt HV.out.2.2 e3⟩;clear e3 HV;go_wp2_with fail;go_roundw
      case rel=>exact ⟨p+1,by omega,by omega,rfl,rfl,by go_num,HN2,HV3⟩
      case measure=>simp [intOf];omega
     ·have hfit:fitP last c p=true:=(by rw [hmf];simp;omega);have hnx:=next_at (by omega) hfit HN.out;have hlp:last<p:=may_lt p (by omega) last (by omega) hm;have HK2:Hid (∃ k',10<=k'+p/\zDW k' p (c.drop n) (zB6 p (c.take n) f)=R):=by
       obtain ⟨h1,h2⟩:=HK.out;cases k with
       | zero=>omega
       | succ k' =>
        refine ⟨k',by omega,?_⟩;rw [<- h2];show _=(match zAI last c with | none=>_ | some p=>_);rw [hnx,<- hn]
      have TK:∀ W,Vec W (F+1) f.cells->Calls Tryz.prog 55 #[.pointer (some ⟨F+1,0,none⟩),iQ (p:Int),.string ((⟨c.toArray⟩:ByteArray).extract 0 n)] W fun e w'=>(∃ v,e=.returned v)/\Vec w' (F+1) (zB6 p (c.take n) f).cells/\zAA (F+1) W w':=fun W hW=>by
       rw [zD8];exact takeI p hp1 (by omega) (F+1) (c.take n) f W hW (by rw [List.length_take];omega)
      have hz:(⟨c.toArray⟩:ByteArray).size=c.length:=rfl;have HTl:=zD7 c n;have hdl:(c.drop n).length<=1000:=(by rw [List.length_drop];omega);obtain ⟨L,hL⟩:=nm (c.length);rw [hL] at hz HTl hle hc;obtain ⟨S,hS⟩:=nm ((⟨c.toArray⟩:ByteArray));obtain ⟨y,hy⟩:=nm (S.extract 0 n);have HTl:Hid ((⟨c.toArray⟩:ByteArray).extract n L=⟨(c.drop n).toArray⟩):=HTl;have i3:0<(n:Int):=(by omega);have i4:(n:Int)<=(L:Int):=(by omega);clear HN hm hmf hn hfit hnx HK hL hy hS;go_wp2_with fail;refine (HI _).mono ?_;rintro e w2 ⟨rfl,h2⟩;rw [h2];clear h2;go_wp2_with fail;refine PL.mono ?_;rintro e w3 ⟨rfl,e3⟩;go_wp2_with fail;refine (TK _ (HV.out.1.l e3)).mono ?_;rintro e w4 ⟨⟨v,rfl⟩,V4,o4⟩;have HV4:Hid (Vec w4 (F+1) (zB6 p (c.take n) f).cells/\Vec w4 F zsK/\Ext w w4):=⟨V4,o4.vec (by omega) (HV.out.2.1.l e3),zAA.ext (xt HV.out.2.2 e3) o4 (by have:=HF.out;omega)⟩;clear e3 HV V4 o4 TK PL HI;go_wp2_with fail
      go_roundg (10 - p)
      case measure=>have:=HG.out;omega
      case rel =>
       obtain ⟨k',h1,h2⟩:=HK2.out;exact ⟨c.drop n,p,zB6 p (c.take n) f,k',by show _=_;omega,rfl,by go_num,hdl,by omega,⟨h1,h2⟩,HV4⟩
   ·obtain rfl:p=10:=(by omega);have HE:Hid (R=(f,c,last)):=by
     show _=_;obtain ⟨h1,h2⟩:=HK.out;cases k with
     | zero=>omega
     | succ k' =>
      rw [<- h2];show (match zAI last c with | none=>_ | some p=>_)=_;rw [zSH HN.out]
    obtain ⟨ha,hu⟩:=zOB 10 (by omega);have ga:wr.cell? ⟨0,10,none⟩=some (.int .u16 1000):=(HT.out.l HV.out.2.2).2.1 10 _ ha;have HI:=fun W=>hasI 1000 last (by omega) (by omega) W;obtain ⟨m,hm⟩:=nm (mayB 10 last);have hm':(1000 / 2 ^ last % 2 == 1)=m:=hm;simp only [hm'] at HI;have HM:Hid (mayB 10 last=m):=hm;clear ha hu hm hm' HN HK;obtain ⟨VF,VR,X⟩:=HV.out;have a0:=(VF 0 _ rfl).1;have a1:=(VF 1 _ rfl).1;have a2:=(VF 2 _ rfl).1;have a3:=(VF 3 _ rfl).1;have a4:=(VF 4 _ rfl).1;have a5:=(VF 5 _ rfl).1;have a6:=(VF 6 _ rfl).1;have a7:=(VF 7 _ rfl).1;have a8:=(VF 8 _ rfl).1;have b0:=(VR 0 _ rfl).1;have b1:=(VR 1 _ rfl).1;have b2:=(VR 2 _ rfl).1;have b3:=(VR 3 _ rfl).1;have b4:=(VR 4 _ rfl).1;have b5:=(VR 5 _ rfl).1;have b6:=(VR 6 _ rfl).1;have b7:=(VR 7 _ rfl).1;have b8:=(VR 8 _ rfl).1;have f0:=(VR 0 _ rfl).2;have f1:=(VR 1 _ rfl).2;have f2:=(VR 2 _ rfl).2;have f3:=(VR 3 _ rfl).2;have f4:=(VR 4 _ rfl).2;have f5:=(VR 5 _ rfl).2;have f6:=(VR 6 _ rfl).2;have f7:=(VR 7 _ rfl).2;have f8:=(VR 8 _ rfl).2;have D:Vec ((((((((((wr.setCell ⟨F,0,none⟩ (.bool f.ng)).setCell ⟨F,1,none⟩ (sV f.bf)).setCell ⟨F,2,none⟩ (sV f.af)).setCell ⟨F,3,none⟩ (iQ f.wh)).setCell ⟨F,4,none⟩ (iQ f.pl)).setCell ⟨F,5,none⟩ (iQ f.mb)).setCell ⟨F,6,none⟩ (.bool f.gr)).setCell ⟨F,7,none⟩ (iQ f.tm)).setCell ⟨F,8,none⟩ (sV f.dt))).drew F f.cells:=Vec.l ((((((((((VR.put 0 (by simp) (.bool f.ng)).put 1 (by simp) (sV f.bf)).put 2 (by simp) (sV f.af)).put 3 (by simp) (iQ f.wh)).put 4 (by simp) (iQ f.pl)).put 5 (by simp) (iQ f.mb)).put 6 (by simp) (.bool f.gr)).put 7 (by simp) (iQ f.tm)).put 8 (by simp) (sV f.dt))) (xd (xr _));have XD:Ext w ((((((((((wr.setCell ⟨F,0,none⟩ (.bool f.ng)).setCell ⟨F,1,none⟩ (sV f.bf)).setCell ⟨F,2,none⟩ (sV f.af)).setCell ⟨F,3,none⟩ (iQ f.wh)).setCell ⟨F,4,none⟩ (iQ f.pl)).setCell ⟨F,5,none⟩ (iQ f.mb)).setCell ⟨F,6,none⟩ (.bool f.gr)).setCell ⟨F,7,none⟩ (iQ f.tm)).setCell ⟨F,8,none⟩ (sV f.dt))).drew:=xd (xset (xset (xset (xset (xset (xset (xset (xset (xset X (p:=⟨F,0,none⟩) (by show _<=F;exact Nat.le_of_eq HF.out) (.bool f.ng)) (p:=⟨F,1,none⟩) (by show _<=F;exact Nat.le_of_eq HF.out) (sV f.bf)) (p:=⟨F,2,none⟩) (by show _<=F;exact Nat.le_of_eq HF.out) (sV f.af)) (p:=⟨F,3,none⟩) (by show _<=F;exact Nat.le_of_eq HF.out) (iQ f.wh)) (p:=⟨F,4,none⟩) (by show _<=F;exact Nat.le_of_eq HF.out) (iQ f.pl)) (p:=⟨F,5,none⟩) (by show _<=F;exact Nat.le_of_eq HF.out) (iQ f.mb)) (p:=⟨F,6,none⟩) (by show _<=F;exact Nat.le_of_eq HF.out) (.bool f.gr)) (p:=⟨F,7,none⟩) (by show _<=F;exact Nat.le_of_eq HF.out) (iQ f.tm)) (p:=⟨F,8,none⟩) (by show _<=F;exact Nat.le_of_eq HF.out) (sV f.dt));have d0:=(D 0 _ rfl).1;have d1:=(D 1 _ rfl).1;have d2:=(D 2 _ rfl).1;have d3:=(D 3 _ rfl).1;have d4:=(D 4 _ rfl).1;have d5:=(D 5 _ rfl).1;have d6:=(D 6 _ rfl).1;have d7:=(D 7 _ rfl).1;have d8:=(D 8 _ rfl).1;clear VF VR D;go_wp2_with fail;go_region_with (first | (go_at_call 53;refine (HI _).mono ?_;rintro e w2 ⟨rfl,h2⟩;rw [h2];clear h2))
    all_goals clear a0 a1 a2 a3 a4 a5 a6 a7 a8 b0 b1 b2 b3 b4 b5 b6 b7 b8 f0 f1 f2 f3 f4 f5 f6 f7 f8 ga HI
    all_goals go_wp2_with fail
    all_goals try rw [Exit.noGoto_ret]
    all_goals exact bodyPost_ret (v:=.tuple #[.agg f.cells.toArray,sV c,.bool m]) (by simp [results,Tryz.results25,go_sem,d0,d1,d2,d3,d4,d5,d6,d7,d8]) rfl ⟨by rw [HE.out,HM.out],XD⟩
theorem bsZ {s:ByteArray} {l:BLs} (h:s.data.toList=l):s=⟨l.toArray⟩:=by
 cases s with
 | mk d=>simp only at h;rw [<- h]
theorem retZ {s t:ByteArray} (h:s=t):Ending.returned (.string s)=.returned (.string t):=by rw [h]
def lenV:Value->Nat | .string b=>b.size | _=>0
theorem zLB (f:Nat) (l:BLs) (h:3<l.length) (hf:l.length<=f):∃ f',l.length - 3<=f'/\grpZ f l=grpZ f' (l.take (l.length - 3))++44 :: l.drop (l.length - 3):=by
 cases f with
 | zero=>omega
 | succ f=>exact ⟨f,by omega,by rw [grpZ,if_pos h]⟩
theorem zNV (f:Nat) (l:BLs) (h:¬ 3<l.length):grpZ f l=l:=by
 cases f with
 | zero=>rfl
 | succ f=>rw [grpZ,if_neg h]
theorem zVP (s:BLs) (w:World) (hs:s.length<=10000) :
  Calls Tryz.prog 95 #[sV s] w fun e w'=>e=.returned (sV (grpZ s.length s))/\w'=w:=by
 obtain ⟨R,hR⟩:=nm (grpZ s.length s);have H0:Hid (∃ f,s.length<=f/\grpZ f s++[]=R):=⟨s.length,Nat.le_refl _,by rw [hR];simp⟩;rw [hR];clear hR;go_enter Tryz.func95,Tryz.ntmps95;go_wp2_with fail;go_loopw [0,3] (fun sv ov wr=>∃ (S O:List UInt8),sv=sV S/\ov=sV O/\3 * O.length+4 * S.length<=40000/\Hid (∃ f,S.length<=f/\grpZ f S++O=R)/\wr=w) (fun sv _ _=>lenV sv)
 case atStart=>exact ⟨s,[],rfl,rfl,by simp;omega,H0,rfl⟩
 case round =>
  obtain ⟨S,O,rfl,rfl,hb,HO,rfl⟩:=hrel;obtain ⟨n,hn⟩:=nm (S.length);have HN:=hid hn;by_cases h3:3<n
  ·obtain ⟨f,hf,hg⟩:=HO.out;obtain ⟨f',hf',hg'⟩:=zLB f S (by omega) hf;obtain ⟨k,hkk⟩:=nm (n - 3);have hk:IntKind.i64.wrap ((n:Int) - 3)=(k:Int):=by rw [IntKind.wrap_i64] <;> omega
   rw [hn,hkk] at hg' hf';have i1:(n:Int) > 3:=by omega
   have i2:(3:Int)<(n:Int):=by omega
   have i3:k<=n:=by omega
   have i4:(k:Int)<=(n:Int):=by omega
   have q1:(9223372036854775807<1+(n - k))=False:=eq_false (by omega);have E1:(⟨S.toArray⟩:ByteArray).extract k n=⟨(S.drop k).toArray⟩:=by rw [<- hn];exact zD7 S k
   have E2:(⟨S.toArray⟩:ByteArray).extract 0 k=⟨(S.take k).toArray⟩:=zD8 S k;have q1:(9223372036854775807<1+(S.drop k).length)=False:=eq_false (by rw [List.length_drop];omega);have q3:(9223372036854775807<1+(n - k)+O.length)=False:=eq_false (by omega);have q2:(9223372036854775807<1+(S.drop k).length+O.length)=False:=eq_false (by rw [List.length_drop];omega);have HZ:Hid (∃ f,(S.take k).length<=f/\grpZ f (S.take k)++(44 :: (S.drop k++O))=R):=⟨f',by rw [List.length_take];omega,by rw [<- hg,hg'];simp⟩;have hZb:3 * (44 :: (S.drop k++O)).length+4 * (S.take k).length<=40000:=by
    rw [List.length_cons,List.length_append,List.length_drop,List.length_take,hn];omega
   have HB:=hid hZb;have HM:Hid ((S.take k).length<n):=by show _<_;rw [List.length_take];omega
   clear hZb hf hg hg' hf' hb;go_wp2_with fail;go_roundw
   case rel=>exact ⟨S.take k,44 :: (S.drop k++O),by first | rfl | exact congrArg Value.string (bsZ (by simp)),by first | rfl | exact congrArg Value.string (bsZ (by simp)),HB.out,HZ,by first | rfl | trivial⟩
   case measure=>show (S.take k).length<S.length;rw [HN.out];exact HM.out
  ·have HE:Hid (S++O=R):=by
    obtain ⟨f,hf,hg⟩:=HO.out;rw [zNV f S (by omega)] at hg;exact hg
   have i1:¬ (n:Int) > 3:=by omega
   have i2:¬ (3:Int)<(n:Int):=by omega
   have q1:(9223372036854775807<n+O.length)=False:=eq_false (by omega);clear hb;go_wp2_with fail;go_ret;exact ⟨retZ (by rw [<- HE.out];refine bsZ ?_;simp),rfl⟩
theorem zER (n:Nat) (w:World) (hn:n<=1000000) :
  Calls Tryz.prog 94 #[iQ n] w fun e w'=>e=.returned (.string ⟨(List.replicate n (48:UInt8)).toArray⟩)/\Ext w w':=by
 have hmk:=run_make_row' (P:=Tryz.prog) 22 5 (.int .u8 0) 1 Tryz.underlying22 info8 rfl .i64 .i64 n (by omega) (by omega);go_enter Tryz.func94,Tryz.ntmps94;go_wp2_with fail;go_loopw [9] (fun i wr=>∃ m:Nat,m<=n/\i=.int .i64 m/\wr.rowIs w.heap.size 5 n (fun j=>.int .u8 (if j<m then 48 else 0))/\Ext w wr) (fun i _=>n - (intOf i).toNat)
 case atStart=>exact ⟨0,Nat.zero_le _,rfl,(World.rowIs_made w (.int .u8 0) n 5).congr (fun i _=>by simp),x1 _ _⟩
 case round =>
  obtain ⟨m,hm,rfl,hR,X⟩:=hrel;by_cases hlt:m<n
  ·have hlt':(m:Int)<(n:Int):=by omega
   have kz:=World.rowIs.frozen hR m;have kf:=World.rowIs.cell hR (i:=m) hlt;have HR:Hid (wr.rowIs w.heap.size 5 n (fun j=>.int .u8 (if j<m then 48 else 0))):=hR;rw [if_neg (Nat.lt_irrefl _)] at kf;clear hR hmk;go_wp2_with fail;go_roundw
   case rel =>
    refine ⟨m+1,by omega,by go_num,(World.rowIs.set HR.out m (.int .u8 48)).congr (fun j _=>?_),xset X (Nat.le_refl _) _⟩;by_cases hj:j=m
    ·subst hj;simp
    ·simp only [hj,if_false];by_cases h2:j<m
     ·simp [h2,show j<m+1 by omega]
     ·simp [h2,show ¬ j<m+1 by omega]
   case measure=>simp [intOf];omega
  ·obtain rfl:m=n:=by omega
   have hcv:=run_convert_bytes_back (P:=Tryz.prog) wr 22 9 5 ⟨w.heap.size,0,none⟩ m (List.replicate m (48:UInt8)) Tryz.underlying22 Tryz.underlying5 Tryz.underlying9 (fun j hj=>by
    have hj':j<m:=(by simpa using hj);have:=World.rowIs.cell hR (i:=j) hj';rw [Addr.add_lit,Nat.zero_add,this,if_pos hj'];simp)
   rw [List.length_replicate] at hcv;clear hR hmk hlt
   go_wp2
   go_ret;exact ⟨rfl,X⟩
end Go.Proofs.YtjlojlgdkfpcdaaGreatDoor

namespace Go.Proofs.YtjlojlgdkfpcdaaGreatDoor
theorem zO6:∀ (ds:List Int) (u:Int),Digs ds u->Lib.decDigits u.toNat=ds.reverse.map chr
 | [],_,h=>by have:=h.2.2.1;simp at this
 | [d],u,⟨h1,h2,_,_⟩=>by
  have hd:=h1 d (by simp);have hu:u=d:=by rw [<- h2];simp [dv]
  subst hu;rw [Lib.decDigits,dif_pos (by omega)];simp only [List.reverse_singleton,List.map_singleton,chr]
  congr 2
  omega
 | d :: d' :: ds,u,⟨h1,h2,h3,h4⟩=>by
  have hd:=h1 d (by simp);have hD:Digs (d' :: ds) (dv (d' :: ds)):=by
   refine ⟨fun x hx=>h1 x (by simp only [List.mem_cons] at hx ⊢;exact .inr hx),rfl,by simp,?_⟩;simpa using h4
  have hge:=hD.ge;have hp:(0:Int)<10 ^ ((d' :: ds).length - 1):=Int.pow_pos (by decide);have ih:=zO6 (d' :: ds) _ hD;have hu:u=d+10 * dv (d' :: ds):=by rw [<- h2];rfl
  generalize dv (d' :: ds)=v at *;subst hu;rw [Lib.decDigits,dif_neg (by omega),List.reverse_cons,List.map_append,<- ih];have e1:(d+10 * v).toNat / 10=v.toNat:=by omega
  have e2:(d+10 * v).toNat % 10=d.toNat:=by omega
  rw [e1,e2];simp only [List.map_singleton,chr]
  congr 2
  congr 1
  omega
theorem zCO.dec {l:List UInt8} {z:Int} (h:zCO l z) (h0:0<=z):l=Lib.decDigits z.toNat:=by
 rcases h with ⟨rfl,rfl⟩ | ⟨ds,h1,rfl⟩
 ·rw [Lib.decDigits,dif_pos (by decide)];rfl
 ·rw [if_neg (by omega),List.nil_append];have e:(z.natAbs:Int)=z:=by omega
  rw [e] at h1;exact (zO6 ds z h1).symm
end Go.Proofs.YtjlojlgdkfpcdaaGreatDoor

namespace Go.Proofs.YtjlojlgdkfpcdaaGreatDoor
open Go.RowKit
theorem zDV {s:ByteArray} {l:List UInt8} (h:s.data.toList=l):s.size=l.length:=by
 rw [<- h,Array.length_toList];rfl
def padT (n:Int) (k:Nat):List UInt8:=List.replicate (k - (Lib.decDigits n.toNat).length) 48++Lib.decDigits n.toNat
theorem zFA:∀ (k u:Nat),u<10 ^ (k+1)->1<=(Lib.decDigits u).length/\(Lib.decDigits u).length<=k+1
 | 0,u,h=>by rw [Lib.decDigits,dif_pos (by simpa using h)];simp
 | k+1,u,h=>by
  rw [Lib.decDigits]
  split
  ·simp
  ·have:=zFA k (u / 10) (by rw [Nat.pow_succ] at h;omega);simp;omega
theorem zEU {n:Int} (n0:0<=n) (n1:n<=9999):(Lib.decDigits n.toNat).length<=15:=by
 have:=(zFA 14 n.toNat (by
  have:(10:Nat) ^ (14+1)=1000000000000000:=by decide
  omega)).2
 omega
theorem digS (n:Int) (k:Nat) (w:World) (n0:0<=n) (n1:n<=9999) (hk:k<=4) :
  Calls Tryz.prog 87 #[iQ n,iQ k] w fun e w'=>∃ s,e=.returned (.string s)/\s.data.toList=padT n k/\Ext w w':=by
 have dl:=zEU n0 n1;go_enter Tryz.func87,Tryz.ntmps87;go_wp2_with fail;refine (zJU n _ n0 (by omega)).mono ?_;rintro e w1 ⟨l,rfl,ht,e1⟩;have hl:=ht.dec n0;obtain ⟨t,et⟩:∃ t:ByteArray,(⟨l.toArray⟩:ByteArray)=t:=⟨_,rfl⟩;have hts:t.data.toList=Lib.decDigits n.toNat:=by rw [<- et,<- hl]
 rw [et];have hsz:=zDV hts;obtain ⟨L,hL⟩:=nm ((Lib.decDigits n.toNat).length);have HS:Hid (t.data.toList=Lib.decDigits n.toNat):=hts;have HL:Hid ((Lib.decDigits n.toNat).length=L):=hL;rw [hL] at hsz dl;clear hL hts hl ht et n0 n1;by_cases hlt:L<k
 ·have hlt':(L:Int)<(k:Int):=by omega
  obtain ⟨j,hj⟩:∃ j:Nat,k=L+j:=⟨k - L,by omega⟩;have hw:(j:Int)=(k:Int) - (L:Int):=by omega
  have NO:Hid (∀ w:World,Calls Tryz.prog 94 #[iQ j] w fun e w'=>e=.returned (.string ⟨(List.replicate j (48:UInt8)).toArray⟩)/\Ext w w'):=fun w=>zER j w (by omega);obtain ⟨u,eu⟩:∃ u:ByteArray,(⟨(List.replicate j (48:UInt8)).toArray⟩:ByteArray)=u:=⟨_,rfl⟩;have hus:u.data.toList=List.replicate j 48:=by rw [<- eu]
  have usz:=zDV hus;rw [List.length_replicate] at usz;rw [eu,hw] at NO;have HU:Hid (u.data.toList=List.replicate j 48):=hus;have HJ:Hid (k=L+j):=hj;have jl:j<=4:=by omega
  clear hus eu hj hw;go_wp2_with fail;refine (NO.out _).mono ?_;rintro e w2 ⟨rfl,e2⟩;clear NO;go_wp2_with fail;go_ret;refine ⟨_,rfl,?_,xt e1 e2⟩;have e3:k - L=j:=by have:=HJ.out;omega
  simp [padT,HS.out,HU.out,HL.out,e3]
 ·have hlt':¬ (L:Int)<(k:Int):=by omega
  have e3:k - L=0:=by omega
  go_wp2_with fail;go_ret;exact ⟨_,rfl,by simp [padT,HS.out,HL.out,e3],e1⟩
theorem zMK (a b:Int) (w:World) (hb:0<b) (a1 : -9223372036854775808<=a) (a2:a<=9223372036854775807) :
  Calls Tryz.prog 147 #[iQ a,iQ b] w fun e w'=>e=.returned (iQ (a / b))/\w'=w:=by
 have fl:=zNZ a b hb;have hf:=zLM hb a1 a2;obtain ⟨Q,hQ⟩:=nm (a / b);rw [hQ] at fl hf ⊢;clear hQ;go_enter Tryz.func147,Tryz.ntmps147
 go_wp2
 all_goals go_ret
 all_goals refine ⟨zA8 ?_,rfl⟩
 all_goals simp_all [wrap64]
 all_goals omega
theorem fmodS (a b:Int) (w:World) (hb:0<b) (hb2:b<=9223372036854775807) (a1 : -9223372036854775808<=a) (a2:a<=9223372036854775807) :
  Calls Tryz.prog 224 #[iQ a,iQ b] w fun e w'=>e=.returned (iQ (a % b))/\w'=w:=by
 have e:=Int.mul_ediv_add_emod a b;have m1:=Int.emod_nonneg a (show b ≠ 0 by omega);have m2:=Int.emod_lt_of_pos a hb;have C:=zMK a b w hb a1 a2;obtain ⟨Q,hQ⟩:=nm (a / b);obtain ⟨R,hR⟩:=nm (a % b);rw [hQ] at e C;rw [hR] at e m1 m2 ⊢;clear hQ hR;go_enter Tryz.func224,Tryz.ntmps224;go_wp2_with (go_at_call 147;refine C.mono ?_;rintro e w' ⟨rfl,rfl⟩)
 all_goals go_ret
 all_goals refine ⟨zA8 ?_,rfl⟩
 all_goals simp only [wrap64]
 all_goals omega
theorem dayS (n:Int) (w:World) :
  Calls Tryz.prog 82 #[iQ n] w fun e w'=>e=.returned (.bool (decide (-1000000<=n/\n<=1000000)))/\w'=w:=by
 go_enter Tryz.func82,Tryz.ntmps82
 go_wp2
 all_goals go_ret
 all_goals refine ⟨zA5 ?_,rfl⟩
 all_goals simp_all
 all_goals (intros;omega)
theorem leapS (cal y:Int) (w:World) (hc:cal=1\/cal=2) (a1 : -9223372036854775808<=y) (a2:y<=9223372036854775807) :
  Calls Tryz.prog 200 #[iQ cal,iQ y] w fun e w'=>e=.returned (.bool (zID cal y))/\w'=w:=by
 rcases hc with rfl | rfl
 ·go_enter Tryz.func200,Tryz.ntmps200;go_wp2_with (go_at_call 224;refine (fmodS _ _ _ (by omega) (by omega) (by omega) (by omega)).mono ?_;rintro e w' ⟨rfl,rfl⟩)
  all_goals go_ret
  all_goals refine ⟨zA5 ?_,rfl⟩
  all_goals simp_all [zID]
  all_goals by_cases k4:y % 4=0 <;> by_cases k1:y % 100=0 <;> by_cases k2:y % 400=0 <;> simp_all
 ·go_enter Tryz.func200,Tryz.ntmps200;go_wp2_with (go_at_call 224;refine (fmodS _ _ _ (by omega) (by omega) (by omega) (by omega)).mono ?_;rintro e w' ⟨rfl,rfl⟩)
  all_goals go_ret
  all_goals refine ⟨zA5 ?_,rfl⟩
  all_goals by_cases k4:y % 4=0 <;> simp_all [zID]
theorem zDU {s t:ByteArray} (h:s.data.toList=t.data.toList):s=t:=by
 cases s;cases t;simp only [ByteArray.mk.injEq];exact Array.toList_inj.1 h
def padB (n:Int) (k:Nat):ByteArray:=⟨(padT n k).toArray⟩
theorem zEB (n:Int) (k:Nat):(padB n k).data.toList=padT n k:=rfl
theorem zS5 (n:Int) (k:Nat) (n0:0<=n) (n1:n<=9999) (hk:k<=4):(padB n k).size<=20:=by
 rw [zDV (zEB n k)];have:=zEU n0 n1;simp [padT];omega
theorem digB (n:Int) (k:Nat) (w:World) (n0:0<=n) (n1:n<=9999) (hk:k<=4) :
  Calls Tryz.prog 87 #[iQ n,iQ k] w fun e w'=>e=.returned (.string (padB n k))/\Ext w w':=by
 refine (digS n k w n0 n1 hk).mono ?_;rintro e w' ⟨s,rfl,hs,e1⟩;rw [zDU (hs.trans (zEB n k).symm)];exact ⟨rfl,e1⟩
theorem padI (RP:RepC) (n:Int) (k:Nat) (w0 w:World) (IT:zD2 w0) (X0:Ext w0 w) (n0:0<=n) (n1:n<=9999) (hk:k<=4) :
  Calls Tryz.prog 186 #[iQ n,iQ k] w fun e w'=>e=.returned (.string (padB n k))/\Ext w w':=by
 have dl:=zEU n0 n1;have hi:Hid (Lib.itoa n=Lib.decDigits n.toNat):=by show Lib.itoa n=_;unfold Lib.itoa;rw [if_neg (by omega)]
 go_enter Tryz.func186,Tryz.ntmps186;go_wp2_with fail;refine (IT n _ (by omega) (by omega) X0).mono ?_;rintro e w1 ⟨t,rfl,ht,e1⟩;rw [hi.out] at ht;have hsz:=zDV ht;obtain ⟨L,hL⟩:=nm ((Lib.decDigits n.toNat).length);have HS:Hid (t.data.toList=Lib.decDigits n.toNat):=ht;have HL:Hid ((Lib.decDigits n.toNat).length=L):=hL;rw [hL] at hsz dl;clear hL ht n0 n1 IT hi;obtain ⟨j,hj⟩:∃ j:Nat,k - L=j:=⟨_,rfl⟩;have hj4:j<=4:=by omega
 have R:Hid (∀ w:World,Calls Tryz.prog 45 #[.string ⟨#[48]⟩,iQ j] w fun e w'=>∃ s,e=.returned (.string s)/\s.data.toList=List.replicate j 48/\Ext w w'):=fun w=>RP j w (by omega) (by omega);have HJ:Hid (k - L=j):=hj;by_cases hlt:L<k
 ·have hw:(j:Int)=(k:Int) - (L:Int):=by omega
  have hj0:(0:Int)<(k:Int) - (L:Int):=by omega
  rw [hw] at R;clear hj RP hw;go_wp2_with fail
  (try rw [show max ((k:Int) - (L:Int)) 0=(k:Int) - (L:Int) from Int.max_eq_left (Int.le_of_lt hj0)])
  refine (R.out _).mono ?_;rintro e w2 ⟨u,rfl,hu,e2⟩;have usz:=zDV hu;rw [List.length_replicate] at usz;have HU:Hid (u.data.toList=List.replicate j 48):=hu;clear hu R;go_wp2_with fail;go_ret;refine ⟨?_,xt e1 e2⟩;rw [zDU (s:=u++t) (t:=padB n k) (by rw [zEB];simp [padT,HS.out,HU.out,HL.out,HJ.out])];rfl
 ·have hj0:j=0:=by omega
  subst hj0;have R0:Hid (∀ w:World,Calls Tryz.prog 45 #[.string ⟨#[48]⟩,iQ 0] w fun e w'=>∃ s,e=.returned (.string s)/\s.data.toList=List.replicate 0 48/\Ext w w'):=R.out;clear hj RP R
  rcases Nat.lt_or_eq_of_le (show k<=L by omega) with g | g
  ·have hw4:(k:Int) - (L:Int)<0:=by omega
   go_wp2_with fail
   (try rw [show max ((k:Int) - (L:Int)) 0=0 from Int.max_eq_right (Int.le_of_lt hw4)])
   refine (R0.out _).mono ?_;rintro e w2 ⟨u,rfl,hu,e2⟩;have usz:=zDV hu;rw [List.length_replicate] at usz;have HU:Hid (u.data.toList=List.replicate 0 48):=hu;clear hu R0;go_wp2_with fail;go_ret;refine ⟨?_,xt e1 e2⟩;rw [zDU (s:=u++t) (t:=padB n k) (by rw [zEB];simp [padT,HS.out,HU.out,HL.out,HJ.out])];rfl
  ·have hw4:(k:Int) - (L:Int)=0:=by omega
   go_wp2_with fail
   (try simp only [hw4,Int.max_self])
   refine (R0.out _).mono ?_;rintro e w2 ⟨u,rfl,hu,e2⟩;have usz:=zDV hu;rw [List.length_replicate] at usz;have HU:Hid (u.data.toList=List.replicate 0 48):=hu;clear hu R0;go_wp2_with fail;go_ret;refine ⟨?_,xt e1 e2⟩;rw [zDU (s:=u++t) (t:=padB n k) (by rw [zEB];simp [padT,HS.out,HU.out,HL.out,HJ.out])];rfl
def zFD (y:Int):BLs:=if y<0 then 45 :: padT (-y) 4 else padT y 4
theorem yearI (RP:RepC) (y:Int) (w0 w:World) (IT:zD2 w0) (X0:Ext w0 w) (y0 : -9999<=y) (y1:y<=9999) :
  Calls Tryz.prog 185 #[iQ y] w fun e w'=>e=.returned (sV (zFD y))/\Ext w w':=by
 by_cases h:y<0
 ·have wn:IntKind.i64.wrap (-y) = -y:=by rw [IntKind.wrap_i64] <;> omega
  have CP:Hid (∀ W,Ext w0 W->Calls Tryz.prog 186 #[iQ (-y),iQ 4] W fun e w'=>e=.returned (sV (padT (-y) 4))/\Ext W w'):=fun W X=>(padI RP (-y) 4 w0 W IT X (by omega) (by omega) (by omega)).mono fun e w' q=>q;have q1:(9223372036854775807<1+(padT (-y) 4).length)=False:=eq_false (by have h:=zS5 (-y) 4 (by omega) (by omega) (by omega);have:(padB (-y) 4).size=(padT (-y) 4).length:=rfl;omega);have HE:Hid (zFD y=45 :: padT (-y) 4):=by show _=_;rw [zFD,if_pos h]
  rw [HE.out];obtain ⟨T,hT⟩:=nm (padT (-y) 4);rw [hT] at CP q1 ⊢;clear hT HE IT RP;go_enter Tryz.func185,Tryz.ntmps185;go_wp2_with fail;refine (CP.out _ X0).mono ?_;rintro r w1 ⟨rfl,e1⟩;go_wp2_with fail;go_ret;exact ⟨retZ (bsZ (by simp)),e1⟩
 ·have CP:Hid (∀ W,Ext w0 W->Calls Tryz.prog 186 #[iQ y,iQ 4] W fun e w'=>e=.returned (sV (padT y 4))/\Ext W w'):=fun W X=>(padI RP y 4 w0 W IT X (by omega) (by omega) (by omega)).mono fun e w' q=>q;have HE:Hid (zFD y=padT y 4):=by show _=_;rw [zFD,if_neg h]
  have h':0<=y:=by omega
  rw [HE.out];clear IT RP HE;go_enter Tryz.func185,Tryz.ntmps185;go_wp2_with fail;refine (CP.out _ X0).mono ?_;rintro r w1 ⟨rfl,e1⟩;go_wp2_with fail;go_ret;exact ⟨rfl,e1⟩
theorem countedI (cal y d:Int) (n:Nat) (w:World) (hM:zCJ w) (hn:n+1<=12) (y0 : -1000000<=y) (y1:y<=1000000) (d0 : -100000<=d) (d1:d<=100000) :
  Calls Tryz.prog 214 #[iQ cal,dateV y ((n:Int)+1) d] w fun e w'=>e=.returned (iQ (zA4 cal y+(d - 1)+cum cal y n))/\Ext w w':=by
 have CA:Hid (∀ w:World,Calls Tryz.prog 216 #[iQ cal,iQ y] w fun e w'=>e=.returned (iQ (zA4 cal y))/\w'=w):=fun w=>zU2 cal y w y0 y1;have b1:=zGJ (cal:=cal) y0 y1;obtain ⟨A,hA⟩:=nm (zA4 cal y);rw [hA] at CA b1 ⊢;clear hA;have M1:=hM.l (x1 w (.cells #[iQ y,iQ ((n:Int)+1),iQ d] 121));clear hM;go_enter Tryz.func214,Tryz.ntmps214;go_wp2_with fail;go_quiet (first | (go_at_call 216;exact Calls.quiet_of_same (CA.out _)));go_wp2_with fail;clear CA
 go_loop [5,6] (fun a i=>∃ k:Nat,k<=n/\i=.int .i64 ((k:Int)+1)/\a=.int .i64 (A+(d - 1)+cum cal y k)) (fun _ i=>n+1 - (intOf i).toNat)
 case atStart=>exact ⟨0,by omega,rfl,by simp [cum];omega⟩
 case round =>
  obtain ⟨k,hk,rfl,rfl⟩:=hrel;have c0:=zGH cal y k;have c1:=cum_le cal y (show k<=12 by omega);by_cases hkn:k<n
  ·have hkn':(k:Int)<(n:Int):=by omega
   have cs:Hid (cum cal y (k+1)=cum cal y k+mlen cal y ((k:Int)+1)):=rfl;have m1:=zE0 cal y ((k:Int)+1);have ML:Hid (∀ nq,Calls Tryz.prog 217 #[iQ cal,iQ y,iQ ((k:Int)+1)] ((w.alloc (.cells #[iQ y,iQ ((n:Int)+1),iQ d] 121)).drewN nq) fun e w'=>e=.returned (iQ (mlen cal y ((k:Int)+1)))/\w'=((w.alloc (.cells #[iQ y,iQ ((n:Int)+1),iQ d] 121)).drewN nq)):=fun nq=>mlenI cal y ((k:Int)+1) _ (by omega) (by omega) (M1.l (xdN' (xr _) _));obtain ⟨C,hC⟩:=nm (cum cal y k);obtain ⟨D,hD⟩:=nm (mlen cal y ((k:Int)+1));rw [hC] at c0 c1 cs ⊢;rw [hD] at ML m1 cs;clear hC hD M1;go_wp2_with (go_at_call 217;refine (ML.out _).mono ?_;rintro e w' ⟨rfl,rfl⟩)
   go_round
   case rel=>exact ⟨k+1,by omega,by go_num,by rw [cs.out];go_num⟩
   case measure=>simp [intOf];omega
  ·obtain rfl:k=n:=by omega
   go_wp2_with fail;go_ret;exact ⟨rfl,xdN' (x1 _ _) _⟩
theorem mlenS (cal y m:Int) (w:World) (hc:cal=1\/cal=2) (a1 : -9223372036854775808<=y) (a2:y<=9223372036854775807) (h1:1<=m) (h2:m<=12) :
  Calls Tryz.prog 149 #[iQ cal,iQ y,iQ m] w fun e w'=>e=.returned (iQ (mlen cal y m))/\Ext w w':=by
 have L:=fun w=>leapS cal y w hc a1 a2;obtain ⟨b,hb⟩:=nm (zID cal y);rw [hb] at L;have hm:Hid (mlen cal y m=mtab m+if m=2/\b=true then 1 else 0):=by unfold mlen;rw [hb];exact rfl
 clear hb;have h:m=1\/m=2\/m=3\/m=4\/m=5\/m=6\/m=7\/m=8\/m=9\/m=10\/m=11\/m=12:=by omega
 clear hc a1 a2 h1 h2
 rcases h with rfl | rfl | rfl | rfl | rfl | rfl | rfl | rfl | rfl | rfl | rfl | rfl
 all_goals
  go_enter Tryz.func149,Tryz.ntmps149;go_wp2_with (go_at_call 200;refine (L _).mono ?_;rintro e w' ⟨rfl,rfl⟩)
 all_goals go_ret
 all_goals exact ⟨zA8 (by rw [hm.out];simp_all [mtab]),x1 _ _⟩
theorem daysS (cal y:Int) (w:World) (y0 : -1000000<=y) (y1:y<=1000000) :
  Calls Tryz.prog 199 #[iQ cal,iQ y] w fun e w'=>e=.returned (iQ (zA4 cal y - if cal=1 then 730485 else 730500))/\w'=w:=by
 have ew:wrap64 (y - 1)=y - 1:=by unfold wrap64;omega
 by_cases h:cal=1
 ·subst h;have e:zA4 1 y - (if (1:Int)=1 then 730485 else 730500)=y * 365+(y - 1) / 4+1+((y - 1) / 400 - (y - 1) / 100) - 730485:=by simp [zA4]
  rw [e];clear e;go_enter Tryz.func199,Tryz.ntmps199;go_wp2_with (go_at_call 147;refine (zMK _ _ _ (by omega) (by omega) (by omega)).mono ?_;rintro e w' ⟨rfl,rfl⟩)
  all_goals go_ret
  all_goals refine ⟨zA8 ?_,rfl⟩
  all_goals first | omega | (simp only [wrap64];omega)
 ·have e:zA4 cal y - (if cal=1 then 730485 else 730500)=y * 365+(y - 1) / 4+1 - 730500:=by simp [zA4,h]
  rw [e];clear e;go_enter Tryz.func199,Tryz.ntmps199;go_wp2_with (go_at_call 147;refine (zMK _ _ _ (by omega) (by omega) (by omega)).mono ?_;rintro e w' ⟨rfl,rfl⟩)
  all_goals go_ret
  all_goals refine ⟨zA8 ?_,rfl⟩
  all_goals first | omega | (simp only [wrap64];omega)
theorem zFB {cal y:Int} (y0 : -1000000<=y) (y1:y<=1000000) : -400000000<=zA4 cal y/\zA4 cal y<=400000000:=by
 unfold zA4
 split <;> omega
theorem firstS (cal y:Int) (w:World) (hc:cal=1\/cal=2) (y0 : -1000000<=y) (y1:y<=1000000) :
  Calls Tryz.prog 148 #[iQ cal,iQ y] w fun e w'=>e=.returned (.tuple #[iQ (zA4 cal y - off cal),.bool true])/\w'=w:=by
 have C:=daysS cal y w y0 y1;have b1:=zFB (cal:=cal) y0 y1;obtain ⟨A,hA⟩:=nm (zA4 cal y);rw [hA] at C b1 ⊢;clear hA
 rcases hc with rfl | rfl
 all_goals
  simp [off] at C ⊢;go_enter Tryz.func148,Tryz.ntmps148;go_wp2_with (go_at_call 199;refine C.mono ?_;rintro e w' ⟨rfl,rfl⟩)
 ·exact bodyPost_ret (v:=.tuple #[iQ (A - 730485),.bool true]) (by simp [results,Tryz.results148,go_sem]) rfl ⟨rfl,rfl⟩
 ·exact bodyPost_ret (v:=.tuple #[iQ (A - 730487),.bool true]) (by simp [results,Tryz.results148,go_sem];go_num) rfl ⟨rfl,rfl⟩
open Classical in
def cnt (cal y m d:Int):Int:=zA4 cal y+(d - 1)+cum cal y (m - 1).toNat
theorem cnt_zero:cnt 1 2000 1 1=730485/\cnt 2 1999 12 19=730487:=by
 constructor <;> decide
theorem zO8 (cal y m d:Int) (w:World) (hM:zCJ w) (h:1<=m/\m<=12 /\ -1000000<=y/\y<=1000000 /\ -100000<=d/\d<=100000) :
  Calls Tryz.prog 214 #[iQ cal,.agg #[iQ y,iQ m,iQ d]] w fun e w'=>e=.returned (iQ (cnt cal y m d))/\Ext w w':=by
 obtain ⟨n,rfl⟩:∃ n:Nat,m=(n:Int)+1:=⟨(m - 1).toNat,by omega⟩;have e:((n:Int)+1 - 1).toNat=n:=by omega
 unfold cnt;rw [e];exact countedI cal y d n w hM (by omega) (by omega) (by omega) (by omega) (by omega)
theorem zDA {cal a b:Int} (h:zA4 cal a<zA4 cal b):a<b:=by
 rcases Int.lt_or_le a b with k | k
 ·exact k
 ·have:=zDQ cal k;omega
theorem zQF (cal n:Int) (w:World) (hC:Cals w) (hc:cal=1\/cal=2) (n0 : -2000000<=n) (n1:n<=3000000) :
  Calls Tryz.prog 215 #[iQ cal,iQ n] w fun e w'=>∃ y,e=.returned (iQ y)/\(zG0 cal y n /\ -20000<=y/\y<=20000)/\Ext w w':=by
 have lo:Hid (zA4 cal (-20000)<n):=by rcases hc with rfl | rfl <;> exact Int.lt_of_lt_of_le (by decide) n0
 have hi:Hid (n<zA4 cal 20000):=by rcases hc with rfl | rfl <;> exact Int.lt_of_le_of_lt n1 (by decide)
 have AH:Hid (∀ (y:Int) (w:World),-20000<=y->y<=20001->Calls Tryz.prog 216 #[iQ cal,iQ y] w fun e w'=>e=.returned (iQ (zA4 cal y))/\w'=w):=fun y w h1 h2=>zU2 cal y w (by omega) (by omega);obtain ⟨⟨a0,a1,_,_,_⟩,b0,b1,_⟩:=hC
 rcases hc with rfl | rfl
 ·have C:Hid (∀ w:World,Calls Tryz.prog 229 #[iQ (n * 400),iQ 146097] w fun e w'=>e=.returned (iQ (n * 400 / 146097))/\w'=w):=fun w=>zVU (n * 400) 146097 w (by omega) (by omega) (by omega);have hw:wrap64 (n * 400)=n * 400:=by unfold wrap64;omega
  have hy : -20000<=n * 400 / 146097/\n * 400 / 146097<=20000:=by omega
  obtain ⟨Y,hY⟩:=nm (n * 400 / 146097);rw [hY] at C hy;clear hY;go_enter Tryz.func215,Tryz.ntmps215;go_wp2_with fail;go_quiet (first | (go_at_call 229;exact Calls.quiet_of_same (C.out _)));go_wp2_with fail;clear C hw a0 a1 b0 b1
  go_loop [5] (fun a=>∃ y:Int,a=.int .i64 y /\ -20000<=y/\y<=20000) (fun a=>(intOf a+20000).toNat)
  case atStart=>exact ⟨Y,rfl,hy⟩
  case round =>
   obtain ⟨y,rfl,y0,y1⟩:=hrel;have A1:Hid (∀ w:World,Calls Tryz.prog 216 #[iQ 1,iQ y] w fun e w'=>e=.returned (iQ (zA4 1 y))/\w'=w):=fun w=>AH.out y w y0 (by omega);obtain ⟨a,ha⟩:=nm (zA4 1 y);have HA:Hid (zA4 1 y=a):=ha;rw [ha] at A1;clear ha hy;by_cases hgt:n<a
   ·have y2 : -20000<y:=(by have h1:=lo.out;have h2:=HA.out;exact zDA (cal:=1) (by omega));go_wp2_with (go_at_call 216;refine (A1.out _).mono ?_;rintro e w' ⟨rfl,rfl⟩)
    go_round
    case rel=>exact ⟨y - 1,by go_num,by omega,by omega⟩
    case measure=>simp [intOf];omega
   ·go_wp2_with (go_at_call 216;refine (A1.out _).mono ?_;rintro e w' ⟨rfl,rfl⟩);have HY:Hid (zA4 1 y<=n):=(by have h2:=HA.out;show zA4 1 y<=n;omega);clear A1 HA hgt
    go_loop [5] (fun a=>∃ y:Int,a=.int .i64 y /\ -20000<=y/\y<20000/\Hid (zA4 1 y<=n)) (fun a=>(20000 - intOf a).toNat)
    case atStart=>exact ⟨y,rfl,y0,zDA (cal:=1) (Int.lt_of_le_of_lt HY.out hi.out),HY⟩
    case round =>
     obtain ⟨z,rfl,z0,z1,HZ⟩:=hrel;have A1:Hid (∀ w:World,Calls Tryz.prog 216 #[iQ 1,iQ (z+1)] w fun e w'=>e=.returned (iQ (zA4 1 (z+1)))/\w'=w):=fun w=>AH.out (z+1) w (by omega) (by omega);obtain ⟨a',ha⟩:=nm (zA4 1 (z+1));have HA:Hid (zA4 1 (z+1)=a'):=ha;have hz:wrap64 (z+1)=z+1:=(by unfold wrap64;omega);rw [ha] at A1;clear ha;by_cases hle:a'<=n
     ·have z2:z+1<20000:=(by have h1:=hi.out;have h2:=HA.out;exact zDA (cal:=1) (by omega));have HN:Hid (zA4 1 (z+1)<=n):=(by have h2:=HA.out;show zA4 1 (z+1)<=n;omega);go_wp2_with (go_at_call 216;refine (A1.out _).mono ?_;rintro e w' ⟨rfl,rfl⟩)
      go_round
      case rel=>exact ⟨z+1,by go_num,by omega,by omega,HN⟩
      case measure=>simp [intOf];omega
     ·have HN:Hid (n<zA4 1 (z+1)):=(by have h2:=HA.out;show n<zA4 1 (z+1);omega);go_wp2_with (go_at_call 216;refine (A1.out _).mono ?_;rintro e w' ⟨rfl,rfl⟩);go_ret;exact ⟨z,rfl,⟨⟨HZ.out,HN.out⟩,z0,by omega⟩,xdN' (xr _) _⟩
 ·have C:Hid (∀ w:World,Calls Tryz.prog 229 #[iQ (n * 4),iQ 1461] w fun e w'=>e=.returned (iQ (n * 4 / 1461))/\w'=w):=fun w=>zVU (n * 4) 1461 w (by omega) (by omega) (by omega);have hw:wrap64 (n * 4)=n * 4:=by unfold wrap64;omega
  have hy : -20000<=n * 4 / 1461/\n * 4 / 1461<=20000:=by omega
  obtain ⟨Y,hY⟩:=nm (n * 4 / 1461);rw [hY] at C hy;clear hY;go_enter Tryz.func215,Tryz.ntmps215;go_wp2_with fail;go_quiet (first | (go_at_call 229;exact Calls.quiet_of_same (C.out _)));go_wp2_with fail;clear C hw a0 a1 b0 b1
  go_loop [5] (fun a=>∃ y:Int,a=.int .i64 y /\ -20000<=y/\y<=20000) (fun a=>(intOf a+20000).toNat)
  case atStart=>exact ⟨Y,rfl,hy⟩
  case round =>
   obtain ⟨y,rfl,y0,y1⟩:=hrel;have A1:Hid (∀ w:World,Calls Tryz.prog 216 #[iQ 2,iQ y] w fun e w'=>e=.returned (iQ (zA4 2 y))/\w'=w):=fun w=>AH.out y w y0 (by omega);obtain ⟨a,ha⟩:=nm (zA4 2 y);have HA:Hid (zA4 2 y=a):=ha;rw [ha] at A1;clear ha hy;by_cases hgt:n<a
   ·have y2 : -20000<y:=(by have h1:=lo.out;have h2:=HA.out;exact zDA (cal:=2) (by omega));go_wp2_with (go_at_call 216;refine (A1.out _).mono ?_;rintro e w' ⟨rfl,rfl⟩)
    go_round
    case rel=>exact ⟨y - 1,by go_num,by omega,by omega⟩
    case measure=>simp [intOf];omega
   ·go_wp2_with (go_at_call 216;refine (A1.out _).mono ?_;rintro e w' ⟨rfl,rfl⟩);have HY:Hid (zA4 2 y<=n):=(by have h2:=HA.out;show zA4 2 y<=n;omega);clear A1 HA hgt
    go_loop [5] (fun a=>∃ y:Int,a=.int .i64 y /\ -20000<=y/\y<20000/\Hid (zA4 2 y<=n)) (fun a=>(20000 - intOf a).toNat)
    case atStart=>exact ⟨y,rfl,y0,zDA (cal:=2) (Int.lt_of_le_of_lt HY.out hi.out),HY⟩
    case round =>
     obtain ⟨z,rfl,z0,z1,HZ⟩:=hrel;have A1:Hid (∀ w:World,Calls Tryz.prog 216 #[iQ 2,iQ (z+1)] w fun e w'=>e=.returned (iQ (zA4 2 (z+1)))/\w'=w):=fun w=>AH.out (z+1) w (by omega) (by omega);obtain ⟨a',ha⟩:=nm (zA4 2 (z+1));have HA:Hid (zA4 2 (z+1)=a'):=ha;have hz:wrap64 (z+1)=z+1:=(by unfold wrap64;omega);rw [ha] at A1;clear ha;by_cases hle:a'<=n
     ·have z2:z+1<20000:=(by have h1:=hi.out;have h2:=HA.out;exact zDA (cal:=2) (by omega));have HN:Hid (zA4 2 (z+1)<=n):=(by have h2:=HA.out;show zA4 2 (z+1)<=n;omega);go_wp2_with (go_at_call 216;refine (A1.out _).mono ?_;rintro e w' ⟨rfl,rfl⟩)
      go_round
      case rel=>exact ⟨z+1,by go_num,by omega,by omega,HN⟩
      case measure=>simp [intOf];omega
     ·have HN:Hid (n<zA4 2 (z+1)):=(by have h2:=HA.out;show n<zA4 2 (z+1);omega);go_wp2_with (go_at_call 216;refine (A1.out _).mono ?_;rintro e w' ⟨rfl,rfl⟩);go_ret;exact ⟨z,rfl,⟨⟨HZ.out,HN.out⟩,z0,by omega⟩,xdN' (xr _) _⟩
def zBJ (cal y n left:Int) (k:Nat):Prop:=k<=11/\left=n - zA4 cal y - cum cal y k/\0<=left
theorem zBJ.zero {cal y n:Int} (h:zG0 cal y n):zBJ cal y n (n - zA4 cal y) 0:=⟨by omega,by simp [cum],by have:=h.1;omega⟩
theorem zBJ.next {cal y n left:Int} {k:Nat} (hh:zG0 cal y n) (h:zBJ cal y n left k) (hl:mlen cal y ((k:Int)+1)<=left):zBJ cal y n (left - mlen cal y ((k:Int)+1)) (k+1):=by
 obtain ⟨h1,h2,h3⟩:=h;have a:=hh.2;rw [zEV] at a;have e:=zO7 cal y k;refine ⟨?_,by omega,by omega⟩
 rcases Nat.lt_or_ge k 11 with g | g
 ·omega
 ·obtain rfl:k=11:=by omega
  rw [show (12:Nat)=11+1 from rfl,e] at a;omega
theorem zBJ.done {cal y day left:Int} {k:Nat} (h:zBJ cal y (day+off cal) left k) (hl:left<mlen cal y ((k:Int)+1)):IsDt cal day y ((k:Int)+1) (left+1):=by
 obtain ⟨h1,h2,h3⟩:=h;have e:((k:Int)+1 - 1).toNat=k:=by omega
 refine ⟨by omega,by omega,by omega,by omega,?_⟩;rw [e];omega
theorem zBJ.le {cal y n left:Int} {k:Nat} (hh:zG0 cal y n) (h:zBJ cal y n left k):left<=366:=by
 obtain ⟨h1,h2,h3⟩:=h;have a:=hh.2;rw [zEV] at a;have b:=cum_le cal y (Nat.le_refl 12);have c:=zGH cal y k;omega
theorem dateAtI (cal day:Int) (w:World) (hM:zCJ w) (hC:Cals w) (hc:cal=1\/cal=2) (n0 : -1000100<=day) (n1:day<=1000100) :
  Calls Tryz.prog 183 #[iQ cal,iQ day] w fun e w'=>∃ y m d,e=.returned (.agg #[iQ y,iQ m,iQ d])/\(IsDt cal day y m d /\ -20000<=y/\y<=20000)/\Ext w w':=by
 have B:=Box3.made w (iQ 0) (iQ 0) (iQ 0) 121;have X0:=x1 w (.cells #[iQ 0,iQ 0,iQ 0] 121);have M1:=hM.l X0;have K1:=hC.l X0;have K':=K1;have cz:=cnt_zero;have oc:off cal=730485\/off cal=730487:=by rcases hc with rfl | rfl <;> simp [off]
 have MM:Hid (∀ (w:World),zCJ w->Calls Tryz.prog 214 #[iQ cal,.agg #[iQ (if cal=1 then 2000 else 1999),iQ (if cal=1 then 1 else 12),iQ (if cal=1 then 1 else 19)]] w fun e w'=>e=.returned (iQ (off cal))/\Ext w w'):=by
  intro w h
  rcases hc with rfl | rfl
  ·have:=zO8 1 2000 1 1 w h (by omega);rw [cz.1] at this;exact this
  ·have:=zO8 2 1999 12 19 w h (by omega);rw [cz.2] at this;exact this
 have YH:Hid (∀ (w:World),Cals w->Calls Tryz.prog 215 #[iQ cal,iQ (day+off cal)] w fun e w'=>∃ y,e=.returned (iQ y)/\(zG0 cal y (day+off cal) /\ -20000<=y/\y<=20000)/\Ext w w'):=fun w h=>zQF cal (day+off cal) w h hc (by omega) (by omega);have AH:Hid (∀ (y:Int) (w:World),-20000<=y->y<=20001->Calls Tryz.prog 216 #[iQ cal,iQ y] w fun e w'=>e=.returned (iQ (zA4 cal y))/\w'=w):=fun y w h1 h2=>zU2 cal y w (by omega) (by omega);have ML:Hid (∀ (y:Int) (k:Nat) (w:World),k<=11->zCJ w->Calls Tryz.prog 217 #[iQ cal,iQ y,iQ ((k:Int)+1)] w fun e w'=>e=.returned (iQ (mlen cal y ((k:Int)+1)))/\w'=w):=fun y k w h1 h2=>mlenI cal y ((k:Int)+1) w (by omega) (by omega) h2;have W1:wrap64 (day+off cal)=day+off cal:=by unfold wrap64;omega
 obtain ⟨⟨_,_,a2,a3,a4⟩,_,_,b2,b3,b4⟩:=K';obtain ⟨O,hO⟩:=nm (off cal);have HO:Hid (off cal=O):=hO;rw [hO] at MM YH W1 oc;clear hM hC hO cz
 rcases hc with rfl | rfl
 ·simp only [if_true] at MM;clear b2 b3 b4;go_enter Tryz.func183,Tryz.ntmps183;go_wp2_with fail;refine (MM.out _ M1).mono ?_;rintro e w1 ⟨rfl,e1⟩;go_wp2_with fail;refine (YH.out _ (K1.l e1)).mono ?_;rintro e w2 ⟨y,rfl,⟨hh,y0,y1⟩,e2⟩;go_wp2_with fail;refine (AH.out _ _ y0 (by omega)).mono ?_;rintro e w3 ⟨rfl,rfl⟩;have af:=zGJ (cal:=1) (y:=y) (by omega) (by omega);have M3:=M1.l (xt e1 e2);obtain ⟨⟨r0,r1,r2⟩,s0,s1,s2⟩:=B.l (xt e1 e2);have Z0:Hid (zBJ 1 y (day+O) (day+O - zA4 1 y) 0):=zBJ.zero hh;have HH:Hid (zG0 1 y (day+O)):=hh;have X3:Ext w w3:=xt X0 (xt e1 e2);obtain ⟨A,hA⟩:=nm (zA4 1 y);rw [hA] at af Z0 ⊢;clear hA hh K1 M1 B e1 e2 AH YH MM W1;go_wp2_with fail
  go_loop [5,7] (fun a i=>∃ (k:Nat) (l:Int),i=.int .i64 ((k:Int)+1)/\a=.int .i64 l/\k<=11/\Hid (zBJ 1 y (day+O) l k)) (fun _ i=>13 - (intOf i).toNat)
  case atStart=>exact ⟨0,_,rfl,by go_num,by omega,Z0⟩
  case round =>
   obtain ⟨k,l,rfl,rfl,hk,HM⟩:=hrel;have L:=fun w h=>ML.out y k w hk h;have l1:=zBJ.le HH.out HM.out;have l0:=HM.out.2.2;have mp:=zE0 1 y ((k:Int)+1);have HN:=fun h=>zBJ.next HH.out HM.out h;have HD:Hid (l<mlen 1 y ((k:Int)+1)->IsDt 1 day y ((k:Int)+1) (l+1)):=by
    have h:=HM.out;rw [<- HO.out] at h;exact fun g=>h.done g
   obtain ⟨D,hD⟩:=nm (mlen 1 y ((k:Int)+1));simp only [hD] at L HN HD mp;have HN':Hid (D<=l->zBJ 1 y (day+O) (l - D) (k+1)):=HN;clear hD HN af;by_cases hl:D<=l
   ·go_wp2_with (go_at_call 217;refine (L _ M3).mono ?_;rintro e w' ⟨rfl,rfl⟩)
    go_round
    case rel=>exact ⟨k+1,l - D,by go_num,by go_num,(HN'.out hl).1,HN'.out hl⟩
    case measure=>simp [intOf];omega
   ·go_wp2_with (go_at_call 217;refine (L _ M3).mono ?_;rintro e w' ⟨rfl,rfl⟩);exact bodyPost_ret (v:=.agg #[iQ y,iQ ((k:Int)+1),iQ (l+1)]) (by simp [results,Tryz.results183,go_sem,r0,r1,r2]) rfl ⟨y,(k:Int)+1,l+1,rfl,⟨HD.out (by omega),y0,y1⟩,xset (xset (xset X3 (Nat.le_refl _) _) (Nat.le_refl _) _) (Nat.le_refl _) _⟩
 ·simp only [show ¬ ((2:Int)=1) by decide,if_false] at MM;clear a2 a3 a4;go_enter Tryz.func183,Tryz.ntmps183;go_wp2_with fail;refine (MM.out _ M1).mono ?_;rintro e w1 ⟨rfl,e1⟩;go_wp2_with fail;refine (YH.out _ (K1.l e1)).mono ?_;rintro e w2 ⟨y,rfl,⟨hh,y0,y1⟩,e2⟩;go_wp2_with fail;refine (AH.out _ _ y0 (by omega)).mono ?_;rintro e w3 ⟨rfl,rfl⟩;have af:=zGJ (cal:=2) (y:=y) (by omega) (by omega);have M3:=M1.l (xt e1 e2);obtain ⟨⟨r0,r1,r2⟩,s0,s1,s2⟩:=B.l (xt e1 e2);have Z0:Hid (zBJ 2 y (day+O) (day+O - zA4 2 y) 0):=zBJ.zero hh;have HH:Hid (zG0 2 y (day+O)):=hh;have X3:Ext w w3:=xt X0 (xt e1 e2);obtain ⟨A,hA⟩:=nm (zA4 2 y);rw [hA] at af Z0 ⊢;clear hA hh K1 M1 B e1 e2 AH YH MM W1;go_wp2_with fail
  go_loop [5,7] (fun a i=>∃ (k:Nat) (l:Int),i=.int .i64 ((k:Int)+1)/\a=.int .i64 l/\k<=11/\Hid (zBJ 2 y (day+O) l k)) (fun _ i=>13 - (intOf i).toNat)
  case atStart=>exact ⟨0,_,rfl,by go_num,by omega,Z0⟩
  case round =>
   obtain ⟨k,l,rfl,rfl,hk,HM⟩:=hrel;have L:=fun w h=>ML.out y k w hk h;have l1:=zBJ.le HH.out HM.out;have l0:=HM.out.2.2;have mp:=zE0 2 y ((k:Int)+1);have HN:=fun h=>zBJ.next HH.out HM.out h;have HD:Hid (l<mlen 2 y ((k:Int)+1)->IsDt 2 day y ((k:Int)+1) (l+1)):=by
    have h:=HM.out;rw [<- HO.out] at h;exact fun g=>h.done g
   obtain ⟨D,hD⟩:=nm (mlen 2 y ((k:Int)+1));simp only [hD] at L HN HD mp;have HN':Hid (D<=l->zBJ 2 y (day+O) (l - D) (k+1)):=HN;clear hD HN af;by_cases hl:D<=l
   ·go_wp2_with (go_at_call 217;refine (L _ M3).mono ?_;rintro e w' ⟨rfl,rfl⟩)
    go_round
    case rel=>exact ⟨k+1,l - D,by go_num,by go_num,(HN'.out hl).1,HN'.out hl⟩
    case measure=>simp [intOf];omega
   ·go_wp2_with (go_at_call 217;refine (L _ M3).mono ?_;rintro e w' ⟨rfl,rfl⟩);exact bodyPost_ret (v:=.agg #[iQ y,iQ ((k:Int)+1),iQ (l+1)]) (by simp [results,Tryz.results183,go_sem,r0,r1,r2]) rfl ⟨y,(k:Int)+1,l+1,rfl,⟨HD.out (by omega),y0,y1⟩,xset (xset (xset X3 (Nat.le_refl _) _) (Nat.le_refl _) _) (Nat.le_refl _) _⟩
end Go.Proofs.YtjlojlgdkfpcdaaGreatDoor

