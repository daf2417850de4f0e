/-
  Several texts in one: Sb4, Sd0, Sd1, Sd3, WeekI, DtFn.
-/
import Derived.Test.YtjlojlgdkfpcdaaGreatDoorMg20
import Derived.Test.YtjlojlgdkfpcdaaGreatDoorMg26
import Derived.Test.YtjlojlgdkfpcdaaGreatDoorMg30
import Derived.Test.YtjlojlgdkfpcdaaGreatDoorMg1
import Derived.Test.YtjlojlgdkfpcdaaGreatDoorMg22
import Derived.Test.YtjlojlgdkfpcdaaGreatDoorSuA
import Derived.Deep.DeepCutAuto
import Derived.Deep.RegionWith
import Derived.Test.YtjlojlgdkfpcdaaGreatDoorMg23
import Derived.Test.YtjlojlgdkfpcdaaGreatDoorMg16
import Derived.Test.YtjlojlgdkfpcdaaGreatDoorMg5
import Derived.Test.YtjlojlgdkfpcdaaGreatDoorMg27
set_option maxRecDepth 8000
set_option maxHeartbeats 8000000
namespace Go.Proofs.YtjlojlgdkfpcdaaGreatDoor
open Go.RowKit
theorem max0 (c:Nat) (w:World):Calls Tryz.prog 88 #[iQ 0,iQ (c:Int)] w fun e w'=>e=.returned (iQ (c:Int))/\w'=w:=by
 by_cases h:(c:Int)<0
 ·omega
 ·by_cases h0:c=0
  ·subst h0;go_enter Tryz.func88,Tryz.ntmps88;go_wp2_with fail;go_ret;exact ⟨rfl,rfl⟩
  ·have h1:0<(c:Int):=by omega
   have h2:(c:Int) > 0:=by omega
   go_enter Tryz.func88,Tryz.ntmps88;go_wp2_with fail;go_ret;exact ⟨rfl,rfl⟩
theorem zSK {d:Int} (h0:0<=d) (h1:d<1000000000000000):(d.natAbs:Int)<1000000000 ^ 400:=by
 have h2:(1000000000:Int) ^ 2<=1000000000 ^ 400:=zB8 (by decide);have e:(1000000000:Int) ^ 2=1000000000000000000:=by decide
 omega
theorem zN0 (c:Nat) (h:c<=320):(((10:Int) ^ c).natAbs:Int)<1000000000 ^ 400:=by
 have:=zLX c;have:=zB8 (show c+1<=400 by omega);omega
theorem zNI {d:Int} (h0:0<=d) (c:Nat):0<=d * 10 ^ c:=Int.mul_nonneg h0 (Int.le_of_lt (Int.pow_pos (by decide)))
theorem zUQ {d:Int} (h0:0<=d) (c:Nat):(d * 10 ^ c).toNat=d.toNat * 10 ^ c:=by
 obtain ⟨k,rfl⟩:=Int.eq_ofNat_of_zero_le h0;rw [Int.toNat_natCast,<- Int.toNat_natCast (k * 10 ^ c)]
 congr 1
theorem zUR {d:Int} (h0:0<=d) (h1:d<1000000000000000) (c:Nat) (h:c<=320):((d * 10 ^ c).natAbs:Int)<1000000000 ^ 800:=by
 have ha:=zSK h0 h1;have hb:=zN0 c h;have hp:=zNI h0 c;have h10:(0:Int)<10 ^ c:=Int.pow_pos (by decide);rw [Int.natAbs_of_nonneg hp];rw [Int.natAbs_of_nonneg h0] at ha;rw [Int.natAbs_of_nonneg (Int.le_of_lt h10)] at hb;rw [show (1000000000:Int) ^ 800=1000000000 ^ 400 * 1000000000 ^ 400 by rw [<- Int.pow_add]];exact Int.lt_of_le_of_lt (Int.mul_le_mul_of_nonneg_left (Int.le_of_lt hb) h0) (Int.mul_lt_mul_of_pos_right ha (Int.pow_pos (by decide)))
theorem zRK (c:UInt8):∀ n,repF [c] n=List.replicate n c
 | 0=>rfl
 | n+1=>by rw [repF,zRK c n,List.replicate_succ']
theorem zNN (n minus:Bool) (d e:Int) (ng:Bool) (bf af dt:List UInt8) (wh pl mb tm:Nat) (gr:Bool) (w:World) (hw1:1<=wh/\wh<=9) (hpl:pl<=9) (hmb:mb<=9) (htm:tm<=3) (hg:zA1 n d e=true) :
  Calls Tryz.prog 40 #[.agg #[.bool n,iQ d,iQ e],.agg #[.bool ng,sV bf,sV af,iQ wh,iQ pl,iQ mb,.bool gr,iQ tm,sV dt],.bool minus] w
   fun r w'=>r=.returned (sV (numT wh pl mb gr tm minus n d e))/\Ext w w':=by
 obtain ⟨A,hA⟩:=nm (numT wh pl mb gr tm minus n d e);have HA:=hid hA;rw [hA];obtain ⟨T,hT⟩:=nm (zAM tm ⟨true,false,d,e⟩);obtain ⟨bD,hbD⟩:=nm (w.heap.size);obtain ⟨wa,ha,X1,VD,-⟩:=zC7 w [.bool n,iQ d,iQ e] 31;obtain ⟨wb,hb,X2,VF,-⟩:=zC7 wa [.bool ng,sV bf,sV af,iQ wh,iQ pl,iQ mb,.bool gr,iQ tm,sV dt] 28;have sa:wa.heap.size=bD+1:=by rw [<- ha,World.size_alloc,hbD]
 rw [hbD] at VD;rw [sa] at VF;have VD:=VD.l X2;have X:=xt X1 X2;have VD2:Vec (wb.setCell ⟨bD,0,none⟩ (.bool false)) bD [.bool false,iQ d,iQ e]:=VD.put 0 (by simp) _;have VF2:Vec (wb.setCell ⟨bD,0,none⟩ (.bool false)) (bD+1) [.bool ng,sV bf,sV af,iQ wh,iQ pl,iQ mb,.bool gr,iQ tm,sV dt]:=VF.far (by show bD ≠ bD+1;omega) _;have XS:Ext w (wb.setCell ⟨bD,0,none⟩ (.bool false)):=xset X (by show _<=bD;omega) _;obtain ⟨w2,hw2⟩:=nm (wb.setCell ⟨bD,0,none⟩ (.bool false));rw [hw2] at VD2 VF2 XS;have HJ0:Hid (zAM (tm - 0) ⟨true,false,d,e⟩=T/\Vec w2 bD [.bool false,iQ d,iQ e]/\Vec w2 (bD+1) [.bool ng,sV bf,sV af,iQ wh,iQ pl,iQ mb,.bool gr,iQ tm,sV dt]/\Ext w w2):=⟨hT,VD2,VF2,XS⟩;have HBD:=hid hbD;have HTT:=hid hT;have HG:=hid hg;have HWA:=hid ha;have HWB:=hid hb;have HSA:=hid sa;have HB:=hid hw1;have HB2:Hid (pl<=9/\mb<=9/\tm<=3):=⟨hpl,hmb,htm⟩;have c0:=vC3 VD;have f0:=(VD 0 _ rfl).2;clear hA hT hbD X1 X2 VD VF X VD2 VF2 XS hg ha hb sa hw1 hpl hmb htm;go_enter Tryz.func40,Tryz.ntmps40;go_upto_region 1 with fail;rw [HWA.out,HWB.out]
 (try rw [HSA.out])
 (try rw [HBD.out])
 go_wp2_with fail
 (try rw [hw2])
 clear c0 f0;go_loopw [8] (fun i wr=>∃ (j:Nat) (r:DR),j<=tm/\i=.int .i64 (j:Int)/\Hid (r.ok=true/\zAM (tm - j) r=T/\Vec wr bD [.bool r.neg,.int .i64 r.d,.int .i64 r.e]/\Vec wr (bD+1) [.bool ng,sV bf,sV af,.int .i64 wh,.int .i64 pl,.int .i64 mb,.bool gr,.int .i64 tm,sV dt]/\Ext w wr)) (fun i _=>tm - (intOf i).toNat)
 case atStart=>exact ⟨0,⟨true,false,d,e⟩,by omega,rfl,⟨rfl,HJ0.out⟩⟩
 case round =>
  clear HJ0;obtain ⟨j,r,hj,rfl,HJ⟩:=hrel;obtain ⟨rok,rn,rd,re⟩:=r;have hok:rok=true:=HJ.out.1;subst hok;have c1:=vC3 HJ.out.2.2.1;have c2:=vC9 HJ.out.2.2.2.1;by_cases hlt:j<tm
  ·have i1:(j:Int)<(tm:Int):=by omega
   have hj1:IntKind.i64.wrap ((j:Int)+1)=((j+1:Nat):Int):=by have:=HB2.out;rw [IntKind.wrap_i64] <;> omega
   obtain ⟨R,hR⟩:=nm (mulR rn rd re false 1 2);have CM:=mulS rn false rd re 1 2 wr;rw [hR] at CM;have HR:=hid hR;clear hR;go_wp2_with fail;refine CM.mono ?_;rintro x w6 ⟨rfl,e6⟩;obtain ⟨sok,sn,sd,se⟩:=R;obtain ⟨wc,hwc,XC,VC,-⟩:=zC7 w6 [.bool sok,.bool sn,iQ sd,iQ se] 99;have hlo:w6.heap.size ≠ bD:=by have:=e6.size;have:=HJ.out.2.2.2.2.size;have:=HBD.out;have q:=(World.block_lt_of_cell? _ _ c1.1:bD<_);have:bD<wr.heap.size:=q;omega
   have hlo2:w6.heap.size ≠ bD+1:=by have:=e6.size;have q:bD+1<wr.heap.size:=(World.block_lt_of_cell? _ _ c2.1:_);omega
   have VD6:=HJ.out.2.2.1.l (xt e6 XC);have VF6:=HJ.out.2.2.2.1.l (xt e6 XC);have X6:Ext w wc:=xt HJ.out.2.2.2.2 (xt e6 XC);have d4:=vC4 VC;have d3:=vC3 VD6;have g3:=vF3 VD6;have HNX:Hid (zAM (tm - (j+1)) ⟨sok,sn,sd,se⟩=T):=by
    have h:=HJ.out.2.1;obtain ⟨k,hk⟩:∃ k,tm - j=k+1:=⟨tm - j - 1,by omega⟩;rw [hk,zAM,if_pos rfl] at h;show zAM _ _=T;rw [show tm - (j+1)=k by omega,<- HR.out];exact h
   have W1:Vec (((wc.setCell ⟨bD,0,none⟩ (.bool sn)).setCell ⟨bD,1,none⟩ (iQ sd)).setCell ⟨bD,2,none⟩ (iQ se)) bD [.bool sn,iQ sd,iQ se]:=((VD6.put 0 (by simp) _).put 1 (by simp) _).put 2 (by simp) _;have W2:Vec (((wc.setCell ⟨bD,0,none⟩ (.bool sn)).setCell ⟨bD,1,none⟩ (iQ sd)).setCell ⟨bD,2,none⟩ (iQ se)) (bD+1) [.bool ng,sV bf,sV af,iQ wh,iQ pl,iQ mb,.bool gr,iQ tm,sV dt]:=
    ((VF6.far (by show bD ≠ bD+1;omega) _).far (by show bD ≠ bD+1;omega) _).far (by show bD ≠ bD+1;omega) _
   have W3:Ext w (((wc.setCell ⟨bD,0,none⟩ (.bool sn)).setCell ⟨bD,1,none⟩ (iQ sd)).setCell ⟨bD,2,none⟩ (iQ se)):=by
    have hb:=HBD.out;exact xset (xset (xset X6 (by show _<=bD;omega) _) (by show _<=bD;omega) _) (by show _<=bD;omega) _
   have HW:=hid (And.intro W1 (And.intro W2 W3));have HX6:=hid X6;clear VC XC VD6 VF6 X6 e6 CM HR c1 c2 W1 W2 W3 HJ;cases sok
   ·have HE:Hid (A=[35]):=by
     show A=[35];rw [<- HA.out,numT];have h:=HNX.out;rw [zHV _ _ rfl] at h;simp only [HTT.out,<- h];rfl
    clear HNX HW;go_wp2_with fail;go_ret;exact ⟨retZ (by rw [HE.out]),HX6.out⟩
   ·go_wp2_with fail;have htm:=HB2.out.2.2;go_roundw
    case rel=>exact ⟨j+1,⟨true,sn,sd,se⟩,by omega,by go_num,⟨rfl,HNX.out,HW.out.1,HW.out.2.1,HW.out.2.2⟩⟩
    case measure=>simp [intOf];omega
  ·obtain rfl:j=tm:=by omega
   have i1:¬ (j:Int)<(j:Int):=by omega
   have HT2:Hid (T=⟨true,rn,rd,re⟩):=by
    have h:=HJ.out.2.1;rw [Nat.sub_self,zAM] at h;exact h.symm
   have hpi:IntKind.i64.wrap ((pl:Int)+(mb:Int))=((pl+mb:Nat):Int):=by have:=HB2.out;rw [IntKind.wrap_i64] <;> omega
   obtain ⟨p,hp⟩:=nm (pl+mb);have HP:=hid hp;rw [hp] at hpi;obtain ⟨S,hS⟩:=nm (zAB rn rd re (p:Int) 1);have HS:=hid hS;have CR:Hid (∀ W,Calls Tryz.prog 84 #[.agg #[.bool rn,iQ rd,iQ re],iQ (p:Int),iQ 1] W fun r w'=>r=.returned (resV S)/\Ext W w'):=fun W=>by rw [<- hS];exact zRB rn rd re p 1 W
   clear hp hS;go_wp2_with fail;refine (CR.out _).mono ?_;rintro x w6 ⟨rfl,e6⟩;obtain ⟨sok,sn,sd,se⟩:=S;obtain ⟨wc,hwc,XC,VC,-⟩:=zC7 w6 [.bool sok,.bool sn,iQ sd,iQ se] 99;have VF6:=HJ.out.2.2.2.1.l (xt e6 XC);have X6:Ext w wc:=xt HJ.out.2.2.2.2 (xt e6 XC);obtain ⟨bS,hbS⟩:=nm (w6.heap.size);rw [hbS] at VC;have HR2:Hid (Vec wc bS [.bool sok,.bool sn,iQ sd,iQ se]/\Vec wc (bD+1) [.bool ng,sV bf,sV af,iQ wh,iQ pl,iQ mb,.bool gr,iQ j,sV dt]/\Ext w wc):=⟨VC,VF6,X6⟩;have d4:=vC4 VC;have g9:=vC9 VF6;clear CR VC VF6 X6 e6 XC c1 c2 HJ;cases sok
   ·have HE:Hid (A=[35]):=by
     show A=[35];rw [<- HA.out,numT];simp only [HTT.out,HT2.out,HP.out,HS.out];rfl
    go_wp2_with fail;go_ret;exact ⟨retZ (by rw [HE.out]),HR2.out.2.2⟩
   ·have HE:Hid (A=if (n && minus && decide (sd ≠ 0))=true then 45 :: zBN wh pl mb gr j sd se else zBN wh pl mb gr j sd se):=by
     show A=_;rw [<- HA.out,numT];simp only [HTT.out,HT2.out,HP.out,HS.out];rfl
    have FG:Hid (zA1 sn sd se=true):=by
     have h:=zJI (n:=rn) (d:=rd) (e:=re) (p:=(p:Int)) (m:=1) (by rw [HS.out]);rw [HS.out] at h;exact h
    have FE:Hid (0<=se+(p:Int)):=by
     have h:=zNB rn rd re (p:Int) 1 (by omega) (by rw [HS.out]);rw [HS.out] at h;exact h
    have FB:Hid (p<=18/\0<=sd/\sd<1000000000000000 /\ -300<=se/\se<=300):=by
     have h:=zAN FG.out;have:=HB2.out;have:=HP.out;exact ⟨by omega,h.1,h.2.1,h.2.2.1,h.2.2.2.1⟩
    obtain ⟨c,hc⟩:∃ c:Nat,se+(p:Int)=(c:Int):=⟨(se+(p:Int)).toNat,by have:=FE.out;omega⟩;have HC:=hid hc;have wE:IntKind.i64.wrap (se+(p:Int))=(c:Int):=(by have:=FB.out;rw [IntKind.wrap_i64] <;> omega);have HCB:Hid (c<=318):=(by show c<=318;have:=FB.out;omega);obtain ⟨D,hD⟩:=nm (digZ sd.toNat c);have HD:=hid hD;have HDL:Hid (D.length<=400):=(by show _<=_;have:=zMP FB.out.2.1 FB.out.2.2.1 c;have:=HCB.out;rw [<- hD];omega);have SM:Hid (∀ W,Calls Tryz.prog 58 #[iQ sd] W fun e w'=>∃ v',e=.returned v'/\ZV w' v' sd/\Ext W w'):=fun W=>zBL sd W (by have:=FB.out;omega) (by have:=FB.out;omega);have MX:Hid (∀ W,Calls Tryz.prog 88 #[iQ 0,iQ (c:Int)] W fun e w'=>e=.returned (iQ (c:Int))/\w'=W):=fun W=>max0 c W;have TE:Hid (∀ W,Calls Tryz.prog 93 #[iQ (c:Int)] W fun e w'=>∃ v',e=.returned v'/\ZV w' v' (10 ^ c)/\Ext W w'):=fun W=>zHF c W (by have:=HCB.out;omega);have MU:Hid (∀ (W:World) (va vb:Value),ZV W va sd->ZV W vb (10 ^ c)->Calls Tryz.prog 92 #[va,vb] W fun e w'=>∃ v',e=.returned v'/\ZV w' v' (sd * 10 ^ c)/\Ext W w'):=fun W va vb ha hb=>zED W ha hb 400 (by decide) (zSK FB.out.2.1 FB.out.2.2.1) (zN0 c (by have:=HCB.out;omega));have TX:Hid (∀ (W:World) (v:Value),ZV W v (sd * 10 ^ c)->Calls Tryz.prog 91 #[v] W fun e w'=>e=.returned (sV D)/\Ext W w'):=fun W v hv=>by
     refine (zH1 W hv 800 (by decide) (zUR FB.out.2.1 FB.out.2.2.1 c (by have:=HCB.out;omega))).mono ?_;rintro e w' ⟨l,rfl,hl,hx⟩;refine ⟨?_,hx⟩;rw [hl.dec (zNI FB.out.2.1 c),<- hD,<- digZ_is,zUQ FB.out.2.1]
    have HPI:=hid hpi;clear hc hD;go_upto_region 14 with fail;go_cut [12] (fun v wx=>v=sV D/\Ext wc wx)
    case first =>
     have X:Ext wc wc:=xr _;go_region_with (first
      | (go_at_call 58;refine (SM.out _).mono ?_;rintro r w2 ⟨v2,rfl,z2,e2⟩;(first | replace z3:=z3.l e2 | skip);replace X:Ext wc w2:=(by first | exact xt X e2 | exact xt (xd X) e2);have q4:=vC4 (HR2.out.1.l X))
      | (go_at_call 88;refine (MX.out _).mono ?_;rintro r w9 ⟨rfl,rfl⟩)
      | (go_at_call 93;refine (TE.out _).mono ?_;rintro r w3 ⟨v3,rfl,z3,e3⟩;(first | replace z2:=z2.l e3 | skip);replace X:Ext wc w3:=(by first | exact xt X e3 | exact xt (xd X) e3);have q4:=vC4 (HR2.out.1.l X))
      | (go_at_call 92;refine (MU.out _ _ _ z2 z3).mono ?_;rintro r w4 ⟨v4,rfl,z4,e4⟩;replace X:Ext wc w4:=(by first | exact xt X e4 | exact xt (xd X) e4);have q4:=vC4 (HR2.out.1.l X))
      | (go_at_call 91;refine (TX.out _ _ z4).mono ?_;rintro r w5 ⟨rfl,e5⟩;replace X:Ext wc w5:=(by first | exact xt X e5 | exact xt (xd X) e5)))
     all_goals
      go_wp2_with fail;go_meet
      case rel=>exact ⟨rfl,X⟩
    case rest =>
     obtain ⟨rfl,xw⟩:=hcut
     rename World=>w7
     have HX7:Hid (Ext w w7):=xt HR2.out.2.2 xw;have HV7:=hid (And.intro (HR2.out.1.l xw) (HR2.out.2.1.l xw));clear xw d4 g9 SM MX TE MU TX HR2;have d7:=vC4 HV7.out.1;have g7:=vC9 HV7.out.2;obtain ⟨m,hm⟩:=nm (D.length);have HM:Hid (D.length=m/\m<=400):=⟨hm,by rw [<- hm];exact HDL.out⟩;obtain ⟨X,hX⟩:=nm (padZ (p+1) D);have HXD:=hid hX;have HXL:Hid (p+1<=X.length/\X.length<=400):=by
      show _/\_;rw [<- hX,zD4];have:=HM.out;have:=FB.out;omega
     clear hX HDL;go_upto_if 60 with fail;go_cut [12] (fun v wx=>v=sV X/\Ext w7 wx)
     case first =>
      obtain ⟨p1,hp1⟩:=nm (p+1);have wp1:IntKind.i64.wrap ((p:Int)+1)=(p1:Int):=(by have:=FB.out;rw [IntKind.wrap_i64] <;> omega);by_cases hl:m<=p
      ·have i1:(m:Int)<=(p:Int):=(by omega);obtain ⟨k,hk⟩:=nm (p+1 - m);have wk:IntKind.i64.wrap ((p1:Int) - (m:Int))=(k:Int):=(by have:=FB.out;rw [IntKind.wrap_i64] <;> omega);have NZ:Hid (∀ W,Calls Tryz.prog 94 #[iQ (k:Int)] W fun e w'=>e=.returned (sV (List.replicate k 48))/\Ext W w'):=fun W=>zER k W (by have:=FB.out;omega);have HA2:Hid ((⟨(List.replicate k (48:UInt8)).toArray⟩++⟨D.toArray⟩:ByteArray)=⟨X.toArray⟩):=by
        show _=_;rw [zAE,<- HXD.out,padZ,HM.out.1,hk]
       have q1:(9223372036854775807<k+m)=False:=eq_false (by have:=FB.out;omega);have HK:=hid hk;clear hk hl hp1;go_wp2_with fail;refine (NZ.out _).mono ?_;rintro r w8 ⟨rfl,e8⟩;go_wp2_with fail;go_meet
       case rel=>exact ⟨congrArg Value.string (by rw [<- HA2.out];simp),e8⟩
      ·have i1:¬ (m:Int)<=(p:Int):=(by omega);have i2:(p:Int)<(m:Int):=(by omega);have HE2:Hid (D=X):=(by show D=X;rw [<- HXD.out,zKW (by have:=HM.out;omega)]);clear hp1;go_wp2_with fail;go_meet
       case rel=>exact ⟨by rw [HE2.out],xr _⟩
     case rest =>
      obtain ⟨rfl,xw⟩:=hcut
      rename World=>w8
      have HX8:Hid (Ext w w8):=xt HX7.out xw;have HV8:=hid (And.intro (HV7.out.1.l xw) (HV7.out.2.l xw));clear xw d7 g7 HV7 hm;have g8:=vC9 HV8.out.2;obtain ⟨y,hy⟩:=nm (X.length);obtain ⟨z,hz⟩:=nm (y - p);have HY:Hid (p+1<=y/\y<=400/\y - p=z):=by
       show _/\_;rw [<- hy,<- hz,<- hy];exact ⟨HXL.out.1,HXL.out.2,rfl⟩
      have HYL:=hid hy;have wz:IntKind.i64.wrap ((y:Int) - (p:Int))=(z:Int):=(by have:=HY.out;rw [IntKind.wrap_i64] <;> omega);obtain ⟨W0,hW0⟩:=nm (X.take z);obtain ⟨R0,hR0⟩:=nm (X.drop z);have E1:(⟨X.toArray⟩:ByteArray).extract 0 z=⟨W0.toArray⟩:=(by rw [<- hW0];exact zD8 X z);have E2:(⟨X.toArray⟩:ByteArray).extract z y=⟨R0.toArray⟩:=(by rw [<- hR0,<- hy];exact zD7 X z);have i3:z<=y:=(by have:=HY.out;omega);have i4:(z:Int)<=(y:Int):=(by omega);have HW0:Hid (zCI p X=W0/\W0.length=z):=by
       show _/\_;rw [<- hW0,zCI,hy,hz,List.length_take];exact ⟨rfl,by omega⟩
      have HR0:Hid (zF8 p X=R0/\R0.length=p):=by
       show _/\_;rw [<- hR0,zF8,hy,hz,List.length_drop];exact ⟨rfl,by have:=HY.out;omega⟩
      clear hW0 hR0 hz;go_upto_region 19 with fail;clear E1 E2 wz i3 i4 hy;go_cut [87] (fun v wx=>v=.bool false/\wx=w8)
      case first =>
       have nw:¬ (wh:Int)=0:=(by have:=HB.out;omega);by_cases hq:W0=[48]
       ·have HQ:=hid hq;subst hq;go_wp2_with fail;go_meet
        case rel=>exact ⟨congrArg Value.bool (beq_eq_false_iff_ne.2 nw),rfl⟩
       ·have hq2:¬ (⟨W0.toArray⟩:ByteArray)=⟨#[48]⟩:=fun h=>hq (by have:=congrArg (fun b:ByteArray=>b.data.toList) h;simpa using this);go_wp2_with fail;go_meet
        case rel=>exact ⟨rfl,rfl⟩
      case rest =>
       obtain ⟨rfl,hwx⟩:=hcut;have hwx:=hwx.symm;subst hwx;obtain ⟨W1,hW1⟩:=nm (padZ wh W0);have HW1:=hid hW1;clear hW1;go_upto_if 92 with fail;go_cut [13] (fun v wx=>v=sV W1/\Ext w8 wx)
       case first =>
        have hz:=HW0.out.2;by_cases hl:z<wh
        ·have i1:(z:Int)<(wh:Int):=(by omega);obtain ⟨k,hk⟩:=nm (wh - z);have wk:IntKind.i64.wrap ((wh:Int) - (z:Int))=(k:Int):=(by have:=HB.out;rw [IntKind.wrap_i64] <;> omega);have NZ:Hid (∀ W,Calls Tryz.prog 94 #[iQ (k:Int)] W fun e w'=>e=.returned (sV (List.replicate k 48))/\Ext W w'):=fun W=>zER k W (by have:=HB.out;omega);have HA2:Hid ((⟨(List.replicate k (48:UInt8)).toArray⟩++⟨W0.toArray⟩:ByteArray)=⟨W1.toArray⟩):=by
          show _=_;rw [zAE,<- HW1.out,padZ,hz,hk]
         have q1:(9223372036854775807<k+z)=False:=eq_false (by have:=HB.out;omega);clear hk hl;go_wp2_with fail;refine (NZ.out _).mono ?_;rintro r w8 ⟨rfl,e8⟩;go_wp2_with fail;go_meet
         case rel=>exact ⟨congrArg Value.string (by rw [<- HA2.out];simp),e8⟩
        ·have i1:¬ (z:Int)<(wh:Int):=(by omega);have i2:(wh:Int)<=(z:Int):=(by omega);have HE2:Hid (W0=W1):=(by show W0=W1;rw [<- HW1.out,zKW (by omega)]);clear hl;go_wp2_with fail;go_meet
         case rel=>exact ⟨by rw [HE2.out],xr _⟩
       case rest =>
        obtain ⟨rfl,xw⟩:=hcut
        rename World=>w9
        have HX9:Hid (Ext w w9):=xt HX8.out xw;have HV9:=hid (And.intro (HV8.out.1.l xw) (HV8.out.2.l xw));clear xw g8 HV8;have g9:=vC9 HV9.out.2;obtain ⟨Z,hZ⟩:=nm (rstL pl R0);have HZ:=hid hZ;clear hZ;go_upto_block 2 with fail;go_cut [14] (fun v wx=>v=sV Z/\wx=w9)
        case first =>
         go_wp2_with fail;go_loopw [14] (fun v wr=>∃ R:BLs,v=sV R/\R.length<=18/\Hid (rstL pl R=Z)/\wr=w9) (fun v _=>lenV v)
         case atStart=>exact ⟨R0,rfl,by have:=HR0.out;have:=FB.out;omega,HZ,rfl⟩
         case round =>
          obtain ⟨R,rfl,hR,HRZ,hwr⟩:=hrel;have hwr:=hwr.symm;subst hwr;by_cases hlt:pl<R.length
          ·obtain ⟨K,c',hKc,hK⟩:=zR5 hlt;obtain ⟨n',hn⟩:=nm (R.length);obtain ⟨L,hL⟩:=nm (K.length);have hnL:n'=L+1:=(by rw [<- hn,hKc,<- hL];simp);rw [hn] at hlt hR;have i1:(n':Int) > (pl:Int):=(by omega);have i2:(pl:Int)<(n':Int):=(by omega);have wl:IntKind.i64.wrap ((n':Int) - 1)=(L:Int):=(by rw [IntKind.wrap_i64] <;> omega);have i3:L<n':=(by omega);have i4:(L:Int)<(n':Int):=(by omega);have i5:L<=n':=(by omega);have i6:(L:Int)<=(n':Int):=(by omega);have hc1:R[L]?=some c':=(by rw [hKc,<- hL];simp);have E1:(⟨R.toArray⟩:ByteArray).extract 0 L=⟨K.toArray⟩:=(by rw [zD8,hKc,<- hL];simp);have hg:∀ (h:L<(⟨R.toArray⟩:ByteArray).size),(⟨R.toArray⟩:ByteArray)[L]'h=c':=by
            intro h;show R.toArray[L]=c';simp only [List.getElem_toArray];exact (List.getElem?_eq_some_iff.1 hc1).2
           have HKC:=hid (And.intro hKc (And.intro hnL (And.intro hL hK)));have HRL:=hid hR;clear hKc hlt hnL hL hc1 hR hK;by_cases hc:c'=48
           ·have h48:((c'.toNat:Int) == 48)=true:=(by rw [hc];rfl);have HC48:=hid hc;clear hc;go_wp2_with fail;go_roundw
            case rel=>exact ⟨K,rfl,by have:=HKC.out;have:=HRL.out;omega,hid (by rw [<- HRZ.out,HKC.out.1,HC48.out,zN9 HKC.out.2.2.2]),by first | rfl | trivial⟩
            case measure=>show K.length<R.length;have:=HKC.out;omega
           ·have h48:((c'.toNat:Int) == 48)=false:=by
             rw [beq_eq_false_iff_ne];intro h;exact hc (UInt8.toNat_inj.1 (by have:(48:UInt8).toNat=48:=rfl;omega))
            have HC48:=hid hc;clear hc;go_wp2_with fail;go_meet
            case rel=>exact ⟨by rw [<- HRZ.out,HKC.out.1,zNA HKC.out.2.2.2 HC48.out],by first | rfl | trivial⟩
          ·obtain ⟨n',hn⟩:=nm (R.length);have HN2:=hid hn;have i1:¬ (n':Int) > (pl:Int):=(by omega);have i2:¬ (pl:Int)<(n':Int):=(by omega);have i3:(n':Int)<=(pl:Int):=(by omega);have HLT:=hid hlt;clear hlt;go_wp2_with fail;go_meet
           case rel=>exact ⟨by rw [<- HRZ.out,zKR (by have:=HLT.out;omega)],by first | rfl | trivial⟩
        case rest =>
         obtain ⟨rfl,hwx⟩:=hcut;have hwx:=hwx.symm;subst hwx;have d9:=vC4 HV9.out.1;have HZL:Hid (Z.length<=18):=by
          show _<=_;rw [<- HZ.out];have:=zM3 pl R0;have:=HR0.out;have:=FB.out;omega
         have HWL:Hid (W1.length<=400):=by
          show _<=_;rw [<- HW1.out,zD4];have:=HW0.out;have:=HY.out;have:=HB.out;omega
         obtain ⟨W2,hW2⟩:=nm ((if gr=true then grpZ W1.length W1 else W1));have HW2:=hid hW2;have HWL2:Hid (W2.length<=800):=by
          show _<=_;rw [<- hW2];have:=HWL.out;have:=zJY W1.length W1
          split <;> omega
         obtain ⟨T1,hT1⟩:=nm (W2++(if Z=[] then [] else 46 :: Z));have HT1:=hid hT1;clear hW2 hT1;have HSH:Hid (zBN wh pl mb gr j sd se=T1++List.replicate j 37):=by
          show _=_;unfold zBN;rw [HP.out,HC.out,Int.toNat_natCast,HD.out,HXD.out];unfold numZ zRI;rw [HP.out,HW0.out.1,HR0.out.1];show (if gr=true then grpZ (padZ wh W0).length (padZ wh W0) else padZ wh W0)++((if rstL pl R0=[] then [] else 46 :: rstL pl R0)++List.replicate j 37)=_;rw [HW1.out,HZ.out,HW2.out,<- List.append_assoc,HT1.out]
         obtain ⟨g2,hg2⟩:=nm (gr);have HG2:=hid hg2;have g10:=g9;rw [hg2] at g10;clear g9 hg2;go_upto_if 120 with fail;go_cut [13] (fun v wx=>v=sV W2/\wx=w9)
         case first =>
          cases g2
          ·have HQ:Hid (W1=W2):=(by show W1=W2;rw [<- HW2.out,HG2.out];rfl);go_wp2_with fail;go_meet
           case rel=>exact ⟨by rw [HQ.out],by first | rfl | trivial⟩
          ·have CG:Hid (∀ W,Calls Tryz.prog 95 #[sV W1] W fun e w'=>e=.returned (sV W2)/\w'=W):=fun W=>by
            have h:grpZ W1.length W1=W2:=(by rw [<- HW2.out,HG2.out];rfl);rw [<- h];exact zVP W1 W (by have:=HWL.out;omega)
           go_wp2_with fail;refine (CG.out _).mono ?_;rintro r w' ⟨rfl,hw'⟩;have hw':=hw'.symm;subst hw';go_wp2_with fail;go_meet
           case rel=>exact ⟨rfl,by first | rfl | trivial⟩
         case rest =>
          obtain ⟨rfl,hwx⟩:=hcut;have hwx:=hwx.symm;subst hwx;go_upto_if 125 with fail;go_cut [15] (fun v wx=>v=sV T1/\wx=w9)
          case first =>
           by_cases hZ0:Z=[]
           ·have HQ:Hid (W2=T1):=(by show W2=T1;rw [<- HT1.out,if_pos hZ0,List.append_nil]);subst hZ0;go_wp2_with fail;go_meet
            case rel=>exact ⟨by rw [HQ.out],by first | rfl | trivial⟩
           ·have HQ:Hid ((⟨W2.toArray⟩:ByteArray)++((⟨#[46]⟩:ByteArray)++⟨Z.toArray⟩)=⟨T1.toArray⟩):=by
             show _=_;rw [<- HT1.out,if_neg hZ0,show (⟨#[46]⟩:ByteArray)=⟨[46].toArray⟩ from rfl,zAE,zAE];rfl
            have hz0:¬ (⟨Z.toArray⟩:ByteArray)=⟨#[]⟩:=fun h=>hZ0 (by have:=congrArg (fun b:ByteArray=>b.data.toList) h;simpa using this);have q1:(9223372036854775807<1+Z.length)=False:=eq_false (by have:=HZL.out;omega);have q2:(9223372036854775807<W2.length+(1+Z.length))=False:=eq_false (by have:=HZL.out;have:=HWL2.out;omega);have hz1:Z.isEmpty=false:=(by cases Z with | nil=>exact absurd rfl hZ0 | cons _ _=>rfl);have hz2:(!Z.isEmpty)=true:=(by rw [hz1];rfl);clear hZ0 hz1;rw [hz2];clear hz2;go_wp2_with fail;go_meet
            case rel=>exact ⟨congrArg Value.string (by rw [<- HQ.out]),by first | rfl | trivial⟩
          case rest =>
           obtain ⟨rfl,hwx⟩:=hcut;have hwx:=hwx.symm;subst hwx;have RP:Hid (∀ W,Calls Tryz.prog 49 #[sV [37],iQ (j:Int)] W fun e w'=>e=.returned (sV (List.replicate j 37))/\w'=W):=fun W=>by
            have h:=repS [37] (j:Int) (by decide) (by have:=HB2.out;omega) W;rw [Int.toNat_natCast,zRK] at h;exact h
           obtain ⟨T2,hT2⟩:=nm (T1++List.replicate j 37);have HT2':=hid hT2;have HTL:Hid (T1.length<=900):=by
            show _<=_;rw [<- HT1.out];have:=HWL2.out;have:=HZL.out
            split <;> simp <;> omega
           have HQ:Hid ((⟨T1.toArray⟩:ByteArray)++⟨(List.replicate j (37:UInt8)).toArray⟩=⟨T2.toArray⟩):=(by show _=_;rw [zAE,hT2]);have q1:(9223372036854775807<T1.length+j)=False:=eq_false (by have:=HTL.out;have:=HB2.out;omega);have q2:(9223372036854775807<1+(T1.length+j))=False:=eq_false (by have:=HTL.out;have:=HB2.out;omega);obtain ⟨b,hb⟩:=nm ((sd != 0));have hb2:decide (sd ≠ 0)=b:=(by rw [<- hb];by_cases h:sd=0 <;> simp [h]);have HE3:Hid (A=if (n && minus && b)=true then 45 :: (T1++List.replicate j 37) else T1++List.replicate j 37):=(by show _=_;rw [<- HSH.out,<- hb2];exact HE.out);clear hb2;clear hT2;go_upto_region 31 with (go_at_call 49;refine (RP.out _).mono ?_;rintro r w' ⟨rfl,hw'⟩;have hw':=hw'.symm;subst hw');cases n <;> cases minus <;> cases b
           all_goals
            go_wp2_with fail;go_ret;exact ⟨retZ (by rw [HE3.out];exact bsZ (by simp)),HX9.out⟩
theorem zJ6 (ok n:Bool) (d x:Int) (W:World):(Instr.field 99 (.agg #[.bool ok,.bool n,iQ d,iQ x]) 1).run Tryz.prog W=.ok (decV n d x) W:=by kernel_rfl
theorem secondI (n:Bool) (d e:Int) (n':Bool) (d' e':Int) (w:World) (a0:0<=d) (a1:d<1000000000000000) (b0:0<=d') (b1:d'<1000000000000000) (hT:Tens w) :
  Calls Tryz.prog 130 #[decV n d e,decV n' d' e'] w fun r w'=>r=.returned (iQ (intR (secR n d e n' d' e').neg (secR n d e n' d' e').d (secR n d e n' d' e').e))/\Ext w w':=by
 obtain ⟨S,hS⟩:=nm (subR n d e n' d' e');obtain ⟨P,hP⟩:=nm (mulR S.neg S.d S.e false 864 2);obtain ⟨R,hR⟩:=nm (zAB P.neg P.d P.e 0 2);have hQ:secR n d e n' d' e'=R:=by rw [<- hR,<- hP,<- hS];rfl
 have fS:FitD S:=by rw [<- hS];exact zUD _ _ _ _ _ _
 have fP:FitD P:=by rw [<- hP];exact zNP _ _ _ _ _ _
 have fR:FitD R:=by rw [<- hR];exact zIP _ _ _ _ _
 have CS:Hid (∀ W,Ext w W->Calls Tryz.prog 184 #[decV n d e,decV n' d' e'] W fun r w'=>r=.returned (resV S)/\Ext W w'):=fun W X=>by rw [<- hS];exact subI n n' d e d' e' W (by omega) (by omega) (by omega) (by omega) (hT.l X)
 have CO:Hid (∀ W,Ext w W->Calls Tryz.prog 73 #[iQ 86400,iQ 0] W fun r w'=>r=.returned (resV ⟨true,false,864,2⟩)/\Ext W w'):=fun W X=>by rw [<- of_day];exact ofI 86400 0 W (by decide) (by decide) (hT.l X)
 have CM:Hid (∀ W,Ext w W->Calls Tryz.prog 72 #[decV S.neg S.d S.e,decV false 864 2] W fun r w'=>r=.returned (resV P)/\Ext W w'):=fun W X=>by rw [<- hP];exact mulI S.neg false S.d S.e 864 2 W (by have:=fS.1;omega) (by have:=fS.2;omega) (by decide) (by decide) (hT.l X)
 have CR:Hid (∀ W,Ext w W->Calls Tryz.prog 74 #[decV P.neg P.d P.e,iQ 0,iQ 2] W fun r w'=>r=.returned (resV R)/\Ext W w'):=fun W X=>by rw [<- hR];exact zRC P.neg P.d P.e 0 2 W (by have:=fP.1;omega) (by have:=fP.2;omega) (hT.l X)
 have CI:Hid (∀ W,Ext w W->Calls Tryz.prog 127 #[decV R.neg R.d R.e] W fun r w'=>r=.returned (.tuple #[iQ (intR R.neg R.d R.e),.bool (zCF R.neg R.d R.e)])/\Ext W w'):=fun W X=>intI R.neg R.d R.e W (by have:=fR.1;omega) (by have:=fR.2;omega) (hT.l X);rw [hQ];obtain ⟨z,hz⟩:=nm (intR R.neg R.d R.e);obtain ⟨zk,hzk⟩:=nm (zCF R.neg R.d R.e);rw [hz] at CI ⊢;rw [hzk] at CI;obtain ⟨sok,sn,sd,se⟩:=S;obtain ⟨pok,pn,pd,pe⟩:=P;obtain ⟨rok,rn,rd,re⟩:=R;have CO:Hid (∀ W,Ext w W->Calls Tryz.prog 73 #[iQ 86400,iQ 0] W fun r w'=>r=.returned (.agg #[.bool true,.bool false,iQ 864,iQ 2])/\Ext W w'):=CO;have CR:Hid (∀ W,Ext w W->Calls Tryz.prog 74 #[decV pn pd pe,iQ 0,iQ 2] W fun r w'=>r=.returned (.agg #[.bool rok,.bool rn,iQ rd,iQ re])/\Ext W w'):=CR;have CM:Hid (∀ W,Ext w W->Calls Tryz.prog 72 #[decV sn sd se,decV false 864 2] W fun r w'=>r=.returned (.agg #[.bool pok,.bool pn,iQ pd,iQ pe])/\Ext W w'):=CM;have F1:=zJ6 true false 864 2;have F2:=zJ6 rok rn rd re;obtain ⟨u0,u1,h0,h1,s0,s1,B0,B1,X⟩:=mkB2 w [.bool n,iQ d,iQ e] [.bool n',iQ d',iQ e'] 31 31;have c0:=vC3 B0;have c1:=vC3 B1;clear hS hP hR hQ fS fP fR hz hzk hT B0 B1;go_enter Tryz.func130,Tryz.ntmps130;go_wp2_with fail;clear h0 h1 s0 s1 c0 c1;refine (CS.out _ X).mono ?_;rintro r w2 ⟨rfl,e2⟩;have X2:=xt X e2;obtain ⟨w3,h3,X3,V3,-⟩:=zC7 w2 [.bool sok,.bool sn,iQ sd,iQ se] 99;obtain ⟨bS,hbS⟩:=nm (w2.heap.size);rw [hbS] at V3;have Y3:=xt X2 X3;have HV3:=hid V3;have c3:=vC4 V3;clear V3;have hbSl:bS<w3.heap.size:=World.block_lt_of_cell? _ _ c3.1;go_upto_region 2 with fail;go_cut [6] (fun v wx=>∃ b,v=.pointer (some ⟨b,0,none⟩)/\Vec wx b [.bool pok,.bool pn,iQ pd,iQ pe]/\Ext w wx)
 case first =>
  clear c3 h3 hbS;refine zAQ (fun lx:Nat->Value=>{ tmps:=#[decV n d e,decV n' d' e',Value.pointer (some ⟨w.heap.size,0,none⟩),Value.pointer (some ⟨w.heap.size+1,0,none⟩),Value.int .i64 0,Value.pointer (some ⟨bS,0,none⟩),lx 6,undef,undef,decV n d e,decV n' d' e',resV ⟨sok,sn,sd,se⟩,lx 12,lx 13,lx 14,lx 15,lx 16,undef,undef,undef,undef,undef,undef,undef,undef,undef],defers:=[] }) (fun L lx lw=>Hid (Ext w3 lw/\Vec lw (bS) [.bool sok,.bool sn,iQ sd,iQ se]/\(L 0=true->lx 12=.pointer (some ⟨bS,1,none⟩))/\(L 1=true->lx 13=decV sn sd se)/\(L 2=true->lx 14=.agg #[.bool true,.bool false,iQ 864,iQ 2])/\(L 3=true->lx 15=decV false 864 2)/\(L 4=true->lx 16=.agg #[.bool pok,.bool pn,iQ pd,iQ pe])/\(L 5=true->∃ b,lx 6=.pointer (some ⟨b,0,none⟩)/\w3.heap.size<=b/\(L 6=false->Vec lw b [.bool false,.bool false,iQ 0,iQ 0])/\(L 6=true->Vec lw b [.bool pok,.bool pn,iQ pd,iQ pe]))/\(L 6=true->L 5=true))) rfl (by kernel_rfl) (fun jj=>undef) rfl ?_ ?_ ?_
  ·exact ⟨xd (xr _),HV3.out.l (xd (xr _)),(fun h=>by cases h),(fun h=>by cases h),(fun h=>by cases h),(fun h=>by cases h),(fun h=>by cases h),(fun h=>by cases h),(fun h=>by cases h)⟩
  ·intro L lx wl i o K hK ho hL haf hI;obtain ⟨X,f0,f1,f2,f3,f4,f5,f6,f7⟩:=hI.out
   match i,ho,hL,haf,hK with
   | 0,ho,hL,haf,hK =>
    cases ho
    (try dsimp only)
    go_wp2_with fail;exact hK (fun jj=>if jj=12 then .pointer (some ⟨bS,1,none⟩) else lx jj) _ ⟨X,f0,(fun _=>rfl),f2,f3,f4,f5,f6,f7⟩
   | 1,ho,hL,haf,hK =>
    cases ho
    (try dsimp only)
    rw [f1 (haf ⟨0,.data⟩ (by simp) rfl)];have a1:=(f0 1 _ rfl).1;have a2:=(f0 2 _ rfl).1;have a3:=(f0 3 _ rfl).1;go_wp2_with fail;exact hK (fun jj=>if jj=13 then decV sn sd se else if jj=12 then .pointer (some ⟨bS,1,none⟩) else lx jj) _ ⟨X,f0,(fun _=>rfl),(fun _=>rfl),f3,f4,f5,f6,f7⟩
   | 2,ho,hL,haf,hK =>
    cases ho
    (try dsimp only)
    go_wp2_with fail;refine (CO.out wl (xt Y3 X)).mono ?_;rintro rr w' ⟨rfl,E⟩;go_wp2_with fail;exact hK (fun jj=>if jj=14 then .agg #[.bool true,.bool false,iQ 864,iQ 2] else lx jj) _ ⟨xt X E,(f0.l E),f1,f2,(fun _=>rfl),f4,f5,(fun h=>by obtain ⟨b,h1,h2,h3,h4⟩:=f6 h;exact ⟨b,h1,h2,fun h=>(h3 h).l E,fun h=>(h4 h).l E⟩),f7⟩
   | 3,ho,hL,haf,hK =>
    cases ho
    (try dsimp only)
    rw [f3 (haf ⟨2,.data⟩ (by simp) rfl)];go_wp2_with fail;exact hK (fun jj=>if jj=15 then decV false 864 2 else if jj=14 then .agg #[.bool true,.bool false,iQ 864,iQ 2] else lx jj) _ ⟨X,f0,f1,f2,(fun _=>rfl),(fun _=>rfl),f5,f6,f7⟩
   | 4,ho,hL,haf,hK =>
    cases ho
    (try dsimp only)
    rw [f2 (haf ⟨1,.data⟩ (by simp) rfl),f4 (haf ⟨3,.data⟩ (by simp) rfl)];go_wp2_with fail;refine (CM.out wl (xt Y3 X)).mono ?_;rintro rr w' ⟨rfl,E⟩;go_wp2_with fail;exact hK (fun jj=>if jj=16 then .agg #[.bool pok,.bool pn,iQ pd,iQ pe] else if jj=13 then decV sn sd se else if jj=15 then decV false 864 2 else lx jj) _ ⟨xt X E,(f0.l E),f1,(fun _=>rfl),f3,(fun _=>rfl),(fun _=>rfl),(fun h=>by obtain ⟨b,h1,h2,h3,h4⟩:=f6 h;exact ⟨b,h1,h2,fun h=>(h3 h).l E,fun h=>(h4 h).l E⟩),f7⟩
   | 5,ho,hL,haf,hK =>
    cases ho
    (try dsimp only)
    have hst:L 6=true->False:=fun h=>(by have:=f7 h;rw [hL] at this;cases this);have E:=x1 wl (.cells #[.bool false,.bool false,iQ 0,iQ 0] 99);go_wp2_with fail;exact hK (fun jj=>if jj=6 then .pointer (some ⟨wl.heap.size,0,none⟩) else lx jj) _ ⟨xt X E,(f0.l E),f1,f2,f3,f4,f5,(fun _=>⟨wl.heap.size,rfl,by have:=X.size;omega,fun _=>zA2 wl [.bool false,.bool false,iQ 0,iQ 0] _,fun h=>(hst h).elim⟩),(fun _=>rfl)⟩
   | 6,ho,hL,haf,hK =>
    cases ho
    (try dsimp only)
    have hmk:L 5=true:=haf ⟨5,.data⟩ (by simp) rfl;obtain ⟨b,eb',hb,hz,_⟩:=f6 hmk;have bx:=hz hL;rw [eb',f5 (haf ⟨4,.data⟩ (by simp) rfl)];have b0:=(bx 0 _ rfl).1;have b1:=(bx 1 _ rfl).1;have b2:=(bx 2 _ rfl).1;have b3:=(bx 3 _ rfl).1;have fb0:=(bx 0 _ rfl).2;have fb1:=(bx 1 _ rfl).2;have fb2:=(bx 2 _ rfl).2;have fb3:=(bx 3 _ rfl).2;have hX:=Ext.setL (b:=b) (by omega) [.bool pok,.bool pn,iQ pd,iQ pe] 0 X;have hB:=bx.put4 (.bool pok) (.bool pn) (iQ pd) (iQ pe);go_wp2_with fail;exact hK (fun jj=>if jj=6 then .pointer (some ⟨b,0,none⟩) else if jj=16 then .agg #[.bool pok,.bool pn,iQ pd,iQ pe] else lx jj) _ ⟨hX,(Vec.farL (k:=b) (by omega) [.bool pok,.bool pn,iQ pd,iQ pe] 0 f0),f1,f2,f3,f4,(fun _=>rfl),(fun _=>⟨b,rfl,hb,(fun h=>by cases h),fun _=>hB⟩),(fun _=>hmk)⟩
   | k+7,ho,_,_,_=>simp at ho
  ·intro L lx wr hall hI;obtain ⟨XR,f0,f1,f2,f3,f4,f5,f6,f7⟩:=hI.out;clear hI;have G0:=f0;replace f1:=f1 (hall 0 (by simp));replace f2:=f2 (hall 1 (by simp));replace f3:=f3 (hall 2 (by simp));replace f4:=f4 (hall 3 (by simp));replace f5:=f5 (hall 4 (by simp));obtain ⟨bb,eb,lb,_,hz⟩:=f6 (hall 5 (by simp));have BN:=hz (hall 6 (by simp))
   (try dsimp only)
   rw [eb];rw [f1,f2,f3,f4,f5];clear hall hz f0 f1 f2 f3 f4 f5 f6 f7;go_wp2_with fail;go_meet
   case rel=>exact ⟨_,rfl,BN,xt Y3 XR⟩
 case rest =>
  obtain ⟨b6,rfl,V6,X6⟩:=hcut
  rename World=>w6
  have c6:=vC4 V6;have HV6:=hid V6;clear V6 c3;go_wp2_with fail;refine (CR.out _ X6).mono ?_;rintro r w7 ⟨rfl,e7⟩;have X7:=xt X6 e7;go_wp2_with fail;refine (CI.out _ X7).mono ?_;rintro r w8 ⟨rfl,e8⟩;go_wp2_with fail;go_ret;exact ⟨rfl,xt X7 e8⟩
theorem zOE {m:BLs} (h:m ∈ zAG):m=[121,121,121,121]\/m=[121,121]\/m=[109,109]\/m=[109]\/m=[100,100]\/m=[100]\/m=[104,104]\/m=[110,110]\/m=[115,115]\/m=[45]\/m=[47]\/m=[58]\/m=[46]\/m=[32]:=by
 simpa [zAG] using h
theorem zTN (RP:RepC) (y mo da sc:Int) (m:BLs) (hm:m ∈ zAG) (w0 w:World) (IT:zD2 w0) (X0:Ext w0 w) (hy : -5000<=y/\y<=9999) (hmo:1<=mo/\mo<=12) (hda:1<=da/\da<=31) (hsc:0<=sc/\sc<=1000000) :
  Calls Tryz.prog 132 #[sV m,.agg #[iQ y,iQ mo,iQ da],iQ sc] w fun r w'=>r=.returned (sV (zC0 y mo da sc m))/\Ext w w':=by
 obtain ⟨wa,ha,X1,VD,-⟩:=zC7 w [iQ y,iQ mo,iQ da] 121;have c0:=vC3 VD;have XA:Ext w0 wa:=xt X0 X1;have CY:Hid (∀ W,Ext w0 W->Calls Tryz.prog 185 #[iQ y] W fun e w'=>e=.returned (sV (zFD y))/\Ext W w'):=fun W X=>yearI RP y w0 W IT X (by omega) (by omega);have CP:Hid (∀ (n:Int) (k:Nat) W,0<=n->n<=9999->k<=4->Ext w0 W->Calls Tryz.prog 186 #[iQ n,iQ k] W fun e w'=>e=.returned (sV (padT n k))/\Ext W w'):=fun n k W h0 h1 hk X=>padI RP n k w0 W IT X h0 h1 hk;have HB:=hid (And.intro hy (And.intro hmo (And.intro hda hsc)));clear IT RP X0 hy hmo hda hsc VD
 rcases zOE hm with rfl | rfl | rfl | rfl | rfl | rfl | rfl | rfl | rfl | rfl | rfl | rfl | rfl | rfl
 ·clear hm;show Calls _ _ _ _ fun r w'=>r=.returned (sV (zFD y))/\Ext w w';go_enter Tryz.func132,Tryz.ntmps132;go_wp2_with fail;refine (CY.out _ XA).mono ?_;rintro r w1 ⟨rfl,e1⟩;go_wp2_with fail;go_ret;exact ⟨rfl,xt X1 e1⟩
 ·clear hm;show Calls _ _ _ _ fun r w'=>r=.returned (sV (padT ((y.natAbs:Int) % 100) 2))/\Ext w w';have hA:(max y (wrap64 (-y))).tmod 100=(y.natAbs:Int) % 100:=by
   have h1:wrap64 (-y) = -y:=by unfold wrap64;have:=HB.out;omega
   have h2:max y (-y)=(y.natAbs:Int):=by omega
   rw [h1,h2];exact Int.tmod_eq_emod_of_nonneg (by omega)
  have CQ:Hid (∀ W,Ext w0 W->Calls Tryz.prog 186 #[iQ ((max y (wrap64 (-y))).tmod 100),iQ 2] W fun e w'=>e=.returned (sV (padT ((y.natAbs:Int) % 100) 2))/\Ext W w'):=fun W X=>by rw [hA];exact CP.out ((y.natAbs:Int) % 100) 2 W (by omega) (by have:=HB.out;omega) (by omega) X
  clear CP hA;go_enter Tryz.func132,Tryz.ntmps132;go_wp2_with fail;refine (CQ.out _ XA).mono ?_;rintro r w1 ⟨rfl,e1⟩;go_wp2_with fail;go_ret;exact ⟨rfl,xt X1 e1⟩
 ·clear hm;go_enter Tryz.func132,Tryz.ntmps132;go_wp2_with fail;refine (CP.out mo 2 _ (by have:=HB.out;omega) (by have:=HB.out;omega) (by omega) XA).mono ?_;rintro r w1 ⟨rfl,e1⟩;go_wp2_with fail;go_ret;exact ⟨rfl,xt X1 e1⟩
 ·clear hm;go_enter Tryz.func132,Tryz.ntmps132;go_wp2_with fail;refine (CP.out mo 1 _ (by have:=HB.out;omega) (by have:=HB.out;omega) (by omega) XA).mono ?_;rintro r w1 ⟨rfl,e1⟩;go_wp2_with fail;go_ret;exact ⟨rfl,xt X1 e1⟩
 ·clear hm;go_enter Tryz.func132,Tryz.ntmps132;go_wp2_with fail;refine (CP.out da 2 _ (by have:=HB.out;omega) (by have:=HB.out;omega) (by omega) XA).mono ?_;rintro r w1 ⟨rfl,e1⟩;go_wp2_with fail;go_ret;exact ⟨rfl,xt X1 e1⟩
 ·clear hm;go_enter Tryz.func132,Tryz.ntmps132;go_wp2_with fail;refine (CP.out da 1 _ (by have:=HB.out;omega) (by have:=HB.out;omega) (by omega) XA).mono ?_;rintro r w1 ⟨rfl,e1⟩;go_wp2_with fail;go_ret;exact ⟨rfl,xt X1 e1⟩
 ·clear hm;have t1:sc.tdiv 3600=sc / 3600:=Int.tdiv_eq_ediv_of_nonneg HB.out.2.2.2.1;have t2:IntKind.i64.wrap (sc / 3600)=sc / 3600:=by have:=HB.out;rw [IntKind.wrap_i64] <;> omega
  go_enter Tryz.func132,Tryz.ntmps132;go_wp2_with fail;refine (CP.out (sc / 3600) 2 _ (by have:=HB.out;omega) (by have:=HB.out;omega) (by omega) XA).mono ?_;rintro r w1 ⟨rfl,e1⟩;go_wp2_with fail;go_ret;exact ⟨rfl,xt X1 e1⟩
 ·clear hm;have t1:sc.tdiv 60=sc / 60:=Int.tdiv_eq_ediv_of_nonneg HB.out.2.2.2.1;have t2:IntKind.i64.wrap (sc / 60)=sc / 60:=by have:=HB.out;rw [IntKind.wrap_i64] <;> omega
  have t3:(sc / 60).tmod 60=sc / 60 % 60:=Int.tmod_eq_emod_of_nonneg (by have:=HB.out;omega);have t4:IntKind.i64.wrap (sc / 60 % 60)=sc / 60 % 60:=by rw [IntKind.wrap_i64] <;> omega
  go_enter Tryz.func132,Tryz.ntmps132;go_wp2_with fail;refine (CP.out (sc / 60 % 60) 2 _ (by have:=HB.out;omega) (by have:=HB.out;omega) (by omega) XA).mono ?_;rintro r w1 ⟨rfl,e1⟩;go_wp2_with fail;go_ret;exact ⟨rfl,xt X1 e1⟩
 ·clear hm;have t1:sc.tmod 60=sc % 60:=Int.tmod_eq_emod_of_nonneg HB.out.2.2.2.1;have t2:IntKind.i64.wrap (sc % 60)=sc % 60:=by rw [IntKind.wrap_i64] <;> omega
  go_enter Tryz.func132,Tryz.ntmps132;go_wp2_with fail;refine (CP.out (sc % 60) 2 _ (by have:=HB.out;omega) (by have:=HB.out;omega) (by omega) XA).mono ?_;rintro r w1 ⟨rfl,e1⟩;go_wp2_with fail;go_ret;exact ⟨rfl,xt X1 e1⟩
 all_goals
  clear hm;go_enter Tryz.func132,Tryz.ntmps132;go_wp2_with fail;go_ret;exact ⟨rfl,X1⟩
theorem isErrD (k:Int) (n:Bool) (d x:Int) (t:List UInt8) (w:World) :
  Calls Tryz.prog 212 #[valV k n d x t] w fun e w'=>e=.returned (.bool (decide (k=4)))/\Ext w w':=by
 have X0:=x1 w (.cells #[iQ k,.bool n,iQ d,iQ x,sV t] 33);have B0:=zA2 w (valL k n d x t) 33;change Vec (w.alloc (.cells #[iQ k,.bool n,iQ d,iQ x,sV t] 33)) _ _ at B0;have a0:=vC5 B0;have e:decide (k=4)=(k == 4):=rfl;rw [e];clear e;go_enter Tryz.func212,Tryz.ntmps212;go_wp2_with fail;go_ret;exact ⟨rfl,X0⟩
theorem putVD (rn:Bool) (rd re:Int) (w:World):Calls Tryz.prog 213 #[resV ⟨true,rn,rd,re⟩] w fun rr w'=>rr=.returned (valV 1 rn rd re [])/\Ext w w':=by
 obtain ⟨u0,u1,h0,h1,s0,s1,B0,B1,X⟩:=mkB2 w [.bool true,.bool rn,iQ rd,iQ re] [iQ 0,.bool false,iQ 0,iQ 0,sV []] 99 33;have a0:=vC4 B0;show Calls _ _ #[.agg #[.bool true,.bool rn,iQ rd,iQ re]] _ _;go_enter Tryz.func213,Tryz.ntmps213;go_wp2_with fail;clear h0 s0 h1 s1 a0;refine (numVI rn rd re u1).mono ?_;rintro rr w1 ⟨rfl,e1⟩;obtain ⟨wy,hy,FX,⟨b0,b1,b2,b3,b4⟩,⟨fb0,fb1,fb2,fb3,fb4⟩,fd0,fd1,fd2,fd3,fd4⟩:=fin5 (B1.l e1) (xt X e1) (by omega) 1 rn rd re [];go_wp2_with fail;exact bodyPost_ret (v:=valV 1 rn rd re []) (by simp [results,Tryz.results213,go_sem,fd0,fd1,fd2,fd3,fd4]) rfl ⟨rfl,FX⟩
theorem zRE (n:Bool) (d e m:Int) (fn:Bool) (fd fe:Int) (w:World) (a0:0<=d) (a1:d<1000000000000000) (hT:Tens w) (hR:zAB n d e 0 m=⟨true,fn,fd,fe⟩) :
  Calls Tryz.prog 180 #[valV 1 n d e [],iQ 0,iQ m] w fun r w'=>r=.returned (valV 1 fn fd fe [])/\Ext w w':=by
 obtain ⟨k1,hk1⟩:∃ k:Int,1=k:=⟨_,rfl⟩;obtain ⟨t1,ht1⟩:∃ t:List UInt8,[]=t:=⟨_,rfl⟩;have CE:Hid (∀ W,Calls Tryz.prog 212 #[valV k1 n d e t1] W fun r w'=>r=.returned (.bool false)/\Ext W w'):=fun W=>by
  have h:=isErrD k1 n d e t1 W;rw [<- hk1] at h ⊢;exact h
 have CR:Hid (∀ W,Ext w W->Calls Tryz.prog 74 #[decV n d e,iQ 0,iQ m] W fun r w'=>r=.returned (resV ⟨true,fn,fd,fe⟩)/\Ext W w'):=fun W X=>by rw [<- hR];exact zRC n d e 0 m W (by omega) (by omega) (hT.l X)
 have CP:Hid (∀ W,Calls Tryz.prog 213 #[resV ⟨true,fn,fd,fe⟩] W fun rr w'=>rr=.returned (valV k1 fn fd fe t1)/\Ext W w'):=fun W=>by rw [<- hk1,<- ht1];exact putVD fn fd fe W
 rw [hk1,ht1];obtain ⟨u0,u1,h0,h1,s0,s1,B0,B1,X⟩:=mkB2 w (valL k1 n d e t1) [iQ 0,.bool false,iQ 0,iQ 0,sV []] 33 33;have c0:=vC5 B0;clear hk1 ht1 hT hR;go_enter Tryz.func180,Tryz.ntmps180;go_wp2_with fail;refine (CE.out _).mono ?_;rintro r w2 ⟨rfl,e2⟩;have c1:=vC5 (B0.l e2);clear h0 s0 h1 s1 c0;go_wp2_with fail;refine (CR.out _ (xt X e2)).mono ?_;rintro r w3 ⟨rfl,e3⟩;go_wp2_with fail;refine (CP.out _).mono ?_;rintro r w4 ⟨rfl,e4⟩;have E4:=xt e2 (xt e3 e4);obtain ⟨wy,hy,FX,⟨b0,b1,b2,b3,b4⟩,⟨fb0,fb1,fb2,fb3,fb4⟩,fd0,fd1,fd2,fd3,fd4⟩:=fin5 (B1.l E4) (xt X E4) (by omega) k1 fn fd fe t1;clear c1 B0 B1;go_wp2_with fail;exact bodyPost_ret (v:=valV k1 fn fd fe t1) (by simp [results,Tryz.results180,go_sem,fd0,fd1,fd2,fd3,fd4]) rfl ⟨rfl,FX⟩
theorem cutVI (n:Bool) (d e:Int) (fn:Bool) (fd fe:Int) (w:World) (a0:0<=d) (a1:d<1000000000000000) (hT:Tens w) (hR:zAB n d e 0 2=⟨true,fn,fd,fe⟩) :
  Calls Tryz.prog 181 #[valV 1 n d e []] w fun r w'=>r=.returned (valV 1 fn fd fe [])/\Ext w w':=by
 have CR:Hid (∀ W,Ext w W->Calls Tryz.prog 180 #[valV 1 n d e [],iQ 0,iQ 2] W fun r w'=>r=.returned (valV 1 fn fd fe [])/\Ext W w'):=fun W X=>zRE n d e 2 fn fd fe W a0 a1 (hT.l X) hR;obtain ⟨k1,hk1⟩:∃ k:Int,1=k:=⟨_,rfl⟩;obtain ⟨t1,ht1⟩:∃ t:List UInt8,[]=t:=⟨_,rfl⟩;rw [hk1,ht1] at CR ⊢;obtain ⟨u0,u1,h0,h1,s0,s1,B0,B1,X⟩:=mkB2 w (valL k1 n d e t1) [iQ 0,.bool false,iQ 0,iQ 0,sV []] 33 33;have c0:=vC5 B0;clear hk1 ht1 hT hR;go_enter Tryz.func181,Tryz.ntmps181;go_wp2_with fail;refine (CR.out _ X).mono ?_;rintro r w4 ⟨rfl,e4⟩;obtain ⟨wy,hy,FX,⟨b0,b1,b2,b3,b4⟩,⟨fb0,fb1,fb2,fb3,fb4⟩,fd0,fd1,fd2,fd3,fd4⟩:=fin5 (B1.l e4) (xt X e4) (by omega) k1 fn fd fe t1;clear h0 s0 h1 s1 c0 B0 B1;go_wp2_with fail;exact bodyPost_ret (v:=valV k1 fn fd fe t1) (by simp [results,Tryz.results181,go_sem,fd0,fd1,fd2,fd3,fd4]) rfl ⟨rfl,FX⟩
theorem floorVI (n:Bool) (d e:Int) (fn:Bool) (fd fe:Int) (w:World) (a0:0<=d) (a1:d<1000000000000000) (hT:Tens w) (hR:zAL n d e=⟨true,fn,fd,fe⟩) :
  Calls Tryz.prog 125 #[valV 1 n d e []] w fun r w'=>r=.returned (valV 1 fn fd fe [])/\Ext w w':=by
 have CR:Hid (n=true->∀ W,Ext w W->Calls Tryz.prog 180 #[valV 1 n d e [],iQ 0,iQ 3] W fun r w'=>r=.returned (valV 1 fn fd fe [])/\Ext W w'):=fun hn W X=>zRE n d e 3 fn fd fe W a0 a1 (hT.l X) (by unfold zAL at hR;rw [if_pos hn] at hR;exact hR);have CC:Hid (n=false->∀ W,Ext w W->Calls Tryz.prog 181 #[valV 1 n d e []] W fun r w'=>r=.returned (valV 1 fn fd fe [])/\Ext W w'):=fun hn W X=>cutVI n d e fn fd fe W a0 a1 (hT.l X) (by unfold zAL at hR;rw [if_neg (by rw [hn];decide)] at hR;exact hR);obtain ⟨k1,hk1⟩:∃ k:Int,1=k:=⟨_,rfl⟩;obtain ⟨t1,ht1⟩:∃ t:List UInt8,[]=t:=⟨_,rfl⟩;rw [hk1,ht1] at CR CC ⊢;obtain ⟨u0,u1,h0,h1,s0,s1,B0,B1,X⟩:=mkB2 w (valL k1 n d e t1) [iQ 0,.bool false,iQ 0,iQ 0,sV []] 33 33;have c0:=vC5 B0;clear hk1 ht1 hT hR;cases n
 ·have C:=hid (CC.out rfl);clear CR CC;go_enter Tryz.func125,Tryz.ntmps125;go_wp2_with fail;refine (C.out _ X).mono ?_;rintro r w4 ⟨rfl,e4⟩;obtain ⟨wy,hy,FX,⟨b0,b1,b2,b3,b4⟩,⟨fb0,fb1,fb2,fb3,fb4⟩,fd0,fd1,fd2,fd3,fd4⟩:=fin5 (B1.l e4) (xt X e4) (by omega) k1 fn fd fe t1;clear h0 s0 h1 s1 c0 B0 B1;go_wp2_with fail;exact bodyPost_ret (v:=valV k1 fn fd fe t1) (by simp [results,Tryz.results125,go_sem,fd0,fd1,fd2,fd3,fd4]) rfl ⟨rfl,FX⟩
 ·have C:=hid (CR.out rfl);clear CR CC;go_enter Tryz.func125,Tryz.ntmps125;go_wp2_with fail;refine (C.out _ X).mono ?_;rintro r w4 ⟨rfl,e4⟩;obtain ⟨wy,hy,FX,⟨b0,b1,b2,b3,b4⟩,⟨fb0,fb1,fb2,fb3,fb4⟩,fd0,fd1,fd2,fd3,fd4⟩:=fin5 (B1.l e4) (xt X e4) (by omega) k1 fn fd fe t1;clear h0 s0 h1 s1 c0 B0 B1;go_wp2_with fail;exact bodyPost_ret (v:=valV k1 fn fd fe t1) (by simp [results,Tryz.results125,go_sem,fd0,fd1,fd2,fd3,fd4]) rfl ⟨rfl,FX⟩
def zDJ (cal day y m d:Int):Prop:=if (cal=1\/cal=2) /\ -1000000<=day/\day<=1000000 then IsDt cal day y m d /\ -20000<=y/\y<=20000 else y=0/\m=0/\d=0
theorem DateOfI (cal day:Int) (w:World) (hM:zCJ w) (hC:Cals w) :
  Calls Tryz.prog 129 #[iQ cal,iQ day] w fun e w'=>∃ y m d,e=.returned (.agg #[iQ y,iQ m,iQ d])/\zDJ cal day y m d/\Ext w w':=by
 have X0:=x1 w (.cells #[iQ 0,iQ 0,iQ 0] 121);have B:=Box3.made w (iQ 0) (iQ 0) (iQ 0) 121;have C1:=fun w=>calI cal w;have C2:=fun w=>dayI day w;have M1:=hM.l X0;have K1:=hC.l X0;clear hM hC;by_cases hc:cal=1\/cal=2
 ·by_cases hd : -1000000<=day/\day<=1000000
  ·have HR:Hid (∀ y m d,IsDt cal day y m d /\ -20000<=y/\y<=20000->zDJ cal day y m d):=fun y m d h=>by unfold zDJ;rw [if_pos ⟨hc,hd⟩];exact h
   have D:=dateAtI cal day _ M1 K1 hc (by omega) (by omega);simp only [hc,hd,and_self,decide_true] at C1 C2;clear hc hd M1 K1;go_enter Tryz.func129,Tryz.ntmps129;go_wp2_with (first | (go_at_call 182;refine (C1 _).mono ?_;rintro e w' ⟨rfl,rfl⟩) | (go_at_call 128;refine (C2 _).mono ?_;rintro e w' ⟨rfl,rfl⟩) | (go_at_call 183;refine D.mono ?_;rintro e w1 ⟨y,m,d,rfl,hr,e1⟩;obtain ⟨⟨r0,r1,r2⟩,s0,s1,s2⟩:=B.l e1));exact bodyPost_ret (v:=.agg #[iQ y,iQ m,iQ d]) (by simp [results,Tryz.results129,go_sem,r0,r1,r2]) rfl ⟨y,m,d,rfl,HR.out y m d hr,xset (xset (xset (xt X0 e1) (Nat.le_refl _) _) (Nat.le_refl _) _) (Nat.le_refl _) _⟩
  ·have HR:Hid (zDJ cal day 0 0 0):=by show zDJ _ _ _ _ _;unfold zDJ;rw [if_neg (fun h=>hd h.2)];exact ⟨rfl,rfl,rfl⟩
   simp only [hc,hd,decide_true,decide_false] at C1 C2;clear hc hd M1 K1;go_enter Tryz.func129,Tryz.ntmps129;go_wp2_with (first | (go_at_call 182;refine (C1 _).mono ?_;rintro e w' ⟨rfl,rfl⟩) | (go_at_call 128;refine (C2 _).mono ?_;rintro e w' ⟨rfl,rfl⟩));exact bodyPost_ret (v:=.agg #[iQ 0,iQ 0,iQ 0]) (by simp [results,Tryz.results129,go_sem]) rfl ⟨0,0,0,rfl,HR.out,by first | exact X0 | exact xset (xset (xset X0 (Nat.le_refl _) _) (Nat.le_refl _) _) (Nat.le_refl _) _⟩
 ·have HR:Hid (zDJ cal day 0 0 0):=by show zDJ _ _ _ _ _;unfold zDJ;rw [if_neg (fun h=>hc h.1)];exact ⟨rfl,rfl,rfl⟩
  simp only [hc,decide_false] at C1;clear hc M1 K1;go_enter Tryz.func129,Tryz.ntmps129;go_wp2_with (first | (go_at_call 182;refine (C1 _).mono ?_;rintro e w' ⟨rfl,rfl⟩));exact bodyPost_ret (v:=.agg #[iQ 0,iQ 0,iQ 0]) (by simp [results,Tryz.results129,go_sem]) rfl ⟨0,0,0,rfl,HR.out,by first | exact X0 | exact xset (xset (xset X0 (Nat.le_refl _) _) (Nat.le_refl _) _) (Nat.le_refl _) _⟩
end Go.Proofs.YtjlojlgdkfpcdaaGreatDoor

