import Derived.Test.YteliaeejooekbaaGreatDoorMg14
import Derived.Test.YteliaeejooekbaaGreatDoorMg15
import Derived.Test.YteliaeejooekbaaGreatDoorMg40
import Derived.Test.YteliaeejooekbaaGreatDoorMg41
import Derived.Test.YteliaeejooekbaaGreatDoorMg49
set_option maxRecDepth 8000
set_option maxHeartbeats 16000000
namespace Go.Proofs.YteliaeejooekbaaGreatDoor
open Go.RowKit
theorem zOG (v:Value) (n:Nat) (w:World) (h:zD2 w w.heap.size v n) (hW:WdT w) :
  Calls Tryz.prog 3 #[v] w fun e w'=>e=.returned (.bool true)/\Ext w w':=by
 obtain ⟨p,cap,rfl⟩:∃ p cap,v=.slice p n cap:=by
  rcases h with ⟨⟨p,cap,rfl⟩,rfl⟩ | ⟨pb,po,cap,_,rfl,_⟩
  ·exact ⟨_,_,rfl⟩
  ·exact ⟨_,_,rfl⟩
 by_cases hb:(1048576:Int)<n
 ·go_enter Tryz.func3,Tryz.ntmps3;go_wp2_with fail;go_ret;exact ⟨rfl,xr _⟩
 have hb1:¬ (1048576:Int)<n:=hb;have D1:=zMM _ n w h (by omega);have HW:Hid (∀ W,Ext w W->WdT W):=fun W x=>hW.k x;have HDT:Hid (∀ W,Ext w W->Calls Tryz.prog 9 #[.slice p n cap] W fun e w'=>zPX W e w'):=fun W x=>zMN _ n W (h.laterT x) (by omega);have HDF:Hid (∀ W,Ext w W->Calls Tryz.prog 14 #[.slice p n cap] W fun e w'=>zFY W e w'):=fun W x=>zMO _ n W (h.laterT x) (by omega);clear h hW;go_enter Tryz.func3,Tryz.ntmps3;go_wp2_with fail;refine D1.mono ?_;rintro e w1 ⟨⟨tk,ta,tm,td,s,d,hh,kk,rfl⟩,e1⟩;clear D1;have HS:Hid (∀ w,Calls Tryz.prog 7 #[tuV tk ta tm td,refV s d hh kk] w fun e w'=>e=.returned (trB tk ta tm td s d hh kk)/\Ext w w'):=fun w=>zVC tk ta tm td s d hh kk w;have HI:Hid (∀ w,Calls Tryz.prog 6 #[tuV tk ta tm td,refV s d hh kk] w fun e w'=>e=.returned (trB tk ta tm td s d hh kk)/\Ext w w'):=fun w=>zVD tk ta tm td s d hh kk w;have HB:Hid (∀ w,Calls Tryz.prog 8 #[tuV tk ta tm td] w fun e w'=>e=.returned (zKG tk ta tm td)/\Ext w w'):=fun w=>backI tk ta tm td w;obtain ⟨w2,h2,X1,M1,s1⟩:=zAC w1 [iQ tk,iQ ta,iQ tm,.bool td] 24;have H2:Hid _:=h2;obtain ⟨w3,h3,X2,M2,-⟩:=zAC w2 [iQ s,iQ d,.bool hh,.bool kk] 26;have H3:Hid _:=h3;rw [s1] at M2;have M1:=M1.l X2;have X3:=xt (xt e1 X1) X2;clear h2 h3 X1 X2 s1 e1;have a0:=vC4 M1;have b0:=vC4 M2;obtain ⟨n1,n2,n3,n4,q,hq⟩:=zN3 tk ta tm td s d hh kk;have HQ:Hid _:=hq;rw [hq] at HS HI;clear hq;go_wp2_with fail;rw [H2.out,H3.out];refine (HI.out w3).mono ?_;rintro e w4 ⟨rfl,e4⟩;have X4:=xt X3 e4;have M1:=M1.l e4;have M2:=M2.l e4;obtain ⟨w5,h5,X5,M3,-⟩:=zAC w4 [iQ n1,iQ n2,.bool n3,.bool n4] 26;have H5:Hid _:=h5;have M1:=M1.l X5;have M2:=M2.l X5;have X5:=xt X4 X5;clear a0 b0 h5 X3 X4 e4 H2 H3;obtain ⟨gA,hgA⟩:=nm (w1.heap.size);obtain ⟨gX,hgX⟩:=nm (w4.heap.size);have HGA:Hid _:=hgA;have HGX:Hid _:=hgX;rw [hgA] at M1 M2;rw [hgX] at M3;clear hgA hgX;have a0:=vC4 M1;have b0:=vC4 M2;go_upto_region 5 with fail;rw [HGA.out,H5.out]
 (try rw [HGX.out])
 go_wp2_with fail;refine (HS.out w5).mono ?_;rintro e w6 ⟨rfl,e6⟩;have X6:=xt X5 e6;have M1:=M1.l e6;have M2:=M2.l e6;have M3:=M3.l e6;obtain ⟨w7,h7,X7,M4,-⟩:=zAC w6 [iQ n1,iQ n2,.bool n3,.bool n4] 26;have H7:Hid _:=h7;have M1:=M1.l X7;have M2:=M2.l X7;have M3:=M3.l X7;have X7:=xt X6 X7;clear a0 b0 h7 X5 X6 e6 H5 HS;obtain ⟨gY,hgY⟩:=nm (w6.heap.size);have HGY:Hid _:=hgY;rw [hgY] at M4;clear hgY;have x0:=vC4 M3;have y0:=vC4 M4;have hrs:=fun W=>zL1 n1 n2 n3 n4 W;go_upto_region 6 with fail;rw [H7.out]
 (try rw [HGY.out])
 go_upto_region 8 with fail;clear hrs x0 y0 M4 H7 HGY;obtain ⟨G,hG⟩:=nm ((zBB tk ta tm td && zBB tk ta tm (!td)));obtain ⟨bk,ba,bm,bd,hbk⟩:=zKF tk ta tm td;have HGT:Hid ((G=true->bk ≠ 0/\(q=true->trB bk ba bm bd n1 n2 n3 n4=.tuple #[refV s d hh kk,.bool true]))/\(G=false->bk=0/\ba=0/\bm=0/\bd=false)):=by
  show _/\_;unfold zKG at hbk;constructor
  ·intro hg;rw [hg,Bool.and_eq_true] at hG;rw [if_pos hG] at hbk;simp only [Value.agg.injEq,Array.mk.injEq,List.cons.injEq,Value.int.injEq,Value.bool.injEq,and_true,true_and] at hbk;obtain ⟨rfl,rfl,rfl,rfl⟩:=hbk;refine ⟨?_,fun hq=>?_⟩
   ·intro h0;have:=hG.1;unfold zBB at this;rw [decide_eq_true_eq] at this;omega
   ·subst hq;exact zQ2 HQ.out hG.2
  ·intro hg;rw [hg] at hG;rw [if_neg (fun h=>by rw [h.1,h.2] at hG;cases hG)] at hbk;simp only [Value.agg.injEq,Array.mk.injEq,List.cons.injEq,Value.int.injEq,Value.bool.injEq,and_true,true_and] at hbk;obtain ⟨rfl,rfl,rfl,rfl⟩:=hbk;exact ⟨rfl,rfl,rfl,rfl⟩
 rw [hbk] at HB;clear hG hbk HI;have HI:Hid (∀ w,Calls Tryz.prog 6 #[tuV bk ba bm bd,refV n1 n2 n3 n4] w fun e w'=>e=.returned (trB bk ba bm bd n1 n2 n3 n4)/\Ext w w'):=fun w=>zVD bk ba bm bd n1 n2 n3 n4 w;have a0:=vC4 M1;go_wp2_with fail;refine (HB.out w7).mono ?_;rintro e w8 ⟨rfl,e8⟩;have X8:=xt X7 e8;have M2:=M2.l e8;have M3:=M3.l e8;obtain ⟨w9,h9,X9,M4,-⟩:=zAC w8 [iQ bk,iQ ba,iQ bm,.bool bd] 24;have H9:Hid _:=h9;have M2:=M2.l X9;have M3:=M3.l X9;have X9:=xt X8 X9;clear a0 h9 X7 X8 e8 M1 HB;obtain ⟨gB,hgB⟩:=nm (w8.heap.size);have HGB:Hid _:=hgB;rw [hgB] at M4;clear hgB;go_upto_region 9 with fail;rw [H9.out]
 (try rw [HGB.out])
 have k0:=vC4 M4;go_cut [54] (fun s wc=>s=.bool (q && G)/\wc=w9)
 case first =>
  clear HI;cases q
  ·go_wp2_with fail;go_meet
   case rel=>exact ⟨rfl,rfl⟩
  ·cases G
   ·obtain ⟨rfl,rfl,rfl,rfl⟩:=HGT.out.2 rfl;go_wp2_with fail;go_meet
    case rel=>exact ⟨rfl,rfl⟩
   ·have hk:(bk == 0)=false:=(by have:=(HGT.out.1 rfl).1;simp;exact this);go_wp2_with fail;go_meet
    case rel=>exact ⟨rfl,rfl⟩
 case rest =>
 obtain ⟨J,hJ⟩:=nm ((q && G));have HJ:Hid _:=hJ;rw [hJ] at hcut;obtain ⟨rfl,hwc⟩:=hcut;rw [hwc];clear hwc H9 HGB hJ;go_upto_if 54 with fail;go_cut [] (fun wz=>Ext w wz)
 case first =>
  cases J
  ·clear k0;go_wp2_with fail;go_meet
   case rel=>exact X9
  ·have hqG:q=true/\G=true:=by have:=HJ.out;rwa [Bool.and_eq_true] at this
   rw [(HGT.out.1 hqG.2).2 hqG.1] at HI;clear hqG;have x0:=vC4 M3;go_wp2_with fail;refine (HI.out w9).mono ?_;rintro e wa ⟨rfl,ea⟩;have Xa:=xt X9 ea;have M2:=M2.l ea;clear x0 k0 M4 M3 HI;obtain ⟨wb,hwb,Xb,M5,-⟩:=zAC wa [iQ s,iQ d,.bool hh,.bool kk] 26;have HWB:Hid _:=hwb;have M2:=M2.l Xb;have Xb:=xt Xa Xb;clear hwb Xa ea X9;have z0:=vC4 M5;have r0:=vC4 M2;have hrs:=fun W=>zL1 s d hh kk W;go_upto_region 11 with fail;rw [HWB.out];go_wp2_with fail;go_meet
   case rel=>exact Xb
 case rest =>
 clear X9 M2 M3 M4 k0 HI HGT
 rename World=>wz
 rename (Ext w wz)=>XZ
 clear HQ HJ;go_upto_region 13 with fail;go_wp2_with fail;refine (HDT.out wz XZ).mono ?_;rintro e w1 ⟨⟨uk,ua,um,ud,q2,cp,fl,rfl,hN,hF⟩,e1⟩;clear HDT;have XA:=xt XZ e1;obtain ⟨w2,h2,X1,M1,-⟩:=zAC w1 [iQ uk,iQ ua,iQ um,.bool ud] 24;have H2:Hid _:=h2;have XB:=xt XA X1;have hN:=hN.l X1;clear h2 e1 XA X1 XZ;have HTI:Hid (∀ W,Ext w2 W->Calls Tryz.prog 10 #[.agg #[iQ uk,iQ ua,iQ um,.bool ud],.slice q2 fl.length cp] W fun e w'=>zB2 (zDC uk ua um ud fl) W e w'):=fun W x=>by
  have hW:=HW.out W (xt XB x);exact zV0 uk ua um ud _ fl W (hN.l x) hF.1 (by have:=hF.2;omega) hW.t hW.e hW.o hW.l hW.i
 have HTS:Hid (∀ W,Ext w2 W->Calls Tryz.prog 12 #[.agg #[iQ uk,iQ ua,iQ um,.bool ud],.slice q2 fl.length cp] W fun e w'=>zB2 (zDC uk ua um ud fl) W e w'):=fun W x=>zUZ uk ua um ud _ fl W (hN.l x) (fun x hx=>(hF.1 x hx).1);obtain ⟨l,hl⟩:=nm (zDC uk ua um ud fl);have hfit:=zLW uk ua um ud hF.1;have hgd:zDC uk ua um ud fl ≠ []->zAS NT.good (zDC uk ua um ud fl)=true:=zLV uk ua um ud fl;rw [hl] at HTI HTS hfit hgd;have hl9:l.length<=900:=by have:=hF.2;omega
 have HFT:Hid (∀ x ∈ l,x.t.length<=1048576):=fun x hx=>(hfit.1 x hx).1;obtain ⟨lm,hlm⟩:=nm (l.length);have HLM:Hid _:=hlm;have HGD:Hid (0<lm->zAS NT.good l=true):=fun h0=>hgd (fun e=>by rw [e] at hlm;simp at hlm;omega);obtain ⟨flm,hflm⟩:=nm (fl.length);rw [hflm] at HTI HTS;have HFLM:Hid _:=hflm;rw [hlm] at hl9;clear hl hfit hgd hlm hflm hN hF;have a0:=vC4 M1;go_upto_region 14 with fail;rw [H2.out,HFLM.out];go_wp2_with fail;refine (HTI.out w2 (xr _)).mono ?_;intro e w3 hp;obtain ⟨p3,c3,rfl,N3,e3⟩:=zCI hp;have HZ:Hid (∀ W p4 c4,Ext w3 W->zAI W (.slice p4 lm c4) l->Calls Tryz.prog 11 #[.slice p3 lm c3,.slice p4 lm c4] W fun e w'=>e=.returned (.bool true)/\Ext W w'):=fun W p4 c4 x h=>zSJ _ _ l W (by have:=N3.l x;rw [HLM.out] at this;exact this) h (by have:=HLM.out;omega);have HGF:Hid (∀ W,Ext w3 W->Calls Tryz.prog 13 #[.slice p3 lm c3] W fun e w'=>e=.returned (.bool (zAS NT.good l))/\Ext W w'):=fun W x=>zOW _ l W (by have:=N3.l x;rw [HLM.out] at this;exact this) HFT.out;rw [HLM.out];clear N3 HFT;have M1:=M1.l e3;have X3:=xt XB e3;clear a0 H2 hp HTI;have a0:=vC4 M1;have HTS:=HTS.out w3 e3;go_upto_region 15 with fail;go_cut [91] (fun s wc=>s=.bool false/\Ext w3 wc)
 case first =>
  go_wp2_with fail;refine HTS.mono ?_;intro e w4 hp;obtain ⟨p4,c4,rfl,N4,e4⟩:=zCI hp;clear a0 hp M1;rw [HLM.out] at N4 ⊢;have CZ:=HZ.out w4 p4 c4 e4 N4;clear N4 HZ;go_wp2_with fail;refine CZ.mono ?_;rintro e w5 ⟨rfl,e5⟩;have e45:=xt e4 e5;have CG:=HGF.out w5 e45;clear CZ HGF;by_cases h0:0<lm
  ·rw [HGD.out h0] at CG;have h0':(0:Int)<(lm:Int):=by omega
   clear HGD;go_wp2_with fail;refine CG.mono ?_;rintro e w6 ⟨rfl,e6⟩;go_wp2_with fail;go_meet
   case rel=>exact ⟨rfl,xt e45 e6⟩
  ·obtain rfl:lm=0:=by omega
   clear HGD CG;go_wp2_with fail;go_meet
   case rel=>exact ⟨rfl,e45⟩
 case rest =>
 obtain ⟨rfl,XC⟩:=hcut;have XW:=xt X3 XC;clear XC X3 XB HZ HGF HTS a0 M1 HGD HLM HFLM
 rename World=>w7
 rename (Ext w w7)=>X7
 go_upto_region 17 with fail;go_wp2_with fail;refine (HDF.out w7 X7).mono ?_;rintro e w8 ⟨⟨q8,c8,hf,rows,cols,rfl,hr,hc,hN,hF⟩,e8⟩;have X8:=xt X7 e8;clear HDF e8;have HK:Hid (∀ W (g:List NT) (pg:Option Addr) (cg:Nat) (r c:Int),Ext w8 W->zAI W (.slice pg g.length cg) g->(∀ x ∈ g,x.fits)->g.length<=900->Calls Tryz.prog 15 #[.slice pg g.length cg,iQ r,iQ c] W fun e w'=>zB2 (zCD r c g) W e w'):=fun W g pg cg r c x hg hfg hl=>by
  have hW:=HW.out W (xt X8 x);exact fillFI r c _ g W hg hfg (by omega) hW.t hW.e hW.o hW.l hW.i
 have CI:=HK.out w8 hf q8 c8 rows cols (xr _) hN hF.1 hF.2;have HFS:Hid (∀ W,Ext w8 W->Calls Tryz.prog 16 #[.slice q8 hf.length c8,iQ rows,iQ cols] W fun e w'=>zB2 (zCD rows cols hf) W e w'):=fun W x=>fillFS rows cols _ hf W (hN.l x) (fun x hx=>(hF.1 x hx).1);have hfit:=zMJ rows cols hF.1;have HFB:Hid (zCD rows cols hf ≠ []->zD3 (zCD rows cols hf)=false->zCD (-rows) (-cols) (zCD rows cols hf)=hf):=fun h1 h2=>zP6 rows cols hf h1 h2;obtain ⟨k,hk⟩:=nm (zCD rows cols hf);rw [hk] at CI HFS hfit HFB;have HN8:Hid (zAI _ _ _):=hN;obtain ⟨hm,hhm⟩:=nm (hf.length);have HHM:Hid _:=hhm;obtain ⟨km,hkm⟩:=nm (k.length);have HKM:Hid _:=hkm;rw [hhm] at CI HFS HN8 ⊢;have hk9:km<=900:=by have:=hF.2;omega
 have hh9:hf.length<=900:=hF.2;have HKF:Hid (∀ x ∈ k,x.fits):=hfit.1;clear hk hhm hkm hN hF hfit;have jr:IntKind.i64.wrap (-rows) = -rows:=by rw [IntKind.wrap_i64];omega
 have jc:IntKind.i64.wrap (-cols) = -cols:=by rw [IntKind.wrap_i64];omega
 go_wp2_with fail;refine CI.mono ?_;intro e w9 hp;obtain ⟨p9,c9,rfl,N9,e9⟩:=zCI hp;have N9':Hid (zAI w9 (.slice p9 k.length c9) k):=N9;rw [HKM.out] at N9' ⊢;clear hp CI N9;have X9:=xt X8 e9;have CS:=HFS.out w9 e9;go_wp2_with fail;refine CS.mono ?_;intro e wa hp;obtain ⟨pa,ca,rfl,Na,ea⟩:=zCI hp;rw [HKM.out] at Na ⊢;have CZ:=zSJ (.slice p9 km c9) (.slice pa km ca) k wa (N9'.out.l ea) Na (by have:=HKM.out;omega);have Xa:=xt X9 ea;have Na':=N9'.out.l ea;clear hp CS HFS Na N9';go_wp2_with fail;refine CZ.mono ?_;rintro e wb ⟨rfl,eb⟩;have Xb:=xt Xa eb;have Nb':=Na'.l eb;have E8b:Ext w8 wb:=xt (xt e9 ea) eb;clear CZ Na' Xa X9 X8 e9 ea eb;go_upto_region 21 with fail;by_cases h0:km=0
 ·subst h0;go_wp2_with fail;go_ret;exact ⟨rfl,Xb⟩
 ·have hk0:(km == 0)=false:=by simp;exact h0
  have hkz:((km:Int) == 0)=false:=by simp;exact h0
  have CG:=goneS6 (.slice p9 km c9) k wb Nb' (by have:=HKM.out;omega);obtain ⟨G,hG⟩:=nm (zD3 k);have HG:Hid _:=hG;rw [hG] at CG;clear hG;cases G
  ·have HB:zCD (-rows) (-cols) k=hf:=HFB.out (fun e=>by have:=HKM.out;rw [e] at this;exact h0 this.symm) HG.out;have HN8':Hid (∀ W,Ext w8 W->zAI W (.slice q8 hm c8) hf):=fun W x=>HN8.out.l x;have CK:Hid (∀ W,Ext wb W->Calls Tryz.prog 15 #[.slice p9 km c9,iQ (-rows),iQ (-cols)] W fun e w'=>zB2 hf W e w'):=fun W x=>by
    have:=HK.out W k p9 c9 (-rows) (-cols) (xt E8b x) (by rw [HKM.out];exact Nb'.l x) HKF.out (by rw [HKM.out];exact hk9);rw [HKM.out,HB] at this;exact this
   clear HB HFB HK HKF hkz hk0;go_wp2_with fail;refine CG.mono ?_;rintro e wc ⟨rfl,ec⟩;have Xc:=xt Xb ec;have CK:=CK.out wc ec;clear CG;go_wp2_with fail;refine CK.mono ?_;intro e wd hp;obtain ⟨pd,cd,rfl,Nd,ed⟩:=zCI hp;rw [HHM.out] at Nd ⊢;have CZ:=zSJ (.slice pd hm cd) (.slice q8 hm c8) hf wd Nd (HN8'.out wd (xt E8b (xt ec ed))) (by omega);have Xd:=xt Xc ed;clear CK hp Nd;go_wp2_with fail;refine CZ.mono ?_;rintro e we ⟨rfl,ee⟩;go_wp2_with fail;go_ret;exact ⟨rfl,xt Xd ee⟩
  ·clear HFB HK HKF hkz hk0;go_wp2_with fail;refine CG.mono ?_;rintro e wc ⟨rfl,ec⟩;go_wp2_with fail;go_ret;exact ⟨rfl,xt Xb ec⟩
end Go.Proofs.YteliaeejooekbaaGreatDoor
