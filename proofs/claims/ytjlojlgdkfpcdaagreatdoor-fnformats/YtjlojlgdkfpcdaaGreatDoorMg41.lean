/-
  Several texts in one: Sd5, Sd7.
-/
import Derived.Test.YtjlojlgdkfpcdaaGreatDoorMg40
import Derived.Test.YtjlojlgdkfpcdaaGreatDoorMg18
import Derived.Test.YtjlojlgdkfpcdaaGreatDoorMg20
import Derived.Test.YtjlojlgdkfpcdaaGreatDoorSuA
import Derived.Test.YtjlojlgdkfpcdaaGreatDoorMg34
import Derived.Test.YtjlojlgdkfpcdaaGreatDoorMg1
import Derived.Test.YtjlojlgdkfpcdaaGreatDoorMg22
import Derived.Test.YtjlojlgdkfpcdaaGreatDoorMg23
set_option maxRecDepth 8000
set_option maxHeartbeats 8000000
namespace Go.Proofs.YtjlojlgdkfpcdaaGreatDoor
open Go.RowKit
theorem zUV {wh p d k:Nat} (hw:1<=wh) (hk:d=0->k=p):padZ (wh+p) (Lib.decDigits d++List.replicate k 48)=padZ (wh+p) (padZ (p+1) (digZ d k)):=by
 unfold digZ;by_cases h:d=0
 ·rw [if_pos h,h,Lib.decDigits_one (by decide),hk h];have e1:[UInt8.ofNat (48+0)]++List.replicate p 48=List.replicate (p+1) (48:UInt8):=by rw [List.replicate_succ];rfl
  have e2:padZ (p+1) [48]=List.replicate (p+1) (48:UInt8):=by
   unfold padZ;rw [List.replicate_succ',List.length_singleton,Nat.add_sub_cancel]
  rw [e1,e2]
 ·rw [if_neg h,zUW]
  congr 1
  omega
theorem zMA (a:Nat) (l:BLs):a<=(padZ a l).length:=by rw [zD4];omega
theorem zSB {wh p d k:Nat} (hw:1<=wh) (hk:d=0->k=p) :
  zCI p (padZ (wh+p) (Lib.decDigits d++List.replicate k 48))=padZ wh (zCI p (padZ (p+1) (digZ d k)))/\zF8 p (padZ (wh+p) (Lib.decDigits d++List.replicate k 48))=zF8 p (padZ (p+1) (digZ d k)):=by
 rw [zUV hw hk];have h:=zMA (p+1) (digZ d k);exact ⟨zU0 wh p _ (by omega),zVH wh p _ (by omega)⟩
theorem zSX (p:Nat) (l:BLs) (h:p<=l.length):(zF8 p l).length=p:=by
 unfold zF8;rw [List.length_drop];omega
theorem itoaZ {w0:World} (IT:zD2 w0) (n:Int) (w:World) (h0:0<=n) (h1:n<1000000000000000) (X:Ext w0 w) :
  Calls Tryz.prog 138 #[iQ n] w fun e w'=>e=.returned (sV (Lib.decDigits n.toNat))/\Ext w w':=by
 refine (IT n w (by omega) h1 X).mono ?_;rintro e w' ⟨s,rfl,hs,e1⟩;refine ⟨?_,e1⟩;have:Lib.itoa n=Lib.decDigits n.toNat:=by unfold Lib.itoa;rw [if_neg (by omega)]
 rw [this] at hs;rw [bsZ hs]
theorem repZ (c:UInt8) (n:Nat) (hn:n<=1000) (w:World) :
  Calls Tryz.prog 45 #[sV [c],iQ (n:Int)] w fun e w'=>e=.returned (sV (List.replicate n c))/\Ext w w':=by
 rw [<- zJL];exact zG7 c n hn w
theorem zV9 (wh p L:Nat) (h1:wh<=9) (h2:p<=18) (h3:L<=340):max (wrap64 (wrap64 ((wh:Int)+(p:Int)) - (L:Int))) 0=((wh+p - L:Nat):Int):=by
 have e1:wrap64 ((wh:Int)+(p:Int))=(wh:Int)+(p:Int):=by unfold wrap64;omega
 have e2:wrap64 ((wh:Int)+(p:Int) - (L:Int))=(wh:Int)+(p:Int) - (L:Int):=by unfold wrap64;omega
 rw [e1,e2];omega
theorem zUM (ng:Bool) (bf af dt:BLs) (wh pl mb tm:Nat) (gr n:Bool) (d e:Int) (w0 w:World) (IT:zD2 w0) (X0:Ext w0 w) (hw1:1<=wh/\wh<=9) (hpl:pl<=9) (hmb:mb<=9) (htm:tm<=3) (hg:zA1 n d e=true) (he:0<=e+((pl+mb:Nat):Int)) :
  Calls Tryz.prog 75 #[.agg #[.bool ng,sV bf,sV af,iQ wh,iQ pl,iQ mb,.bool gr,iQ tm,sV dt],decV n d e] w
   fun r w'=>r=.returned (sV (if n=true then 45 :: zBN wh pl mb gr tm d e else zBN wh pl mb gr tm d e))/\Ext w w':=by
 obtain ⟨g0,g1,g2,g3,g4,-⟩:=zAN hg;obtain ⟨p,hp⟩:=nm (pl+mb);obtain ⟨k,hk⟩:∃ k:Nat,e+(p:Int)=k:=⟨(e+(p:Int)).toNat,by rw [<- hp];omega⟩;have hk3:k<=318:=by omega
 have hkp:d.toNat=0->k=p:=fun h=>by have:=(g4 (by omega)).1;omega
 have hX:=zSB (wh:=wh) (p:=p) (d:=d.toNat) (k:=k) hw1.1 hkp;have hS:zBN wh pl mb gr tm d e=numZ wh pl mb gr tm (padZ (p+1) (digZ d.toNat k)):=by
  unfold zBN;rw [hp];have:(e+(p:Int)).toNat=k:=by omega
  rw [this]
 have hXl:=zMA (p+1) (digZ d.toNat k);have hdl:=zMP g0 g1 k;have hXu:(padZ (p+1) (digZ d.toNat k)).length<=400:=by rw [zD4];omega
 obtain ⟨X,hXX⟩:=nm (padZ (p+1) (digZ d.toNat k));rw [hXX] at hX hS hXl hXu;have hdd:=zKA 14 d.toNat (by
  have e15:(10:Nat) ^ (14+1)=1000000000000000:=by decide
  omega)
 obtain ⟨D,hD⟩:=nm (Lib.decDigits d.toNat);rw [hD] at hX hdd;obtain ⟨X0d,hX0⟩:=nm (D++List.replicate k 48);rw [hX0] at hX;have hX0l:X0d.length<=340:=by rw [<- hX0,List.length_append,List.length_replicate];omega
 obtain ⟨W,hW⟩:=nm (padZ wh (zCI p X));obtain ⟨Q,hQ⟩:=nm (zF8 p X);rw [hW,hQ] at hX;have hQl:Q.length=p:=by rw [<- hQ];exact zSX p X (by omega)
 have hWl:W.length<=420:=by
  rw [<- hW,zD4];unfold zCI;rw [List.length_take];omega
 obtain ⟨x1,hx1⟩:=nm (padZ (wh+p) X0d);rw [hx1] at hX;have hx1l:x1.length<=400:=by rw [<- hx1,zD4];omega
 have hx1g:p<=x1.length:=by have:=zMA (wh+p) X0d;rw [hx1] at this;omega
 have hx1e:x1=List.replicate (wh+p - X0d.length) 48++X0d:=by rw [<- hx1];rfl
 obtain ⟨r,hr⟩:=nm (rstL pl Q);have hrl:r.length<=18:=by rw [<- hr];have:=zM3 pl Q;omega
 have HS:Hid (zBN wh pl mb gr tm d e=(if gr then grpZ W.length W else W)++((if r=[] then [] else 46 :: r)++List.replicate tm 37)):=by
  show _=_;rw [hS,<- hW,<- hr,<- hQ,<- hp];rfl
 obtain ⟨S,hSS⟩:=nm (zBN wh pl mb gr tm d e);rw [hSS] at HS ⊢;have CI:Hid (∀ W,Ext w W->Calls Tryz.prog 138 #[iQ d] W fun e w'=>e=.returned (sV D)/\Ext W w'):=fun W X=>by rw [<- hD];exact itoaZ IT d W g0 g1 (xt X0 X)
 have CZ:Hid (∀ W,Calls Tryz.prog 45 #[sV [48],iQ (k:Int)] W fun e w'=>e=.returned (sV (List.replicate k 48))/\Ext W w'):=fun W=>repZ 48 k (by omega) W;have CP:Hid (∀ W,Calls Tryz.prog 45 #[sV [37],iQ (tm:Int)] W fun e w'=>e=.returned (sV (List.replicate tm 37))/\Ext W w'):=fun W=>repZ 37 tm (by omega) W;have CG:Hid (∀ w',Calls Tryz.prog 139 #[sV W] w' fun e w2=>e=.returned (sV (grpZ W.length W))/\Ext w' w2):=fun w'=>zVQ W w' (by omega);have CT:Hid (∀ w',Calls Tryz.prog 140 #[sV (Q.drop pl),sV [48]] w' fun e w2=>e=.returned (sV (zF2 (Q.drop pl)))/\w2=w'):=fun w'=>zOF (Q.drop pl) w' (by rw [List.length_drop];omega);obtain ⟨Z,hZ⟩:=nm (List.replicate k (48:UInt8));have hZl:Z.length=k:=by rw [<- hZ,List.length_replicate]
 rw [hZ] at CZ hX0;obtain ⟨PC,hPC⟩:=nm (List.replicate tm (37:UInt8));have hPCl:PC.length=tm:=by rw [<- hPC,List.length_replicate]
 rw [hPC] at CP HS;obtain ⟨L0,hL0⟩:=nm (X0d.length);obtain ⟨j,hj⟩:∃ j:Nat,wh+p - L0=j:=⟨_,rfl⟩;have CJ:Hid (∀ W,Calls Tryz.prog 45 #[sV [48],iQ (max (wrap64 (wrap64 ((wh:Int)+(p:Int)) - (X0d.length:Int))) 0)] W fun e w'=>e=.returned (sV (List.replicate j 48))/\Ext W w'):=fun W=>by
  have hj1:j<=1000:=by omega
  have:=zV9 wh p X0d.length (by omega) (by omega) hX0l;rw [hL0,hj] at this;rw [hL0];rw [this];exact repZ 48 j hj1 W
 rw [hL0,hj] at hx1e;obtain ⟨J,hJ⟩:=nm (List.replicate j (48:UInt8));have hJl:J.length=j:=by rw [<- hJ,List.length_replicate]
 rw [hJ] at CJ hx1e;have HX1:=hid hx1e;have HX0:=hid hX0;have HXX:=hid hX;have HQl:=hid hQl;have HWl:=hid hWl;have HRR:=hid hr;have HB:=hid (And.intro hw1 (And.intro hpl (And.intro hmb (And.intro htm (And.intro hk3 (And.intro hp (And.intro hL0 (And.intro hx1l (And.intro hx1g (And.intro hX0l (And.intro hdd (And.intro hZl (And.intro hPCl (And.intro hrl (And.intro hk (And.intro hj hJl))))))))))))))));obtain ⟨bF,hbF⟩:=nm (w.heap.size);obtain ⟨wa,ha,Y1,VF,-⟩:=zC7 w [.bool ng,sV bf,sV af,iQ wh,iQ pl,iQ mb,.bool gr,iQ tm,sV dt] 28;obtain ⟨wb,hb,Y2,VD,-⟩:=zC7 wa [.bool n,iQ d,iQ e] 31;have sa:wa.heap.size=bF+1:=by rw [<- ha,World.size_alloc,hbF]
 rw [hbF] at VF;rw [sa] at VD;have YB:=xt Y1 Y2;have HV:=hid (And.intro (VF.l Y2) VD);have HWA:=hid ha;have HWB:=hid hb;have HBF:=hid hbF;have wpp:IntKind.i64.wrap ((pl:Int)+(mb:Int))=(p:Int):=by rw [IntKind.wrap_i64] <;> omega
 have wek:IntKind.i64.wrap (e+(p:Int))=(k:Int):=by rw [IntKind.wrap_i64] <;> omega
 clear hp hk hkp hX hS hXl hdl hXu hXX hdd hD hX0 hX0l hW hQ hQl hWl hx1 hx1l hx1g hx1e hr hrl hSS hZ hZl hPC hPCl hL0 hj hJ hJl Y1 Y2 VF VD ha hb hbF sa IT X0 g0 g1 g2 g3 g4 hw1 hpl hmb htm hg he hk3;have c9:=vC9 HV.out.1;go_enter Tryz.func75,Tryz.ntmps75;go_upto_region 1 with fail;rw [HWA.out,HWB.out]
 (try rw [HBF.out])
 go_upto_region 2 with fail;clear c9;go_cut [6] (fun s wx=>s=sV X0d/\Ext wb wx)
 case first =>
  refine zAS (fun lx:Nat->Value=>{ tmps:=#[Value.agg #[Value.bool ng,sV bf,sV af,Value.int .i64 (wh:Int),Value.int .i64 (pl:Int),Value.int .i64 (mb:Int),Value.bool gr,Value.int .i64 (tm:Int),sV dt],decV n d e,Value.pointer (some ⟨bF,0,none⟩),Value.pointer (some ⟨bF+1,0,none⟩),Value.string { data:=#[] },Value.int .i64 (p:Int),lx 6,undef,undef,undef,Value.pointer (some ⟨bF,4,none⟩),Value.int .i64 (pl:Int),Value.pointer (some ⟨bF,5,none⟩),Value.int .i64 (mb:Int),Value.int .i64 (p:Int),lx 15,lx 16,lx 17,lx 18,lx 19,lx 20,lx 21,lx 22,lx 23,undef,undef,undef,undef,undef,undef,undef,undef,undef,undef,undef,undef,undef,undef,undef,undef,undef,undef,undef,undef,undef,undef,undef,undef,undef,undef,undef,undef,undef,undef,undef,undef,undef,undef,undef,undef,undef,undef,undef,undef,undef,undef,undef,undef,undef,undef,undef,undef,undef,undef,undef,undef,undef,undef],defers:=[] }) (fun L lx lw=>Hid (Ext wb lw/\(L 0=true->lx 15=.pointer (some ⟨bF+1,1,none⟩))/\(L 1=true->lx 16=iQ d)/\(L 2=true->lx 17=sV D)/\(L 3=true->lx 18=.pointer (some ⟨bF+1,2,none⟩))/\(L 4=true->lx 19=iQ e)/\(L 5=true->lx 20=iQ (p:Int))/\(L 6=true->lx 21=iQ (k:Int))/\(L 7=true->lx 22=sV Z)/\(L 8=true->lx 23=sV X0d)/\(L 9=true->lx 6=sV X0d))) rfl (by kernel_rfl) (fun jj=>undef) rfl ?_ ?_ ?_
  ·exact ⟨xd (xr _),(fun h=>by cases h),(fun h=>by cases h),(fun h=>by cases h),(fun h=>by cases h),(fun h=>by cases h),(fun h=>by cases h),(fun h=>by cases h),(fun h=>by cases h),(fun h=>by cases h),(fun h=>by cases h)⟩
  ·intro L lx lw ix o K hK ho hL haf hI hcl;obtain ⟨E,f0,f1,f2,f3,f4,f5,f6,f7,f8,f9⟩:=hI.out
   match ix,ho,hL,haf,hK with
   | 0,ho,hL,haf,hK =>
    cases ho
    (try dsimp only)
    refine Eq.mpr (if_pos (by rfl)) ?_;go_wp2_with fail;exact hK (fun jj=>if jj=15 then .pointer (some ⟨bF+1,1,none⟩) else lx jj) _ ⟨E,(fun _=>rfl),f1,f2,f3,f4,f5,f6,f7,f8,f9⟩
   | 1,ho,hL,haf,hK =>
    cases ho
    (try dsimp only)
    rw [f0 (haf ⟨0,.data⟩ (by simp) rfl)];refine Eq.mpr (if_pos (by rfl)) ?_;have c:=vC3 (HV.out.2.l E);go_wp2_with fail;exact hK (fun jj=>if jj=16 then iQ d else if jj=15 then .pointer (some ⟨bF+1,1,none⟩) else lx jj) _ ⟨E,(fun _=>rfl),(fun _=>rfl),f2,f3,f4,f5,f6,f7,f8,f9⟩
   | 2,ho,hL,haf,hK =>
    cases ho
    (try dsimp only)
    rw [f1 (haf ⟨1,.data⟩ (by simp) rfl)];refine Eq.mpr (if_pos (by rfl)) ?_;go_wp2_with fail;refine (CI.out lw (xt YB E)).mono ?_;rintro rr w' ⟨rfl,e'⟩;go_wp2_with fail;exact hK (fun jj=>if jj=17 then sV D else if jj=16 then iQ d else lx jj) _ ⟨(xt E e'),f0,(fun _=>rfl),(fun _=>rfl),f3,f4,f5,f6,f7,f8,f9⟩
   | 3,ho,hL,haf,hK =>
    cases ho
    (try dsimp only)
    refine Eq.mpr (if_pos (by rfl)) ?_;go_wp2_with fail;exact hK (fun jj=>if jj=18 then .pointer (some ⟨bF+1,2,none⟩) else lx jj) _ ⟨E,f0,f1,f2,(fun _=>rfl),f4,f5,f6,f7,f8,f9⟩
   | 4,ho,hL,haf,hK =>
    cases ho
    (try dsimp only)
    rw [f3 (haf ⟨3,.data⟩ (by simp) rfl)];refine Eq.mpr (if_pos (by rfl)) ?_;have c:=vC3 (HV.out.2.l E);go_wp2_with fail;exact hK (fun jj=>if jj=19 then iQ e else if jj=18 then .pointer (some ⟨bF+1,2,none⟩) else lx jj) _ ⟨E,f0,f1,f2,(fun _=>rfl),(fun _=>rfl),f5,f6,f7,f8,f9⟩
   | 5,ho,hL,haf,hK =>
    cases ho
    (try dsimp only)
    refine Eq.mpr (if_pos (by rfl)) ?_;go_wp2_with fail;exact hK (fun jj=>if jj=20 then iQ (p:Int) else lx jj) _ ⟨E,f0,f1,f2,f3,f4,(fun _=>rfl),f6,f7,f8,f9⟩
   | 6,ho,hL,haf,hK =>
    cases ho
    (try dsimp only)
    rw [f4 (haf ⟨4,.data⟩ (by simp) rfl),f5 (haf ⟨5,.data⟩ (by simp) rfl)];refine Eq.mpr (if_pos (by rfl)) ?_;go_wp2_with fail;exact hK (fun jj=>if jj=21 then iQ (k:Int) else if jj=19 then iQ e else if jj=20 then iQ (p:Int) else lx jj) _ ⟨E,f0,f1,f2,f3,(fun _=>rfl),(fun _=>rfl),(fun _=>rfl),f7,f8,f9⟩
   | 7,ho,hL,haf,hK =>
    cases ho
    (try dsimp only)
    rw [f6 (haf ⟨6,.data⟩ (by simp) rfl)];refine Eq.mpr (if_pos (by rfl)) ?_;go_wp2_with fail;refine (CZ.out lw).mono ?_;rintro rr w' ⟨rfl,e'⟩;go_wp2_with fail;exact hK (fun jj=>if jj=22 then sV Z else if jj=21 then iQ (k:Int) else lx jj) _ ⟨(xt E e'),f0,f1,f2,f3,f4,f5,(fun _=>rfl),(fun _=>rfl),f8,f9⟩
   | 8,ho,hL,haf,hK =>
    cases ho
    (try dsimp only)
    rw [f2 (haf ⟨2,.data⟩ (by simp) rfl),f7 (haf ⟨7,.data⟩ (by simp) rfl)];refine Eq.mpr (if_pos (by rfl)) ?_;have q1:(9223372036854775807<D.length+Z.length)=False:=eq_false (by have:=HB.out;omega);have hap:(⟨D.toArray⟩:ByteArray)++⟨Z.toArray⟩=⟨X0d.toArray⟩:=(by rw [<- HX0.out];exact zAE D Z);go_wp2_with fail;exact hK (fun jj=>if jj=23 then sV X0d else if jj=17 then sV D else if jj=22 then sV Z else lx jj) _ ⟨E,f0,f1,(fun _=>rfl),f3,f4,f5,f6,(fun _=>rfl),(fun _=>rfl),f9⟩
   | 9,ho,hL,haf,hK =>
    cases ho
    (try dsimp only)
    rw [f8 (haf ⟨8,.data⟩ (by simp) rfl)];refine Eq.mpr (if_pos (by rfl)) ?_;go_wp2_with fail;exact hK (fun jj=>if jj=6 then sV X0d else if jj=23 then sV X0d else lx jj) _ ⟨E,f0,f1,f2,f3,f4,f5,f6,f7,(fun _=>rfl),(fun _=>rfl)⟩
   | k+10,ho,_,_,_=>simp at ho
  ·intro L lx w3 hall hI;obtain ⟨E,f0,f1,f2,f3,f4,f5,f6,f7,f8,f9⟩:=hI.out
   (try dsimp only)
   rw [f9 (hall 9 (by simp)),f0 (hall 0 (by simp)),f1 (hall 1 (by simp)),f2 (hall 2 (by simp)),f3 (hall 3 (by simp)),f4 (hall 4 (by simp)),f5 (hall 5 (by simp)),f6 (hall 6 (by simp)),f7 (hall 7 (by simp)),f8 (hall 8 (by simp))];clear hI hall f0 f1 f2 f3 f4 f5 f6 f7 f8 f9;go_wp2_with fail;go_meet
   case rel=>exact ⟨rfl,E⟩
 case rest =>
  obtain ⟨rfl,E3⟩:=hcut
  rename World=>w3
  have c9:=vC9 (HV.out.1.l E3);go_wp2_with fail;refine (CJ.out _).mono ?_;rintro r w4 ⟨rfl,e4⟩;have E4:=xt E3 e4;have q1:(9223372036854775807<J.length+X0d.length)=False:=eq_false (by have:=HB.out;omega);have hap:(⟨J.toArray⟩:ByteArray)++⟨X0d.toArray⟩=⟨x1.toArray⟩:=by rw [HX1.out];exact zAE J X0d
  obtain ⟨N1,hN1⟩:=nm (x1.length);obtain ⟨n1,hn1⟩:=nm (N1 - p);have wn:IntKind.i64.wrap ((N1:Int) - (p:Int))=(n1:Int):=by have:=HB.out;rw [IntKind.wrap_i64] <;> omega
  have i1:n1<=N1:=by omega
  have i2:(n1:Int)<=(N1:Int):=by omega
  have E1:(⟨x1.toArray⟩:ByteArray).extract 0 n1=⟨W.toArray⟩:=by
   rw [zD8,<- hn1,<- hN1];have h:=HXX.out.1;unfold zCI at h;rw [h]
  have E2:(⟨x1.toArray⟩:ByteArray).extract n1 N1=⟨Q.toArray⟩:=by
   rw [<- hN1,zD7,<- hn1,<- hN1];have h:=HXX.out.2;unfold zF8 at h;rw [h]
  have HN1:=hid (And.intro hN1 hn1);clear hn1 c9 e4;go_upto_region 4 with fail;clear q1 hap;go_cut [7,8] (fun s t wx=>s=sV W/\t=sV Q/\Ext wb wx)
  case first =>
   refine zAS (fun lx:Nat->Value=>{ tmps:=#[Value.agg #[Value.bool ng,sV bf,sV af,Value.int .i64 (wh:Int),Value.int .i64 (pl:Int),Value.int .i64 (mb:Int),Value.bool gr,Value.int .i64 (tm:Int),sV dt],decV n d e,Value.pointer (some ⟨bF,0,none⟩),Value.pointer (some ⟨bF+1,0,none⟩),Value.string { data:=#[] },Value.int .i64 (p:Int),sV x1,lx 7,lx 8,undef,u10,u11,u12,u13,u14,u15,u16,u17,u18,u19,u20,u21,u22,u23,Value.pointer (some ⟨bF,3,none⟩),Value.int .i64 (wh:Int),Value.int .i64 (p:Int),Value.int .i64 (wrap64 ((wh:Int)+(p:Int))),sV X0d,Value.int .i64 (X0d.length:Int),Value.int .i64 (wrap64 (wrap64 ((wh:Int)+(p:Int)) - (X0d.length:Int))),Value.int .i64 (max (wrap64 (wrap64 ((wh:Int)+(p:Int)) - (X0d.length:Int))) 0),sV J,sV X0d,sV x1,lx 35,lx 36,lx 37,lx 38,lx 39,lx 40,lx 41,lx 42,lx 43,lx 44,lx 45,lx 46,u47,u48,u49,u50,u51,u52,u53,u54,u55,u56,u57,u58,u59,u60,u61,u62,u63,u64,u65,u66,u67,u68,u69,u70,u71,u72,u73,u74,u75,u76,u77],defers:=[] }) (fun L lx lw=>Hid (Ext wb lw/\(L 0=true->lx 35=sV x1)/\(L 1=true->lx 36=sV x1)/\(L 2=true->lx 37=iQ (N1:Int))/\(L 3=true->lx 38=iQ (p:Int))/\(L 4=true->lx 39=iQ (n1:Int))/\(L 5=true->lx 40=sV W)/\(L 6=true->lx 41=sV x1)/\(L 7=true->lx 42=sV x1)/\(L 8=true->lx 43=iQ (N1:Int))/\(L 9=true->lx 44=iQ (p:Int))/\(L 10=true->lx 45=iQ (n1:Int))/\(L 11=true->lx 46=sV Q)/\(L 12=true->lx 7=sV W)/\(L 13=true->lx 8=sV Q))) rfl (by kernel_rfl) (fun jj=>if jj=35 then u35 else if jj=36 then u36 else if jj=37 then u37 else if jj=38 then u38 else if jj=39 then u39 else if jj=40 then u40 else if jj=41 then u41 else if jj=42 then u42 else if jj=43 then u43 else if jj=44 then u44 else if jj=45 then u45 else if jj=46 then u46 else undef) rfl ?_ ?_ ?_
   ·exact ⟨xd E4,(fun h=>by cases h),(fun h=>by cases h),(fun h=>by cases h),(fun h=>by cases h),(fun h=>by cases h),(fun h=>by cases h),(fun h=>by cases h),(fun h=>by cases h),(fun h=>by cases h),(fun h=>by cases h),(fun h=>by cases h),(fun h=>by cases h),(fun h=>by cases h),(fun h=>by cases h)⟩
   ·intro L lx lw ix o K hK ho hL haf hI hcl;obtain ⟨E,f0,f1,f2,f3,f4,f5,f6,f7,f8,f9,f10,f11,f12,f13⟩:=hI.out
    match ix,ho,hL,haf,hK with
    | 0,ho,hL,haf,hK =>
     cases ho
     (try dsimp only)
     refine Eq.mpr (if_pos (by rfl)) ?_;go_wp2_with fail;exact hK (fun jj=>if jj=35 then sV x1 else lx jj) _ ⟨E,(fun _=>rfl),f1,f2,f3,f4,f5,f6,f7,f8,f9,f10,f11,f12,f13⟩
    | 1,ho,hL,haf,hK =>
     cases ho
     (try dsimp only)
     refine Eq.mpr (if_pos (by rfl)) ?_;go_wp2_with fail;exact hK (fun jj=>if jj=36 then sV x1 else lx jj) _ ⟨E,f0,(fun _=>rfl),f2,f3,f4,f5,f6,f7,f8,f9,f10,f11,f12,f13⟩
    | 2,ho,hL,haf,hK =>
     cases ho
     (try dsimp only)
     rw [f1 (haf ⟨1,.data⟩ (by simp) rfl)];refine Eq.mpr (if_pos (by rfl)) ?_;go_wp2_with fail;exact hK (fun jj=>if jj=37 then iQ (N1:Int) else if jj=36 then sV x1 else lx jj) _ ⟨E,f0,(fun _=>rfl),(fun _=>rfl),f3,f4,f5,f6,f7,f8,f9,f10,f11,f12,f13⟩
    | 3,ho,hL,haf,hK =>
     cases ho
     (try dsimp only)
     refine Eq.mpr (if_pos (by rfl)) ?_;go_wp2_with fail;exact hK (fun jj=>if jj=38 then iQ (p:Int) else lx jj) _ ⟨E,f0,f1,f2,(fun _=>rfl),f4,f5,f6,f7,f8,f9,f10,f11,f12,f13⟩
    | 4,ho,hL,haf,hK =>
     cases ho
     (try dsimp only)
     rw [f2 (haf ⟨2,.data⟩ (by simp) rfl),f3 (haf ⟨3,.data⟩ (by simp) rfl)];refine Eq.mpr (if_pos (by rfl)) ?_;go_wp2_with fail;exact hK (fun jj=>if jj=39 then iQ (n1:Int) else if jj=37 then iQ (N1:Int) else if jj=38 then iQ (p:Int) else lx jj) _ ⟨E,f0,f1,(fun _=>rfl),(fun _=>rfl),(fun _=>rfl),f5,f6,f7,f8,f9,f10,f11,f12,f13⟩
    | 5,ho,hL,haf,hK =>
     cases ho
     (try dsimp only)
     rw [f0 (haf ⟨0,.data⟩ (by simp) rfl),f4 (haf ⟨4,.data⟩ (by simp) rfl)];refine Eq.mpr (if_pos (by rfl)) ?_;go_wp2_with fail;exact hK (fun jj=>if jj=40 then sV W else if jj=35 then sV x1 else if jj=39 then iQ (n1:Int) else lx jj) _ ⟨E,(fun _=>rfl),f1,f2,f3,(fun _=>rfl),(fun _=>rfl),f6,f7,f8,f9,f10,f11,f12,f13⟩
    | 6,ho,hL,haf,hK =>
     cases ho
     (try dsimp only)
     refine Eq.mpr (if_pos (by rfl)) ?_;go_wp2_with fail;exact hK (fun jj=>if jj=41 then sV x1 else lx jj) _ ⟨E,f0,f1,f2,f3,f4,f5,(fun _=>rfl),f7,f8,f9,f10,f11,f12,f13⟩
    | 7,ho,hL,haf,hK =>
     cases ho
     (try dsimp only)
     refine Eq.mpr (if_pos (by rfl)) ?_;go_wp2_with fail;exact hK (fun jj=>if jj=42 then sV x1 else lx jj) _ ⟨E,f0,f1,f2,f3,f4,f5,f6,(fun _=>rfl),f8,f9,f10,f11,f12,f13⟩
    | 8,ho,hL,haf,hK =>
     cases ho
     (try dsimp only)
     rw [f7 (haf ⟨7,.data⟩ (by simp) rfl)];refine Eq.mpr (if_pos (by rfl)) ?_;go_wp2_with fail;exact hK (fun jj=>if jj=43 then iQ (N1:Int) else if jj=42 then sV x1 else lx jj) _ ⟨E,f0,f1,f2,f3,f4,f5,f6,(fun _=>rfl),(fun _=>rfl),f9,f10,f11,f12,f13⟩
    | 9,ho,hL,haf,hK =>
     cases ho
     (try dsimp only)
     refine Eq.mpr (if_pos (by rfl)) ?_;go_wp2_with fail;exact hK (fun jj=>if jj=44 then iQ (p:Int) else lx jj) _ ⟨E,f0,f1,f2,f3,f4,f5,f6,f7,f8,(fun _=>rfl),f10,f11,f12,f13⟩
    | 10,ho,hL,haf,hK =>
     cases ho
     (try dsimp only)
     rw [f8 (haf ⟨8,.data⟩ (by simp) rfl),f9 (haf ⟨9,.data⟩ (by simp) rfl)];refine Eq.mpr (if_pos (by rfl)) ?_;go_wp2_with fail;exact hK (fun jj=>if jj=45 then iQ (n1:Int) else if jj=43 then iQ (N1:Int) else if jj=44 then iQ (p:Int) else lx jj) _ ⟨E,f0,f1,f2,f3,f4,f5,f6,f7,(fun _=>rfl),(fun _=>rfl),(fun _=>rfl),f11,f12,f13⟩
    | 11,ho,hL,haf,hK =>
     cases ho
     (try dsimp only)
     rw [f6 (haf ⟨6,.data⟩ (by simp) rfl),f10 (haf ⟨10,.data⟩ (by simp) rfl)];refine Eq.mpr (if_pos (by rfl)) ?_;go_wp2_with fail;exact hK (fun jj=>if jj=46 then sV Q else if jj=41 then sV x1 else if jj=45 then iQ (n1:Int) else lx jj) _ ⟨E,f0,f1,f2,f3,f4,f5,(fun _=>rfl),f7,f8,f9,(fun _=>rfl),(fun _=>rfl),f12,f13⟩
    | 12,ho,hL,haf,hK =>
     cases ho
     (try dsimp only)
     rw [f5 (haf ⟨5,.data⟩ (by simp) rfl)];refine Eq.mpr (if_pos (by rfl)) ?_;go_wp2_with fail;exact hK (fun jj=>if jj=7 then sV W else if jj=40 then sV W else lx jj) _ ⟨E,f0,f1,f2,f3,f4,(fun _=>rfl),f6,f7,f8,f9,f10,f11,(fun _=>rfl),f13⟩
    | 13,ho,hL,haf,hK =>
     cases ho
     (try dsimp only)
     rw [f11 (haf ⟨11,.data⟩ (by simp) rfl)];refine Eq.mpr (if_pos (by rfl)) ?_;go_wp2_with fail;exact hK (fun jj=>if jj=8 then sV Q else if jj=46 then sV Q else lx jj) _ ⟨E,f0,f1,f2,f3,f4,f5,f6,f7,f8,f9,f10,(fun _=>rfl),f12,(fun _=>rfl)⟩
    | k+14,ho,_,_,_=>simp at ho
   ·intro L lx w5 hall hI;obtain ⟨E,f0,f1,f2,f3,f4,f5,f6,f7,f8,f9,f10,f11,f12,f13⟩:=hI.out
    (try dsimp only)
    rw [f12 (hall 12 (by simp)),f13 (hall 13 (by simp)),f0 (hall 0 (by simp)),f1 (hall 1 (by simp)),f2 (hall 2 (by simp)),f3 (hall 3 (by simp)),f4 (hall 4 (by simp)),f5 (hall 5 (by simp)),f6 (hall 6 (by simp)),f7 (hall 7 (by simp)),f8 (hall 8 (by simp)),f9 (hall 9 (by simp)),f10 (hall 10 (by simp)),f11 (hall 11 (by simp))];clear hI hall f0 f1 f2 f3 f4 f5 f6 f7 f8 f9 f10 f11 f12 f13;go_wp2_with fail;go_meet
    case rel=>exact ⟨rfl,rfl,E⟩
  case rest =>
   obtain ⟨rfl,rfl,E5⟩:=hcut
   rename World=>w5
   clear wn i1 i2 E1 E2 hN1;have c9:=vC9 (HV.out.1.l E5);obtain ⟨Wg,hWg⟩:=nm ((if gr=true then grpZ W.length W else W));have HWg:=hid hWg;have HS2:Hid (S=Wg++((if r=[] then [] else 46 :: r)++PC)):=by show _=_;rw [HS.out,hWg]
   clear hWg;go_upto_if 48 with fail;go_cut [7] (fun s wx=>s=sV Wg/\Ext wb wx)
   case first =>
    cases gr
    ·have HQ:Hid (W=Wg):=(by show _=_;rw [<- HWg.out];rfl);go_wp2_with fail;go_meet
     case rel=>exact ⟨by rw [HQ.out],E5⟩
    ·have CG2:Hid (∀ w',Calls Tryz.prog 139 #[sV W] w' fun e w2=>e=.returned (sV Wg)/\Ext w' w2):=fun w'=>by
      have h:grpZ W.length W=Wg:=(by rw [<- HWg.out];rfl);rw [<- h];exact CG.out w'
     go_wp2_with fail;refine (CG2.out _).mono ?_;rintro r w6 ⟨rfl,e6⟩;go_wp2_with fail;go_meet
     case rel=>exact ⟨rfl,xt E5 e6⟩
   case rest =>
    obtain ⟨rfl,E6⟩:=hcut
    rename World=>w6
    clear c9;have HWgl:Hid (Wg.length<=1000):=by
     show _<=_;rw [<- HWg.out];have h1:=zJY W.length W;have h2:=HWl.out
     split <;> omega
    go_upto_region 8 with fail;have i3:pl<=Q.length:=(by have:=HQl.out;have:=HB.out;omega);obtain ⟨NQ,hNQ⟩:=nm (Q.length);have i4:(pl:Int)<=(NQ:Int):=(by omega);have i5:pl<=NQ:=(by omega);have E1:(⟨Q.toArray⟩:ByteArray).extract 0 pl=⟨(Q.take pl).toArray⟩:=zD8 Q pl;have E2:(⟨Q.toArray⟩:ByteArray).extract pl NQ=⟨(Q.drop pl).toArray⟩:=(by rw [<- hNQ];exact zD7 Q pl);obtain ⟨TR,hTR⟩:=nm (zF2 (Q.drop pl));have HTR:Hid (TR.length<=18/\Q.take pl++TR=r):=by
     refine ⟨?_,?_⟩
     ·rw [<- hTR];have:=zKJ (Q.drop pl);rw [List.length_drop] at this;have:=HQl.out;have:=HB.out;omega
     ·rw [<- HRR.out,<- hTR];rfl
    rw [hTR] at CT;obtain ⟨TK,hTK⟩:=nm (Q.take pl);have HTK:Hid (TK.length<=18):=(by show _<=_;rw [<- hTK,List.length_take];have:=HB.out;omega);obtain ⟨DR,hDR⟩:=nm (Q.drop pl);rw [hDR] at CT E2;rw [hTK] at HTR E1;clear hTK hDR;clear hTR i3;go_cut [8] (fun s wx=>s=sV r/\Ext wb wx)
    case first =>
     refine zAS (fun lx:Nat->Value=>{ tmps:=#[Value.agg #[Value.bool ng,sV bf,sV af,Value.int .i64 (wh:Int),Value.int .i64 (pl:Int),Value.int .i64 (mb:Int),Value.bool gr,Value.int .i64 (tm:Int),sV dt],decV n d e,Value.pointer (some ⟨bF,0,none⟩),Value.pointer (some ⟨bF+1,0,none⟩),Value.string { data:=#[] },Value.int .i64 (p:Int),sV x1,sV Wg,lx 8,sV Wg,u10,u11,u12,u13,u14,u15,u16,u17,u18,u19,u20,u21,u22,u23,u24,u25,u26,u27,u28,u29,u30,u31,u32,u33,u34,u35,u36,u37,u38,u39,u40,u41,u42,u43,u44,u45,u46,u47,u48,u49,u50,sV Wg,lx 52,lx 53,lx 54,lx 55,lx 56,lx 57,lx 58,lx 59,lx 60,lx 61,u62,u63,u64,u65,u66,u67,u68,u69,u70,u71,u72,u73,u74,u75,u76,u77],defers:=[] }) (fun L lx lw=>Hid (Ext wb lw/\(L 0=true->lx 52=sV Q)/\(L 1=true->lx 53=.pointer (some ⟨bF,4,none⟩))/\(L 2=true->lx 54=iQ (pl:Int))/\(L 3=true->lx 55=sV TK)/\(L 4=true->lx 56=sV Q)/\(L 5=true->lx 57=.pointer (some ⟨bF,4,none⟩))/\(L 6=true->lx 58=iQ (pl:Int))/\(L 7=true->lx 59=sV DR)/\(L 8=true->lx 60=sV TR)/\(L 9=true->lx 61=sV r)/\(L 10=true->lx 8=sV r)/\(L 10=false->lx 8=sV Q))) rfl (by kernel_rfl) (fun jj=>if jj=8 then sV Q else if jj=52 then u52 else if jj=53 then u53 else if jj=54 then u54 else if jj=55 then u55 else if jj=56 then u56 else if jj=57 then u57 else if jj=58 then u58 else if jj=59 then u59 else if jj=60 then u60 else if jj=61 then u61 else undef) rfl ?_ ?_ ?_
     ·exact ⟨xd E6,(fun h=>by cases h),(fun h=>by cases h),(fun h=>by cases h),(fun h=>by cases h),(fun h=>by cases h),(fun h=>by cases h),(fun h=>by cases h),(fun h=>by cases h),(fun h=>by cases h),(fun h=>by cases h),(fun h=>by cases h),(fun _=>rfl)⟩
     ·intro L lx lw ix o K hK ho hL haf hI hcl;obtain ⟨E,f0,f1,f2,f3,f4,f5,f6,f7,f8,f9,f10,fk⟩:=hI.out
      match ix,ho,hL,haf,hK with
      | 0,ho,hL,haf,hK =>
       cases ho
       (try dsimp only)
       have hbk:L 10=false:=hcl.bars (i:=10) (j:=0) [0] hL (by kernel_rfl) rfl;rw [fk hbk];refine Eq.mpr (if_pos (by rfl)) ?_;go_wp2_with fail;exact hK (fun jj=>if jj=52 then sV Q else if jj=8 then sV Q else lx jj) _ ⟨E,(fun _=>rfl),f1,f2,f3,f4,f5,f6,f7,f8,f9,((fun h=>by have h:L 10=true:=h;rw [hbk] at h;cases h)),(fun _=>rfl)⟩
      | 1,ho,hL,haf,hK =>
       cases ho
       (try dsimp only)
       refine Eq.mpr (if_pos (by rfl)) ?_;go_wp2_with fail;exact hK (fun jj=>if jj=53 then .pointer (some ⟨bF,4,none⟩) else lx jj) _ ⟨E,f0,(fun _=>rfl),f2,f3,f4,f5,f6,f7,f8,f9,f10,fk⟩
      | 2,ho,hL,haf,hK =>
       cases ho
       (try dsimp only)
       rw [f1 (haf ⟨1,.data⟩ (by simp) rfl)];refine Eq.mpr (if_pos (by rfl)) ?_;have c:=vC9 (HV.out.1.l E);go_wp2_with fail;exact hK (fun jj=>if jj=54 then iQ (pl:Int) else if jj=53 then .pointer (some ⟨bF,4,none⟩) else lx jj) _ ⟨E,f0,(fun _=>rfl),(fun _=>rfl),f3,f4,f5,f6,f7,f8,f9,f10,fk⟩
      | 3,ho,hL,haf,hK =>
       cases ho
       (try dsimp only)
       rw [f0 (haf ⟨0,.data⟩ (by simp) rfl),f2 (haf ⟨2,.data⟩ (by simp) rfl)];refine Eq.mpr (if_pos (by rfl)) ?_;go_wp2_with fail;exact hK (fun jj=>if jj=55 then sV TK else if jj=52 then sV Q else if jj=54 then iQ (pl:Int) else lx jj) _ ⟨E,(fun _=>rfl),f1,(fun _=>rfl),(fun _=>rfl),f4,f5,f6,f7,f8,f9,f10,fk⟩
      | 4,ho,hL,haf,hK =>
       cases ho
       (try dsimp only)
       have hbk:L 10=false:=hcl.bars (i:=10) (j:=4) [4] hL (by kernel_rfl) rfl;rw [fk hbk];refine Eq.mpr (if_pos (by rfl)) ?_;go_wp2_with fail;exact hK (fun jj=>if jj=56 then sV Q else if jj=8 then sV Q else lx jj) _ ⟨E,f0,f1,f2,f3,(fun _=>rfl),f5,f6,f7,f8,f9,((fun h=>by have h:L 10=true:=h;rw [hbk] at h;cases h)),(fun _=>rfl)⟩
      | 5,ho,hL,haf,hK =>
       cases ho
       (try dsimp only)
       refine Eq.mpr (if_pos (by rfl)) ?_;go_wp2_with fail;exact hK (fun jj=>if jj=57 then .pointer (some ⟨bF,4,none⟩) else lx jj) _ ⟨E,f0,f1,f2,f3,f4,(fun _=>rfl),f6,f7,f8,f9,f10,fk⟩
      | 6,ho,hL,haf,hK =>
       cases ho
       (try dsimp only)
       rw [f5 (haf ⟨5,.data⟩ (by simp) rfl)];refine Eq.mpr (if_pos (by rfl)) ?_;have c:=vC9 (HV.out.1.l E);go_wp2_with fail;exact hK (fun jj=>if jj=58 then iQ (pl:Int) else if jj=57 then .pointer (some ⟨bF,4,none⟩) else lx jj) _ ⟨E,f0,f1,f2,f3,f4,(fun _=>rfl),(fun _=>rfl),f7,f8,f9,f10,fk⟩
      | 7,ho,hL,haf,hK =>
       cases ho
       (try dsimp only)
       rw [f4 (haf ⟨4,.data⟩ (by simp) rfl),f6 (haf ⟨6,.data⟩ (by simp) rfl)];refine Eq.mpr (if_pos (by rfl)) ?_;go_wp2_with fail;exact hK (fun jj=>if jj=59 then sV DR else if jj=56 then sV Q else if jj=58 then iQ (pl:Int) else lx jj) _ ⟨E,f0,f1,f2,f3,(fun _=>rfl),f5,(fun _=>rfl),(fun _=>rfl),f8,f9,f10,fk⟩
      | 8,ho,hL,haf,hK =>
       cases ho
       (try dsimp only)
       rw [f7 (haf ⟨7,.data⟩ (by simp) rfl)];refine Eq.mpr (if_pos (by rfl)) ?_;go_wp2_with fail;refine (CT.out lw).mono ?_;rintro rr w' ⟨rfl,rfl⟩;go_wp2_with fail;exact hK (fun jj=>if jj=60 then sV TR else if jj=59 then sV DR else lx jj) _ ⟨E,f0,f1,f2,f3,f4,f5,f6,(fun _=>rfl),(fun _=>rfl),f9,f10,fk⟩
      | 9,ho,hL,haf,hK =>
       cases ho
       (try dsimp only)
       rw [f3 (haf ⟨3,.data⟩ (by simp) rfl),f8 (haf ⟨8,.data⟩ (by simp) rfl)];refine Eq.mpr (if_pos (by rfl)) ?_;have q1:(9223372036854775807<TK.length+TR.length)=False:=eq_false (by have:=HTK.out;have:=HTR.out.1;have:=HQl.out;have:=HB.out;omega);have hap:(⟨TK.toArray⟩:ByteArray)++⟨TR.toArray⟩=⟨r.toArray⟩:=(by rw [<- HTR.out.2];exact zAE _ TR);go_wp2_with fail;exact hK (fun jj=>if jj=61 then sV r else if jj=55 then sV TK else if jj=60 then sV TR else lx jj) _ ⟨E,f0,f1,f2,(fun _=>rfl),f4,f5,f6,f7,(fun _=>rfl),(fun _=>rfl),f10,fk⟩
      | 10,ho,hL,haf,hK =>
       cases ho
       (try dsimp only)
       rw [f9 (haf ⟨9,.data⟩ (by simp) rfl)];refine Eq.mpr (if_pos (by rfl)) ?_;go_wp2_with fail;exact hK (fun jj=>if jj=8 then sV r else if jj=61 then sV r else lx jj) _ ⟨E,f0,f1,f2,f3,f4,f5,f6,f7,f8,(fun _=>rfl),(fun _=>rfl),(fun h=>by cases h)⟩
      | k+11,ho,_,_,_=>simp at ho
     ·intro L lx w7 hall hI;obtain ⟨E,f0,f1,f2,f3,f4,f5,f6,f7,f8,f9,f10,fk⟩:=hI.out
      (try dsimp only)
      rw [f10 (hall 10 (by simp)),f0 (hall 0 (by simp)),f1 (hall 1 (by simp)),f2 (hall 2 (by simp)),f3 (hall 3 (by simp)),f4 (hall 4 (by simp)),f5 (hall 5 (by simp)),f6 (hall 6 (by simp)),f7 (hall 7 (by simp)),f8 (hall 8 (by simp)),f9 (hall 9 (by simp))];clear hI hall f0 f1 f2 f3 f4 f5 f6 f7 f8 f9 f10 fk;go_wp2_with fail;go_meet
      case rel=>exact ⟨rfl,E⟩
    case rest =>
     obtain ⟨rfl,E7⟩:=hcut
     rename World=>w7
     clear i4 i5 E1 E2 hNQ;obtain ⟨T1,hT1⟩:=nm (Wg++(if r=[] then [] else 46 :: r));have HT1:=hid hT1;have HS3:Hid (S=T1++PC):=(by show _=_;rw [HS2.out,<- hT1,List.append_assoc]);have HT1l:Hid (T1.length<=1100):=by
      show _<=_;rw [<- hT1,List.length_append];have h1:=HWgl.out;have h2:r.length<=18:=HB.out.2.2.2.2.2.2.2.2.2.2.2.2.2.1
      split
      ·simp;omega
      ·rw [List.length_cons];omega
     clear hT1;go_upto_if 63 with fail;go_cut [9] (fun v wx=>v=sV T1/\wx=w7)
     case first =>
      by_cases hZ0:r=[]
      ·have HQ:Hid (Wg=T1):=(by show Wg=T1;rw [<- HT1.out,if_pos hZ0,List.append_nil]);subst hZ0;go_wp2_with fail;go_meet
       case rel=>exact ⟨by rw [HQ.out],by first | rfl | trivial⟩
      ·have HQ:Hid ((⟨Wg.toArray⟩:ByteArray)++((⟨#[46]⟩:ByteArray)++⟨r.toArray⟩)=⟨T1.toArray⟩):=by
        show _=_;rw [<- HT1.out,if_neg hZ0,show (⟨#[46]⟩:ByteArray)=⟨[46].toArray⟩ from rfl,zAE,zAE];rfl
       have h1:=HWgl.out;have h2:r.length<=18:=HB.out.2.2.2.2.2.2.2.2.2.2.2.2.2.1;have hz1:r.isEmpty=false:=(by cases r with | nil=>exact absurd rfl hZ0 | cons _ _=>rfl);have hz2:(!r.isEmpty)=true:=(by rw [hz1];rfl);have q1:(9223372036854775807<1+r.length)=False:=eq_false (by omega);have q2:(9223372036854775807<Wg.length+(1+r.length))=False:=eq_false (by omega);have q3:(9223372036854775807<Wg.length+(r.length+1))=False:=eq_false (by omega);clear hZ0 h1 h2 hz1;rw [hz2];clear hz2;go_wp2_with fail;go_meet
       case rel=>exact ⟨congrArg Value.string HQ.out,by first | rfl | trivial⟩
     case rest =>
      obtain ⟨rfl,hwx⟩:=hcut;have hwx:=hwx.symm;subst hwx;have c9:=vC9 (HV.out.1.l E7);have q1:(9223372036854775807<T1.length+PC.length)=False:=eq_false (by have h2:PC.length=tm:=HB.out.2.2.2.2.2.2.2.2.2.2.2.2.1;have:=HT1l.out;have:=HB.out.2.2.2.1;omega);have hap:(⟨T1.toArray⟩:ByteArray)++⟨PC.toArray⟩=⟨S.toArray⟩:=(by rw [HS3.out];exact zAE T1 PC);have HSl:Hid (S.length<=1200):=by
       show _<=_;rw [HS3.out,List.length_append];have h2:PC.length=tm:=HB.out.2.2.2.2.2.2.2.2.2.2.2.2.1;have:=HT1l.out;have:=HB.out.2.2.2.1;omega
      go_wp2_with fail;refine (CP.out _).mono ?_;rintro r w8 ⟨rfl,e8⟩;have E8:=xt E7 e8;have c3:=vC3 (HV.out.2.l E8);clear c9;cases n
      ·go_wp2_with fail;go_ret;exact ⟨rfl,xt YB E8⟩
      ·have q2:(9223372036854775807<1+S.length)=False:=eq_false (by have:=HSl.out;omega);go_wp2_with fail;go_ret;exact ⟨retZ (by rw [show (⟨#[45]⟩:ByteArray)=⟨[45].toArray⟩ from rfl,zAE];rfl),xt YB E8⟩
theorem shownD (RP:RepC) (ng:Bool) (bf af dt:BLs) (wh pl mb tm:Int) (gr n:Bool) (d e:Int) (hg:zA1 n d e=true) (ps:List BLs) (hp:zA6 dt.length dt=some ps) (hps:1<=ps.length/\ps.length<=12) (hl:dt.length<=1000) (h0:dt ≠ []) (w:World) (IT:zD2 w) (hT:Tens w) (hM:zCJ w) (hC:Cals w) (TK:TabK w) :
  Calls Tryz.prog 36 #[.agg #[.bool ng,sV bf,sV af,iQ wh,iQ pl,iQ mb,.bool gr,iQ tm,sV dt],decV n d e] w fun r w'=>r=.returned (sV (zBS n d e ps))/\Ext w w':=by
 obtain ⟨wa,ha,Y1,VF,-⟩:=zC7 w [.bool ng,sV bf,sV af,iQ wh,iQ pl,iQ mb,.bool gr,iQ tm,sV dt] 28;obtain ⟨wb,hb,Y2,VD,-⟩:=zC7 wa [.bool n,iQ d,iQ e] 31;have YB:=xt Y1 Y2;have ITb:zD2 wb:=fun z W z0 z1 X=>IT z W z0 z1 (xt YB X);have CS:=hid (zQ0 RP n d e hg dt ps hp hps hl wb ITb (hT.l YB) (hM.l YB) (hC.l YB) (TK.l YB));have c9:=vC9 (VF.l Y2);have c3:=vC3 VD;have hz1:dt.isEmpty=false:=by cases dt with | nil=>exact absurd rfl h0 | cons _ _=>rfl
 have hz2:(dt == [])=false:=by cases dt with | nil=>exact absurd rfl h0 | cons _ _=>rfl
 have hz3:(!dt.isEmpty)=true:=by rw [hz1];rfl
 clear h0 hp hps hl IT hT hM hC TK RP ITb Y1 Y2 VF VD;go_enter Tryz.func36,Tryz.ntmps36;go_wp2_with fail;refine (CS.out).mono ?_;rintro r w2 ⟨rfl,e2⟩;go_wp2_with fail;go_ret;exact ⟨rfl,xt YB e2⟩
theorem zPU (ok n:Bool) (d x:Int) (W:World):(Instr.field 99 (.agg #[.bool ok,.bool n,iQ d,iQ x]) 1).run Tryz.prog W=.ok (decV n d x) W:=by kernel_rfl
theorem shownN (ng:Bool) (bf af:BLs) (wh pl mb tm:Nat) (gr n:Bool) (d e:Int) (w:World) (IT:zD2 w) (hT:Tens w) (hw1:1<=wh/\wh<=9) (hpl:pl<=9) (hmb:mb<=9) (htm:tm<=3) (hg:zA1 n d e=true) :
  Calls Tryz.prog 36 #[.agg #[.bool ng,sV bf,sV af,iQ wh,iQ pl,iQ mb,.bool gr,iQ tm,sV []],decV n d e] w fun r w'=>r=.returned (sV (numT wh pl mb gr tm true n d e))/\Ext w w':=by
 obtain ⟨A,hA⟩:=nm (numT wh pl mb gr tm true n d e);have HA:Hid (A=_):=hA.symm.trans (zPG wh pl mb tm gr n d e hg);rw [hA];clear hA;obtain ⟨T,hT2⟩:=nm (zAM tm ⟨true,n,d,e⟩);rw [hT2] at HA;obtain ⟨p,hp⟩:=nm (pl+mb);rw [hp] at HA;obtain ⟨bF,hbF⟩:=nm (w.heap.size);obtain ⟨wa,ha,Y1,VF,-⟩:=zC7 w [.bool ng,sV bf,sV af,iQ wh,iQ pl,iQ mb,.bool gr,iQ tm,sV []] 28;obtain ⟨wb,hb,Y2,VD,-⟩:=zC7 wa [.bool n,iQ d,iQ e] 31;have sa:wa.heap.size=bF+1:=by rw [<- ha,World.size_alloc,hbF]
 have sb:wb.heap.size=bF+2:=by rw [<- hb,World.size_alloc,sa]
 rw [hbF] at VF;rw [sa] at VD;have YB:=xt Y1 Y2;have HTB:=hid hT;have HIT:=hid IT;have hfd:FitD ⟨true,n,d,e⟩:=by have g:=zAN hg;exact ⟨g.1,g.2.1⟩
 have HJ0:Hid (zAM (tm - 0) ⟨true,n,d,e⟩=T/\FitD ⟨true,n,d,e⟩/\Vec wb (bF+1) [.bool n,iQ d,iQ e]/\Vec wb bF [.bool ng,sV bf,sV af,iQ wh,iQ pl,iQ mb,.bool gr,iQ tm,sV []]/\Ext w wb):=
  ⟨hT2,hfd,VD,VF.l Y2,YB⟩
 have HWA:=hid ha;have HWB:=hid hb;have HBF:=hid hbF;have HSB:=hid sb;have HYB:=hid YB;have HB:=hid (And.intro hw1 (And.intro hpl (And.intro hmb (And.intro htm hp))));have c9:=vC9 (VF.l Y2);clear hT2 hp hbF ha hb Y1 Y2 VF VD sa sb YB hT IT hw1 hpl hmb htm hg hfd;go_enter Tryz.func36,Tryz.ntmps36;go_upto_region 1 with fail;rw [HWA.out,HWB.out]
 (try rw [HBF.out])
 go_upto_region 4 with fail;clear c9;go_loopw [16] (fun i wr=>∃ (j:Nat) (r:DR),j<=tm/\i=.int .i64 (j:Int)/\Hid (r.ok=true/\zAM (tm - j) r=T/\FitD r/\Vec wr (bF+1) [.bool r.neg,.int .i64 r.d,.int .i64 r.e]/\Vec wr bF [.bool ng,sV bf,sV af,.int .i64 wh,.int .i64 pl,.int .i64 mb,.bool gr,.int .i64 tm,sV []]/\Ext w wr)) (fun i _=>tm - (intOf i).toNat)
 case atStart=>exact ⟨0,⟨true,n,d,e⟩,by omega,rfl,⟨rfl,HJ0.out⟩⟩
 case round =>
  clear HJ0;obtain ⟨j,r,hj,rfl,HJ⟩:=hrel;obtain ⟨rok,rn,rd,re⟩:=r;have hok:rok=true:=HJ.out.1;subst hok;obtain ⟨-,hnx,hfd,VD,VF,EW⟩:=HJ.out;by_cases hlt:j<tm
  ·have i1:(j:Int)<(tm:Int):=by omega
   have hj1:IntKind.i64.wrap ((j:Int)+1)=((j+1:Nat):Int):=by have:=HB.out;rw [IntKind.wrap_i64] <;> omega
   obtain ⟨S,hS⟩:=nm (mulR rn rd re false 1 2);go_upto_region 5 with fail;have HS:=hid hS;have HFD:=hid hfd;have CO:Hid (∀ W,Ext w W->Calls Tryz.prog 73 #[iQ 100,iQ 0] W fun r w'=>r=.returned (.agg #[.bool true,.bool false,iQ 1,iQ 2])/\Ext W w'):=fun W X=>by
    have h:=ofI 100 0 W (by decide) (by decide) (HTB.out.l X);rw [of_hun] at h;exact h
   have CM:Hid (∀ W,Ext w W->Calls Tryz.prog 72 #[decV rn rd re,decV false 1 2] W fun r w'=>r=.returned (resV S)/\Ext W w'):=fun W X=>by
    rw [<- hS];exact mulI rn false rd re 1 2 W (by have h:0<=rd:=HFD.out.1;omega) (by have h:rd<1000000000000000:=HFD.out.2;omega) (by decide) (by decide) (HTB.out.l X)
   have HFS:Hid (FitD S):=by show FitD S;rw [<- hS];exact zNP _ _ _ _ _ _
   have F1:=zPU true false 1 2;obtain ⟨sok,sn,sd,se⟩:=S;have CM:Hid (∀ W,Ext w W->Calls Tryz.prog 72 #[decV rn rd re,decV false 1 2] W fun r w'=>r=.returned (.agg #[.bool sok,.bool sn,iQ sd,iQ se])/\Ext W w'):=CM;have HNX:Hid (zAM (tm - (j+1)) ⟨sok,sn,sd,se⟩=T):=by
    have h:=hnx;obtain ⟨k,hk⟩:∃ k,tm - j=k+1:=⟨tm - j - 1,by omega⟩;rw [hk,zAM,if_pos rfl] at h;show zAM _ _=T;rw [show tm - (j+1)=k by omega,<- HS.out];exact h
   have l1:bF+1<wr.heap.size:=World.block_lt_of_cell? _ _ (vC3 VD).1;have l0:bF<wr.heap.size:=by omega
   clear hS hfd hnx HJ HS;go_cut [5] (fun v wx=>∃ b,v=.pointer (some ⟨b,0,none⟩)/\Vec wx b [.bool sok,.bool sn,iQ sd,iQ se]/\Vec wx (bF+1) [.bool rn,iQ rd,iQ re]/\Vec wx bF [.bool ng,sV bf,sV af,iQ wh,iQ pl,iQ mb,.bool gr,iQ tm,sV []]/\Ext w wx)
   case first =>
    refine zAQ (fun lx:Nat->Value=>{ tmps:=#[Value.agg #[Value.bool ng,sV bf,sV af,Value.int .i64 (wh:Int),Value.int .i64 (pl:Int),Value.int .i64 (mb:Int),Value.bool gr,Value.int .i64 (tm:Int),sV []],decV n d e,Value.pointer (some ⟨bF,0,none⟩),Value.pointer (some ⟨bF+1,0,none⟩),u4,lx 5,undef,Value.pointer (some ⟨bF,8,none⟩),sV [],Value.bool false,undef,undef,undef,undef,Value.pointer (some ⟨bF,7,none⟩),Value.int .i64 (tm:Int),Value.int .i64 (j:Int),Value.bool true,lx 18,lx 19,lx 20,lx 21,u22,u23,u24,u25,u26,u27,undef,undef,undef,undef,undef,undef,undef,undef,undef,undef,undef,undef,undef,undef],defers:=[] }) (fun L lx lw=>Hid (Ext wr lw/\Vec lw (bF+1) [.bool rn,iQ rd,iQ re]/\Vec lw (bF) [.bool ng,sV bf,sV af,iQ wh,iQ pl,iQ mb,.bool gr,iQ tm,sV []]/\(L 0=true->lx 18=decV rn rd re)/\(L 1=true->lx 19=.agg #[.bool true,.bool false,iQ 1,iQ 2])/\(L 2=true->lx 20=decV false 1 2)/\(L 3=true->lx 21=.agg #[.bool sok,.bool sn,iQ sd,iQ se])/\(L 4=true->∃ b,lx 5=.pointer (some ⟨b,0,none⟩)/\wr.heap.size<=b/\(L 5=false->Vec lw b [.bool false,.bool false,iQ 0,iQ 0])/\(L 5=true->Vec lw b [.bool sok,.bool sn,iQ sd,iQ se]))/\(L 5=true->L 4=true))) rfl (by kernel_rfl) (fun jj=>if jj=5 then u5 else if jj=18 then u18 else if jj=19 then u19 else if jj=20 then u20 else if jj=21 then u21 else undef) rfl ?_ ?_ ?_
    ·exact ⟨xd (xr _),VD.l (xd (xr _)),VF.l (xd (xr _)),(fun h=>by cases h),(fun h=>by cases h),(fun h=>by cases h),(fun h=>by cases h),(fun h=>by cases h),(fun h=>by cases h)⟩
    ·intro L lx wl i o K hK ho hL haf hI;obtain ⟨X,f0,f1,f2,f3,f4,f5,f6,f7⟩:=hI.out
     match i,ho,hL,haf,hK with
     | 0,ho,hL,haf,hK =>
      cases ho
      (try dsimp only)
      have a0:=(f0 0 _ rfl).1;have a1:=(f0 1 _ rfl).1;have a2:=(f0 2 _ rfl).1;go_wp2_with fail;exact hK (fun jj=>if jj=18 then decV rn rd re else lx jj) _ ⟨X,f0,f1,(fun _=>rfl),f3,f4,f5,f6,f7⟩
     | 1,ho,hL,haf,hK =>
      cases ho
      (try dsimp only)
      go_wp2_with fail;refine (CO.out wl (xt EW X)).mono ?_;rintro rr w' ⟨rfl,E⟩;go_wp2_with fail;exact hK (fun jj=>if jj=19 then .agg #[.bool true,.bool false,iQ 1,iQ 2] else lx jj) _ ⟨xt X E,(f0.l E),(f1.l E),f2,(fun _=>rfl),f4,f5,(fun h=>by obtain ⟨b,h1,h2,h3,h4⟩:=f6 h;exact ⟨b,h1,h2,fun h=>(h3 h).l E,fun h=>(h4 h).l E⟩),f7⟩
     | 2,ho,hL,haf,hK =>
      cases ho
      (try dsimp only)
      rw [f3 (haf ⟨1,.data⟩ (by simp) rfl)];go_wp2_with fail;exact hK (fun jj=>if jj=20 then decV false 1 2 else if jj=19 then .agg #[.bool true,.bool false,iQ 1,iQ 2] else lx jj) _ ⟨X,f0,f1,f2,(fun _=>rfl),(fun _=>rfl),f5,f6,f7⟩
     | 3,ho,hL,haf,hK =>
      cases ho
      (try dsimp only)
      rw [f2 (haf ⟨0,.data⟩ (by simp) rfl),f4 (haf ⟨2,.data⟩ (by simp) rfl)];go_wp2_with fail;refine (CM.out wl (xt EW X)).mono ?_;rintro rr w' ⟨rfl,E⟩;go_wp2_with fail;exact hK (fun jj=>if jj=21 then .agg #[.bool sok,.bool sn,iQ sd,iQ se] else if jj=18 then decV rn rd re else if jj=20 then decV false 1 2 else lx jj) _ ⟨xt X E,(f0.l E),(f1.l E),(fun _=>rfl),f3,(fun _=>rfl),(fun _=>rfl),(fun h=>by obtain ⟨b,h1,h2,h3,h4⟩:=f6 h;exact ⟨b,h1,h2,fun h=>(h3 h).l E,fun h=>(h4 h).l E⟩),f7⟩
     | 4,ho,hL,haf,hK =>
      cases ho
      (try dsimp only)
      have hst:L 5=true->False:=fun h=>(by have:=f7 h;rw [hL] at this;cases this);have E:=x1 wl (.cells #[.bool false,.bool false,iQ 0,iQ 0] 99);go_wp2_with fail;exact hK (fun jj=>if jj=5 then .pointer (some ⟨wl.heap.size,0,none⟩) else lx jj) _ ⟨xt X E,(f0.l E),(f1.l E),f2,f3,f4,f5,(fun _=>⟨wl.heap.size,rfl,by have:=X.size;omega,fun _=>zA2 wl [.bool false,.bool false,iQ 0,iQ 0] _,fun h=>(hst h).elim⟩),(fun _=>rfl)⟩
     | 5,ho,hL,haf,hK =>
      cases ho
      (try dsimp only)
      have hmk:L 4=true:=haf ⟨4,.data⟩ (by simp) rfl;obtain ⟨b,eb',hb,hz,_⟩:=f6 hmk;have bx:=hz hL;rw [eb',f5 (haf ⟨3,.data⟩ (by simp) rfl)];have b0:=(bx 0 _ rfl).1;have b1:=(bx 1 _ rfl).1;have b2:=(bx 2 _ rfl).1;have b3:=(bx 3 _ rfl).1;have fb0:=(bx 0 _ rfl).2;have fb1:=(bx 1 _ rfl).2;have fb2:=(bx 2 _ rfl).2;have fb3:=(bx 3 _ rfl).2;have hX:=Ext.setL (b:=b) (by omega) [.bool sok,.bool sn,iQ sd,iQ se] 0 X;have hB:=bx.put4 (.bool sok) (.bool sn) (iQ sd) (iQ se);go_wp2_with fail;exact hK (fun jj=>if jj=5 then .pointer (some ⟨b,0,none⟩) else if jj=21 then .agg #[.bool sok,.bool sn,iQ sd,iQ se] else lx jj) _ ⟨hX,(Vec.farL (k:=b) (by omega) [.bool sok,.bool sn,iQ sd,iQ se] 0 f0),(Vec.farL (k:=b) (by omega) [.bool sok,.bool sn,iQ sd,iQ se] 0 f1),f2,f3,f4,(fun _=>rfl),(fun _=>⟨b,rfl,hb,(fun h=>by cases h),fun _=>hB⟩),(fun _=>hmk)⟩
     | k+6,ho,_,_,_=>simp at ho
    ·intro L lx wr hall hI;obtain ⟨XR,f0,f1,f2,f3,f4,f5,f6,f7⟩:=hI.out;clear hI;have G0:=f0;have G1:=f1;replace f2:=f2 (hall 0 (by simp));replace f3:=f3 (hall 1 (by simp));replace f4:=f4 (hall 2 (by simp));replace f5:=f5 (hall 3 (by simp));obtain ⟨bb,eb,lb,_,hz⟩:=f6 (hall 4 (by simp));have BN:=hz (hall 5 (by simp))
     (try dsimp only)
     rw [eb];rw [f2,f3,f4,f5];clear hall hz f0 f1 f2 f3 f4 f5 f6 f7;go_wp2_with fail;go_meet
     case rel=>exact ⟨_,rfl,BN,G0,G1,xt EW XR⟩
   case rest =>
    obtain ⟨bb,rfl,VB,VD2,VF2,EX⟩:=hcut
    rename World=>wx
    have d4:=vC4 VB;have d3:=vC3 VD2;have g3:=vF3 VD2;have W1:Vec (((wx.setCell ⟨bF+1,0,none⟩ (.bool sn)).setCell ⟨bF+1,1,none⟩ (iQ sd)).setCell ⟨bF+1,2,none⟩ (iQ se)) (bF+1) [.bool sn,iQ sd,iQ se]:=((VD2.put 0 (by simp) _).put 1 (by simp) _).put 2 (by simp) _;have W2:Vec (((wx.setCell ⟨bF+1,0,none⟩ (.bool sn)).setCell ⟨bF+1,1,none⟩ (iQ sd)).setCell ⟨bF+1,2,none⟩ (iQ se)) bF [.bool ng,sV bf,sV af,iQ wh,iQ pl,iQ mb,.bool gr,iQ tm,sV []]:=
     ((VF2.far (by show bF+1 ≠ bF;omega) _).far (by show bF+1 ≠ bF;omega) _).far (by show bF+1 ≠ bF;omega) _
    have W3:Ext w (((wx.setCell ⟨bF+1,0,none⟩ (.bool sn)).setCell ⟨bF+1,1,none⟩ (iQ sd)).setCell ⟨bF+1,2,none⟩ (iQ se)):=by
     have hb:=HBF.out;exact xset (xset (xset EX (by show _<=bF+1;omega) _) (by show _<=bF+1;omega) _) (by show _<=bF+1;omega) _
    have HW:=hid (And.intro W1 (And.intro W2 W3));have HX6:=hid EX;clear VB VD2 VF2 EX W1 W2 W3 CO CM VD VF EW l0 l1 HFD F1;cases sok
    ·have HE:Hid (A=[35]):=by
      show A=[35];have h:=HNX.out;rw [zHV _ _ rfl] at h;have h2:=HA.out;rw [<- h] at h2;rw [h2];rfl
     clear HNX HW;go_wp2_with fail;go_ret;exact ⟨retZ (by rw [HE.out]),HX6.out⟩
    ·go_wp2_with fail;have htm:=HB.out.2.2.2.1;go_roundw
     case rel=>exact ⟨j+1,⟨true,sn,sd,se⟩,by omega,by go_num,⟨rfl,HNX.out,HFS.out,HW.out.1,HW.out.2.1,HW.out.2.2⟩⟩
     case measure=>simp [intOf];omega
  ·obtain rfl:j=tm:=by omega
   have i1:¬ (j:Int)<(j:Int):=by omega
   have HT2:Hid (T=⟨true,rn,rd,re⟩):=by
    have h:=hnx;rw [Nat.sub_self,zAM] at h;exact h.symm
   have hpi:IntKind.i64.wrap ((pl:Int)+(mb:Int))=(p:Int):=by have:=HB.out;rw [IntKind.wrap_i64] <;> omega
   obtain ⟨S,hS⟩:=nm (zAB rn rd re (p:Int) 1);have HS:=hid hS;have HFD:=hid hfd;have CR:Hid (∀ W,Ext w W->Calls Tryz.prog 74 #[decV rn rd re,iQ (p:Int),iQ 1] W fun r w'=>r=.returned (resV S)/\Ext W w'):=fun W X=>by
    rw [<- hS];exact zRC rn rd re p 1 W (by have h:0<=rd:=HFD.out.1;omega) (by have h:rd<1000000000000000:=HFD.out.2;omega) (HTB.out.l X)
   have c3:=vC3 VD;have c9:=vC9 VF;have HVF:=hid VF;have HEW:=hid EW;have hok2:S.ok=true->zA1 S.neg S.d S.e=true:=fun h=>by
    have:=zJI (n:=rn) (d:=rd) (e:=re) (p:=(p:Int)) (m:=1) (by rw [hS];exact h);rw [hS] at this;exact this
   have hge:S.ok=true->0<=S.e+(p:Int):=fun h=>by
    have:=zNB rn rd re (p:Int) 1 (by omega) (by rw [hS];exact h);rw [hS] at this;exact this
   obtain ⟨sok,sn,sd,se⟩:=S;have HOK:=hid (And.intro hok2 hge);have HE2:Hid (A=if sok=true then (if sn=true then 45 :: zBN wh pl mb gr j sd se else zBN wh pl mb gr j sd se) else [35]):=by
    show A=_;have h:=HA.out;rw [HT2.out] at h;simp only [HS.out] at h;rw [if_pos trivial] at h;exact h
   clear hS hfd hnx HJ VD VF EW hok2 hge HA HT2 HS;go_wp2_with fail;refine (CR.out _ HEW.out).mono ?_;rintro x w6 ⟨rfl,e6⟩;obtain ⟨wc,hwc,XC,VC,-⟩:=zC7 w6 [.bool sok,.bool sn,iQ sd,iQ se] 99;have VF6:=HVF.out.l (xt e6 XC);have X6:Ext w wc:=xt HEW.out (xt e6 XC);obtain ⟨bS,hbS⟩:=nm (w6.heap.size);rw [hbS] at VC;have d4:=vC4 VC;have g9:=vC9 VF6;have HX6:=hid X6;clear CR c3 c9 HVF HEW VC VF6 X6 e6 XC;cases sok
   ·have HE:Hid (A=[35]):=by
     show A=[35];rw [HE2.out];rfl
    go_wp2_with fail;go_ret;exact ⟨retZ (by rw [HE.out]),HX6.out⟩
   ·have CQ:Hid (∀ W,Ext w W->Calls Tryz.prog 75 #[.agg #[.bool ng,sV bf,sV af,iQ wh,iQ pl,iQ mb,.bool gr,iQ j,sV []],decV sn sd se] W fun r w'=>r=.returned (sV A)/\Ext W w'):=fun W X=>by
     have hb:=HB.out;have h:=zUM ng bf af [] wh pl mb j gr sn sd se w W HIT.out X hb.1 hb.2.1 hb.2.2.1 hb.2.2.2.1 (HOK.out.1 rfl) (by rw [hb.2.2.2.2];exact HOK.out.2 rfl);have e:A=if sn=true then 45 :: zBN wh pl mb gr j sd se else zBN wh pl mb gr j sd se:=(by rw [HE2.out];rfl);rw [e];exact h
    go_wp2_with fail;refine (CQ.out _ HX6.out).mono ?_;rintro x w7 ⟨rfl,e7⟩;go_wp2_with fail;go_ret;exact ⟨rfl,xt HX6.out e7⟩
end Go.Proofs.YtjlojlgdkfpcdaaGreatDoor

