import Derived.Test.YteliaeejooekbaaGreatDoorMg38
import Derived.Test.YteliaeejooekbaaGreatDoorTf2
import Derived.Test.YteliaeejooekbaaGreatDoorGs8
import Derived.Test.YteliaeejooekbaaGreatDoorMg32
import Derived.Test.YteliaeejooekbaaGreatDoorMg15
import Derived.Test.YteliaeejooekbaaGreatDoorMg1
set_option maxRecDepth 8000
set_option maxHeartbeats 16000000
namespace Go.Proofs.YteliaeejooekbaaGreatDoor
open Go.RowKit
theorem fT_5 (rows cols r c:Int) (f g:Bool):zE4 5 (fT rows cols ⟨r,c,f,g,r,c,f,g⟩)=if zAA (zAX r f rows) (zAX c g cols)=true then ⟨5,[],false,0,0,zAX r f rows,zAX c g cols,f,g,0,0,false,false,0⟩ else zB9:=by
 unfold fT zAZ;dsimp only;cases zAA (zAX r f rows) (zAX c g cols) <;> rfl
theorem fT_6 (rows cols r c:Int) (f g:Bool) (r2 c2:Int) (f2 g2:Bool):zE4 6 (fT rows cols ⟨r,c,f,g,r2,c2,f2,g2⟩)=if zAA (zAX r f rows) (zAX c g cols)=true then (if zAA (zAX r2 f2 rows) (zAX c2 g2 cols)=true then ⟨6,[],false,0,0,zAX r f rows,zAX c g cols,f,g,zAX r2 f2 rows,zAX c2 g2 cols,f2,g2,0⟩ else zB9) else zB9:=by
 unfold fT zAZ;dsimp only;cases zAA (zAX r f rows) (zAX c g cols) <;> cases zAA (zAX r2 f2 rows) (zAX c2 g2 cols) <;> rfl
theorem zI2 {r c:Int} (h:zAA r c=true):(-100000<=r/\r<=100000)/\(-100000<=c/\c<=100000):=by
 unfold zAA at h;simp at h;omega
theorem fillFS (rows cols:Int) (v:Value) (f:List NT) (w:World) (h:zAI w v f) (hx:∀ x ∈ f,x.t.length<=1048576) :
  Calls Tryz.prog 16 #[v,iQ rows,iQ cols] w fun e w'=>zB2 (zCD rows cols f) w e w':=by
 have HGF:Hid (Calls Tryz.prog 13 #[v] w fun e w'=>e=.returned (.bool (zAS NT.good f))/\Ext w w'):=zOW v f w h hx;have HLN:Hid (zAS NT.good f=true->f.length<=300):=fun hh=>by
  rcases Nat.lt_or_ge 300 f.length with h' | h'
  ·rw [zBV (Or.inr h')] at hh;cases hh
  ·exact h'
 have HGN:Hid (zAS NT.good f=true->∀ x ∈ f,x.good=true):=fun hh=>zEK hh;obtain ⟨p,cap,rfl,hc,hrow⟩:=h;obtain ⟨n,hn⟩:=nm (f.length);have HN:Hid _:=hn;rw [hn] at hc hrow HGF HLN ⊢;have HRW:Hid _:=hrow;obtain ⟨G,hG⟩:=nm (zAS NT.good f);have HU:Hid (zCD rows cols f=if (zAT rows && zAT cols)=true then (if G=true then f.map (rwN (fT rows cols)) else []) else []):=by show _=_;unfold zCD rwR;rw [hG]
 rw [hG] at HGF HLN HGN;clear hn hrow hG hx;cases G
 ·have HU2:Hid (zCD rows cols f=[]):=by show _=_;rw [HU.out];cases (zAT rows && zAT cols) <;> rfl
  clear HU HLN HGN HRW;go_enter Tryz.func16,Tryz.ntmps16;go_wp2_with (go_at_call 13;refine HGF.out.mono ?_;rintro e w1 ⟨rfl,e1⟩);go_ret;rw [HU2.out];exact zB8 e1
 by_cases b1:rows < -1000
 ·have HU2:Hid (zCD rows cols f=[]):=by show _=_;rw [HU.out,if_neg (by unfold zAT;simp;omega)]
  have d0_0:decide (rows < -1000)=true:=decide_eq_true (by omega);clear HU HLN HGN HRW;go_enter Tryz.func16,Tryz.ntmps16;go_wp2_with (go_at_call 13;refine HGF.out.mono ?_;rintro e w1 ⟨rfl,e1⟩);go_ret;rw [HU2.out];exact zB8 e1
 by_cases b2:1000<rows
 ·have HU2:Hid (zCD rows cols f=[]):=by show _=_;rw [HU.out,if_neg (by unfold zAT;simp;omega)]
  have d0_0:decide (rows < -1000)=false:=decide_eq_false (by omega);have d1_0:decide (rows > 1000)=true:=decide_eq_true (by omega);have d1_1:decide (1000<rows)=true:=decide_eq_true (by omega);clear HU HLN HGN HRW;go_enter Tryz.func16,Tryz.ntmps16;go_wp2_with (go_at_call 13;refine HGF.out.mono ?_;rintro e w1 ⟨rfl,e1⟩);go_ret;rw [HU2.out];exact zB8 e1
 by_cases b3:cols < -1000
 ·have HU2:Hid (zCD rows cols f=[]):=by show _=_;rw [HU.out,if_neg (by unfold zAT;simp;omega)]
  have d0_0:decide (rows < -1000)=false:=decide_eq_false (by omega);have d1_0:decide (rows > 1000)=false:=decide_eq_false (by omega);have d1_1:decide (1000<rows)=false:=decide_eq_false (by omega);have d2_0:decide (cols < -1000)=true:=decide_eq_true (by omega);clear HU HLN HGN HRW;go_enter Tryz.func16,Tryz.ntmps16;go_wp2_with (go_at_call 13;refine HGF.out.mono ?_;rintro e w1 ⟨rfl,e1⟩);go_ret;rw [HU2.out];exact zB8 e1
 by_cases b4:1000<cols
 ·have HU2:Hid (zCD rows cols f=[]):=by show _=_;rw [HU.out,if_neg (by unfold zAT;simp;omega)]
  have d0_0:decide (rows < -1000)=false:=decide_eq_false (by omega);have d1_0:decide (rows > 1000)=false:=decide_eq_false (by omega);have d1_1:decide (1000<rows)=false:=decide_eq_false (by omega);have d2_0:decide (cols < -1000)=false:=decide_eq_false (by omega);have d3_0:decide (cols > 1000)=true:=decide_eq_true (by omega);have d3_1:decide (1000<cols)=true:=decide_eq_true (by omega);clear HU HLN HGN HRW;go_enter Tryz.func16,Tryz.ntmps16;go_wp2_with (go_at_call 13;refine HGF.out.mono ?_;rintro e w1 ⟨rfl,e1⟩);go_ret;rw [HU2.out];exact zB8 e1
 have HU2:Hid (zCD rows cols f=f.map (rwN (fT rows cols))):=by show _=_;rw [HU.out,if_pos (by unfold zAT;simp;omega)];rfl
 have HB1:Hid (-100000<=rows/\rows<=100000):=⟨by omega,by omega⟩;have HB2:Hid (-100000<=cols/\cols<=100000):=⟨by omega,by omega⟩;have hn3:n<=300:=HLN.out rfl;have HGD:Hid (∀ x ∈ f,x.good=true):=HGN.out rfl;have d0_0:decide (rows < -1000)=false:=decide_eq_false (by omega);have d1_0:decide (rows > 1000)=false:=decide_eq_false (by omega);have d1_1:decide (1000<rows)=false:=decide_eq_false (by omega);have d2_0:decide (cols < -1000)=false:=decide_eq_false (by omega);have d3_0:decide (cols > 1000)=false:=decide_eq_false (by omega);have d3_1:decide (1000<cols)=false:=decide_eq_false (by omega);clear HU HLN HGN b1 b2 b3 b4;go_enter Tryz.func16,Tryz.ntmps16;go_wp2_with (go_at_call 13;refine HGF.out.mono ?_;rintro e w2 ⟨rfl,X2⟩);have HS2:Hid (w.heap.size<=w2.heap.size):=X2.size;clear HGF d0_0 d1_0 d1_1 d2_0 d3_0 d3_1;have HJ0:Hid (zBA w2 w2.heap.size (.slice none 0 0) ((f.take 0).map (rwN (fT rows cols)))/\Ext w2 w2):=⟨zGK _ _,xr _⟩;go_loopw [7,31] (fun ov i wr=>∃ (k c:Nat) (q:Option Addr),k<=n/\i=.int .i64 k/\ov=.slice q k c/\Hid (zBA wr w2.heap.size (.slice q k c) ((f.take k).map (rwN (fT rows cols)))/\Ext w2 wr)) (fun _ i _=>n - (intOf i).toNat)
 case atStart=>exact ⟨0,0,none,by omega,rfl,rfl,HJ0⟩
 case round =>
  clear HJ0;obtain ⟨k,c,q,hk,rfl,rfl,HJ⟩:=hrel;by_cases hlt:k<n
  ·have i2:(k:Int)<(n:Int):=by omega
   obtain ⟨x,hx⟩:∃ x,f[k]?=some x:=⟨_,List.getElem?_eq_getElem (by rw [HN.out];exact hlt)⟩;have HGX:Hid (x.good=true):=HGD.out x (List.mem_of_getElem? hx);obtain ⟨b,o,rfl,RN⟩:=HRW.out (by omega);have XJ:=HJ.out.2;have HXJ:Hid _:=XJ;have HRN:wr.rangeAt b (o+k * 14) x.cells:=fun c u hu=>cell_later (xt X2 XJ) (RN k x hx c u hu);have HTK:Hid ((f.take (k+1)).map (rwN (fT rows cols))=(f.take k).map (rwN (fT rows cols))++[rwN (fT rows cols) x]):=zF2 hx;have HO:Hid (zBA wr w2.heap.size (.slice q k c) ((f.take k).map (rwN (fT rows cols)))):=HJ.out.1;have HM:Hid (((f.take k).map (rwN (fT rows cols))).length=k):=by show _=_;rw [List.length_map,List.length_take,HN.out];omega
   clear RN XJ HJ hx;obtain ⟨L,hL⟩:=nm ((f.take k).map (rwN (fT rows cols)));rw [hL] at HTK HO HM;clear hL;by_cases h5:x.k=5
   ·obtain ⟨xr0,xc,xf,xg,rfl⟩:=zRA HGX.out h5;have hnr:=zI2 (zG6 HGX.out (Or.inl rfl)).1;have HRQ:Hid (rwN (fT rows cols) ⟨5,[],false,0,0,xr0,xc,xf,xg,0,0,false,false,0⟩=zE4 5 (fT rows cols ⟨xr0,xc,xf,xg,xr0,xc,xf,xg⟩)):=rfl;rw [HRQ.out,fT_5] at HTK;dsimp only at hnr;have C1:=fun W=>zU2 xr0 xc xf xg rows cols W hnr.1 hnr.2 HB1.out HB2.out;obtain ⟨n1,e1⟩:=nm (zAX xr0 xf rows);obtain ⟨n2,e2⟩:=nm (zAX xc xg cols);rw [e1,e2] at C1 HTK;obtain ⟨Q,hQ⟩:=nm (zAA n1 n2);have G1:=fun W=>zBS n1 n2 xf xg W;rw [hQ] at G1 HTK;have HC1:Hid _:=C1;have HG1:Hid _:=G1;clear C1 G1 e1 e2 hQ hnr HRQ HGX h5;obtain ⟨wb,hwb,XB,KB,-⟩:=zAC wr [iQ 5,sV [],.bool false,iQ 0,iQ 0,iQ xr0,iQ xc,.bool xf,.bool xg,iQ 0,iQ 0,.bool false,.bool false,iQ 0] 73;have k0:=(KB 0 _ rfl).1;have k5:=(KB 5 _ rfl).1;have k6:=(KB 6 _ rfl).1;have k7:=(KB 7 _ rfl).1;have k8:=(KB 8 _ rfl).1;rw [<- hwb] at k0 k5 k6 k7 k8;have HWB:Hid _:=hwb;have HKB:Hid _:=KB;clear KB hwb;go_wp2_with (refine wpList_load_mid rfl 73 (.tmp 33) rfl b (o+k * 14) rfl _ _ HRN Tryz.underlying73 rfl zBL ?_);rw [HWB.out];refine (HC1.out wb).mono ?_;rintro e w5 ⟨rfl,e5⟩;clear k0 k5 k6 k7 k8 HRN HC1;have V5:=Vec.l HKB.out e5;have VT5:w5.there wr.heap.size 5 4:=zAD V5 (by simp);have V6:Vec (w5.setCells wr.heap.size 5 [iQ n1,iQ n2,.bool xf,.bool xg]) wr.heap.size [iQ 5,sV [],.bool false,iQ 0,iQ 0,iQ n1,iQ n2,.bool xf,.bool xg,iQ 0,iQ 0,.bool false,.bool false,iQ 0]:=zA8 [iQ n1,iQ n2,.bool xf,.bool xg] 5 w5 [iQ 5,sV [],.bool false,iQ 0,iQ 0,iQ xr0,iQ xc,.bool xf,.bool xg,iQ 0,iQ 0,.bool false,.bool false,iQ 0] V5 (by simp);have E6:=Ext.setCells (b:=wr.heap.size) (Nat.le_refl _) [iQ n1,iQ n2,.bool xf,.bool xg] 5 w5 (xt XB e5);have one1:(#[iQ n1,iQ n2,.bool xf,.bool xg]:Array Value).all (·.oneCell')=true:=(by simp [Value.oneCell']);obtain ⟨w6,hw6⟩:=nm (w5.setCells wr.heap.size 5 [iQ n1,iQ n2,.bool xf,.bool xg]);have HW6:Hid _:=hw6;rw [hw6] at V6 E6;have HV6:Hid _:=V6;have HE6:Hid _:=E6;have u5:=(V6 5 _ rfl).1;have u6:=(V6 6 _ rfl).1;have u7:=(V6 7 _ rfl).1;have u8:=(V6 8 _ rfl).1;clear hw6 V5 V6 E6 e5 XB HKB HWB;go_wp2_with (refine wpList_store_mid rfl _ _ _ rfl wr.heap.size 5 #[iQ n1,iQ n2,.bool xf,.bool xg] rfl rfl VT5 hi4R one1 ?_;show wpList _ _ _ _ _ (w5.setCells wr.heap.size 5 [iQ n1,iQ n2,.bool xf,.bool xg]);rw [HW6.out]);refine (HG1.out w6).mono ?_;rintro e w7 ⟨rfl,e7⟩;clear u5 u6 u7 u8 HG1 HW6 VT5 one1;have HV7:Hid (Vec w7 wr.heap.size [iQ 5,sV [],.bool false,iQ 0,iQ 0,iQ n1,iQ n2,.bool xf,.bool xg,iQ 0,iQ 0,.bool false,.bool false,iQ 0]):=Vec.l HV6.out e7;have HE7:Hid (Ext wr w7):=xt HE6.out e7;clear HV6 HE6 e7;cases Q
    ·have HY:Hid ((if false=true then (⟨5,[],false,0,0,n1,n2,xf,xg,0,0,false,false,0⟩:NT) else zB9)=zB9):=rfl;go_wp2_with fail;refine (zK5 w7).mono ?_;rintro e wg ⟨rfl,eg⟩;have VG:=Vec.l HV7.out eg;have VTG:wg.there wr.heap.size 0 14:=zAD VG (by simp);have one3:(#[iQ 4,.string ⟨#[35,82,69,70,33]⟩,.bool false,iQ 0,iQ 0,iQ 0,iQ 0,.bool false,.bool false,iQ 0,iQ 0,.bool false,.bool false,iQ 0]:Array Value).all (·.oneCell')=true:=(by simp [Value.oneCell']);have VRG:=World.rangeAt_setCells_same wg wr.heap.size 0 [iQ 4,.string ⟨#[35,82,69,70,33]⟩,.bool false,iQ 0,iQ 0,iQ 0,iQ 0,.bool false,.bool false,iQ 0,iQ 0,.bool false,.bool false,iQ 0] VTG;have EG:=Ext.setCells (b:=wr.heap.size) (Nat.le_refl _) [iQ 4,.string ⟨#[35,82,69,70,33]⟩,.bool false,iQ 0,iQ 0,iQ 0,iQ 0,.bool false,.bool false,iQ 0,iQ 0,.bool false,.bool false,iQ 0] 0 wg (xt HE7.out eg);obtain ⟨wh,hwh⟩:=nm (wg.setCells wr.heap.size 0 [iQ 4,.string ⟨#[35,82,69,70,33]⟩,.bool false,iQ 0,iQ 0,iQ 0,iQ 0,.bool false,.bool false,iQ 0,iQ 0,.bool false,.bool false,iQ 0]);have HWH:Hid _:=hwh;rw [hwh] at VRG EG;have VR9:wh.rangeAt wr.heap.size 0 [iQ 4,.string ⟨#[35,82,69,70,33]⟩,.bool false,iQ 0,iQ 0,iQ 0,iQ 0,.bool false,.bool false,iQ 0,iQ 0,.bool false,.bool false,iQ 0]:=VRG;have HEG:Hid _:=EG;clear hwh VG VRG EG eg;obtain ⟨w8,h8,X8,V8,-⟩:=zAC wh [iQ 4,.string ⟨#[35,82,69,70,33]⟩,.bool false,iQ 0,iQ 0,iQ 0,iQ 0,.bool false,.bool false,iQ 0,iQ 0,.bool false,.bool false,iQ 0] 73;have H8:Hid _:=h8;have E8:=xt HEG.out X8;obtain ⟨v',w9,hrun,O9,GW,_⟩:=zDZ w8 w2.heap.size (.slice q k c) L (zAW HO.out E8) (zB9) wh.heap.size (fun z u hu=>by rw [Nat.zero_add];exact (V8 z u hu).1) (by rw [HM.out];omega) (xt HXJ.out E8).size;obtain ⟨q9,c9,ev⟩:∃ q9 c9,v'=.slice q9 (k+1) c9:=by
      obtain ⟨z1,z2,z3,_⟩:=zAR O9;rw [List.length_append,HM.out] at z3;exact ⟨z1,z2,z3⟩
     subst ev;have HZ:Hid (zBA w9 w2.heap.size (.slice q9 (k+1) c9) ((f.take (k+1)).map (rwN (fT rows cols)))/\Ext w2 w9):=⟨by first | (rw [HTK.out,HY.out];exact O9) | (rw [HTK.out,if_pos trivial,if_pos rfl];exact O9),zB6 (xt HXJ.out E8) GW (fun r hr=>(zB4 HO.out r hr).1)⟩;clear O9 GW V8 X8 E8 h8;go_wp2_with (first | (refine wpList_load_mid rfl 73 (.tmp 9) rfl wr.heap.size 0 rfl _ _ VR9 Tryz.underlying73 rfl zBL ?_) | (at_builtin;rw [H8.out];refine Lib.wpList_append_run _ rfl _ _ _ _ rfl _ _ rfl rfl _ _ hrun ?_) | (refine wpList_store_mid rfl _ _ _ rfl wr.heap.size 0 #[iQ 4,.string ⟨#[35,82,69,70,33]⟩,.bool false,iQ 0,iQ 0,iQ 0,iQ 0,.bool false,.bool false,iQ 0,iQ 0,.bool false,.bool false,iQ 0] rfl rfl VTG zBL one3 ?_;show wpList _ _ _ _ _ (wg.setCells wr.heap.size 0 [iQ 4,.string ⟨#[35,82,69,70,33]⟩,.bool false,iQ 0,iQ 0,iQ 0,iQ 0,.bool false,.bool false,iQ 0,iQ 0,.bool false,.bool false,iQ 0]);rw [HWH.out]));go_roundw
     case rel=>exact ⟨k+1,c9,q9,by omega,by go_num,rfl,HZ⟩
     case measure=>simp [intOf];omega
    ·have HY:Hid ((if true=true then ((⟨5,[],false,0,0,n1,n2,xf,xg,0,0,false,false,0⟩):NT) else zB9)=(⟨5,[],false,0,0,n1,n2,xf,xg,0,0,false,false,0⟩:NT)):=rfl;have VR9:w7.rangeAt wr.heap.size 0 [iQ 5,sV [],.bool false,iQ 0,iQ 0,iQ n1,iQ n2,.bool xf,.bool xg,iQ 0,iQ 0,.bool false,.bool false,iQ 0]:=fun j u hu=>(by rw [Nat.zero_add];exact (HV7.out j u hu).1);obtain ⟨w8,h8,X8,V8,-⟩:=zAC w7 [iQ 5,sV [],.bool false,iQ 0,iQ 0,iQ n1,iQ n2,.bool xf,.bool xg,iQ 0,iQ 0,.bool false,.bool false,iQ 0] 73;have H8:Hid _:=h8;have E8:=xt HE7.out X8;obtain ⟨v',w9,hrun,O9,GW,_⟩:=zDZ w8 w2.heap.size (.slice q k c) L (zAW HO.out E8) (⟨5,[],false,0,0,n1,n2,xf,xg,0,0,false,false,0⟩) w7.heap.size (fun z u hu=>by rw [Nat.zero_add];exact (V8 z u hu).1) (by rw [HM.out];omega) (xt HXJ.out E8).size;obtain ⟨q9,c9,ev⟩:∃ q9 c9,v'=.slice q9 (k+1) c9:=by
      obtain ⟨z1,z2,z3,_⟩:=zAR O9;rw [List.length_append,HM.out] at z3;exact ⟨z1,z2,z3⟩
     subst ev;have HZ:Hid (zBA w9 w2.heap.size (.slice q9 (k+1) c9) ((f.take (k+1)).map (rwN (fT rows cols)))/\Ext w2 w9):=⟨by first | (rw [HTK.out,HY.out];exact O9) | (rw [HTK.out,if_pos trivial,if_pos rfl];exact O9),zB6 (xt HXJ.out E8) GW (fun r hr=>(zB4 HO.out r hr).1)⟩;clear O9 GW V8 X8 E8 h8;go_wp2_with (first | (refine wpList_load_mid rfl 73 (.tmp 9) rfl wr.heap.size 0 rfl _ _ VR9 Tryz.underlying73 rfl zBL ?_) | (at_builtin;rw [H8.out];refine Lib.wpList_append_run _ rfl _ _ _ _ rfl _ _ rfl rfl _ _ hrun ?_));go_roundw
     case rel=>exact ⟨k+1,c9,q9,by omega,by go_num,rfl,HZ⟩
     case measure=>simp [intOf];omega
   by_cases h6:x.k=6
   ·obtain ⟨xr0,xc,xf,xg,xr2,xc2,xf2,xg2,rfl⟩:=zR9 HGX.out h6;have hnr:=zI2 (zG6 HGX.out (Or.inr rfl)).1;have hnr2:=zI2 ((zG6 HGX.out (Or.inr rfl)).2 rfl);have HRQ:Hid (rwN (fT rows cols) ⟨6,[],false,0,0,xr0,xc,xf,xg,xr2,xc2,xf2,xg2,0⟩=zE4 6 (fT rows cols ⟨xr0,xc,xf,xg,xr2,xc2,xf2,xg2⟩)):=rfl;rw [HRQ.out,fT_6] at HTK;dsimp only at hnr hnr2;have C1:=fun W=>zU2 xr0 xc xf xg rows cols W hnr.1 hnr.2 HB1.out HB2.out;have C2:=fun W=>zU2 xr2 xc2 xf2 xg2 rows cols W hnr2.1 hnr2.2 HB1.out HB2.out;obtain ⟨n1,e1⟩:=nm (zAX xr0 xf rows);obtain ⟨n2,e2⟩:=nm (zAX xc xg cols);rw [e1,e2] at C1 HTK;obtain ⟨n5,e5⟩:=nm (zAX xr2 xf2 rows);obtain ⟨n6,e6⟩:=nm (zAX xc2 xg2 cols);rw [e5,e6] at C2 HTK;obtain ⟨Q,hQ⟩:=nm (zAA n1 n2);have G1:=fun W=>zBS n1 n2 xf xg W;rw [hQ] at G1 HTK;obtain ⟨Q2,hQ2⟩:=nm (zAA n5 n6);have G2:=fun W=>zBS n5 n6 xf2 xg2 W;rw [hQ2] at G2 HTK;have HC1:Hid _:=C1;have HG1:Hid _:=G1;have HC2:Hid _:=C2;have HG2:Hid _:=G2;clear C1 G1 e1 e2 hQ hnr HRQ HGX h5 h6 C2 G2 e5 e6 hQ2 hnr2;obtain ⟨wb,hwb,XB,KB,-⟩:=zAC wr [iQ 6,sV [],.bool false,iQ 0,iQ 0,iQ xr0,iQ xc,.bool xf,.bool xg,iQ xr2,iQ xc2,.bool xf2,.bool xg2,iQ 0] 73;have k0:=(KB 0 _ rfl).1;have k5:=(KB 5 _ rfl).1;have k6:=(KB 6 _ rfl).1;have k7:=(KB 7 _ rfl).1;have k8:=(KB 8 _ rfl).1;rw [<- hwb] at k0 k5 k6 k7 k8;have HWB:Hid _:=hwb;have HKB:Hid _:=KB;clear KB hwb;go_wp2_with (refine wpList_load_mid rfl 73 (.tmp 33) rfl b (o+k * 14) rfl _ _ HRN Tryz.underlying73 rfl zBL ?_);rw [HWB.out];refine (HC1.out wb).mono ?_;rintro e w5 ⟨rfl,e5⟩;clear k0 k5 k6 k7 k8 HRN HC1;have V5:=Vec.l HKB.out e5;have VT5:w5.there wr.heap.size 5 4:=zAD V5 (by simp);have V6:Vec (w5.setCells wr.heap.size 5 [iQ n1,iQ n2,.bool xf,.bool xg]) wr.heap.size [iQ 6,sV [],.bool false,iQ 0,iQ 0,iQ n1,iQ n2,.bool xf,.bool xg,iQ xr2,iQ xc2,.bool xf2,.bool xg2,iQ 0]:=zA8 [iQ n1,iQ n2,.bool xf,.bool xg] 5 w5 [iQ 6,sV [],.bool false,iQ 0,iQ 0,iQ xr0,iQ xc,.bool xf,.bool xg,iQ xr2,iQ xc2,.bool xf2,.bool xg2,iQ 0] V5 (by simp);have E6:=Ext.setCells (b:=wr.heap.size) (Nat.le_refl _) [iQ n1,iQ n2,.bool xf,.bool xg] 5 w5 (xt XB e5);have one1:(#[iQ n1,iQ n2,.bool xf,.bool xg]:Array Value).all (·.oneCell')=true:=(by simp [Value.oneCell']);obtain ⟨w6,hw6⟩:=nm (w5.setCells wr.heap.size 5 [iQ n1,iQ n2,.bool xf,.bool xg]);have HW6:Hid _:=hw6;rw [hw6] at V6 E6;have HV6:Hid _:=V6;have HE6:Hid _:=E6;have u9:=(V6 9 _ rfl).1;have u10:=(V6 10 _ rfl).1;have u11:=(V6 11 _ rfl).1;have u12:=(V6 12 _ rfl).1;clear hw6 V5 V6 E6 e5 XB HKB HWB;go_wp2_with (refine wpList_store_mid rfl _ _ _ rfl wr.heap.size 5 #[iQ n1,iQ n2,.bool xf,.bool xg] rfl rfl VT5 hi4R one1 ?_;show wpList _ _ _ _ _ (w5.setCells wr.heap.size 5 [iQ n1,iQ n2,.bool xf,.bool xg]);rw [HW6.out]);refine (HC2.out w6).mono ?_;rintro e w6b ⟨rfl,e6b⟩;clear u9 u10 u11 u12 HC2 HW6 VT5 one1;have V6b:=Vec.l HV6.out e6b;have VT9:w6b.there wr.heap.size 9 4:=zAD V6b (by simp);have V7:Vec (w6b.setCells wr.heap.size 9 [iQ n5,iQ n6,.bool xf2,.bool xg2]) wr.heap.size [iQ 6,sV [],.bool false,iQ 0,iQ 0,iQ n1,iQ n2,.bool xf,.bool xg,iQ n5,iQ n6,.bool xf2,.bool xg2,iQ 0]:=zA8 [iQ n5,iQ n6,.bool xf2,.bool xg2] 9 w6b [iQ 6,sV [],.bool false,iQ 0,iQ 0,iQ n1,iQ n2,.bool xf,.bool xg,iQ xr2,iQ xc2,.bool xf2,.bool xg2,iQ 0] V6b (by simp);have E7:=Ext.setCells (b:=wr.heap.size) (Nat.le_refl _) [iQ n5,iQ n6,.bool xf2,.bool xg2] 9 w6b (xt HE6.out e6b);have one2:(#[iQ n5,iQ n6,.bool xf2,.bool xg2]:Array Value).all (·.oneCell')=true:=(by simp [Value.oneCell']);obtain ⟨w7,hw7⟩:=nm (w6b.setCells wr.heap.size 9 [iQ n5,iQ n6,.bool xf2,.bool xg2]);have HW7:Hid _:=hw7;rw [hw7] at V7 E7;have HV7:Hid _:=V7;have HE7:Hid _:=E7;have u5:=(V7 5 _ rfl).1;have u6:=(V7 6 _ rfl).1;have u7:=(V7 7 _ rfl).1;have u8:=(V7 8 _ rfl).1;clear hw7 V6b V7 E7 e6b HV6 HE6;go_wp2_with (refine wpList_store_mid rfl _ _ _ rfl wr.heap.size 9 #[iQ n5,iQ n6,.bool xf2,.bool xg2] rfl rfl VT9 hi4R one2 ?_;show wpList _ _ _ _ _ (w6b.setCells wr.heap.size 9 [iQ n5,iQ n6,.bool xf2,.bool xg2]);rw [HW7.out]);refine (HG1.out w7).mono ?_;rintro e w7b ⟨rfl,e7⟩;clear u5 u6 u7 u8 HG1 HW7 VT9 one2;have HV8:Hid (Vec w7b wr.heap.size [iQ 6,sV [],.bool false,iQ 0,iQ 0,iQ n1,iQ n2,.bool xf,.bool xg,iQ n5,iQ n6,.bool xf2,.bool xg2,iQ 0]):=Vec.l HV7.out e7;have HE8:Hid (Ext wr w7b):=xt HE7.out e7;clear HV7 HE7 e7;cases Q
    ·have HY:Hid ((if false=true then (if Q2=true then (⟨6,[],false,0,0,n1,n2,xf,xg,n5,n6,xf2,xg2,0⟩:NT) else zB9) else zB9)=zB9):=rfl;go_wp2_with fail;refine (zK5 w7b).mono ?_;rintro e wg ⟨rfl,eg⟩;have VG:=HV8.out.l eg;have VTG:wg.there wr.heap.size 0 14:=zAD VG (by simp);have one3:(#[iQ 4,.string ⟨#[35,82,69,70,33]⟩,.bool false,iQ 0,iQ 0,iQ 0,iQ 0,.bool false,.bool false,iQ 0,iQ 0,.bool false,.bool false,iQ 0]:Array Value).all (·.oneCell')=true:=(by simp [Value.oneCell']);have VRG:=World.rangeAt_setCells_same wg wr.heap.size 0 [iQ 4,.string ⟨#[35,82,69,70,33]⟩,.bool false,iQ 0,iQ 0,iQ 0,iQ 0,.bool false,.bool false,iQ 0,iQ 0,.bool false,.bool false,iQ 0] VTG;have EG:=Ext.setCells (b:=wr.heap.size) (Nat.le_refl _) [iQ 4,.string ⟨#[35,82,69,70,33]⟩,.bool false,iQ 0,iQ 0,iQ 0,iQ 0,.bool false,.bool false,iQ 0,iQ 0,.bool false,.bool false,iQ 0] 0 wg (xt HE8.out eg);obtain ⟨wh,hwh⟩:=nm (wg.setCells wr.heap.size 0 [iQ 4,.string ⟨#[35,82,69,70,33]⟩,.bool false,iQ 0,iQ 0,iQ 0,iQ 0,.bool false,.bool false,iQ 0,iQ 0,.bool false,.bool false,iQ 0]);have HWH:Hid _:=hwh;rw [hwh] at VRG EG;have VR9:wh.rangeAt wr.heap.size 0 [iQ 4,.string ⟨#[35,82,69,70,33]⟩,.bool false,iQ 0,iQ 0,iQ 0,iQ 0,.bool false,.bool false,iQ 0,iQ 0,.bool false,.bool false,iQ 0]:=VRG;have HEG:Hid _:=EG;clear hwh VG VRG EG eg;obtain ⟨w8,h8,X8,V8,-⟩:=zAC wh [iQ 4,.string ⟨#[35,82,69,70,33]⟩,.bool false,iQ 0,iQ 0,iQ 0,iQ 0,.bool false,.bool false,iQ 0,iQ 0,.bool false,.bool false,iQ 0] 73;have H8:Hid _:=h8;have E8:=xt HEG.out X8;obtain ⟨v',w9,hrun,O9,GW,_⟩:=zDZ w8 w2.heap.size (.slice q k c) L (zAW HO.out E8) (zB9) wh.heap.size (fun z u hu=>by rw [Nat.zero_add];exact (V8 z u hu).1) (by rw [HM.out];omega) (xt HXJ.out E8).size;obtain ⟨q9,c9,ev⟩:∃ q9 c9,v'=.slice q9 (k+1) c9:=by
      obtain ⟨z1,z2,z3,_⟩:=zAR O9;rw [List.length_append,HM.out] at z3;exact ⟨z1,z2,z3⟩
     subst ev;have HZ:Hid (zBA w9 w2.heap.size (.slice q9 (k+1) c9) ((f.take (k+1)).map (rwN (fT rows cols)))/\Ext w2 w9):=⟨by first | (rw [HTK.out,HY.out];exact O9) | (rw [HTK.out,if_pos trivial,if_pos rfl];exact O9),zB6 (xt HXJ.out E8) GW (fun r hr=>(zB4 HO.out r hr).1)⟩;clear O9 GW V8 X8 E8 h8;go_wp2_with (first | (refine wpList_load_mid rfl 73 (.tmp 9) rfl wr.heap.size 0 rfl _ _ VR9 Tryz.underlying73 rfl zBL ?_) | (at_builtin;rw [H8.out];refine Lib.wpList_append_run _ rfl _ _ _ _ rfl _ _ rfl rfl _ _ hrun ?_) | (refine wpList_store_mid rfl _ _ _ rfl wr.heap.size 0 #[iQ 4,.string ⟨#[35,82,69,70,33]⟩,.bool false,iQ 0,iQ 0,iQ 0,iQ 0,.bool false,.bool false,iQ 0,iQ 0,.bool false,.bool false,iQ 0] rfl rfl VTG zBL one3 ?_;show wpList _ _ _ _ _ (wg.setCells wr.heap.size 0 [iQ 4,.string ⟨#[35,82,69,70,33]⟩,.bool false,iQ 0,iQ 0,iQ 0,iQ 0,.bool false,.bool false,iQ 0,iQ 0,.bool false,.bool false,iQ 0]);rw [HWH.out]));go_roundw
     case rel=>exact ⟨k+1,c9,q9,by omega,by go_num,rfl,HZ⟩
     case measure=>simp [intOf];omega
    ·have V8a:=HV8.out;have u9:=(V8a 9 _ rfl).1;have u10:=(V8a 10 _ rfl).1;have u11:=(V8a 11 _ rfl).1;have u12:=(V8a 12 _ rfl).1;clear V8a;go_wp2_with fail;refine (HG2.out w7b).mono ?_;rintro e w7c ⟨rfl,e8⟩;clear u9 u10 u11 u12 HG2;have HV9:Hid (Vec w7c wr.heap.size [iQ 6,sV [],.bool false,iQ 0,iQ 0,iQ n1,iQ n2,.bool xf,.bool xg,iQ n5,iQ n6,.bool xf2,.bool xg2,iQ 0]):=HV8.out.l e8;have HE9:Hid (Ext wr w7c):=xt HE8.out e8;clear HV8 HE8 e8;cases Q2
     ·have HY:Hid ((if true=true then (if false=true then (⟨6,[],false,0,0,n1,n2,xf,xg,n5,n6,xf2,xg2,0⟩:NT) else zB9) else zB9)=zB9):=rfl;go_wp2_with fail;refine (zK5 w7c).mono ?_;rintro e wg ⟨rfl,eg⟩;have VG:=HV9.out.l eg;have VTG:wg.there wr.heap.size 0 14:=zAD VG (by simp);have one3:(#[iQ 4,.string ⟨#[35,82,69,70,33]⟩,.bool false,iQ 0,iQ 0,iQ 0,iQ 0,.bool false,.bool false,iQ 0,iQ 0,.bool false,.bool false,iQ 0]:Array Value).all (·.oneCell')=true:=(by simp [Value.oneCell']);have VRG:=World.rangeAt_setCells_same wg wr.heap.size 0 [iQ 4,.string ⟨#[35,82,69,70,33]⟩,.bool false,iQ 0,iQ 0,iQ 0,iQ 0,.bool false,.bool false,iQ 0,iQ 0,.bool false,.bool false,iQ 0] VTG;have EG:=Ext.setCells (b:=wr.heap.size) (Nat.le_refl _) [iQ 4,.string ⟨#[35,82,69,70,33]⟩,.bool false,iQ 0,iQ 0,iQ 0,iQ 0,.bool false,.bool false,iQ 0,iQ 0,.bool false,.bool false,iQ 0] 0 wg (xt HE9.out eg);obtain ⟨wh,hwh⟩:=nm (wg.setCells wr.heap.size 0 [iQ 4,.string ⟨#[35,82,69,70,33]⟩,.bool false,iQ 0,iQ 0,iQ 0,iQ 0,.bool false,.bool false,iQ 0,iQ 0,.bool false,.bool false,iQ 0]);have HWH:Hid _:=hwh;rw [hwh] at VRG EG;have VR9:wh.rangeAt wr.heap.size 0 [iQ 4,.string ⟨#[35,82,69,70,33]⟩,.bool false,iQ 0,iQ 0,iQ 0,iQ 0,.bool false,.bool false,iQ 0,iQ 0,.bool false,.bool false,iQ 0]:=VRG;have HEG:Hid _:=EG;clear hwh VG VRG EG eg;obtain ⟨w8,h8,X8,V8,-⟩:=zAC wh [iQ 4,.string ⟨#[35,82,69,70,33]⟩,.bool false,iQ 0,iQ 0,iQ 0,iQ 0,.bool false,.bool false,iQ 0,iQ 0,.bool false,.bool false,iQ 0] 73;have H8:Hid _:=h8;have E8:=xt HEG.out X8;obtain ⟨v',w9,hrun,O9,GW,_⟩:=zDZ w8 w2.heap.size (.slice q k c) L (zAW HO.out E8) (zB9) wh.heap.size (fun z u hu=>by rw [Nat.zero_add];exact (V8 z u hu).1) (by rw [HM.out];omega) (xt HXJ.out E8).size;obtain ⟨q9,c9,ev⟩:∃ q9 c9,v'=.slice q9 (k+1) c9:=by
       obtain ⟨z1,z2,z3,_⟩:=zAR O9;rw [List.length_append,HM.out] at z3;exact ⟨z1,z2,z3⟩
      subst ev;have HZ:Hid (zBA w9 w2.heap.size (.slice q9 (k+1) c9) ((f.take (k+1)).map (rwN (fT rows cols)))/\Ext w2 w9):=⟨by first | (rw [HTK.out,HY.out];exact O9) | (rw [HTK.out,if_pos trivial,if_pos rfl];exact O9),zB6 (xt HXJ.out E8) GW (fun r hr=>(zB4 HO.out r hr).1)⟩;clear O9 GW V8 X8 E8 h8;go_wp2_with (first | (refine wpList_load_mid rfl 73 (.tmp 9) rfl wr.heap.size 0 rfl _ _ VR9 Tryz.underlying73 rfl zBL ?_) | (at_builtin;rw [H8.out];refine Lib.wpList_append_run _ rfl _ _ _ _ rfl _ _ rfl rfl _ _ hrun ?_) | (refine wpList_store_mid rfl _ _ _ rfl wr.heap.size 0 #[iQ 4,.string ⟨#[35,82,69,70,33]⟩,.bool false,iQ 0,iQ 0,iQ 0,iQ 0,.bool false,.bool false,iQ 0,iQ 0,.bool false,.bool false,iQ 0] rfl rfl VTG zBL one3 ?_;show wpList _ _ _ _ _ (wg.setCells wr.heap.size 0 [iQ 4,.string ⟨#[35,82,69,70,33]⟩,.bool false,iQ 0,iQ 0,iQ 0,iQ 0,.bool false,.bool false,iQ 0,iQ 0,.bool false,.bool false,iQ 0]);rw [HWH.out]));go_roundw
      case rel=>exact ⟨k+1,c9,q9,by omega,by go_num,rfl,HZ⟩
      case measure=>simp [intOf];omega
     ·have HY:Hid ((if true=true then (if true=true then (⟨6,[],false,0,0,n1,n2,xf,xg,n5,n6,xf2,xg2,0⟩:NT) else zB9) else zB9)=(⟨6,[],false,0,0,n1,n2,xf,xg,n5,n6,xf2,xg2,0⟩:NT)):=rfl;have VR9:w7c.rangeAt wr.heap.size 0 [iQ 6,sV [],.bool false,iQ 0,iQ 0,iQ n1,iQ n2,.bool xf,.bool xg,iQ n5,iQ n6,.bool xf2,.bool xg2,iQ 0]:=fun j u hu=>(by rw [Nat.zero_add];exact (HV9.out j u hu).1);obtain ⟨w8,h8,X8,V8,-⟩:=zAC w7c [iQ 6,sV [],.bool false,iQ 0,iQ 0,iQ n1,iQ n2,.bool xf,.bool xg,iQ n5,iQ n6,.bool xf2,.bool xg2,iQ 0] 73;have H8:Hid _:=h8;have E8:=xt HE9.out X8;obtain ⟨v',w9,hrun,O9,GW,_⟩:=zDZ w8 w2.heap.size (.slice q k c) L (zAW HO.out E8) (⟨6,[],false,0,0,n1,n2,xf,xg,n5,n6,xf2,xg2,0⟩) w7c.heap.size (fun z u hu=>by rw [Nat.zero_add];exact (V8 z u hu).1) (by rw [HM.out];omega) (xt HXJ.out E8).size;obtain ⟨q9,c9,ev⟩:∃ q9 c9,v'=.slice q9 (k+1) c9:=by
       obtain ⟨z1,z2,z3,_⟩:=zAR O9;rw [List.length_append,HM.out] at z3;exact ⟨z1,z2,z3⟩
      subst ev;have HZ:Hid (zBA w9 w2.heap.size (.slice q9 (k+1) c9) ((f.take (k+1)).map (rwN (fT rows cols)))/\Ext w2 w9):=⟨by first | (rw [HTK.out,HY.out];exact O9) | (rw [HTK.out,if_pos trivial,if_pos rfl];exact O9),zB6 (xt HXJ.out E8) GW (fun r hr=>(zB4 HO.out r hr).1)⟩;clear O9 GW V8 X8 E8 h8;go_wp2_with (first | (refine wpList_load_mid rfl 73 (.tmp 9) rfl wr.heap.size 0 rfl _ _ VR9 Tryz.underlying73 rfl zBL ?_) | (at_builtin;rw [H8.out];refine Lib.wpList_append_run _ rfl _ _ _ _ rfl _ _ rfl rfl _ _ hrun ?_));go_roundw
      case rel=>exact ⟨k+1,c9,q9,by omega,by go_num,rfl,HZ⟩
      case measure=>simp [intOf];omega
   have h5b:(x.k == 5)=false:=by simp;exact h5
   have h6b:(x.k == 6)=false:=by simp;exact h6
   have HY:Hid (rwN (fT rows cols) x=x):=by show _=_;unfold rwN;rw [if_neg (by rintro (h | h);exact h5 h;exact h6 h)]
   obtain ⟨xk,xt0,xn,xd0,xx,xr0,xc,xf,xg,xr2,xc2,xf2,xg2,xq⟩:=x;dsimp only at h5 h6 h5b h6b HRN HY HTK;clear HGX;obtain ⟨wb,hwb,XB,KB,-⟩:=zAC wr [iQ xk,sV xt0,.bool xn,iQ xd0,iQ xx,iQ xr0,iQ xc,.bool xf,.bool xg,iQ xr2,iQ xc2,.bool xf2,.bool xg2,iQ xq] 73;have k0_:=(KB 0 _ rfl).1;have HWB:Hid _:=hwb;have VR9:wb.rangeAt wr.heap.size 0 [iQ xk,sV xt0,.bool xn,iQ xd0,iQ xx,iQ xr0,iQ xc,.bool xf,.bool xg,iQ xr2,iQ xc2,.bool xf2,.bool xg2,iQ xq]:=fun j u hu=>by rw [Nat.zero_add];exact (KB j u hu).1
   have E7:Hid _:=XB;clear KB XB hwb;go_upto_region 7 with (refine wpList_load_mid rfl 73 (.tmp 33) rfl b (o+k * 14) rfl _ _ HRN Tryz.underlying73 rfl zBL ?_);rw [HWB.out];clear HRN HWB;obtain ⟨w8,h8,X8,V8,-⟩:=zAC wb [iQ xk,sV xt0,.bool xn,iQ xd0,iQ xx,iQ xr0,iQ xc,.bool xf,.bool xg,iQ xr2,iQ xc2,.bool xf2,.bool xg2,iQ xq] 73;have H8:Hid _:=h8;have E8:=xt E7.out X8;obtain ⟨v',w9,hrun,O9,GW,_⟩:=zDZ w8 w2.heap.size (.slice q k c) L (zAW HO.out E8) (⟨xk,xt0,xn,xd0,xx,xr0,xc,xf,xg,xr2,xc2,xf2,xg2,xq⟩) wb.heap.size (fun z u hu=>by rw [Nat.zero_add];exact (V8 z u hu).1) (by rw [HM.out];omega) (xt HXJ.out E8).size;obtain ⟨q9,c9,ev⟩:∃ q9 c9,v'=.slice q9 (k+1) c9:=by
    obtain ⟨z1,z2,z3,_⟩:=zAR O9;rw [List.length_append,HM.out] at z3;exact ⟨z1,z2,z3⟩
   subst ev;have HZ:Hid (zBA w9 w2.heap.size (.slice q9 (k+1) c9) ((f.take (k+1)).map (rwN (fT rows cols)))/\Ext w2 w9):=⟨by first | (rw [HTK.out,HY.out];exact O9) | (rw [HTK.out,if_pos trivial,if_pos rfl];exact O9),zB6 (xt HXJ.out E8) GW (fun r hr=>(zB4 HO.out r hr).1)⟩;clear O9 GW V8 X8 E8 h8;go_wp2_with (first | (refine wpList_load_mid rfl 73 (.tmp 9) rfl wr.heap.size 0 rfl _ _ VR9 Tryz.underlying73 rfl zBL ?_) | (at_builtin;rw [H8.out];refine Lib.wpList_append_run _ rfl _ _ _ _ rfl _ _ rfl rfl _ _ hrun ?_));go_roundw
   case rel=>exact ⟨k+1,c9,q9,by omega,by go_num,rfl,HZ⟩
   case measure=>simp [intOf];omega
  ·obtain rfl:k=n:=by omega
   have HZ:Hid (zB2 (f.map (rwN (fT rows cols))) w (.returned (.slice q k c)) wr):=by
    obtain ⟨O,XJ⟩:=HJ.out;have ht:f.take k=f:=(by rw [<- HN.out,List.take_length]);rw [ht] at O;obtain ⟨g,h1,h2⟩:=zF5 O;exact ⟨_,g,rfl,h1,fun h=>⟨by have:=(h2 h).1;have:=HS2.out;omega,(h2 h).2⟩,xt X2 XJ⟩
   clear HJ;go_wp2_with fail;go_ret;rw [HU2.out];exact HZ.out
theorem zN8 {l a m n:Int} {d:Bool} (hm:1<=m) (ha:1<=a) (h1:1<=n) (hl:n<=l) (h0:tN l a m d n ≠ 0):tN l a m (!d) (tN l a m d n)=n/\1<=tN l a m d n/\tN l a m d n<=l:=by
 cases d
 ·simp only [tN,Bool.not_false,if_true,Bool.false_eq_true,if_false] at h0 ⊢;by_cases h:n<a
  ·rw [if_pos h,if_pos h];exact ⟨rfl,h1,hl⟩
  ·rw [if_neg h] at h0 ⊢;by_cases h':l<n+m
   ·rw [if_pos h'] at h0;exact absurd rfl h0
   ·rw [if_neg h',if_neg (by omega),if_neg (by omega)];omega
 ·simp only [tN,Bool.not_true,if_true,Bool.false_eq_true,if_false] at h0 ⊢;by_cases h:n<a
  ·rw [if_pos h,if_pos h];exact ⟨rfl,h1,hl⟩
  ·rw [if_neg h] at h0 ⊢;by_cases h':n<a+m
   ·rw [if_pos h'] at h0;exact absurd rfl h0
   ·rw [if_neg h',if_neg (by omega),if_neg (by omega)];omega
theorem zQ2 {k a m:Int} {d:Bool} {r c:Int} {f g:Bool} {n1 n2:Int} {n3 n4:Bool} (h:trB k a m d r c f g=.tuple #[refV n1 n2 n3 n4,.bool true]) (hb:zBB k a m (!d)=true):trB k a m (!d) n1 n2 n3 n4=.tuple #[refV r c f g,.bool true]:=by
 unfold trB at h ⊢;rw [hb];have hb':=hb;unfold zBB at hb';rw [decide_eq_true_eq] at hb'
 split at h
 ·next hg =>
  have hr:(1<=r/\r<=1000)/\1<=c/\c<=200:=by have:=hg.2;unfold zAA at this;exact of_decide_eq_true this
  split at h
  ·next hk =>
   split at h
   ·simp at h
   ·next h0 =>
    simp only [Value.tuple.injEq,Array.mk.injEq,List.cons.injEq,Value.agg.injEq,Value.int.injEq,Value.bool.injEq,and_true,true_and] at h;obtain ⟨rfl,rfl,rfl,rfl⟩:=h;obtain ⟨e1,e2,e3⟩:=zN8 hb'.2.1.1 hb'.2.2.1.1 hr.1.1 hr.1.2 h0;rw [if_pos ⟨rfl,decide_eq_true (by omega)⟩,if_pos hk,e1,if_neg (by omega)]
  ·next hk =>
   split at h
   ·simp at h
   ·next h0 =>
    simp only [Value.tuple.injEq,Array.mk.injEq,List.cons.injEq,Value.agg.injEq,Value.int.injEq,Value.bool.injEq,and_true,true_and] at h;obtain ⟨rfl,rfl,rfl,rfl⟩:=h;obtain ⟨e1,e2,e3⟩:=zN8 hb'.2.1.1 hb'.2.2.1.1 hr.2.1 hr.2.2 h0;rw [if_pos ⟨rfl,decide_eq_true (by omega)⟩,if_neg hk,e1,if_neg (by omega)]
 ·simp at h
theorem zMQ (k:Int) (z:AT):(zDN k z).k=5\/(zDN k z).k=6:=by
 unfold zDN
 split
 ·exact .inl rfl
 ·exact .inr rfl
theorem zLB {T:AT->Option AT} (hT:∀ x z,zAZ x.r x.c x.r2 x.c2=true->T x=some z->zAZ z.r z.c z.r2 z.c2=true):zIE NT.good (rwN T):=by
 refine ⟨fun n=>?_,fun n h=>?_⟩
 ·unfold rwN
  split
  ·next hk =>
   refine .inr ⟨hk,?_⟩;cases T n.at with
   | none=>exact .inl rfl
   | some z=>exact .inr (zMQ _ z)
  ·exact .inl rfl
 ·unfold rwN
  split
  ·next hk =>
   have hq:n.q=0:=by
    rcases hk with hk | hk
    ·obtain ⟨_,_,_,_,rfl⟩:=zRA h hk;rfl
    ·obtain ⟨_,_,_,_,_,_,_,_,rfl⟩:=zR9 h hk;rfl
   have he:=zJ9 h hk;cases hz:T n.at with
   | none=>exact ⟨by unfold zE4 zB9 NT.good zAB;simp;decide,hq.symm⟩
   | some z =>
    have hg:=hT _ z he hz;unfold zAZ at hg;rw [Bool.and_eq_true] at hg
    rcases hk with hk | hk
    ·rw [hk];refine ⟨?_,hq.symm⟩;show (NT.mk 5 [] false 0 0 z.r z.c z.f z.g 0 0 false false 0).good=true;unfold NT.good zAB;simp [hg.1]
    ·rw [hk];refine ⟨?_,hq.symm⟩;show (NT.mk 6 [] false 0 0 z.r z.c z.f z.g z.r2 z.c2 z.f2 z.g2 0).good=true;unfold NT.good zAB;simp [hg.1,hg.2]
  ·exact ⟨h,rfl⟩
theorem zST (k a m:Int) (d:Bool) (x z:AT) (h:tT k a m d x=some z):zAZ z.r z.c z.r2 z.c2=true:=by
 unfold tT at h
 split at h
 ·next hg =>
  have hg1:=hg.1;unfold zBB at hg1;rw [decide_eq_true_eq] at hg1;have hr:=hg.2;unfold zAZ zAA at hr;rw [Bool.and_eq_true,decide_eq_true_eq,decide_eq_true_eq] at hr;have L1:=zGT x.r x.r2;have L2:=zFZ x.r x.r2;have L3:=zGT x.c x.c2;have L4:=zFZ x.c x.c2;obtain ⟨k12,m1,a1,d1⟩:=hg1
  split at h
  ·next hk =>
   subst hk;have hl:limT 1=1000:=rfl;rw [hl] at a1 d1;have S:=zFJ (l:=1000) (a:=a) (m:=m) (d:=d) m1.1 a1.1 a1.2 d1 (A:=lo x.r x.r2) (B:=hi x.r x.r2) (by omega) (by omega) (by omega)
   split at h
   ·cases h
   ·next h0 =>
    rcases S with S | S
    ·exact absurd S.2 h0
    split at h
    ·cases h;unfold zAZ zAA;simp only [Bool.and_eq_true,decide_eq_true_eq];omega
    ·cases h;unfold zAZ zAA;simp only [Bool.and_eq_true,decide_eq_true_eq];omega
  ·next hk =>
   have hl:limT k=200:=by unfold limT;rw [if_neg hk]
   rw [hl] at a1 d1;have S:=zFJ (l:=200) (a:=a) (m:=m) (d:=d) m1.1 a1.1 a1.2 d1 (A:=lo x.c x.c2) (B:=hi x.c x.c2) (by omega) (by omega) (by omega)
   split at h
   ·cases h
   ·next h0 =>
    rcases S with S | S
    ·exact absurd S.2 h0
    split at h
    ·cases h;unfold zAZ zAA;simp only [Bool.and_eq_true,decide_eq_true_eq];omega
    ·cases h;unfold zAZ zAA;simp only [Bool.and_eq_true,decide_eq_true_eq];omega
 ·cases h
theorem zU4 (rows cols:Int) (x z:AT) (h:fT rows cols x=some z):zAZ z.r z.c z.r2 z.c2=true:=by
 unfold fT at h
 split at h
 ·next hg=>cases h;exact hg
 ·cases h
theorem zLV (k a m:Int) (d:Bool) (f:List NT) (h:zDC k a m d f ≠ []):zAS NT.good (zDC k a m d f)=true:=by
 unfold zDC rwR at h ⊢
 split at h
 ·next hg =>
  rw [if_pos hg]
  split at h
  ·next hf=>rw [if_pos hf];exact zLF zMF (zLB fun x z _ hz=>zST k a m d x z hz) f hf
  ·exact absurd rfl h
 ·exact absurd rfl h
def zD3 (f:List NT):Bool:=f.any fun x=>decide (x.k=4) && (x.t == [35,82,69,70,33])
theorem zCV (r:Int) (fix:Bool) (d:Int):zAX (zAX r fix d) fix (-d)=r:=by
 unfold zAX;cases fix
 ·simp only [Bool.false_eq_true,if_false];omega
 ·rfl
theorem zU5 (rows cols:Int) (x:NT) (h:x.good=true) (hn:(decide ((rwN (fT rows cols) x).k=4) && ((rwN (fT rows cols) x).t == [35,82,69,70,33]))=false):rwN (fT (-rows) (-cols)) (rwN (fT rows cols) x)=x:=by
 by_cases h5:x.k=5
 ·obtain ⟨r,c,f,g,rfl⟩:=zRA h h5;have hg:zAA r c=true:=by unfold NT.good zAB at h;simpa using h
  have e1:rwN (fT rows cols) ⟨5,[],false,0,0,r,c,f,g,0,0,false,false,0⟩=zE4 5 (fT rows cols ⟨r,c,f,g,r,c,f,g⟩):=rfl;rw [e1,fT_5] at hn ⊢
  split at hn
  ·next h1 =>
   rw [if_pos h1];have e2:∀ s d:Int,rwN (fT (-rows) (-cols)) ⟨5,[],false,0,0,s,d,f,g,0,0,false,false,0⟩=zE4 5 (fT (-rows) (-cols) ⟨s,d,f,g,s,d,f,g⟩):=fun _ _=>rfl;rw [e2,fT_5,zCV,zCV,if_pos hg]
  ·exact absurd hn (by decide)
 by_cases h6:x.k=6
 ·obtain ⟨r,c,f,g,r2,c2,f2,g2,rfl⟩:=zR9 h h6;have hg:zAA r c=true/\zAA r2 c2=true:=by unfold NT.good zAB at h;simpa using h
  have e1:rwN (fT rows cols) ⟨6,[],false,0,0,r,c,f,g,r2,c2,f2,g2,0⟩=zE4 6 (fT rows cols ⟨r,c,f,g,r2,c2,f2,g2⟩):=rfl;rw [e1,fT_6] at hn ⊢
  split at hn
  ·next h1 =>
   split at hn
   ·next h2 =>
    rw [if_pos h1,if_pos h2];have e2:∀ s d s2 d2:Int,rwN (fT (-rows) (-cols)) ⟨6,[],false,0,0,s,d,f,g,s2,d2,f2,g2,0⟩=zE4 6 (fT (-rows) (-cols) ⟨s,d,f,g,s2,d2,f2,g2⟩):=fun _ _ _ _=>rfl;rw [e2,fT_6,zCV,zCV,zCV,zCV,if_pos hg.1,if_pos hg.2]
   ·exact absurd hn (by decide)
  ·exact absurd hn (by decide)
 ·have e0:∀ T,rwN T x=x:=fun T=>by unfold rwN;rw [if_neg (by omega)]
  rw [e0,e0]
theorem zGU {n:Int} (h:zAT n=true):zAT (-n)=true:=by
 unfold zAT at h ⊢;simp only [Bool.and_eq_true,decide_eq_true_eq] at h ⊢;omega
theorem zQB (f:List NT) (h:zAS NT.good f=true):∀ x ∈ f,x.good=true:=zEK h
theorem zP6 (rows cols:Int) (f:List NT) (h:zCD rows cols f ≠ []) (hn:zD3 (zCD rows cols f)=false):zCD (-rows) (-cols) (zCD rows cols f)=f:=by
 unfold zCD at h hn ⊢
 split at h
 ·next hf =>
  rw [if_pos hf] at hn ⊢;rw [Bool.and_eq_true] at hf;rw [if_pos (by rw [zGU hf.1,zGU hf.2];rfl)];unfold rwR at h hn ⊢
  split at h
  ·next hg =>
   rw [if_pos hg] at hn ⊢;rw [if_pos (zLF zMF (zLB fun x z _ hz=>zU4 rows cols x z hz) f hg),List.map_map];have hb:∀ x ∈ f,(rwN (fT (-rows) (-cols)) ∘ rwN (fT rows cols)) x=x:=by
    intro x hx;refine zU5 rows cols x (zQB f hg x hx) ?_;unfold zD3 at hn;rw [List.any_eq_false] at hn;have:=hn _ (List.mem_map_of_mem hx);simpa using this
   rw [List.map_congr_left hb,List.map_id']
  ·exact absurd rfl h
 ·exact absurd rfl h
theorem zOD:zB9.fits:=⟨by decide,by decide,by decide⟩
theorem zQC (T:AT->Option AT) {x:NT} (h:x.fits):(rwN T x).fits:=by
 unfold rwN
 split
 ·cases T x.at with
  | none=>exact zOD
  | some z =>
   show (zDN x.k z).fits;unfold zDN
   split
   ·exact ⟨Nat.zero_le _,by show (-9223372036854775808:Int)<=0;decide,by show (0:Int)<=9223372036854775807;decide⟩
   ·exact ⟨Nat.zero_le _,by show (-9223372036854775808:Int)<=0;decide,by show (0:Int)<=9223372036854775807;decide⟩
 ·exact h
theorem zKX (T:AT->Option AT) {f:List NT} (h:∀ x ∈ f,x.fits):∀ y ∈ rwR T f,y.fits:=by
 intro y hy;unfold rwR at hy
 split at hy
 ·obtain ⟨x,hx,rfl⟩:=List.mem_map.1 hy;exact zQC T (h x hx)
 ·cases hy
theorem zKW (T:AT->Option AT) (f:List NT):(rwR T f).length<=f.length:=by
 unfold rwR
 split
 ·rw [List.length_map];exact Nat.le_refl _
 ·exact Nat.zero_le _
theorem zLW (k a m:Int) (d:Bool) {f:List NT} (h:∀ x ∈ f,x.fits):(∀ y ∈ zDC k a m d f,y.fits)/\(zDC k a m d f).length<=f.length:=by
 unfold zDC
 split
 ·exact ⟨zKX _ h,zKW _ _⟩
 ·exact ⟨fun y hy=>absurd hy (by simp),Nat.zero_le _⟩
theorem zMJ (rows cols:Int) {f:List NT} (h:∀ x ∈ f,x.fits):(∀ y ∈ zCD rows cols f,y.fits)/\(zCD rows cols f).length<=f.length:=by
 unfold zCD
 split
 ·exact ⟨zKX _ h,zKW _ _⟩
 ·exact ⟨fun y hy=>absurd hy (by simp),Nat.zero_le _⟩
structure WdT (w:World):Prop where
 t:Tens w
 e:zBC w
 o:zC1 w
 l:LibW w
 i:zC2 w
theorem WdT.k {w w':World} (h:WdT w) (x:Ext w w'):WdT w':=⟨h.t.l x,h.e.l x,h.o.l x,h.l.l x,h.i.laterG x⟩
theorem zCI {l:List NT} {w w':World} {e:Ending} (h:zB2 l w e w'):∃ p cap,e=.returned (.slice p l.length cap)/\zAI w' (.slice p l.length cap) l/\Ext w w':=by
 obtain ⟨v,g,rfl,hN,_,X⟩:=h;obtain ⟨p,cap,rfl,h2,h3⟩:=hN.nodes;exact ⟨p,cap,rfl,⟨p,cap,rfl,h2,h3⟩,X⟩
theorem zD2.laterT {w w':World} {v:Value} {n:Nat} (h:zD2 w w.heap.size v n) (x:Ext w w'):zD2 w' w'.heap.size v n:=by
 rcases h with h | ⟨pb,po,cap,h1,h2,h3,h4⟩
 ·exact .inl h
 ·refine .inr ⟨pb,po,cap,Nat.lt_of_lt_of_le h1 x.size,h2,h3,fun i hi=>?_⟩;obtain ⟨z,z0,z1,hz⟩:=h4 i hi;exact ⟨z,z0,z1,cell_later x hz⟩
end Go.Proofs.YteliaeejooekbaaGreatDoor
