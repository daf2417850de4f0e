import Derived.Test.YteliaeejooekbaaGreatDoorMg15
import Derived.Test.YteliaeejooekbaaGreatDoorMg37
import Derived.Test.YteliaeejooekbaaGreatDoorMg12
import Derived.Test.YteliaeejooekbaaGreatDoorMg10
import Derived.Test.YteliaeejooekbaaGreatDoorFo
import Derived.Deep.DeepCutAuto
set_option maxRecDepth 8000
set_option maxHeartbeats 8000000
namespace Go.Proofs.YteliaeejooekbaaGreatDoor
open Go.RowKit
def mT (D:Bool) (R0 R1 C0 C1 dx dy:Int) (x:AT):Option AT:=
 if (D && insB R0 R1 C0 C1 x.r x.c)=true/\(D && insB R0 R1 C0 C1 x.r2 x.c2)=true then some ⟨x.r+dx,x.c+dy,x.f,x.g,x.r2+dx,x.c2+dy,x.f2,x.g2⟩ else some x
def mTm (r c r' c' x y:Int):AT->Option AT:=mT (zBA r c r' c' x y) (lo r r') (hi r r') (lo c c') (hi c c') (x - lo r r') (y - lo c c')
noncomputable def zEW (r c r' c' x y:Int) (f:List NT):List NT:=rwR (mTm r c r' c' x y) f
theorem zSL (r c:Int) (f g:Bool) (r' c':Int) (f' g':Bool) (x y:Int) (bx : -9223372036854775808<=x/\x<=9223372036854775807) (by' : -9223372036854775808<=y/\y<=9223372036854775807) :
  ∃ (D:Bool) (R0 R1 C0 C1 G0 G1 H0 H1 dx dy:Int),(∀ w,Calls Tryz.prog 48 #[moV r c f g r' c' f' g' x y] w fun e w'=>(∃ v,e=.returned v/\MbQ D R0 R1 C0 C1 G0 G1 H0 H1 w' v)/\Ext w w') /\
   (mT D R0 R1 C0 C1 dx dy=mTm r c r' c' x y)/\(∀ s d,D=true->insB R0 R1 C0 C1 s d=true->IntKind.i64.wrap (G0 - R0)=dx/\IntKind.i64.wrap (H0 - C0)=dy/\IntKind.i64.wrap (s+dx)=s+dx/\IntKind.i64.wrap (d+dy)=d+dy):=by
 cases hg:zAV r c r' c'
 ·have hd:zBA r c r' c' x y=false:=by unfold zBA;rw [hg];rfl
  refine ⟨false,0,0,0,0,_,_,_,_,0,0,zJM r c f g r' c' f' g' x y 0 0 0 0 _ _ _ _ false (fun w=>zSA r c f g r' c' f' g' x y w 0 0 0 0 _ _ false (zGR r c f g r' c' f' g' hg) rfl rfl _ _ _ _ rfl rfl rfl rfl (by rw [hg];rfl)),?_,fun _ _ h=>by cases h⟩
  funext a
  unfold mTm mT;rw [hd];simp
 ·have gb:=zF2 hg;have L1:=zED r r';have L2:=zED c c';have L3:=zEZ r r';have L4:=zEZ c c';obtain ⟨dx,hdx⟩:=nm (IntKind.i64.wrap (x - lo r r'));obtain ⟨dy,hdy⟩:=nm (IntKind.i64.wrap (y - lo c c'));obtain ⟨g1,hg1⟩:=nm (IntKind.i64.wrap (hi r r'+dx));obtain ⟨h1,hh1⟩:=nm (IntKind.i64.wrap (hi c c'+dy));have e0:IntKind.i64.wrap (lo r r'+dx)=x:=by rw [<- hdx,IntKind.wrap_i64,IntKind.wrap_i64];omega
  have e1:IntKind.i64.wrap (lo c c'+dy)=y:=by rw [<- hdy,IntKind.wrap_i64,IntKind.wrap_i64];omega
  have hD:zBA r c r' c' x y=(zAV r c r' c' && zAV x y g1 h1):=by
   unfold zBA;rw [hg,Bool.true_and,Bool.true_and];unfold zAV;cases hp:zAL x y
   ·rfl
   ·have hp':(1<=x/\x<=1000)/\1<=y/\y<=200:=of_decide_eq_true hp;have a1:dx=x - lo r r':=(by rw [<- hdx,IntKind.wrap_i64];omega);have a2:dy=y - lo c c':=(by rw [<- hdy,IntKind.wrap_i64];omega);have a3:g1=hi r r'+(x - lo r r'):=(by rw [<- hg1,a1,IntKind.wrap_i64];omega);have a4:h1=hi c c'+(y - lo c c'):=(by rw [<- hh1,a2,IntKind.wrap_i64];omega);rw [a3,a4]
  refine ⟨zBA r c r' c' x y,lo r r',hi r r',lo c c',hi c c',x,g1,y,h1,x - lo r r',y - lo c c',zJM r c f g r' c' f' g' x y _ _ _ _ _ _ _ _ _ (fun w=>zSA r c f g r' c' f' g' x y w _ _ _ _ dx dy _ (fun w=>zOU r c f g r' c' f' g' w hg) hdx hdy x g1 y h1 e0 hg1 e1 hh1 hD),rfl,fun s d hd hi=>?_⟩;have bd:=zE9 hd;have hi':=of_decide_eq_true hi;rw [IntKind.wrap_i64,IntKind.wrap_i64,IntKind.wrap_i64,IntKind.wrap_i64];omega
theorem zVU (D:Bool) (R0 R1 C0 C1 G0 G1 H0 H1 dx dy:Int) (HS:∀ s d,D=true->insB R0 R1 C0 C1 s d=true->IntKind.i64.wrap (G0 - R0)=dx/\IntKind.i64.wrap (H0 - C0)=dy/\IntKind.i64.wrap (s+dx)=s+dx/\IntKind.i64.wrap (d+dy)=d+dy)
  (Bc b5 b3 b4:Nat) (x:AT) (w:World) (VB:Vec w Bc [.func (.func 73) #[] #[.pointer (some ⟨b5,0,none⟩),.pointer (some ⟨b3,0,none⟩),.pointer (some ⟨b4,0,none⟩)]]) (V5:Vec w b5 [.bool D]) (V3:Vec w b3 [iQ R0,iQ R1,iQ C0,iQ C1]) (V4:Vec w b4 [iQ G0,iQ G1,iQ H0,iQ H1]) :
  Calls Tryz.prog 52 #[x.val,.pointer (some ⟨Bc,0,none⟩)] w fun e w'=>(∃ b:AT,e=.returned (.tuple #[b.val,.bool (mT D R0 R1 C0 C1 dx dy x).isSome])/\∀ z,mT D R0 R1 C0 C1 dx dy x=some z->b=z)/\Ext w w':=by
 obtain ⟨r,c,f,g,r2,c2,f2,g2⟩:=x;have C1':=fun W (X:Ext w W)=>zKO D R0 R1 C0 C1 G0 G1 H0 H1 dx dy r c f g b5 b3 b4 W (V5.l X) (V3.l X) (V4.l X) (r+dx) (c+dy) (fun h1 h2=>HS r c h1 h2);have C2':=fun W (X:Ext w W)=>zKO D R0 R1 C0 C1 G0 G1 H0 H1 dx dy r2 c2 f2 g2 b5 b3 b4 W (V5.l X) (V3.l X) (V4.l X) (r2+dx) (c2+dy) (fun h1 h2=>HS r2 c2 h1 h2);have K1:∃ n1 n2,(if D=true/\insB R0 R1 C0 C1 r c=true then refV (r+dx) (c+dy) f g else refV r c f g)=refV n1 n2 f g/\((D && insB R0 R1 C0 C1 r c)=true->n1=r+dx/\n2=c+dy):=by
  cases D <;> cases insB R0 R1 C0 C1 r c <;> exact ⟨_,_,rfl,by simp⟩
 have K2:∃ n5 n6,(if D=true/\insB R0 R1 C0 C1 r2 c2=true then refV (r2+dx) (c2+dy) f2 g2 else refV r2 c2 f2 g2)=refV n5 n6 f2 g2/\((D && insB R0 R1 C0 C1 r2 c2)=true->n5=r2+dx/\n6=c2+dy):=by
  cases D <;> cases insB R0 R1 C0 C1 r2 c2 <;> exact ⟨_,_,rfl,by simp⟩
 obtain ⟨n1,n2,k1,m1⟩:=K1;obtain ⟨n5,n6,k2,m2⟩:=K2;rw [k1] at C1';rw [k2] at C2';have hmT:mT D R0 R1 C0 C1 dx dy ⟨r,c,f,g,r2,c2,f2,g2⟩=if (D && insB R0 R1 C0 C1 r c)=true/\(D && insB R0 R1 C0 C1 r2 c2)=true then some ⟨r+dx,c+dy,f,g,r2+dx,c2+dy,f2,g2⟩ else some ⟨r,c,f,g,r2,c2,f2,g2⟩:=rfl;obtain ⟨OP,hOP⟩:=nm (mT D R0 R1 C0 C1 dx dy ⟨r,c,f,g,r2,c2,f2,g2⟩);rw [hOP] at hmT ⊢;obtain ⟨q1,hq1⟩:=nm ((D && insB R0 R1 C0 C1 r c));obtain ⟨q2,hq2⟩:=nm ((D && insB R0 R1 C0 C1 r2 c2));rw [hq1] at C1' hmT m1;rw [hq2] at C2' hmT m2;have hs:OP.isSome=true:=by rw [hmT];split <;> rfl
 rw [hs];have HY:Hid (q1=true->q2=true->∀ z,OP=some z->(⟨n1,n2,f,g,n5,n6,f2,g2⟩:AT)=z):=fun a b z hz=>by
  rw [hmT,if_pos ⟨a,b⟩] at hz;obtain ⟨rfl,rfl⟩:=m1 a;obtain ⟨rfl,rfl⟩:=m2 b;exact Option.some.inj hz
 have HN1:Hid (q1=false->∀ z,OP=some z->(⟨r,c,f,g,r2,c2,f2,g2⟩:AT)=z):=fun a z hz=>by
  rw [hmT,if_neg (fun h=>by rw [a] at h;cases h.1)] at hz;exact Option.some.inj hz
 have HN2:Hid (q2=false->∀ z,OP=some z->(⟨r,c,f,g,r2,c2,f2,g2⟩:AT)=z):=fun a z hz=>by
  rw [hmT,if_neg (fun h=>by rw [a] at h;cases h.2)] at hz;exact Option.some.inj hz
 have HC1:Hid _:=C1';have HC2:Hid _:=C2';have XB:Ext w ((w.alloc (.cells #[iQ r,iQ c,.bool f,.bool g,iQ r2,iQ c2,.bool f2,.bool g2] 43)).alloc (.cells #[iQ 0,iQ 0,.bool false,.bool false,iQ 0,iQ 0,.bool false,.bool false] 43)):=xa (x1 _ _) _;have VA:Vec ((w.alloc (.cells #[iQ r,iQ c,.bool f,.bool g,iQ r2,iQ c2,.bool f2,.bool g2] 43)).alloc (.cells #[iQ 0,iQ 0,.bool false,.bool false,iQ 0,iQ 0,.bool false,.bool false] 43)) w.heap.size [iQ r,iQ c,.bool f,.bool g,iQ r2,iQ c2,.bool f2,.bool g2]:=(zA5 w [iQ r,iQ c,.bool f,.bool g,iQ r2,iQ c2,.bool f2,.bool g2] 43).l (x1 _ _);have VZ:=zA5 (w.alloc (.cells #[iQ r,iQ c,.bool f,.bool g,iQ r2,iQ c2,.bool f2,.bool g2] 43)) [iQ 0,iQ 0,.bool false,.bool false,iQ 0,iQ 0,.bool false,.bool false] 43;change Vec ((w.alloc (.cells #[iQ r,iQ c,.bool f,.bool g,iQ r2,iQ c2,.bool f2,.bool g2] 43)).alloc (.cells #[iQ 0,iQ 0,.bool false,.bool false,iQ 0,iQ 0,.bool false,.bool false] 43)) _ _ at VZ;rw [World.size_alloc] at VZ;obtain ⟨wb,hwb⟩:=nm ((w.alloc (.cells #[iQ r,iQ c,.bool f,.bool g,iQ r2,iQ c2,.bool f2,.bool g2] 43)).alloc (.cells #[iQ 0,iQ 0,.bool false,.bool false,iQ 0,iQ 0,.bool false,.bool false] 43));have HWB:Hid _:=hwb;rw [hwb] at XB VA VZ;have HVB:Hid _:=VB;clear VB V5 V3 V4 C1' C2' k1 k2 m1 m2 hmT hOP hq1 hq2 hs hwb HS;have cB:=(Vec.l HVB.out XB 0 _ rfl).1;obtain ⟨a0,a1,a2,a3⟩:=vC4 VA;go_enter Tryz.func52,Tryz.ntmps52;go_upto_region 1 with fail;rw [HWB.out];go_wp2_with fail;refine (HC1.out wb XB).mono ?_;rintro e w5 ⟨rfl,e5⟩;clear cB a0 a1 a2 a3 HC1 HWB;have X6:Ext w (w5.alloc (.cells #[iQ n1,iQ n2,.bool f,.bool g] 26)):=xa (xt XB e5) _;have VA6:=(VA.l e5).l (x1 w5 (.cells #[iQ n1,iQ n2,.bool f,.bool g] 26));have VZ6:=(VZ.l e5).l (x1 w5 (.cells #[iQ n1,iQ n2,.bool f,.bool g] 26));have VN6:=zA5 w5 [iQ n1,iQ n2,.bool f,.bool g] 26;change Vec (w5.alloc (.cells #[iQ n1,iQ n2,.bool f,.bool g] 26)) _ _ at VN6;have l5:w.heap.size+1<w5.heap.size:=zEF (VZ.l e5);obtain ⟨w6,h6⟩:=nm (w5.alloc (.cells #[iQ n1,iQ n2,.bool f,.bool g] 26));have HW6:Hid _:=h6;rw [h6] at X6 VA6 VZ6 VN6;clear h6 VA VZ XB e5;go_upto_region 2 with fail;rw [HW6.out];have cB:=(Vec.l HVB.out X6 0 _ rfl).1;have a4:=(VA6 4 _ rfl).1;have a5:=(VA6 5 _ rfl).1;have a6:=(VA6 6 _ rfl).1;have a7:=(VA6 7 _ rfl).1;go_wp2_with fail;refine (HC2.out w6 X6).mono ?_;rintro e w7 ⟨rfl,e7⟩;clear cB a4 a5 a6 a7 HC2 HW6 HVB;have X8:Ext w (w7.alloc (.cells #[iQ n5,iQ n6,.bool f2,.bool g2] 26)):=xa (xt X6 e7) _;have VA8:=(VA6.l e7).l (x1 w7 (.cells #[iQ n5,iQ n6,.bool f2,.bool g2] 26));have VZ8:=(VZ6.l e7).l (x1 w7 (.cells #[iQ n5,iQ n6,.bool f2,.bool g2] 26));have VN8:=(VN6.l e7).l (x1 w7 (.cells #[iQ n5,iQ n6,.bool f2,.bool g2] 26));have VM8:=zA5 w7 [iQ n5,iQ n6,.bool f2,.bool g2] 26;change Vec (w7.alloc (.cells #[iQ n5,iQ n6,.bool f2,.bool g2] 26)) _ _ at VM8;obtain ⟨w8,h8⟩:=nm (w7.alloc (.cells #[iQ n5,iQ n6,.bool f2,.bool g2] 26));have HW8:Hid _:=h8;rw [h8] at X8 VA8 VZ8 VN8 VM8;clear h8 VA6 VZ6 VN6 X6 e7;go_upto_region 3 with fail;rw [HW8.out];clear HW8;have VT:w8.there (w.heap.size+1) 0 8:=zAE VZ8 (by simp);cases q1
 ·obtain ⟨a0,a1,a2,a3,a4,a5,a6,a7⟩:=vC8 VA8;have one:(#[iQ r,iQ c,.bool f,.bool g,iQ r2,iQ c2,.bool f2,.bool g2]:Array Value).all (·.oneCell')=true:=by simp [Value.oneCell']
  have VR:=World.rangeAt_setCells_same w8 (w.heap.size+1) 0 [iQ r,iQ c,.bool f,.bool g,iQ r2,iQ c2,.bool f2,.bool g2] VT;have XR:=Ext.setCells (b:=w.heap.size+1) (by omega) [iQ r,iQ c,.bool f,.bool g,iQ r2,iQ c2,.bool f2,.bool g2] 0 w8 X8;obtain ⟨wh,hwh⟩:=nm (w8.setCells (w.heap.size+1) 0 [iQ r,iQ c,.bool f,.bool g,iQ r2,iQ c2,.bool f2,.bool g2]);have HWH:Hid _:=hwh;rw [hwh] at VR XR;have z0:=zA0 VR (i:=0) rfl;have z1:=zA0 VR (i:=1) rfl;have z2:=zA0 VR (i:=2) rfl;have z3:=zA0 VR (i:=3) rfl;have z4:=zA0 VR (i:=4) rfl;have z5:=zA0 VR (i:=5) rfl;have z6:=zA0 VR (i:=6) rfl;have z7:=zA0 VR (i:=7) rfl;have HZ:Hid (∀ z,OP=some z->(⟨r,c,f,g,r2,c2,f2,g2⟩:AT)=z):=HN1.out rfl;clear hwh VR VZ8 VA8 VN8 VM8 X8 HY HN1 HN2;go_wp2_with (refine wpList_store_mid rfl _ _ _ rfl (w.heap.size+1) 0 #[iQ r,iQ c,.bool f,.bool g,iQ r2,iQ c2,.bool f2,.bool g2] rfl rfl VT hi8T one ?_;show wpList _ _ _ _ _ (w8.setCells (w.heap.size+1) 0 [iQ r,iQ c,.bool f,.bool g,iQ r2,iQ c2,.bool f2,.bool g2]);rw [HWH.out]);exact bodyPost_ret (v:=.tuple #[.agg #[iQ r,iQ c,.bool f,.bool g,iQ r2,iQ c2,.bool f2,.bool g2],.bool true]) (by simp [results,Tryz.results52,go_sem,z0,z1,z2,z3,z4,z5,z6,z7]) rfl ⟨⟨⟨r,c,f,g,r2,c2,f2,g2⟩,rfl,HZ.out⟩,XR⟩
 cases q2
 ·obtain ⟨a0,a1,a2,a3,a4,a5,a6,a7⟩:=vC8 VA8;have one:(#[iQ r,iQ c,.bool f,.bool g,iQ r2,iQ c2,.bool f2,.bool g2]:Array Value).all (·.oneCell')=true:=by simp [Value.oneCell']
  have VR:=World.rangeAt_setCells_same w8 (w.heap.size+1) 0 [iQ r,iQ c,.bool f,.bool g,iQ r2,iQ c2,.bool f2,.bool g2] VT;have XR:=Ext.setCells (b:=w.heap.size+1) (by omega) [iQ r,iQ c,.bool f,.bool g,iQ r2,iQ c2,.bool f2,.bool g2] 0 w8 X8;obtain ⟨wh,hwh⟩:=nm (w8.setCells (w.heap.size+1) 0 [iQ r,iQ c,.bool f,.bool g,iQ r2,iQ c2,.bool f2,.bool g2]);have HWH:Hid _:=hwh;rw [hwh] at VR XR;have z0:=zA0 VR (i:=0) rfl;have z1:=zA0 VR (i:=1) rfl;have z2:=zA0 VR (i:=2) rfl;have z3:=zA0 VR (i:=3) rfl;have z4:=zA0 VR (i:=4) rfl;have z5:=zA0 VR (i:=5) rfl;have z6:=zA0 VR (i:=6) rfl;have z7:=zA0 VR (i:=7) rfl;have HZ:Hid (∀ z,OP=some z->(⟨r,c,f,g,r2,c2,f2,g2⟩:AT)=z):=HN2.out rfl;clear hwh VR VZ8 VA8 VN8 VM8 X8 HY HN1 HN2;go_wp2_with (refine wpList_store_mid rfl _ _ _ rfl (w.heap.size+1) 0 #[iQ r,iQ c,.bool f,.bool g,iQ r2,iQ c2,.bool f2,.bool g2] rfl rfl VT hi8T one ?_;show wpList _ _ _ _ _ (w8.setCells (w.heap.size+1) 0 [iQ r,iQ c,.bool f,.bool g,iQ r2,iQ c2,.bool f2,.bool g2]);rw [HWH.out]);exact bodyPost_ret (v:=.tuple #[.agg #[iQ r,iQ c,.bool f,.bool g,iQ r2,iQ c2,.bool f2,.bool g2],.bool true]) (by simp [results,Tryz.results52,go_sem,z0,z1,z2,z3,z4,z5,z6,z7]) rfl ⟨⟨⟨r,c,f,g,r2,c2,f2,g2⟩,rfl,HZ.out⟩,XR⟩
 ·have s0:=vC4 VN8;have t0:=vC4 VM8;have one:(#[iQ n1,iQ n2,.bool f,.bool g,iQ n5,iQ n6,.bool f2,.bool g2]:Array Value).all (·.oneCell')=true:=by simp [Value.oneCell']
  have VR:=World.rangeAt_setCells_same w8 (w.heap.size+1) 0 [iQ n1,iQ n2,.bool f,.bool g,iQ n5,iQ n6,.bool f2,.bool g2] VT;have XR:=Ext.setCells (b:=w.heap.size+1) (by omega) [iQ n1,iQ n2,.bool f,.bool g,iQ n5,iQ n6,.bool f2,.bool g2] 0 w8 X8;obtain ⟨wh,hwh⟩:=nm (w8.setCells (w.heap.size+1) 0 [iQ n1,iQ n2,.bool f,.bool g,iQ n5,iQ n6,.bool f2,.bool g2]);have HWH:Hid _:=hwh;rw [hwh] at VR XR;have z0:=zA0 VR (i:=0) rfl;have z1:=zA0 VR (i:=1) rfl;have z2:=zA0 VR (i:=2) rfl;have z3:=zA0 VR (i:=3) rfl;have z4:=zA0 VR (i:=4) rfl;have z5:=zA0 VR (i:=5) rfl;have z6:=zA0 VR (i:=6) rfl;have z7:=zA0 VR (i:=7) rfl;have HZ:Hid (∀ z,OP=some z->(⟨n1,n2,f,g,n5,n6,f2,g2⟩:AT)=z):=HY.out rfl rfl;clear hwh VR VZ8 VA8 VN8 VM8 X8 HY HN1 HN2;go_wp2_with (refine wpList_store_mid rfl _ _ _ rfl (w.heap.size+1) 0 #[iQ n1,iQ n2,.bool f,.bool g,iQ n5,iQ n6,.bool f2,.bool g2] rfl rfl VT hi8T one ?_;show wpList _ _ _ _ _ (w8.setCells (w.heap.size+1) 0 [iQ n1,iQ n2,.bool f,.bool g,iQ n5,iQ n6,.bool f2,.bool g2]);rw [HWH.out]);exact bodyPost_ret (v:=.tuple #[.agg #[iQ n1,iQ n2,.bool f,.bool g,iQ n5,iQ n6,.bool f2,.bool g2],.bool true]) (by simp [results,Tryz.results52,go_sem,z0,z1,z2,z3,z4,z5,z6,z7]) rfl ⟨⟨⟨n1,n2,f,g,n5,n6,f2,g2⟩,rfl,HZ.out⟩,XR⟩
theorem zUQ (r c:Int) (f g:Bool) (r' c':Int) (f' g':Bool) (x y:Int) (bx : -9223372036854775808<=x/\x<=9223372036854775807) (by' : -9223372036854775808<=y/\y<=9223372036854775807) (v:Value) (fl:List NT) (w:World) (h:zAT w v fl) (hr:∀ x ∈ fl,x.fits) (hl:fl.length<=1048576) (hT:Tens w) (hE:zB4 w) (hO:zBX w) (LW:LibW w) (IT:zBY w) :
  Calls Tryz.prog 23 #[moV r c f g r' c' f' g' x y,v] w fun e w'=>zBW (zEW r c r' c' x y fl) w e w':=by
 obtain ⟨D,R0,R1,C0,C1,G0,G1,H0,H1,dx,dy,MB,hmT,HS⟩:=zSL r c f g r' c' f' g' x y bx by'
 have HU:Hid (zEW r c r' c' x y fl=rwR (mT D R0 R1 C0 C1 dx dy) fl):=by show _=_;unfold zEW;rw [hmT]
 rw [HU.out];have HMB:Hid _:=MB;have HRW:Hid (∀ (b5 b3 b4:Nat) (W W2:World),W2=W.alloc (.cells #[.func (.func 73) #[] #[.pointer (some ⟨b5,0,none⟩),.pointer (some ⟨b3,0,none⟩),.pointer (some ⟨b4,0,none⟩)]] 87)->Ext w W->Vec W b5 [.bool D]->Vec W b3 [iQ R0,iQ R1,iQ C0,iQ C1]->Vec W b4 [iQ G0,iQ G1,iQ H0,iQ H1]->Calls Tryz.prog 35 #[v,.func (.func 52) #[] #[.pointer (some ⟨W.heap.size,0,none⟩)]] W2 fun e w'=>zBW (rwR (mT D R0 R1 C0 C1 dx dy) fl) w e w'):=by
  intro b5 b3 b4 W W2 hW2 X v5 v3 v4;have X2:Ext W W2:=by rw [hW2];exact x1 _ _
  have VB:Vec W2 W.heap.size [.func (.func 73) #[] #[.pointer (some ⟨b5,0,none⟩),.pointer (some ⟨b3,0,none⟩),.pointer (some ⟨b4,0,none⟩)]]:=by rw [hW2];exact zA5 W [.func (.func 73) #[] #[.pointer (some ⟨b5,0,none⟩),.pointer (some ⟨b3,0,none⟩),.pointer (some ⟨b4,0,none⟩)]] 87
  have XX:=xt X X2;exact (zLL (mT D R0 R1 C0 C1 dx dy) 52 W.heap.size v fl W2 (h.l XX) hr hl (hT.l XX) (hE.l XX) (hO.l XX) (LW.l XX) (IT.laterG XX)
   (fun x _ _ _ W3 X3=>zVU D R0 R1 C0 C1 G0 G1 H0 H1 dx dy HS W.heap.size b5 b3 b4 x.at W3 (VB.l X3) ((v5.l X2).l X3) ((v3.l X2).l X3) ((v4.l X2).l X3)) (enters_of Tryz.func52 (by kernel_rfl) rfl)).mono fun e w' hp=>zBW.ext hp XX
 obtain ⟨wa,ha,XA,VA,-⟩:=zAD w [iQ r,iQ c,.bool f,.bool g,iQ r',iQ c',.bool f',.bool g',iQ x,iQ y] 45;have HWA:Hid _:=ha;have RG:wa.rangeAt w.heap.size 0 [iQ r,iQ c,.bool f,.bool g,iQ r',iQ c',.bool f',.bool g',iQ x,iQ y]:=fun j u hu=>by rw [Nat.zero_add];exact (VA j u hu).1
 clear ha VA MB hmT HS HU h hr hl hT hE hO LW IT bx by'
 go_enter Tryz.func23,Tryz.ntmps23;go_upto_region 1 with fail;rw [HWA.out];go_wp2_with (refine wpList_load_mid rfl 45 (.tmp 2) rfl w.heap.size 0 rfl _ _ RG Tryz.underlying45 rfl zLU ?_);refine (HMB.out wa).mono ?_;rintro e w5 ⟨⟨v5,rfl,b5,b3,b4,rfl,B5,B3,B4⟩,e5⟩;clear HMB RG HWA;have HRX:Hid (Calls Tryz.prog 35 #[v,.func (.func 52) #[] #[.pointer (some ⟨w5.heap.size,0,none⟩)]] (w5.alloc (.cells #[.func (.func 73) #[] #[.pointer (some ⟨b5,0,none⟩),.pointer (some ⟨b3,0,none⟩),.pointer (some ⟨b4,0,none⟩)]] 87)) fun e w'=>zBW (rwR (mT D R0 R1 C0 C1 dx dy) fl) w e w'):=HRW.out b5 b3 b4 w5 _ rfl (xt XA e5) B5 B3 B4;have hst:=fun (W:World) (q:Addr)=>run_store Tryz.prog W q (.func (.func 73) #[] #[.pointer (some ⟨b5,0,none⟩),.pointer (some ⟨b3,0,none⟩),.pointer (some ⟨b4,0,none⟩)]) Mode.plain rfl;clear HRW B5 B3 B4 e5 XA;go_wp2_with fail;refine HRX.out.mono ?_;intro e w6 hp;have HP:Hid _:=hp;obtain ⟨vo,g0,rfl,_⟩:=hp;clear HRX;go_wp2_with fail;go_ret;exact HP.out
theorem zQD {r c r' c' x y:Int} (h:zBA r c r' c' x y=true):(1<=hi r r'+(x - lo r r')/\hi r r'+(x - lo r r')<=1000)/\1<=hi c c'+(y - lo c c')/\hi c c'+(y - lo c c')<=200:=by
 unfold zBA at h;simp only [Bool.and_eq_true] at h;exact of_decide_eq_true h.2
theorem zF0 {r c:Int} (h:(1<=r/\r<=1000)/\1<=c/\c<=200):zAL r c=true:=decide_eq_true h
theorem zQ1 (r c r' c' x y s d:Int) (h k:Bool) (hD:zBA r c r' c' x y=true) (hI:insB (lo r r') (hi r r') (lo c c') (hi c c') s d=true) :
  mrB x y (hi r r'+(x - lo r r')) (hi c c'+(y - lo c c')) (lo r r') (lo c c') (s+(x - lo r r')) (d+(y - lo c c')) h k=refV s d h k:=by
 have B:=zE9 hD;have H:=zQD hD;have I:(lo r r'<=s/\s<=hi r r')/\lo c c'<=d/\d<=hi c c':=of_decide_eq_true hI;have l1:=zED r r';have l2:=zED c c';have l3:=zEZ r r';have l4:=zEZ c c';obtain ⟨a,ha⟩:=nm (lo r r');obtain ⟨b,hb⟩:=nm (lo c c');obtain ⟨e,he⟩:=nm (hi r r');obtain ⟨f,hf⟩:=nm (hi c c');rw [ha] at l1 B H I ⊢;rw [hb] at l2 B H I ⊢;rw [he] at l3 B H I ⊢;rw [hf] at l4 B H I ⊢;have p1:lo x (e+(x - a))=x:=by have:=zED x (e+(x - a));omega
 have p2:lo y (f+(y - b))=y:=by have:=zED y (f+(y - b));omega
 have p3:hi x (e+(x - a))=e+(x - a):=by have:=zEZ x (e+(x - a));omega
 have p4:hi y (f+(y - b))=f+(y - b):=by have:=zEZ y (f+(y - b));omega
 have q1:zBA x y (e+(x - a)) (f+(y - b)) a b=true:=by
  unfold zBA zAV;rw [p1,p2,p3,p4];simp only [Bool.and_eq_true];exact ⟨⟨⟨zF0 (by omega),zF0 (by omega)⟩,zF0 (by omega)⟩,zF0 (by omega)⟩
 have q2:insB x (e+(x - a)) y (f+(y - b)) (s+(x - a)) (d+(y - b))=true:=decide_eq_true (by omega);unfold mrB;rw [p1,p2,p3,p4,if_pos ⟨q1,q2⟩];have e1:s+(x - a)+(a - x)=s:=by omega
 have e2:d+(y - b)+(b - y)=d:=by omega
 rw [e1,e2]
theorem zND (r c r' c' x y s d:Int) (h k:Bool):∃ n1 n2:Int,mrB r c r' c' x y s d h k=refV n1 n2 h k /\
  ((n1=s/\n2=d)\/(zBA r c r' c' x y=true->mrB x y (hi r r'+(x - lo r r')) (hi c c'+(y - lo c c')) (lo r r') (lo c c') n1 n2 h k=refV s d h k)):=by
 by_cases g:zBA r c r' c' x y=true/\insB (lo r r') (hi r r') (lo c c') (hi c c') s d=true
 ·refine ⟨s+(x - lo r r'),d+(y - lo c c'),by unfold mrB;rw [if_pos g],Or.inr fun _=>zQ1 r c r' c' x y s d h k g.1 g.2⟩
 ·exact ⟨s,d,by unfold mrB;rw [if_neg g],Or.inl ⟨rfl,rfl⟩⟩
theorem zLR (r c r' c' x y:Int) (f:List NT) (h:zAZ NT.good f=true):(zEW r c r' c' x y f).length=f.length:=by
 unfold zEW rwR;rw [if_pos h,List.length_map]
def MbR (D:Bool) (R0 R1 C0 C1 G0 G1 H0 H1:Int) (w':World) (e:Ending):Prop:=∃ b7 b3 b4,e=.returned (.func (.func 73) #[] #[.pointer (some ⟨b7,0,none⟩),.pointer (some ⟨b3,0,none⟩),.pointer (some ⟨b4,0,none⟩)]) /\
 Vec w' b7 [.bool D]/\Vec w' b3 [iQ R0,iQ R1,iQ C0,iQ C1]/\Vec w' b4 [iQ G0,iQ G1,iQ H0,iQ H1]
theorem MbR.l {D:Bool} {R0 R1 C0 C1 G0 G1 H0 H1:Int} {w w':World} {e:Ending} (h:MbR D R0 R1 C0 C1 G0 G1 H0 H1 w e) (hx:Ext w w'):MbR D R0 R1 C0 C1 G0 G1 H0 H1 w' e:=by
 obtain ⟨b7,b3,b4,e1,v7,v3,v4⟩:=h;exact ⟨b7,b3,b4,e1,v7.l hx,v3.l hx,v4.l hx⟩
theorem zNF (r c:Int) (f g:Bool) (r' c':Int) (f' g':Bool) (x y:Int) (w:World) (R0 R1 C0 C1 dx dy:Int) (D:Bool)
  (BO:∀ w,Calls Tryz.prog 88 #[arV r c f g r' c' f' g'] w fun e w'=>e=.returned (blV R0 R1 C0 C1)/\Ext w w') (hx:IntKind.i64.wrap (x - R0)=dx) (hy:IntKind.i64.wrap (y - C0)=dy)
  (g0 g1 h0 h1:Int) (e0:IntKind.i64.wrap (R0+dx)=g0) (e1:IntKind.i64.wrap (R1+dx)=g1) (e2:IntKind.i64.wrap (C0+dy)=h0) (e3:IntKind.i64.wrap (C1+dy)=h1) (hD:D=(zAV r c r' c' && zAV g0 h0 g1 h1)) :
  Calls Tryz.prog 48 #[moV r c f g r' c' f' g' x y] w fun e w'=>MbR D R0 R1 C0 C1 g0 g1 h0 h1 w' e/\Ext w w':=
 (zJM r c f g r' c' f' g' x y R0 R1 C0 C1 g0 g1 h0 h1 D (fun w=>zSA r c f g r' c' f' g' x y w R0 R1 C0 C1 dx dy D BO hx hy g0 g1 h0 h1 e0 e1 e2 e3 hD) w).mono fun e w' hh=>by
  obtain ⟨⟨v,rfl,b7,b3,b4,rfl,v7,v3,v4⟩,X⟩:=hh;exact ⟨⟨b7,b3,b4,rfl,v7,v3,v4⟩,X⟩
theorem zIJ (r c:Int) (f g:Bool) (r' c':Int) (f' g':Bool) (x y:Int) (s d:Int) (h k:Bool) (w:World) (D:Bool) (R0 R1 C0 C1 G0 G1 H0 H1 n1 n2:Int) (q:Bool)
  (MB0:∀ w,Calls Tryz.prog 48 #[moV r c f g r' c' f' g' x y] w fun e w'=>MbR D R0 R1 C0 C1 G0 G1 H0 H1 w' e/\Ext w w')
  (CL0:∀ (b7 b3 b4:Nat) (w:World),Vec w b7 [.bool D]->Vec w b3 [iQ R0,iQ R1,iQ C0,iQ C1]->Vec w b4 [iQ G0,iQ G1,iQ H0,iQ H1]->Calls Tryz.prog 73 #[refV s d h k,.pointer (some ⟨b7,0,none⟩),.pointer (some ⟨b3,0,none⟩),.pointer (some ⟨b4,0,none⟩)] w fun e w'=>e=.returned (.tuple #[refV n1 n2 h k,.bool q])/\Ext w w') :
  Calls Tryz.prog 19 #[moV r c f g r' c' f' g' x y,refV s d h k] w fun e w'=>e=.returned (refV n1 n2 h k)/\Ext w w':=by
 have MB:Hid _:=MB0;have CL:Hid _:=CL0;clear MB0 CL0;have B2:=Vec.made10 w (iQ r) (iQ c) (.bool f) (.bool g) (iQ r') (iQ c') (.bool f') (.bool g') (iQ x) (iQ y) 45;have X:=x1 w (.cells #[iQ r,iQ c,.bool f,.bool g,iQ r',iQ c',.bool f',.bool g',iQ x,iQ y] 45);obtain ⟨wa,ha⟩:=nm (w.alloc (.cells #[iQ r,iQ c,.bool f,.bool g,iQ r',iQ c',.bool f',.bool g',iQ x,iQ y] 45));rw [ha] at B2 X;have sa:wa.heap.size=w.heap.size+1:=by rw [<- ha,World.size_alloc]
 have B3:=Vec.made4 wa (iQ s) (iQ d) (.bool h) (.bool k) 26;have x3:=x1 wa (.cells #[iQ s,iQ d,.bool h,.bool k] 26);obtain ⟨wb,hb⟩:=nm (wa.alloc (.cells #[iQ s,iQ d,.bool h,.bool k] 26));rw [hb] at B3 x3;have sb:wb.heap.size=w.heap.size+1+1:=by rw [<- hb,World.size_alloc,sa]
 have B4:=Vec.made4 wb (iQ 0) (iQ 0) (.bool false) (.bool false) 26;have x4:=x1 wb (.cells #[iQ 0,iQ 0,.bool false,.bool false] 26);rw [sa] at B3;go_enter Tryz.func19,Tryz.ntmps19;go_upto_region 1 with fail
 (try rw [ha])
 (try rw [hb])
 obtain ⟨w0,hw0⟩:=nm (wb.alloc (.cells #[iQ 0,iQ 0,.bool false,.bool false] 26));rw [hw0] at B4 x4 ⊢;rw [sb] at B4;replace B2:=(B2.l x3).l x4;replace B3:=B3.l x4;replace X:=xt (xt X x3) x4;clear ha hb hw0 sa sb x3 x4;go_cut [5] (fun v wc=>∃ b,v=.pointer (some ⟨b,0,none⟩)/\Vec wc b [iQ n1,iQ n2,.bool h,.bool k]/\Ext w0 wc)
 case first =>
  refine zF8 (fun lx:Nat->Value=>{ tmps:=#[moV r c f g r' c' f' g' x y,refV s d h k,Value.pointer (some ⟨w.heap.size,0,none⟩),Value.pointer (some ⟨w.heap.size+1,0,none⟩),Value.pointer (some ⟨w.heap.size+1+1,0,none⟩),lx 5,lx 6,lx 7,lx 8,lx 9,lx 10,lx 11,lx 12,lx 13,undef],defers:=[] }) (fun L lx lw=>Hid (Ext w0 lw/\(L 1=true->L 3=false->MbR D R0 R1 C0 C1 G0 G1 H0 H1 lw (.returned (lx 9)))/\(L 0=true->lx 8=(moV r c f g r' c' f' g' x y))/\(L 2=true->lx 10=(refV s d h k))/\(L 3=true->lx 11=(.tuple #[refV n1 n2 h k,.bool q]))/\(L 4=true->lx 7=(.tuple #[refV n1 n2 h k,.bool q]))/\(L 5=true->lx 12=(refV n1 n2 h k))/\(L 6=true->lx 13=(.bool q))/\(L 9=true->lx 6=(.bool q))/\(L 7=true->∃ b,lx 5=.pointer (some ⟨b,0,none⟩)/\w0.heap.size<=b/\(L 8=true->Vec lw b [iQ n1,iQ n2,.bool h,.bool k])/\(L 8=false->Vec lw b [iQ 0,iQ 0,.bool false,.bool false]))/\(L 8=true->L 7=true))) rfl (by kernel_rfl) (fun n=>if n=5 then undef else if n=6 then undef else if n=7 then undef else if n=8 then undef else if n=9 then undef else if n=10 then undef else if n=11 then undef else if n=12 then undef else if n=13 then undef else undef) rfl ?_ ?_ ?_
  ·refine ⟨xd (xr _),?_,?_,?_,?_,?_,?_,?_,?_,?_,?_⟩ <;> (intro h;cases h)
  ·intro L lx wl i o K hK ho hL haf hI;obtain ⟨X,f0,f1,f2,f3,f4,f5,f6,f7,f8,f9⟩:=hI.out;have B2':=B2.l X;have B3':=B3.l X
   match i,ho,hL,haf,hK with
   | 0,ho,hL,haf,hK =>
    cases ho
    (try dsimp only)
    obtain ⟨⟨a0,a1,a2,a3,a4,a5,a6,a7,a8,a9⟩,_⟩:=B2'.box10;go_wp2_with fail;exact hK (fun n=>if n=8 then (moV r c f g r' c' f' g' x y) else lx n) _ ⟨X,f0,(fun _=>rfl),f2,f3,f4,f5,f6,f7,f8,f9⟩
   | 1,ho,hL,haf,hK =>
    cases ho
    (try dsimp only)
    rw [f1 (haf ⟨0,.data⟩ (by simp) rfl)];go_wp2_with fail;refine (MB.out _).mono ?_;rintro rr w' ⟨hb,E⟩;have hb':=hb;obtain ⟨b7,b3,b4,rfl,_⟩:=hb';go_wp2_with fail;exact hK (fun n=>if n=9 then (.func (.func 73) #[] #[.pointer (some ⟨b7,0,none⟩),.pointer (some ⟨b3,0,none⟩),.pointer (some ⟨b4,0,none⟩)]) else if n=8 then (moV r c f g r' c' f' g' x y) else lx n) _ ⟨xt X E,(fun _ _=>hb),(fun _=>rfl),f2,f3,f4,f5,f6,f7,(fun h=>by obtain ⟨b,h1,h2,h3,h4⟩:=f8 h;exact ⟨b,h1,h2,fun h=>(h3 h).l E,fun h=>(h4 h).l E⟩),f9⟩
   | 2,ho,hL,haf,hK =>
    cases ho
    (try dsimp only)
    obtain ⟨⟨p0,p1,p2,p3⟩,_⟩:=B3'.box4;go_wp2_with fail;exact hK (fun n=>if n=10 then (refV s d h k) else lx n) _ ⟨X,f0,f1,(fun _=>rfl),f3,f4,f5,f6,f7,f8,f9⟩
   | 3,ho,hL,haf,hK =>
    cases ho
    (try dsimp only)
    obtain ⟨b7,b3,b4,e9,v7,v3,v4⟩:=f0 (haf ⟨1,.data⟩ (by simp) rfl) hL;have e9':=Ending.returned.inj e9;rw [e9',f2 (haf ⟨2,.data⟩ (by simp) rfl)];go_wp2_with fail;refine (CL.out b7 b3 b4 _ v7 v3 v4).mono ?_;rintro rr w' ⟨rfl,E⟩;go_wp2_with fail;exact hK (fun n=>if n=11 then (.tuple #[refV n1 n2 h k,.bool q]) else if n=9 then (.func (.func 73) #[] #[.pointer (some ⟨b7,0,none⟩),.pointer (some ⟨b3,0,none⟩),.pointer (some ⟨b4,0,none⟩)]) else if n=10 then (refV s d h k) else lx n) _ ⟨xt X E,(fun _ h=>by cases h),f1,(fun _=>rfl),(fun _=>rfl),f4,f5,f6,f7,(fun h=>by obtain ⟨b,h1,h2,h3,h4⟩:=f8 h;exact ⟨b,h1,h2,fun h=>(h3 h).l E,fun h=>(h4 h).l E⟩),f9⟩
   | 4,ho,hL,haf,hK =>
    cases ho
    (try dsimp only)
    rw [f3 (haf ⟨3,.data⟩ (by simp) rfl)];go_wp2_with fail;exact hK (fun n=>if n=7 then (.tuple #[refV n1 n2 h k,.bool q]) else if n=11 then (.tuple #[refV n1 n2 h k,.bool q]) else lx n) _ ⟨X,f0,f1,f2,(fun _=>rfl),(fun _=>rfl),f5,f6,f7,f8,f9⟩
   | 5,ho,hL,haf,hK =>
    cases ho
    (try dsimp only)
    rw [f4 (haf ⟨4,.data⟩ (by simp) rfl)];go_wp2_with fail;exact hK (fun n=>if n=12 then (refV n1 n2 h k) else if n=7 then (.tuple #[refV n1 n2 h k,.bool q]) else lx n) _ ⟨X,f0,f1,f2,f3,(fun _=>rfl),(fun _=>rfl),f6,f7,f8,f9⟩
   | 6,ho,hL,haf,hK =>
    cases ho
    (try dsimp only)
    rw [f4 (haf ⟨4,.data⟩ (by simp) rfl)];go_wp2_with fail;exact hK (fun n=>if n=13 then (.bool q) else if n=7 then (.tuple #[refV n1 n2 h k,.bool q]) else lx n) _ ⟨X,f0,f1,f2,f3,(fun _=>rfl),f5,(fun _=>rfl),f7,f8,f9⟩
   | 7,ho,hL,haf,hK =>
    cases ho
    (try dsimp only)
    have hst:L 8=true->False:=fun h=>(by have:=f9 h;rw [hL] at this;cases this);go_wp2_with fail;exact hK (fun n=>if n=5 then Value.pointer (some ⟨wl.heap.size,0,none⟩) else lx n) _ ⟨xa X _,(fun h h'=>(f0 h h').l (x1 wl (.cells #[iQ 0,iQ 0,.bool false,.bool false] 26))),f1,f2,f3,f4,f5,f6,f7,(fun _=>⟨wl.heap.size,rfl,X.size,fun h=>(hst h).elim,fun _=>Vec.made4 wl _ _ _ _ _⟩),(fun _=>rfl)⟩
   | 8,ho,hL,haf,hK =>
    cases ho
    (try dsimp only)
    have hmk:L 7=true:=haf ⟨7,.data⟩ (by simp) rfl;obtain ⟨b,eb',hb,_,hz⟩:=f8 hmk;have hbx:=hz hL;have h3:Hid (L 3=true):=haf ⟨3,.phase⟩ (by simp) rfl;rw [eb',f5 (haf ⟨5,.data⟩ (by simp) rfl)];obtain ⟨c0,c0'⟩:=hbx 0 _ rfl;obtain ⟨c1,c1'⟩:=hbx 1 _ rfl;obtain ⟨c2,c2'⟩:=hbx 2 _ rfl;obtain ⟨c3,c3'⟩:=hbx 3 _ rfl;have hX:=Ext.set4 (o:=0) X hb (iQ n1) (iQ n2) (.bool h) (.bool k);have hB:=hbx.put4 (iQ n1) (iQ n2) (.bool h) (.bool k);go_wp2_with fail;exact hK (fun n=>if n=5 then .pointer (some ⟨b,0,none⟩) else if n=12 then (refV n1 n2 h k) else lx n) _ ⟨hX,(fun _ h=>by have:=h3.out;rw [show L 3=false from h] at this;cases this),f1,f2,f3,f4,(fun _=>rfl),f6,f7,(fun _=>⟨b,rfl,hb,fun _=>hB,fun h=>by cases h⟩),(fun _=>hmk)⟩
   | 9,ho,hL,haf,hK =>
    cases ho
    (try dsimp only)
    rw [f6 (haf ⟨6,.data⟩ (by simp) rfl)];go_wp2_with fail;exact hK (fun n=>if n=6 then (.bool q) else if n=13 then (.bool q) else lx n) _ ⟨X,f0,f1,f2,f3,f4,f5,(fun _=>rfl),(fun _=>rfl),f8,f9⟩
   | k+10,ho,_,_,_=>simp at ho
  ·intro L lx wl hall hI;obtain ⟨X,f0,f1,f2,f3,f4,f5,f6,f7,f8,f9⟩:=hI.out;clear hI;clear f0;replace f1:=f1 (hall 0 (by simp));replace f2:=f2 (hall 2 (by simp));replace f3:=f3 (hall 3 (by simp));replace f4:=f4 (hall 4 (by simp));replace f5:=f5 (hall 5 (by simp));replace f6:=f6 (hall 6 (by simp));replace f7:=f7 (hall 9 (by simp));obtain ⟨b7,e7,l7,hz7,_⟩:=f8 (hall 7 (by simp));have v7:=hz7 (hall 8 (by simp))
   (try dsimp only)
   have HV:Hid (lx 8=(moV r c f g r' c' f' g' x y)/\lx 10=(refV s d h k)/\lx 11=(.tuple #[refV n1 n2 h k,.bool q])/\lx 7=(.tuple #[refV n1 n2 h k,.bool q])/\lx 12=(refV n1 n2 h k)/\lx 13=(.bool q)/\lx 6=(.bool q)):=⟨f1,f2,f3,f4,f5,f6,f7⟩;clear f1 f2 f3 f4 f5 f6 f7 f8 f9;go_wp2_with fail;go_meet
   case rel=>exact ⟨b7,e7,v7,X⟩
 case rest =>
  obtain ⟨b,rfl,P,e5⟩:=hcut
  rename World=>w1
  replace B4:=B4.l e5;replace X:=xt X e5;obtain ⟨⟨p0,p1,p2,p3⟩,_⟩:=P.box4;obtain ⟨⟨m0,m1,m2,m3⟩,m4,m5,m6,m7⟩:=B4.box4;clear MB CL
  go_wp2
  exact bodyPost_ret (v:=refV n1 n2 h k) (by simp [results,Tryz.results19,go_sem,m0,m1,m2,m3]) rfl ⟨rfl,Ext.set4 (o:=0) X (by omega) _ _ _ _⟩
theorem zR9 (r c:Int) (f g:Bool) (r' c':Int) (f' g':Bool) (x y:Int) (s d:Int) (h k:Bool) (w:World) (bx : -9223372036854775808<=x/\x<=9223372036854775807) (by' : -9223372036854775808<=y/\y<=9223372036854775807) :
  Calls Tryz.prog 19 #[moV r c f g r' c' f' g' x y,refV s d h k] w fun e w'=>e=.returned (mrB r c r' c' x y s d h k)/\Ext w w':=by
 cases hg:zAV r c r' c'
 ·have hd:zBA r c r' c' x y=false:=by unfold zBA;rw [hg];rfl
  have e:mrB r c r' c' x y s d h k=refV s d h k:=by unfold mrB;rw [hd];simp
  rw [e];refine zIJ r c f g r' c' f' g' x y s d h k w false 0 0 0 0 _ _ _ _ s d false (fun w=>zNF r c f g r' c' f' g' x y w 0 0 0 0 _ _ false (zGR r c f g r' c' f' g' hg) rfl rfl _ _ _ _ rfl rfl rfl rfl (by rw [hg];rfl)) ?_;intro b7 b3 b4 w v7 v3 v4;have:=zKO false 0 0 0 0 _ _ _ _ 0 0 s d h k b7 b3 b4 w v7 v3 v4 s d (fun h=>by cases h);simpa using this
 ·have gb:=zF2 hg;have L1:=zED r r';have L2:=zED c c';have L3:=zEZ r r';have L4:=zEZ c c';obtain ⟨dx,hdx⟩:=nm (IntKind.i64.wrap (x - lo r r'));obtain ⟨dy,hdy⟩:=nm (IntKind.i64.wrap (y - lo c c'));obtain ⟨g1,hg1⟩:=nm (IntKind.i64.wrap (hi r r'+dx));obtain ⟨h1,hh1⟩:=nm (IntKind.i64.wrap (hi c c'+dy));have e0:IntKind.i64.wrap (lo r r'+dx)=x:=by rw [<- hdx,IntKind.wrap_i64,IntKind.wrap_i64];omega
  have e1:IntKind.i64.wrap (lo c c'+dy)=y:=by rw [<- hdy,IntKind.wrap_i64,IntKind.wrap_i64];omega
  have hD:zBA r c r' c' x y=(zAV r c r' c' && zAV x y g1 h1):=by
   unfold zBA;rw [hg,Bool.true_and,Bool.true_and];unfold zAV;cases hp:zAL x y
   ·rfl
   ·have hp':(1<=x/\x<=1000)/\1<=y/\y<=200:=of_decide_eq_true hp;have a1:dx=x - lo r r':=(by rw [<- hdx,IntKind.wrap_i64];omega);have a2:dy=y - lo c c':=(by rw [<- hdy,IntKind.wrap_i64];omega);have a3:g1=hi r r'+(x - lo r r'):=(by rw [<- hg1,a1,IntKind.wrap_i64];omega);have a4:h1=hi c c'+(y - lo c c'):=(by rw [<- hh1,a2,IntKind.wrap_i64];omega);rw [a3,a4]
  have key:∃ n1 n2,mrB r c r' c' x y s d h k=refV n1 n2 h k/\(if zBA r c r' c' x y=true/\insB (lo r r') (hi r r') (lo c c') (hi c c') s d=true then refV (s+(x - lo r r')) (d+(y - lo c c')) h k else refV s d h k)=refV n1 n2 h k:=by
   unfold mrB
   split
   ·exact ⟨_,_,rfl,rfl⟩
   ·exact ⟨_,_,rfl,rfl⟩
  obtain ⟨n1,n2,k1,k2⟩:=key;rw [k1];refine zIJ r c f g r' c' f' g' x y s d h k w (zBA r c r' c' x y) (lo r r') (hi r r') (lo c c') (hi c c') x g1 y h1 n1 n2 (zBA r c r' c' x y && insB (lo r r') (hi r r') (lo c c') (hi c c') s d) (fun w=>zNF r c f g r' c' f' g' x y w _ _ _ _ dx dy _ (fun w=>zOU r c f g r' c' f' g' w hg) hdx hdy x g1 y h1 e0 hg1 e1 hh1 hD) ?_;intro b7 b3 b4 w v7 v3 v4;have:=zKO (zBA r c r' c' x y) (lo r r') (hi r r') (lo c c') (hi c c') x g1 y h1 dx dy s d h k b7 b3 b4 w v7 v3 v4 (s+(x - lo r r')) (d+(y - lo c c')) (fun hd hi=>by
   have bd:=zE9 hd;have hi':=of_decide_eq_true hi;have a1:dx=x - lo r r':=by rw [<- hdx,IntKind.wrap_i64];omega
   have a2:dy=y - lo c c':=by rw [<- hdy,IntKind.wrap_i64];omega
   rw [a1,a2,IntKind.wrap_i64,IntKind.wrap_i64,IntKind.wrap_i64,IntKind.wrap_i64];omega)
  rw [k2] at this;exact this
theorem hi4R:(Tryz.prog.info? 26).map (·.size)=some 4:=by kernel_rfl
end Go.Proofs.YteliaeejooekbaaGreatDoor
