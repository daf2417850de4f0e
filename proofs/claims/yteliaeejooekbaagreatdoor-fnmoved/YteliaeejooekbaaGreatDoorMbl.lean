import Derived.Test.YteliaeejooekbaaGreatDoorMg38
import Derived.Test.YteliaeejooekbaaGreatDoorMg39
import Derived.Test.YteliaeejooekbaaGreatDoorMg48
set_option maxRecDepth 8000
set_option maxHeartbeats 16000000
namespace Go.Proofs.YteliaeejooekbaaGreatDoor
open Go.RowKit
theorem zQ3 (v:Value) (n:Nat) (w:World) (h:zD1 w w.heap.size v n) (hW:WdT w) :
  Calls Tryz.prog 4 #[v] w fun e w'=>e=.returned (.bool true)/\Ext w w':=by
 obtain ⟨p,cap,rfl⟩:∃ p cap,v=.slice p n cap:=by
  rcases h with ⟨⟨p,cap,rfl⟩,rfl⟩ | ⟨pb,po,cap,_,rfl,_⟩
  ·exact ⟨_,_,rfl⟩
  ·exact ⟨_,_,rfl⟩
 by_cases hb:(1048576:Int)<n
 ·go_enter Tryz.func4,Tryz.ntmps4;go_wp2_with fail;go_ret;exact ⟨rfl,xr _⟩
 have hb1:¬ (1048576:Int)<n:=hb;have HW:Hid (∀ W,Ext w W->WdT W):=fun W x=>hW.k x;have HDF:Hid (∀ W,Ext w W->Calls Tryz.prog 22 #[.slice p n cap] W fun e w'=>zP5 W e w'):=fun W x=>zM4 _ n W (h.laterT x) (by omega);have D1:=zM3 _ n w h (by omega);clear h hW;go_enter Tryz.func4,Tryz.ntmps4;go_wp2_with fail;refine D1.mono ?_;rintro e w1 ⟨⟨r,c,f,g,r',c',f',g',x,y,s,d,hh,kk,rfl,⟨x0,x9⟩,⟨y0,y9⟩⟩,e1⟩;clear D1;obtain ⟨n1,n2,hm,hback⟩:=zND r c r' c' x y s d hh kk;have HS:Hid (∀ w,Calls Tryz.prog 20 #[.agg #[iQ r,iQ c,.bool f,.bool g,iQ r',iQ c',.bool f',.bool g',iQ x,iQ y],refV s d hh kk] w fun e w'=>e=.returned (refV n1 n2 hh kk)/\Ext w w'):=fun w=>by rw [<- hm];exact zR8 r c f g r' c' f' g' x y s d hh kk w
 have HI:Hid (∀ w,Calls Tryz.prog 19 #[.agg #[iQ r,iQ c,.bool f,.bool g,iQ r',iQ c',.bool f',.bool g',iQ x,iQ y],refV s d hh kk] w fun e w'=>e=.returned (refV n1 n2 hh kk)/\Ext w w'):=fun w=>by rw [<- hm];exact zR9 r c f g r' c' f' g' x y s d hh kk w (by omega) (by omega)
 have HB:Hid _:=hback;have HBM:Hid (∀ W,Calls Tryz.prog 21 #[.agg #[iQ r,iQ c,.bool f,.bool g,iQ r',iQ c',.bool f',.bool g',iQ x,iQ y]] W fun e w'=>zQW r c f g r' c' f' g' x y e/\Ext W w'):=fun W=>zVG r c f g r' c' f' g' x y W;have hx9:(0<=x/\x<=2000)/\(0<=y/\y<=2000):=⟨⟨x0,x9⟩,y0,y9⟩;clear hm hback x0 x9 y0 y9;obtain ⟨w2,h2,X1,M1,s1⟩:=zAD w1 [iQ r,iQ c,.bool f,.bool g,iQ r',iQ c',.bool f',.bool g',iQ x,iQ y] 45;have H2:Hid _:=h2;obtain ⟨w3,h3,X2,M2,-⟩:=zAD w2 [iQ s,iQ d,.bool hh,.bool kk] 26;have H3:Hid _:=h3;rw [s1] at M2;have M1:=M1.l X2;have X3:=xt (xt e1 X1) X2;clear h2 h3 X1 X2 s1 e1;obtain ⟨gM,hgM⟩:=nm (w1.heap.size);have HGM:Hid _:=hgM;rw [hgM] at M1 M2;clear hgM;have RG1:w3.rangeAt gM 0 [iQ r,iQ c,.bool f,.bool g,iQ r',iQ c',.bool f',.bool g',iQ x,iQ y]:=fun j u hu=>by rw [Nat.zero_add];exact (M1 j u hu).1
 have b0:=vC4 M2;go_upto_region 4 with fail;rw [HGM.out,H2.out,H3.out];go_wp2_with (refine wpList_load_mid rfl 45 (.tmp 3) rfl gM 0 rfl _ _ RG1 Tryz.underlying45 rfl zDS ?_);refine (HI.out w3).mono ?_;rintro e w4 ⟨rfl,e4⟩;have M1:=M1.l e4;have M2:=M2.l e4;obtain ⟨w5,h5,X5,M3,-⟩:=zAD w4 [iQ n1,iQ n2,.bool hh,.bool kk] 26;have H5:Hid _:=h5;have M1:=M1.l X5;have M2:=M2.l X5;have X5:=xt (xt X3 e4) X5;clear RG1 b0 h5 X3 e4 H2 H3 HI;obtain ⟨gX,hgX⟩:=nm (w4.heap.size);have HGX:Hid _:=hgX;rw [hgX] at M3;clear hgX;have HM:Hid (∀ lw,Ext w5 lw->lw.rangeAt gM 0 [iQ r,iQ c,.bool f,.bool g,iQ r',iQ c',.bool f',.bool g',iQ x,iQ y]/\Vec lw (gM+1) [iQ s,iQ d,.bool hh,.bool kk]/\Vec lw gX [iQ n1,iQ n2,.bool hh,.bool kk]):=fun lw x=>⟨fun j u hu=>by rw [Nat.zero_add];exact ((M1.l x) j u hu).1,M2.l x,M3.l x⟩;clear M1 M2 M3;have hrs:=fun W=>zKJ n1 n2 hh kk W;go_upto_region 5 with fail;rw [H5.out]
 (try rw [HGX.out])
 refine zA3 (fun lx:Nat->Value=>{ tmps:=#[Value.slice p n cap,undef,Value.bool false,Value.pointer (some ⟨gM,0,none⟩),Value.pointer (some ⟨gM+1,0,none⟩),Value.pointer (some ⟨gX,0,none⟩),undef,undef,undef,undef,undef,Value.slice p n cap,Value.int .i64 (n:Int),Value.bool false,Value.tuple #[Value.agg #[Value.int .i64 r,Value.int .i64 c,Value.bool f,Value.bool g,Value.int .i64 r',Value.int .i64 c',Value.bool f',Value.bool g',Value.int .i64 x,Value.int .i64 y],refV s d hh kk],Value.slice p n cap,Value.tuple #[Value.agg #[Value.int .i64 r,Value.int .i64 c,Value.bool f,Value.bool g,Value.int .i64 r',Value.int .i64 c',Value.bool f',Value.bool g',Value.int .i64 x,Value.int .i64 y],refV s d hh kk],Value.agg #[Value.int .i64 r,Value.int .i64 c,Value.bool f,Value.bool g,Value.int .i64 r',Value.int .i64 c',Value.bool f',Value.bool g',Value.int .i64 x,Value.int .i64 y],refV s d hh kk,Value.agg #[Value.int .i64 r,Value.int .i64 c,Value.bool f,Value.bool g,Value.int .i64 r',Value.int .i64 c',Value.bool f',Value.bool g',Value.int .i64 x,Value.int .i64 y],Value.agg #[Value.int .i64 s,Value.int .i64 d,Value.bool hh,Value.bool kk],refV n1 n2 hh kk,lx 22,lx 23,lx 24,lx 25,lx 26,undef,undef,undef,undef,undef,undef,undef,undef,undef,undef,undef,undef,undef,undef,undef,undef,undef,undef,undef,undef,undef,undef,undef,undef,undef,undef,undef,undef,undef,undef,undef,undef,undef,undef,undef,undef,undef,undef,undef,undef,undef,undef,undef],defers:=[] }) (fun L lx lw=>Hid (Ext w5 lw/\(L 0=true->lx 22=.agg #[iQ n1,iQ n2,.bool hh,.bool kk])/\(L 1=true->lx 23=.agg #[iQ r,iQ c,.bool f,.bool g,iQ r',iQ c',.bool f',.bool g',iQ x,iQ y])/\(L 2=true->lx 24=.agg #[iQ s,iQ d,.bool hh,.bool kk])/\(L 3=true->lx 25=.agg #[iQ n1,iQ n2,.bool hh,.bool kk])/\(L 4=true->lx 26=.bool false))) rfl (by kernel_rfl) (fun jj=>undef) rfl ?_ ?_ ?_
 ·exact ⟨xd (xr _),(fun h=>by cases h),(fun h=>by cases h),(fun h=>by cases h),(fun h=>by cases h),(fun h=>by cases h)⟩
 ·intro L lx lw ix oo K hK ho hL haf hI hcl;obtain ⟨E,f0,f1,f2,f3,f4⟩:=hI.out
  match ix,ho,hL,haf,hK with
  | 0,ho,hL,haf,hK =>
   cases ho
   (try dsimp only)
   refine Eq.mpr (if_pos (by rfl)) ?_;obtain ⟨p0,p1,p2,p3⟩:=vC4 (HM.out _ E).2.2;go_wp2_with fail;exact hK (fun jj=>if jj=22 then .agg #[iQ n1,iQ n2,.bool hh,.bool kk] else lx jj) _ ⟨E,(fun _=>rfl),f1,f2,f3,f4⟩
  | 1,ho,hL,haf,hK =>
   cases ho
   (try dsimp only)
   refine Eq.mpr (if_pos (by rfl)) ?_;go_wp2_with (refine wpList_load_mid rfl 45 (.tmp 3) rfl gM 0 rfl _ _ (HM.out _ E).1 Tryz.underlying45 rfl zDS ?_);exact hK (fun jj=>if jj=23 then .agg #[iQ r,iQ c,.bool f,.bool g,iQ r',iQ c',.bool f',.bool g',iQ x,iQ y] else lx jj) _ ⟨E,f0,(fun _=>rfl),f2,f3,f4⟩
  | 2,ho,hL,haf,hK =>
   cases ho
   (try dsimp only)
   refine Eq.mpr (if_pos (by rfl)) ?_;obtain ⟨p0,p1,p2,p3⟩:=vC4 (HM.out _ E).2.1;go_wp2_with fail;exact hK (fun jj=>if jj=24 then .agg #[iQ s,iQ d,.bool hh,.bool kk] else lx jj) _ ⟨E,f0,f1,(fun _=>rfl),f3,f4⟩
  | 3,ho,hL,haf,hK =>
   cases ho
   (try dsimp only)
   rw [f1 (haf ⟨1,.data⟩ (by simp) rfl),f2 (haf ⟨2,.data⟩ (by simp) rfl)];refine Eq.mpr (if_pos (by rfl)) ?_;go_wp2_with fail;refine (HS.out lw).mono ?_;rintro rr w' ⟨rfl,e'⟩;go_wp2_with fail;exact hK (fun jj=>if jj=25 then .agg #[iQ n1,iQ n2,.bool hh,.bool kk] else if jj=23 then .agg #[iQ r,iQ c,.bool f,.bool g,iQ r',iQ c',.bool f',.bool g',iQ x,iQ y] else if jj=24 then .agg #[iQ s,iQ d,.bool hh,.bool kk] else lx jj) _ ⟨(xt E e'),f0,(fun _=>rfl),(fun _=>rfl),(fun _=>rfl),f4⟩
  | 4,ho,hL,haf,hK =>
   cases ho
   (try dsimp only)
   rw [f0 (haf ⟨0,.data⟩ (by simp) rfl),f3 (haf ⟨3,.data⟩ (by simp) rfl)];refine Eq.mpr (if_pos (by rfl)) ?_;go_wp2_with fail;exact hK (fun jj=>if jj=26 then .bool false else if jj=22 then .agg #[iQ n1,iQ n2,.bool hh,.bool kk] else if jj=25 then .agg #[iQ n1,iQ n2,.bool hh,.bool kk] else lx jj) _ ⟨E,(fun _=>rfl),f1,f2,(fun _=>rfl),(fun _=>rfl)⟩
  | k+5,ho,_,_,_=>simp at ho
 ·intro L lx w6 hall hI;obtain ⟨E,f0,f1,f2,f3,f4⟩:=hI.out
  (try dsimp only)
  rw [f0 (hall 0 (by simp)),f1 (hall 1 (by simp)),f2 (hall 2 (by simp)),f3 (hall 3 (by simp)),f4 (hall 4 (by simp))];clear hI hall f0 f1 f2 f3 f4;have X6:=xt X5 E;have HM:Hid (∀ lw,Ext w6 lw->lw.rangeAt gM 0 [iQ r,iQ c,.bool f,.bool g,iQ r',iQ c',.bool f',.bool g',iQ x,iQ y]/\Vec lw (gM+1) [iQ s,iQ d,.bool hh,.bool kk]/\Vec lw gX [iQ n1,iQ n2,.bool hh,.bool kk]):=fun lw x=>HM.out lw (xt E x);clear E X5 H5 HGX HGM HS hrs;have RG1:=(HM.out w6 (xr _)).1;go_upto_region 7 with fail;go_wp2_with (refine wpList_load_mid rfl 45 (.tmp 3) rfl gM 0 rfl _ _ RG1 Tryz.underlying45 rfl zDS ?_);refine (HBM.out w6).mono ?_;rintro e w7 ⟨hP,e7⟩;obtain ⟨k1,k2,k3,k4,k5,k6,k7,k8,k9,kx,D,rfl,hD⟩:∃ (k1 k2:Int) (k3 k4:Bool) (k5 k6:Int) (k7 k8:Bool) (k9 kx:Int) (D:Bool),e=.returned (.tuple #[.agg #[iQ k1,iQ k2,.bool k3,.bool k4,iQ k5,iQ k6,.bool k7,.bool k8,iQ k9,iQ kx],.bool D])/\(D=true->¬ (n1=s/\n2=d)->∀ W,Calls Tryz.prog 19 #[.agg #[iQ k1,iQ k2,.bool k3,.bool k4,iQ k5,iQ k6,.bool k7,.bool k8,iQ k9,iQ kx],refV n1 n2 hh kk] W fun e w'=>e=.returned (refV s d hh kk)/\Ext W w'):=by
   cases hq:zBA r c r' c' x y
   ·exact ⟨_,_,_,_,_,_,_,_,_,_,_,hP.1 hq,fun h=>by cases h⟩
   ·refine ⟨_,_,_,_,_,_,_,_,_,_,_,hP.2 hq,fun _ hn W=>?_⟩;have hr:mrB x y (hi r r'+(x - lo r r')) (hi c c'+(y - lo c c')) (lo r r') (lo c c') n1 n2 hh kk=refV s d hh kk:=by
     rcases HB.out with h | h
     ·exact absurd h hn
     ·exact h hq
    have bd:=zE9 hq;have L1:=zED r r';have L2:=zED c c';rw [<- hr];exact zR9 x y false false (hi r r'+(x - lo r r')) (hi c c'+(y - lo c c')) false false (lo r r') (lo c c') n1 n2 hh kk W (by omega) (by omega)
  clear hP HB HBM RG1;have HK:Hid _:=hD;clear hD;obtain ⟨w8,h8,X8,M4,-⟩:=zAD w7 [iQ k1,iQ k2,.bool k3,.bool k4,iQ k5,iQ k6,.bool k7,.bool k8,iQ k9,iQ kx] 45;have H8:Hid _:=h8;obtain ⟨gB,hgB⟩:=nm (w7.heap.size);have HGB:Hid _:=hgB;rw [hgB] at M4;have E8:=xt e7 X8;have X8':=xt X6 E8;have HM:Hid (∀ lw,Ext w8 lw->lw.rangeAt gB 0 [iQ k1,iQ k2,.bool k3,.bool k4,iQ k5,iQ k6,.bool k7,.bool k8,iQ k9,iQ kx]/\Vec lw (gM+1) [iQ s,iQ d,.bool hh,.bool kk]/\Vec lw gX [iQ n1,iQ n2,.bool hh,.bool kk]):=fun lw x=>⟨fun j u hu=>by rw [Nat.zero_add];exact ((M4.l x) j u hu).1,(HM.out lw (xt E8 x)).2⟩;clear E8 X8 h8 hgB M4 X6 e7;obtain ⟨J,hJ⟩:=nm (decide (n1=s/\n2=d));have hne:∀ W,(binOp BinOp.neq 26 (refV n1 n2 hh kk) (refV s d hh kk)).run Tryz.prog W=.ok (.bool (!J)) W:=fun W=>by
   rw [zMX,<- hJ];simp
  have hrs:=fun W=>zKJ s d hh kk W;have HK:Hid (D=true->J=false->∀ W,Calls Tryz.prog 19 #[.agg #[iQ k1,iQ k2,.bool k3,.bool k4,iQ k5,iQ k6,.bool k7,.bool k8,iQ k9,iQ kx],refV n1 n2 hh kk] W fun e w'=>e=.returned (refV s d hh kk)/\Ext W w'):=fun h1 h2=>HK.out h1 (by rw [h2] at hJ;exact of_decide_eq_false hJ);clear hJ;go_upto_region 8 with fail;rw [H8.out]
  (try rw [HGB.out])
  go_cut [44] (fun s wc=>s=.bool false/\Ext w wc)
  case first =>
   cases D
   ·clear HK;refine zA3 (fun lx:Nat->Value=>{ tmps:=#[Value.slice p n cap,undef,Value.bool false,Value.pointer (some ⟨gM,0,none⟩),Value.pointer (some ⟨gM+1,0,none⟩),Value.pointer (some ⟨gX,0,none⟩),Value.pointer (some ⟨gB,0,none⟩),Value.bool false,undef,undef,undef,Value.slice p n cap,Value.int .i64 (n:Int),Value.bool false,Value.tuple #[Value.agg #[Value.int .i64 r,Value.int .i64 c,Value.bool f,Value.bool g,Value.int .i64 r',Value.int .i64 c',Value.bool f',Value.bool g',Value.int .i64 x,Value.int .i64 y],refV s d hh kk],Value.slice p n cap,Value.tuple #[Value.agg #[Value.int .i64 r,Value.int .i64 c,Value.bool f,Value.bool g,Value.int .i64 r',Value.int .i64 c',Value.bool f',Value.bool g',Value.int .i64 x,Value.int .i64 y],refV s d hh kk],Value.agg #[Value.int .i64 r,Value.int .i64 c,Value.bool f,Value.bool g,Value.int .i64 r',Value.int .i64 c',Value.bool f',Value.bool g',Value.int .i64 x,Value.int .i64 y],refV s d hh kk,Value.agg #[Value.int .i64 r,Value.int .i64 c,Value.bool f,Value.bool g,Value.int .i64 r',Value.int .i64 c',Value.bool f',Value.bool g',Value.int .i64 x,Value.int .i64 y],Value.agg #[Value.int .i64 s,Value.int .i64 d,Value.bool hh,Value.bool kk],refV n1 n2 hh kk,Value.agg #[Value.int .i64 n1,Value.int .i64 n2,Value.bool hh,Value.bool kk],Value.agg #[Value.int .i64 r,Value.int .i64 c,Value.bool f,Value.bool g,Value.int .i64 r',Value.int .i64 c',Value.bool f',Value.bool g',Value.int .i64 x,Value.int .i64 y],Value.agg #[Value.int .i64 s,Value.int .i64 d,Value.bool hh,Value.bool kk],Value.agg #[Value.int .i64 n1,Value.int .i64 n2,Value.bool hh,Value.bool kk],Value.bool false,Value.tuple #[Value.agg #[Value.int .i64 k1,Value.int .i64 k2,Value.bool k3,Value.bool k4,Value.int .i64 k5,Value.int .i64 k6,Value.bool k7,Value.bool k8,Value.int .i64 k9,Value.int .i64 kx],Value.bool false],Value.agg #[Value.int .i64 r,Value.int .i64 c,Value.bool f,Value.bool g,Value.int .i64 r',Value.int .i64 c',Value.bool f',Value.bool g',Value.int .i64 x,Value.int .i64 y],Value.tuple #[Value.agg #[Value.int .i64 k1,Value.int .i64 k2,Value.bool k3,Value.bool k4,Value.int .i64 k5,Value.int .i64 k6,Value.bool k7,Value.bool k8,Value.int .i64 k9,Value.int .i64 kx],Value.bool false],Value.agg #[Value.int .i64 k1,Value.int .i64 k2,Value.bool k3,Value.bool k4,Value.int .i64 k5,Value.int .i64 k6,Value.bool k7,Value.bool k8,Value.int .i64 k9,Value.int .i64 kx],Value.bool false,lx 32,lx 33,lx 34,lx 35,lx 36,lx 37,lx 38,lx 39,lx 40,lx 41,lx 42,lx 43,lx 44,undef,undef,undef,undef,undef,undef,undef,undef,undef,undef,undef,undef,undef,undef,undef,undef,undef,undef,undef,undef,undef,undef,undef,undef,undef],defers:=[] }) (fun L lx lw=>Hid (Ext w8 lw/\(L 0=true->lx 32=.bool false)/\(L 1=true->lx 33=.bool false)/\(L 2=true->lx 34=undef)/\(L 3=true->lx 35=undef)/\(L 4=true->lx 36=undef)/\(L 5=true->lx 37=.bool false)/\(L 6=true->lx 38=.bool false)/\(L 7=true->lx 39=undef)/\(L 8=true->lx 40=undef)/\(L 9=true->lx 41=undef)/\(L 10=true->lx 42=undef)/\(L 11=true->lx 43=undef)/\(L 12=true->lx 44=.bool false))) rfl (by kernel_rfl) (fun jj=>undef) rfl ?_ ?_ ?_
    ·exact ⟨xd (xr _),(fun h=>by cases h),(fun h=>by cases h),(fun h=>by cases h),(fun h=>by cases h),(fun h=>by cases h),(fun h=>by cases h),(fun h=>by cases h),(fun h=>by cases h),(fun h=>by cases h),(fun h=>by cases h),(fun h=>by cases h),(fun h=>by cases h),(fun h=>by cases h)⟩
    ·intro L lx lw ix oo K hK ho hL haf hI hcl;obtain ⟨E,f0,f1,f2,f3,f4,f5,f6,f7,f8,f9,f10,f11,f12⟩:=hI.out
     match ix,ho,hL,haf,hK with
     | 0,ho,hL,haf,hK =>
      cases ho
      (try dsimp only)
      refine Eq.mpr (if_pos (by rfl)) ?_;go_wp2_with fail;exact hK (fun jj=>if jj=32 then .bool false else lx jj) _ ⟨E,(fun _=>rfl),f1,f2,f3,f4,f5,f6,f7,f8,f9,f10,f11,f12⟩
     | 1,ho,hL,haf,hK =>
      cases ho
      (try dsimp only)
      rw [f0 (haf ⟨0,.data⟩ (by simp) rfl)];refine Eq.mpr (if_pos (by rfl)) ?_;go_wp2_with fail;exact hK (fun jj=>if jj=33 then .bool false else if jj=32 then .bool false else lx jj) _ ⟨E,(fun _=>rfl),(fun _=>rfl),f2,f3,f4,f5,f6,f7,f8,f9,f10,f11,f12⟩
     | 2,ho,hL,haf,hK =>
      cases ho
      (try dsimp only)
      rw [f1 (haf ⟨1,.guard⟩ (by simp) rfl)];refine Eq.mpr (if_neg (fun h=>Bool.noConfusion (show false=true from h))) ?_;exact hK (fun jj=>if jj=34 then undef else if jj=33 then .bool false else lx jj) _ ⟨E,f0,(fun _=>rfl),(fun _=>rfl),f3,f4,f5,f6,f7,f8,f9,f10,f11,f12⟩
     | 3,ho,hL,haf,hK =>
      cases ho
      (try dsimp only)
      rw [f1 (haf ⟨1,.guard⟩ (by simp) rfl)];refine Eq.mpr (if_neg (fun h=>Bool.noConfusion (show false=true from h))) ?_;exact hK (fun jj=>if jj=35 then undef else if jj=33 then .bool false else lx jj) _ ⟨E,f0,(fun _=>rfl),f2,(fun _=>rfl),f4,f5,f6,f7,f8,f9,f10,f11,f12⟩
     | 4,ho,hL,haf,hK =>
      cases ho
      (try dsimp only)
      rw [f1 (haf ⟨1,.guard⟩ (by simp) rfl)];refine Eq.mpr (if_neg (fun h=>Bool.noConfusion (show false=true from h))) ?_;exact hK (fun jj=>if jj=36 then undef else if jj=33 then .bool false else lx jj) _ ⟨E,f0,(fun _=>rfl),f2,f3,(fun _=>rfl),f5,f6,f7,f8,f9,f10,f11,f12⟩
     | 5,ho,hL,haf,hK =>
      cases ho
      (try dsimp only)
      rw [f1 (haf ⟨1,.data⟩ (by simp) rfl)];refine Eq.mpr (if_pos (by rfl)) ?_;go_wp2_with fail;exact hK (fun jj=>if jj=37 then .bool false else if jj=33 then .bool false else lx jj) _ ⟨E,f0,(fun _=>rfl),f2,f3,f4,(fun _=>rfl),f6,f7,f8,f9,f10,f11,f12⟩
     | 6,ho,hL,haf,hK =>
      cases ho
      (try dsimp only)
      rw [f5 (haf ⟨5,.data⟩ (by simp) rfl)];refine Eq.mpr (if_pos (by rfl)) ?_;go_wp2_with fail;exact hK (fun jj=>if jj=38 then .bool false else if jj=37 then .bool false else lx jj) _ ⟨E,f0,f1,f2,f3,f4,(fun _=>rfl),(fun _=>rfl),f7,f8,f9,f10,f11,f12⟩
     | 7,ho,hL,haf,hK =>
      cases ho
      (try dsimp only)
      rw [f6 (haf ⟨6,.guard⟩ (by simp) rfl)];refine Eq.mpr (if_neg (fun h=>Bool.noConfusion (show false=true from h))) ?_;exact hK (fun jj=>if jj=39 then undef else if jj=38 then .bool false else lx jj) _ ⟨E,f0,f1,f2,f3,f4,f5,(fun _=>rfl),(fun _=>rfl),f8,f9,f10,f11,f12⟩
     | 8,ho,hL,haf,hK =>
      cases ho
      (try dsimp only)
      rw [f6 (haf ⟨6,.guard⟩ (by simp) rfl)];refine Eq.mpr (if_neg (fun h=>Bool.noConfusion (show false=true from h))) ?_;exact hK (fun jj=>if jj=40 then undef else if jj=38 then .bool false else lx jj) _ ⟨E,f0,f1,f2,f3,f4,f5,(fun _=>rfl),f7,(fun _=>rfl),f9,f10,f11,f12⟩
     | 9,ho,hL,haf,hK =>
      cases ho
      (try dsimp only)
      rw [f6 (haf ⟨6,.guard⟩ (by simp) rfl)];refine Eq.mpr (if_neg (fun h=>Bool.noConfusion (show false=true from h))) ?_;exact hK (fun jj=>if jj=41 then undef else if jj=38 then .bool false else lx jj) _ ⟨E,f0,f1,f2,f3,f4,f5,(fun _=>rfl),f7,f8,(fun _=>rfl),f10,f11,f12⟩
     | 10,ho,hL,haf,hK =>
      cases ho
      (try dsimp only)
      rw [f6 (haf ⟨6,.guard⟩ (by simp) rfl)];refine Eq.mpr (if_neg (fun h=>Bool.noConfusion (show false=true from h))) ?_;exact hK (fun jj=>if jj=42 then undef else if jj=38 then .bool false else lx jj) _ ⟨E,f0,f1,f2,f3,f4,f5,(fun _=>rfl),f7,f8,f9,(fun _=>rfl),f11,f12⟩
     | 11,ho,hL,haf,hK =>
      cases ho
      (try dsimp only)
      rw [f6 (haf ⟨6,.guard⟩ (by simp) rfl)];refine Eq.mpr (if_neg (fun h=>Bool.noConfusion (show false=true from h))) ?_;exact hK (fun jj=>if jj=43 then undef else if jj=38 then .bool false else lx jj) _ ⟨E,f0,f1,f2,f3,f4,f5,(fun _=>rfl),f7,f8,f9,f10,(fun _=>rfl),f12⟩
     | 12,ho,hL,haf,hK =>
      cases ho
      (try dsimp only)
      rw [f6 (haf ⟨6,.data⟩ (by simp) rfl)];refine Eq.mpr (if_pos (by rfl)) ?_;go_wp2_with fail;exact hK (fun jj=>if jj=44 then .bool false else if jj=38 then .bool false else lx jj) _ ⟨E,f0,f1,f2,f3,f4,f5,(fun _=>rfl),f7,f8,f9,f10,f11,(fun _=>rfl)⟩
     | k+13,ho,_,_,_=>simp at ho
    ·intro L lx w9 hall hI;obtain ⟨E,f0,f1,f2,f3,f4,f5,f6,f7,f8,f9,f10,f11,f12⟩:=hI.out
     (try dsimp only)
     rw [f0 (hall 0 (by simp)),f1 (hall 1 (by simp)),f2 (hall 2 (by simp)),f3 (hall 3 (by simp)),f4 (hall 4 (by simp)),f5 (hall 5 (by simp)),f6 (hall 6 (by simp)),f7 (hall 7 (by simp)),f8 (hall 8 (by simp)),f9 (hall 9 (by simp)),f10 (hall 10 (by simp)),f11 (hall 11 (by simp)),f12 (hall 12 (by simp))];clear hI hall f0 f1 f2 f3 f4 f5 f6 f7 f8 f9 f10 f11 f12;go_wp2_with fail;go_meet
     case rel=>exact ⟨rfl,xt X8' E⟩
   ·cases J
    rotate_left
    ·clear HK;refine zA3 (fun lx:Nat->Value=>{ tmps:=#[Value.slice p n cap,undef,Value.bool false,Value.pointer (some ⟨gM,0,none⟩),Value.pointer (some ⟨gM+1,0,none⟩),Value.pointer (some ⟨gX,0,none⟩),Value.pointer (some ⟨gB,0,none⟩),Value.bool true,undef,undef,undef,Value.slice p n cap,Value.int .i64 (n:Int),Value.bool false,Value.tuple #[Value.agg #[Value.int .i64 r,Value.int .i64 c,Value.bool f,Value.bool g,Value.int .i64 r',Value.int .i64 c',Value.bool f',Value.bool g',Value.int .i64 x,Value.int .i64 y],refV s d hh kk],Value.slice p n cap,Value.tuple #[Value.agg #[Value.int .i64 r,Value.int .i64 c,Value.bool f,Value.bool g,Value.int .i64 r',Value.int .i64 c',Value.bool f',Value.bool g',Value.int .i64 x,Value.int .i64 y],refV s d hh kk],Value.agg #[Value.int .i64 r,Value.int .i64 c,Value.bool f,Value.bool g,Value.int .i64 r',Value.int .i64 c',Value.bool f',Value.bool g',Value.int .i64 x,Value.int .i64 y],refV s d hh kk,Value.agg #[Value.int .i64 r,Value.int .i64 c,Value.bool f,Value.bool g,Value.int .i64 r',Value.int .i64 c',Value.bool f',Value.bool g',Value.int .i64 x,Value.int .i64 y],Value.agg #[Value.int .i64 s,Value.int .i64 d,Value.bool hh,Value.bool kk],refV n1 n2 hh kk,Value.agg #[Value.int .i64 n1,Value.int .i64 n2,Value.bool hh,Value.bool kk],Value.agg #[Value.int .i64 r,Value.int .i64 c,Value.bool f,Value.bool g,Value.int .i64 r',Value.int .i64 c',Value.bool f',Value.bool g',Value.int .i64 x,Value.int .i64 y],Value.agg #[Value.int .i64 s,Value.int .i64 d,Value.bool hh,Value.bool kk],Value.agg #[Value.int .i64 n1,Value.int .i64 n2,Value.bool hh,Value.bool kk],Value.bool false,Value.tuple #[Value.agg #[Value.int .i64 k1,Value.int .i64 k2,Value.bool k3,Value.bool k4,Value.int .i64 k5,Value.int .i64 k6,Value.bool k7,Value.bool k8,Value.int .i64 k9,Value.int .i64 kx],Value.bool true],Value.agg #[Value.int .i64 r,Value.int .i64 c,Value.bool f,Value.bool g,Value.int .i64 r',Value.int .i64 c',Value.bool f',Value.bool g',Value.int .i64 x,Value.int .i64 y],Value.tuple #[Value.agg #[Value.int .i64 k1,Value.int .i64 k2,Value.bool k3,Value.bool k4,Value.int .i64 k5,Value.int .i64 k6,Value.bool k7,Value.bool k8,Value.int .i64 k9,Value.int .i64 kx],Value.bool true],Value.agg #[Value.int .i64 k1,Value.int .i64 k2,Value.bool k3,Value.bool k4,Value.int .i64 k5,Value.int .i64 k6,Value.bool k7,Value.bool k8,Value.int .i64 k9,Value.int .i64 kx],Value.bool true,lx 32,lx 33,lx 34,lx 35,lx 36,lx 37,lx 38,lx 39,lx 40,lx 41,lx 42,lx 43,lx 44,undef,undef,undef,undef,undef,undef,undef,undef,undef,undef,undef,undef,undef,undef,undef,undef,undef,undef,undef,undef,undef,undef,undef,undef,undef],defers:=[] }) (fun L lx lw=>Hid (Ext w8 lw/\(L 0=true->lx 32=.bool true)/\(L 1=true->lx 33=.bool true)/\(L 2=true->lx 34=.agg #[iQ n1,iQ n2,.bool hh,.bool kk])/\(L 3=true->lx 35=.agg #[iQ s,iQ d,.bool hh,.bool kk])/\(L 4=true->lx 36=.bool false)/\(L 5=true->lx 37=.bool false)/\(L 6=true->lx 38=.bool false)/\(L 7=true->lx 39=undef)/\(L 8=true->lx 40=undef)/\(L 9=true->lx 41=undef)/\(L 10=true->lx 42=undef)/\(L 11=true->lx 43=undef)/\(L 12=true->lx 44=.bool false))) rfl (by kernel_rfl) (fun jj=>undef) rfl ?_ ?_ ?_
     ·exact ⟨xd (xr _),(fun h=>by cases h),(fun h=>by cases h),(fun h=>by cases h),(fun h=>by cases h),(fun h=>by cases h),(fun h=>by cases h),(fun h=>by cases h),(fun h=>by cases h),(fun h=>by cases h),(fun h=>by cases h),(fun h=>by cases h),(fun h=>by cases h),(fun h=>by cases h)⟩
     ·intro L lx lw ix oo K hK ho hL haf hI hcl;obtain ⟨E,f0,f1,f2,f3,f4,f5,f6,f7,f8,f9,f10,f11,f12⟩:=hI.out
      match ix,ho,hL,haf,hK with
      | 0,ho,hL,haf,hK =>
       cases ho
       (try dsimp only)
       refine Eq.mpr (if_pos (by rfl)) ?_;go_wp2_with fail;exact hK (fun jj=>if jj=32 then .bool true else lx jj) _ ⟨E,(fun _=>rfl),f1,f2,f3,f4,f5,f6,f7,f8,f9,f10,f11,f12⟩
      | 1,ho,hL,haf,hK =>
       cases ho
       (try dsimp only)
       rw [f0 (haf ⟨0,.data⟩ (by simp) rfl)];refine Eq.mpr (if_pos (by rfl)) ?_;go_wp2_with fail;exact hK (fun jj=>if jj=33 then .bool true else if jj=32 then .bool true else lx jj) _ ⟨E,(fun _=>rfl),(fun _=>rfl),f2,f3,f4,f5,f6,f7,f8,f9,f10,f11,f12⟩
      | 2,ho,hL,haf,hK =>
       cases ho
       (try dsimp only)
       rw [f1 (haf ⟨1,.guard⟩ (by simp) rfl)];refine Eq.mpr (if_pos (by rfl)) ?_;obtain ⟨p0,p1,p2,p3⟩:=vC4 (HM.out _ E).2.2;go_wp2_with fail;exact hK (fun jj=>if jj=34 then .agg #[iQ n1,iQ n2,.bool hh,.bool kk] else if jj=33 then .bool true else lx jj) _ ⟨E,f0,(fun _=>rfl),(fun _=>rfl),f3,f4,f5,f6,f7,f8,f9,f10,f11,f12⟩
      | 3,ho,hL,haf,hK =>
       cases ho
       (try dsimp only)
       rw [f1 (haf ⟨1,.guard⟩ (by simp) rfl)];refine Eq.mpr (if_pos (by rfl)) ?_;obtain ⟨p0,p1,p2,p3⟩:=vC4 (HM.out _ E).2.1;go_wp2_with fail;exact hK (fun jj=>if jj=35 then .agg #[iQ s,iQ d,.bool hh,.bool kk] else if jj=33 then .bool true else lx jj) _ ⟨E,f0,(fun _=>rfl),f2,(fun _=>rfl),f4,f5,f6,f7,f8,f9,f10,f11,f12⟩
      | 4,ho,hL,haf,hK =>
       cases ho
       (try dsimp only)
       rw [f1 (haf ⟨1,.guard⟩ (by simp) rfl),f2 (haf ⟨2,.data⟩ (by simp) rfl),f3 (haf ⟨3,.data⟩ (by simp) rfl)];refine Eq.mpr (if_pos (by rfl)) ?_;go_wp2_with fail;exact hK (fun jj=>if jj=36 then .bool false else if jj=33 then .bool true else if jj=34 then .agg #[iQ n1,iQ n2,.bool hh,.bool kk] else if jj=35 then .agg #[iQ s,iQ d,.bool hh,.bool kk] else lx jj) _ ⟨E,f0,(fun _=>rfl),(fun _=>rfl),(fun _=>rfl),(fun _=>rfl),f5,f6,f7,f8,f9,f10,f11,f12⟩
      | 5,ho,hL,haf,hK =>
       cases ho
       (try dsimp only)
       rw [f1 (haf ⟨1,.data⟩ (by simp) rfl),f4 (haf ⟨4,.data⟩ (by simp) rfl)];refine Eq.mpr (if_pos (by rfl)) ?_;go_wp2_with fail;exact hK (fun jj=>if jj=37 then .bool false else if jj=33 then .bool true else if jj=36 then .bool false else lx jj) _ ⟨E,f0,(fun _=>rfl),f2,f3,(fun _=>rfl),(fun _=>rfl),f6,f7,f8,f9,f10,f11,f12⟩
      | 6,ho,hL,haf,hK =>
       cases ho
       (try dsimp only)
       rw [f5 (haf ⟨5,.data⟩ (by simp) rfl)];refine Eq.mpr (if_pos (by rfl)) ?_;go_wp2_with fail;exact hK (fun jj=>if jj=38 then .bool false else if jj=37 then .bool false else lx jj) _ ⟨E,f0,f1,f2,f3,f4,(fun _=>rfl),(fun _=>rfl),f7,f8,f9,f10,f11,f12⟩
      | 7,ho,hL,haf,hK =>
       cases ho
       (try dsimp only)
       rw [f6 (haf ⟨6,.guard⟩ (by simp) rfl)];refine Eq.mpr (if_neg (fun h=>Bool.noConfusion (show false=true from h))) ?_;exact hK (fun jj=>if jj=39 then undef else if jj=38 then .bool false else lx jj) _ ⟨E,f0,f1,f2,f3,f4,f5,(fun _=>rfl),(fun _=>rfl),f8,f9,f10,f11,f12⟩
      | 8,ho,hL,haf,hK =>
       cases ho
       (try dsimp only)
       rw [f6 (haf ⟨6,.guard⟩ (by simp) rfl)];refine Eq.mpr (if_neg (fun h=>Bool.noConfusion (show false=true from h))) ?_;exact hK (fun jj=>if jj=40 then undef else if jj=38 then .bool false else lx jj) _ ⟨E,f0,f1,f2,f3,f4,f5,(fun _=>rfl),f7,(fun _=>rfl),f9,f10,f11,f12⟩
      | 9,ho,hL,haf,hK =>
       cases ho
       (try dsimp only)
       rw [f6 (haf ⟨6,.guard⟩ (by simp) rfl)];refine Eq.mpr (if_neg (fun h=>Bool.noConfusion (show false=true from h))) ?_;exact hK (fun jj=>if jj=41 then undef else if jj=38 then .bool false else lx jj) _ ⟨E,f0,f1,f2,f3,f4,f5,(fun _=>rfl),f7,f8,(fun _=>rfl),f10,f11,f12⟩
      | 10,ho,hL,haf,hK =>
       cases ho
       (try dsimp only)
       rw [f6 (haf ⟨6,.guard⟩ (by simp) rfl)];refine Eq.mpr (if_neg (fun h=>Bool.noConfusion (show false=true from h))) ?_;exact hK (fun jj=>if jj=42 then undef else if jj=38 then .bool false else lx jj) _ ⟨E,f0,f1,f2,f3,f4,f5,(fun _=>rfl),f7,f8,f9,(fun _=>rfl),f11,f12⟩
      | 11,ho,hL,haf,hK =>
       cases ho
       (try dsimp only)
       rw [f6 (haf ⟨6,.guard⟩ (by simp) rfl)];refine Eq.mpr (if_neg (fun h=>Bool.noConfusion (show false=true from h))) ?_;exact hK (fun jj=>if jj=43 then undef else if jj=38 then .bool false else lx jj) _ ⟨E,f0,f1,f2,f3,f4,f5,(fun _=>rfl),f7,f8,f9,f10,(fun _=>rfl),f12⟩
      | 12,ho,hL,haf,hK =>
       cases ho
       (try dsimp only)
       rw [f6 (haf ⟨6,.data⟩ (by simp) rfl)];refine Eq.mpr (if_pos (by rfl)) ?_;go_wp2_with fail;exact hK (fun jj=>if jj=44 then .bool false else if jj=38 then .bool false else lx jj) _ ⟨E,f0,f1,f2,f3,f4,f5,(fun _=>rfl),f7,f8,f9,f10,f11,(fun _=>rfl)⟩
      | k+13,ho,_,_,_=>simp at ho
     ·intro L lx w9 hall hI;obtain ⟨E,f0,f1,f2,f3,f4,f5,f6,f7,f8,f9,f10,f11,f12⟩:=hI.out
      (try dsimp only)
      rw [f0 (hall 0 (by simp)),f1 (hall 1 (by simp)),f2 (hall 2 (by simp)),f3 (hall 3 (by simp)),f4 (hall 4 (by simp)),f5 (hall 5 (by simp)),f6 (hall 6 (by simp)),f7 (hall 7 (by simp)),f8 (hall 8 (by simp)),f9 (hall 9 (by simp)),f10 (hall 10 (by simp)),f11 (hall 11 (by simp)),f12 (hall 12 (by simp))];clear hI hall f0 f1 f2 f3 f4 f5 f6 f7 f8 f9 f10 f11 f12;go_wp2_with fail;go_meet
      case rel=>exact ⟨rfl,xt X8' E⟩
    ·have HKK:Hid (∀ W,_):=HK.out rfl rfl;clear HK;refine zA3 (fun lx:Nat->Value=>{ tmps:=#[Value.slice p n cap,undef,Value.bool false,Value.pointer (some ⟨gM,0,none⟩),Value.pointer (some ⟨gM+1,0,none⟩),Value.pointer (some ⟨gX,0,none⟩),Value.pointer (some ⟨gB,0,none⟩),Value.bool true,undef,undef,undef,Value.slice p n cap,Value.int .i64 (n:Int),Value.bool false,Value.tuple #[Value.agg #[Value.int .i64 r,Value.int .i64 c,Value.bool f,Value.bool g,Value.int .i64 r',Value.int .i64 c',Value.bool f',Value.bool g',Value.int .i64 x,Value.int .i64 y],refV s d hh kk],Value.slice p n cap,Value.tuple #[Value.agg #[Value.int .i64 r,Value.int .i64 c,Value.bool f,Value.bool g,Value.int .i64 r',Value.int .i64 c',Value.bool f',Value.bool g',Value.int .i64 x,Value.int .i64 y],refV s d hh kk],Value.agg #[Value.int .i64 r,Value.int .i64 c,Value.bool f,Value.bool g,Value.int .i64 r',Value.int .i64 c',Value.bool f',Value.bool g',Value.int .i64 x,Value.int .i64 y],refV s d hh kk,Value.agg #[Value.int .i64 r,Value.int .i64 c,Value.bool f,Value.bool g,Value.int .i64 r',Value.int .i64 c',Value.bool f',Value.bool g',Value.int .i64 x,Value.int .i64 y],Value.agg #[Value.int .i64 s,Value.int .i64 d,Value.bool hh,Value.bool kk],refV n1 n2 hh kk,Value.agg #[Value.int .i64 n1,Value.int .i64 n2,Value.bool hh,Value.bool kk],Value.agg #[Value.int .i64 r,Value.int .i64 c,Value.bool f,Value.bool g,Value.int .i64 r',Value.int .i64 c',Value.bool f',Value.bool g',Value.int .i64 x,Value.int .i64 y],Value.agg #[Value.int .i64 s,Value.int .i64 d,Value.bool hh,Value.bool kk],Value.agg #[Value.int .i64 n1,Value.int .i64 n2,Value.bool hh,Value.bool kk],Value.bool false,Value.tuple #[Value.agg #[Value.int .i64 k1,Value.int .i64 k2,Value.bool k3,Value.bool k4,Value.int .i64 k5,Value.int .i64 k6,Value.bool k7,Value.bool k8,Value.int .i64 k9,Value.int .i64 kx],Value.bool true],Value.agg #[Value.int .i64 r,Value.int .i64 c,Value.bool f,Value.bool g,Value.int .i64 r',Value.int .i64 c',Value.bool f',Value.bool g',Value.int .i64 x,Value.int .i64 y],Value.tuple #[Value.agg #[Value.int .i64 k1,Value.int .i64 k2,Value.bool k3,Value.bool k4,Value.int .i64 k5,Value.int .i64 k6,Value.bool k7,Value.bool k8,Value.int .i64 k9,Value.int .i64 kx],Value.bool true],Value.agg #[Value.int .i64 k1,Value.int .i64 k2,Value.bool k3,Value.bool k4,Value.int .i64 k5,Value.int .i64 k6,Value.bool k7,Value.bool k8,Value.int .i64 k9,Value.int .i64 kx],Value.bool true,lx 32,lx 33,lx 34,lx 35,lx 36,lx 37,lx 38,lx 39,lx 40,lx 41,lx 42,lx 43,lx 44,undef,undef,undef,undef,undef,undef,undef,undef,undef,undef,undef,undef,undef,undef,undef,undef,undef,undef,undef,undef,undef,undef,undef,undef,undef],defers:=[] }) (fun L lx lw=>Hid (Ext w8 lw/\(L 0=true->lx 32=.bool true)/\(L 1=true->lx 33=.bool true)/\(L 2=true->lx 34=.agg #[iQ n1,iQ n2,.bool hh,.bool kk])/\(L 3=true->lx 35=.agg #[iQ s,iQ d,.bool hh,.bool kk])/\(L 4=true->lx 36=.bool true)/\(L 5=true->lx 37=.bool true)/\(L 6=true->lx 38=.bool true)/\(L 7=true->lx 39=.agg #[iQ k1,iQ k2,.bool k3,.bool k4,iQ k5,iQ k6,.bool k7,.bool k8,iQ k9,iQ kx])/\(L 8=true->lx 40=.agg #[iQ n1,iQ n2,.bool hh,.bool kk])/\(L 9=true->lx 41=.agg #[iQ s,iQ d,.bool hh,.bool kk])/\(L 10=true->lx 42=.agg #[iQ s,iQ d,.bool hh,.bool kk])/\(L 11=true->lx 43=.bool false)/\(L 12=true->lx 44=.bool false))) rfl (by kernel_rfl) (fun jj=>undef) rfl ?_ ?_ ?_
     ·exact ⟨xd (xr _),(fun h=>by cases h),(fun h=>by cases h),(fun h=>by cases h),(fun h=>by cases h),(fun h=>by cases h),(fun h=>by cases h),(fun h=>by cases h),(fun h=>by cases h),(fun h=>by cases h),(fun h=>by cases h),(fun h=>by cases h),(fun h=>by cases h),(fun h=>by cases h)⟩
     ·intro L lx lw ix oo K hK ho hL haf hI hcl;obtain ⟨E,f0,f1,f2,f3,f4,f5,f6,f7,f8,f9,f10,f11,f12⟩:=hI.out
      match ix,ho,hL,haf,hK with
      | 0,ho,hL,haf,hK =>
       cases ho
       (try dsimp only)
       refine Eq.mpr (if_pos (by rfl)) ?_;go_wp2_with fail;exact hK (fun jj=>if jj=32 then .bool true else lx jj) _ ⟨E,(fun _=>rfl),f1,f2,f3,f4,f5,f6,f7,f8,f9,f10,f11,f12⟩
      | 1,ho,hL,haf,hK =>
       cases ho
       (try dsimp only)
       rw [f0 (haf ⟨0,.data⟩ (by simp) rfl)];refine Eq.mpr (if_pos (by rfl)) ?_;go_wp2_with fail;exact hK (fun jj=>if jj=33 then .bool true else if jj=32 then .bool true else lx jj) _ ⟨E,(fun _=>rfl),(fun _=>rfl),f2,f3,f4,f5,f6,f7,f8,f9,f10,f11,f12⟩
      | 2,ho,hL,haf,hK =>
       cases ho
       (try dsimp only)
       rw [f1 (haf ⟨1,.guard⟩ (by simp) rfl)];refine Eq.mpr (if_pos (by rfl)) ?_;obtain ⟨p0,p1,p2,p3⟩:=vC4 (HM.out _ E).2.2;go_wp2_with fail;exact hK (fun jj=>if jj=34 then .agg #[iQ n1,iQ n2,.bool hh,.bool kk] else if jj=33 then .bool true else lx jj) _ ⟨E,f0,(fun _=>rfl),(fun _=>rfl),f3,f4,f5,f6,f7,f8,f9,f10,f11,f12⟩
      | 3,ho,hL,haf,hK =>
       cases ho
       (try dsimp only)
       rw [f1 (haf ⟨1,.guard⟩ (by simp) rfl)];refine Eq.mpr (if_pos (by rfl)) ?_;obtain ⟨p0,p1,p2,p3⟩:=vC4 (HM.out _ E).2.1;go_wp2_with fail;exact hK (fun jj=>if jj=35 then .agg #[iQ s,iQ d,.bool hh,.bool kk] else if jj=33 then .bool true else lx jj) _ ⟨E,f0,(fun _=>rfl),f2,(fun _=>rfl),f4,f5,f6,f7,f8,f9,f10,f11,f12⟩
      | 4,ho,hL,haf,hK =>
       cases ho
       (try dsimp only)
       rw [f1 (haf ⟨1,.guard⟩ (by simp) rfl),f2 (haf ⟨2,.data⟩ (by simp) rfl),f3 (haf ⟨3,.data⟩ (by simp) rfl)];refine Eq.mpr (if_pos (by rfl)) ?_;go_wp2_with fail;exact hK (fun jj=>if jj=36 then .bool true else if jj=33 then .bool true else if jj=34 then .agg #[iQ n1,iQ n2,.bool hh,.bool kk] else if jj=35 then .agg #[iQ s,iQ d,.bool hh,.bool kk] else lx jj) _ ⟨E,f0,(fun _=>rfl),(fun _=>rfl),(fun _=>rfl),(fun _=>rfl),f5,f6,f7,f8,f9,f10,f11,f12⟩
      | 5,ho,hL,haf,hK =>
       cases ho
       (try dsimp only)
       rw [f1 (haf ⟨1,.data⟩ (by simp) rfl),f4 (haf ⟨4,.data⟩ (by simp) rfl)];refine Eq.mpr (if_pos (by rfl)) ?_;go_wp2_with fail;exact hK (fun jj=>if jj=37 then .bool true else if jj=33 then .bool true else if jj=36 then .bool true else lx jj) _ ⟨E,f0,(fun _=>rfl),f2,f3,(fun _=>rfl),(fun _=>rfl),f6,f7,f8,f9,f10,f11,f12⟩
      | 6,ho,hL,haf,hK =>
       cases ho
       (try dsimp only)
       rw [f5 (haf ⟨5,.data⟩ (by simp) rfl)];refine Eq.mpr (if_pos (by rfl)) ?_;go_wp2_with fail;exact hK (fun jj=>if jj=38 then .bool true else if jj=37 then .bool true else lx jj) _ ⟨E,f0,f1,f2,f3,f4,(fun _=>rfl),(fun _=>rfl),f7,f8,f9,f10,f11,f12⟩
      | 7,ho,hL,haf,hK =>
       cases ho
       (try dsimp only)
       rw [f6 (haf ⟨6,.guard⟩ (by simp) rfl)];refine Eq.mpr (if_pos (by rfl)) ?_;go_wp2_with (refine wpList_load_mid rfl 45 (.tmp 6) rfl gB 0 rfl _ _ (HM.out _ E).1 Tryz.underlying45 rfl zDS ?_);exact hK (fun jj=>if jj=39 then .agg #[iQ k1,iQ k2,.bool k3,.bool k4,iQ k5,iQ k6,.bool k7,.bool k8,iQ k9,iQ kx] else if jj=38 then .bool true else lx jj) _ ⟨E,f0,f1,f2,f3,f4,f5,(fun _=>rfl),(fun _=>rfl),f8,f9,f10,f11,f12⟩
      | 8,ho,hL,haf,hK =>
       cases ho
       (try dsimp only)
       rw [f6 (haf ⟨6,.guard⟩ (by simp) rfl)];refine Eq.mpr (if_pos (by rfl)) ?_;obtain ⟨p0,p1,p2,p3⟩:=vC4 (HM.out _ E).2.2;go_wp2_with fail;exact hK (fun jj=>if jj=40 then .agg #[iQ n1,iQ n2,.bool hh,.bool kk] else if jj=38 then .bool true else lx jj) _ ⟨E,f0,f1,f2,f3,f4,f5,(fun _=>rfl),f7,(fun _=>rfl),f9,f10,f11,f12⟩
      | 9,ho,hL,haf,hK =>
       cases ho
       (try dsimp only)
       rw [f6 (haf ⟨6,.guard⟩ (by simp) rfl),f7 (haf ⟨7,.data⟩ (by simp) rfl),f8 (haf ⟨8,.data⟩ (by simp) rfl)];refine Eq.mpr (if_pos (by rfl)) ?_;go_wp2_with fail;refine (HKK.out lw).mono ?_;rintro rr w' ⟨rfl,e'⟩;go_wp2_with fail;exact hK (fun jj=>if jj=41 then .agg #[iQ s,iQ d,.bool hh,.bool kk] else if jj=38 then .bool true else if jj=39 then .agg #[iQ k1,iQ k2,.bool k3,.bool k4,iQ k5,iQ k6,.bool k7,.bool k8,iQ k9,iQ kx] else if jj=40 then .agg #[iQ n1,iQ n2,.bool hh,.bool kk] else lx jj) _ ⟨(xt E e'),f0,f1,f2,f3,f4,f5,(fun _=>rfl),(fun _=>rfl),(fun _=>rfl),(fun _=>rfl),f10,f11,f12⟩
      | 10,ho,hL,haf,hK =>
       cases ho
       (try dsimp only)
       rw [f6 (haf ⟨6,.guard⟩ (by simp) rfl)];refine Eq.mpr (if_pos (by rfl)) ?_;obtain ⟨p0,p1,p2,p3⟩:=vC4 (HM.out _ E).2.1;go_wp2_with fail;exact hK (fun jj=>if jj=42 then .agg #[iQ s,iQ d,.bool hh,.bool kk] else if jj=38 then .bool true else lx jj) _ ⟨E,f0,f1,f2,f3,f4,f5,(fun _=>rfl),f7,f8,f9,(fun _=>rfl),f11,f12⟩
      | 11,ho,hL,haf,hK =>
       cases ho
       (try dsimp only)
       rw [f6 (haf ⟨6,.guard⟩ (by simp) rfl),f9 (haf ⟨9,.data⟩ (by simp) rfl),f10 (haf ⟨10,.data⟩ (by simp) rfl)];refine Eq.mpr (if_pos (by rfl)) ?_;go_wp2_with fail;exact hK (fun jj=>if jj=43 then .bool false else if jj=38 then .bool true else if jj=41 then .agg #[iQ s,iQ d,.bool hh,.bool kk] else if jj=42 then .agg #[iQ s,iQ d,.bool hh,.bool kk] else lx jj) _ ⟨E,f0,f1,f2,f3,f4,f5,(fun _=>rfl),f7,f8,(fun _=>rfl),(fun _=>rfl),(fun _=>rfl),f12⟩
      | 12,ho,hL,haf,hK =>
       cases ho
       (try dsimp only)
       rw [f6 (haf ⟨6,.data⟩ (by simp) rfl),f11 (haf ⟨11,.data⟩ (by simp) rfl)];refine Eq.mpr (if_pos (by rfl)) ?_;go_wp2_with fail;exact hK (fun jj=>if jj=44 then .bool false else if jj=38 then .bool true else if jj=43 then .bool false else lx jj) _ ⟨E,f0,f1,f2,f3,f4,f5,(fun _=>rfl),f7,f8,f9,f10,(fun _=>rfl),(fun _=>rfl)⟩
      | k+13,ho,_,_,_=>simp at ho
     ·intro L lx w9 hall hI;obtain ⟨E,f0,f1,f2,f3,f4,f5,f6,f7,f8,f9,f10,f11,f12⟩:=hI.out
      (try dsimp only)
      rw [f0 (hall 0 (by simp)),f1 (hall 1 (by simp)),f2 (hall 2 (by simp)),f3 (hall 3 (by simp)),f4 (hall 4 (by simp)),f5 (hall 5 (by simp)),f6 (hall 6 (by simp)),f7 (hall 7 (by simp)),f8 (hall 8 (by simp)),f9 (hall 9 (by simp)),f10 (hall 10 (by simp)),f11 (hall 11 (by simp)),f12 (hall 12 (by simp))];clear hI hall f0 f1 f2 f3 f4 f5 f6 f7 f8 f9 f10 f11 f12;go_wp2_with fail;go_meet
      case rel=>exact ⟨rfl,xt X8' E⟩
  case rest =>
  obtain ⟨rfl,X9⟩:=hcut;clear HK HM hne hrs X8' H8 HGB
  rename World=>wz
  rename (Ext w wz)=>XZ
  go_upto_region 10 with fail;go_wp2_with fail;refine (HDF.out wz XZ).mono ?_;rintro e w1 ⟨⟨r,c,f,g,r',c',f',g',x,y,q2,cp,fl,rfl,hx,hy,hN,hF⟩,e1⟩;clear HDF;have XA:=xt XZ e1;obtain ⟨w2,h2,X1,M1,-⟩:=zAD w1 [iQ r,iQ c,.bool f,.bool g,iQ r',iQ c',.bool f',.bool g',iQ x,iQ y] 45;have H2:Hid _:=h2;have XB:=xt XA X1;have hN:=hN.l X1;clear h2 e1 XA X1 XZ;obtain ⟨g2,hg2⟩:=nm (w1.heap.size);have HG2:Hid _:=hg2;rw [hg2] at M1;clear hg2;have HTI:Calls Tryz.prog 23 #[.agg #[iQ r,iQ c,.bool f,.bool g,iQ r',iQ c',.bool f',.bool g',iQ x,iQ y],.slice q2 fl.length cp] w2 fun e w'=>zBW (zEW r c r' c' x y fl) w2 e w':=by
   have hW:=HW.out w2 XB;exact zUQ r c f g r' c' f' g' x y (by omega) (by omega) _ fl w2 hN hF.1 (by have:=hF.2;omega) hW.t hW.e hW.o hW.l hW.i
  have HTS:Hid (∀ W,Ext w2 W->Calls Tryz.prog 24 #[.agg #[iQ r,iQ c,.bool f,.bool g,iQ r',iQ c',.bool f',.bool g',iQ x,iQ y],.slice q2 fl.length cp] W fun e w'=>zBW (zEW r c r' c' x y fl) W e w'):=fun W x'=>zUP r c f g r' c' f' g' x y _ fl W (hN.l x') (fun x hx=>(hF.1 x hx).1);have HGF:Hid (∀ W,Ext w2 W->Calls Tryz.prog 13 #[.slice q2 fl.length cp] W fun e w'=>e=.returned (.bool (zAZ NT.good fl))/\Ext W w'):=fun W x'=>zRD _ fl W (hN.l x') (fun x hx=>(hF.1 x hx).1);have hgl:=zLR r c r' c' x y fl;have hll:(zEW r c r' c' x y fl).length<=fl.length:=zPE _ _;obtain ⟨l,hl⟩:=nm (zEW r c r' c' x y fl);rw [hl] at HTI HTS hgl hll;obtain ⟨G,hG⟩:=nm (zAZ NT.good fl);rw [hG] at HGF hgl;obtain ⟨lm,hlm⟩:=nm (l.length);have HLM:Hid _:=hlm;obtain ⟨flm,hflm⟩:=nm (fl.length);have HFLM:Hid _:=hflm;rw [hflm] at HTI HTS HGF hgl hll;rw [hlm] at hgl hll;have hl9:lm<=900:=by have:=hF.2;omega
  have HGL:Hid _:=hgl;clear hl hG hgl hll hlm hflm hN hF hx hy HW;have RG1:w2.rangeAt g2 0 [iQ r,iQ c,.bool f,.bool g,iQ r',iQ c',.bool f',.bool g',iQ x,iQ y]:=fun j u hu=>by rw [Nat.zero_add];exact (M1 j u hu).1
  go_upto_region 11 with fail;rw [H2.out,HFLM.out]
  (try rw [HG2.out])
  go_wp2_with (refine wpList_load_mid rfl 45 (.tmp 8) rfl g2 0 rfl _ _ RG1 Tryz.underlying45 rfl zDS ?_);refine HTI.mono ?_;intro e w3 hp;obtain ⟨p3,c3,rfl,N3,e3⟩:=zFJ hp;have N3':Hid (zAT w3 (.slice p3 l.length c3) l):=N3;rw [HLM.out] at N3' ⊢;have X3:=xt XB e3;have RG2:w3.rangeAt g2 0 [iQ r,iQ c,.bool f,.bool g,iQ r',iQ c',.bool f',.bool g',iQ x,iQ y]:=fun j u hu=>by rw [Nat.zero_add];exact ((M1.l e3) j u hu).1
  have HTS:=HTS.out w3 e3;clear RG1 H2 hp HTI N3 M1 HG2;go_upto_region 12 with fail;go_wp2_with (refine wpList_load_mid rfl 45 (.tmp 8) rfl g2 0 rfl _ _ RG2 Tryz.underlying45 rfl zDS ?_);refine HTS.mono ?_;intro e w4 hp;obtain ⟨p4,c4,rfl,N4,e4⟩:=zFJ hp;rw [HLM.out] at N4 ⊢;have CZ:=zVO (.slice p3 lm c3) (.slice p4 lm c4) l w4 (N3'.out.l e4) N4 (by have:=HLM.out;omega);have X4:=xt X3 e4;clear HTS N4 N3' hp RG2;go_wp2_with fail;refine CZ.mono ?_;rintro e w5 ⟨rfl,e5⟩;have X5:=xt X4 e5;have CG:=HGF.out w5 (xt (xt e3 e4) e5);clear CZ HGF e3 e4 e5 X3 X4;by_cases h0:lm=flm
  ·subst h0;clear CG;go_wp2_with fail;go_ret;exact ⟨rfl,X5⟩
  ·have hG:G=false:=by
    cases G
    ·rfl
    ·exact absurd (HGL.out rfl) h0
   subst hG;have hz:((lm:Int) == (flm:Int))=false:=by simp;omega
   have hz2:¬ ((lm:Int)=(flm:Int)):=by omega
   clear HGL;go_wp2_with fail;refine CG.mono ?_;rintro e w6 ⟨rfl,e6⟩;go_wp2_with fail;go_ret;exact ⟨rfl,xt X5 e6⟩
end Go.Proofs.YteliaeejooekbaaGreatDoor
