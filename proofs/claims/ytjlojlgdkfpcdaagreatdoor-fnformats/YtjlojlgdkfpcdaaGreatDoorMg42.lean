/-
  Several texts in one: Se2, Se3, Te8.
-/
import Derived.Test.YtjlojlgdkfpcdaaGreatDoorMg41
import Derived.Test.YtjlojlgdkfpcdaaGreatDoorSe1
import Derived.Test.YtjlojlgdkfpcdaaGreatDoorMg28
import Derived.Test.YtjlojlgdkfpcdaaGreatDoorMg40
import Derived.Test.YtjlojlgdkfpcdaaGreatDoorMg5
import Derived.Test.YtjlojlgdkfpcdaaGreatDoorMg38
set_option maxRecDepth 8000
set_option maxHeartbeats 16000000
namespace Go.Proofs.YtjlojlgdkfpcdaaGreatDoor
open Go.RowKit
theorem dec_eql (n:Bool) (d x:Int) (W:World) :
  (binOp BinOp.eql 31 (decV n d x) (decV false 0 0)).run Tryz.prog W=.ok (.bool (decide (n=false/\d=0/\x=0))) W:=by
 by_cases h:n=false/\d=0/\x=0
 ·obtain ⟨rfl,rfl,rfl⟩:=h
  go_simp
 ·rw [decide_eq_false h];have H:Hid (¬ (n=false/\d=0/\x=0)):=h;clear h
  go_simp
  intros
  have:=H.out
  simp_all
theorem showByI (RP:RepC) (k:Int) (n:Bool) (d x:Int) (t c:BLs) (w:World) (hl:t.length<=2000000) (hcl:c.length<=100000000) (d1 : -9223372036854775808<=d) (d2:d<=9223372036854775807) (hT:Tens w) (hE:zE6 w) (IT:zD2 w) (hM:zCJ w) (hC:Cals w) (TK:TabK w) :
  Calls Tryz.prog 12 #[valV k n d x t,sV c] w fun r w'=>r=.returned (sV (zC4 k n d x t c))/\Ext w w':=by
 have CR:Hid (∀ W,Ext w W->Calls Tryz.prog 8 #[sV c] W fun e w'=>(∃ v,e=.returned v/\OwnF w' W.heap.size v (zAZ c))/\Ext W w'):=fun W X=>by rw [<- zG9];exact readI c W hcl (TK.l X)
 have CG:Hid (∀ W,Ext w W->Calls Tryz.prog 34 #[valV k n d x t] W fun e w'=>e=.returned (.bool (zAR k n d x t))/\Ext W w'):=fun W X=>zT4 k n d x t W hl d1 d2 (hT.l X) (hE.l X);have CS:Hid (∀ W,Ext w W->Calls Tryz.prog 35 #[valV k n d x t] W fun e w'=>e=.returned (sV (zDE k n d x t))/\Ext W w'):=fun W X=>showI k n d x t W hl d1 d2 (hT.l X) (hE.l X) (fun z W' z0 z1 X'=>IT z W' z0 z1 (xt X X'));obtain ⟨A,hA⟩:=nm (zC4 k n d x t c);have HA:Hid (zC4 k n d x t c=A):=hA;rw [hA];obtain ⟨G,hG⟩:=nm (zAR k n d x t);obtain ⟨l,hL⟩:=nm (zAZ c);have HGY:Hid ((∀ f ∈ l,zJZ f)/\l.length<=3):=by show _/\_;rw [<- hL];exact zF6 c
 have HNO:Hid (¬ (G=true/\k=1/\l ≠ [])->zDE k n d x t=A):=fun h=>by rw [<- HA.out,zC4,hG,hL,if_neg h]
 have HYES:Hid (G=true->k=1->l ≠ []->A=zJG (zAX l n d) (n && !decide (1<l.length)) d x):=fun h1 h2 h3=>by rw [<- HA.out,zC4,hG,hL,if_pos ⟨h1,h2,h3⟩]
 have HGN:Hid (G=true->k=1->zA1 n d x=true):=fun h1 h2=>zNW (hG.trans h1) h2;rw [hL] at CR;rw [hG] at CG;have HTB:=hid (And.intro RP (And.intro hT (And.intro IT (And.intro hM (And.intro hC TK)))));clear hA hG hL HA hl hcl RP hT hE IT hM hC TK d1 d2;obtain ⟨wa,ha,X1,VV,-⟩:=zC7 w (valL k n d x t) 33;obtain ⟨b0,hb0⟩:=nm (w.heap.size);rw [hb0] at VV;have HVV:=hid VV;have HB0:=hid hb0;have hls:wa.heap.size=b0+1:=by rw [<- ha,World.size_alloc,hb0]
 clear VV;go_enter Tryz.func12,Tryz.ntmps12;go_wp2_with fail;refine (CR.out _ X1).mono ?_;rintro r w2 ⟨⟨v,rfl,hO⟩,e2⟩;have X2:=xt X1 e2;have HO:=hid hO;obtain ⟨p0,q0,hv,-⟩:=zBH hO;subst hv;have c5:=vC5 (HVV.out.l e2);have HE2:=hid e2;clear ha hb0 hO;cases G
 ·have HX:Hid (zDE k n d x t=A):=HNO.out (fun h=>by cases h.1);rw [HX.out] at CS;go_wp2_with (first
   | (go_at_call 34;refine (CG.out _ X2).mono ?_;rintro r w3 ⟨rfl,e3⟩;have c6:=vC5 (HVV.out.l (xt HE2.out e3)))
   | (go_at_call 35;refine (CS.out _ (xt X2 e3)).mono ?_;rintro r w4 ⟨rfl,e4⟩))
  go_ret;exact ⟨rfl,xt X2 (xt e3 e4)⟩
 by_cases hk:k=1
 case neg =>
  have HX:Hid (zDE k n d x t=A):=HNO.out (fun h=>hk h.2.1);rw [HX.out] at CS;have hkb:(k == 1)=false:=by simpa using hk
  clear hk;go_wp2_with (first
   | (go_at_call 34;refine (CG.out _ X2).mono ?_;rintro r w3 ⟨rfl,e3⟩;have c6:=vC5 (HVV.out.l (xt HE2.out e3)))
   | (go_at_call 35;refine (CS.out _ (xt X2 e3)).mono ?_;rintro r w4 ⟨rfl,e4⟩))
  go_ret;exact ⟨rfl,xt X2 (xt e3 e4)⟩
 subst hk;have HK:Hid ((1:Int)=1):=rfl;by_cases hl0:l=[]
 ·have HX:Hid (zDE 1 n d x t=A):=HNO.out (fun h=>h.2.2 hl0);rw [HX.out] at CS;subst hl0;go_wp2_with (first
   | (go_at_call 34;refine (CG.out _ X2).mono ?_;rintro r w3 ⟨rfl,e3⟩;have c6:=vC5 (HVV.out.l (xt HE2.out e3)))
   | (go_at_call 35;refine (CS.out _ (xt X2 e3)).mono ?_;rintro r w4 ⟨rfl,e4⟩))
  go_ret;exact ⟨rfl,xt X2 (xt e3 e4)⟩
 obtain ⟨g,cap,hv,hgc,hgb,hR⟩:=zNM HO.out hl0;have hgn:Hid (zA1 n d x=true):=HGN.out rfl HK.out;have HAY:Hid (A=zJG (zAX l n d) (n && !decide (1<l.length)) d x):=HYES.out rfl HK.out hl0;injection hv with hv1 hv2 hv3;subst hv1;subst hv3;have HR:=hid hR;have h0:0<l.length:=List.length_pos_iff.2 hl0;obtain ⟨f0,hf0⟩:∃ f,l[0]?=some f:=⟨l[0],List.getElem?_eq_getElem h0⟩;have hy0:=HGY.out.1 f0 (List.mem_of_getElem? hf0);obtain ⟨LN,hL⟩:=nm (l.length);have HLL:=hid hL;have hL3:LN<=3:=by rw [<- hL];exact HGY.out.2
 rw [hL] at h0 hgc;have HG2:=hid (And.intro h0 (And.intro hL3 hgc));have i0:((LN:Int) == 0)=false:=by simp;omega
 have i00:0<LN:=h0;have i01:(0:Int)<(LN:Int):=by omega
 clear hl0 hgb hR hls hL3 hgc HO HNO HYES HGN CR;go_upto_region 4 with (go_at_call 34;refine (CG.out _ X2).mono ?_;rintro r w3 ⟨rfl,e3⟩;have c6:=vC5 (HVV.out.l (xt HE2.out e3)));clear c5 c6;have R3:=hid (HR.out.l e3);have HV3:=hid (HVV.out.l (xt HE2.out e3));have X3:=xt X2 e3;have HF0:=hid hf0;obtain ⟨ng0,bf0,af0,wh0,pl0,mb0,gr0,tm0,dt0⟩:=f0;have HY0:=hid hy0;have hgl:g<w3.heap.size:=World.block_lt_of_cell? _ _ (R3.out 0 _ hf0 0 _ rfl);clear hy0 e3 CG CS;go_cut [6,7] (fun s u wx=>∃ bA bB,s=.pointer (some ⟨bA,0,none⟩)/\u=.pointer (some ⟨bB,0,none⟩)/\Vec wx bA [.bool ng0,sV bf0,sV af0,iQ wh0,iQ pl0,iQ mb0,.bool gr0,iQ tm0,sV dt0]/\Vec wx bB [.bool n,iQ d,iQ x]/\bA ≠ bB/\w3.heap.size<=bA/\w3.heap.size<=bB/\Ext w3 wx)
 case first =>
  refine zAS (fun lx:Nat->Value=>{ tmps:=#[valV 1 n d x t,sV c,Value.pointer (some ⟨b0,0,none⟩),undef,Value.string { data:=#[] },Value.slice (some ⟨g,0,none⟩) LN q0,lx 6,lx 7,sV c,Value.slice (some ⟨g,0,none⟩) LN q0,Value.agg #[Value.int .i64 1,Value.bool n,Value.int .i64 d,Value.int .i64 x,sV t],Value.bool true,Value.bool false,Value.bool false,Value.pointer (some ⟨b0,0,none⟩),Value.int .i64 1,Value.bool false,Value.bool false,Value.bool false,Value.slice (some ⟨g,0,none⟩) LN q0,Value.int .i64 (LN:Int),Value.bool false,Value.bool false,undef,undef,lx 25,lx 26,lx 27,lx 28,lx 29,undef,undef,undef,undef,undef,undef,undef,undef,undef,undef,undef,undef,undef,undef,undef,undef,undef,undef,undef,undef,undef,undef,undef,undef,undef,undef,undef,undef,undef,undef,undef,undef,undef],defers:=[] }) (fun L lx lw=>Hid (Ext w3 lw/\(L 0=true->lx 25=.slice (some ⟨g,0,none⟩) LN q0)/\(L 1=true->lx 26=.pointer (some ⟨g,0,none⟩))/\(L 2=true->lx 27=.agg #[.bool ng0,sV bf0,sV af0,iQ wh0,iQ pl0,iQ mb0,.bool gr0,iQ tm0,sV dt0])/\(L 3=true->lx 28=.pointer (some ⟨b0,1,none⟩))/\(L 4=true->lx 29=decV n d x)/\(L 5=true->∃ b,lx 6=.pointer (some ⟨b,0,none⟩)/\w3.heap.size<=b/\(L 7=false->Vec lw b [.bool false,sV [],sV [],iQ 0,iQ 0,iQ 0,.bool false,iQ 0,sV []])/\(L 7=true->Vec lw b [.bool ng0,sV bf0,sV af0,iQ wh0,iQ pl0,iQ mb0,.bool gr0,iQ tm0,sV dt0]))/\(L 6=true->∃ b,lx 7=.pointer (some ⟨b,0,none⟩)/\w3.heap.size<=b/\(L 8=false->Vec lw b [.bool false,iQ 0,iQ 0])/\(L 8=true->Vec lw b [.bool n,iQ d,iQ x]))/\(L 5=true->L 6=true->lx 6 ≠ lx 7))) rfl (by kernel_rfl) (fun jj=>undef) rfl ?_ ?_ ?_
  ·exact ⟨xd (xr _),(fun h=>by cases h),(fun h=>by cases h),(fun h=>by cases h),(fun h=>by cases h),(fun h=>by cases h),(fun h=>by cases h),(fun h=>by cases h),(fun h=>by cases h)⟩
  ·intro L lx lw ix oo K hK ho hL haf hI hcl;obtain ⟨E,f0,f1,f2,f3,f4,fa,fb,fp⟩:=hI.out
   match ix,ho,hL,haf,hK with
   | 0,ho,hL,haf,hK =>
    cases ho
    (try dsimp only)
    refine Eq.mpr (if_pos (by rfl)) ?_;go_wp2_with fail;exact hK (fun jj=>if jj=25 then .slice (some ⟨g,0,none⟩) LN q0 else lx jj) _ ⟨E,(fun _=>rfl),f1,f2,f3,f4,fa,fb,fp⟩
   | 1,ho,hL,haf,hK =>
    cases ho
    (try dsimp only)
    rw [f0 (haf ⟨0,.data⟩ (by simp) rfl)];refine Eq.mpr (if_pos (by rfl)) ?_;go_wp2_with fail;exact hK (fun jj=>if jj=26 then .pointer (some ⟨g,0,none⟩) else if jj=25 then .slice (some ⟨g,0,none⟩) LN q0 else lx jj) _ ⟨E,(fun _=>rfl),(fun _=>rfl),f2,f3,f4,fa,fb,fp⟩
   | 2,ho,hL,haf,hK =>
    cases ho
    (try dsimp only)
    rw [f1 (haf ⟨1,.data⟩ (by simp) rfl)];refine Eq.mpr (if_pos (by rfl)) ?_;have VRl:lw.rangeAt g 0 [.bool ng0,sV bf0,sV af0,iQ wh0,iQ pl0,iQ mb0,.bool gr0,iQ tm0,sV dt0]:=(R3.out.l E).range hf0;go_wp2_with (refine wpList_load_mid rfl 28 (.tmp 26) rfl g 0 rfl _ _ VRl Tryz.underlying28 rfl hi9K ?_);exact hK (fun jj=>if jj=27 then .agg #[.bool ng0,sV bf0,sV af0,iQ wh0,iQ pl0,iQ mb0,.bool gr0,iQ tm0,sV dt0] else if jj=26 then .pointer (some ⟨g,0,none⟩) else lx jj) _ ⟨E,f0,(fun _=>rfl),(fun _=>rfl),f3,f4,fa,fb,fp⟩
   | 3,ho,hL,haf,hK =>
    cases ho
    (try dsimp only)
    refine Eq.mpr (if_pos (by rfl)) ?_;go_wp2_with fail;exact hK (fun jj=>if jj=28 then .pointer (some ⟨b0,1,none⟩) else lx jj) _ ⟨E,f0,f1,f2,(fun _=>rfl),f4,fa,fb,fp⟩
   | 4,ho,hL,haf,hK =>
    cases ho
    (try dsimp only)
    rw [f3 (haf ⟨3,.data⟩ (by simp) rfl)];refine Eq.mpr (if_pos (by rfl)) ?_;have c:=vC5 (HV3.out.l E);go_wp2_with fail;exact hK (fun jj=>if jj=29 then decV n d x else if jj=28 then .pointer (some ⟨b0,1,none⟩) else lx jj) _ ⟨E,f0,f1,f2,(fun _=>rfl),(fun _=>rfl),fa,fb,fp⟩
   | 5,ho,hL,haf,hK =>
    cases ho
    (try dsimp only)
    refine Eq.mpr (if_pos (by rfl)) ?_;have hb7:L 7=false:=hcl.bars (i:=7) (j:=5) [5] hL (by kernel_rfl) rfl;have hne:L 6=true->Value.pointer (some ⟨lw.heap.size,0,none⟩) ≠ lx 7:=fun h e=>(by obtain ⟨b,h1,_,h3,h4⟩:=fb h;rw [<- e] at h1;cases h1;cases hs:L 8;exact absurd (World.block_lt_of_cell? _ _ ((h3 hs) 0 _ rfl).1) (Nat.lt_irrefl _);exact absurd (World.block_lt_of_cell? _ _ ((h4 hs) 0 _ rfl).1) (Nat.lt_irrefl _));go_wp2_with fail;exact hK (fun jj=>if jj=6 then .pointer (some ⟨lw.heap.size,0,none⟩) else lx jj) _ ⟨xa E _,f0,f1,f2,f3,f4,(fun _=>⟨lw.heap.size,rfl,E.size,fun _=>zA2 lw [.bool false,sV [],sV [],iQ 0,iQ 0,iQ 0,.bool false,iQ 0,sV []] _,fun h=>by have h:L 7=true:=h;rw [hb7] at h;cases h⟩),(fun h=>by obtain ⟨b,h1,h2,h3,h4⟩:=fb h;exact ⟨b,h1,h2,fun h=>(h3 h).l (x1 _ _),fun h=>(h4 h).l (x1 _ _)⟩),(fun _ h=>hne h)⟩
   | 6,ho,hL,haf,hK =>
    cases ho
    (try dsimp only)
    refine Eq.mpr (if_pos (by rfl)) ?_;have hb8:L 8=false:=hcl.bars (i:=8) (j:=6) [6] hL (by kernel_rfl) rfl;have hne:L 5=true->lx 6 ≠ Value.pointer (some ⟨lw.heap.size,0,none⟩):=fun h e=>(by obtain ⟨b,h1,_,h3,h4⟩:=fa h;rw [e] at h1;cases h1;cases hs:L 7;exact absurd (World.block_lt_of_cell? _ _ ((h3 hs) 0 _ rfl).1) (Nat.lt_irrefl _);exact absurd (World.block_lt_of_cell? _ _ ((h4 hs) 0 _ rfl).1) (Nat.lt_irrefl _));go_wp2_with fail;exact hK (fun jj=>if jj=7 then .pointer (some ⟨lw.heap.size,0,none⟩) else lx jj) _ ⟨xa E _,f0,f1,f2,f3,f4,(fun h=>by obtain ⟨b,h1,h2,h3,h4⟩:=fa h;exact ⟨b,h1,h2,fun h=>(h3 h).l (x1 _ _),fun h=>(h4 h).l (x1 _ _)⟩),(fun _=>⟨lw.heap.size,rfl,E.size,fun _=>zA2 lw [.bool false,iQ 0,iQ 0] _,fun h=>by have h:L 8=true:=h;rw [hb8] at h;cases h⟩),(fun h _=>hne h)⟩
   | 7,ho,hL,haf,hK =>
    cases ho
    (try dsimp only)
    obtain ⟨b,eb,hb,hz,_⟩:=fa (haf ⟨5,.data⟩ (by simp) rfl);have VZ:=hz hL;have h5:L 5=true:=(haf ⟨5,.data⟩ (by simp) rfl);rw [eb,f2 (haf ⟨2,.data⟩ (by simp) rfl)];refine Eq.mpr (if_pos (by rfl)) ?_;obtain ⟨wn,hn,Vn,Kn,En,VTn⟩:=zEG VZ (.bool ng0) (sV bf0) (sV af0) (iQ wh0) (iQ pl0) (iQ mb0) (.bool gr0) (iQ tm0) (sV dt0);have hne:L 6=true->lx 7 ≠ .pointer (some ⟨b,0,none⟩):=fun h e=>fp h5 h (by rw [eb,e]);go_wp2_with (refine zAW rfl _ _ _ rfl b 0 _ rfl rfl VTn hi9K (by simp [Value.oneCell']) hn ?_);exact hK (fun jj=>if jj=6 then .pointer (some ⟨b,0,none⟩) else if jj=27 then .agg #[.bool ng0,sV bf0,sV af0,iQ wh0,iQ pl0,iQ mb0,.bool gr0,iQ tm0,sV dt0] else lx jj) _ ⟨En w3 E hb,f0,f1,(fun _=>rfl),f3,f4,(fun _=>⟨b,rfl,hb,(fun h=>by cases h),fun _=>Vn⟩),(fun h=>by obtain ⟨b',h1,h2,h3,h4⟩:=fb h;have hbb:b' ≠ b:=fun e=>hne h (by rw [h1,e]);exact ⟨b',h1,h2,fun h=>Kn b' _ hbb (by simp) (h3 h),fun h=>Kn b' _ hbb (by simp) (h4 h)⟩),(fun _ h e=>hne h e.symm)⟩
   | 8,ho,hL,haf,hK =>
    cases ho
    (try dsimp only)
    obtain ⟨b,eb,hb,hz,_⟩:=fb (haf ⟨6,.data⟩ (by simp) rfl);have VZ:=hz hL;have h6:L 6=true:=(haf ⟨6,.data⟩ (by simp) rfl);rw [eb,f4 (haf ⟨4,.data⟩ (by simp) rfl)];refine Eq.mpr (if_pos (by rfl)) ?_;have bz:=vC3 VZ;have fz:=vF3 VZ;have hne:L 5=true->lx 6 ≠ .pointer (some ⟨b,0,none⟩):=fun h e=>fp h h6 (by rw [eb,e]);have hX:=Ext.setL (b:=b) hb [.bool n,iQ d,iQ x] 0 E;have hB:=Vec.put3 VZ (.bool n) (iQ d) (iQ x);go_wp2_with fail;exact hK (fun jj=>if jj=7 then .pointer (some ⟨b,0,none⟩) else if jj=29 then decV n d x else lx jj) _ ⟨hX,f0,f1,f2,f3,(fun _=>rfl),(fun h=>by obtain ⟨b',h1,h2,h3,h4⟩:=fa h;have hbb:b ≠ b':=fun e=>hne h (by rw [h1,e]);exact ⟨b',h1,h2,fun h=>Vec.farL hbb [.bool n,iQ d,iQ x] 0 (h3 h),fun h=>Vec.farL hbb [.bool n,iQ d,iQ x] 0 (h4 h)⟩),(fun _=>⟨b,rfl,hb,(fun h=>by cases h),fun _=>hB⟩),(fun h _=>hne h)⟩
   | k+9,ho,_,_,_=>simp at ho
  ·intro L lx w9 hall hI;obtain ⟨E,f0,f1,f2,f3,f4,fa,fb,fp⟩:=hI.out
   (try dsimp only)
   obtain ⟨bA,ea,la,_,hza⟩:=fa (hall 5 (by simp));obtain ⟨bB,eb,lb,_,hzb⟩:=fb (hall 6 (by simp));have VA:=hza (hall 7 (by simp));have VB:=hzb (hall 8 (by simp));have hAB:=fp (hall 5 (by simp)) (hall 6 (by simp));rw [ea,eb] at hAB;have hne:bA ≠ bB:=fun e=>hAB (by rw [e]);rw [ea,eb,f0 (hall 0 (by simp)),f1 (hall 1 (by simp)),f2 (hall 2 (by simp)),f3 (hall 3 (by simp)),f4 (hall 4 (by simp))];clear hI hall f0 f1 f2 f3 f4 fa fb fp hza hzb hAB ea eb;go_wp2_with fail;go_meet
   case rel=>exact ⟨bA,bB,rfl,rfl,VA,VB,hne,la,lb,E⟩
 case rest =>
  obtain ⟨bA,bB,rfl,rfl,VA,VB,hAB,hAl,hBl,E4⟩:=hcut
  rename World=>w4
  have R4:=hid (R3.out.l E4);have Y4:=xt X3 E4;obtain ⟨fs,hfs⟩:=nm (zAX l n d);have hlne:l ≠ []:=fun e=>by rw [e] at HLL;have h:=HLL.out;have:(0:Nat)=LN:=h;omega
  have HYs:=hid (HGY.out.1 fs (by rw [<- hfs];exact sec_mem hlne n d));have HSEL:=hid hfs;obtain ⟨np,hnp⟩:=nm ((n && !decide (1<LN)));have HAY2:Hid (A=zJG fs np d x):=by show A=_;rw [HAY.out,hfs,HLL.out,hnp]
  have HNP:=hid hnp;have hdn:Hid (zA1 n d x=true):=hgn.out;have hgp:Hid (zA1 np d x=true):=by
   show _=true;rw [<- hnp];cases n
   ·exact hdn.out
   ·cases decide (1<LN)
    ·exact hdn.out
    ·exact zCZ hdn.out
  obtain ⟨ng3,bf3,af3,wh3,pl3,mb3,gr3,tm3,dt3⟩:=fs;have hAB2:=hid hAB;have hAl2:Hid (w.heap.size<=bA):=by show _<=_;have:=X3.size;omega
  have DE:=dec_eql n d x;obtain ⟨z,hz⟩:=nm (decide (n=false/\d=0/\x=0));rw [hz] at DE;have HZ:=hid hz;have l4:bB<w4.heap.size:=World.block_lt_of_cell? _ _ (vC3 VB).1;have lB:Hid (w.heap.size<=bB):=by show _<=_;have:=X3.size;omega
  clear hfs hnp hz E4 hgl HAY hlne hgn;go_upto_block 0 with fail;go_cut [] (fun wx=>Vec wx bA [.bool ng3,sV bf3,sV af3,iQ wh3,iQ pl3,iQ mb3,.bool gr3,iQ tm3,sV dt3]/\Vec wx bB [.bool np,iQ d,iQ x]/\Ext w wx)
  case first =>
   have cB:=vC3 VB;have fB:=(VB 0 _ rfl).2;have cA:=vC9 VA;cases n
   ·have HNP2:Hid (np=false):=HNP.out.symm;cases z
    ·have hcq:=of_decide_eq_false HZ.out;have hfe:(⟨ng0,bf0,af0,wh0,pl0,mb0,gr0,tm0,dt0⟩:KT)=⟨ng3,bf3,af3,wh3,pl3,mb3,gr3,tm3,dt3⟩:=by
      rw [<- HSEL.out];unfold zAX;rw [if_neg (fun h=>Bool.noConfusion h.1),if_neg (fun h=>hcq ⟨rfl,h.1,((zAN hdn.out).2.2.2.2.1 h.1).1⟩)];rw [List.getD,HF0.out];rfl
     cases hfe;go_wp2_with fail;go_meet
     case rel=>exact ⟨VA,by rw [HNP2.out];exact VB,Y4⟩
    ·have hcq:=of_decide_eq_true HZ.out;have HD0:=hid hcq.2.1;clear hcq;by_cases h2L:2<LN
     ·have i6:(2:Int)<(LN:Int):=(by omega);have hfi:l[2]?=some ⟨ng3,bf3,af3,wh3,pl3,mb3,gr3,tm3,dt3⟩:=by
       rw [<- HSEL.out];unfold zAX;rw [if_neg (fun h=>Bool.noConfusion h.1),if_pos ⟨HD0.out,by rw [HLL.out];exact h2L⟩];rw [List.getD,List.getElem?_eq_getElem (by rw [HLL.out];exact h2L)];rfl
      have VR5:w4.rangeAt g 18 [.bool ng3,sV bf3,sV af3,iQ wh3,iQ pl3,iQ mb3,.bool gr3,iQ tm3,sV dt3]:=R4.out.range hfi;obtain ⟨w5,h5,V5,K5,E5,VT5⟩:=zEG VA (.bool ng3) (sV bf3) (sV af3) (iQ wh3) (iQ pl3) (iQ mb3) (.bool gr3) (iQ tm3) (sV dt3);have H5:=hid h5;have VB5:=K5 bB _ (fun e=>hAB e.symm) (by simp) VB;have X5:Ext w w5:=E5 w Y4 (by have:=X3.size;omega);clear K5 E5 h5 hfi;clear VA VB;go_wp2_with (first | (refine wpList_load_mid rfl 28 (.tmp 52) rfl g 18 rfl _ _ VR5 Tryz.underlying28 rfl hi9K ?_) | (refine zAW rfl _ _ _ rfl bA 0 _ rfl rfl VT5 hi9K (by simp [Value.oneCell']) H5.out ?_));go_meet
      case rel=>exact ⟨V5,by rw [HNP2.out];exact VB5,X5⟩
     ·have i6:¬ (2:Int)<(LN:Int):=(by omega);have hfe:(⟨ng0,bf0,af0,wh0,pl0,mb0,gr0,tm0,dt0⟩:KT)=⟨ng3,bf3,af3,wh3,pl3,mb3,gr3,tm3,dt3⟩:=by
       rw [<- HSEL.out];unfold zAX;rw [if_neg (fun h=>Bool.noConfusion h.1),if_neg (fun h=>h2L (by rw [<- HLL.out];exact h.2))];rw [List.getD,HF0.out];rfl
      cases hfe;go_wp2_with fail;go_meet
      case rel=>exact ⟨VA,by rw [HNP2.out];exact VB,Y4⟩
   ·have hzf:z=false:=(by rw [<- HZ.out];exact decide_eq_false (fun h=>Bool.noConfusion h.1));subst hzf;by_cases h1L:1<LN
    ·have HNP2:Hid (np=false):=(by show np=false;rw [<- HNP.out,decide_eq_true h1L];rfl);have i6:(1:Int)<(LN:Int):=(by omega);have hfi:l[1]?=some ⟨ng3,bf3,af3,wh3,pl3,mb3,gr3,tm3,dt3⟩:=by
      rw [<- HSEL.out];unfold zAX;rw [if_pos ⟨rfl,by rw [HLL.out];exact h1L⟩];rw [List.getD,List.getElem?_eq_getElem (by rw [HLL.out];exact h1L)];rfl
     have VR5:w4.rangeAt g 9 [.bool ng3,sV bf3,sV af3,iQ wh3,iQ pl3,iQ mb3,.bool gr3,iQ tm3,sV dt3]:=R4.out.range hfi;obtain ⟨w5,h5,V5,K5,E5,VT5⟩:=zEG VA (.bool ng3) (sV bf3) (sV af3) (iQ wh3) (iQ pl3) (iQ mb3) (.bool gr3) (iQ tm3) (sV dt3);have H5:=hid h5;have VB5:=K5 bB _ (fun e=>hAB e.symm) (by simp) VB;have X5:Ext w w5:=E5 w Y4 (by have:=X3.size;omega);clear K5 E5 h5 hfi;obtain ⟨w6,h6⟩:=nm (w5.setCell ⟨bB,0,none⟩ (.bool false));have V6:Vec w6 bA [.bool ng3,sV bf3,sV af3,iQ wh3,iQ pl3,iQ mb3,.bool gr3,iQ tm3,sV dt3]:=(by rw [<- h6];exact V5.far (by show bB ≠ bA;exact fun e=>hAB e.symm) _);have VB6:Vec w6 bB [.bool false,iQ d,iQ x]:=(by rw [<- h6];exact VB5.put 0 (by simp) _);have X6:Ext w w6:=(by rw [<- h6];exact xset X5 (by show _<=bB;exact lB.out) _);have cB5:=vC3 VB5;have fB5:=(VB5 0 _ rfl).2;clear VA VB V5 VB5;go_wp2_with (first | (refine wpList_load_mid rfl 28 (.tmp 39) rfl g 9 rfl _ _ VR5 Tryz.underlying28 rfl hi9K ?_) | (refine zAW rfl _ _ _ rfl bA 0 _ rfl rfl VT5 hi9K (by simp [Value.oneCell']) H5.out ?_));go_meet
     case rel=>exact ⟨V6,by rw [HNP2.out];exact VB6,X6⟩
    ·have HNP2:Hid (np=true):=(by show np=true;rw [<- HNP.out,decide_eq_false h1L];rfl);have i6:¬ (1:Int)<(LN:Int):=(by omega);have hfe:(⟨ng0,bf0,af0,wh0,pl0,mb0,gr0,tm0,dt0⟩:KT)=⟨ng3,bf3,af3,wh3,pl3,mb3,gr3,tm3,dt3⟩:=by
      rw [<- HSEL.out];unfold zAX;rw [if_neg (fun h=>h1L (by rw [<- HLL.out];exact h.2)),if_neg (fun h=>by have g:=zAN hdn.out;have:=(g.2.2.2.2.1 h.1).2;cases this)];rw [List.getD,HF0.out];rfl
     cases hfe;go_wp2_with fail;go_meet
     case rel=>exact ⟨VA,by rw [HNP2.out];exact VB,Y4⟩
  case rest =>
   obtain ⟨VA2,VB2,X9⟩:=hcut
   rename World=>w8
   have HSH:Hid (∃ T:BLs,A=bf3++T++af3/\T.length<=1301/\∀ W,Ext w W->Calls Tryz.prog 36 #[.agg #[.bool ng3,sV bf3,sV af3,iQ wh3,iQ pl3,iQ mb3,.bool gr3,iQ tm3,sV dt3],decV np d x] W fun r w'=>r=.returned (sV T)/\Ext W w'):=by
    obtain ⟨RP,hT,IT,hM,hC,TK⟩:=HTB.out
    rcases HYs.out.2.2 with ⟨hdt,wh',pl',mb',tm',⟨e1,e2,e3,e4⟩,hw,hpb,hmb,htb⟩ | ⟨hdt,hdl,ps,hps,hps1⟩
    ·have hdt:dt3=[]:=hdt;have e1:wh3=wh':=e1;have e2:pl3=pl':=e2;have e3:mb3=mb':=e3;have e4:tm3=tm':=e4;subst hdt e1 e2 e3 e4;refine ⟨numT wh' pl' mb' gr3 tm' true np d x,HAY2.out,zFP hw.2 hpb hmb htb,fun W X=>?_⟩;exact shownN ng3 bf3 af3 wh' pl' mb' tm' gr3 np d x W (fun z W' z0 z1 X'=>IT z W' z0 z1 (xt X X')) (hT.l X) hw hpb hmb htb hgp.out
    ·have hdt:dt3 ≠ []:=hdt;have hdl:dt3.length<=100:=hdl;have hps:zA6 dt3.length dt3=some ps:=hps;refine ⟨zBS np d x ps,?_,by have:=zEI hgp.out hps1.2 (zCE _ _ _ hps) (fun z h0 h1=>zGE z w h0 h1);omega,fun W X=>?_⟩
     ·rw [HAY2.out];show bf3++(if dt3=[] then _ else zBS np d x ((zA6 dt3.length dt3).getD []))++af3=_;rw [if_neg hdt,hps];rfl
     ·exact shownD RP ng3 bf3 af3 dt3 wh3 pl3 mb3 tm3 gr3 np d x hgp.out ps hps hps1 (by omega) hdt W (fun z W' z0 z1 X'=>IT z W' z0 z1 (xt X X')) (hT.l X) (hM.l X) (hC.l X) (TK.l X)
   obtain ⟨T,hA,hTl,hSh⟩:=HSH.out;have HA3:=hid hA;have CSH:=hid hSh;have hb1:bf3.length<=20:=HYs.out.1;have hb2:af3.length<=20:=HYs.out.2.1;have HLN2:=hid (And.intro hTl (And.intro hb1 hb2));have HVA:=hid VA2;have HVB:=hid VB2;clear hA hTl hSh hb1 hb2 VA2 VB2 VA VB hAB DE HSH;go_upto_region 9 with fail;obtain ⟨BT,hBT⟩:=nm (bf3++T);have HBT:=hid hBT;have HBL:Hid (BT.length<=1400):=by show _<=_;rw [<- hBT,List.length_append];have:=HLN2.out;omega
   have HAP:Hid ((⟨BT.toArray⟩:ByteArray)++⟨af3.toArray⟩=⟨A.toArray⟩):=by show _=_;rw [HA3.out,hBT];exact zAE BT af3
   clear hBT;refine zAS (fun lx:Nat->Value=>{ tmps:=#[valV 1 n d x t,sV c,Value.pointer (some ⟨b0,0,none⟩),undef,lx 4,Value.slice (some ⟨g,0,none⟩) LN q0,Value.pointer (some ⟨bA,0,none⟩),Value.pointer (some ⟨bB,0,none⟩),u8,u9,u10,u11,u12,u13,u14,u15,u16,u17,u18,u19,u20,u21,u22,u23,u24,u25,u26,u27,u28,u29,u30,u31,u32,u33,u34,u35,u36,u37,u38,u39,u40,u41,u42,u43,u44,u45,u46,u47,u48,u49,u50,u51,u52,u53,lx 54,lx 55,lx 56,lx 57,lx 58,lx 59,lx 60,lx 61,lx 62],defers:=[] }) (fun L lx lw=>Hid (Ext w8 lw/\(L 0=true->lx 54=.pointer (some ⟨bA,1,none⟩))/\(L 1=true->lx 55=sV bf3)/\(L 2=true->lx 56=.agg #[.bool ng3,sV bf3,sV af3,iQ wh3,iQ pl3,iQ mb3,.bool gr3,iQ tm3,sV dt3])/\(L 3=true->lx 57=decV np d x)/\(L 4=true->lx 58=sV T)/\(L 5=true->lx 59=sV BT)/\(L 6=true->lx 60=.pointer (some ⟨bA,2,none⟩))/\(L 7=true->lx 61=sV af3)/\(L 8=true->lx 62=sV A)/\(L 9=true->lx 4=sV A))) rfl (by kernel_rfl) (fun jj=>if jj=4 then Value.string { data:=#[] } else if jj=54 then u54 else if jj=55 then u55 else if jj=56 then u56 else if jj=57 then u57 else if jj=58 then u58 else if jj=59 then u59 else if jj=60 then u60 else if jj=61 then u61 else if jj=62 then u62 else undef) rfl ?_ ?_ ?_
   ·exact ⟨xd (xr _),(fun h=>by cases h),(fun h=>by cases h),(fun h=>by cases h),(fun h=>by cases h),(fun h=>by cases h),(fun h=>by cases h),(fun h=>by cases h),(fun h=>by cases h),(fun h=>by cases h),(fun h=>by cases h)⟩
   ·intro L lx lw ix oo K hK ho hL haf hI hcl;obtain ⟨E,f0,f1,f2,f3,f4,f5,f6,f7,f8,f9⟩:=hI.out
    match ix,ho,hL,haf,hK with
    | 0,ho,hL,haf,hK =>
     cases ho
     (try dsimp only)
     refine Eq.mpr (if_pos (by rfl)) ?_;go_wp2_with fail;exact hK (fun jj=>if jj=54 then .pointer (some ⟨bA,1,none⟩) else lx jj) _ ⟨E,(fun _=>rfl),f1,f2,f3,f4,f5,f6,f7,f8,f9⟩
    | 1,ho,hL,haf,hK =>
     cases ho
     (try dsimp only)
     rw [f0 (haf ⟨0,.data⟩ (by simp) rfl)];refine Eq.mpr (if_pos (by rfl)) ?_;have c:=vC9 (HVA.out.l E);go_wp2_with fail;exact hK (fun jj=>if jj=55 then sV bf3 else if jj=54 then .pointer (some ⟨bA,1,none⟩) else lx jj) _ ⟨E,(fun _=>rfl),(fun _=>rfl),f2,f3,f4,f5,f6,f7,f8,f9⟩
    | 2,ho,hL,haf,hK =>
     cases ho
     (try dsimp only)
     refine Eq.mpr (if_pos (by rfl)) ?_;have VAl:lw.rangeAt bA 0 [.bool ng3,sV bf3,sV af3,iQ wh3,iQ pl3,iQ mb3,.bool gr3,iQ tm3,sV dt3]:=fun j u hu=>(by rw [Nat.zero_add];exact ((HVA.out.l E) j u hu).1);go_wp2_with (refine wpList_load_mid rfl 28 (.tmp 6) rfl bA 0 rfl [.bool ng3,sV bf3,sV af3,iQ wh3,iQ pl3,iQ mb3,.bool gr3,iQ tm3,sV dt3] _ VAl Tryz.underlying28 rfl hi9K ?_);exact hK (fun jj=>if jj=56 then .agg #[.bool ng3,sV bf3,sV af3,iQ wh3,iQ pl3,iQ mb3,.bool gr3,iQ tm3,sV dt3] else lx jj) _ ⟨E,f0,f1,(fun _=>rfl),f3,f4,f5,f6,f7,f8,f9⟩
    | 3,ho,hL,haf,hK =>
     cases ho
     (try dsimp only)
     refine Eq.mpr (if_pos (by rfl)) ?_;have c:=vC3 (HVB.out.l E);go_wp2_with fail;exact hK (fun jj=>if jj=57 then decV np d x else lx jj) _ ⟨E,f0,f1,f2,(fun _=>rfl),f4,f5,f6,f7,f8,f9⟩
    | 4,ho,hL,haf,hK =>
     cases ho
     (try dsimp only)
     rw [f2 (haf ⟨2,.data⟩ (by simp) rfl),f3 (haf ⟨3,.data⟩ (by simp) rfl)];refine Eq.mpr (if_pos (by rfl)) ?_;go_wp2_with fail;refine (CSH.out lw (xt X9 E)).mono ?_;rintro rr w' ⟨rfl,e'⟩;go_wp2_with fail;exact hK (fun jj=>if jj=58 then sV T else if jj=56 then .agg #[.bool ng3,sV bf3,sV af3,iQ wh3,iQ pl3,iQ mb3,.bool gr3,iQ tm3,sV dt3] else if jj=57 then decV np d x else lx jj) _ ⟨(xt E e'),f0,f1,(fun _=>rfl),(fun _=>rfl),(fun _=>rfl),f5,f6,f7,f8,f9⟩
    | 5,ho,hL,haf,hK =>
     cases ho
     (try dsimp only)
     rw [f1 (haf ⟨1,.data⟩ (by simp) rfl),f4 (haf ⟨4,.data⟩ (by simp) rfl)];refine Eq.mpr (if_pos (by rfl)) ?_;have q1:(9223372036854775807<bf3.length+T.length)=False:=eq_false (by have:=HLN2.out;omega);have hap:(⟨bf3.toArray⟩:ByteArray)++⟨T.toArray⟩=⟨BT.toArray⟩:=(by rw [<- HBT.out];exact zAE bf3 T);go_wp2_with fail;exact hK (fun jj=>if jj=59 then sV BT else if jj=55 then sV bf3 else if jj=58 then sV T else lx jj) _ ⟨E,f0,(fun _=>rfl),f2,f3,(fun _=>rfl),(fun _=>rfl),f6,f7,f8,f9⟩
    | 6,ho,hL,haf,hK =>
     cases ho
     (try dsimp only)
     refine Eq.mpr (if_pos (by rfl)) ?_;go_wp2_with fail;exact hK (fun jj=>if jj=60 then .pointer (some ⟨bA,2,none⟩) else lx jj) _ ⟨E,f0,f1,f2,f3,f4,f5,(fun _=>rfl),f7,f8,f9⟩
    | 7,ho,hL,haf,hK =>
     cases ho
     (try dsimp only)
     rw [f6 (haf ⟨6,.data⟩ (by simp) rfl)];refine Eq.mpr (if_pos (by rfl)) ?_;have c:=vC9 (HVA.out.l E);go_wp2_with fail;exact hK (fun jj=>if jj=61 then sV af3 else if jj=60 then .pointer (some ⟨bA,2,none⟩) else lx jj) _ ⟨E,f0,f1,f2,f3,f4,f5,(fun _=>rfl),(fun _=>rfl),f8,f9⟩
    | 8,ho,hL,haf,hK =>
     cases ho
     (try dsimp only)
     rw [f5 (haf ⟨5,.data⟩ (by simp) rfl),f7 (haf ⟨7,.data⟩ (by simp) rfl)];refine Eq.mpr (if_pos (by rfl)) ?_;have hbl:BT.length<=1400:=HBL.out;have q1:(9223372036854775807<BT.length+af3.length)=False:=eq_false (by have:=HLN2.out;omega);have hap:(⟨BT.toArray⟩:ByteArray)++⟨af3.toArray⟩=⟨A.toArray⟩:=HAP.out;clear hbl;go_wp2_with fail;exact hK (fun jj=>if jj=62 then sV A else if jj=59 then sV BT else if jj=61 then sV af3 else lx jj) _ ⟨E,f0,f1,f2,f3,f4,(fun _=>rfl),f6,(fun _=>rfl),(fun _=>rfl),f9⟩
    | 9,ho,hL,haf,hK =>
     cases ho
     (try dsimp only)
     rw [f8 (haf ⟨8,.data⟩ (by simp) rfl)];refine Eq.mpr (if_pos (by rfl)) ?_;go_wp2_with fail;exact hK (fun jj=>if jj=4 then sV A else if jj=62 then sV A else lx jj) _ ⟨E,f0,f1,f2,f3,f4,f5,f6,f7,(fun _=>rfl),(fun _=>rfl)⟩
    | k+10,ho,_,_,_=>simp at ho
   ·intro L lx w9 hall hI;obtain ⟨E,f0,f1,f2,f3,f4,f5,f6,f7,f8,f9⟩:=hI.out
    (try dsimp only)
    rw [f9 (hall 9 (by simp)),f0 (hall 0 (by simp)),f1 (hall 1 (by simp)),f2 (hall 2 (by simp)),f3 (hall 3 (by simp)),f4 (hall 4 (by simp)),f5 (hall 5 (by simp)),f6 (hall 6 (by simp)),f7 (hall 7 (by simp)),f8 (hall 8 (by simp))];clear hI hall f0 f1 f2 f3 f4 f5 f6 f7 f8 f9;go_wp2_with fail;go_ret;exact ⟨rfl,xt X9 E⟩
theorem zLN {w w':World} {v:Value} {n:Nat} (h:zCP w w.heap.size v n) (x:Ext w w'):zCP w' w'.heap.size v n:=by
 rcases h with h | ⟨pb,po,cap,h1,h2,h3,h4⟩
 ·exact .inl h
 ·refine .inr ⟨pb,po,cap,Nat.lt_of_lt_of_le h1 x.size,h2,h3,fun i hi=>?_⟩;obtain ⟨z,z0,z1,hz⟩:=h4 i hi;exact ⟨z,z0,z1,cell_later x hz⟩
theorem zQQ {l:List KT} (h:zFG l ≠ []):zAZ (zFG l)=l:=by
 unfold zFG at h ⊢
 split at h
 ·exact absurd rfl h
 ·next h3 =>
  rw [if_neg h3]
  split at h
  ·exact absurd rfl h
  ·next ha =>
   rw [if_neg ha]
   split at h
   ·next hr=>rw [if_pos hr];exact hr
   ·exact absurd rfl h
theorem zR4 (l:BL) (w:World) (hL:l.length<=1048576) :
  Calls Tryz.prog 10 #[sV l] w fun e w'=>(∃ v,e=.returned v/\OwnF w' w.heap.size v (zAZ l))/\Ext w w':=by
 have C:=readS l w (by omega);go_enter Tryz.func10,Tryz.ntmps10;go_wp2_with fail;refine C.mono ?_;rintro e w1 ⟨⟨v,rfl,h⟩,e1⟩;go_wp2_with fail;go_ret;exact ⟨⟨_,rfl,h⟩,e1⟩
theorem zL8 (l:BL) (w:World) (hL:l.length<=1048576) (T:TabK w) :
  Calls Tryz.prog 8 #[sV l] w fun e w'=>(∃ v,e=.returned v/\OwnF w' w.heap.size v (zAZ l))/\Ext w w':=by
 rw [<- zG9];exact readI l w (by omega) T
theorem zPM (p:Option Addr) (n cap:Nat) (w:World) (hb:¬ n<=1048576) :
  Calls Tryz.prog 3 #[.slice p n cap] w fun e w'=>e=.returned (.bool true)/\Ext w w':=by
 have fl:decide ((n:Int) > 1048576)=true:=by simp;omega
 go_enter Tryz.func3,Tryz.ntmps3;go_wp2_with fail;go_ret;exact ⟨rfl,xr _⟩
theorem zVG (RP:RepC) (p:Option Addr) (k cap:Nat) (w:World) (hc:zCP w w.heap.size (.slice p k cap) k) (hb:k<=1048576) (hT:Tens w) (hE:zE6 w) (IT:zD2 w) (hM:zCJ w) (hC:Cals w) (TK:TabK w) :
  Calls Tryz.prog 3 #[.slice p k cap] w fun e w'=>e=.returned (.bool true)/\Ext w w':=by
 have CD:=drawFmt _ k w hc hb;have CR:Hid (∀ W,Ext w W->Calls Tryz.prog 9 #[.slice p k cap] W fun e w'=>(∃ s:List UInt8,e=.returned (sV s)/\s.length<=20100)/\Ext W w'):=fun W x=>zW1 _ k W (zLN hc x) hb;have CS:Hid (∀ W,Ext w W->Calls Tryz.prog 11 #[.slice p k cap] W fun e w'=>(∃ (k:Int) (n:Bool) (d x:Int) (t s:List UInt8),e=.returned (.tuple #[valV k n d x t,sV s])/\0<=d/\d<1000000000000000/\t.length<=2000/\s.length<=20100)/\Ext W w'):=fun W x=>zW0 _ k W (zLN hc x) hb;have HTb:Hid (∀ V,Ext w V->Tens V/\zE6 V/\zD2 V/\zCJ V/\Cals V):=fun V x=>⟨hT.l x,hE.l x,fun z W' z0 z1 X'=>IT z W' z0 z1 (xt x X'),hM.l x,hC.l x⟩;have HTK:Hid (∀ V,Ext w V->TabK V):=fun V x=>TK.l x;have HRP:Hid RepC:=RP;have fl:decide ((k:Int) > 1048576)=false:=by simp;omega
 clear hc hb hT hE IT hM hC TK RP;go_enter Tryz.func3,Tryz.ntmps3;go_wp2_with fail;refine CD.mono ?_;clear CD;rintro e w1 ⟨⟨v,l,rfl,FI,l1,l3,hdr⟩,e1⟩;have CP:=fun W (x:Ext w1 W)=>toldPI v l W (FI.l x) (by omega) (fun f hf=>by obtain ⟨h1,h2,h4⟩:=hdr f hf;omega) (HTK.out W (xt e1 x));have CQ:=fun W (x:Ext w1 W)=>toldSS v l W (FI.l x) (by omega) (fun f hf=>by obtain ⟨h1,h2,h4⟩:=hdr f hf;omega);simp only [<- zKK] at CQ;have HTR:Hid (zFG l ≠ []->zAZ (zFG l)=l):=zQQ;have hts:=zIM l hdr;obtain ⟨T,hT⟩:=nm (zFG l);simp only [hT] at CP CQ;rw [hT] at HTR hts;obtain ⟨p1,cp1,rfl,hcp,hrow⟩:=FI;obtain ⟨n,hn⟩:=nm (l.length);have HN:=hid hn;rw [hn] at hcp l1 l3 CP CQ hrow ⊢;have HRow:Hid (0<n->∃ b o,p1=some ⟨b,o,none⟩/\RowK w1 b o l):=hrow;have HCP:=hid CP;have HCQ:=hid CQ;have HTS:=hid hts;clear hT hn hrow hdr CP CQ hts;go_wp2_with fail;refine (HCP.out w1 (xr _)).mono ?_;rintro e w2 ⟨rfl,e2⟩;go_wp2_with fail;refine (HCQ.out w2 e2).mono ?_;rintro e w3 ⟨rfl,e3⟩;have X3:=xt (xt e1 e2) e3;have hq:(T != T)=false:=by simp
 have hp:(T == T)=true:=by simp
 have E23:=xt e2 e3;clear HCP HCQ e2 e3 e1;go_upto_if 23 with fail;go_cut [] (fun wx=>Ext w wx)
 case first =>
  clear hq hp;have HT2:=HTR;by_cases hT0:T=[]
  ·subst hT0;clear HTR HT2;go_wp2_with fail;go_meet
   case rel=>exact X3
  ·have hTe:(!List.isEmpty T)=true:=by
    cases T with
    | nil=>exact absurd rfl hT0
    | cons a r=>rfl
   have CB:=zL8 T w3 (by have:=HTS.out;omega) (HTK.out w3 X3);rw [HT2.out hT0] at CB;rw [hTe];clear HT2 HTR HTS hT0;go_wp2_with fail;refine CB.mono ?_;rintro e w4 ⟨⟨v4,rfl,V4⟩,e4⟩;have X4:=xt X3 e4;obtain ⟨p4,cp4,rfl,hcp4,hrw4⟩:=zDY V4;rw [HN.out] at hcp4 hrw4 ⊢;have HRow4:Hid (0<n->∃ b o,p4=some ⟨b,o,none⟩/\RowK w4 b o l):=hrw4;have E34:=xt E23 e4;clear hrw4 V4 CB e4;go_wp2_with fail;go_loopw [33] (fun i wx=>∃ j:Nat,j<=n/\i=.int .i64 j/\Ext w4 wx) (fun i _=>n - (intOf i).toNat)
   case atStart=>exact ⟨0,by omega,rfl,xr _⟩
   case round =>
    obtain ⟨j,hj,rfl,Y⟩:=hrel;by_cases hlt:j<n
    ·obtain ⟨f,hf⟩:∃ f,l[j]?=some f:=⟨_,List.getElem?_eq_getElem (by rw [HN.out];exact hlt)⟩;obtain ⟨b,o,rfl,hRw⟩:=HRow.out (by omega);obtain ⟨b',o',rfl,hRw'⟩:=HRow4.out (by omega);obtain ⟨c0,c1,c2,c3,c4,c5,c6,c7,c8⟩:=(hRw.l (xt E34 Y)).all hf;obtain ⟨a0,a1,a2,a3,a4,a5,a6,a7,a8⟩:=(hRw'.l Y).all hf;have KN:=fun W=>zSZ f f W;simp only [decide_true] at KN;have j2:(j:Int)<(n:Int):=(by omega);have j1:(0:Int)<=(j:Int):=(by omega);clear hRw hRw' hf;go_wp2_with fail;go_quiet (fail);go_wp2_with fail;go_roundw
     case rel=>exact ⟨j+1,by omega,by go_num,xdNk Y _⟩
     case measure=>simp [intOf];omega
    ·obtain rfl:j=n:=(by omega);go_wp2_with fail;go_meet
     case rel=>exact xt X4 Y
 case rest =>
  rename World=>w0
  have X5:Ext w w0:=hcut;clear X3 HTR HTS HRow hp hq E23;go_wp2_with fail;refine (CR.out w0 X5).mono ?_;rintro e w5 ⟨⟨s,rfl,hs⟩,e5⟩;have X6:=xt X5 e5;have CI:=zL8 s w5 (by omega) (HTK.out w5 X6);have CSp:=fun W=>zR4 s W (by omega);clear e5 X5;go_wp2_with fail;refine CI.mono ?_;rintro e w6 ⟨⟨v6,rfl,V6⟩,e6⟩;have X7:=xt X6 e6;have FI:=zDY V6;have TR:=zP6 s;have RG:=zGA s;have R4:=zG8 s;obtain ⟨p6,cp6,hv6,hcp6,-⟩:=zDY V6;obtain ⟨D,hD⟩:=nm (zAZ s);rw [hD] at V6 FI TR RG R4 hcp6 hv6;simp only [hD] at CSp;subst hv6;have CP:=fun W (x:Ext w6 W)=>toldPI _ D W (FI.l x) (by omega) (fun f hf=>by have h:=(RG f hf).2.1;unfold zDK at h;omega) (HTK.out W (xt X7 x));obtain ⟨m,hm⟩:=nm (D.length);have HM:=hid hm;rw [hm] at hcp6 R4 FI CP ⊢;clear hD hm V6 FI e6 X6 RG CI;go_upto_region 19 with fail;go_cut [66] (fun q wx=>q=.bool false/\Ext w wx)
  case first =>
   rcases Nat.eq_zero_or_pos m with h0 | h0
   ·subst h0;clear CP TR;go_wp2_with fail;refine (CSp w6).mono ?_;rintro e w7 ⟨⟨v7,rfl,V7⟩,e7⟩;obtain ⟨p7,cp7,rfl,-⟩:=zDY V7;rw [HM.out];clear V7;go_wp2_with fail;go_meet
    case rel=>exact ⟨rfl,xt X7 e7⟩
   ·have m0:(0:Int)<(m:Int):=(by omega);have TR:=TR (fun e=>by have:=HM.out;rw [e] at this;simp at this;omega);rw [TR] at CP;have hq:(s != s)=false:=(by simp);have hp:(s == s)=true:=(by simp);go_wp2_with fail;refine (CP w6 (xr _)).mono ?_;rintro e w7 ⟨rfl,e7⟩;go_wp2_with fail;refine (CSp w7).mono ?_;rintro e w8 ⟨⟨v8,rfl,V8⟩,e8⟩;obtain ⟨p8,cp8,rfl,-⟩:=zDY V8;rw [HM.out];clear V8;go_wp2_with fail;go_meet
    case rel=>exact ⟨rfl,xt (xt X7 e7) e8⟩
  case rest =>
   obtain ⟨rfl,X8⟩:=hcut;clear X7 TR HM hcp6 R4 HN hs;go_wp2_with fail;refine (CS.out wc X8).mono ?_;rintro e w9 ⟨⟨kk,nn,dd,xx,tt,cc,rfl,d0,d1,ht,hcl⟩,e9⟩;have X9:=xt X8 e9;have VV:=zA2 w9 [iQ kk,.bool nn,iQ dd,iQ xx,sV tt] 33;have XV:=x1 w9 (.cells #[iQ kk,.bool nn,iQ dd,iQ xx,sV tt] 33);change Vec (w9.alloc (.cells #[iQ kk,.bool nn,iQ dd,iQ xx,sV tt] 33)) _ _ at VV;have CI:Hid (∀ W,Ext w W->Calls Tryz.prog 12 #[valV kk nn dd xx tt,sV cc] W fun r w'=>r=.returned (sV (zC4 kk nn dd xx tt cc))/\Ext W w'):=fun W x=>by
    obtain ⟨t1,t2,t3,t4,t5⟩:=HTb.out W x;exact showByI HRP.out kk nn dd xx tt cc W (by omega) (by omega) (by omega) (by omega) t1 t2 t3 t4 t5 (HTK.out W x)
   have CQ:Hid (∀ W,Calls Tryz.prog 13 #[valV kk nn dd xx tt,sV cc] W fun r w'=>r=.returned (sV (zC4 kk nn dd xx tt cc))/\Ext W w'):=fun W=>showByS kk nn dd xx tt cc W (by omega) (by omega);obtain ⟨U,hU⟩:=nm (zC4 kk nn dd xx tt cc);rw [hU] at CI CQ;clear CR CS HTb HTK HRP CP CSp hU d0 d1 ht hcl e9 X8;have Y:=xt X9 XV;obtain ⟨gv,hgv⟩:=nm (w9.heap.size);obtain ⟨wa,hwa⟩:=nm (w9.alloc (.cells #[iQ kk,.bool nn,iQ dd,iQ xx,sV tt] 33));rw [hwa,hgv] at VV;rw [hwa] at Y;have HGV:=hid hgv;have HWA:=hid hwa;have HV:=hid VV;clear hgv hwa VV XV X9;go_upto_region 22 with fail;rw [HWA.out,HGV.out];have hp:(U == U)=true:=by simp
   clear HWA HGV;refine zAQ (fun lx:Nat->Value=>{ tmps:=#[Value.slice p k cap,undef,lx 2,Value.slice p1 n cp1,sV T,u5,u6,sV s,Value.slice p6 m cp6,Value.pointer (some ⟨gv,0,none⟩),sV cc,u11,u12,u13,u14,u15,u16,u17,u18,u19,u20,u21,u22,u23,u24,u25,u26,u27,u28,u29,u30,u31,u32,u33,u34,u35,u36,u37,u38,u39,u40,u41,u42,u43,u44,u45,u46,u47,u48,u49,u50,u51,u52,u53,u54,u55,u56,u57,u58,u59,u60,u61,u62,u63,u64,u65,Value.bool false,Value.tuple #[valV kk nn dd xx tt,sV cc],Value.slice p k cap,Value.tuple #[valV kk nn dd xx tt,sV cc],valV kk nn dd xx tt,sV cc,lx 72,lx 73,lx 74,lx 75,lx 76,lx 77,lx 78],defers:=[] }) (fun L lx lw=>Hid (Ext wa lw/\Vec lw (gv) [iQ kk,.bool nn,iQ dd,iQ xx,sV tt]/\(L 0=true->lx 72=valV kk nn dd xx tt)/\(L 1=true->lx 73=sV cc)/\(L 2=true->lx 74=sV U)/\(L 3=true->lx 75=valV kk nn dd xx tt)/\(L 4=true->lx 76=sV cc)/\(L 5=true->lx 77=sV U)/\(L 6=true->lx 78=.bool true)/\(L 7=true->lx 2=.bool true))) rfl (by kernel_rfl) (fun jj=>if jj=2 then u2 else if jj=72 then u72 else if jj=73 then u73 else if jj=74 then u74 else if jj=75 then u75 else if jj=76 then u76 else if jj=77 then u77 else if jj=78 then u78 else undef) rfl ?_ ?_ ?_
   ·exact ⟨xd (xr _),HV.out.l (xd (xr _)),(fun h=>by cases h),(fun h=>by cases h),(fun h=>by cases h),(fun h=>by cases h),(fun h=>by cases h),(fun h=>by cases h),(fun h=>by cases h),(fun h=>by cases h)⟩
   ·intro L lx wl i o K hK ho hL haf hI;obtain ⟨X,f0,f1,f2,f3,f4,f5,f6,f7,f8⟩:=hI.out
    match i,ho,hL,haf,hK with
    | 0,ho,hL,haf,hK =>
     cases ho
     (try dsimp only)
     have a0:=(f0 0 _ rfl).1;have a1:=(f0 1 _ rfl).1;have a2:=(f0 2 _ rfl).1;have a3:=(f0 3 _ rfl).1;have a4:=(f0 4 _ rfl).1;go_wp2_with fail;exact hK (fun jj=>if jj=72 then valV kk nn dd xx tt else lx jj) _ ⟨X,f0,(fun _=>rfl),f2,f3,f4,f5,f6,f7,f8⟩
    | 1,ho,hL,haf,hK =>
     cases ho
     (try dsimp only)
     go_wp2_with fail;exact hK (fun jj=>if jj=73 then sV cc else lx jj) _ ⟨X,f0,f1,(fun _=>rfl),f3,f4,f5,f6,f7,f8⟩
    | 2,ho,hL,haf,hK =>
     cases ho
     (try dsimp only)
     rw [f1 (haf ⟨0,.data⟩ (by simp) rfl),f2 (haf ⟨1,.data⟩ (by simp) rfl)];go_wp2_with fail;refine (CI.out wl (xt Y X)).mono ?_;rintro rr w' ⟨rfl,E⟩;go_wp2_with fail;exact hK (fun jj=>if jj=74 then sV U else if jj=72 then valV kk nn dd xx tt else if jj=73 then sV cc else lx jj) _ ⟨xt X E,(f0.l E),(fun _=>rfl),(fun _=>rfl),(fun _=>rfl),f4,f5,f6,f7,f8⟩
    | 3,ho,hL,haf,hK =>
     cases ho
     (try dsimp only)
     have a0:=(f0 0 _ rfl).1;have a1:=(f0 1 _ rfl).1;have a2:=(f0 2 _ rfl).1;have a3:=(f0 3 _ rfl).1;have a4:=(f0 4 _ rfl).1;go_wp2_with fail;exact hK (fun jj=>if jj=75 then valV kk nn dd xx tt else lx jj) _ ⟨X,f0,f1,f2,f3,(fun _=>rfl),f5,f6,f7,f8⟩
    | 4,ho,hL,haf,hK =>
     cases ho
     (try dsimp only)
     go_wp2_with fail;exact hK (fun jj=>if jj=76 then sV cc else lx jj) _ ⟨X,f0,f1,f2,f3,f4,(fun _=>rfl),f6,f7,f8⟩
    | 5,ho,hL,haf,hK =>
     cases ho
     (try dsimp only)
     rw [f4 (haf ⟨3,.data⟩ (by simp) rfl),f5 (haf ⟨4,.data⟩ (by simp) rfl)];go_wp2_with fail;refine (CQ.out wl).mono ?_;rintro rr w' ⟨rfl,E⟩;go_wp2_with fail;exact hK (fun jj=>if jj=77 then sV U else if jj=75 then valV kk nn dd xx tt else if jj=76 then sV cc else lx jj) _ ⟨xt X E,(f0.l E),f1,f2,f3,(fun _=>rfl),(fun _=>rfl),(fun _=>rfl),f7,f8⟩
    | 6,ho,hL,haf,hK =>
     cases ho
     (try dsimp only)
     rw [f3 (haf ⟨2,.data⟩ (by simp) rfl),f6 (haf ⟨5,.data⟩ (by simp) rfl)];go_wp2_with fail;exact hK (fun jj=>if jj=78 then .bool true else if jj=74 then sV U else if jj=77 then sV U else lx jj) _ ⟨X,f0,f1,f2,(fun _=>rfl),f4,f5,(fun _=>rfl),(fun _=>rfl),f8⟩
    | 7,ho,hL,haf,hK =>
     cases ho
     (try dsimp only)
     rw [f7 (haf ⟨6,.data⟩ (by simp) rfl)];go_wp2_with fail;exact hK (fun jj=>if jj=2 then .bool true else if jj=78 then .bool true else lx jj) _ ⟨X,f0,f1,f2,f3,f4,f5,f6,(fun _=>rfl),(fun _=>rfl)⟩
    | k+8,ho,_,_,_=>simp at ho
   ·intro L lx wr hall hI;obtain ⟨XR,f0,f1,f2,f3,f4,f5,f6,f7,f8⟩:=hI.out;clear hI;have G0:=f0;replace f1:=f1 (hall 0 (by simp));replace f2:=f2 (hall 1 (by simp));replace f3:=f3 (hall 2 (by simp));replace f4:=f4 (hall 3 (by simp));replace f5:=f5 (hall 4 (by simp));replace f6:=f6 (hall 5 (by simp));replace f7:=f7 (hall 6 (by simp));replace f8:=f8 (hall 7 (by simp))
    (try dsimp only)
    rw [f1,f2,f3,f4,f5,f6,f7,f8];clear hall f0 f1 f2 f3 f4 f5 f6 f7 f8;go_wp2_with fail;go_ret;exact ⟨rfl,xt Y XR⟩
theorem zPL (RP:RepC) (v:Value) (k:Nat) (w:World) (hc:zCP w w.heap.size v k) (hT:Tens w) (hE:zE6 w) (IT:zD2 w) (hM:zCJ w) (hC:Cals w) (TK:TabK w) :
  Calls Tryz.prog 3 #[v] w fun e w'=>e=.returned (.bool true)/\Ext w w':=by
 have hv:∃ p cap,v=.slice p k cap:=by
  rcases hc with ⟨⟨p,cap,h⟩,rfl⟩ | ⟨pb,po,cap,_,h,_⟩
  ·exact ⟨p,cap,h⟩
  ·exact ⟨_,cap,h⟩
 obtain ⟨p,cap,rfl⟩:=hv;by_cases hb:k<=1048576
 ·exact zVG RP p k cap w hc hb hT hE IT hM hC TK
 ·exact zPM p k cap w hb
end Go.Proofs.YtjlojlgdkfpcdaaGreatDoor

