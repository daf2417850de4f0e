/-
  Several texts in one: Se2, Se3.
-/
import Derived.Test.YtjlojlgdkfpcdaaGreatDoorMg38
import Derived.Test.YtjlojlgdkfpcdaaGreatDoorSe1
import Derived.Test.YtjlojlgdkfpcdaaGreatDoorMg29
import Derived.Test.YtjlojlgdkfpcdaaGreatDoorMg37
import Derived.Test.YtjlojlgdkfpcdaaGreatDoorMg24
namespace Go.Proofs.YtjlojlgdkfpcdaaGreatDoor
open Go.RowKit
theorem dec_eql (n:Bool) (d x:Int) (W:World) :
  (binOp BinOp.eql 31 (decV n d x) (decV false 0 0)).run Tryz.prog W=.ok (.bool (decide (n=false∧d=0∧x=0))) W:=by
 by_cases h:n=false∧d=0∧x=0
 ·obtain ⟨rfl,rfl,rfl⟩:=h
  go_simp
 ·rw [decide_eq_false h];have H:Hid (¬ (n=false∧d=0∧x=0)):=h;clear h
  go_simp
  intros
  have:=H.out
  simp_all
set_option maxRecDepth 8000 in
set_option maxHeartbeats 8000000 in
theorem showByI (RP:RepC) (k:Int) (n:Bool) (d x:Int) (t c:BLs) (w:World) (hl:t.length≤2000000) (hcl:c.length≤100000000) (d1 : -9223372036854775808≤d) (d2:d≤9223372036854775807) (hT:Tens w) (hE:ErrTab w) (IT:ItoaC w) (hM:Months w) (hC:Cals w) (TK:TabK w) :
  Calls Tryz.prog 12 #[valV k n d x t,sV c] w fun r w'=>r=.returned (sV (showByT k n d x t c))∧Ext w w':=by
 have CR:Hid (∀ W,Ext w W→Calls Tryz.prog 8 #[sV c] W fun e w'=>(∃ v,e=.returned v∧OwnF w' W.heap.size v (readF c))∧Ext W w'):=fun W X=>by rw [← readF_same];exact readI c W hcl (TK.later X)
 have CG:Hid (∀ W,Ext w W→Calls Tryz.prog 34 #[valV k n d x t] W fun e w'=>e=.returned (.bool (goodV k n d x t))∧Ext W w'):=fun W X=>goodVI k n d x t W hl d1 d2 (hT.later X) (hE.later X);have CS:Hid (∀ W,Ext w W→Calls Tryz.prog 35 #[valV k n d x t] W fun e w'=>e=.returned (sV (showV k n d x t))∧Ext W w'):=fun W X=>showI k n d x t W hl d1 d2 (hT.later X) (hE.later X) (fun z W' z0 z1 X'=>IT z W' z0 z1 (xt X X'));obtain ⟨A,hA⟩:∃ A,showByT k n d x t c=A:=⟨_,rfl⟩;have HA:Hid (showByT k n d x t c=A):=hA;rw [hA];obtain ⟨G,hG⟩:∃ b,goodV k n d x t=b:=⟨_,rfl⟩;obtain ⟨l,hL⟩:∃ l,readF c=l:=⟨_,rfl⟩;have HGY:Hid ((∀ f ∈ l,goodY f)∧l.length≤3):=by show _∧_;rw [← hL];exact readF_goodY c
 have HNO:Hid (¬ (G=true∧k=1∧l ≠ [])→showV k n d x t=A):=fun h=>by rw [← HA.out,showByT,hG,hL,if_neg h]
 have HYES:Hid (G=true→k=1→l ≠ []→A=showK (secOfK l n d) (n && !decide (1<l.length)) d x):=fun h1 h2 h3=>by rw [← HA.out,showByT,hG,hL,if_pos ⟨h1,h2,h3⟩]
 have HGN:Hid (G=true→k=1→goodB n d x=true):=fun h1 h2=>good_num (hG.trans h1) h2;rw [hL] at CR;rw [hG] at CG;have HTB:=hid (And.intro RP (And.intro hT (And.intro IT (And.intro hM (And.intro hC TK)))));clear hA hG hL HA hl hcl RP hT hE IT hM hC TK d1 d2;obtain ⟨wa,ha,X1,VV,-⟩:=boxed w (valL k n d x t) 33;obtain ⟨b0,hb0⟩:∃ z,w.heap.size=z:=⟨_,rfl⟩;rw [hb0] at VV;have HVV:=hid VV;have HB0:=hid hb0;have hls:wa.heap.size=b0+1:=by rw [← ha,World.size_alloc,hb0]
 clear VV;go_enter Tryz.func12,Tryz.ntmps12;go_wp2_with fail;refine (CR.out _ X1).mono ?_;rintro r w2 ⟨⟨v,rfl,hO⟩,e2⟩;have X2:=xt X1 e2;have HO:=hid hO;obtain ⟨p0,q0,hv,-⟩:=ownF_slice hO;subst hv;have c5:=vC5 (HVV.out.later e2);have HE2:=hid e2;clear ha hb0 hO;cases G
 ·have HX:Hid (showV k n d x t=A):=HNO.out (fun h=>by cases h.1);rw [HX.out] at CS;go_wp2_with (first
   | (go_at_call 34;refine (CG.out _ X2).mono ?_;rintro r w3 ⟨rfl,e3⟩;have c6:=vC5 (HVV.out.later (xt HE2.out e3)))
   | (go_at_call 35;refine (CS.out _ (xt X2 e3)).mono ?_;rintro r w4 ⟨rfl,e4⟩))
  go_ret;exact ⟨rfl,xt X2 (xt e3 e4)⟩
 by_cases hk:k=1
 case neg =>
  have HX:Hid (showV k n d x t=A):=HNO.out (fun h=>hk h.2.1);rw [HX.out] at CS;have hkb:(k == 1)=false:=by simpa using hk
  clear hk;go_wp2_with (first
   | (go_at_call 34;refine (CG.out _ X2).mono ?_;rintro r w3 ⟨rfl,e3⟩;have c6:=vC5 (HVV.out.later (xt HE2.out e3)))
   | (go_at_call 35;refine (CS.out _ (xt X2 e3)).mono ?_;rintro r w4 ⟨rfl,e4⟩))
  go_ret;exact ⟨rfl,xt X2 (xt e3 e4)⟩
 subst hk;have HK:Hid ((1:Int)=1):=rfl;by_cases hl0:l=[]
 ·have HX:Hid (showV 1 n d x t=A):=HNO.out (fun h=>h.2.2 hl0);rw [HX.out] at CS;subst hl0;go_wp2_with (first
   | (go_at_call 34;refine (CG.out _ X2).mono ?_;rintro r w3 ⟨rfl,e3⟩;have c6:=vC5 (HVV.out.later (xt HE2.out e3)))
   | (go_at_call 35;refine (CS.out _ (xt X2 e3)).mono ?_;rintro r w4 ⟨rfl,e4⟩))
  go_ret;exact ⟨rfl,xt X2 (xt e3 e4)⟩
 obtain ⟨g,cap,hv,hgc,hgb,hR⟩:=ownF_row HO.out hl0;have hgn:Hid (goodB n d x=true):=HGN.out rfl HK.out;have HAY:Hid (A=showK (secOfK l n d) (n && !decide (1<l.length)) d x):=HYES.out rfl HK.out hl0;injection hv with hv1 hv2 hv3;subst hv1;subst hv3;have HR:=hid hR;have h0:0<l.length:=List.length_pos_iff.2 hl0;obtain ⟨f0,hf0⟩:∃ f,l[0]?=some f:=⟨l[0],List.getElem?_eq_getElem h0⟩;have hy0:=HGY.out.1 f0 (List.mem_of_getElem? hf0);obtain ⟨LN,hL⟩:∃ LN,l.length=LN:=⟨_,rfl⟩;have HLL:=hid hL;have hL3:LN≤3:=by rw [← hL];exact HGY.out.2
 rw [hL] at h0 hgc;have HG2:=hid (And.intro h0 (And.intro hL3 hgc));have i0:((LN:Int) == 0)=false:=by simp;omega
 have i00:0<LN:=h0;have i01:(0:Int)<(LN:Int):=by omega
 clear hl0 hgb hR hls hL3 hgc HO HNO HYES HGN CR;go_upto_region 4 with (go_at_call 34;refine (CG.out _ X2).mono ?_;rintro r w3 ⟨rfl,e3⟩;have c6:=vC5 (HVV.out.later (xt HE2.out e3)));clear c5 c6;have R3:=hid (HR.out.later e3);have HV3:=hid (HVV.out.later (xt HE2.out e3));have X3:=xt X2 e3;have HF0:=hid hf0;obtain ⟨ng0,bf0,af0,wh0,pl0,mb0,gr0,tm0,dt0⟩:=f0;have HY0:=hid hy0;have hgl:g<w3.heap.size:=World.block_lt_of_cell? _ _ (R3.out 0 _ hf0 0 _ rfl);clear hy0 e3 CG CS;go_cut [6,7] (fun s u wx=>∃ bA bB,s=.pointer (some ⟨bA,0,none⟩)∧u=.pointer (some ⟨bB,0,none⟩)∧Vec wx bA [.bool ng0,sV bf0,sV af0,.int .i64 wh0,.int .i64 pl0,.int .i64 mb0,.bool gr0,.int .i64 tm0,sV dt0]∧Vec wx bB [.bool n,.int .i64 d,.int .i64 x]∧bA ≠ bB∧w3.heap.size≤bA∧w3.heap.size≤bB∧Ext w3 wx)
 case first =>
  refine wp_region_letters_c (fun lx:Nat→Value=>{ tmps:=#[valV 1 n d x t,sV c,Value.pointer (some ⟨b0,0,none⟩),undef,Value.string { data:=#[] },Value.slice (some ⟨g,0,none⟩) LN q0,lx 6,lx 7,sV c,Value.slice (some ⟨g,0,none⟩) LN q0,Value.agg #[Value.int .i64 1,Value.bool n,Value.int .i64 d,Value.int .i64 x,sV t],Value.bool true,Value.bool false,Value.bool false,Value.pointer (some ⟨b0,0,none⟩),Value.int .i64 1,Value.bool false,Value.bool false,Value.bool false,Value.slice (some ⟨g,0,none⟩) LN q0,Value.int .i64 (LN:Int),Value.bool false,Value.bool false,undef,undef,lx 25,lx 26,lx 27,lx 28,lx 29,undef,undef,undef,undef,undef,undef,undef,undef,undef,undef,undef,undef,undef,undef,undef,undef,undef,undef,undef,undef,undef,undef,undef,undef,undef,undef,undef,undef,undef,undef,undef,undef,undef],defers:=[] }) (fun L lx lw=>Hid (Ext w3 lw∧(L 0=true→lx 25=.slice (some ⟨g,0,none⟩) LN q0)∧(L 1=true→lx 26=.pointer (some ⟨g,0,none⟩))∧(L 2=true→lx 27=.agg #[.bool ng0,sV bf0,sV af0,.int .i64 wh0,.int .i64 pl0,.int .i64 mb0,.bool gr0,.int .i64 tm0,sV dt0])∧(L 3=true→lx 28=.pointer (some ⟨b0,1,none⟩))∧(L 4=true→lx 29=decV n d x)∧(L 5=true→∃ b,lx 6=.pointer (some ⟨b,0,none⟩)∧w3.heap.size≤b∧(L 7=false→Vec lw b [.bool false,sV [],sV [],.int .i64 0,.int .i64 0,.int .i64 0,.bool false,.int .i64 0,sV []])∧(L 7=true→Vec lw b [.bool ng0,sV bf0,sV af0,.int .i64 wh0,.int .i64 pl0,.int .i64 mb0,.bool gr0,.int .i64 tm0,sV dt0]))∧(L 6=true→∃ b,lx 7=.pointer (some ⟨b,0,none⟩)∧w3.heap.size≤b∧(L 8=false→Vec lw b [.bool false,.int .i64 0,.int .i64 0])∧(L 8=true→Vec lw b [.bool n,.int .i64 d,.int .i64 x]))∧(L 5=true→L 6=true→lx 6 ≠ lx 7))) rfl (by kernel_rfl) (fun jj=>undef) rfl ?_ ?_ ?_
  ·exact ⟨xd (xr _),(fun h=>by cases h),(fun h=>by cases h),(fun h=>by cases h),(fun h=>by cases h),(fun h=>by cases h),(fun h=>by cases h),(fun h=>by cases h),(fun h=>by cases h)⟩
  ·intro L lx lw ix oo K hK ho hL haf hI hcl;obtain ⟨E,f0,f1,f2,f3,f4,fa,fb,fp⟩:=hI.out
   match ix,ho,hL,haf,hK with
   | 0,ho,hL,haf,hK =>
    cases ho
    (try dsimp only)
    refine Eq.mpr (if_pos (by rfl)) ?_;go_wp2_with fail;exact hK (fun jj=>if jj=25 then .slice (some ⟨g,0,none⟩) LN q0 else lx jj) _ ⟨E,(fun _=>rfl),f1,f2,f3,f4,fa,fb,fp⟩
   | 1,ho,hL,haf,hK =>
    cases ho
    (try dsimp only)
    rw [f0 (haf ⟨0,.data⟩ (by simp) rfl)];refine Eq.mpr (if_pos (by rfl)) ?_;go_wp2_with fail;exact hK (fun jj=>if jj=26 then .pointer (some ⟨g,0,none⟩) else if jj=25 then .slice (some ⟨g,0,none⟩) LN q0 else lx jj) _ ⟨E,(fun _=>rfl),(fun _=>rfl),f2,f3,f4,fa,fb,fp⟩
   | 2,ho,hL,haf,hK =>
    cases ho
    (try dsimp only)
    rw [f1 (haf ⟨1,.data⟩ (by simp) rfl)];refine Eq.mpr (if_pos (by rfl)) ?_;have VRl:lw.rangeAt g 0 [.bool ng0,sV bf0,sV af0,.int .i64 wh0,.int .i64 pl0,.int .i64 mb0,.bool gr0,.int .i64 tm0,sV dt0]:=(R3.out.later E).range hf0;go_wp2_with (refine wpList_load_mid rfl 28 (.tmp 26) rfl g 0 rfl _ _ VRl Tryz.underlying28 rfl hi9K ?_);exact hK (fun jj=>if jj=27 then .agg #[.bool ng0,sV bf0,sV af0,.int .i64 wh0,.int .i64 pl0,.int .i64 mb0,.bool gr0,.int .i64 tm0,sV dt0] else if jj=26 then .pointer (some ⟨g,0,none⟩) else lx jj) _ ⟨E,f0,(fun _=>rfl),(fun _=>rfl),f3,f4,fa,fb,fp⟩
   | 3,ho,hL,haf,hK =>
    cases ho
    (try dsimp only)
    refine Eq.mpr (if_pos (by rfl)) ?_;go_wp2_with fail;exact hK (fun jj=>if jj=28 then .pointer (some ⟨b0,1,none⟩) else lx jj) _ ⟨E,f0,f1,f2,(fun _=>rfl),f4,fa,fb,fp⟩
   | 4,ho,hL,haf,hK =>
    cases ho
    (try dsimp only)
    rw [f3 (haf ⟨3,.data⟩ (by simp) rfl)];refine Eq.mpr (if_pos (by rfl)) ?_;have c:=vC5 (HV3.out.later E);go_wp2_with fail;exact hK (fun jj=>if jj=29 then decV n d x else if jj=28 then .pointer (some ⟨b0,1,none⟩) else lx jj) _ ⟨E,f0,f1,f2,(fun _=>rfl),(fun _=>rfl),fa,fb,fp⟩
   | 5,ho,hL,haf,hK =>
    cases ho
    (try dsimp only)
    refine Eq.mpr (if_pos (by rfl)) ?_;have hb7:L 7=false:=hcl.bars (i:=7) (j:=5) [5] hL (by kernel_rfl) rfl;have hne:L 6=true→Value.pointer (some ⟨lw.heap.size,0,none⟩) ≠ lx 7:=fun h e=>(by obtain ⟨b,h1,_,h3,h4⟩:=fb h;rw [← e] at h1;cases h1;cases hs:L 8;exact absurd (World.block_lt_of_cell? _ _ ((h3 hs) 0 _ rfl).1) (Nat.lt_irrefl _);exact absurd (World.block_lt_of_cell? _ _ ((h4 hs) 0 _ rfl).1) (Nat.lt_irrefl _));go_wp2_with fail;exact hK (fun jj=>if jj=6 then .pointer (some ⟨lw.heap.size,0,none⟩) else lx jj) _ ⟨xa E _,f0,f1,f2,f3,f4,(fun _=>⟨lw.heap.size,rfl,E.size,fun _=>vec_made lw [.bool false,sV [],sV [],.int .i64 0,.int .i64 0,.int .i64 0,.bool false,.int .i64 0,sV []] _,fun h=>by have h:L 7=true:=h;rw [hb7] at h;cases h⟩),(fun h=>by obtain ⟨b,h1,h2,h3,h4⟩:=fb h;exact ⟨b,h1,h2,fun h=>(h3 h).later (x1 _ _),fun h=>(h4 h).later (x1 _ _)⟩),(fun _ h=>hne h)⟩
   | 6,ho,hL,haf,hK =>
    cases ho
    (try dsimp only)
    refine Eq.mpr (if_pos (by rfl)) ?_;have hb8:L 8=false:=hcl.bars (i:=8) (j:=6) [6] hL (by kernel_rfl) rfl;have hne:L 5=true→lx 6 ≠ Value.pointer (some ⟨lw.heap.size,0,none⟩):=fun h e=>(by obtain ⟨b,h1,_,h3,h4⟩:=fa h;rw [e] at h1;cases h1;cases hs:L 7;exact absurd (World.block_lt_of_cell? _ _ ((h3 hs) 0 _ rfl).1) (Nat.lt_irrefl _);exact absurd (World.block_lt_of_cell? _ _ ((h4 hs) 0 _ rfl).1) (Nat.lt_irrefl _));go_wp2_with fail;exact hK (fun jj=>if jj=7 then .pointer (some ⟨lw.heap.size,0,none⟩) else lx jj) _ ⟨xa E _,f0,f1,f2,f3,f4,(fun h=>by obtain ⟨b,h1,h2,h3,h4⟩:=fa h;exact ⟨b,h1,h2,fun h=>(h3 h).later (x1 _ _),fun h=>(h4 h).later (x1 _ _)⟩),(fun _=>⟨lw.heap.size,rfl,E.size,fun _=>vec_made lw [.bool false,.int .i64 0,.int .i64 0] _,fun h=>by have h:L 8=true:=h;rw [hb8] at h;cases h⟩),(fun h _=>hne h)⟩
   | 7,ho,hL,haf,hK =>
    cases ho
    (try dsimp only)
    obtain ⟨b,eb,hb,hz,_⟩:=fa (haf ⟨5,.data⟩ (by simp) rfl);have VZ:=hz hL;have h5:L 5=true:=(haf ⟨5,.data⟩ (by simp) rfl);rw [eb,f2 (haf ⟨2,.data⟩ (by simp) rfl)];refine Eq.mpr (if_pos (by rfl)) ?_;obtain ⟨wn,hn,Vn,Kn,En,VTn⟩:=fmt_put VZ (.bool ng0) (sV bf0) (sV af0) (.int .i64 wh0) (.int .i64 pl0) (.int .i64 mb0) (.bool gr0) (.int .i64 tm0) (sV dt0);have hne:L 6=true→lx 7 ≠ .pointer (some ⟨b,0,none⟩):=fun h e=>fp h5 h (by rw [eb,e]);go_wp2_with (refine store_to rfl _ _ _ rfl b 0 _ rfl rfl VTn hi9K (by simp [Value.oneCell']) hn ?_);exact hK (fun jj=>if jj=6 then .pointer (some ⟨b,0,none⟩) else if jj=27 then .agg #[.bool ng0,sV bf0,sV af0,.int .i64 wh0,.int .i64 pl0,.int .i64 mb0,.bool gr0,.int .i64 tm0,sV dt0] else lx jj) _ ⟨En w3 E hb,f0,f1,(fun _=>rfl),f3,f4,(fun _=>⟨b,rfl,hb,(fun h=>by cases h),fun _=>Vn⟩),(fun h=>by obtain ⟨b',h1,h2,h3,h4⟩:=fb h;have hbb:b' ≠ b:=fun e=>hne h (by rw [h1,e]);exact ⟨b',h1,h2,fun h=>Kn b' _ hbb (by simp) (h3 h),fun h=>Kn b' _ hbb (by simp) (h4 h)⟩),(fun _ h e=>hne h e.symm)⟩
   | 8,ho,hL,haf,hK =>
    cases ho
    (try dsimp only)
    obtain ⟨b,eb,hb,hz,_⟩:=fb (haf ⟨6,.data⟩ (by simp) rfl);have VZ:=hz hL;have h6:L 6=true:=(haf ⟨6,.data⟩ (by simp) rfl);rw [eb,f4 (haf ⟨4,.data⟩ (by simp) rfl)];refine Eq.mpr (if_pos (by rfl)) ?_;have bz:=vC3 VZ;have fz:=vF3 VZ;have hne:L 5=true→lx 6 ≠ .pointer (some ⟨b,0,none⟩):=fun h e=>fp h h6 (by rw [eb,e]);have hX:=Ext.setL (b:=b) hb [.bool n,.int .i64 d,.int .i64 x] 0 E;have hB:=Vec.put3 VZ (.bool n) (.int .i64 d) (.int .i64 x);go_wp2_with fail;exact hK (fun jj=>if jj=7 then .pointer (some ⟨b,0,none⟩) else if jj=29 then decV n d x else lx jj) _ ⟨hX,f0,f1,f2,f3,(fun _=>rfl),(fun h=>by obtain ⟨b',h1,h2,h3,h4⟩:=fa h;have hbb:b ≠ b':=fun e=>hne h (by rw [h1,e]);exact ⟨b',h1,h2,fun h=>Vec.farL hbb [.bool n,.int .i64 d,.int .i64 x] 0 (h3 h),fun h=>Vec.farL hbb [.bool n,.int .i64 d,.int .i64 x] 0 (h4 h)⟩),(fun _=>⟨b,rfl,hb,(fun h=>by cases h),fun _=>hB⟩),(fun h _=>hne h)⟩
   | k+9,ho,_,_,_=>simp at ho
  ·intro L lx w9 hall hI;obtain ⟨E,f0,f1,f2,f3,f4,fa,fb,fp⟩:=hI.out
   (try dsimp only)
   obtain ⟨bA,ea,la,_,hza⟩:=fa (hall 5 (by simp));obtain ⟨bB,eb,lb,_,hzb⟩:=fb (hall 6 (by simp));have VA:=hza (hall 7 (by simp));have VB:=hzb (hall 8 (by simp));have hAB:=fp (hall 5 (by simp)) (hall 6 (by simp));rw [ea,eb] at hAB;have hne:bA ≠ bB:=fun e=>hAB (by rw [e]);rw [ea,eb,f0 (hall 0 (by simp)),f1 (hall 1 (by simp)),f2 (hall 2 (by simp)),f3 (hall 3 (by simp)),f4 (hall 4 (by simp))];clear hI hall f0 f1 f2 f3 f4 fa fb fp hza hzb hAB ea eb;go_wp2_with fail;go_meet
   case rel=>exact ⟨bA,bB,rfl,rfl,VA,VB,hne,la,lb,E⟩
 case rest =>
  obtain ⟨bA,bB,rfl,rfl,VA,VB,hAB,hAl,hBl,E4⟩:=hcut
  rename World=>w4
  have R4:=hid (R3.out.later E4);have Y4:=xt X3 E4;obtain ⟨fs,hfs⟩:∃ f,secOfK l n d=f:=⟨_,rfl⟩;have hlne:l ≠ []:=fun e=>by rw [e] at HLL;have h:=HLL.out;have:(0:Nat)=LN:=h;omega
  have HYs:=hid (HGY.out.1 fs (by rw [← hfs];exact sec_mem hlne n d));have HSEL:=hid hfs;obtain ⟨np,hnp⟩:∃ b,(n && !decide (1<LN))=b:=⟨_,rfl⟩;have HAY2:Hid (A=showK fs np d x):=by show A=_;rw [HAY.out,hfs,HLL.out,hnp]
  have HNP:=hid hnp;have hdn:Hid (goodB n d x=true):=hgn.out;have hgp:Hid (goodB np d x=true):=by
   show _=true;rw [← hnp];cases n
   ·exact hdn.out
   ·cases decide (1<LN)
    ·exact hdn.out
    ·exact good_plus hdn.out
  obtain ⟨ng3,bf3,af3,wh3,pl3,mb3,gr3,tm3,dt3⟩:=fs;have hAB2:=hid hAB;have hAl2:Hid (w.heap.size≤bA):=by show _≤_;have:=X3.size;omega
  have DE:=dec_eql n d x;obtain ⟨z,hz⟩:∃ z,decide (n=false∧d=0∧x=0)=z:=⟨_,rfl⟩;rw [hz] at DE;have HZ:=hid hz;have l4:bB<w4.heap.size:=World.block_lt_of_cell? _ _ (vC3 VB).1;have lB:Hid (w.heap.size≤bB):=by show _≤_;have:=X3.size;omega
  clear hfs hnp hz E4 hgl HAY hlne hgn;go_upto_block 0 with fail;go_cut [] (fun wx=>Vec wx bA [.bool ng3,sV bf3,sV af3,.int .i64 wh3,.int .i64 pl3,.int .i64 mb3,.bool gr3,.int .i64 tm3,sV dt3]∧Vec wx bB [.bool np,.int .i64 d,.int .i64 x]∧Ext w wx)
  case first =>
   have cB:=vC3 VB;have fB:=(VB 0 _ rfl).2;have cA:=vC9 VA;cases n
   ·have HNP2:Hid (np=false):=HNP.out.symm;cases z
    ·have hcq:=of_decide_eq_false HZ.out;have hfe:(⟨ng0,bf0,af0,wh0,pl0,mb0,gr0,tm0,dt0⟩:KT)=⟨ng3,bf3,af3,wh3,pl3,mb3,gr3,tm3,dt3⟩:=by
      rw [← HSEL.out];unfold secOfK;rw [if_neg (fun h=>Bool.noConfusion h.1),if_neg (fun h=>hcq ⟨rfl,h.1,((good_all hdn.out).2.2.2.2.1 h.1).1⟩)];rw [List.getD,HF0.out];rfl
     cases hfe;go_wp2_with fail;go_meet
     case rel=>exact ⟨VA,by rw [HNP2.out];exact VB,Y4⟩
    ·have hcq:=of_decide_eq_true HZ.out;have HD0:=hid hcq.2.1;clear hcq;by_cases h2L:2<LN
     ·have i6:(2:Int)<(LN:Int):=(by omega);have hfi:l[2]?=some ⟨ng3,bf3,af3,wh3,pl3,mb3,gr3,tm3,dt3⟩:=by
       rw [← HSEL.out];unfold secOfK;rw [if_neg (fun h=>Bool.noConfusion h.1),if_pos ⟨HD0.out,by rw [HLL.out];exact h2L⟩];rw [List.getD,List.getElem?_eq_getElem (by rw [HLL.out];exact h2L)];rfl
      have VR5:w4.rangeAt g 18 [.bool ng3,sV bf3,sV af3,.int .i64 wh3,.int .i64 pl3,.int .i64 mb3,.bool gr3,.int .i64 tm3,sV dt3]:=R4.out.range hfi;obtain ⟨w5,h5,V5,K5,E5,VT5⟩:=fmt_put VA (.bool ng3) (sV bf3) (sV af3) (.int .i64 wh3) (.int .i64 pl3) (.int .i64 mb3) (.bool gr3) (.int .i64 tm3) (sV dt3);have H5:=hid h5;have VB5:=K5 bB _ (fun e=>hAB e.symm) (by simp) VB;have X5:Ext w w5:=E5 w Y4 (by have:=X3.size;omega);clear K5 E5 h5 hfi;clear VA VB;go_wp2_with (first | (refine wpList_load_mid rfl 28 (.tmp 52) rfl g 18 rfl _ _ VR5 Tryz.underlying28 rfl hi9K ?_) | (refine store_to rfl _ _ _ rfl bA 0 _ rfl rfl VT5 hi9K (by simp [Value.oneCell']) H5.out ?_));go_meet
      case rel=>exact ⟨V5,by rw [HNP2.out];exact VB5,X5⟩
     ·have i6:¬ (2:Int)<(LN:Int):=(by omega);have hfe:(⟨ng0,bf0,af0,wh0,pl0,mb0,gr0,tm0,dt0⟩:KT)=⟨ng3,bf3,af3,wh3,pl3,mb3,gr3,tm3,dt3⟩:=by
       rw [← HSEL.out];unfold secOfK;rw [if_neg (fun h=>Bool.noConfusion h.1),if_neg (fun h=>h2L (by rw [← HLL.out];exact h.2))];rw [List.getD,HF0.out];rfl
      cases hfe;go_wp2_with fail;go_meet
      case rel=>exact ⟨VA,by rw [HNP2.out];exact VB,Y4⟩
   ·have hzf:z=false:=(by rw [← HZ.out];exact decide_eq_false (fun h=>Bool.noConfusion h.1));subst hzf;by_cases h1L:1<LN
    ·have HNP2:Hid (np=false):=(by show np=false;rw [← HNP.out,decide_eq_true h1L];rfl);have i6:(1:Int)<(LN:Int):=(by omega);have hfi:l[1]?=some ⟨ng3,bf3,af3,wh3,pl3,mb3,gr3,tm3,dt3⟩:=by
      rw [← HSEL.out];unfold secOfK;rw [if_pos ⟨rfl,by rw [HLL.out];exact h1L⟩];rw [List.getD,List.getElem?_eq_getElem (by rw [HLL.out];exact h1L)];rfl
     have VR5:w4.rangeAt g 9 [.bool ng3,sV bf3,sV af3,.int .i64 wh3,.int .i64 pl3,.int .i64 mb3,.bool gr3,.int .i64 tm3,sV dt3]:=R4.out.range hfi;obtain ⟨w5,h5,V5,K5,E5,VT5⟩:=fmt_put VA (.bool ng3) (sV bf3) (sV af3) (.int .i64 wh3) (.int .i64 pl3) (.int .i64 mb3) (.bool gr3) (.int .i64 tm3) (sV dt3);have H5:=hid h5;have VB5:=K5 bB _ (fun e=>hAB e.symm) (by simp) VB;have X5:Ext w w5:=E5 w Y4 (by have:=X3.size;omega);clear K5 E5 h5 hfi;obtain ⟨w6,h6⟩:∃ z,w5.setCell ⟨bB,0,none⟩ (.bool false)=z:=⟨_,rfl⟩;have V6:Vec w6 bA [.bool ng3,sV bf3,sV af3,.int .i64 wh3,.int .i64 pl3,.int .i64 mb3,.bool gr3,.int .i64 tm3,sV dt3]:=(by rw [← h6];exact V5.far (by show bB ≠ bA;exact fun e=>hAB e.symm) _);have VB6:Vec w6 bB [.bool false,.int .i64 d,.int .i64 x]:=(by rw [← h6];exact VB5.put 0 (by simp) _);have X6:Ext w w6:=(by rw [← h6];exact xset X5 (by show _≤bB;exact lB.out) _);have cB5:=vC3 VB5;have fB5:=(VB5 0 _ rfl).2;clear VA VB V5 VB5;go_wp2_with (first | (refine wpList_load_mid rfl 28 (.tmp 39) rfl g 9 rfl _ _ VR5 Tryz.underlying28 rfl hi9K ?_) | (refine store_to rfl _ _ _ rfl bA 0 _ rfl rfl VT5 hi9K (by simp [Value.oneCell']) H5.out ?_));go_meet
     case rel=>exact ⟨V6,by rw [HNP2.out];exact VB6,X6⟩
    ·have HNP2:Hid (np=true):=(by show np=true;rw [← HNP.out,decide_eq_false h1L];rfl);have i6:¬ (1:Int)<(LN:Int):=(by omega);have hfe:(⟨ng0,bf0,af0,wh0,pl0,mb0,gr0,tm0,dt0⟩:KT)=⟨ng3,bf3,af3,wh3,pl3,mb3,gr3,tm3,dt3⟩:=by
      rw [← HSEL.out];unfold secOfK;rw [if_neg (fun h=>h1L (by rw [← HLL.out];exact h.2)),if_neg (fun h=>by have g:=good_all hdn.out;have:=(g.2.2.2.2.1 h.1).2;cases this)];rw [List.getD,HF0.out];rfl
     cases hfe;go_wp2_with fail;go_meet
     case rel=>exact ⟨VA,by rw [HNP2.out];exact VB,Y4⟩
  case rest =>
   obtain ⟨VA2,VB2,X9⟩:=hcut
   rename World=>w8
   have HSH:Hid (∃ T:BLs,A=bf3++T++af3∧T.length≤1301∧∀ W,Ext w W→Calls Tryz.prog 36 #[.agg #[.bool ng3,sV bf3,sV af3,.int .i64 wh3,.int .i64 pl3,.int .i64 mb3,.bool gr3,.int .i64 tm3,sV dt3],decV np d x] W fun r w'=>r=.returned (sV T)∧Ext W w'):=by
    obtain ⟨RP,hT,IT,hM,hC,TK⟩:=HTB.out
    rcases HYs.out.2.2 with ⟨hdt,wh',pl',mb',tm',⟨e1,e2,e3,e4⟩,hw,hpb,hmb,htb⟩ | ⟨hdt,hdl,ps,hps,hps1⟩
    ·have hdt:dt3=[]:=hdt;have e1:wh3=wh':=e1;have e2:pl3=pl':=e2;have e3:mb3=mb':=e3;have e4:tm3=tm':=e4;subst hdt e1 e2 e3 e4;refine ⟨numT wh' pl' mb' gr3 tm' true np d x,HAY2.out,numT_len hw.2 hpb hmb htb,fun W X=>?_⟩;exact shownN ng3 bf3 af3 wh' pl' mb' tm' gr3 np d x W (fun z W' z0 z1 X'=>IT z W' z0 z1 (xt X X')) (hT.later X) hw hpb hmb htb hgp.out
    ·have hdt:dt3 ≠ []:=hdt;have hdl:dt3.length≤100:=hdl;have hps:partsF dt3.length dt3=some ps:=hps;refine ⟨dateA np d x ps,?_,by have:=dateA_len hgp.out hps1.2 (parts_mem _ _ _ hps) (fun z h0 h1=>isDt_ex z w h0 h1);omega,fun W X=>?_⟩
     ·rw [HAY2.out];show bf3++(if dt3=[] then _ else dateA np d x ((partsF dt3.length dt3).getD []))++af3=_;rw [if_neg hdt,hps];rfl
     ·exact shownD RP ng3 bf3 af3 dt3 wh3 pl3 mb3 tm3 gr3 np d x hgp.out ps hps hps1 (by omega) hdt W (fun z W' z0 z1 X'=>IT z W' z0 z1 (xt X X')) (hT.later X) (hM.later X) (hC.later X) (TK.later X)
   obtain ⟨T,hA,hTl,hSh⟩:=HSH.out;have HA3:=hid hA;have CSH:=hid hSh;have hb1:bf3.length≤20:=HYs.out.1;have hb2:af3.length≤20:=HYs.out.2.1;have HLN2:=hid (And.intro hTl (And.intro hb1 hb2));have HVA:=hid VA2;have HVB:=hid VB2;clear hA hTl hSh hb1 hb2 VA2 VB2 VA VB hAB DE HSH;go_upto_region 9 with fail;obtain ⟨BT,hBT⟩:∃ l,bf3++T=l:=⟨_,rfl⟩;have HBT:=hid hBT;have HBL:Hid (BT.length≤1400):=by show _≤_;rw [← hBT,List.length_append];have:=HLN2.out;omega
   have HAP:Hid ((⟨BT.toArray⟩:ByteArray)++⟨af3.toArray⟩=⟨A.toArray⟩):=by show _=_;rw [HA3.out,hBT];exact app_str BT af3
   clear hBT;refine wp_region_letters_c (fun lx:Nat→Value=>{ tmps:=#[valV 1 n d x t,sV c,Value.pointer (some ⟨b0,0,none⟩),undef,lx 4,Value.slice (some ⟨g,0,none⟩) LN q0,Value.pointer (some ⟨bA,0,none⟩),Value.pointer (some ⟨bB,0,none⟩),u8,u9,u10,u11,u12,u13,u14,u15,u16,u17,u18,u19,u20,u21,u22,u23,u24,u25,u26,u27,u28,u29,u30,u31,u32,u33,u34,u35,u36,u37,u38,u39,u40,u41,u42,u43,u44,u45,u46,u47,u48,u49,u50,u51,u52,u53,lx 54,lx 55,lx 56,lx 57,lx 58,lx 59,lx 60,lx 61,lx 62],defers:=[] }) (fun L lx lw=>Hid (Ext w8 lw∧(L 0=true→lx 54=.pointer (some ⟨bA,1,none⟩))∧(L 1=true→lx 55=sV bf3)∧(L 2=true→lx 56=.agg #[.bool ng3,sV bf3,sV af3,.int .i64 wh3,.int .i64 pl3,.int .i64 mb3,.bool gr3,.int .i64 tm3,sV dt3])∧(L 3=true→lx 57=decV np d x)∧(L 4=true→lx 58=sV T)∧(L 5=true→lx 59=sV BT)∧(L 6=true→lx 60=.pointer (some ⟨bA,2,none⟩))∧(L 7=true→lx 61=sV af3)∧(L 8=true→lx 62=sV A)∧(L 9=true→lx 4=sV A))) rfl (by kernel_rfl) (fun jj=>if jj=4 then Value.string { data:=#[] } else if jj=54 then u54 else if jj=55 then u55 else if jj=56 then u56 else if jj=57 then u57 else if jj=58 then u58 else if jj=59 then u59 else if jj=60 then u60 else if jj=61 then u61 else if jj=62 then u62 else undef) rfl ?_ ?_ ?_
   ·exact ⟨xd (xr _),(fun h=>by cases h),(fun h=>by cases h),(fun h=>by cases h),(fun h=>by cases h),(fun h=>by cases h),(fun h=>by cases h),(fun h=>by cases h),(fun h=>by cases h),(fun h=>by cases h),(fun h=>by cases h)⟩
   ·intro L lx lw ix oo K hK ho hL haf hI hcl;obtain ⟨E,f0,f1,f2,f3,f4,f5,f6,f7,f8,f9⟩:=hI.out
    match ix,ho,hL,haf,hK with
    | 0,ho,hL,haf,hK =>
     cases ho
     (try dsimp only)
     refine Eq.mpr (if_pos (by rfl)) ?_;go_wp2_with fail;exact hK (fun jj=>if jj=54 then .pointer (some ⟨bA,1,none⟩) else lx jj) _ ⟨E,(fun _=>rfl),f1,f2,f3,f4,f5,f6,f7,f8,f9⟩
    | 1,ho,hL,haf,hK =>
     cases ho
     (try dsimp only)
     rw [f0 (haf ⟨0,.data⟩ (by simp) rfl)];refine Eq.mpr (if_pos (by rfl)) ?_;have c:=vC9 (HVA.out.later E);go_wp2_with fail;exact hK (fun jj=>if jj=55 then sV bf3 else if jj=54 then .pointer (some ⟨bA,1,none⟩) else lx jj) _ ⟨E,(fun _=>rfl),(fun _=>rfl),f2,f3,f4,f5,f6,f7,f8,f9⟩
    | 2,ho,hL,haf,hK =>
     cases ho
     (try dsimp only)
     refine Eq.mpr (if_pos (by rfl)) ?_;have VAl:lw.rangeAt bA 0 [.bool ng3,sV bf3,sV af3,.int .i64 wh3,.int .i64 pl3,.int .i64 mb3,.bool gr3,.int .i64 tm3,sV dt3]:=fun j u hu=>(by rw [Nat.zero_add];exact ((HVA.out.later E) j u hu).1);go_wp2_with (refine wpList_load_mid rfl 28 (.tmp 6) rfl bA 0 rfl [.bool ng3,sV bf3,sV af3,.int .i64 wh3,.int .i64 pl3,.int .i64 mb3,.bool gr3,.int .i64 tm3,sV dt3] _ VAl Tryz.underlying28 rfl hi9K ?_);exact hK (fun jj=>if jj=56 then .agg #[.bool ng3,sV bf3,sV af3,.int .i64 wh3,.int .i64 pl3,.int .i64 mb3,.bool gr3,.int .i64 tm3,sV dt3] else lx jj) _ ⟨E,f0,f1,(fun _=>rfl),f3,f4,f5,f6,f7,f8,f9⟩
    | 3,ho,hL,haf,hK =>
     cases ho
     (try dsimp only)
     refine Eq.mpr (if_pos (by rfl)) ?_;have c:=vC3 (HVB.out.later E);go_wp2_with fail;exact hK (fun jj=>if jj=57 then decV np d x else lx jj) _ ⟨E,f0,f1,f2,(fun _=>rfl),f4,f5,f6,f7,f8,f9⟩
    | 4,ho,hL,haf,hK =>
     cases ho
     (try dsimp only)
     rw [f2 (haf ⟨2,.data⟩ (by simp) rfl),f3 (haf ⟨3,.data⟩ (by simp) rfl)];refine Eq.mpr (if_pos (by rfl)) ?_;go_wp2_with fail;refine (CSH.out lw (xt X9 E)).mono ?_;rintro rr w' ⟨rfl,e'⟩;go_wp2_with fail;exact hK (fun jj=>if jj=58 then sV T else if jj=56 then .agg #[.bool ng3,sV bf3,sV af3,.int .i64 wh3,.int .i64 pl3,.int .i64 mb3,.bool gr3,.int .i64 tm3,sV dt3] else if jj=57 then decV np d x else lx jj) _ ⟨(xt E e'),f0,f1,(fun _=>rfl),(fun _=>rfl),(fun _=>rfl),f5,f6,f7,f8,f9⟩
    | 5,ho,hL,haf,hK =>
     cases ho
     (try dsimp only)
     rw [f1 (haf ⟨1,.data⟩ (by simp) rfl),f4 (haf ⟨4,.data⟩ (by simp) rfl)];refine Eq.mpr (if_pos (by rfl)) ?_;have q1:(9223372036854775807<bf3.length+T.length)=False:=eq_false (by have:=HLN2.out;omega);have hap:(⟨bf3.toArray⟩:ByteArray)++⟨T.toArray⟩=⟨BT.toArray⟩:=(by rw [← HBT.out];exact app_str bf3 T);go_wp2_with fail;exact hK (fun jj=>if jj=59 then sV BT else if jj=55 then sV bf3 else if jj=58 then sV T else lx jj) _ ⟨E,f0,(fun _=>rfl),f2,f3,(fun _=>rfl),(fun _=>rfl),f6,f7,f8,f9⟩
    | 6,ho,hL,haf,hK =>
     cases ho
     (try dsimp only)
     refine Eq.mpr (if_pos (by rfl)) ?_;go_wp2_with fail;exact hK (fun jj=>if jj=60 then .pointer (some ⟨bA,2,none⟩) else lx jj) _ ⟨E,f0,f1,f2,f3,f4,f5,(fun _=>rfl),f7,f8,f9⟩
    | 7,ho,hL,haf,hK =>
     cases ho
     (try dsimp only)
     rw [f6 (haf ⟨6,.data⟩ (by simp) rfl)];refine Eq.mpr (if_pos (by rfl)) ?_;have c:=vC9 (HVA.out.later E);go_wp2_with fail;exact hK (fun jj=>if jj=61 then sV af3 else if jj=60 then .pointer (some ⟨bA,2,none⟩) else lx jj) _ ⟨E,f0,f1,f2,f3,f4,f5,(fun _=>rfl),(fun _=>rfl),f8,f9⟩
    | 8,ho,hL,haf,hK =>
     cases ho
     (try dsimp only)
     rw [f5 (haf ⟨5,.data⟩ (by simp) rfl),f7 (haf ⟨7,.data⟩ (by simp) rfl)];refine Eq.mpr (if_pos (by rfl)) ?_;have hbl:BT.length≤1400:=HBL.out;have q1:(9223372036854775807<BT.length+af3.length)=False:=eq_false (by have:=HLN2.out;omega);have hap:(⟨BT.toArray⟩:ByteArray)++⟨af3.toArray⟩=⟨A.toArray⟩:=HAP.out;clear hbl;go_wp2_with fail;exact hK (fun jj=>if jj=62 then sV A else if jj=59 then sV BT else if jj=61 then sV af3 else lx jj) _ ⟨E,f0,f1,f2,f3,f4,(fun _=>rfl),f6,(fun _=>rfl),(fun _=>rfl),f9⟩
    | 9,ho,hL,haf,hK =>
     cases ho
     (try dsimp only)
     rw [f8 (haf ⟨8,.data⟩ (by simp) rfl)];refine Eq.mpr (if_pos (by rfl)) ?_;go_wp2_with fail;exact hK (fun jj=>if jj=4 then sV A else if jj=62 then sV A else lx jj) _ ⟨E,f0,f1,f2,f3,f4,f5,f6,f7,(fun _=>rfl),(fun _=>rfl)⟩
    | k+10,ho,_,_,_=>simp at ho
   ·intro L lx w9 hall hI;obtain ⟨E,f0,f1,f2,f3,f4,f5,f6,f7,f8,f9⟩:=hI.out
    (try dsimp only)
    rw [f9 (hall 9 (by simp)),f0 (hall 0 (by simp)),f1 (hall 1 (by simp)),f2 (hall 2 (by simp)),f3 (hall 3 (by simp)),f4 (hall 4 (by simp)),f5 (hall 5 (by simp)),f6 (hall 6 (by simp)),f7 (hall 7 (by simp)),f8 (hall 8 (by simp))];clear hI hall f0 f1 f2 f3 f4 f5 f6 f7 f8 f9;go_wp2_with fail;go_ret;exact ⟨rfl,xt X9 E⟩
set_option maxRecDepth 8000 in
set_option maxHeartbeats 4000000 in
theorem lawShowBy (RP:RepC) (k:Int) (n:Bool) (d x:Int) (t c:BLs) (w:World) (hl:t.length≤9223372036854775807) (d1 : -9223372036854775808≤d) (d2:d≤9223372036854775807) (hT:Tens w) (hE:ErrTab w) (IT:ItoaC w) (hM:Months w) (hC:Cals w) (TK:TabK w) :
  Calls Tryz.prog 4 #[valV k n d x t,sV c] w fun e w'=>e=.returned (.bool true)∧Ext w w':=by
 have B:=vec_made w (valL k n d x t) 40;have X0:=x1 w (.cells #[.int .i64 k,.bool n,.int .i64 d,.int .i64 x,sV t] 40);obtain ⟨cl,hcl⟩:∃ cl,c.length=cl:=⟨_,rfl⟩;have HCL:=hid hcl;by_cases hb:1048576<cl
 ·have i1:(1048576:Int)<(cl:Int):=by omega
  clear B hT hE hl d1 d2 IT hM hC TK RP hb;go_enter Tryz.func4,Tryz.ntmps4;go_wp2_with fail;go_ret;exact ⟨rfl,X0⟩
 ·have i1:¬ (1048576:Int)<(cl:Int):=by omega
  have hcl2:Hid (c.length≤100000000):=by show _≤_;omega
  clear hb;go_enter Tryz.func4,Tryz.ntmps4;go_wp2_with fail;refine (szValue k n d x t 1048576 _ (by omega) (by omega) (by omega)).mono ?_;rintro e w1 ⟨rfl,e1⟩;have X1:=xt X0 e1;by_cases hs:(1048576:Int)<t.length
  ·rw [if_pos hs];clear B hT hE hl d1 d2 IT hM hC TK RP;go_wp2_with fail;go_ret;exact ⟨rfl,X1⟩
  ·rw [if_neg hs];have hl2:t.length≤2000000:=by omega
   obtain ⟨z,hz⟩:∃ z:Int,(1048576:Int) - t.length=z:=⟨_,rfl⟩;have hz0:0≤z:=by omega
   rw [hz];clear hz hs hl;have B1:=B.later e1;have a0:=vC5 B1;go_wp2_with fail;clear a0;refine (toValue k n d x t _).mono ?_;rintro e w2 ⟨rfl,e2⟩;go_wp2_with fail;refine (showByS k n d x t c _ hl2 hcl2.out).mono ?_;rintro e w3 ⟨rfl,e3⟩;have B3:=(B1.later e2).later e3;have X3:=xt (xt X1 e2) e3;obtain ⟨u,hu⟩:∃ u,showByT k n d x t c=u:=⟨_,rfl⟩;have HV:Hid (showByT k n d x t c=u):=hu;rw [hu];clear hu;have a0:=vC5 B3;go_wp2_with fail;clear a0;refine (toValue k n d x t _).mono ?_;rintro e w4 ⟨rfl,e4⟩;have X4:=xt X3 e4;go_wp2_with fail;refine (showByI RP k n d x t c _ hl2 hcl2.out d1 d2 (hT.later X4) (hE.later X4) (fun z W' z0 z1 X'=>IT z W' z0 z1 (xt X4 X')) (hM.later X4) (hC.later X4) (TK.later X4)).mono ?_;rintro e w5 ⟨rfl,e5⟩;rw [HV.out];have X5:=xt X4 e5;have hp:(u == u)=true:=by simp
   clear B B1 B3 hT hE IT hM hC TK e1 e2 e3 e4 e5 HV;go_wp2_with fail;go_ret;exact ⟨rfl,X5⟩
end Go.Proofs.YtjlojlgdkfpcdaaGreatDoor

