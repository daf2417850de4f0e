import Derived.RangeFuncBox
import Derived.RangeFuncWrites
import Derived.Maps.OwnIn
import Derived.Test.YteliaeejooekbaaGreatDoorBxn
import Derived.Test.YteliaeejooekbaaGreatDoorMg34
import Derived.Test.YteliaeejooekbaaGreatDoorMg35
import Derived.Test.YteliaeejooekbaaGreatDoorGs8
import Derived.Test.YteliaeejooekbaaGreatDoorMg15
set_option maxRecDepth 100000
set_option maxHeartbeats 16000000
namespace Go.Proofs.YteliaeejooekbaaGreatDoor
open Go.RowKit Go.Shelf
attribute [local go_sem] Oper.semAt_some
theorem addrsR (p:Option Addr) (n cap:Nat) (w:World) :
  Calls Tryz.prog 60 #[.slice p n cap] w fun e w'=>e=.returned (.func (.func 84) #[] #[.pointer (some ⟨w.heap.size,0,none⟩)])/\w'=w.alloc (.cells #[.slice p n cap] 32):=by
 go_enter Tryz.func60,Tryz.ntmps60;go_wp2_with fail;go_ret;exact ⟨rfl,rfl⟩
theorem zJ3 {W W':World} (E:Ext W W'):KeepsOthers W W':=
 ⟨E.size,fun k o hk _=>(E.block k (by rcases Nat.lt_or_ge k W.heap.size with h | h;exact h;rw [Array.getElem?_eq_none h] at hk;cases hk)).trans hk⟩
theorem zM0 {kk:Int} (h:kk=5\/kk=6) (a:AT):zAF kk [] false 0 0 a.r a.c a.f a.g a.r2 a.c2 a.f2 a.g2 0=(zDN kk a).cells:=by
 rcases h with rfl | rfl <;> rfl
def TellsI (T:AT->Option AT) (gf Bc:Nat) (f:List NT) (w:World):Prop:=
 ∀ x ∈ f,x.good=true->(x.k=5\/x.k=6)->∀ W,Ext w W->Calls Tryz.prog gf #[x.at.val,.pointer (some ⟨Bc,0,none⟩)] W fun e w'=>(∃ a:AT,e=.returned (.tuple #[a.val,.bool (T x.at).isSome])/\∀ z,T x.at=some z->a=z)/\Ext W w'
theorem zHJ (T:AT->Option AT) (gf Bc:Nat) (v:Value) (f:List NT) (w:World) (h:zAI w v f) (hr:∀ x ∈ f,x.fits) (hl:f.length<=1048576) (hT:Tens w) (hE:zBC w) (hO:zC1 w) (LW:LibW w) (IT:zC2 w)
  (HF:TellsI T gf Bc f w) (eg:∀ args w,(callFunc gf args).run Tryz.prog w=.ok (.enter gf args) w) :
  Calls Tryz.prog 35 #[v,.func (.func gf) #[] #[.pointer (some ⟨Bc,0,none⟩)]] w fun e w'=>zB2 (rwR T f) w e w':=by
 by_cases hg:zAS NT.good f=true
 ·have hlen:1<=f.length/\f.length<=300:=by
   rcases Nat.lt_or_ge 300 f.length with h' | h'
   ·rw [zBV (Or.inr h')] at hg;cases hg
   ·rcases Nat.eq_zero_or_pos f.length with h0 | h0
    ·rw [zBV (Or.inl h0)] at hg;cases hg
    ·exact ⟨h0,h'⟩
  have hgd:=zEK hg;have hur:rwR T f=f.map (rwN T):=by unfold rwR;rw [if_pos hg]
  rw [hur];have HNI:Hid (zAI _ _ _):=h;obtain ⟨p,cap,rfl,hc,hrow⟩:=h;obtain ⟨b,o,rfl,RN⟩:=hrow (by omega);have XA:Ext w (((w.alloc (.cells #[.slice (some ⟨b,o,none⟩) f.length cap] 32)).alloc (.cells #[.func (.func gf) #[] #[.pointer (some ⟨Bc,0,none⟩)]] 69))):=xa (x1 _ _) _;have C0:=zS9 _ f _ (HNI.out.l XA) hr hl (hT.l XA) (hE.l XA) (hO.l XA) (LW.l XA) (IT.laterG XA);rw [zGX zMF,hg] at C0;have cF:((w.alloc (.cells #[.slice (some ⟨b,o,none⟩) f.length cap] 32)).alloc (.cells #[.func (.func gf) #[] #[.pointer (some ⟨Bc,0,none⟩)]] 69)).cell? ⟨w.heap.size,0,none⟩=some (.slice (some ⟨b,o,none⟩) f.length cap):=cell_later (x1 _ _) (zA4 w [.slice (some ⟨b,o,none⟩) f.length cap] 32 0 _ rfl).1;have cG:((w.alloc (.cells #[.slice (some ⟨b,o,none⟩) f.length cap] 32)).alloc (.cells #[.func (.func gf) #[] #[.pointer (some ⟨Bc,0,none⟩)]] 69)).cell? ⟨w.heap.size+1,0,none⟩=some (.func (.func gf) #[] #[.pointer (some ⟨Bc,0,none⟩)]):=by
   have:=(zA4 (w.alloc (.cells #[.slice (some ⟨b,o,none⟩) f.length cap] 32)) [.func (.func gf) #[] #[.pointer (some ⟨Bc,0,none⟩)]] 69 0 _ rfl).1;rw [World.size_alloc] at this;exact this
  have hszA:((w.alloc (.cells #[.slice (some ⟨b,o,none⟩) f.length cap] 32)).alloc (.cells #[.func (.func gf) #[] #[.pointer (some ⟨Bc,0,none⟩)]] 69)).heap.size=w.heap.size+2:=by simp
  obtain ⟨n,hn⟩:=nm (f.length);have HN:Hid _:=hn;rw [hn] at hc hlen C0 XA cF cG hszA HNI ⊢;obtain ⟨wa,hwa⟩:=nm ((w.alloc (.cells #[.slice (some ⟨b,o,none⟩) n cap] 32)).alloc (.cells #[.func (.func gf) #[] #[.pointer (some ⟨Bc,0,none⟩)]] 69));have HWA:Hid _:=hwa;have cF0:=cF;have HGD:Hid _:=hgd;have HRN:Hid _:=RN;rw [hwa] at XA C0 cF hszA;have HC0:Hid _:=C0;have cG0:wa.cell? ⟨w.heap.size+1,0,none⟩=some (.func (.func gf) #[] #[.pointer (some ⟨Bc,0,none⟩)]):=by rw [<- hwa];exact cG
  have HCL:Hid (∀ W,Ext w W->Calls Tryz.prog 59 #[.slice (some ⟨b,o,none⟩) n cap] W fun e w'=>∃ g c,e=.returned (.slice (some ⟨g,0,none⟩) n c)/\zBA w' W.heap.size (.slice (some ⟨g,0,none⟩) n c) f/\Ext W w'):=fun W X=>zUR b o n cap f W (RN.l X) HN.out hc (by omega);clear hn hur RN C0 hr hl hT hE hO LW IT hg hgd hrow hwa cG;refine (callsIn_wide (n:=5)).1 ?_;refine callsIn_of_wp_marks Tryz.func35 rfl trivial ?_ rfl;simp only [Tryz.ntmps35,List.size_toArray,List.length_cons,List.length_nil,Nat.reduceAdd,Nat.reduceSub,Array.replicate_succ,Array.replicate_zero,List.push_toArray,List.append_toArray,List.nil_append,List.cons_append]
  gi_wp2_with (refine ⟨trivial,?_⟩;first | (gi_at_call 58;rw [HWA.out];refine (callsIn_wide.2 HC0.out).mono ?_;rintro e w1 ⟨rfl,e1⟩;have X1:=xt XA e1;have cF1:=cell_later e1 cF) | (gi_at_call 59;refine (callsIn_wide.2 (HCL.out w1 X1)).mono ?_;rintro e w2 ⟨g,c,rfl,O2,e2⟩;have cF2:=cell_later (xa e2 (.cells #[.slice (some ⟨g,0,none⟩) n c] 32)) cF1) | (gi_at_call 60;refine (callsIn_wide.2 (addrsR _ n cap _)).mono ?_;rintro e w3 ⟨rfl,rfl⟩))
  obtain ⟨g9,NB,hgb⟩:=zF5 O2;have hg9:g=g9/\Vec w2 g (f.flatMap NT.cells):=by
   obtain ⟨_,p9,c9,e9,_,h9⟩:=NB;obtain ⟨h8,h7⟩:=h9 (by rw [HN.out];omega);cases e9;cases h8;exact ⟨rfl,h7⟩
  obtain ⟨rfl,V2⟩:=hg9;have hgb:=hgb (by rw [HN.out];omega);have hnc:n<=c:=by obtain ⟨z1,z2,z3,z4⟩:=zAR O2;rw [HN.out] at z3 z4;cases z3;exact z4
  clear NB O2;have bO:BoxN ((w2.alloc (.cells #[.slice (some ⟨g,0,none⟩) n c] 32)).alloc (.cells #[.slice (some ⟨b,o,none⟩) n cap] 32)) w2.heap.size 32 [.slice (some ⟨g,0,none⟩) n c]:=(BoxN.new w2 32 [.slice (some ⟨g,0,none⟩) n c]).alloc _;have hB0:Below w1.heap.size w1 ((w2.alloc (.cells #[.slice (some ⟨g,0,none⟩) n c] 32)).alloc (.cells #[.slice (some ⟨b,o,none⟩) n cap] 32)):=(Below.alloc e2 e2.size _).alloc (by simp;have:=e2.size;omega) _;have V0:Vec ((w2.alloc (.cells #[.slice (some ⟨g,0,none⟩) n c] 32)).alloc (.cells #[.slice (some ⟨b,o,none⟩) n cap] 32)) g (f.flatMap NT.cells):=V2.l (xa (x1 _ _) _);have cS:((w2.alloc (.cells #[.slice (some ⟨g,0,none⟩) n c] 32)).alloc (.cells #[.slice (some ⟨b,o,none⟩) n cap] 32)).cell? ⟨w2.heap.size+1,0,none⟩=some (.slice (some ⟨b,o,none⟩) n cap):=by
   have:=(zA4 (w2.alloc (.cells #[.slice (some ⟨g,0,none⟩) n c] 32)) [.slice (some ⟨b,o,none⟩) n cap] 32 0 _ rfl).1;rw [World.size_alloc] at this;exact this
  have hsz:((w2.alloc (.cells #[.slice (some ⟨g,0,none⟩) n c] 32)).alloc (.cells #[.slice (some ⟨b,o,none⟩) n cap] 32)).heap.size=w2.heap.size+2:=by simp
  have hs2:=e2.size;have hs1:=e1.size;obtain ⟨W0,hW0⟩:=nm ((w2.alloc (.cells #[.slice (some ⟨g,0,none⟩) n c] 32)).alloc (.cells #[.slice (some ⟨b,o,none⟩) n cap] 32));change (Code.rangeFunc _ _ _ _).wpIn _ _ _ _ _ ((w2.alloc (.cells #[.slice (some ⟨g,0,none⟩) n c] 32)).alloc (.cells #[.slice (some ⟨b,o,none⟩) n cap] 32));rw [hW0] at bO hB0 cS hsz V0 ⊢;clear hW0;have hNB:zCW w1.heap.size W0 (.slice (some ⟨b,o,none⟩) n cap) f:=((HNI.out.l X1).below).below hB0;have HX1:Hid _:=X1;have HCG:Hid (∀ W,Below w1.heap.size w1 W->W.cell? ⟨w.heap.size+1,0,none⟩=some (.func (.func gf) #[] #[.pointer (some ⟨Bc,0,none⟩)])):=fun W hB=>(hB.cell (p:=⟨w.heap.size+1,0,none⟩) (by show w.heap.size+1<_;omega)).trans (cell_later e1 cG0);have HCF:Hid (∀ W,Below w1.heap.size w1 W->W.cell? ⟨w.heap.size,0,none⟩=some (.slice (some ⟨b,o,none⟩) n cap)):=fun W hB=>(hB.cell (p:=⟨w.heap.size,0,none⟩) (by show w.heap.size<_;omega)).trans cF1;have hbw:b<w1.heap.size:=by
   obtain ⟨x0,hx0⟩:∃ x,f[0]?=some x:=⟨_,List.getElem?_eq_getElem (by rw [HN.out];omega)⟩;exact World.block_lt_of_cell? _ _ (cell_later X1 (HRN.out 0 x0 hx0 0 _ rfl))
  have HRB:Hid (∀ W,Below w1.heap.size w1 W->RowN W b o f):=fun W hB=>(RowN.l HRN.out X1).below hbw hB;clear HC0 HCL HNI HRN XA cF cG0 cF0 cF1 cF2 e1 X1 HWA;refine wpIn_rangeFunc_ownH (α:=YA f) rfl (by omega) (gf:=84) (lb:=#[.pointer (some ⟨w2.heap.size+1,0,none⟩)]) rfl trivial (enters_of Tryz.func84 (by kernel_rfl) rfl)
   (zMS Fence.wide (5 - 1) trivial rfl (by omega) (w2.heap.size+1) w1.heap.size (.slice (some ⟨b,o,none⟩) n cap) f (by rw [HN.out];omega) W0 (by omega) (by omega) cS hNB) belowK_t (belowK_b (by omega)) (Below.refl _ _) (fun _=>rfl)
   (fun pre W=>(BoxN W w2.heap.size 32 [.slice (some ⟨g,0,none⟩) n c]/\Vec W g ((rwP T pre).flatMap NT.cells))/\Below w1.heap.size w1 W)
   (fun _ _ _=>False)
   (OwnFrom.and (OwnFrom.and (Own.from (zLN w2.heap.size 32 (fun _:List (YA f)=>[.slice (some ⟨g,0,none⟩) n c])) _) (Own.from (zMW g (fun pre:List (YA f)=>(rwP T pre).flatMap NT.cells)) _)) (ownFrom_below (Nat.le_refl _) (by omega)))
   (fun _ _ _ _ _ hs _ _=>hs)
   ⟨⟨bO,V0⟩,hB0⟩
   (fun y a' W=>∃ Bx,BoxN W Bx 43 [iQ y.x.r,iQ y.x.c,.bool y.x.f,.bool y.x.g,iQ y.x.er,iQ y.x.ec,.bool y.x.ef,.bool y.x.eg]/\a'={ tmps:=#[.slice (some ⟨b,o,none⟩) n cap,.func (.func gf) #[] #[.pointer (some ⟨Bc,0,none⟩)],.pointer (some ⟨w.heap.size,0,none⟩),.pointer (some ⟨w.heap.size+1,0,none⟩),.slice none 0 0,.pointer (some ⟨w2.heap.size,0,none⟩),.int .i64 (y.i:Int),.pointer (some ⟨Bx,0,none⟩),undef,undef,.slice (some ⟨b,o,none⟩) n cap,.bool true,.bool false,.slice (some ⟨b,o,none⟩) n cap,.slice (some ⟨g,0,none⟩) n c,.slice (some ⟨b,o,none⟩) n cap,.func (.func 84) #[] #[.pointer (some ⟨w2.heap.size+1,0,none⟩)],.int .i64 (y.i:Int),.agg #[.int .i64 y.x.r,.int .i64 y.x.c,.bool y.x.f,.bool y.x.g,.int .i64 y.x.er,.int .i64 y.x.ec,.bool y.x.ef,.bool y.x.eg],undef,undef,undef,undef,undef,undef,undef,undef,undef,undef,undef,undef,undef,undef,undef,undef,undef,undef,undef,undef,undef,undef,undef,undef,undef,undef,undef],defers:=[] })
   (fun y a' _ X Y row hs hg hr=>by obtain ⟨Bx,h2,h3⟩:=hs;exact ⟨Bx,zLN Bx 43 (fun (_:Unit)=>[iQ y.x.r,iQ y.x.c,.bool y.x.f,.bool y.x.g,iQ y.x.er,iQ y.x.ec,.bool y.x.ef,.bool y.x.eg]) () X Y row h2 hg (fun r e=>(hr r e).2),h3⟩)
   ?assign ?body ?done ?stop
  case assign =>
   rintro l' pre y W K ⟨⟨bO1,V1⟩,hB1⟩ hK;have hKK:=hK { tmps:=#[.slice (some ⟨b,o,none⟩) n cap,.func (.func gf) #[] #[.pointer (some ⟨Bc,0,none⟩)],.pointer (some ⟨w.heap.size,0,none⟩),.pointer (some ⟨w.heap.size+1,0,none⟩),.slice none 0 0,.pointer (some ⟨w2.heap.size,0,none⟩),.int .i64 (y.i:Int),.pointer (some ⟨W.heap.size,0,none⟩),undef,undef,.slice (some ⟨b,o,none⟩) n cap,.bool true,.bool false,.slice (some ⟨b,o,none⟩) n cap,.slice (some ⟨g,0,none⟩) n c,.slice (some ⟨b,o,none⟩) n cap,.func (.func 84) #[] #[.pointer (some ⟨w2.heap.size+1,0,none⟩)],.int .i64 (y.i:Int),.agg #[.int .i64 y.x.r,.int .i64 y.x.c,.bool y.x.f,.bool y.x.g,.int .i64 y.x.er,.int .i64 y.x.ec,.bool y.x.ef,.bool y.x.eg],undef,undef,undef,undef,undef,undef,undef,undef,undef,undef,undef,undef,undef,undef,undef,undef,undef,undef,undef,undef,undef,undef,undef,undef,undef,undef,undef],defers:=[] } (W.alloc (.cells #[iQ y.x.r,iQ y.x.c,.bool y.x.f,.bool y.x.g,iQ y.x.er,iQ y.x.ec,.bool y.x.ef,.bool y.x.eg] 43))
    ((KeepsOthers.alloc _ _).from _) ((Below.refl _ W).alloc hB1.size _) ⟨⟨bO1.alloc _,V1.l (x1 _ _)⟩,hB1.alloc hB1.size _⟩ ⟨W.heap.size,BoxN.new W 43 [iQ y.x.r,iQ y.x.c,.bool y.x.f,.bool y.x.g,iQ y.x.er,iQ y.x.ec,.bool y.x.ef,.bool y.x.eg],rfl⟩
   clear hK;unfold encY
   gi_wp2
   exact hKK
  case body =>
   rintro l' pre y a' W hl' ⟨r,hr⟩ ⟨⟨bO1,V1⟩,hB1⟩ ⟨Bx,bX,rfl⟩ hlt;have hmem:=List.mem_of_getElem? y.hx;have hiy:y.i<n:=by have:=(List.getElem?_eq_some_iff.1 y.hx).1;rw [HN.out] at this;exact this
   have CT0:=HF y.x hmem (HGD.out y.x hmem) y.hk;have HQ:Hid (rwP T (pre++[y])=(rwP T pre).set y.i (rwN T y.x)):=zKZ T pre y;have HRX:Hid (rwN T y.x=zE4 y.x.k (T y.x.at)):=by show _=_;unfold rwN;rw [if_pos y.hk]
   have cK:W.cell? ⟨b,o+y.i * 14,none⟩=some (iQ y.x.k):=HRB.out W hB1 y.i y.x y.hx 0 _ rfl;have HLL:Hid ((rwP T pre).length=n):=by show _=_;rw [zSW,HN.out]
   obtain ⟨TT,hTT⟩:=nm (T y.x.at);rw [hTT] at CT0 HRX;have CT1:∀ W,Ext w W->Calls Tryz.prog gf #[.agg #[iQ y.x.r,iQ y.x.c,.bool y.x.f,.bool y.x.g,iQ y.x.er,iQ y.x.ec,.bool y.x.ef,.bool y.x.eg],.pointer (some ⟨Bc,0,none⟩)] W fun e w'=>(∃ a:AT,e=.returned (.tuple #[a.val,.bool TT.isSome])/\∀ z,TT=some z->a=z)/\Ext W w':=CT0;have HCT:Hid _:=CT1;clear CT0 CT1 hTT hmem;obtain ⟨LL,hL⟩:=nm (rwP T pre);rw [hL] at V1 HQ HLL;clear hL hlt;obtain ⟨yi,yx,yhx,yhk⟩:=y;dsimp only at HQ HRX HCT cK bX hiy ⊢;generalize yx.er=r2 at HCT bX ⊢;generalize yx.ec=c2 at HCT bX ⊢;generalize yx.ef=f2 at HCT bX ⊢;generalize yx.eg=g2 at HCT bX ⊢;generalize yx.r=r1 at HCT bX ⊢;generalize yx.c=c1 at HCT bX ⊢;generalize yx.f=f1 at HCT bX ⊢;generalize yx.g=g1 at HCT bX ⊢;obtain ⟨kk,hkk⟩:=nm (yx.k);rw [hkk] at HRX cK;have HKK:Hid (kk=5\/kk=6):=by rw [<- hkk];exact yhk
   clear hkk;have XW:Ext w W:=Below.trans HX1.out (hB1.mono HX1.out.size);have hBW:=hB1.size;have cV:=HCG.out W hB1;have HB1:Hid _:=hB1;have HBO:Hid _:=bO1;have HV1:Hid _:=V1;have k0:=vC8 bX.vec;have i1:(0:Int)<=(yi:Int):=by omega
   have i2:(yi:Int)<(n:Int):=by omega
   clear bX bO1 V1 hB1;cases TT with
   | none =>
    have HQ2:Hid ((rwP T (pre++[⟨yi,yx,yhx,yhk⟩]))=LL.set yi zB9):=(by show _=_;rw [HQ.out,HRX.out];rfl);have one:(#[iQ 4,.string ⟨#[35,82,69,70,33]⟩,.bool false,iQ 0,iQ 0,iQ 0,iQ 0,.bool false,.bool false,iQ 0,iQ 0,.bool false,.bool false,iQ 0]:Array Value).all (·.oneCell')=true:=by simp [Value.oneCell']
    gi_wp2_with (first
     | (refine ⟨trivial,?_⟩;refine (CallsIn.inRound l' (callsIn_wide.2 (HCT.out W XW))).mono ?_;rintro e w5 ⟨⟨⟨ar,ac,af,ag,ar2,ac2,af2,ag2⟩,rfl,_⟩,e5⟩;have X6:=x1 w5 (.cells #[iQ ar,iQ ac,.bool af,.bool ag,iQ ar2,iQ ac2,.bool af2,.bool ag2] 43);have E6:=xt e5 X6;have V6:=Vec.l HV1.out E6;have cO:=cell_later E6 (BoxN.vec HBO.out 0 _ rfl).1;have VT:(w5.alloc (.cells #[iQ ar,iQ ac,.bool af,.bool ag,iQ ar2,iQ ac2,.bool af2,.bool ag2] 43)).there g (yi * 14) 14:=zAD V6 (by rw [zB0,HLL.out];omega))
     | (refine zD4 rfl _ _ _ rfl g (yi * 14) #[iQ 4,.string ⟨#[35,82,69,70,33]⟩,.bool false,iQ 0,iQ 0,iQ 0,iQ 0,.bool false,.bool false,iQ 0,iQ 0,.bool false,.bool false,iQ 0] rfl rfl VT zBL one ?_))
    have hyL:yi<LL.length:=(by rw [HLL.out];exact hiy);have V7:=zA8 ([iQ 4,.string ⟨#[35,82,69,70,33]⟩,.bool false,iQ 0,iQ 0,iQ 0,iQ 0,.bool false,.bool false,iQ 0,iQ 0,.bool false,.bool false,iQ 0]:List Value) (yi * 14) _ _ V6 (by rw [zB0,HLL.out];show yi * 14+14<=_;omega);have V8:Vec ((w5.alloc (.cells #[iQ ar,iQ ac,.bool af,.bool ag,iQ ar2,iQ ac2,.bool af2,.bool ag2] 43)).setCells g (yi * 14) [iQ 4,.string ⟨#[35,82,69,70,33]⟩,.bool false,iQ 0,iQ 0,iQ 0,iQ 0,.bool false,.bool false,iQ 0,iQ 0,.bool false,.bool false,iQ 0]) g ((rwP T (pre++[⟨yi,yx,yhx,yhk⟩])).flatMap NT.cells):=by
     rw [HQ2.out,<- zHI LL yi zB9 hyL];exact V7
    have hB8:Below w1.heap.size w1 ((w5.alloc (.cells #[iQ ar,iQ ac,.bool af,.bool ag,iQ ar2,iQ ac2,.bool af2,.bool ag2] 43)).setCells g (yi * 14) [iQ 4,.string ⟨#[35,82,69,70,33]⟩,.bool false,iQ 0,iQ 0,iQ 0,iQ 0,.bool false,.bool false,iQ 0,iQ 0,.bool false,.bool false,iQ 0]):=zC6 (HB1.out.trans (E6.mono hBW)) hgb.1 (by have:=E6.size;omega);have hB9:Below w1.heap.size W ((w5.alloc (.cells #[iQ ar,iQ ac,.bool af,.bool ag,iQ ar2,iQ ac2,.bool af2,.bool ag2] 43)).setCells g (yi * 14) [iQ 4,.string ⟨#[35,82,69,70,33]⟩,.bool false,iQ 0,iQ 0,iQ 0,iQ 0,.bool false,.bool false,iQ 0,iQ 0,.bool false,.bool false,iQ 0]):=zC6 (E6.mono hBW) hgb.1 (by have:=E6.size;omega);have bO8:BoxN ((w5.alloc (.cells #[iQ ar,iQ ac,.bool af,.bool ag,iQ ar2,iQ ac2,.bool af2,.bool ag2] 43)).setCells g (yi * 14) [iQ 4,.string ⟨#[35,82,69,70,33]⟩,.bool false,iQ 0,iQ 0,iQ 0,iQ 0,.bool false,.bool false,iQ 0,iQ 0,.bool false,.bool false,iQ 0]) w2.heap.size 32 [.slice (some ⟨g,0,none⟩) n c]:=(BoxN.ext HBO.out E6).kept (zAL g _ _ _) (fun e=>by cases e;omega);exact ⟨((zJ3 E6).trans (zEQ V6 (by rw [zB0,HLL.out];omega))).from _,hB9,⟨⟨bO8,V8⟩,hB8⟩⟩
   | some z =>
    obtain ⟨ar,ac,af,ag,ar2,ac2,af2,ag2⟩:=z;have HQ2:Hid ((rwP T (pre++[⟨yi,yx,yhx,yhk⟩]))=LL.set yi (zDN kk ⟨ar,ac,af,ag,ar2,ac2,af2,ag2⟩)):=by show _=_;rw [HQ.out,HRX.out];rfl
    gi_wp2_with (first
     | (refine ⟨trivial,?_⟩;refine (CallsIn.inRound l' (callsIn_wide.2 (HCT.out W XW))).mono ?_;rintro e w5 ⟨⟨a5,rfl,ha5⟩,e5⟩;obtain rfl:=ha5 _ rfl;have X6:=x1 w5 (.cells #[iQ ar,iQ ac,.bool af,.bool ag,iQ ar2,iQ ac2,.bool af2,.bool ag2] 43);have E6:=xt e5 X6;have V6:=Vec.l HV1.out E6;have cO:=cell_later E6 (BoxN.vec HBO.out 0 _ rfl).1;have VT:(w5.alloc (.cells #[iQ ar,iQ ac,.bool af,.bool ag,iQ ar2,iQ ac2,.bool af2,.bool ag2] 43)).there g (yi * 14) 14:=zAD V6 (by rw [zB0,HLL.out];omega)))
    have bA:BoxN (w5.alloc (.cells #[iQ ar,iQ ac,.bool af,.bool ag,iQ ar2,iQ ac2,.bool af2,.bool ag2] 43)) w5.heap.size 43 [iQ ar,iQ ac,.bool af,.bool ag,iQ ar2,iQ ac2,.bool af2,.bool ag2]:=BoxN.new w5 43 [iQ ar,iQ ac,.bool af,.bool ag,iQ ar2,iQ ac2,.bool af2,.bool ag2];have cF6:(w5.alloc (.cells #[iQ ar,iQ ac,.bool af,.bool ag,iQ ar2,iQ ac2,.bool af2,.bool ag2] 43)).cell? ⟨w.heap.size,0,none⟩=some (.slice (some ⟨b,o,none⟩) n cap):=cell_later E6 (HCF.out W HB1.out);have cK6:(w5.alloc (.cells #[iQ ar,iQ ac,.bool af,.bool ag,iQ ar2,iQ ac2,.bool af2,.bool ag2] 43)).cell? ⟨b,o+yi * 14,none⟩=some (iQ kk):=cell_later E6 cK;have HNDC:Hid (∀ W,Calls Tryz.prog 61 #[.agg #[iQ kk,.string ⟨#[]⟩,.bool false,iQ 0,iQ 0,iQ ar,iQ ac,.bool af,.bool ag,iQ ar2,iQ ac2,.bool af2,.bool ag2,iQ 0]] W fun e w1=>e=.returned (.agg (zDN kk ⟨ar,ac,af,ag,ar2,ac2,af2,ag2⟩).cells.toArray)/\Ext W w1):=fun W=>(by rw [<- zM0 HKK.out ⟨ar,ac,af,ag,ar2,ac2,af2,ag2⟩];exact zBZ kk [] false 0 0 ar ac af ag ar2 ac2 af2 ag2 0 W);obtain ⟨wb,hwb⟩:=nm (w5.alloc (.cells #[iQ ar,iQ ac,.bool af,.bool ag,iQ ar2,iQ ac2,.bool af2,.bool ag2] 43));rw [hwb] at bA cF6 cK6 E6 V6 cO VT X6 ⊢;clear VT;refine zET (fun lx:Nat->Value=>{ tmps:=#[.slice (some ⟨b,o,none⟩) n cap,.func (.func gf) #[] #[.pointer (some ⟨Bc,0,none⟩)],.pointer (some ⟨w.heap.size,0,none⟩),.pointer (some ⟨w.heap.size+1,0,none⟩),.slice none 0 0,.pointer (some ⟨w2.heap.size,0,none⟩),.int .i64 (yi:Int),.pointer (some ⟨Bx,0,none⟩),.pointer (some ⟨w5.heap.size,0,none⟩),.bool true,.slice (some ⟨b,o,none⟩) n cap,.bool true,.bool false,.slice (some ⟨b,o,none⟩) n cap,.slice (some ⟨g,0,none⟩) n c,.slice (some ⟨b,o,none⟩) n cap,.func (.func 84) #[] #[.pointer (some ⟨w2.heap.size+1,0,none⟩)],.int .i64 (yi:Int),.agg #[.int .i64 r1,.int .i64 c1,.bool f1,.bool g1,.int .i64 r2,.int .i64 c2,.bool f2,.bool g2],.tuple #[(⟨ar,ac,af,ag,ar2,ac2,af2,ag2⟩:AT).val,.bool true],.func (.func gf) #[] #[.pointer (some ⟨Bc,0,none⟩)],.agg #[.int .i64 r1,.int .i64 c1,.bool f1,.bool g1,.int .i64 r2,.int .i64 c2,.bool f2,.bool g2],.tuple #[(⟨ar,ac,af,ag,ar2,ac2,af2,ag2⟩:AT).val,.bool true],(⟨ar,ac,af,ag,ar2,ac2,af2,ag2⟩:AT).val,.bool true,.bool true,.bool false,undef,undef,undef,undef,lx 31,lx 32,lx 33,lx 34,lx 35,lx 36,lx 37,lx 38,lx 39,lx 40,lx 41,lx 42,lx 43,lx 44,undef],defers:=[] }) (fun L lx lw=>Hid ((L 14=false->Ext wb lw)/\(L 14=true->∃ lv,Ext wb lv/\lw=lv.setCells g (yi * 14) (zDN kk ⟨ar,ac,af,ag,ar2,ac2,af2,ag2⟩).cells)/\(L 0=true->lx 31=.slice (some ⟨g,0,none⟩) n c)/\(L 1=true->lx 32=iQ (yi:Int))/\(L 2=true->lx 33=.slice (some ⟨b,o,none⟩) n cap)/\(L 3=true->lx 34=iQ (yi:Int))/\(L 4=true->lx 35=.pointer (some ⟨b,o+yi * 14,none⟩))/\(L 5=true->lx 36=.pointer (some ⟨b,o+yi * 14,none⟩))/\(L 6=true->lx 37=iQ kk)/\(L 7=true->lx 38=.pointer (some ⟨w5.heap.size,0,none⟩))/\(L 8=true->lx 39=.agg #[iQ ar,iQ ac,.bool af,.bool ag])/\(L 9=true->lx 40=.pointer (some ⟨w5.heap.size,4,none⟩))/\(L 10=true->lx 41=.agg #[iQ ar2,iQ ac2,.bool af2,.bool ag2])/\(L 11=true->lx 42=.agg #[iQ kk,.string ⟨#[]⟩,.bool false,iQ 0,iQ 0,iQ ar,iQ ac,.bool af,.bool ag,iQ ar2,iQ ac2,.bool af2,.bool ag2,iQ 0])/\(L 12=true->lx 43=.agg (zDN kk ⟨ar,ac,af,ag,ar2,ac2,af2,ag2⟩).cells.toArray)/\(L 13=true->lx 44=.pointer (some ⟨g,yi * 14,none⟩)))) rfl (by kernel_rfl) (by kernel_rfl) (fun _=>undef) rfl ?_ ?_ ?_
    ·exact ⟨fun _=>xd (xr _),(fun h=>by cases h),(fun h=>by cases h),(fun h=>by cases h),(fun h=>by cases h),(fun h=>by cases h),(fun h=>by cases h),(fun h=>by cases h),(fun h=>by cases h),(fun h=>by cases h),(fun h=>by cases h),(fun h=>by cases h),(fun h=>by cases h),(fun h=>by cases h),(fun h=>by cases h),(fun h=>by cases h)⟩
    ·intro L lx wl i op KK hKK ho hL haf hI hcl;obtain ⟨G0,G1,f0,f1,f2,f3,f4,f5,f6,f7,f8,f9,f10,f11,f12,f13⟩:=hI.out
     match i,ho,hL,haf,hKK with
     | 0,ho,hL,haf,hKK =>
      cases ho
      (try dsimp only)
      have h14:L 14=false:=hcl.bars [13,0] hL (by kernel_rfl) rfl;have X:=G0 h14;have c9:=cell_later X cO
      gi_wp2_with fail
      exact hKK (fun jj=>if jj=31 then .slice (some ⟨g,0,none⟩) n c else lx jj) _ ⟨fun _=>X,fun h=>absurd (h14.symm.trans h) (by decide),(fun _=>rfl),f1,f2,f3,f4,f5,f6,f7,f8,f9,f10,f11,f12,f13⟩
     | 1,ho,hL,haf,hKK =>
      cases ho
      (try dsimp only)
      have h14:L 14=false:=hcl.bars [13,1] hL (by kernel_rfl) rfl;have X:=G0 h14
      gi_wp2_with fail
      exact hKK (fun jj=>if jj=32 then iQ (yi:Int) else lx jj) _ ⟨fun _=>X,fun h=>absurd (h14.symm.trans h) (by decide),f0,(fun _=>rfl),f2,f3,f4,f5,f6,f7,f8,f9,f10,f11,f12,f13⟩
     | 2,ho,hL,haf,hKK =>
      cases ho
      (try dsimp only)
      have h14:L 14=false:=hcl.bars [12,11,6,5,4,2] hL (by kernel_rfl) rfl;have X:=G0 h14;have c9:=cell_later X cF6
      gi_wp2_with fail
      exact hKK (fun jj=>if jj=33 then .slice (some ⟨b,o,none⟩) n cap else lx jj) _ ⟨fun _=>X,fun h=>absurd (h14.symm.trans h) (by decide),f0,f1,(fun _=>rfl),f3,f4,f5,f6,f7,f8,f9,f10,f11,f12,f13⟩
     | 3,ho,hL,haf,hKK =>
      cases ho
      (try dsimp only)
      have h14:L 14=false:=hcl.bars [12,11,6,5,4,3] hL (by kernel_rfl) rfl;have X:=G0 h14
      gi_wp2_with fail
      exact hKK (fun jj=>if jj=34 then iQ (yi:Int) else lx jj) _ ⟨fun _=>X,fun h=>absurd (h14.symm.trans h) (by decide),f0,f1,f2,(fun _=>rfl),f4,f5,f6,f7,f8,f9,f10,f11,f12,f13⟩
     | 4,ho,hL,haf,hKK =>
      cases ho
      (try dsimp only)
      have h14:L 14=false:=hcl.bars [12,11,6,5,4] hL (by kernel_rfl) rfl;have X:=G0 h14;rw [f2 (haf ⟨2,.data⟩ (by simp) rfl),f3 (haf ⟨3,.data⟩ (by simp) rfl)]
      gi_wp2_with fail
      exact hKK (fun jj=>if jj=35 then .pointer (some ⟨b,o+yi * 14,none⟩) else if jj=33 then .slice (some ⟨b,o,none⟩) n cap else if jj=34 then iQ (yi:Int) else lx jj) _ ⟨fun _=>X,fun h=>absurd (h14.symm.trans h) (by decide),f0,f1,(fun _=>rfl),(fun _=>rfl),(fun _=>rfl),f5,f6,f7,f8,f9,f10,f11,f12,f13⟩
     | 5,ho,hL,haf,hKK =>
      cases ho
      (try dsimp only)
      have h14:L 14=false:=hcl.bars [12,11,6,5] hL (by kernel_rfl) rfl;have X:=G0 h14;rw [f4 (haf ⟨4,.data⟩ (by simp) rfl)]
      gi_wp2_with fail
      exact hKK (fun jj=>if jj=36 then .pointer (some ⟨b,o+yi * 14,none⟩) else if jj=35 then .pointer (some ⟨b,o+yi * 14,none⟩) else lx jj) _ ⟨fun _=>X,fun h=>absurd (h14.symm.trans h) (by decide),f0,f1,f2,f3,(fun _=>rfl),(fun _=>rfl),f6,f7,f8,f9,f10,f11,f12,f13⟩
     | 6,ho,hL,haf,hKK =>
      cases ho
      (try dsimp only)
      have h14:L 14=false:=hcl.bars [12,11,6] hL (by kernel_rfl) rfl;have X:=G0 h14;rw [f5 (haf ⟨5,.data⟩ (by simp) rfl)];have c9:=cell_later X cK6
      gi_wp2_with fail
      exact hKK (fun jj=>if jj=37 then iQ kk else if jj=36 then .pointer (some ⟨b,o+yi * 14,none⟩) else lx jj) _ ⟨fun _=>X,fun h=>absurd (h14.symm.trans h) (by decide),f0,f1,f2,f3,f4,(fun _=>rfl),(fun _=>rfl),f7,f8,f9,f10,f11,f12,f13⟩
     | 7,ho,hL,haf,hKK =>
      cases ho
      (try dsimp only)
      have h14:L 14=false:=hcl.bars [12,11,8,7] hL (by kernel_rfl) rfl;have X:=G0 h14
      gi_wp2_with fail
      exact hKK (fun jj=>if jj=38 then .pointer (some ⟨w5.heap.size,0,none⟩) else lx jj) _ ⟨fun _=>X,fun h=>absurd (h14.symm.trans h) (by decide),f0,f1,f2,f3,f4,f5,f6,(fun _=>rfl),f8,f9,f10,f11,f12,f13⟩
     | 8,ho,hL,haf,hKK =>
      cases ho
      (try dsimp only)
      have h14:L 14=false:=hcl.bars [12,11,8] hL (by kernel_rfl) rfl;have X:=G0 h14;rw [f7 (haf ⟨7,.data⟩ (by simp) rfl)];refine zDB rfl 26 (.tmp 38) rfl w5.heap.size 0 rfl [iQ ar,iQ ac,.bool af,.bool ag] _ (fun j v hv=>by have:=(bA.vec.l X j v (by rw [<- hv];match j,hv with | 0,_=>rfl | 1,_=>rfl | 2,_=>rfl | 3,_=>rfl)).1;rw [Nat.zero_add];exact this) Tryz.underlying26 rfl (by kernel_rfl) ?_
      gi_wp2_with fail
      exact hKK (fun jj=>if jj=39 then .agg #[iQ ar,iQ ac,.bool af,.bool ag] else if jj=38 then .pointer (some ⟨w5.heap.size,0,none⟩) else lx jj) _ ⟨fun _=>X,fun h=>absurd (h14.symm.trans h) (by decide),f0,f1,f2,f3,f4,f5,f6,(fun _=>rfl),(fun _=>rfl),f9,f10,f11,f12,f13⟩
     | 9,ho,hL,haf,hKK =>
      cases ho
      (try dsimp only)
      have h14:L 14=false:=hcl.bars [12,11,10,9] hL (by kernel_rfl) rfl;have X:=G0 h14
      gi_wp2_with fail
      exact hKK (fun jj=>if jj=40 then .pointer (some ⟨w5.heap.size,4,none⟩) else lx jj) _ ⟨fun _=>X,fun h=>absurd (h14.symm.trans h) (by decide),f0,f1,f2,f3,f4,f5,f6,f7,f8,(fun _=>rfl),f10,f11,f12,f13⟩
     | 10,ho,hL,haf,hKK =>
      cases ho
      (try dsimp only)
      have h14:L 14=false:=hcl.bars [12,11,10] hL (by kernel_rfl) rfl;have X:=G0 h14;rw [f9 (haf ⟨9,.data⟩ (by simp) rfl)];refine zDB rfl 26 (.tmp 40) rfl w5.heap.size 4 rfl [iQ ar2,iQ ac2,.bool af2,.bool ag2] _ (fun j v hv=>(bA.vec.l X (4+j) v (by rw [<- hv];match j,hv with | 0,_=>rfl | 1,_=>rfl | 2,_=>rfl | 3,_=>rfl)).1) Tryz.underlying26 rfl (by kernel_rfl) ?_
      gi_wp2_with fail
      exact hKK (fun jj=>if jj=41 then .agg #[iQ ar2,iQ ac2,.bool af2,.bool ag2] else if jj=40 then .pointer (some ⟨w5.heap.size,4,none⟩) else lx jj) _ ⟨fun _=>X,fun h=>absurd (h14.symm.trans h) (by decide),f0,f1,f2,f3,f4,f5,f6,f7,f8,(fun _=>rfl),(fun _=>rfl),f11,f12,f13⟩
     | 11,ho,hL,haf,hKK =>
      cases ho
      (try dsimp only)
      have h14:L 14=false:=hcl.bars [12,11] hL (by kernel_rfl) rfl;have X:=G0 h14;rw [f6 (haf ⟨6,.data⟩ (by simp) rfl),f8 (haf ⟨8,.data⟩ (by simp) rfl),f10 (haf ⟨10,.data⟩ (by simp) rfl)]
      gi_wp2_with fail
      exact hKK (fun jj=>if jj=42 then .agg #[iQ kk,.string ⟨#[]⟩,.bool false,iQ 0,iQ 0,iQ ar,iQ ac,.bool af,.bool ag,iQ ar2,iQ ac2,.bool af2,.bool ag2,iQ 0] else if jj=37 then iQ kk else if jj=39 then .agg #[iQ ar,iQ ac,.bool af,.bool ag] else if jj=41 then .agg #[iQ ar2,iQ ac2,.bool af2,.bool ag2] else lx jj) _ ⟨fun _=>X,fun h=>absurd (h14.symm.trans h) (by decide),f0,f1,f2,f3,f4,f5,(fun _=>rfl),f7,(fun _=>rfl),f9,(fun _=>rfl),(fun _=>rfl),f12,f13⟩
     | 12,ho,hL,haf,hKK =>
      cases ho
      (try dsimp only)
      have h14:L 14=false:=hcl.bars [12] hL (by kernel_rfl) rfl;have X:=G0 h14;rw [f11 (haf ⟨11,.data⟩ (by simp) rfl)]
      gi_wp2_with (refine ⟨trivial,?_⟩;gi_at_call 61;refine (CallsIn.inRound l' (callsIn_wide.2 (HNDC.out wl))).mono ?_;rintro e wm ⟨rfl,e9⟩)
      exact hKK (fun jj=>if jj=43 then .agg (zDN kk ⟨ar,ac,af,ag,ar2,ac2,af2,ag2⟩).cells.toArray else if jj=42 then .agg #[iQ kk,.string ⟨#[]⟩,.bool false,iQ 0,iQ 0,iQ ar,iQ ac,.bool af,.bool ag,iQ ar2,iQ ac2,.bool af2,.bool ag2,iQ 0] else lx jj) _ ⟨fun _=>(xt X e9),fun h=>absurd (h14.symm.trans h) (by decide),f0,f1,f2,f3,f4,f5,f6,f7,f8,f9,f10,(fun _=>rfl),(fun _=>rfl),f13⟩
     | 13,ho,hL,haf,hKK =>
      cases ho
      (try dsimp only)
      have h14:L 14=false:=hcl.bars [13] hL (by kernel_rfl) rfl;have X:=G0 h14;rw [f0 (haf ⟨0,.data⟩ (by simp) rfl),f1 (haf ⟨1,.data⟩ (by simp) rfl)]
      gi_wp2_with fail
      exact hKK (fun jj=>if jj=44 then .pointer (some ⟨g,yi * 14,none⟩) else if jj=31 then .slice (some ⟨g,0,none⟩) n c else if jj=32 then iQ (yi:Int) else lx jj) _ ⟨fun _=>X,fun h=>absurd (h14.symm.trans h) (by decide),(fun _=>rfl),(fun _=>rfl),f2,f3,f4,f5,f6,f7,f8,f9,f10,f11,f12,(fun _=>rfl)⟩
     | 14,ho,hL,haf,hKK =>
      cases ho
      (try dsimp only)
      have X:=G0 hL;rw [f13 (haf ⟨13,.data⟩ (by simp) rfl),f12 (haf ⟨12,.data⟩ (by simp) rfl)];refine zD4 rfl _ _ _ rfl g (yi * 14) (zDN kk ⟨ar,ac,af,ag,ar2,ac2,af2,ag2⟩).cells.toArray rfl rfl (zAD (V6.l X) (by rw [zB0,HLL.out];show yi * 14+14<=_;omega)) zBL (by simp [NT.cells,Value.oneCell',sV]) ?_
      gi_wp2_with fail
      exact hKK (fun jj=>if jj=43 then .agg (zDN kk ⟨ar,ac,af,ag,ar2,ac2,af2,ag2⟩).cells.toArray else if jj=44 then .pointer (some ⟨g,yi * 14,none⟩) else lx jj) _ ⟨(fun h=>by cases h),(fun _=>⟨wl,X,rfl⟩),f0,f1,f2,f3,f4,f5,f6,f7,f8,f9,f10,f11,(fun _=>rfl),(fun _=>rfl)⟩
     | n+15,ho,hL,haf,hKK=>cases ho
    ·intro L lx lw hall hI;obtain ⟨lv,X,rfl⟩:=hI.out.2.1 (hall 14 (by decide));have E7:=xt E6 X;have V6:=V6.l X;have hyL:yi<LL.length:=(by rw [HLL.out];exact hiy);have V7:=zA8 (zDN kk ⟨ar,ac,af,ag,ar2,ac2,af2,ag2⟩).cells (yi * 14) _ _ V6 (by rw [zB0,HLL.out];show yi * 14+14<=_;omega);have V8:Vec (lv.setCells g (yi * 14) (zDN kk ⟨ar,ac,af,ag,ar2,ac2,af2,ag2⟩).cells) g ((rwP T (pre++[⟨yi,yx,yhx,yhk⟩])).flatMap NT.cells):=by
      rw [HQ2.out,<- zHI LL yi (zDN kk ⟨ar,ac,af,ag,ar2,ac2,af2,ag2⟩) hyL];exact V7
     have hB8:Below w1.heap.size w1 (lv.setCells g (yi * 14) (zDN kk ⟨ar,ac,af,ag,ar2,ac2,af2,ag2⟩).cells):=zC6 (HB1.out.trans (E7.mono hBW)) hgb.1 (by have:=E7.size;omega);have hB9:Below w1.heap.size W (lv.setCells g (yi * 14) (zDN kk ⟨ar,ac,af,ag,ar2,ac2,af2,ag2⟩).cells):=zC6 (E7.mono hBW) hgb.1 (by have:=E7.size;omega);have bO8:BoxN (lv.setCells g (yi * 14) (zDN kk ⟨ar,ac,af,ag,ar2,ac2,af2,ag2⟩).cells) w2.heap.size 32 [.slice (some ⟨g,0,none⟩) n c]:=(BoxN.ext HBO.out E7).kept (zAL g _ _ _) (fun e=>by cases e;omega);exact ⟨((zJ3 E7).trans (zEQ V6 (by rw [zB0,HLL.out];omega))).from _,hB9,⟨⟨bO8,V8⟩,hB8⟩⟩
  case done =>
   rintro D ys W hD rfl ⟨⟨bO1,V1⟩,hB⟩ hK;have hc5:=(bO1.vec 0 _ rfl).1
   gi_wp2
   refine ⟨by simp,.inl ⟨_,_,rfl,run_takeDeferred hK,?_⟩⟩;have hX:Ext w (W.putObj D (.deferred none)):=Below.trans HX1.out ((hB.trans (belowK_b (w:=w1) (Nat.le_refl _) W D _ (.deferred none) (by omega) hK rfl rfl)).mono HX1.out.size);have V9:=zMW g (fun (_:Unit)=>(rwP T (adrT f f.length)).flatMap NT.cells) () W _ (some D) V1 (grownBy_putObj' W D (.deferred none)) (fun r e=>by cases e;exact ⟨_,hK,rfl⟩);have hl9:(f.map (rwN T)).length=n:=by rw [List.length_map,HN.out]
   dsimp only at V9;rw [zSX] at V9;have hgl:g<(W.putObj D (.deferred none)).heap.size:=by
    obtain ⟨u,hu⟩:∃ u,((f.map (rwN T)).flatMap NT.cells)[0]?=some u:=⟨_,List.getElem?_eq_getElem (by rw [zB0,hl9];omega)⟩;exact World.block_lt_of_cell? _ _ (V9 0 u hu).1
   have hNBf:zJR (W.putObj D (.deferred none)) (.slice (some ⟨g,0,none⟩) n c) (f.map (rwN T)).length ((f.map (rwN T)).flatMap NT.cells) g:=by
    refine ⟨zB0 _,some ⟨g,0,none⟩,c,?_,?_,fun _=>⟨rfl,V9⟩⟩
    ·rw [hl9]
    ·rw [hl9];exact hnc
   exact ⟨_,results_tmp rfl _ _ _,(.slice (some ⟨g,0,none⟩) n c),g,rfl,hNBf,fun _=>⟨by have:=HX1.out.size;omega,hgl⟩,hX⟩
  case stop =>
   rintro D c pre W _ _ h _;exact h.elim
 ·have hur:rwR T f=[]:=by unfold rwR;rw [if_neg hg]
  rw [hur];have hgf:zAS NT.good f=false:=by simpa using hg
  obtain ⟨p,cap,rfl,hc,hrow⟩:=id h;have XA:Ext w ((w.alloc (.cells #[.slice p f.length cap] 32)).alloc (.cells #[.func (.func gf) #[] #[.pointer (some ⟨Bc,0,none⟩)]] 69)):=xa (x1 _ _) _;have C0:=zS9 _ f _ (h.l XA) hr hl (hT.l XA) (hE.l XA) (hO.l XA) (LW.l XA) (IT.laterG XA);rw [zGX zMF,hgf] at C0;have cF:((w.alloc (.cells #[.slice p f.length cap] 32)).alloc (.cells #[.func (.func gf) #[] #[.pointer (some ⟨Bc,0,none⟩)]] 69)).cell? ⟨w.heap.size,0,none⟩=some (.slice p f.length cap):=cell_later (x1 _ _) (zA4 w [.slice p f.length cap] 32 0 _ rfl).1;obtain ⟨n,hn⟩:=nm (f.length);rw [hn] at C0 cF XA ⊢;clear hrow hc h hr hl hT hE hO LW IT HF hg hn hur hgf;go_enter Tryz.func35,Tryz.ntmps35;go_wp2_with (go_at_call 58;refine C0.mono ?_;rintro e w1 ⟨rfl,e1⟩);go_ret;exact ⟨.slice none 0 0,0,rfl,⟨rfl,none,0,rfl,Nat.le_refl _,fun h=>absurd h (by simp)⟩,fun h=>absurd h (by simp),xt XA e1⟩
end Go.Proofs.YteliaeejooekbaaGreatDoor
namespace Go.Proofs.YteliaeejooekbaaGreatDoor
open Go.RowKit
def tT (k a m:Int) (d:Bool) (x:AT):Option AT:=
 if zBB k a m d=true/\zAZ x.r x.c x.r2 x.c2=true then
  (if k=1 then (if stF 1000 a m d (lo x.r x.r2) (hi x.r x.r2)=0 then none
   else if x.r2<x.r then some ⟨stT 1000 a m d (lo x.r x.r2) (hi x.r x.r2),x.c,x.f,x.g,stF 1000 a m d (lo x.r x.r2) (hi x.r x.r2),x.c2,x.f2,x.g2⟩ else some ⟨stF 1000 a m d (lo x.r x.r2) (hi x.r x.r2),x.c,x.f,x.g,stT 1000 a m d (lo x.r x.r2) (hi x.r x.r2),x.c2,x.f2,x.g2⟩)
  else (if stF 200 a m d (lo x.c x.c2) (hi x.c x.c2)=0 then none
   else if x.c2<x.c then some ⟨x.r,stT 200 a m d (lo x.c x.c2) (hi x.c x.c2),x.f,x.g,x.r2,stF 200 a m d (lo x.c x.c2) (hi x.c x.c2),x.f2,x.g2⟩ else some ⟨x.r,stF 200 a m d (lo x.c x.c2) (hi x.c x.c2),x.f,x.g,x.r2,stT 200 a m d (lo x.c x.c2) (hi x.c x.c2),x.f2,x.g2⟩))
 else none
theorem zSS (k a m:Int) (d:Bool) (x:AT):∃ b:AT,taB k a m d x.r x.c x.f x.g x.r2 x.c2 x.f2 x.g2=.tuple #[b.val,.bool (tT k a m d x).isSome]/\(∀ z,tT k a m d x=some z->b=z)/\(tT k a m d x=none->b=⟨0,0,false,false,0,0,false,false⟩):=by
 unfold taB tT
 split
 ·split
  ·split
   ·exact ⟨⟨0,0,false,false,0,0,false,false⟩,rfl,(fun z h=>by cases h),fun _=>rfl⟩
   ·split
    ·exact ⟨_,rfl,(fun z h=>by cases h;rfl),fun h=>by cases h⟩
    ·exact ⟨_,rfl,(fun z h=>by cases h;rfl),fun h=>by cases h⟩
  ·split
   ·exact ⟨⟨0,0,false,false,0,0,false,false⟩,rfl,(fun z h=>by cases h),fun _=>rfl⟩
   ·split
    ·exact ⟨_,rfl,(fun z h=>by cases h;rfl),fun h=>by cases h⟩
    ·exact ⟨_,rfl,(fun z h=>by cases h;rfl),fun h=>by cases h⟩
 ·exact ⟨⟨0,0,false,false,0,0,false,false⟩,rfl,(fun z h=>by cases h),fun _=>rfl⟩
theorem tr_tT (k a m:Int) (d:Bool) (r c:Int) (f g:Bool):∃ n1 n2 n3 n4 q,trB k a m d r c f g=.tuple #[refV n1 n2 n3 n4,.bool q]/\(q=true->zE4 5 (tT k a m d ⟨r,c,f,g,r,c,f,g⟩)=⟨5,[],false,0,0,n1,n2,n3,n4,0,0,false,false,0⟩)/\(q=false->zE4 5 (tT k a m d ⟨r,c,f,g,r,c,f,g⟩)=zB9):=by
 obtain ⟨n1,n2,n3,n4,n5,n6,n7,n8,q,e1,e2⟩:=zV8 k a m d r c f g;obtain ⟨b,h1,h2,_⟩:=zSS k a m d ⟨r,c,f,g,r,c,f,g⟩;obtain ⟨b1,b2,b3,b4,b5,b6,b7,b8⟩:=b;have h3:=e1.symm.trans h1;simp only [Value.tuple.injEq,Array.mk.injEq,List.cons.injEq,Value.agg.injEq,Value.int.injEq,Value.bool.injEq,and_true,true_and] at h3;obtain ⟨⟨rfl,rfl,rfl,rfl,rfl,rfl,rfl,rfl⟩,hq⟩:=h3;refine ⟨_,_,_,_,q,e2,fun h=>?_,fun h=>?_⟩
 ·cases hT:tT k a m d ⟨r,c,f,g,r,c,f,g⟩ with
  | none=>rw [hT,h] at hq;cases hq
  | some z=>obtain rfl:=h2 z hT;rfl
 ·cases hT:tT k a m d ⟨r,c,f,g,r,c,f,g⟩ with
  | none=>rfl
  | some z=>rw [hT,h] at hq;cases hq
theorem ta_6 (k a m:Int) (d:Bool) (r c:Int) (f g:Bool) (r2 c2:Int) (f2 g2:Bool):∃ n1 n2 n3 n4 n5 n6 n7 n8 q,taB k a m d r c f g r2 c2 f2 g2=.tuple #[arV n1 n2 n3 n4 n5 n6 n7 n8,.bool q]/\(q=true->zE4 6 (tT k a m d ⟨r,c,f,g,r2,c2,f2,g2⟩)=⟨6,[],false,0,0,n1,n2,n3,n4,n5,n6,n7,n8,0⟩)/\(q=false->zE4 6 (tT k a m d ⟨r,c,f,g,r2,c2,f2,g2⟩)=zB9):=by
 obtain ⟨b,h1,h2,_⟩:=zSS k a m d ⟨r,c,f,g,r2,c2,f2,g2⟩;obtain ⟨b1,b2,b3,b4,b5,b6,b7,b8⟩:=b;refine ⟨_,_,_,_,_,_,_,_,_,h1,fun h=>?_,fun h=>?_⟩
 ·cases hT:tT k a m d ⟨r,c,f,g,r2,c2,f2,g2⟩ with
  | none=>rw [hT] at h;cases h
  | some z=>obtain rfl:=h2 z hT;rfl
 ·cases hT:tT k a m d ⟨r,c,f,g,r2,c2,f2,g2⟩ with
  | none=>rfl
  | some z=>rw [hT] at h;cases h
theorem zRA {x:NT} (h:x.good=true) (hk:x.k=5):∃ r c f g,x=⟨5,[],false,0,0,r,c,f,g,0,0,false,false,0⟩:=by
 obtain ⟨k,t,n,d,e,r,c,f,g,r2,c2,f2,g2,q⟩:=x;dsimp only at hk;subst hk;unfold NT.good zAB at h;simp at h;obtain ⟨⟨rfl,rfl,rfl,rfl,rfl,rfl,rfl,rfl,rfl⟩,_⟩:=h;exact ⟨_,_,_,_,rfl⟩
theorem zR9 {x:NT} (h:x.good=true) (hk:x.k=6):∃ r c f g r2 c2 f2 g2,x=⟨6,[],false,0,0,r,c,f,g,r2,c2,f2,g2,0⟩:=by
 obtain ⟨k,t,n,d,e,r,c,f,g,r2,c2,f2,g2,q⟩:=x;dsimp only at hk;subst hk;unfold NT.good zAB at h;simp at h;obtain ⟨⟨rfl,rfl,rfl,rfl,rfl⟩,_⟩:=h;exact ⟨_,_,_,_,_,_,_,_,rfl⟩
theorem hi8T:(Tryz.prog.info? 43).map (·.size)=some 8:=by kernel_rfl
theorem tellT (k a m:Int) (d:Bool) (Bc:Nat) (x:AT) (w:World) (V:Vec w Bc [iQ k,iQ a,iQ m,.bool d]) :
  Calls Tryz.prog 36 #[x.val,.pointer (some ⟨Bc,0,none⟩)] w fun e w'=>(∃ b:AT,e=.returned (.tuple #[b.val,.bool (tT k a m d x).isSome])/\∀ z,tT k a m d x=some z->b=z)/\Ext w w':=by
 obtain ⟨b,hb,hz,_⟩:=zSS k a m d x;have C:=fun w=>zSD k a m d x.r x.c x.f x.g x.r2 x.c2 x.f2 x.g2 w;rw [hb] at C;obtain ⟨r,c,f,g,r2,c2,f2,g2⟩:=x;dsimp only at C;obtain ⟨q,hq⟩:=nm ((tT k a m d ⟨r,c,f,g,r2,c2,f2,g2⟩).isSome);have HZ:Hid _:=hz;rw [hq] at C ⊢;obtain ⟨r',c',f',g',r2',c2',f2',g2'⟩:=b;clear hq hb hz;have XB:Ext w ((w.alloc (.cells #[iQ r,iQ c,.bool f,.bool g,iQ r2,iQ c2,.bool f2,.bool g2] 43)).alloc (.cells #[iQ 0,iQ 0,.bool false,.bool false,iQ 0,iQ 0,.bool false,.bool false] 43)):=xa (x1 _ _) _;have VL:=V.l XB;have VA:Vec ((w.alloc (.cells #[iQ r,iQ c,.bool f,.bool g,iQ r2,iQ c2,.bool f2,.bool g2] 43)).alloc (.cells #[iQ 0,iQ 0,.bool false,.bool false,iQ 0,iQ 0,.bool false,.bool false] 43)) w.heap.size [iQ r,iQ c,.bool f,.bool g,iQ r2,iQ c2,.bool f2,.bool g2]:=(zA4 w [iQ r,iQ c,.bool f,.bool g,iQ r2,iQ c2,.bool f2,.bool g2] 43).l (x1 _ _);have VZ:=zA4 (w.alloc (.cells #[iQ r,iQ c,.bool f,.bool g,iQ r2,iQ c2,.bool f2,.bool g2] 43)) [iQ 0,iQ 0,.bool false,.bool false,iQ 0,iQ 0,.bool false,.bool false] 43;change Vec ((w.alloc (.cells #[iQ r,iQ c,.bool f,.bool g,iQ r2,iQ c2,.bool f2,.bool g2] 43)).alloc (.cells #[iQ 0,iQ 0,.bool false,.bool false,iQ 0,iQ 0,.bool false,.bool false] 43)) _ _ at VZ;rw [World.size_alloc] at VZ;obtain ⟨l0,l1,l2,l3⟩:=vC4 VL;obtain ⟨q0,q1,q2,q3,q4,q5,q6,q7⟩:=vC8 VA;obtain ⟨wb,hwb⟩:=nm ((w.alloc (.cells #[iQ r,iQ c,.bool f,.bool g,iQ r2,iQ c2,.bool f2,.bool g2] 43)).alloc (.cells #[iQ 0,iQ 0,.bool false,.bool false,iQ 0,iQ 0,.bool false,.bool false] 43));have HWB:Hid _:=hwb;rw [hwb] at XB VZ l0 l1 l2 l3 q0 q1 q2 q3 q4 q5 q6 q7;have HC:Hid _:=C;have HVZ:Hid _:=VZ;clear V VL VA VZ C hwb;go_enter Tryz.func36,Tryz.ntmps36;go_upto_region 1 with fail;rw [HWB.out];go_wp2_with fail;refine (HC.out wb).mono ?_;rintro e w5 ⟨rfl,e5⟩;have V5:=Vec.l HVZ.out e5;have VT:w5.there (w.heap.size+1) 0 8:=zAD V5 (by simp);have VR:=World.rangeAt_setCells_same w5 (w.heap.size+1) 0 [iQ r',iQ c',.bool f',.bool g',iQ r2',iQ c2',.bool f2',.bool g2'] VT;have XR:=Ext.setCells (b:=w.heap.size+1) (by omega) [iQ r',iQ c',.bool f',.bool g',iQ r2',iQ c2',.bool f2',.bool g2'] 0 w5 (xt XB e5);have one:(#[iQ r',iQ c',.bool f',.bool g',iQ r2',iQ c2',.bool f2',.bool g2']:Array Value).all (·.oneCell')=true:=by simp [Value.oneCell']
 obtain ⟨w6,hw6⟩:=nm (w5.setCells (w.heap.size+1) 0 [iQ r',iQ c',.bool f',.bool g',iQ r2',iQ c2',.bool f2',.bool g2']);have HW6:Hid _:=hw6;rw [hw6] at VR XR;have z0:=zA0 VR (i:=0) rfl;have z1:=zA0 VR (i:=1) rfl;have z2:=zA0 VR (i:=2) rfl;have z3:=zA0 VR (i:=3) rfl;have z4:=zA0 VR (i:=4) rfl;have z5:=zA0 VR (i:=5) rfl;have z6:=zA0 VR (i:=6) rfl;have z7:=zA0 VR (i:=7) rfl;clear hw6 VR V5;go_wp2_with (refine wpList_store_mid rfl _ _ _ rfl (w.heap.size+1) 0 #[iQ r',iQ c',.bool f',.bool g',iQ r2',iQ c2',.bool f2',.bool g2'] rfl rfl VT hi8T one ?_;show wpList _ _ _ _ _ (w5.setCells (w.heap.size+1) 0 [iQ r',iQ c',.bool f',.bool g',iQ r2',iQ c2',.bool f2',.bool g2']);rw [HW6.out]);exact bodyPost_ret (v:=.tuple #[.agg #[iQ r',iQ c',.bool f',.bool g',iQ r2',iQ c2',.bool f2',.bool g2'],.bool q]) (by simp [results,Tryz.results36,go_sem,z0,z1,z2,z3,z4,z5,z6,z7]) rfl ⟨⟨⟨r',c',f',g',r2',c2',f2',g2'⟩,rfl,HZ.out⟩,XR⟩
noncomputable def zDC (k a m:Int) (d:Bool) (f:List NT):List NT:=if zBB k a m d=true then rwR (tT k a m d) f else []
theorem zB8 {w w':World} (x:Ext w w'):zB2 [] w (.returned (.slice none 0 0)) w':=⟨.slice none 0 0,0,rfl,⟨rfl,none,0,rfl,Nat.le_refl _,fun h=>absurd h (by simp)⟩,fun h=>absurd h (by simp),x⟩
theorem zB2.ext {l:List NT} {w w1 w2:World} {e:Ending} (h:zB2 l w1 e w2) (x:Ext w w1):zB2 l w e w2:=by
 obtain ⟨v,g,h1,h2,h3,h4⟩:=h;exact ⟨v,g,h1,h2,fun h=>⟨Nat.le_trans x.size (h3 h).1,(h3 h).2⟩,xt x h4⟩
theorem zV0 (k a m:Int) (d:Bool) (v:Value) (f:List NT) (w:World) (h:zAI w v f) (hr:∀ x ∈ f,x.fits) (hl:f.length<=1048576) (hT:Tens w) (hE:zBC w) (hO:zC1 w) (LW:LibW w) (IT:zC2 w) :
  Calls Tryz.prog 10 #[.agg #[iQ k,iQ a,iQ m,.bool d],v] w fun e w'=>zB2 (zDC k a m d f) w e w':=by
 obtain ⟨wt,hwt,XT,VT,-⟩:=zAC w [iQ k,iQ a,iQ m,.bool d] 24;have t0:=vC4 VT;have HWT:Hid _:=hwt;have HGT:Hid (∀ W,Calls Tryz.prog 32 #[.agg #[iQ k,iQ a,iQ m,.bool d]] W fun e w'=>e=.returned (.bool (zBB k a m d))/\Ext W w'):=fun W=>zLG k a m d W;have HRW:Hid (∀ W,Ext wt W->Calls Tryz.prog 35 #[v,.func (.func 36) #[] #[.pointer (some ⟨w.heap.size,0,none⟩)]] W fun e w'=>zB2 (rwR (tT k a m d) f) W e w'):=fun W X =>
  zHJ (tT k a m d) 36 w.heap.size v f W (h.l (xt XT X)) hr hl (hT.l (xt XT X)) (hE.l (xt XT X)) (hO.l (xt XT X)) (LW.l (xt XT X)) (IT.laterG (xt XT X))
   (fun x _ _ _ W2 X2=>tellT k a m d w.heap.size x.at W2 (VT.l (xt X X2))) (enters_of Tryz.func36 (by kernel_rfl) rfl)
 obtain ⟨GT,hGT⟩:=nm (zBB k a m d);have HU:Hid (zDC k a m d f=if GT=true then rwR (tT k a m d) f else []):=by show _=_;unfold zDC;rw [hGT]
 rw [HU.out];rw [hGT] at HGT;clear hGT hwt VT h hr hl hT hE hO LW IT HU;go_enter Tryz.func10,Tryz.ntmps10;go_upto_region 1 with fail;rw [HWT.out];go_wp2_with fail;refine (HGT.out wt).mono ?_;rintro e w1 ⟨rfl,e1⟩;cases GT
 ·clear HRW;go_wp2_with fail;go_ret;exact zB8 (xt XT e1)
 ·go_wp2_with fail;refine (HRW.out w1 e1).mono ?_;rintro e w2 ⟨vo,g,rfl,h2,h3,h4⟩;have HP:Hid (zB2 (rwR (tT k a m d) f) w (.returned vo) w2):=zB2.ext ⟨vo,g,rfl,h2,h3,h4⟩ (xt XT e1);clear h2 h3 h4;go_wp2_with fail;go_ret;exact HP.out
end Go.Proofs.YteliaeejooekbaaGreatDoor
