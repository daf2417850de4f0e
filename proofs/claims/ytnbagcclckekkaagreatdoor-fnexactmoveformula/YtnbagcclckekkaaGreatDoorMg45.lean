/-
  Several texts in one: Rw2, Tv, Tj, Tk, Tq0, Tf0, Tf1.
-/
import Derived.RangeFuncBox
import Derived.RangeFuncWrites
import Derived.Maps.OwnIn
import Derived.Test.YtnbagcclckekkaaGreatDoorMg16
import Derived.Test.YtnbagcclckekkaaGreatDoorAu1
import Derived.Test.YtnbagcclckekkaaGreatDoorMg41
import Derived.Test.YtnbagcclckekkaaGreatDoorRki
import Derived.Test.YtnbagcclckekkaaGreatDoorMg43
import Derived.Test.YtnbagcclckekkaaGreatDoorGs8
import Derived.Test.YtnbagcclckekkaaGreatDoorMg12
import Derived.Test.YtnbagcclckekkaaGreatDoorMg13
namespace Go.Proofs.YtnbagcclckekkaaGreatDoor
open Go.RowKit Go.Shelf
attribute [local go_sem] Oper.semAt_some
theorem addrsR (p:Option Addr) (n cap:Nat) (w:World) :
  Calls Tryz.prog 56 #[.slice p n cap] w fun e w'=>e=.returned (.func (.func 71) #[] #[.pointer (some ⟨w.heap.size,0,none⟩)])∧w'=w.alloc (.cells #[.slice p n cap] 26):=by
 go_enter Tryz.func56,Tryz.ntmps56;go_wp2_with fail;go_ret;exact ⟨rfl,rfl⟩
theorem keeps_ext {W W':World} (E:Ext W W'):KeepsOthers W W':=
 ⟨E.size,fun k o hk _=>(E.block k (by rcases Nat.lt_or_ge k W.heap.size with h | h;exact h;rw [Array.getElem?_eq_none h] at hk;cases hk)).trans hk⟩
theorem toldL_back {kk:Int} (h:kk=5∨kk=6) (a:AT):toldL kk [] false 0 0 a.r a.c a.f a.g a.r2 a.c2 a.f2 a.g2 0=(backN kk a).cells:=by
 rcases h with rfl | rfl <;> rfl
def TellsI (T:AT→Option AT) (gf Bc:Nat) (f:List NT) (w:World):Prop:=
 ∀ x ∈ f,x.good=true→(x.k=5∨x.k=6)→∀ W,Ext w W→Calls Tryz.prog gf #[x.at.val,.pointer (some ⟨Bc,0,none⟩)] W fun e w'=>(∃ a:AT,e=.returned (.tuple #[a.val,.bool (T x.at).isSome])∧∀ z,T x.at=some z→a=z)∧Ext W w'
set_option maxRecDepth 100000 in
set_option maxHeartbeats 16000000 in
theorem rewrittenI (T:AT→Option AT) (gf Bc:Nat) (v:Value) (f:List NT) (w:World) (h:NodesIn w v f) (hr:∀ x ∈ f,x.fits) (hl:f.length≤1048576) (hT:Tens w) (hE:ErrTab w) (hO:OpTab w) (LW:LibW w) (IT:ItoaC w)
  (HF:TellsI T gf Bc f w) (eg:∀ args w,(callFunc gf args).run Tryz.prog w=.ok (.enter gf args) w) :
  Calls Tryz.prog 27 #[v,.func (.func gf) #[] #[.pointer (some ⟨Bc,0,none⟩)]] w fun e w'=>RwPostB (rwR T f) w e w':=by
 by_cases hg:goodSF NT.good f=true
 ·have hlen:1≤f.length∧f.length≤300:=by
   rcases Nat.lt_or_ge 300 f.length with h' | h'
   ·rw [goodSF_long (Or.inr h')] at hg;cases hg
   ·rcases Nat.eq_zero_or_pos f.length with h0 | h0
    ·rw [goodSF_long (Or.inl h0)] at hg;cases hg
    ·exact ⟨h0,h'⟩
  have hgd:=good_nodes hg;have hur:rwR T f=f.map (rwN T):=by unfold rwR;rw [if_pos hg]
  rw [hur];have HNI:Hid (NodesIn w v f):=h;obtain ⟨p,cap,rfl,hc,hrow⟩:=h;obtain ⟨b,o,rfl,RN⟩:=hrow (by omega);have XA:Ext w (((w.alloc (.cells #[.slice (some ⟨b,o,none⟩) f.length cap] 26)).alloc (.cells #[.func (.func gf) #[] #[.pointer (some ⟨Bc,0,none⟩)]] 67))):=xa (x1 _ _) _;have C0:=goodFI _ f _ (HNI.out.later XA) hr hl (hT.later XA) (hE.later XA) (hO.later XA) (LW.later XA) (IT.laterG XA);rw [good_same goodK,hg] at C0;have cF:((w.alloc (.cells #[.slice (some ⟨b,o,none⟩) f.length cap] 26)).alloc (.cells #[.func (.func gf) #[] #[.pointer (some ⟨Bc,0,none⟩)]] 67)).cell? ⟨w.heap.size,0,none⟩=some (.slice (some ⟨b,o,none⟩) f.length cap):=cell_later (x1 _ _) (vec_made w [.slice (some ⟨b,o,none⟩) f.length cap] 26 0 _ rfl).1;have cG:((w.alloc (.cells #[.slice (some ⟨b,o,none⟩) f.length cap] 26)).alloc (.cells #[.func (.func gf) #[] #[.pointer (some ⟨Bc,0,none⟩)]] 67)).cell? ⟨w.heap.size+1,0,none⟩=some (.func (.func gf) #[] #[.pointer (some ⟨Bc,0,none⟩)]):=by
   have:=(vec_made (w.alloc (.cells #[.slice (some ⟨b,o,none⟩) f.length cap] 26)) [.func (.func gf) #[] #[.pointer (some ⟨Bc,0,none⟩)]] 67 0 _ rfl).1;rw [World.size_alloc] at this;exact this
  have hszA:((w.alloc (.cells #[.slice (some ⟨b,o,none⟩) f.length cap] 26)).alloc (.cells #[.func (.func gf) #[] #[.pointer (some ⟨Bc,0,none⟩)]] 67)).heap.size=w.heap.size+2:=by simp
  obtain ⟨n,hn⟩:∃ n,f.length=n:=⟨_,rfl⟩;have HN:Hid (f.length=n):=hn;rw [hn] at hc hlen C0 XA cF cG hszA HNI ⊢;obtain ⟨wa,hwa⟩:∃ z,(w.alloc (.cells #[.slice (some ⟨b,o,none⟩) n cap] 26)).alloc (.cells #[.func (.func gf) #[] #[.pointer (some ⟨Bc,0,none⟩)]] 67)=z:=⟨_,rfl⟩;have HWA:Hid ((w.alloc (.cells #[.slice (some ⟨b,o,none⟩) n cap] 26)).alloc (.cells #[.func (.func gf) #[] #[.pointer (some ⟨Bc,0,none⟩)]] 67)=wa):=hwa;have cF0:=cF;have HGD:Hid (∀ x ∈ f,x.good=true):=hgd;have HRN:Hid (RowN w b o f):=RN;rw [hwa] at XA C0 cF hszA;have HC0:Hid (Calls Tryz.prog 54 #[.slice (some ⟨b,o,none⟩) n cap] wa fun e w'=>e=.returned (.bool true)∧Ext wa w'):=C0;have cG0:wa.cell? ⟨w.heap.size+1,0,none⟩=some (.func (.func gf) #[] #[.pointer (some ⟨Bc,0,none⟩)]):=by rw [← hwa];exact cG
  have HCL:Hid (∀ W,Ext w W→Calls Tryz.prog 55 #[.slice (some ⟨b,o,none⟩) n cap] W fun e w'=>∃ g c,e=.returned (.slice (some ⟨g,0,none⟩) n c)∧OwnNd w' W.heap.size (.slice (some ⟨g,0,none⟩) n c) f∧Ext W w'):=fun W X=>cloneNd b o n cap f W (RN.later X) HN.out hc (by omega);clear hn hur RN C0 hr hl hT hE hO LW IT hg hgd hrow hwa cG;refine (callsIn_wide (n:=5)).1 ?_;refine callsIn_of_wp_marks Tryz.func27 rfl trivial ?_ rfl;simp only [Tryz.ntmps27,List.size_toArray,List.length_cons,List.length_nil,Nat.reduceAdd,Nat.reduceSub,Array.replicate_succ,Array.replicate_zero,List.push_toArray,List.append_toArray,List.nil_append,List.cons_append]
  gi_wp2_with (refine ⟨trivial,?_⟩;first | (gi_at_call 54;rw [HWA.out];refine (callsIn_wide.2 HC0.out).mono ?_;rintro e w1 ⟨rfl,e1⟩;have X1:=xt XA e1;have cF1:=cell_later e1 cF) | (gi_at_call 55;refine (callsIn_wide.2 (HCL.out w1 X1)).mono ?_;rintro e w2 ⟨g,c,rfl,O2,e2⟩;have cF2:=cell_later (xa e2 (.cells #[.slice (some ⟨g,0,none⟩) n c] 26)) cF1) | (gi_at_call 56;refine (callsIn_wide.2 (addrsR _ n cap _)).mono ?_;rintro e w3 ⟨rfl,rfl⟩))
  obtain ⟨g9,NB,hgb⟩:=nodesB_of O2;have hg9:g=g9∧Vec w2 g (f.flatMap NT.cells):=by
   obtain ⟨_,p9,c9,e9,_,h9⟩:=NB;obtain ⟨h8,h7⟩:=h9 (by rw [HN.out];omega);cases e9;cases h8;exact ⟨rfl,h7⟩
  obtain ⟨rfl,V2⟩:=hg9;have hgb:=hgb (by rw [HN.out];omega);have hnc:n≤c:=by obtain ⟨z1,z2,z3,z4⟩:=ownNd_slice O2;rw [HN.out] at z3 z4;cases z3;exact z4
  clear NB O2;have bO:BoxN ((w2.alloc (.cells #[.slice (some ⟨g,0,none⟩) n c] 26)).alloc (.cells #[.slice (some ⟨b,o,none⟩) n cap] 26)) w2.heap.size 26 [.slice (some ⟨g,0,none⟩) n c]:=(BoxN.new w2 26 [.slice (some ⟨g,0,none⟩) n c]).alloc _;have hB0:Below w1.heap.size w1 ((w2.alloc (.cells #[.slice (some ⟨g,0,none⟩) n c] 26)).alloc (.cells #[.slice (some ⟨b,o,none⟩) n cap] 26)):=(Below.alloc e2 e2.size _).alloc (by simp;have:=e2.size;omega) _;have V0:Vec ((w2.alloc (.cells #[.slice (some ⟨g,0,none⟩) n c] 26)).alloc (.cells #[.slice (some ⟨b,o,none⟩) n cap] 26)) g (f.flatMap NT.cells):=V2.later (xa (x1 _ _) _);have cS:((w2.alloc (.cells #[.slice (some ⟨g,0,none⟩) n c] 26)).alloc (.cells #[.slice (some ⟨b,o,none⟩) n cap] 26)).cell? ⟨w2.heap.size+1,0,none⟩=some (.slice (some ⟨b,o,none⟩) n cap):=by
   have:=(vec_made (w2.alloc (.cells #[.slice (some ⟨g,0,none⟩) n c] 26)) [.slice (some ⟨b,o,none⟩) n cap] 26 0 _ rfl).1;rw [World.size_alloc] at this;exact this
  have hsz:((w2.alloc (.cells #[.slice (some ⟨g,0,none⟩) n c] 26)).alloc (.cells #[.slice (some ⟨b,o,none⟩) n cap] 26)).heap.size=w2.heap.size+2:=by simp
  have hs2:=e2.size;have hs1:=e1.size;obtain ⟨W0,hW0⟩:∃ W0,(w2.alloc (.cells #[.slice (some ⟨g,0,none⟩) n c] 26)).alloc (.cells #[.slice (some ⟨b,o,none⟩) n cap] 26)=W0:=⟨_,rfl⟩;change (Code.rangeFunc _ _ _ _).wpIn _ _ _ _ _ ((w2.alloc (.cells #[.slice (some ⟨g,0,none⟩) n c] 26)).alloc (.cells #[.slice (some ⟨b,o,none⟩) n cap] 26));rw [hW0] at bO hB0 cS hsz V0 ⊢;clear hW0;have hNB:NodesBelow w1.heap.size W0 (.slice (some ⟨b,o,none⟩) n cap) f:=((HNI.out.later X1).below).below hB0;have HX1:Hid (Ext w w1):=X1;have HCG:Hid (∀ W,Below w1.heap.size w1 W→W.cell? ⟨w.heap.size+1,0,none⟩=some (.func (.func gf) #[] #[.pointer (some ⟨Bc,0,none⟩)])):=fun W hB=>(hB.cell (p:=⟨w.heap.size+1,0,none⟩) (by show w.heap.size+1<_;omega)).trans (cell_later e1 cG0);have HCF:Hid (∀ W,Below w1.heap.size w1 W→W.cell? ⟨w.heap.size,0,none⟩=some (.slice (some ⟨b,o,none⟩) n cap)):=fun W hB=>(hB.cell (p:=⟨w.heap.size,0,none⟩) (by show w.heap.size<_;omega)).trans cF1;have hbw:b<w1.heap.size:=by
   obtain ⟨x0,hx0⟩:∃ x,f[0]?=some x:=⟨_,List.getElem?_eq_getElem (by rw [HN.out];omega)⟩;exact World.block_lt_of_cell? _ _ (cell_later X1 (HRN.out 0 x0 hx0 0 _ rfl))
  have HRB:Hid (∀ W,Below w1.heap.size w1 W→RowN W b o f):=fun W hB=>(HRN.out.later X1).below hbw hB;clear HC0 HCL HNI HRN XA cF cG0 cF0 cF1 cF2 e1 X1 HWA;refine wpIn_rangeFunc_ownH (α:=YA f) rfl (by omega) (gf:=71) (lb:=#[.pointer (some ⟨w2.heap.size+1,0,none⟩)]) rfl trivial (enters_of Tryz.func71 (by kernel_rfl) rfl)
   (addr_stops Fence.wide (5 - 1) trivial rfl (by omega) (w2.heap.size+1) w1.heap.size (.slice (some ⟨b,o,none⟩) n cap) f (by rw [HN.out];omega) W0 (by omega) (by omega) cS hNB) belowK_t (belowK_b (by omega)) (Below.refl _ _) (fun _=>rfl)
   (fun pre W=>(BoxN W w2.heap.size 26 [.slice (some ⟨g,0,none⟩) n c]∧Vec W g ((rwP T pre).flatMap NT.cells))∧Below w1.heap.size w1 W)
   (fun _ _ _=>False)
   (OwnFrom.and (OwnFrom.and (Own.from (boxN_own w2.heap.size 26 (fun _:List (YA f)=>[.slice (some ⟨g,0,none⟩) n c])) _) (Own.from (vec_own g (fun pre:List (YA f)=>(rwP T pre).flatMap NT.cells)) _)) (ownFrom_below (Nat.le_refl _) (by omega)))
   (fun _ _ _ _ _ hs _ _=>hs)
   ⟨⟨bO,V0⟩,hB0⟩
   (fun y a' W=>∃ Bx,BoxN W Bx 45 [.int .i64 y.x.r,.int .i64 y.x.c,.bool y.x.f,.bool y.x.g,.int .i64 y.x.er,.int .i64 y.x.ec,.bool y.x.ef,.bool y.x.eg]∧a'={ tmps:=#[.slice (some ⟨b,o,none⟩) n cap,.func (.func gf) #[] #[.pointer (some ⟨Bc,0,none⟩)],.pointer (some ⟨w.heap.size,0,none⟩),.pointer (some ⟨w.heap.size+1,0,none⟩),.slice none 0 0,.pointer (some ⟨w2.heap.size,0,none⟩),.int .i64 (y.i:Int),.pointer (some ⟨Bx,0,none⟩),undef,undef,.slice (some ⟨b,o,none⟩) n cap,.bool true,.bool false,.slice (some ⟨b,o,none⟩) n cap,.slice (some ⟨g,0,none⟩) n c,.slice (some ⟨b,o,none⟩) n cap,.func (.func 71) #[] #[.pointer (some ⟨w2.heap.size+1,0,none⟩)],.int .i64 (y.i:Int),.agg #[.int .i64 y.x.r,.int .i64 y.x.c,.bool y.x.f,.bool y.x.g,.int .i64 y.x.er,.int .i64 y.x.ec,.bool y.x.ef,.bool y.x.eg],undef,undef,undef,undef,undef,undef,undef,undef,undef,undef,undef,undef,undef,undef,undef,undef,undef,undef,undef,undef,undef,undef,undef,undef,undef,undef,undef],defers:=[] })
   (fun y a' _ X Y row hs hg hr=>by obtain ⟨Bx,h2,h3⟩:=hs;exact ⟨Bx,boxN_own Bx 45 (fun (_:Unit)=>[.int .i64 y.x.r,.int .i64 y.x.c,.bool y.x.f,.bool y.x.g,.int .i64 y.x.er,.int .i64 y.x.ec,.bool y.x.ef,.bool y.x.eg]) () X Y row h2 hg (fun r e=>(hr r e).2),h3⟩)
   ?assign ?body ?done ?stop
  case assign =>
   rintro l' pre y W K ⟨⟨bO1,V1⟩,hB1⟩ hK;have hKK:=hK { tmps:=#[.slice (some ⟨b,o,none⟩) n cap,.func (.func gf) #[] #[.pointer (some ⟨Bc,0,none⟩)],.pointer (some ⟨w.heap.size,0,none⟩),.pointer (some ⟨w.heap.size+1,0,none⟩),.slice none 0 0,.pointer (some ⟨w2.heap.size,0,none⟩),.int .i64 (y.i:Int),.pointer (some ⟨W.heap.size,0,none⟩),undef,undef,.slice (some ⟨b,o,none⟩) n cap,.bool true,.bool false,.slice (some ⟨b,o,none⟩) n cap,.slice (some ⟨g,0,none⟩) n c,.slice (some ⟨b,o,none⟩) n cap,.func (.func 71) #[] #[.pointer (some ⟨w2.heap.size+1,0,none⟩)],.int .i64 (y.i:Int),.agg #[.int .i64 y.x.r,.int .i64 y.x.c,.bool y.x.f,.bool y.x.g,.int .i64 y.x.er,.int .i64 y.x.ec,.bool y.x.ef,.bool y.x.eg],undef,undef,undef,undef,undef,undef,undef,undef,undef,undef,undef,undef,undef,undef,undef,undef,undef,undef,undef,undef,undef,undef,undef,undef,undef,undef,undef],defers:=[] } (W.alloc (.cells #[.int .i64 y.x.r,.int .i64 y.x.c,.bool y.x.f,.bool y.x.g,.int .i64 y.x.er,.int .i64 y.x.ec,.bool y.x.ef,.bool y.x.eg] 45))
    ((KeepsOthers.alloc _ _).from _) ((Below.refl _ W).alloc hB1.size _) ⟨⟨bO1.alloc _,V1.later (x1 _ _)⟩,hB1.alloc hB1.size _⟩ ⟨W.heap.size,BoxN.new W 45 [.int .i64 y.x.r,.int .i64 y.x.c,.bool y.x.f,.bool y.x.g,.int .i64 y.x.er,.int .i64 y.x.ec,.bool y.x.ef,.bool y.x.eg],rfl⟩
   clear hK;unfold encY
   gi_wp2
   exact hKK
  case body =>
   rintro l' pre y a' W hl' ⟨r,hr⟩ ⟨⟨bO1,V1⟩,hB1⟩ ⟨Bx,bX,rfl⟩ hlt;have hmem:=List.mem_of_getElem? y.hx;have hiy:y.i<n:=by have:=(List.getElem?_eq_some_iff.1 y.hx).1;rw [HN.out] at this;exact this
   have CT0:=HF y.x hmem (HGD.out y.x hmem) y.hk;have HQ:Hid (rwP T (pre++[y])=(rwP T pre).set y.i (rwN T y.x)):=rwP_snoc T pre y;have HRX:Hid (rwN T y.x=toldN y.x.k (T y.x.at)):=by show _=_;unfold rwN;rw [if_pos y.hk]
   have cK:W.cell? ⟨b,o+y.i * 14,none⟩=some (.int .i64 y.x.k):=HRB.out W hB1 y.i y.x y.hx 0 _ rfl;have HLL:Hid ((rwP T pre).length=n):=by show _=_;rw [rwP_len,HN.out]
   obtain ⟨TT,hTT⟩:∃ q,T y.x.at=q:=⟨_,rfl⟩;rw [hTT] at CT0 HRX;have CT1:∀ W,Ext w W→Calls Tryz.prog gf #[.agg #[.int .i64 y.x.r,.int .i64 y.x.c,.bool y.x.f,.bool y.x.g,.int .i64 y.x.er,.int .i64 y.x.ec,.bool y.x.ef,.bool y.x.eg],.pointer (some ⟨Bc,0,none⟩)] W fun e w'=>(∃ a:AT,e=.returned (.tuple #[a.val,.bool TT.isSome])∧∀ z,TT=some z→a=z)∧Ext W w':=CT0;have HCT:Hid (∀ W,Ext w W→Calls Tryz.prog gf #[.agg #[.int .i64 y.x.r,.int .i64 y.x.c,.bool y.x.f,.bool y.x.g,.int .i64 y.x.er,.int .i64 y.x.ec,.bool y.x.ef,.bool y.x.eg],.pointer (some ⟨Bc,0,none⟩)] W fun e w'=>(∃ a:AT,e=.returned (.tuple #[a.val,.bool TT.isSome])∧∀ z,TT=some z→a=z)∧Ext W w'):=CT1;clear CT0 CT1 hTT hmem;obtain ⟨LL,hL⟩:∃ L,rwP T pre=L:=⟨_,rfl⟩;rw [hL] at V1 HQ HLL;clear hL hlt;obtain ⟨yi,yx,yhx,yhk⟩:=y;dsimp only at HQ HRX HCT cK bX hiy ⊢;generalize yx.er=r2 at HCT bX ⊢;generalize yx.ec=c2 at HCT bX ⊢;generalize yx.ef=f2 at HCT bX ⊢;generalize yx.eg=g2 at HCT bX ⊢;generalize yx.r=r1 at HCT bX ⊢;generalize yx.c=c1 at HCT bX ⊢;generalize yx.f=f1 at HCT bX ⊢;generalize yx.g=g1 at HCT bX ⊢;obtain ⟨kk,hkk⟩:∃ q,yx.k=q:=⟨_,rfl⟩;rw [hkk] at HRX cK;have HKK:Hid (kk=5∨kk=6):=by rw [← hkk];exact yhk
   clear hkk;have XW:Ext w W:=Below.trans HX1.out (hB1.mono HX1.out.size);have hBW:=hB1.size;have cV:=HCG.out W hB1;have HB1:Hid (Below w1.heap.size w1 W):=hB1;have HBO:Hid (BoxN W w2.heap.size 26 [.slice (some ⟨g,0,none⟩) n c]):=bO1;have HV1:Hid (Vec W g (LL.flatMap NT.cells)):=V1;have k0:=(bX.vec 0 _ rfl).1;have k1:=(bX.vec 1 _ rfl).1;have k2:=(bX.vec 2 _ rfl).1;have k3:=(bX.vec 3 _ rfl).1;have k4:=(bX.vec 4 _ rfl).1;have k5:=(bX.vec 5 _ rfl).1;have k6:=(bX.vec 6 _ rfl).1;have k7:=(bX.vec 7 _ rfl).1;have i1:(0:Int)≤(yi:Int):=by omega
   have i2:(yi:Int)<(n:Int):=by omega
   clear bX bO1 V1 hB1;cases TT with
   | none =>
    have HQ2:Hid ((rwP T (pre++[⟨yi,yx,yhx,yhk⟩]))=LL.set yi lostNT):=(by show _=_;rw [HQ.out,HRX.out];rfl);have one:(#[.int .i64 4,.string ⟨#[35,82,69,70,33]⟩,.bool false,.int .i64 0,.int .i64 0,.int .i64 0,.int .i64 0,.bool false,.bool false,.int .i64 0,.int .i64 0,.bool false,.bool false,.int .i64 0]:Array Value).all (·.oneCell')=true:=by simp [Value.oneCell']
    gi_wp2_with (first
     | (refine ⟨trivial,?_⟩;refine (CallsIn.inRound l' (callsIn_wide.2 (HCT.out W XW))).mono ?_;rintro e w5 ⟨⟨⟨ar,ac,af,ag,ar2,ac2,af2,ag2⟩,rfl,_⟩,e5⟩;have X6:=x1 w5 (.cells #[.int .i64 ar,.int .i64 ac,.bool af,.bool ag,.int .i64 ar2,.int .i64 ac2,.bool af2,.bool ag2] 45);have E6:=xt e5 X6;have V6:=HV1.out.later E6;have cO:=cell_later E6 (HBO.out.vec 0 _ rfl).1;have VT:(w5.alloc (.cells #[.int .i64 ar,.int .i64 ac,.bool af,.bool ag,.int .i64 ar2,.int .i64 ac2,.bool af2,.bool ag2] 45)).there g (yi * 14) 14:=vec_thereN V6 (by rw [flat14_len,HLL.out];omega))
     | (refine wpListIn_store_mid rfl _ _ _ rfl g (yi * 14) #[.int .i64 4,.string ⟨#[35,82,69,70,33]⟩,.bool false,.int .i64 0,.int .i64 0,.int .i64 0,.int .i64 0,.bool false,.bool false,.int .i64 0,.int .i64 0,.bool false,.bool false,.int .i64 0] rfl rfl VT hi14N one ?_))
    have hyL:yi<LL.length:=(by rw [HLL.out];exact hiy);have V7:=vec_setCellsN ([.int .i64 4,.string ⟨#[35,82,69,70,33]⟩,.bool false,.int .i64 0,.int .i64 0,.int .i64 0,.int .i64 0,.bool false,.bool false,.int .i64 0,.int .i64 0,.bool false,.bool false,.int .i64 0]:List Value) (yi * 14) _ _ V6 (by rw [flat14_len,HLL.out];show yi * 14+14≤_;omega);have V8:Vec ((w5.alloc (.cells #[.int .i64 ar,.int .i64 ac,.bool af,.bool ag,.int .i64 ar2,.int .i64 ac2,.bool af2,.bool ag2] 45)).setCells g (yi * 14) [.int .i64 4,.string ⟨#[35,82,69,70,33]⟩,.bool false,.int .i64 0,.int .i64 0,.int .i64 0,.int .i64 0,.bool false,.bool false,.int .i64 0,.int .i64 0,.bool false,.bool false,.int .i64 0]) g ((rwP T (pre++[⟨yi,yx,yhx,yhk⟩])).flatMap NT.cells):=by
     rw [HQ2.out,← setsN_node LL yi lostNT hyL];exact V7
    have hB8:Below w1.heap.size w1 ((w5.alloc (.cells #[.int .i64 ar,.int .i64 ac,.bool af,.bool ag,.int .i64 ar2,.int .i64 ac2,.bool af2,.bool ag2] 45)).setCells g (yi * 14) [.int .i64 4,.string ⟨#[35,82,69,70,33]⟩,.bool false,.int .i64 0,.int .i64 0,.int .i64 0,.int .i64 0,.bool false,.bool false,.int .i64 0,.int .i64 0,.bool false,.bool false,.int .i64 0]):=below_setCellsN (HB1.out.trans (E6.mono hBW)) hgb.1 (by have:=E6.size;omega);have hB9:Below w1.heap.size W ((w5.alloc (.cells #[.int .i64 ar,.int .i64 ac,.bool af,.bool ag,.int .i64 ar2,.int .i64 ac2,.bool af2,.bool ag2] 45)).setCells g (yi * 14) [.int .i64 4,.string ⟨#[35,82,69,70,33]⟩,.bool false,.int .i64 0,.int .i64 0,.int .i64 0,.int .i64 0,.bool false,.bool false,.int .i64 0,.int .i64 0,.bool false,.bool false,.int .i64 0]):=below_setCellsN (E6.mono hBW) hgb.1 (by have:=E6.size;omega);have bO8:BoxN ((w5.alloc (.cells #[.int .i64 ar,.int .i64 ac,.bool af,.bool ag,.int .i64 ar2,.int .i64 ac2,.bool af2,.bool ag2] 45)).setCells g (yi * 14) [.int .i64 4,.string ⟨#[35,82,69,70,33]⟩,.bool false,.int .i64 0,.int .i64 0,.int .i64 0,.int .i64 0,.bool false,.bool false,.int .i64 0,.int .i64 0,.bool false,.bool false,.int .i64 0]) w2.heap.size 26 [.slice (some ⟨g,0,none⟩) n c]:=(HBO.out.ext E6).kept (grown_setCells g _ _ _) (fun e=>by cases e;omega);exact ⟨((keeps_ext E6).trans (keeps_setCells V6 (by rw [flat14_len,HLL.out];omega))).from _,hB9,⟨⟨bO8,V8⟩,hB8⟩⟩
   | some z =>
    obtain ⟨ar,ac,af,ag,ar2,ac2,af2,ag2⟩:=z;have HQ2:Hid ((rwP T (pre++[⟨yi,yx,yhx,yhk⟩]))=LL.set yi (backN kk ⟨ar,ac,af,ag,ar2,ac2,af2,ag2⟩)):=by show _=_;rw [HQ.out,HRX.out];rfl
    gi_wp2_with (first
     | (refine ⟨trivial,?_⟩;refine (CallsIn.inRound l' (callsIn_wide.2 (HCT.out W XW))).mono ?_;rintro e w5 ⟨⟨a5,rfl,ha5⟩,e5⟩;obtain rfl:=ha5 _ rfl;have X6:=x1 w5 (.cells #[.int .i64 ar,.int .i64 ac,.bool af,.bool ag,.int .i64 ar2,.int .i64 ac2,.bool af2,.bool ag2] 45);have E6:=xt e5 X6;have V6:=HV1.out.later E6;have cO:=cell_later E6 (HBO.out.vec 0 _ rfl).1;have VT:(w5.alloc (.cells #[.int .i64 ar,.int .i64 ac,.bool af,.bool ag,.int .i64 ar2,.int .i64 ac2,.bool af2,.bool ag2] 45)).there g (yi * 14) 14:=vec_thereN V6 (by rw [flat14_len,HLL.out];omega)))
    have bA:BoxN (w5.alloc (.cells #[.int .i64 ar,.int .i64 ac,.bool af,.bool ag,.int .i64 ar2,.int .i64 ac2,.bool af2,.bool ag2] 45)) w5.heap.size 45 [.int .i64 ar,.int .i64 ac,.bool af,.bool ag,.int .i64 ar2,.int .i64 ac2,.bool af2,.bool ag2]:=BoxN.new w5 45 [.int .i64 ar,.int .i64 ac,.bool af,.bool ag,.int .i64 ar2,.int .i64 ac2,.bool af2,.bool ag2];have cF6:(w5.alloc (.cells #[.int .i64 ar,.int .i64 ac,.bool af,.bool ag,.int .i64 ar2,.int .i64 ac2,.bool af2,.bool ag2] 45)).cell? ⟨w.heap.size,0,none⟩=some (.slice (some ⟨b,o,none⟩) n cap):=cell_later E6 (HCF.out W HB1.out);have cK6:(w5.alloc (.cells #[.int .i64 ar,.int .i64 ac,.bool af,.bool ag,.int .i64 ar2,.int .i64 ac2,.bool af2,.bool ag2] 45)).cell? ⟨b,o+yi * 14,none⟩=some (.int .i64 kk):=cell_later E6 cK;have HNDC:Hid (∀ W,Calls Tryz.prog 57 #[.agg #[.int .i64 kk,.string ⟨#[]⟩,.bool false,.int .i64 0,.int .i64 0,.int .i64 ar,.int .i64 ac,.bool af,.bool ag,.int .i64 ar2,.int .i64 ac2,.bool af2,.bool ag2,.int .i64 0]] W fun e w1=>e=.returned (.agg (backN kk ⟨ar,ac,af,ag,ar2,ac2,af2,ag2⟩).cells.toArray)∧Ext W w1):=fun W=>(by rw [← toldL_back HKK.out ⟨ar,ac,af,ag,ar2,ac2,af2,ag2⟩];exact toldI kk [] false 0 0 ar ac af ag ar2 ac2 af2 ag2 0 W);obtain ⟨wb,hwb⟩:∃ z,w5.alloc (.cells #[.int .i64 ar,.int .i64 ac,.bool af,.bool ag,.int .i64 ar2,.int .i64 ac2,.bool af2,.bool ag2] 45)=z:=⟨_,rfl⟩;rw [hwb] at bA cF6 cK6 E6 V6 cO VT X6 ⊢;clear VT;refine wpIn_region_letters (fun lx:Nat→Value=>{ tmps:=#[.slice (some ⟨b,o,none⟩) n cap,.func (.func gf) #[] #[.pointer (some ⟨Bc,0,none⟩)],.pointer (some ⟨w.heap.size,0,none⟩),.pointer (some ⟨w.heap.size+1,0,none⟩),.slice none 0 0,.pointer (some ⟨w2.heap.size,0,none⟩),.int .i64 (yi:Int),.pointer (some ⟨Bx,0,none⟩),.pointer (some ⟨w5.heap.size,0,none⟩),.bool true,.slice (some ⟨b,o,none⟩) n cap,.bool true,.bool false,.slice (some ⟨b,o,none⟩) n cap,.slice (some ⟨g,0,none⟩) n c,.slice (some ⟨b,o,none⟩) n cap,.func (.func 71) #[] #[.pointer (some ⟨w2.heap.size+1,0,none⟩)],.int .i64 (yi:Int),.agg #[.int .i64 r1,.int .i64 c1,.bool f1,.bool g1,.int .i64 r2,.int .i64 c2,.bool f2,.bool g2],.tuple #[(⟨ar,ac,af,ag,ar2,ac2,af2,ag2⟩:AT).val,.bool true],.func (.func gf) #[] #[.pointer (some ⟨Bc,0,none⟩)],.agg #[.int .i64 r1,.int .i64 c1,.bool f1,.bool g1,.int .i64 r2,.int .i64 c2,.bool f2,.bool g2],.tuple #[(⟨ar,ac,af,ag,ar2,ac2,af2,ag2⟩:AT).val,.bool true],(⟨ar,ac,af,ag,ar2,ac2,af2,ag2⟩:AT).val,.bool true,.bool true,.bool false,undef,undef,undef,undef,lx 31,lx 32,lx 33,lx 34,lx 35,lx 36,lx 37,lx 38,lx 39,lx 40,lx 41,lx 42,lx 43,lx 44,undef],defers:=[] }) (fun L lx lw=>Hid ((L 14=false→Ext wb lw)∧(L 14=true→∃ lv,Ext wb lv∧lw=lv.setCells g (yi * 14) (backN kk ⟨ar,ac,af,ag,ar2,ac2,af2,ag2⟩).cells)∧(L 0=true→lx 31=.slice (some ⟨g,0,none⟩) n c)∧(L 1=true→lx 32=.int .i64 (yi:Int))∧(L 2=true→lx 33=.slice (some ⟨b,o,none⟩) n cap)∧(L 3=true→lx 34=.int .i64 (yi:Int))∧(L 4=true→lx 35=.pointer (some ⟨b,o+yi * 14,none⟩))∧(L 5=true→lx 36=.pointer (some ⟨b,o+yi * 14,none⟩))∧(L 6=true→lx 37=.int .i64 kk)∧(L 7=true→lx 38=.pointer (some ⟨w5.heap.size,0,none⟩))∧(L 8=true→lx 39=.agg #[.int .i64 ar,.int .i64 ac,.bool af,.bool ag])∧(L 9=true→lx 40=.pointer (some ⟨w5.heap.size,4,none⟩))∧(L 10=true→lx 41=.agg #[.int .i64 ar2,.int .i64 ac2,.bool af2,.bool ag2])∧(L 11=true→lx 42=.agg #[.int .i64 kk,.string ⟨#[]⟩,.bool false,.int .i64 0,.int .i64 0,.int .i64 ar,.int .i64 ac,.bool af,.bool ag,.int .i64 ar2,.int .i64 ac2,.bool af2,.bool ag2,.int .i64 0])∧(L 12=true→lx 43=.agg (backN kk ⟨ar,ac,af,ag,ar2,ac2,af2,ag2⟩).cells.toArray)∧(L 13=true→lx 44=.pointer (some ⟨g,yi * 14,none⟩)))) rfl (by kernel_rfl) (by kernel_rfl) (fun _=>undef) rfl ?_ ?_ ?_
    ·exact ⟨fun _=>xd (xr _),(fun h=>by cases h),(fun h=>by cases h),(fun h=>by cases h),(fun h=>by cases h),(fun h=>by cases h),(fun h=>by cases h),(fun h=>by cases h),(fun h=>by cases h),(fun h=>by cases h),(fun h=>by cases h),(fun h=>by cases h),(fun h=>by cases h),(fun h=>by cases h),(fun h=>by cases h),(fun h=>by cases h)⟩
    ·intro L lx wl i op KK hKK ho hL haf hI hcl;obtain ⟨G0,G1,f0,f1,f2,f3,f4,f5,f6,f7,f8,f9,f10,f11,f12,f13⟩:=hI.out
     match i,ho,hL,haf,hKK with
     | 0,ho,hL,haf,hKK =>
      cases ho
      (try dsimp only)
      have h14:L 14=false:=hcl.bars [13,0] hL (by kernel_rfl) rfl;have X:=G0 h14;have c9:=cell_later X cO
      gi_wp2_with fail
      exact hKK (fun jj=>if jj=31 then .slice (some ⟨g,0,none⟩) n c else lx jj) _ ⟨fun _=>X,fun h=>absurd (h14.symm.trans h) (by decide),(fun _=>rfl),f1,f2,f3,f4,f5,f6,f7,f8,f9,f10,f11,f12,f13⟩
     | 1,ho,hL,haf,hKK =>
      cases ho
      (try dsimp only)
      have h14:L 14=false:=hcl.bars [13,1] hL (by kernel_rfl) rfl;have X:=G0 h14
      gi_wp2_with fail
      exact hKK (fun jj=>if jj=32 then .int .i64 (yi:Int) else lx jj) _ ⟨fun _=>X,fun h=>absurd (h14.symm.trans h) (by decide),f0,(fun _=>rfl),f2,f3,f4,f5,f6,f7,f8,f9,f10,f11,f12,f13⟩
     | 2,ho,hL,haf,hKK =>
      cases ho
      (try dsimp only)
      have h14:L 14=false:=hcl.bars [12,11,6,5,4,2] hL (by kernel_rfl) rfl;have X:=G0 h14;have c9:=cell_later X cF6
      gi_wp2_with fail
      exact hKK (fun jj=>if jj=33 then .slice (some ⟨b,o,none⟩) n cap else lx jj) _ ⟨fun _=>X,fun h=>absurd (h14.symm.trans h) (by decide),f0,f1,(fun _=>rfl),f3,f4,f5,f6,f7,f8,f9,f10,f11,f12,f13⟩
     | 3,ho,hL,haf,hKK =>
      cases ho
      (try dsimp only)
      have h14:L 14=false:=hcl.bars [12,11,6,5,4,3] hL (by kernel_rfl) rfl;have X:=G0 h14
      gi_wp2_with fail
      exact hKK (fun jj=>if jj=34 then .int .i64 (yi:Int) else lx jj) _ ⟨fun _=>X,fun h=>absurd (h14.symm.trans h) (by decide),f0,f1,f2,(fun _=>rfl),f4,f5,f6,f7,f8,f9,f10,f11,f12,f13⟩
     | 4,ho,hL,haf,hKK =>
      cases ho
      (try dsimp only)
      have h14:L 14=false:=hcl.bars [12,11,6,5,4] hL (by kernel_rfl) rfl;have X:=G0 h14;rw [f2 (haf ⟨2,.data⟩ (by simp) rfl),f3 (haf ⟨3,.data⟩ (by simp) rfl)]
      gi_wp2_with fail
      exact hKK (fun jj=>if jj=35 then .pointer (some ⟨b,o+yi * 14,none⟩) else if jj=33 then .slice (some ⟨b,o,none⟩) n cap else if jj=34 then .int .i64 (yi:Int) else lx jj) _ ⟨fun _=>X,fun h=>absurd (h14.symm.trans h) (by decide),f0,f1,(fun _=>rfl),(fun _=>rfl),(fun _=>rfl),f5,f6,f7,f8,f9,f10,f11,f12,f13⟩
     | 5,ho,hL,haf,hKK =>
      cases ho
      (try dsimp only)
      have h14:L 14=false:=hcl.bars [12,11,6,5] hL (by kernel_rfl) rfl;have X:=G0 h14;rw [f4 (haf ⟨4,.data⟩ (by simp) rfl)]
      gi_wp2_with fail
      exact hKK (fun jj=>if jj=36 then .pointer (some ⟨b,o+yi * 14,none⟩) else if jj=35 then .pointer (some ⟨b,o+yi * 14,none⟩) else lx jj) _ ⟨fun _=>X,fun h=>absurd (h14.symm.trans h) (by decide),f0,f1,f2,f3,(fun _=>rfl),(fun _=>rfl),f6,f7,f8,f9,f10,f11,f12,f13⟩
     | 6,ho,hL,haf,hKK =>
      cases ho
      (try dsimp only)
      have h14:L 14=false:=hcl.bars [12,11,6] hL (by kernel_rfl) rfl;have X:=G0 h14;rw [f5 (haf ⟨5,.data⟩ (by simp) rfl)];have c9:=cell_later X cK6
      gi_wp2_with fail
      exact hKK (fun jj=>if jj=37 then .int .i64 kk else if jj=36 then .pointer (some ⟨b,o+yi * 14,none⟩) else lx jj) _ ⟨fun _=>X,fun h=>absurd (h14.symm.trans h) (by decide),f0,f1,f2,f3,f4,(fun _=>rfl),(fun _=>rfl),f7,f8,f9,f10,f11,f12,f13⟩
     | 7,ho,hL,haf,hKK =>
      cases ho
      (try dsimp only)
      have h14:L 14=false:=hcl.bars [12,11,8,7] hL (by kernel_rfl) rfl;have X:=G0 h14
      gi_wp2_with fail
      exact hKK (fun jj=>if jj=38 then .pointer (some ⟨w5.heap.size,0,none⟩) else lx jj) _ ⟨fun _=>X,fun h=>absurd (h14.symm.trans h) (by decide),f0,f1,f2,f3,f4,f5,f6,(fun _=>rfl),f8,f9,f10,f11,f12,f13⟩
     | 8,ho,hL,haf,hKK =>
      cases ho
      (try dsimp only)
      have h14:L 14=false:=hcl.bars [12,11,8] hL (by kernel_rfl) rfl;have X:=G0 h14;rw [f7 (haf ⟨7,.data⟩ (by simp) rfl)];refine wpListIn_load_mid rfl 43 (.tmp 38) rfl w5.heap.size 0 rfl [.int .i64 ar,.int .i64 ac,.bool af,.bool ag] _ (fun j v hv=>by have:=(bA.vec.later X j v (by rw [← hv];match j,hv with | 0,_=>rfl | 1,_=>rfl | 2,_=>rfl | 3,_=>rfl)).1;rw [Nat.zero_add];exact this) Tryz.underlying43 rfl (by kernel_rfl) ?_
      gi_wp2_with fail
      exact hKK (fun jj=>if jj=39 then .agg #[.int .i64 ar,.int .i64 ac,.bool af,.bool ag] else if jj=38 then .pointer (some ⟨w5.heap.size,0,none⟩) else lx jj) _ ⟨fun _=>X,fun h=>absurd (h14.symm.trans h) (by decide),f0,f1,f2,f3,f4,f5,f6,(fun _=>rfl),(fun _=>rfl),f9,f10,f11,f12,f13⟩
     | 9,ho,hL,haf,hKK =>
      cases ho
      (try dsimp only)
      have h14:L 14=false:=hcl.bars [12,11,10,9] hL (by kernel_rfl) rfl;have X:=G0 h14
      gi_wp2_with fail
      exact hKK (fun jj=>if jj=40 then .pointer (some ⟨w5.heap.size,4,none⟩) else lx jj) _ ⟨fun _=>X,fun h=>absurd (h14.symm.trans h) (by decide),f0,f1,f2,f3,f4,f5,f6,f7,f8,(fun _=>rfl),f10,f11,f12,f13⟩
     | 10,ho,hL,haf,hKK =>
      cases ho
      (try dsimp only)
      have h14:L 14=false:=hcl.bars [12,11,10] hL (by kernel_rfl) rfl;have X:=G0 h14;rw [f9 (haf ⟨9,.data⟩ (by simp) rfl)];refine wpListIn_load_mid rfl 43 (.tmp 40) rfl w5.heap.size 4 rfl [.int .i64 ar2,.int .i64 ac2,.bool af2,.bool ag2] _ (fun j v hv=>(bA.vec.later X (4+j) v (by rw [← hv];match j,hv with | 0,_=>rfl | 1,_=>rfl | 2,_=>rfl | 3,_=>rfl)).1) Tryz.underlying43 rfl (by kernel_rfl) ?_
      gi_wp2_with fail
      exact hKK (fun jj=>if jj=41 then .agg #[.int .i64 ar2,.int .i64 ac2,.bool af2,.bool ag2] else if jj=40 then .pointer (some ⟨w5.heap.size,4,none⟩) else lx jj) _ ⟨fun _=>X,fun h=>absurd (h14.symm.trans h) (by decide),f0,f1,f2,f3,f4,f5,f6,f7,f8,(fun _=>rfl),(fun _=>rfl),f11,f12,f13⟩
     | 11,ho,hL,haf,hKK =>
      cases ho
      (try dsimp only)
      have h14:L 14=false:=hcl.bars [12,11] hL (by kernel_rfl) rfl;have X:=G0 h14;rw [f6 (haf ⟨6,.data⟩ (by simp) rfl),f8 (haf ⟨8,.data⟩ (by simp) rfl),f10 (haf ⟨10,.data⟩ (by simp) rfl)]
      gi_wp2_with fail
      exact hKK (fun jj=>if jj=42 then .agg #[.int .i64 kk,.string ⟨#[]⟩,.bool false,.int .i64 0,.int .i64 0,.int .i64 ar,.int .i64 ac,.bool af,.bool ag,.int .i64 ar2,.int .i64 ac2,.bool af2,.bool ag2,.int .i64 0] else if jj=37 then .int .i64 kk else if jj=39 then .agg #[.int .i64 ar,.int .i64 ac,.bool af,.bool ag] else if jj=41 then .agg #[.int .i64 ar2,.int .i64 ac2,.bool af2,.bool ag2] else lx jj) _ ⟨fun _=>X,fun h=>absurd (h14.symm.trans h) (by decide),f0,f1,f2,f3,f4,f5,(fun _=>rfl),f7,(fun _=>rfl),f9,(fun _=>rfl),(fun _=>rfl),f12,f13⟩
     | 12,ho,hL,haf,hKK =>
      cases ho
      (try dsimp only)
      have h14:L 14=false:=hcl.bars [12] hL (by kernel_rfl) rfl;have X:=G0 h14;rw [f11 (haf ⟨11,.data⟩ (by simp) rfl)]
      gi_wp2_with (refine ⟨trivial,?_⟩;gi_at_call 57;refine (CallsIn.inRound l' (callsIn_wide.2 (HNDC.out wl))).mono ?_;rintro e wm ⟨rfl,e9⟩)
      exact hKK (fun jj=>if jj=43 then .agg (backN kk ⟨ar,ac,af,ag,ar2,ac2,af2,ag2⟩).cells.toArray else if jj=42 then .agg #[.int .i64 kk,.string ⟨#[]⟩,.bool false,.int .i64 0,.int .i64 0,.int .i64 ar,.int .i64 ac,.bool af,.bool ag,.int .i64 ar2,.int .i64 ac2,.bool af2,.bool ag2,.int .i64 0] else lx jj) _ ⟨fun _=>(xt X e9),fun h=>absurd (h14.symm.trans h) (by decide),f0,f1,f2,f3,f4,f5,f6,f7,f8,f9,f10,(fun _=>rfl),(fun _=>rfl),f13⟩
     | 13,ho,hL,haf,hKK =>
      cases ho
      (try dsimp only)
      have h14:L 14=false:=hcl.bars [13] hL (by kernel_rfl) rfl;have X:=G0 h14;rw [f0 (haf ⟨0,.data⟩ (by simp) rfl),f1 (haf ⟨1,.data⟩ (by simp) rfl)]
      gi_wp2_with fail
      exact hKK (fun jj=>if jj=44 then .pointer (some ⟨g,yi * 14,none⟩) else if jj=31 then .slice (some ⟨g,0,none⟩) n c else if jj=32 then .int .i64 (yi:Int) else lx jj) _ ⟨fun _=>X,fun h=>absurd (h14.symm.trans h) (by decide),(fun _=>rfl),(fun _=>rfl),f2,f3,f4,f5,f6,f7,f8,f9,f10,f11,f12,(fun _=>rfl)⟩
     | 14,ho,hL,haf,hKK =>
      cases ho
      (try dsimp only)
      have X:=G0 hL;rw [f13 (haf ⟨13,.data⟩ (by simp) rfl),f12 (haf ⟨12,.data⟩ (by simp) rfl)];refine wpListIn_store_mid rfl _ _ _ rfl g (yi * 14) (backN kk ⟨ar,ac,af,ag,ar2,ac2,af2,ag2⟩).cells.toArray rfl rfl (vec_thereN (V6.later X) (by rw [flat14_len,HLL.out];show yi * 14+14≤_;omega)) hi14N (by simp [NT.cells,Value.oneCell',sV]) ?_
      gi_wp2_with fail
      exact hKK (fun jj=>if jj=43 then .agg (backN kk ⟨ar,ac,af,ag,ar2,ac2,af2,ag2⟩).cells.toArray else if jj=44 then .pointer (some ⟨g,yi * 14,none⟩) else lx jj) _ ⟨(fun h=>by cases h),(fun _=>⟨wl,X,rfl⟩),f0,f1,f2,f3,f4,f5,f6,f7,f8,f9,f10,f11,(fun _=>rfl),(fun _=>rfl)⟩
     | n+15,ho,hL,haf,hKK=>cases ho
    ·intro L lx lw hall hI;obtain ⟨lv,X,rfl⟩:=hI.out.2.1 (hall 14 (by decide));have E7:=xt E6 X;have V6:=V6.later X;have hyL:yi<LL.length:=(by rw [HLL.out];exact hiy);have V7:=vec_setCellsN (backN kk ⟨ar,ac,af,ag,ar2,ac2,af2,ag2⟩).cells (yi * 14) _ _ V6 (by rw [flat14_len,HLL.out];show yi * 14+14≤_;omega);have V8:Vec (lv.setCells g (yi * 14) (backN kk ⟨ar,ac,af,ag,ar2,ac2,af2,ag2⟩).cells) g ((rwP T (pre++[⟨yi,yx,yhx,yhk⟩])).flatMap NT.cells):=by
      rw [HQ2.out,← setsN_node LL yi (backN kk ⟨ar,ac,af,ag,ar2,ac2,af2,ag2⟩) hyL];exact V7
     have hB8:Below w1.heap.size w1 (lv.setCells g (yi * 14) (backN kk ⟨ar,ac,af,ag,ar2,ac2,af2,ag2⟩).cells):=below_setCellsN (HB1.out.trans (E7.mono hBW)) hgb.1 (by have:=E7.size;omega);have hB9:Below w1.heap.size W (lv.setCells g (yi * 14) (backN kk ⟨ar,ac,af,ag,ar2,ac2,af2,ag2⟩).cells):=below_setCellsN (E7.mono hBW) hgb.1 (by have:=E7.size;omega);have bO8:BoxN (lv.setCells g (yi * 14) (backN kk ⟨ar,ac,af,ag,ar2,ac2,af2,ag2⟩).cells) w2.heap.size 26 [.slice (some ⟨g,0,none⟩) n c]:=(HBO.out.ext E7).kept (grown_setCells g _ _ _) (fun e=>by cases e;omega);exact ⟨((keeps_ext E7).trans (keeps_setCells V6 (by rw [flat14_len,HLL.out];omega))).from _,hB9,⟨⟨bO8,V8⟩,hB8⟩⟩
  case done =>
   rintro D ys W hD rfl ⟨⟨bO1,V1⟩,hB⟩ hK;have hc5:=(bO1.vec 0 _ rfl).1
   gi_wp2
   refine ⟨by simp,.inl ⟨_,_,rfl,run_takeDeferred hK,?_⟩⟩;have hX:Ext w (W.putObj D (.deferred none)):=Below.trans HX1.out ((hB.trans (belowK_b (w:=w1) (Nat.le_refl _) W D _ (.deferred none) (by omega) hK rfl rfl)).mono HX1.out.size);have V9:=vec_own g (fun (_:Unit)=>(rwP T (adrT f f.length)).flatMap NT.cells) () W _ (some D) V1 (grownBy_putObj' W D (.deferred none)) (fun r e=>by cases e;exact ⟨_,hK,rfl⟩);have hl9:(f.map (rwN T)).length=n:=by rw [List.length_map,HN.out]
   dsimp only at V9;rw [rwP_all] at V9;have hgl:g<(W.putObj D (.deferred none)).heap.size:=by
    obtain ⟨u,hu⟩:∃ u,((f.map (rwN T)).flatMap NT.cells)[0]?=some u:=⟨_,List.getElem?_eq_getElem (by rw [flat14_len,hl9];omega)⟩;exact World.block_lt_of_cell? _ _ (V9 0 u hu).1
   have hNBf:NodesB (W.putObj D (.deferred none)) (.slice (some ⟨g,0,none⟩) n c) (f.map (rwN T)).length ((f.map (rwN T)).flatMap NT.cells) g:=by
    refine ⟨flat14_len _,some ⟨g,0,none⟩,c,?_,?_,fun _=>⟨rfl,V9⟩⟩
    ·rw [hl9]
    ·rw [hl9];exact hnc
   exact ⟨_,results_tmp rfl _ _ _,(.slice (some ⟨g,0,none⟩) n c),g,rfl,hNBf,fun _=>⟨by have:=HX1.out.size;omega,hgl⟩,hX⟩
  case stop =>
   rintro D c pre W _ _ h _;exact h.elim
 ·have hur:rwR T f=[]:=by unfold rwR;rw [if_neg hg]
  rw [hur];have hgf:goodSF NT.good f=false:=by simpa using hg
  obtain ⟨p,cap,rfl,hc,hrow⟩:=id h;have XA:Ext w ((w.alloc (.cells #[.slice p f.length cap] 26)).alloc (.cells #[.func (.func gf) #[] #[.pointer (some ⟨Bc,0,none⟩)]] 67)):=xa (x1 _ _) _;have C0:=goodFI _ f _ (h.later XA) hr hl (hT.later XA) (hE.later XA) (hO.later XA) (LW.later XA) (IT.laterG XA);rw [good_same goodK,hgf] at C0;have cF:((w.alloc (.cells #[.slice p f.length cap] 26)).alloc (.cells #[.func (.func gf) #[] #[.pointer (some ⟨Bc,0,none⟩)]] 67)).cell? ⟨w.heap.size,0,none⟩=some (.slice p f.length cap):=cell_later (x1 _ _) (vec_made w [.slice p f.length cap] 26 0 _ rfl).1;obtain ⟨n,hn⟩:∃ n,f.length=n:=⟨_,rfl⟩;rw [hn] at C0 cF XA ⊢;clear hrow hc h hr hl hT hE hO LW IT HF hg hn hur hgf;go_enter Tryz.func27,Tryz.ntmps27;go_wp2_with (go_at_call 54;refine C0.mono ?_;rintro e w1 ⟨rfl,e1⟩);go_ret;exact ⟨.slice none 0 0,0,rfl,⟨rfl,none,0,rfl,Nat.le_refl _,fun h=>absurd h (by simp)⟩,fun h=>absurd h (by simp),xt XA e1⟩
end Go.Proofs.YtnbagcclckekkaaGreatDoor

namespace Go.Proofs.YtnbagcclckekkaaGreatDoor
open Go.RowKit
theorem good5 {x:NT} (h:x.good=true) (hk:x.k=5):∃ r c f g,x=⟨5,[],false,0,0,r,c,f,g,0,0,false,false,0⟩:=by
 obtain ⟨k,t,n,d,e,r,c,f,g,r2,c2,f2,g2,q⟩:=x;dsimp only at hk;subst hk;unfold NT.good goodN at h;simp at h;obtain ⟨⟨rfl,rfl,rfl,rfl,rfl,rfl,rfl,rfl,rfl⟩,_⟩:=h;exact ⟨_,_,_,_,rfl⟩
theorem good6 {x:NT} (h:x.good=true) (hk:x.k=6):∃ r c f g r2 c2 f2 g2,x=⟨6,[],false,0,0,r,c,f,g,r2,c2,f2,g2,0⟩:=by
 obtain ⟨k,t,n,d,e,r,c,f,g,r2,c2,f2,g2,q⟩:=x;dsimp only at hk;subst hk;unfold NT.good goodN at h;simp at h;obtain ⟨⟨rfl,rfl,rfl,rfl,rfl⟩,_⟩:=h;exact ⟨_,_,_,_,_,_,_,_,rfl⟩
theorem hi8T:(Tryz.prog.info? 45).map (·.size)=some 8:=by kernel_rfl
theorem rwPostB_nil {w w':World} (x:Ext w w'):RwPostB [] w (.returned (.slice none 0 0)) w':=⟨.slice none 0 0,0,rfl,⟨rfl,none,0,rfl,Nat.le_refl _,fun h=>absurd h (by simp)⟩,fun h=>absurd h (by simp),x⟩
theorem RwPostB.ext {l:List NT} {w w1 w2:World} {e:Ending} (h:RwPostB l w1 e w2) (x:Ext w w1):RwPostB l w e w2:=by
 obtain ⟨v,g,h1,h2,h3,h4⟩:=h;exact ⟨v,g,h1,h2,fun h=>⟨Nat.le_trans x.size (h3 h).1,(h3 h).2⟩,xt x h4⟩
end Go.Proofs.YtnbagcclckekkaaGreatDoor

