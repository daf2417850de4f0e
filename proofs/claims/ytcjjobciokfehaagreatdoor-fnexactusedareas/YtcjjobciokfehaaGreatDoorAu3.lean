/-
  Chapter 4: UsedAreas of the program.
-/
import Derived.RangeFuncBox
import Derived.RangeFuncWrites
import Derived.Maps.OwnIn
import Derived.Test.YtcjjobciokfehaaGreatDoorMg12
import Derived.Test.YtcjjobciokfehaaGreatDoorAu1
import Derived.Test.YtcjjobciokfehaaGreatDoorAu2
import Derived.Test.YtcjjobciokfehaaGreatDoorMg41
import Derived.Test.YtcjjobciokfehaaGreatDoorGs8
namespace Go.Proofs.YtcjjobciokfehaaGreatDoor
open Go.RowKit Go.Shelf
attribute [local go_sem] Oper.semAt_some
theorem addrsI (p:Option Addr) (n cap:Nat) (w:World) :
  Calls Tryz.prog 28 #[.slice p n cap] w fun e w'=>e=.returned (.func (.func 51) #[] #[.pointer (some ⟨w.heap.size,0,none⟩)])∧w'=w.alloc (.cells #[.slice p n cap] 25):=by
 go_enter Tryz.func28,Tryz.ntmps28;go_wp2_with fail;go_ret;exact ⟨rfl,rfl⟩
theorem own_mono {w:World} {b b':Nat} {e:TypeId} {size:Nat} {v:Value} {n:Nat} {xs:List Value} (h:w.ownsRow b' e size v n xs) (hb:b≤b'):w.ownsRow b e size v n xs:=by
 refine ⟨h.1,h.2.imp id ?_⟩;rintro ⟨g,cap,cur,h1,h2,h3⟩;exact ⟨g,cap,cur,h1,Nat.le_trans hb h2,h3⟩
def UsedAPost (f:List NT) (w:World) (e:Ending) (w':World):Prop:=∃ v,e=.returned v∧OwnA w' w.heap.size v (usedAR f)∧Ext w w'
set_option maxRecDepth 100000 in
set_option maxHeartbeats 8000000 in
theorem usedAI (v:Value) (f:List NT) (w:World) (h:NodesIn w v f) (hr:∀ x ∈ f,x.fits) (hl:f.length≤1048576) (hT:Tens w) (hE:ErrTab w) (hO:OpTab w) (LW:LibW w) (IT:ItoaC w) :
  Calls Tryz.prog 12 #[v] w fun e w'=>UsedAPost f w e w':=by
 have C0:=goodFI v f w h hr hl hT hE hO LW IT;rw [good_same goodK] at C0;have HLN:Hid (goodSF NT.good f=true→f.length≤300):=fun hh=>by
  rcases Nat.lt_or_ge 300 f.length with h' | h'
  ·rw [goodSF_long (Or.inr h')] at hh;cases hh
  ·exact h'
 have HGN:Hid (goodSF NT.good f=true→∀ x ∈ f,x.good=true):=fun hh=>good_nodes hh;have HNB:Hid (NodesIn w v f):=h;obtain ⟨p,cap,rfl,hc,hrow⟩:=h;obtain ⟨n,hn⟩:∃ n,f.length=n:=⟨_,rfl⟩;have HN:Hid (f.length=n):=hn;rw [hn] at hc C0 HLN HNB ⊢;obtain ⟨G,hG⟩:∃ G,goodSF NT.good f=G:=⟨_,rfl⟩;have HG:Hid (goodSF NT.good f=G):=hG;rw [hG] at C0 HLN HGN;clear hn hrow hG hr hl hT hE hO LW IT;refine (callsIn_wide (n:=5)).1 ?_;refine callsIn_of_wp_marks Tryz.func12 rfl trivial ?_ rfl;simp only [Tryz.ntmps12,List.size_toArray,List.length_cons,List.length_nil,Nat.reduceAdd,Nat.reduceSub,Array.replicate_succ,Array.replicate_zero,List.push_toArray,List.append_toArray,List.nil_append,List.cons_append];cases G
 ·gi_wp2_with (refine ⟨trivial,?_⟩;gi_at_call 9;refine (callsIn_wide.2 C0).mono ?_;rintro e w1 ⟨rfl,e1⟩)
  have hur:usedAR f=[]:=by unfold usedAR;rw [HG.out];rfl
  exact ⟨_,results_tmp rfl _ _ _,_,rfl,by rw [hur];exact World.ownsRow_nil _ _ _ _,e1⟩
 ·have hn3:n≤300:=HLN.out rfl;have hgd:=HGN.out rfl
  gi_wp2_with (refine ⟨trivial,?_⟩;first | (gi_at_call 9;refine (callsIn_wide.2 C0).mono ?_;rintro e w1 ⟨rfl,e1⟩) | (gi_at_call 28;refine (callsIn_wide.2 (addrsI p n cap _)).mono ?_;rintro e w2 ⟨rfl,rfl⟩))
  have bS:Boxed ((w1.alloc (.cells #[.slice none 0 0] 29)).alloc (.cells #[.slice p n cap] 25)) w1.heap.size 29 (.slice none 0 0):=(Boxed.new w1 29 (.slice none 0 0)).alloc _;have hB0:Below w1.heap.size w1 ((w1.alloc (.cells #[.slice none 0 0] 29)).alloc (.cells #[.slice p n cap] 25)):=((Below.refl _ w1).alloc (Nat.le_refl _) _).alloc (by simp) _;have cF:((w1.alloc (.cells #[.slice none 0 0] 29)).alloc (.cells #[.slice p n cap] 25)).cell? ⟨w1.heap.size+1,0,none⟩=some (.slice p n cap):=by
   have:=(vec_made (w1.alloc (.cells #[.slice none 0 0] 29)) [.slice p n cap] 25 0 _ rfl).1;rw [World.size_alloc] at this;exact this
  have hsz:((w1.alloc (.cells #[.slice none 0 0] 29)).alloc (.cells #[.slice p n cap] 25)).heap.size=w1.heap.size+2:=by simp
  obtain ⟨W0,hW0⟩:∃ W0,(w1.alloc (.cells #[.slice none 0 0] 29)).alloc (.cells #[.slice p n cap] 25)=W0:=⟨_,rfl⟩;change (Code.rangeFunc _ _ _ _).wpIn _ _ _ _ _ ((w1.alloc (.cells #[.slice none 0 0] 29)).alloc (.cells #[.slice p n cap] 25));rw [hW0] at bS hB0 cF hsz ⊢;clear hW0;have hNB:NodesBelow w1.heap.size W0 (.slice p n cap) f:=((HNB.out.later e1).below).below hB0;have HE1:Hid (Ext w w1):=e1;clear C0 HNB HGN HLN e1;refine wpIn_rangeFunc_ownH (α:=YA f) rfl (by omega) (gf:=51) (lb:=#[.pointer (some ⟨w1.heap.size+1,0,none⟩)]) rfl trivial (enters_of Tryz.func51 (by kernel_rfl) rfl)
   (addr_stops Fence.wide (5 - 1) trivial rfl (by omega) (w1.heap.size+1) w1.heap.size (.slice p n cap) f (by rw [HN.out];omega) W0 (by omega) (by omega) cF hNB) belowK_t (belowK_b (by omega)) (Below.refl _ _) (fun _=>rfl)
   (fun pre W=>(∃ ov,Boxed W w1.heap.size 29 ov∧W.ownsRow w1.heap.size 61 8 ov (usedY pre).length (flatA (usedY pre))∧True)∧Below w1.heap.size w1 W)
   (fun _ _ _=>False)
   (OwnFrom.and (Own.from (holdsRow_own w1.heap.size w1.heap.size 29 61 8 (fun pre:List (YA f)=>(usedY pre).length) (fun pre=>flatA (usedY pre)) (fun _ _=>True)) _) (ownFrom_below (Nat.le_refl _) (by omega)))
   (fun _ _ _ _ _ hs _ _=>hs)
   ⟨⟨_,bS,World.ownsRow_nil _ _ _ _,trivial⟩,hB0⟩
   (fun y a' W=>∃ Bx,w1.heap.size<Bx∧BoxN W Bx 61 [.int .i64 y.x.r,.int .i64 y.x.c,.bool y.x.f,.bool y.x.g,.int .i64 y.x.er,.int .i64 y.x.ec,.bool y.x.ef,.bool y.x.eg]∧a'={ tmps:=#[.slice p n cap,undef,.slice none 0 0,.pointer (some ⟨w1.heap.size,0,none⟩),undef,.pointer (some ⟨Bx,0,none⟩),undef,.slice p n cap,.bool true,.bool false,.slice p n cap,.func (.func 51) #[] #[.pointer (some ⟨w1.heap.size+1,0,none⟩)],.int .i64 (y.i:Int),.agg #[.int .i64 y.x.r,.int .i64 y.x.c,.bool y.x.f,.bool y.x.g,.int .i64 y.x.er,.int .i64 y.x.ec,.bool y.x.ef,.bool y.x.eg],undef,undef,undef,undef,undef,undef,undef,undef,undef,undef,undef,undef],defers:=[] })
   (fun y a' _ X Y row hs hg hr=>by obtain ⟨Bx,h1,h2,h3⟩:=hs;exact ⟨Bx,h1,boxN_own Bx 61 (fun (_:Unit)=>[.int .i64 y.x.r,.int .i64 y.x.c,.bool y.x.f,.bool y.x.g,.int .i64 y.x.er,.int .i64 y.x.ec,.bool y.x.ef,.bool y.x.eg]) () X Y row h2 hg (fun r e=>(hr r e).2),h3⟩)
   ?assign ?body ?done ?stop
  case assign =>
   rintro l' pre y W K ⟨⟨ov,hv,hrow,_⟩,hB1⟩ hK;have hKK:=hK { tmps:=#[.slice p n cap,undef,.slice none 0 0,.pointer (some ⟨w1.heap.size,0,none⟩),undef,.pointer (some ⟨W.heap.size,0,none⟩),undef,.slice p n cap,.bool true,.bool false,.slice p n cap,.func (.func 51) #[] #[.pointer (some ⟨w1.heap.size+1,0,none⟩)],.int .i64 (y.i:Int),.agg #[.int .i64 y.x.r,.int .i64 y.x.c,.bool y.x.f,.bool y.x.g,.int .i64 y.x.er,.int .i64 y.x.ec,.bool y.x.ef,.bool y.x.eg],undef,undef,undef,undef,undef,undef,undef,undef,undef,undef,undef,undef],defers:=[] } (W.alloc (.cells #[.int .i64 y.x.r,.int .i64 y.x.c,.bool y.x.f,.bool y.x.g,.int .i64 y.x.er,.int .i64 y.x.ec,.bool y.x.ef,.bool y.x.eg] 61))
    ((KeepsOthers.alloc _ _).from _) ((Below.refl _ W).alloc hB1.size _) ⟨⟨ov,hv.alloc _,hrow.alloc _,trivial⟩,hB1.alloc hB1.size _⟩ ⟨W.heap.size,(Array.getElem?_eq_some_iff.1 hv).1,BoxN.new W 61 [.int .i64 y.x.r,.int .i64 y.x.c,.bool y.x.f,.bool y.x.g,.int .i64 y.x.er,.int .i64 y.x.ec,.bool y.x.ef,.bool y.x.eg],rfl⟩
   clear hK;unfold encY
   gi_wp2
   exact hKK
  case body =>
   rintro l' pre y a' W hl' ⟨r,hr⟩ ⟨⟨ov,hv,hrow,_⟩,hB1⟩ ⟨Bx,hBx,bX,rfl⟩ hlt;have hgy:=good_ends (hgd y.x (List.mem_of_getElem? y.hx)) y.hk;have HQ:Hid (usedY (pre++[y])=addA (usedY pre) y.x.ar):=usedY_snoc pre y;have hlen:(usedY pre).length≤300:=by have:=usedY_len pre;rw [HN.out] at hlt;omega
   obtain ⟨yi,yx,yhx,yhk⟩:=y;unfold NT.ar at HQ;dsimp only at HQ hgy bX ⊢;generalize yx.er=r2 at HQ hgy bX ⊢;generalize yx.ec=c2 at HQ hgy bX ⊢;generalize yx.ef=f2 at bX ⊢;generalize yx.eg=g2 at bX ⊢;generalize yx.r=r1 at HQ hgy bX ⊢;generalize yx.c=c1 at HQ hgy bX ⊢;generalize yx.f=f1 at bX ⊢;generalize yx.g=g1 at bX ⊢;have CB:=blockOf r1 c1 f1 g1 r2 c2 f2 g2 W hgy;obtain ⟨n1,hn1⟩:∃ q,lo r1 r2=q:=⟨_,rfl⟩;obtain ⟨n5,hn5⟩:∃ q,hi r1 r2=q:=⟨_,rfl⟩;obtain ⟨n2,hn2⟩:∃ q,lo c1 c2=q:=⟨_,rfl⟩;obtain ⟨n6,hn6⟩:∃ q,hi c1 c2=q:=⟨_,rfl⟩;rw [hn1,hn5,hn2,hn6] at CB HQ;clear hn1 hn5 hn2 hn6 hgy;obtain ⟨L,hL⟩:∃ L,usedY pre=L:=⟨_,rfl⟩;rw [hL] at hrow HQ hlen;have hrow':OwnA W w1.heap.size ov L:=hrow;obtain ⟨q,c,rfl,_⟩:=ownA_slice hrow';have HAD:Hid (addA L (n1,n2,n5,n6)=if decide ((n1,n2,n5,n6) ∈ L)=true then L else L++[(n1,n2,n5,n6)]):=by
    show _=_;unfold addA;by_cases hm:(n1,n2,n5,n6) ∈ L
    ·rw [if_pos hm,if_pos (decide_eq_true hm)]
    ·rw [if_neg hm,if_neg (by rw [decide_eq_false hm];simp)]
   have HCA:Hid (∀ W',Ext W W'→Calls Tryz.prog 31 #[.slice q L.length c,.agg #[.int .i64 n1,.int .i64 n2,.bool false,.bool false,.int .i64 n5,.int .i64 n6,.bool false,.bool false]] W' fun e w'=>e=.returned (.bool (decide ((n1,n2,n5,n6) ∈ L)))∧Ext W' w'):=fun W' X=>containsA _ L (n1,n2,n5,n6) W' (ownA_in (own_later hrow' X)) (by omega);obtain ⟨DD,hD⟩:∃ q,decide ((n1,n2,n5,n6) ∈ L)=q:=⟨_,rfl⟩;rw [hD] at HCA HAD;clear hD hL;obtain ⟨m,hm⟩:∃ m,L.length=m:=⟨_,rfl⟩;have HM:Hid (L.length=m):=hm;rw [hm] at hrow HCA hv hlen;have HROW:Hid (W.ownsRow w1.heap.size 61 8 (.slice q m c) m (flatA L)):=hrow;have HV:Hid (Boxed W w1.heap.size 29 (.slice q m c)):=hv;have hBW:=hB1.size;have HB1:Hid (Below w1.heap.size w1 W):=hB1;have k0:=(bX.vec 0 _ rfl).1;have k1:=(bX.vec 1 _ rfl).1;have k2:=(bX.vec 2 _ rfl).1;have k3:=(bX.vec 3 _ rfl).1;have k4:=(bX.vec 4 _ rfl).1;have k5:=(bX.vec 5 _ rfl).1;have k6:=(bX.vec 6 _ rfl).1;have k7:=(bX.vec 7 _ rfl).1;clear hm hrow hrow' hv bX hB1;obtain ⟨inf,hi,hz,hz1,hz2⟩:=infoA';have hltB:w1.heap.size<W.heap.size:=(Array.getElem?_eq_some_iff.1 HV.out).1;cases DD
   ·gi_wp2_with (first
     | (refine ⟨trivial,?_⟩;gi_at_call 29;refine (CallsIn.inRound l' (callsIn_wide.2 CB)).mono ?_;rintro e w2 ⟨rfl,e2⟩)
     | (refine ⟨trivial,?_⟩;gi_at_call 30;refine (CallsIn.inRound l' (callsIn_wide.2 (blockArea n1 n5 n2 n6 w2))).mono ?_;rintro e w3 ⟨rfl,e3⟩;have E3:=xt e2 e3;have XB:=x1 w3 (.cells #[.int .i64 n1,.int .i64 n2,.bool false,.bool false,.int .i64 n5,.int .i64 n6,.bool false,.bool false] 61);have EX:=xt E3 XB;have VB:=vec_made w3 [.int .i64 n1,.int .i64 n2,.bool false,.bool false,.int .i64 n5,.int .i64 n6,.bool false,.bool false] 61;change Vec (w3.alloc (.cells #[.int .i64 n1,.int .i64 n2,.bool false,.bool false,.int .i64 n5,.int .i64 n6,.bool false,.bool false] 61)) _ _ at VB;have c0:=(VB 0 _ rfl).1;have c1:=(VB 1 _ rfl).1;have c2:=(VB 2 _ rfl).1;have c3:=(VB 3 _ rfl).1;have c4:=(VB 4 _ rfl).1;have c5:=(VB 5 _ rfl).1;have c6:=(VB 6 _ rfl).1;have c7:=(VB 7 _ rfl).1;have co:=cell_later EX HV.out.cell)
     | (refine ⟨trivial,?_⟩;gi_at_call 31;refine (CallsIn.inRound l' (callsIn_wide.2 (HCA.out _ EX))).mono ?_;rintro e w5 ⟨rfl,e5⟩;have E5:=xt EX e5;have d0:=cell_later e5 c0;have d1:=cell_later e5 c1;have d2:=cell_later e5 c2;have d3:=cell_later e5 c3;have d4:=cell_later e5 c4;have d5:=cell_later e5 c5;have d6:=cell_later e5 c6;have d7:=cell_later e5 c7;have co5:=cell_later e5 co;have hv5:Boxed w5 w1.heap.size 29 (.slice q m c):=(E5.block _ hltB).trans HV.out;have hrow5:=own_later HROW.out E5;have hW5:w1.heap.size≤w5.heap.size:=Nat.le_trans hBW E5.size)
     | (gi_at_builtin;refine wpListIn_append_own _ rfl _ _ 29 rfl w1.heap.size 61 inf (arV 0 0 false false 0 0 false false) 8 48 Tryz.underlying29 hi hz hz1 hz2 rfl (by decide) _ _ _ rfl (hrow5.alloc _) ⟨w5.heap.size,0,none⟩ 1 1 [.int .i64 n1,.int .i64 n2,.bool false,.bool false,.int .i64 n5,.int .i64 n6,.bool false,.bool false] rfl rfl (World.news_of_block (heap_alloc_new w5 (.cells [.int .i64 n1,.int .i64 n2,.bool false,.bool false,.int .i64 n5,.int .i64 n6,.bool false,.bool false].toArray 61))) (by simp [Value.oneCell']) (by simp only [maxLen];omega) (by omega) (by simp;omega) ?_;intro v' w6 hown' hg3 hnil3;obtain ⟨g',cap',rfl⟩:=ownsRow_succ hown';obtain ⟨b1,b2,b3,b4,b5⟩:=Boxed.appended hv5 (by decide) hrow5 hW5 (Nat.le_refl _) hown' hg3;have hc3:=b1.cell;have hf3:=b1.frozen))
    have G1:W.grownBy w5 none:=⟨E5.os,E5.tape,E5.output,E5.size,fun k hk _=>E5.block k hk⟩;have e0:usedY (pre++[⟨yi,yx,yhx,yhk⟩])=L++[(n1,n2,n5,n6)]:=(by rw [HQ.out,HAD.out];rfl);refine ⟨(KeepsFrom.of_grownBy G1 (fun j e=>by cases e)).trans (b4.from _),(E5.mono hBW).trans b5,⟨⟨_,b2,?_,trivial⟩,HB1.out.trans ((E5.mono hBW).trans b5)⟩⟩;rw [e0,List.length_append,HM.out,flatA_append];exact b3
   ·gi_wp2_with (first
     | (refine ⟨trivial,?_⟩;gi_at_call 29;refine (CallsIn.inRound l' (callsIn_wide.2 CB)).mono ?_;rintro e w2 ⟨rfl,e2⟩)
     | (refine ⟨trivial,?_⟩;gi_at_call 30;refine (CallsIn.inRound l' (callsIn_wide.2 (blockArea n1 n5 n2 n6 w2))).mono ?_;rintro e w3 ⟨rfl,e3⟩;have E3:=xt e2 e3;have XB:=x1 w3 (.cells #[.int .i64 n1,.int .i64 n2,.bool false,.bool false,.int .i64 n5,.int .i64 n6,.bool false,.bool false] 61);have EX:=xt E3 XB;have VB:=vec_made w3 [.int .i64 n1,.int .i64 n2,.bool false,.bool false,.int .i64 n5,.int .i64 n6,.bool false,.bool false] 61;change Vec (w3.alloc (.cells #[.int .i64 n1,.int .i64 n2,.bool false,.bool false,.int .i64 n5,.int .i64 n6,.bool false,.bool false] 61)) _ _ at VB;have c0:=(VB 0 _ rfl).1;have c1:=(VB 1 _ rfl).1;have c2:=(VB 2 _ rfl).1;have c3:=(VB 3 _ rfl).1;have c4:=(VB 4 _ rfl).1;have c5:=(VB 5 _ rfl).1;have c6:=(VB 6 _ rfl).1;have c7:=(VB 7 _ rfl).1;have co:=cell_later EX HV.out.cell)
     | (refine ⟨trivial,?_⟩;gi_at_call 31;refine (CallsIn.inRound l' (callsIn_wide.2 (HCA.out _ EX))).mono ?_;rintro e w5 ⟨rfl,e5⟩;have E5:=xt EX e5;have d0:=cell_later e5 c0;have d1:=cell_later e5 c1;have d2:=cell_later e5 c2;have d3:=cell_later e5 c3;have d4:=cell_later e5 c4;have d5:=cell_later e5 c5;have d6:=cell_later e5 c6;have d7:=cell_later e5 c7;have co5:=cell_later e5 co;have hv5:Boxed w5 w1.heap.size 29 (.slice q m c):=(E5.block _ hltB).trans HV.out;have hrow5:=own_later HROW.out E5;have hW5:w1.heap.size≤w5.heap.size:=Nat.le_trans hBW E5.size))
    have G1:W.grownBy w5 none:=⟨E5.os,E5.tape,E5.output,E5.size,fun k hk _=>E5.block k hk⟩;have e0:usedY (pre++[⟨yi,yx,yhx,yhk⟩])=L:=(by rw [HQ.out,HAD.out];rfl);refine ⟨KeepsFrom.of_grownBy G1 (fun j e=>by cases e),E5.mono hBW,⟨⟨_,hv5,?_,trivial⟩,HB1.out.trans (E5.mono hBW)⟩⟩;rw [e0,HM.out];exact hrow5
  case done =>
   rintro D ys W hD rfl ⟨⟨ov,hv,hrow,_⟩,hB⟩ hK;have hc:=hv.cell
   gi_wp2
   refine ⟨by simp,.inl ⟨_,_,rfl,run_takeDeferred hK,?_⟩⟩;have hX:=xt HE1.out (hB.trans (belowK_b (w:=w1) (Nat.le_refl _) W D _ (.deferred none) (by omega) hK rfl rfl));have hur:usedAR f=usedY (adrT f f.length):=by unfold usedAR;rw [HG.out];rfl
   exact ⟨_,results_tmp rfl _ _ _,_,rfl,by rw [hur];exact own_mono (ownsRow_putObj hrow _ hK rfl) HE1.out.size,hX⟩
  case stop =>
   rintro D c pre W _ _ h _;exact h.elim
end Go.Proofs.YtcjjobciokfehaaGreatDoor

