/-
  Several texts in one: X9f, V7f, W9t, X9g.
-/
import Derived.Test.YtkadkfmidlhedaaGreatDoorMg23
import Derived.Test.YtkadkfmidlhedaaGreatDoorMg24
import Derived.Deep.RegionHeld3
import Derived.Laws.IdiomStrings
namespace Go.Proofs.YtkadkfmidlhedaaGreatDoor
open Go.RowKit
def okE (e:VT):Prop:=0≤e.d∧e.d<1000000000000000∧e.t.length≤2000
theorem Only.own {w w':World} {b base:Nat} {v:Value} {l:List VT} (o:Only b w w') (h:OwnW w base v l) (hb:b<base):OwnW w' base v l:=ownW_keep h o.to_grown (fun k hk=>by cases hk;exact hb)
theorem finGC {a w:World} {b base K g:Nat} (V:Vec w g [.int .i64 0,.int .i64 0,.slice none 0 0]) (C:Cur w b base K) (O:Only b a w) (hg:a.heap.size≤g) (hb:b ≠ g) (hbase:base≤g) (R C':Int) (p:Option Addr) (n c:Nat) {bs:Nat} {l:List VT} (OW:OwnW w bs (.slice p n c) l) (hbs:g<bs) :
  ∃ wy,((w.setCell ⟨g,0,none⟩ (.int .i64 R)).setCell ⟨g,1,none⟩ (.int .i64 C')).setCell ⟨g,2,none⟩ (.slice p n c)=wy∧Only b a wy∧Cur wy b base K∧(w.cell? ⟨g,0,none⟩=some (.int .i64 0)∧w.cell? ⟨g,1,none⟩=some (.int .i64 0)∧w.cell? ⟨g,2,none⟩=some (.slice none 0 0))∧(w.frozen? ⟨g,0,none⟩=false∧w.frozen? ⟨g,1,none⟩=false∧w.frozen? ⟨g,2,none⟩=false)∧wy.cell? ⟨g,0,none⟩=some (.int .i64 R)∧wy.cell? ⟨g,1,none⟩=some (.int .i64 C')∧wy.cell? ⟨g,2,none⟩=some (.slice p n c)∧OwnW wy bs (.slice p n c) l:=by
 obtain ⟨v0,v1,v2⟩:=Vec.three (((V.put 0 (by simp) (.int .i64 R)).put 1 (by simp) (.int .i64 C')).put 2 (by simp) (.slice p n c));exact ⟨_,rfl,((O.setNew hg _).setNew hg _).setNew hg _,((C.far hb hbase _).far hb hbase _).far hb hbase _,V.three,V.threeF,v0,v1,v2,ownW_far (ownW_far (ownW_far OW (p:=⟨_,_,_⟩) hbs _) (p:=⟨_,_,_⟩) hbs _) (p:=⟨_,_,_⟩) hbs _⟩
set_option maxRecDepth 8000 in
set_option maxHeartbeats 2000000 in
theorem gridC (b base K:Nat) (w:World) (h:Cur w b base K) (hK:K≤100000) :
  Calls Tryz.prog 58 #[.pointer (some ⟨b,0,none⟩),.int .i64 4] w fun e w'=>(∃ (R C:Nat) (sv:Value) (l:List VT),e=.returned (grV R C sv)∧OwnW w' w.heap.size sv l∧(1≤R∧R≤4)∧(1≤C∧C≤4)∧l.length=R * C∧∀ q ∈ l,okE q)∧Cur w' b base (K+700)∧Only b w w':=by
 have bl:=h.lt;have bb:=h.baseC;have X0:=x1 w (.cells #[.int .i64 0,.int .i64 0,.slice none 0 0] 35);have V0:=vec_made w [.int .i64 0,.int .i64 0,.slice none 0 0] 35;have C0:=h.ext X0;go_enter Tryz.func58,Tryz.ntmps58;go_wp2_with fail;refine (pickC b base K 4 _ C0 (by omega) (by omega) (by omega)).mono ?_;rintro e w1 ⟨r,rfl,⟨r0,r9⟩,C1,o1⟩;have V1:=o1.vecC (by omega) V0;have O1:=(Only.of_ext X0).trans o1;clear C0 o1 X0 V0;go_wp2_with fail;refine (pickC b base _ 4 _ C1 (by omega) (by omega) (by omega)).mono ?_;rintro e w2 ⟨c,rfl,⟨c0,c9⟩,C1,o1⟩;have V1:=o1.vecC (by omega) V1;have O1:=O1.trans o1;clear o1;obtain ⟨R,hR⟩:∃ R:Nat,1+r=(R:Int):=⟨(1+r).toNat,by omega⟩;obtain ⟨C,hC⟩:∃ C:Nat,1+c=(C:Int):=⟨(1+c).toNat,by omega⟩;have wR:IntKind.i64.wrap (1+r)=(R:Int):=by rw [hR,IntKind.wrap_i64];omega
 have wC:IntKind.i64.wrap (1+c)=(C:Int):=by rw [hC,IntKind.wrap_i64];omega
 have hR1:1≤R∧R≤4:=by omega
 have hC1:1≤C∧C≤4:=by omega
 obtain ⟨N,hN⟩:∃ N:Nat,R * C=N:=⟨_,rfl⟩;have hN4:N≤16:=by rw [← hN];exact Nat.mul_le_mul hR1.2 hC1.2
 have hNi:(R:Int) * (C:Int)=(N:Int):=by rw [← hN,Int.natCast_mul]
 have hwr:IntKind.i64.wrap ((R:Int) * (C:Int))=(N:Int):=by rw [hNi,IntKind.wrap_i64];omega
 have lt2:=C1.lt;have ltV:w.heap.size<w2.heap.size:=World.block_lt_of_cell? _ _ (V1 0 _ rfl).1;obtain ⟨wz,w3,hz,hy,BO,XO,⟨z0,z1,z2⟩,fz0,fz1,fz2⟩:=newG w2 R C none 0 0;have C1:=C1.ext XO;have V1:=V1.later XO;have O1:=O1.trans (Only.of_ext XO);go_wp2_with fail;clear hz hy z0 z1 z2 fz0 fz1 fz2 XO wR wC;obtain ⟨gO,hgO⟩:∃ g,w2.heap.size=g:=⟨_,rfl⟩;rw [hgO] at BO lt2 ltV ⊢;clear hgO;have HV0:Hid (Vec w3 gO [.int .i64 R,.int .i64 C,.slice none 0 0]∧OwnW w3 (gO+1) (.slice none 0 0) []∧(∀ q ∈ ([]:List VT),okE q)∧Cur w3 b base (K+2+2+0 * 40)∧Only b w w3∧Vec w3 w.heap.size [.int .i64 0,.int .i64 0,.slice none 0 0]):=⟨BO,World.ownsRow_nil _ _ _ _,by simp,C1,O1,V1⟩;clear BO C1 O1 V1;go_loopw [6] (fun i wr=>∃ (q:Nat) (sv:Value) (l:List VT),q≤N∧i=.int .i64 q∧l.length=q∧Hid (Vec wr gO [.int .i64 R,.int .i64 C,sv]∧OwnW wr (gO+1) sv l∧(∀ q ∈ l,okE q)∧Cur wr b base (K+2+2+q * 40)∧Only b w wr∧Vec wr w.heap.size [.int .i64 0,.int .i64 0,.slice none 0 0])) (fun i _=>N - (intOf i).toNat)
 case atStart=>exact ⟨0,_,[],by omega,rfl,rfl,HV0⟩
 case round =>
  obtain ⟨q,sv,l,hq,rfl,hlq,HV⟩:=hrel;obtain ⟨VO,OW,HE,C1,O1,V1⟩:=HV.out;clear HV0;obtain ⟨ps,ns,cs,rfl⟩:=ownW_slice OW;obtain ⟨a0,a1,a2⟩:=Vec.three VO;by_cases hlt:q<N
  ·have i2:(q:Int)<(N:Int):=by omega
   have hltb:decide ((q:Int)<(N:Int))=true:=by simpa using i2
   go_wp2_with fail;clear a0 a1 a2;refine wp_region_letters (fun lx:Nat→Value=>{ tmps:=#[Value.pointer (some ⟨b,0,none⟩),Value.int .i64 4,undef,undef,Value.pointer (some ⟨w.heap.size,0,none⟩),Value.pointer (some ⟨gO,0,none⟩),Value.int .i64 (q:Int),Value.pointer (some ⟨b,0,none⟩),Value.int .i64 4,Value.int .i64 r,Value.int .i64 (R:Int),Value.pointer (some ⟨b,0,none⟩),Value.int .i64 4,Value.int .i64 c,Value.int .i64 (C:Int),Value.agg #[Value.int .i64 (R:Int),Value.int .i64 (C:Int),Value.slice none 0 0],Value.int .i64 (q:Int),Value.pointer (some ⟨gO,0,none⟩),Value.int .i64 (R:Int),Value.pointer (some ⟨gO,1,none⟩),Value.int .i64 (C:Int),Value.int .i64 (N:Int),Value.bool true,u23,u24,lx 25,lx 26,lx 27,lx 28,lx 29,lx 30,lx 31,undef],defers:=[] }) (fun L lx lw=>Hid (Only b w lw∧(L 3=false→Cur lw b base (K+2+2+q * 40))∧(L 3=true→Cur lw b base ((K+2+2+q * 40)+40))∧(L 7=false→Vec lw gO [.int .i64 (R:Int),.int .i64 (C:Int),Value.slice ps ns cs])∧(L 5=false→OwnW lw (gO+1) (Value.slice ps ns cs) l)∧(L 0=true→lx 25=Value.pointer (some ⟨gO,2,none⟩))∧(L 1=true→lx 26=Value.slice ps ns cs)∧(L 2=true→lx 27=Value.pointer (some ⟨b,0,none⟩))∧(L 3=true→∃ e:VT,lx 28=e.val∧okE e)∧(L 4=true→∃ (e:VT) (g:Nat),lx 29=.slice (some ⟨g,0,none⟩) 1 1∧okE e∧g ≠ b∧(L 5=false→Vec lw g e.cells))∧(L 5=true→∃ (e:VT) (p:Option Addr) (n c:Nat),okE e∧lx 30=.slice p n c∧OwnW lw (gO+1) (.slice p n c) (l++[e]))∧(L 6=true→lx 31=Value.pointer (some ⟨gO,2,none⟩))∧(L 7=true→∃ (e:VT) (p:Option Addr) (n c:Nat),okE e∧OwnW lw (gO+1) (.slice p n c) (l++[e])∧Vec lw gO [.int .i64 (R:Int),.int .i64 (C:Int),.slice p n c])∧(L 7=true→L 5=true)∧(L 5=true→L 3=true)∧Vec lw w.heap.size [.int .i64 0,.int .i64 0,.slice none 0 0]∧gO<lw.heap.size∧(L 4=true→L 3=true)∧(L 5=true→L 1=true))) rfl (by kernel_rfl) (fun jj=>if jj=25 then u25 else if jj=26 then u26 else if jj=27 then u27 else if jj=28 then u28 else if jj=29 then u29 else if jj=30 then u30 else if jj=31 then u31 else undef) rfl ?_ ?_ ?_
   ·have DD:=xd (xr wr);exact ⟨O1.trans (Only.of_ext DD),(fun _=>C1.ext DD),(fun z=>by cases z),(fun _=>VO.later DD),(fun _=>ownW_later OW DD),(fun z=>by cases z),(fun z=>by cases z),(fun z=>by cases z),(fun z=>by cases z),(fun z=>by cases z),(fun z=>by cases z),(fun z=>by cases z),(fun z=>by cases z),(fun z=>by cases z),(fun z=>by cases z),V1.later DD,World.block_lt_of_cell? _ _ ((VO.later DD) 0 _ rfl).1,(fun z=>by cases z),(fun z=>by cases z)⟩
   ·intro L lx wl i o K1 hK ho hL haf hI;obtain ⟨f0,f1,f2,f3,f4,f5,f6,f7,f8,f9,f10,f11,f12,f13,f14,f15,f16,f17,f18⟩:=hI.out
    match i,ho,hL,haf,hK with
    | 0,ho,hL,haf,hK =>
     cases ho
     (try dsimp only)
     go_wp2_with fail;exact hK (fun jj=>if jj=25 then Value.pointer (some ⟨gO,2,none⟩) else lx jj) _ ⟨f0,f1,f2,f3,f4,(fun _=>rfl),f6,f7,f8,f9,f10,f11,f12,f13,f14,f15,f16,f17,f18⟩
    | 1,ho,hL,haf,hK =>
     cases ho
     (try dsimp only)
     have h7:L 7=false:=by
      cases hh:L 7 with
      | false=>rfl
      | true=>exact absurd (f13 hh) (fun z=>by have:=f18 z;rw [hL] at this;cases this)
     have a2:=((f3 h7) 2 _ rfl).1;rw [f5 (haf ⟨0,.data⟩ (by simp) rfl)];go_wp2_with fail;exact hK (fun jj=>if jj=26 then Value.slice ps ns cs else if jj=25 then Value.pointer (some ⟨gO,2,none⟩) else lx jj) _ ⟨f0,f1,f2,f3,f4,(fun _=>rfl),(fun _=>rfl),f7,f8,f9,f10,f11,f12,f13,f14,f15,f16,f17,(fun _=>rfl)⟩
    | 2,ho,hL,haf,hK =>
     cases ho
     (try dsimp only)
     go_wp2_with fail;exact hK (fun jj=>if jj=27 then Value.pointer (some ⟨b,0,none⟩) else lx jj) _ ⟨f0,f1,f2,f3,f4,f5,f6,(fun _=>rfl),f8,f9,f10,f11,f12,f13,f14,f15,f16,f17,f18⟩
    | 3,ho,hL,haf,hK =>
     cases ho
     (try dsimp only)
     rw [f7 (haf ⟨2,.data⟩ (by simp) rfl)];go_wp2_with fail;refine (valueC b base _ wl (f1 hL) (by omega)).mono ?_;rintro rr w' ⟨⟨k1,n1,d1,x1',t1,rfl,q1,q2,q3⟩,CC,o⟩;go_wp2_with fail;exact hK (fun jj=>if jj=28 then valV k1 n1 d1 x1' t1 else if jj=27 then Value.pointer (some ⟨b,0,none⟩) else lx jj) _ ⟨(f0.trans o),(fun z=>by cases z),(fun _=>CC),(fun z=>o.vecC (by omega) (f3 z)),(fun z=>o.own (f4 z) (by omega)),f5,f6,(fun _=>rfl),(fun _=>⟨⟨k1,n1,d1,x1',t1⟩,rfl,q1,q2,q3⟩),(fun z=>by obtain ⟨e,g,g1,g2,g3,g4⟩:=f9 z;exact ⟨e,g,g1,g2,g3,fun y=>o.vecC g3 (g4 y)⟩),(fun z=>by obtain ⟨e,p,n,c,g1,g2,g3⟩:=f10 z;exact ⟨e,p,n,c,g1,g2,o.own g3 (by omega)⟩),f11,(fun z=>by obtain ⟨e,p,n,c,g1,g2,g3⟩:=f12 z;exact ⟨e,p,n,c,g1,o.own g2 (by omega),o.vecC (by omega) g3⟩),f13,(fun _=>rfl),(o.vecC (by omega) f15),(Nat.lt_of_lt_of_le f16 o.size),(fun _=>rfl),f18⟩
    | 4,ho,hL,haf,hK =>
     cases ho
     (try dsimp only)
     have h3:L 3=true:=(haf ⟨3,.data⟩ (by simp) rfl);obtain ⟨e,e28,oe⟩:=f8 h3;have hbl:=(f2 h3).lt;rw [e28];have E:=x1 wl (.cells #[.int .i64 e.k,.bool e.n,.int .i64 e.d,.int .i64 e.x,sV e.t] 26);have VN:=vec_made wl e.cells 26;go_wp2_with fail;exact hK (fun jj=>if jj=29 then .slice (some ⟨wl.heap.size,0,none⟩) 1 1 else if jj=28 then e.val else lx jj) _ ⟨(f0.trans (Only.of_ext E)),(fun z=>(f1 z).ext E),(fun z=>(f2 z).ext E),(fun z=>(f3 z).later E),(fun z=>ownW_later (f4 z) E),f5,f6,f7,(fun _=>⟨e,rfl,oe⟩),(fun _=>⟨e,wl.heap.size,rfl,oe,by omega,fun _=>VN⟩),(fun z=>by obtain ⟨e,p,n,c,g1,g2,g3⟩:=f10 z;exact ⟨e,p,n,c,g1,g2,ownW_later g3 E⟩),f11,(fun z=>by obtain ⟨e,p,n,c,g1,g2,g3⟩:=f12 z;exact ⟨e,p,n,c,g1,ownW_later g2 E,g3.later E⟩),f13,f14,(f15.later E),(Nat.lt_of_lt_of_le f16 E.size),(fun _=>h3),f18⟩
    | 5,ho,hL,haf,hK =>
     cases ho
     (try dsimp only)
     have h4:L 4=true:=(haf ⟨4,.data⟩ (by simp) rfl);have h3:L 3=true:=f17 h4;have h7:L 7=false:=by
      cases hh:L 7 with
      | false=>rfl
      | true=>have:=f13 hh;rw [hL] at this;cases this
     obtain ⟨e,g,e29,oe,gb,VN⟩:=f9 h4;have VN:Vec wl g [.int .i64 e.k,.bool e.n,.int .i64 e.d,.int .i64 e.x,sV e.t]:=VN hL;have OQ:=f4 hL;rw [f6 (haf ⟨1,.data⟩ (by simp) rfl),e29];obtain ⟨inf,hi,hz,hz1,hz2⟩:=infoW;refine wpList_append_own _ rfl _ _ 33 rfl (gO+1) 26 inf (valV 0 false 0 0 []) 5 48 Tryz.underlying33 hi hz hz1 hz2 rfl (by decide) _ _ _ rfl OQ ⟨g,0,none⟩ 1 1 [.int .i64 e.k,.bool e.n,.int .i64 e.d,.int .i64 e.x,sV e.t] rfl rfl (fun j u hj=>by rw [show (⟨g,0,none⟩:Addr).add j=⟨g,j,none⟩ by unfold Addr.add;split <;> simp_all];exact (VN j u hj).1) (by simp [Value.oneCell']) (by simp only [maxLen];omega) (by omega) (by omega) ?_;intro v7 wC ownC gC _;have lb:=ownW_block OQ;have OC:OwnW wC (gO+1) v7 (l++[e]):=by
      show World.ownsRow _ _ _ _ _ _ _;rw [flatV_append,List.length_append];exact ownC
     obtain ⟨p7,n7,c7,rfl⟩:=ownW_slice OC;go_wp2_with fail;exact hK (fun jj=>if jj=30 then .slice p7 n7 c7 else if jj=26 then Value.slice ps ns cs else if jj=29 then .slice (some ⟨g,0,none⟩) 1 1 else lx jj) _ ⟨(f0.grown gC (fun z hz=>by have:=lb z hz;omega)),(fun z=>(f1 z).grown gC (fun y hy=>by have:=lb y hy;exact ⟨by omega,by omega⟩)),(fun z=>(f2 z).grown gC (fun y hy=>by have:=lb y hy;exact ⟨by omega,by omega⟩)),(fun z=>vec_same (f3 z) (gC.block gO f16 (fun y=>by have:=lb _ y.symm;omega))),(fun z=>by cases z),f5,(fun _=>rfl),f7,f8,(fun _=>⟨e,g,rfl,oe,gb,fun z=>by cases z⟩),(fun _=>⟨e,p7,n7,c7,oe,rfl,OC⟩),f11,(fun z=>Bool.noConfusion (h7.symm.trans z)),(fun z=>rfl),(fun _=>h3),(vec_same f15 (gC.block w.heap.size (by omega) (fun y=>by have:=lb _ y.symm;omega))),(Nat.lt_of_lt_of_le f16 gC.size),f17,(fun _=>(haf ⟨1,.data⟩ (by simp) rfl))⟩
    | 6,ho,hL,haf,hK =>
     cases ho
     (try dsimp only)
     go_wp2_with fail;exact hK (fun jj=>if jj=31 then Value.pointer (some ⟨gO,2,none⟩) else lx jj) _ ⟨f0,f1,f2,f3,f4,f5,f6,f7,f8,f9,f10,(fun _=>rfl),f12,f13,f14,f15,f16,f17,f18⟩
    | 7,ho,hL,haf,hK =>
     cases ho
     (try dsimp only)
     have h5:L 5=true:=(haf ⟨5,.data⟩ (by simp) rfl);obtain ⟨e,p7,n7,c7,oe,e30,OC⟩:=f10 h5;have VC:=f3 hL;have q2:=(VC 2 _ rfl).1;have p2:=(VC 2 _ rfl).2;rw [f11 (haf ⟨6,.data⟩ (by simp) rfl),e30];have VD:Vec (wl.setCell ⟨gO,2,none⟩ (.slice p7 n7 c7)) gO [.int .i64 (R:Int),.int .i64 (C:Int),.slice p7 n7 c7]:=VC.put 2 (by simp) _;have OD:=ownW_far OC (p:=⟨gO,2,none⟩) (Nat.lt_succ_self _) (.slice p7 n7 c7);go_wp2_with fail;exact hK (fun jj=>if jj=30 then .slice p7 n7 c7 else if jj=31 then Value.pointer (some ⟨gO,2,none⟩) else if jj=26 then Value.slice ps ns cs else lx jj) _ ⟨(f0.setNew (by omega) _),(fun z=>(f1 z).far (by omega) (by omega) _),(fun z=>(f2 z).far (by omega) (by omega) _),(fun z=>by cases z),(fun z=>Bool.noConfusion (h5.symm.trans z)),f5,(fun _=>rfl),f7,f8,(fun z=>by obtain ⟨e,g,g1,g2,g3,g4⟩:=f9 z;exact ⟨e,g,g1,g2,g3,fun y=>Bool.noConfusion (h5.symm.trans y)⟩),(fun _=>⟨e,p7,n7,c7,oe,rfl,OD⟩),(fun _=>rfl),(fun _=>⟨e,p7,n7,c7,oe,OD,VD⟩),(fun _=>h5),f14,(f15.far (p:=⟨gO,2,none⟩) (by show gO ≠ _;omega) _),(by rw [World.size_setCell];exact f16),f17,f18⟩
    | k+8,ho,_,_,_=>simp at ho
   ·intro L lx w5 hall hI;obtain ⟨f0,f1,f2,f3,f4,f5,f6,f7,f8,f9,f10,f11,f12,f13,f14,f15,f16,f17,f18⟩:=hI.out;clear hI;obtain ⟨e,p7,n7,c7,oe,OD,VD⟩:=f12 (hall 7 (by simp));have CD:=f2 (hall 3 (by simp));have HVn:Hid (Vec w5 gO [.int .i64 (R:Int),.int .i64 (C:Int),.slice p7 n7 c7]∧OwnW w5 (gO+1) (.slice p7 n7 c7) (l++[e])∧(∀ z ∈ l++[e],okE z)∧Cur w5 b base (K+2+2+(q+1) * 40)∧Only b w w5∧Vec w5 w.heap.size [.int .i64 0,.int .i64 0,.slice none 0 0]):=⟨VD,OD,(fun z hz=>by rcases List.mem_append.1 hz with hz | hz;exact HE z hz;rw [List.mem_singleton.1 hz];exact oe),CD.more (by omega),f0,f15⟩;have hl1:Hid ((l++[e]).length=q+1):=(by show _=_;rw [List.length_append,hlq];rfl);clear hall f0 f1 f2 f3 f4 f5 f6 f7 f8 f9 f10 f11 f12 f13 f14 f15 f16 f17 f18 VD OD CD VO OW HE C1 O1 V1 HV
    (try dsimp only)
    go_wp2_with fail;go_roundw
    case rel=>exact ⟨q+1,_,l++[e],by omega,by go_num,hl1.out,HVn⟩
    case measure=>simp [intOf];omega
  ·obtain rfl:q=N:=by omega
   obtain ⟨wy,hy,OF,CF,⟨b0,b1,b2⟩,⟨fb0,fb1,fb2⟩,fd0,fd1,fd2,OY⟩:=finGC V1 C1 O1 (Nat.le_refl _) (by omega) (by omega) R C ps ns cs (OW) (by omega);go_wp2_with fail;exact bodyPost_ret (v:=grV R C (.slice ps ns cs)) (by simp [results,Tryz.results58,go_sem,fd0,fd1,fd2]) rfl ⟨⟨R,C,_,l,rfl,ownW_base OY (by omega),hR1,hC1,by omega,HE⟩,CF.more (by omega),OF⟩
theorem Vec.put3 {w:World} {b:Nat} {v0 v1 v2:Value} (h:Vec w b [v0,v1,v2]) (u0 u1 u2:Value):Vec (((w.setCell ⟨b,0,none⟩ u0).setCell ⟨b,1,none⟩ u1).setCell ⟨b,2,none⟩ u2) b [u0,u1,u2]:=
 ((h.put 0 (by simp) u0).put 1 (by simp) u1).put 2 (by simp) u2
def RowAt (w:World) (v:Value) (n:Nat) (M:List Value):Prop:=
 M.length=n * 5∧∃ p cap,v=.slice p n cap∧n≤cap∧(0<n→∃ g,p=some ⟨g,0,none⟩∧Vec w g M)
theorem RowAt.later {w w':World} {v:Value} {n:Nat} {M:List Value} (h:RowAt w v n M) (e:Ext w w'):RowAt w' v n M:=by
 obtain ⟨h1,p,cap,hv,hc,hg⟩:=h;refine ⟨h1,p,cap,hv,hc,fun h0=>?_⟩;obtain ⟨g,hp,hV⟩:=hg h0;exact ⟨g,hp,hV.later e⟩
theorem RowAt.of_own {w:World} {g:Nat} {l:List VT} {n:Nat} (h:OwnV w g l) (hn:l.length=n):RowAt w (.slice (some ⟨g,0,none⟩) n n) n (flatV l):=by
 refine ⟨by rw [flatV_length,hn],_,n,rfl,Nat.le_refl _,fun _=>⟨g,rfl,fun i u hi=>?_⟩⟩;have hlt:i<l.length * 5:=by rw [← flatV_length];exact (List.getElem?_eq_some_iff.1 hi).1
 obtain ⟨e,he⟩:∃ e,l[i / 5]?=some e:=⟨_,List.getElem?_eq_getElem (by omega)⟩;have hj:i % 5<5:=Nat.mod_lt _ (by omega);have hi':i / 5 * 5+i % 5=i:=by omega
 have:=flatV_at he (i % 5) hj;rw [hi',hi] at this;have q:=h _ e he (i % 5) u this.symm;rw [hi'] at q;exact q
theorem RowAt.of_row {w:World} {base:Nat} {v:Value} {l:List VT} (h:OwnW w base v l):RowAt w v l.length (flatV l):=by
 refine ⟨flatV_length l,?_⟩
 rcases h.2 with ⟨rfl,h0⟩ | ⟨g,cap,cur,rfl,hb,hg,hc,_,hcs,htake⟩
 ·exact ⟨none,0,by rw [h0],by omega,fun h=>absurd h0 (by omega)⟩
 ·refine ⟨_,cap,rfl,hc,fun _=>⟨g,rfl,fun i u hi=>⟨?_,?_⟩⟩⟩
  ·have:=h.cells (g:=g) rfl i u hi;rw [show (⟨g,0,none⟩:Addr).add i=⟨g,i,none⟩ by unfold Addr.add;split <;> simp_all] at this;exact this
  ·simp [World.frozen?,hg]
theorem RowAt.vals {w:World} {v:Value} {l:List VT} (h:RowAt w v l.length (flatV l)):ValsIn w v l:=by
 obtain ⟨_,p,cap,rfl,hc,hg⟩:=h;refine ⟨p,cap,rfl,hc,fun h0=>?_⟩;obtain ⟨g,hp,V⟩:=hg h0;refine ⟨g,0,hp,fun i e hi c u hu=>?_⟩;rw [Nat.zero_add];exact (V _ u ((flatV_at hi c (cells_lt hu)).trans hu)).1
theorem RowAt.far {w:World} {v:Value} {l:List VT} (h:RowAt w v l.length (flatV l)) {b:Nat} {i0 i1:Int} {s:Value} (B:Vec w b [.int .i64 i0,.int .i64 i1,s]) (us:List Value):RowAt (setL w b 0 us) v l.length (flatV l):=by
 obtain ⟨h1,p,cap,rfl,hc,hg⟩:=h;refine ⟨h1,p,cap,rfl,hc,fun h0=>?_⟩;obtain ⟨g,hp,V⟩:=hg h0;refine ⟨g,hp,Vec.farL (fun e=>?_) us 0 V⟩;subst e;obtain ⟨e0,he⟩:∃ e,l[0]?=some e:=⟨_,List.getElem?_eq_getElem h0⟩;have q1:=(V (0 * 5+1) _ ((flatV_at he 1 (by omega)).trans rfl)).1;have q2:=(B 1 _ rfl).1;rw [show 0 * 5+1=1 from rfl,q2] at q1;cases q1
theorem RowAt.keep {w w':World} {v:Value} {n:Nat} {M:List Value} {row:Option Nat} (h:RowAt w v n M) (hg:w.grownBy w' row) (hr:∀ g,0<n→v.ownBlock=some g→some g ≠ row):RowAt w' v n M:=by
 obtain ⟨h1,p,cap,rfl,hc,hp⟩:=h;refine ⟨h1,p,cap,rfl,hc,fun h0=>?_⟩;obtain ⟨g,rfl,V⟩:=hp h0;have hlt:g<w.heap.size:=World.block_lt_of_cell? w ⟨g,0,none⟩ (V 0 _ (List.getElem?_eq_getElem (by omega))).1;exact ⟨g,rfl,vec_same V (hg.block g hlt (hr g h0 rfl))⟩
theorem RowAt.lt {w:World} {v:Value} {n:Nat} {M:List Value} (h:RowAt w v n M) (h0:0<n):∀ g,v.ownBlock=some g→g<w.heap.size:=by
 intro r hr;obtain ⟨h1,p,cap,rfl,hc,hp⟩:=h;obtain ⟨g,rfl,V⟩:=hp h0;have:g=r:=by simpa [Value.ownBlock] using hr
 subst this;exact World.block_lt_of_cell? w ⟨g,0,none⟩ (V 0 _ (List.getElem?_eq_getElem (by omega))).1
structure OnlyTwo (b:Nat) (r:Option Nat) (w w':World):Prop where
 os:w'.os=w.os
 tape:w'.tape=w.tape
 output:w'.output=w.output
 size:w.heap.size≤w'.heap.size
 block:∀ k,k ≠ b→some k ≠ r→k<w.heap.size→w'.heap[k]?=w.heap[k]?
theorem Only.two {b:Nat} {w w':World} (h:Only b w w') (r:Option Nat):OnlyTwo b r w w':=⟨h.os,h.tape,h.output,h.size,fun k hk _ hl=>h.block k hk hl⟩
theorem OnlyTwo.vec {b k:Nat} {r:Option Nat} {w w':World} {l:List Value} (h:OnlyTwo b r w w') (hk:k ≠ b) (hr:some k ≠ r) (hl:k<w.heap.size) (V:Vec w k l):Vec w' k l:=vec_same V (h.block k hk hr hl)
theorem OnlyTwo.ext {b:Nat} {r:Option Nat} {a w w':World} (x:Ext a w) (h:OnlyTwo b r w w') (hb:a.heap.size≤b) (hr:∀ k,r=some k→a.heap.size≤k):Ext a w':=
 ⟨h.os.trans x.os,h.tape.trans x.tape,h.output.trans x.output,Nat.le_trans x.size h.size,fun k hk=>(h.block k (by omega) (fun e=>by have:=hr k e.symm;omega) (Nat.lt_of_lt_of_le hk x.size)).trans (x.block k hk)⟩
theorem two_row {b g:Nat} {a w:World} (h:OnlyTwo b (some g) a w) (i:Nat) (u:Value):OnlyTwo b (some g) a (w.setCell ⟨g,i,none⟩ u):=
 ⟨h.os,h.tape,h.output,by rw [World.size_setCell];exact h.size,fun k h1 h2 h3=>by rw [heap_setCell_other _ _ _ _ (fun e=>h2 (congrArg some e))];exact h.block k h1 h2 h3⟩
theorem RowAt.only {w w':World} {b n:Nat} {v:Value} {M:List Value} (h:RowAt w v n M) (o:Only b w w') (hb:∀ g,v.ownBlock=some g→b ≠ g):RowAt w' v n M:=h.keep o.to_grown (fun g _ hg e=>hb g hg (by cases e;rfl))
theorem finOG {a w:World} {b base K r g n cap:Nat} {M:List Value} {i0 i1:Int} {s0:Value} (V:Vec w r [.int .i64 i0,.int .i64 i1,s0]) (C:Cur w b base K) (RA:RowAt w (.slice (some ⟨g,0,none⟩) n cap) n M) (T:OnlyTwo b (some g) a w) (hr:a.heap.size≤r) (hb:b ≠ r) (hbase:base≤r) (hgr:g<a.heap.size) (R C':Int) :
  ∃ wy,((w.setCell ⟨r,0,none⟩ (.int .i64 R)).setCell ⟨r,1,none⟩ (.int .i64 C')).setCell ⟨r,2,none⟩ (.slice (some ⟨g,0,none⟩) n cap)=wy∧w.cell? ⟨r,0,none⟩=some (.int .i64 i0)∧w.cell? ⟨r,1,none⟩=some (.int .i64 i1)∧w.cell? ⟨r,2,none⟩=some s0∧w.frozen? ⟨r,0,none⟩=false∧w.frozen? ⟨r,1,none⟩=false∧w.frozen? ⟨r,2,none⟩=false∧wy.cell? ⟨r,0,none⟩=some (.int .i64 R)∧wy.cell? ⟨r,1,none⟩=some (.int .i64 C')∧wy.cell? ⟨r,2,none⟩=some (.slice (some ⟨g,0,none⟩) n cap)∧Cur wy b base K∧RowAt wy (.slice (some ⟨g,0,none⟩) n cap) n M∧OnlyTwo b (some g) a wy:=by
 obtain ⟨v0,v1,v2⟩:=Vec.three (((V.put 0 (by simp) (.int .i64 R)).put 1 (by simp) (.int .i64 C')).put 2 (by simp) (.slice (some ⟨g,0,none⟩) n cap));obtain ⟨u0,u1,u2⟩:=V.three;obtain ⟨f0,f1,f2⟩:=V.threeF;have st:∀ {w1:World} {i:Nat} {u:Value},OnlyTwo b (some g) a w1→OnlyTwo b (some g) a (w1.setCell ⟨r,i,none⟩ u):=fun h=>⟨h.os,h.tape,h.output,by rw [World.size_setCell];exact h.size,fun k h1 h2 h3=>by rw [heap_setCell_other _ _ _ _ (by show k ≠ r;omega)];exact h.block k h1 h2 h3⟩;have sr:∀ {w1:World} {i:Nat} {u:Value},RowAt w1 (.slice (some ⟨g,0,none⟩) n cap) n M→RowAt (w1.setCell ⟨r,i,none⟩ u) (.slice (some ⟨g,0,none⟩) n cap) n M:=fun h=>by
  obtain ⟨h1,p,c,hv,hc,hp⟩:=h;refine ⟨h1,p,c,hv,hc,fun h0=>?_⟩;obtain ⟨g',rfl,V'⟩:=hp h0;cases hv;exact ⟨g,rfl,V'.far (by show r ≠ g;omega) _⟩
 exact ⟨_,rfl,u0,u1,u2,f0,f1,f2,v0,v1,v2,((C.far hb hbase _).far hb hbase _).far hb hbase _,sr (sr (sr RA)),st (st (st T))⟩
set_option maxRecDepth 8000 in
set_option maxHeartbeats 2000000 in
theorem oddGridC (b base K:Nat) (R C:Int) (sv:Value) (l:List VT) (w:World) (h:Cur w b base K) (hK:K≤900000) (hr:RowAt w sv l.length (flatV l)) (hb:∀ g,sv.ownBlock=some g→b ≠ g∧base≤g) (h0:0<l.length) (hl:l.length≤16) (he:∀ q ∈ l,okE q) (R0:0≤R) (R1:R≤10) :
  Calls Tryz.prog 57 #[.pointer (some ⟨b,0,none⟩),grV R C sv] w fun e w'=>(∃ (R' C':Int) (l':List VT),e=.returned (grV R' C' sv)∧RowAt w' sv l'.length (flatV l')∧l'.length=l.length∧∀ q ∈ l',okE q)∧Cur w' b base (K+4)∧OnlyTwo b sv.ownBlock w w':=by
 have bl:=h.lt;have bb:=h.baseC;obtain ⟨hM,ps,cap,rfl,hcap,hp⟩:=id hr;obtain ⟨g,rfl,VR⟩:=hp h0;have hbg:=hb g rfl;have ltg:g<w.heap.size:=World.block_lt_of_cell? w ⟨g,0,none⟩ (VR 0 _ (List.getElem?_eq_getElem (by omega))).1;have hOb:Hid ((Value.slice (some ⟨g,0,none⟩) l.length cap).ownBlock=some g):=rfl;obtain ⟨n,hn⟩:∃ n,l.length=n:=⟨_,rfl⟩;have HN:Hid (l.length=n):=hn;rw [hn] at hr hcap h0 hl hOb ⊢;clear hp hn;obtain ⟨u0,u1,hh0,h1,s0,s1,B0,B1,X⟩:=mkB2 w [.int .i64 R,.int .i64 C,.slice (some ⟨g,0,none⟩) n cap] [.int .i64 0,.int .i64 0,.slice none 0 0] 35 35;have C0:=h.ext X;go_enter Tryz.func57,Tryz.ntmps57;go_wp2_with fail;clear hh0 h1;refine (pickC b base K 40 _ C0 (by omega) (by omega) (by omega)).mono ?_;rintro e w1 ⟨y,rfl,⟨y0,y9⟩,C1,o1⟩;have V0:=o1.vecC (by omega) B0;have V1:=o1.vecC (by omega) B1;have O1:=(Only.of_ext X).trans o1;have RA:RowAt w1 (.slice (some ⟨g,0,none⟩) n cap) n (flatV l):=hr.only O1 (fun q hq=>by have:=hb q hq;omega);clear C0 o1 X B0 B1 s0 s1;by_cases q0:y=0
 ·subst q0;clear y0 y9;go_upto_region 3 with fail;refine wp_region_letters (fun lx:Nat→Value=>{ tmps:=#[Value.pointer (some ⟨b,0,none⟩),grV R C (Value.slice (some ⟨g,0,none⟩) n cap),undef,Value.pointer (some ⟨w.heap.size,0,none⟩),Value.pointer (some ⟨w.heap.size+1,0,none⟩),Value.pointer (some ⟨b,0,none⟩),Value.int .i64 0,Value.bool true,Value.bool true,lx 9,lx 10,lx 11,lx 12,lx 13,lx 14,lx 15,undef,undef,undef,undef,undef,undef,undef,undef,undef,undef],defers:=[] }) (fun L lx lw=>Hid (Only b w lw∧(L 3=false→Cur lw b base (K+2))∧(L 3=true→Cur lw b base (K+2+2))∧(L 7=false→Vec lw w.heap.size [.int .i64 R,.int .i64 C,.slice (some ⟨g,0,none⟩) n cap])∧(L 7=true→∃ R2:Int,Vec lw w.heap.size [.int .i64 R2,.int .i64 C,.slice (some ⟨g,0,none⟩) n cap])∧Vec lw (w.heap.size+1) [.int .i64 0,.int .i64 0,.slice none 0 0]∧(L 0=true→lx 9=Value.pointer (some ⟨w.heap.size,0,none⟩))∧(L 1=true→lx 10=.int .i64 R)∧(L 2=true→lx 11=Value.pointer (some ⟨b,0,none⟩))∧(L 3=true→∃ z:Int,lx 12=.int .i64 z∧0≤z∧z<3)∧(L 4=true→∃ z:Int,lx 13=.int .i64 z ∧ -1≤z∧z<2)∧(L 5=true→∃ z:Int,lx 14=.int .i64 z)∧(L 6=true→lx 15=Value.pointer (some ⟨w.heap.size,0,none⟩))∧(L 7=true→L 1=true))) rfl (by kernel_rfl) (fun jj=>undef) rfl ?_ ?_ ?_
  ·have DD:=xd (xr w1);exact ⟨O1.trans (Only.of_ext DD),(fun _=>C1.ext DD),(fun z=>by cases z),(fun _=>V0.later DD),(fun z=>by cases z),V1.later DD,(fun z=>by cases z),(fun z=>by cases z),(fun z=>by cases z),(fun z=>by cases z),(fun z=>by cases z),(fun z=>by cases z),(fun z=>by cases z),(fun z=>by cases z)⟩
  ·intro L lx wl i o K1 hK ho hL haf hI;obtain ⟨f0,f1,f2,f3,f4,f5,f6,f7,f8,f9,f10,f11,f12,f13⟩:=hI.out
   match i,ho,hL,haf,hK with
   | 0,ho,hL,haf,hK =>
    cases ho
    (try dsimp only)
    go_wp2_with fail;exact hK (fun jj=>if jj=9 then Value.pointer (some ⟨w.heap.size,0,none⟩) else lx jj) _ ⟨f0,f1,f2,f3,f4,f5,(fun _=>rfl),f7,f8,f9,f10,f11,f12,f13⟩
   | 1,ho,hL,haf,hK =>
    cases ho
    (try dsimp only)
    have h7:L 7=false:=by
     cases hh:L 7 with
     | false=>rfl
     | true=>have:=f13 hh;rw [hL] at this;cases this
    have a0:=((f3 h7) 0 _ rfl).1;rw [f6 (haf ⟨0,.data⟩ (by simp) rfl)];go_wp2_with fail;exact hK (fun jj=>if jj=10 then .int .i64 R else if jj=9 then Value.pointer (some ⟨w.heap.size,0,none⟩) else lx jj) _ ⟨f0,f1,f2,f3,f4,f5,(fun _=>rfl),(fun _=>rfl),f8,f9,f10,f11,f12,(fun _=>rfl)⟩
   | 2,ho,hL,haf,hK =>
    cases ho
    (try dsimp only)
    go_wp2_with fail;exact hK (fun jj=>if jj=11 then Value.pointer (some ⟨b,0,none⟩) else lx jj) _ ⟨f0,f1,f2,f3,f4,f5,f6,f7,(fun _=>rfl),f9,f10,f11,f12,f13⟩
   | 3,ho,hL,haf,hK =>
    cases ho
    (try dsimp only)
    rw [f8 (haf ⟨2,.data⟩ (by simp) rfl)];go_wp2_with fail;refine (pickC b base _ 3 wl (f1 hL) (by omega) (by omega) (by omega)).mono ?_;rintro rr w' ⟨z,rfl,zb,CC,o⟩;go_wp2_with fail;exact hK (fun jj=>if jj=12 then .int .i64 z else if jj=11 then Value.pointer (some ⟨b,0,none⟩) else lx jj) _ ⟨(f0.trans o),(fun z=>by cases z),(fun _=>CC),(fun z=>o.vecC (by omega) (f3 z)),(fun z=>by obtain ⟨r2,g1⟩:=f4 z;exact ⟨r2,o.vecC (by omega) g1⟩),(o.vecC (by omega) f5),f6,f7,(fun _=>rfl),(fun _=>⟨z,rfl,zb⟩),f10,f11,f12,f13⟩
   | 4,ho,hL,haf,hK =>
    cases ho
    (try dsimp only)
    obtain ⟨z,e12,z0,z1⟩:=f9 (haf ⟨3,.data⟩ (by simp) rfl);rw [e12];go_wp2_with fail;exact hK (fun jj=>if jj=13 then .int .i64 (z - 1) else if jj=12 then .int .i64 z else lx jj) _ ⟨f0,f1,f2,f3,f4,f5,f6,f7,f8,(fun _=>⟨z,rfl,z0,z1⟩),(fun _=>⟨z - 1,rfl,by omega,by omega⟩),f11,f12,f13⟩
   | 5,ho,hL,haf,hK =>
    cases ho
    (try dsimp only)
    obtain ⟨z,e13,z0,z1⟩:=f10 (haf ⟨4,.data⟩ (by simp) rfl);rw [f7 (haf ⟨1,.data⟩ (by simp) rfl),e13];go_wp2_with fail;exact hK (fun jj=>if jj=14 then .int .i64 (R+z) else if jj=10 then .int .i64 R else if jj=13 then .int .i64 z else lx jj) _ ⟨f0,f1,f2,f3,f4,f5,f6,(fun _=>rfl),f8,f9,(fun _=>⟨z,rfl,z0,z1⟩),(fun _=>⟨R+z,rfl⟩),f12,f13⟩
   | 6,ho,hL,haf,hK =>
    cases ho
    (try dsimp only)
    go_wp2_with fail;exact hK (fun jj=>if jj=15 then Value.pointer (some ⟨w.heap.size,0,none⟩) else lx jj) _ ⟨f0,f1,f2,f3,f4,f5,f6,f7,f8,f9,f10,f11,(fun _=>rfl),f13⟩
   | 7,ho,hL,haf,hK =>
    cases ho
    (try dsimp only)
    obtain ⟨z,e14⟩:=f11 (haf ⟨5,.data⟩ (by simp) rfl);have VC:=f3 hL;have q0:=(VC 0 _ rfl).1;have p0:=(VC 0 _ rfl).2;rw [f12 (haf ⟨6,.data⟩ (by simp) rfl),e14];have VD:Vec (wl.setCell ⟨w.heap.size,0,none⟩ (.int .i64 z)) w.heap.size [.int .i64 z,.int .i64 C,.slice (some ⟨g,0,none⟩) n cap]:=VC.put 0 (by simp) _;go_wp2_with fail;exact hK (fun jj=>if jj=14 then .int .i64 z else if jj=15 then Value.pointer (some ⟨w.heap.size,0,none⟩) else lx jj) _ ⟨(f0.setNew (Nat.le_refl _) _),(fun z=>(f1 z).far (by omega) (by omega) _),(fun z=>(f2 z).far (by omega) (by omega) _),(fun z=>by cases z),(fun _=>⟨z,VD⟩),(f5.far (p:=⟨w.heap.size,0,none⟩) (by show w.heap.size ≠ _;omega) _),f6,f7,f8,f9,f10,(fun _=>⟨z,rfl⟩),(fun _=>rfl),(fun _=>(haf ⟨1,.phase⟩ (by simp) rfl))⟩
   | k+8,ho,_,_,_=>simp at ho
  ·intro L lx w5 hall hI;obtain ⟨f0,f1,f2,f3,f4,f5,f6,f7,f8,f9,f10,f11,f12,f13⟩:=hI.out;clear hI;obtain ⟨R2,W0⟩:=f4 (hall 7 (by simp));have V0:=W0;have V1:=f5;have C1:=f2 (hall 3 (by simp));have O1:=f0;have RA:RowAt w5 (.slice (some ⟨g,0,none⟩) n cap) n (flatV l):=hr.only O1 (fun q hq=>by have:=hb q hq;omega);clear hall f0 f1 f2 f3 f4 f5 f6 f7 f8 f9 f10 f11 f12 f13 W0
   (try dsimp only)
   have T1:=O1.two (some g);obtain ⟨a0,a1,a2⟩:=Vec.three (V0);obtain ⟨wy,hy,b0,b1,b2,fb0,fb1,fb2,fd0,fd1,fd2,CF,RF,TF⟩:=finOG V1 C1 RA T1 (Nat.le_succ _) (by omega) (by omega) ltg (R2) (C);go_wp2_with fail;exact bodyPost_ret (v:=grV (R2) (C) (.slice (some ⟨g,0,none⟩) n cap)) (by simp [results,Tryz.results57,go_sem,fd0,fd1,fd2]) rfl ⟨⟨_,_,l,rfl,by rw [HN.out];exact RF,by rw [HN.out],he⟩,CF.more (by omega),by rw [hOb.out];exact TF⟩
 ·have e0:(y == 0)=false:=by simpa using q0
  by_cases q1:y=1
  ·subst q1;clear y0 y9;obtain ⟨e0,m,rfl⟩:∃ e0 m,l=e0 :: m:=by
    cases l with
    | nil=>have:=HN.out;simp at this;omega
    | cons e0 m=>exact ⟨e0,m,rfl⟩
   obtain ⟨hM1,p1,c1,hv1,_,hp1⟩:=RA;obtain ⟨g',hg',VR1⟩:=hp1 h0;have hgg:g=g':=by cases hv1;cases hg';rfl
   subst hgg;obtain ⟨b0,fb0⟩:=VR1 0 _ rfl;obtain ⟨b1,fb1⟩:=VR1 1 _ rfl;obtain ⟨b2,fb2⟩:=VR1 2 _ rfl;obtain ⟨b3,fb3⟩:=VR1 3 _ rfl;obtain ⟨b4,fb4⟩:=VR1 4 _ rfl;obtain ⟨dd0,dd1,dd2⟩:=Vec.three V0;have VN:Vec (setL w1 g 0 [.int .i64 9,.bool false,.int .i64 0,.int .i64 0,sV []]) g (flatV (⟨9,false,0,0,[]⟩ :: m)):=((((VR1.put 0 (by simp [flatV]) _).put 1 (by simp [flatV]) _).put 2 (by simp [flatV]) _).put 3 (by simp [flatV]) _).put 4 (by simp [flatV]) _;have V0:=Vec.farL (k:=g) (by omega) [.int .i64 9,.bool false,.int .i64 0,.int .i64 0,sV []] 0 V0;have V1:=Vec.farL (k:=g) (by omega) [.int .i64 9,.bool false,.int .i64 0,.int .i64 0,sV []] 0 V1;have C1:Cur (setL w1 g 0 [.int .i64 9,.bool false,.int .i64 0,.int .i64 0,sV []]) b base _:=((((C1.far (g:=g) (i:=0) hbg.1 hbg.2 _).far (g:=g) (i:=1) hbg.1 hbg.2 _).far (g:=g) (i:=2) hbg.1 hbg.2 _).far (g:=g) (i:=3) hbg.1 hbg.2 _).far (g:=g) (i:=4) hbg.1 hbg.2 _;have T1:OnlyTwo b (some g) w (setL w1 g 0 [.int .i64 9,.bool false,.int .i64 0,.int .i64 0,sV []]):=two_row (two_row (two_row (two_row (two_row (O1.two (some g)) _ _) _ _) _ _) _ _) _ _;obtain ⟨ws,hs⟩:∃ q,setL w1 g 0 [.int .i64 9,.bool false,.int .i64 0,.int .i64 0,sV []]=q:=⟨_,rfl⟩;rw [hs] at VN V0 V1 C1 T1;have hs:((((w1.setCell ⟨g,0,none⟩ (.int .i64 9)).setCell ⟨g,1,none⟩ (.bool false)).setCell ⟨g,2,none⟩ (.int .i64 0)).setCell ⟨g,3,none⟩ (.int .i64 0)).setCell ⟨g,4,none⟩ (sV [])=ws:=hs;have RA:RowAt ws (.slice (some ⟨g,0,none⟩) n cap) n (flatV (⟨9,false,0,0,[]⟩ :: m)):=⟨by rw [flatV_length];have:=HN.out;simp at this ⊢;omega,_,cap,rfl,hcap,fun _=>⟨g,rfl,VN⟩⟩;have i2:(0:Int)<(n:Int):=by omega
   have hL1:(⟨9,false,0,0,[]⟩ :: m:List VT).length=n:=by have:=HN.out;simp at this ⊢;omega
   obtain ⟨a0,a1,a2⟩:=Vec.three (V0);obtain ⟨wy,hy,c0,c1,c2,fc0,fc1,fc2,fd0,fd1,fd2,CF,RF,TF⟩:=finOG V1 C1 RA T1 (Nat.le_succ _) (by omega) (by omega) ltg (R) (C);go_wp2_with fail;exact bodyPost_ret (v:=grV (R) (C) (.slice (some ⟨g,0,none⟩) n cap)) (by simp [results,Tryz.results57,go_sem,fd0,fd1,fd2]) rfl ⟨⟨_,_,(⟨9,false,0,0,[]⟩ :: m),rfl,by rw [hL1];exact RF,hL1,(fun q hq=>by rcases List.mem_cons.1 hq with rfl | hq;exact ⟨by show (0:Int)≤0;omega,by show (0:Int)<_;omega,by simp⟩;exact he q (List.mem_cons_of_mem _ hq))⟩,CF.more (by omega),by rw [hOb.out];exact TF⟩
  ·have e1:(y == 1)=false:=by simpa using q1
   by_cases q2:y=2
   ·subst q2;clear y0 y9;obtain ⟨b1,fb1⟩:=V0 1 _ rfl;have V2:Vec (w1.setCell ⟨w.heap.size,1,none⟩ (.int .i64 0)) w.heap.size [.int .i64 R,.int .i64 0,.slice (some ⟨g,0,none⟩) n cap]:=V0.put 1 (by simp) _;have V1:=V1.far (p:=⟨w.heap.size,1,none⟩) (by show w.heap.size ≠ _;omega) (.int .i64 0);have C1:=C1.far (g:=w.heap.size) (i:=1) (by omega) (by omega) (.int .i64 0);have O1:=O1.setNew (g:=w.heap.size) (i:=1) (Nat.le_refl _) (.int .i64 0);obtain ⟨ws,hs⟩:∃ q,w1.setCell ⟨w.heap.size,1,none⟩ (.int .i64 0)=q:=⟨_,rfl⟩;rw [hs] at V1 V2 C1 O1;have V0:=V2;have RA:RowAt ws (.slice (some ⟨g,0,none⟩) n cap) n (flatV l):=hr.only O1 (fun q hq=>by have:=hb q hq;omega);clear V2;have T1:=O1.two (some g);obtain ⟨a0,a1,a2⟩:=Vec.three (V0);obtain ⟨wy,hy,b0,b1,b2,fb0,fb1,fb2,fd0,fd1,fd2,CF,RF,TF⟩:=finOG V1 C1 RA T1 (Nat.le_succ _) (by omega) (by omega) ltg (R) (0);go_wp2_with fail;exact bodyPost_ret (v:=grV (R) (0) (.slice (some ⟨g,0,none⟩) n cap)) (by simp [results,Tryz.results57,go_sem,fd0,fd1,fd2]) rfl ⟨⟨_,_,l,rfl,by rw [HN.out];exact RF,by rw [HN.out],he⟩,CF.more (by omega),by rw [hOb.out];exact TF⟩
   ·have e2:(y == 2)=false:=(by simpa using q2);have T1:=O1.two (some g);obtain ⟨a0,a1,a2⟩:=Vec.three (V0);obtain ⟨wy,hy,b0,b1,b2,fb0,fb1,fb2,fd0,fd1,fd2,CF,RF,TF⟩:=finOG V1 C1 RA T1 (Nat.le_succ _) (by omega) (by omega) ltg (R) (C);go_wp2_with fail;exact bodyPost_ret (v:=grV (R) (C) (.slice (some ⟨g,0,none⟩) n cap)) (by simp [results,Tryz.results57,go_sem,fd0,fd1,fd2]) rfl ⟨⟨_,_,l,rfl,by rw [HN.out];exact RF,by rw [HN.out],he⟩,CF.more (by omega),by rw [hOb.out];exact TF⟩
end Go.Proofs.YtkadkfmidlhedaaGreatDoor

