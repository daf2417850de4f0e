/-
  Several texts in one: Te7, Te0.
-/
import Derived.Test.YtjlojlgdkfpcdaaGreatDoorMg37
import Derived.Test.YtjlojlgdkfpcdaaGreatDoorMg20
import Derived.Test.YtjlojlgdkfpcdaaGreatDoorMg30
set_option maxRecDepth 8000
set_option maxHeartbeats 8000000
namespace Go.Proofs.YtjlojlgdkfpcdaaGreatDoor
open Go.RowKit
structure ShD (w:World) (b base K gR gV:Nat) (wx:World) (k:Int) (n:Bool) (d x:Int) (t:List UInt8):Prop where
 vV:Vec wx gV [iQ k,.bool n,iQ d,iQ x,sV t]
 vR:Vec wx gR [iQ 0,.bool false,iQ 0,iQ 0,sV []]
 cur:Cur wx b base K
 ext:Ext w wx
 d0:0<=d
 d1:d<1000000000000000
 tl:t.length<=2000
theorem ShD.step {w wx wy:World} {b base K K' gR gV:Nat} {k:Int} {n:Bool} {d x:Int} {t:List UInt8} (h:ShD w b base K gR gV wx k n d x t) (hF:gV ≠ b) (hR:gR ≠ b) (hw:w.heap.size<=b) (c:Cur wy b base K') (o:Only b wx wy):ShD w b base K' gR gV wy k n d x t:=
 ⟨o.vecC hF h.vV,o.vecC hR h.vR,c,o.ext h.ext hw,h.d0,h.d1,h.tl⟩
theorem ShD.l {w wx wy:World} {b base K gR gV:Nat} {k:Int} {n:Bool} {d x:Int} {t:List UInt8} (h:ShD w b base K gR gV wx k n d x t) (X:Ext wx wy):ShD w b base K gR gV wy k n d x t:=
 ⟨h.vV.l X,h.vR.l X,h.cur.ext X,xt h.ext X,h.d0,h.d1,h.tl⟩
theorem ShD.more {w wx:World} {b base K K' gR gV:Nat} {k:Int} {n:Bool} {d x:Int} {t:List UInt8} (h:ShD w b base K gR gV wx k n d x t) (q:K<=K'):ShD w b base K' gR gV wx k n d x t:=⟨h.vV,h.vR,h.cur.more q,h.ext,h.d0,h.d1,h.tl⟩
theorem ShD.put {w wx:World} {b base K gR gV:Nat} {k0:Int} {n0:Bool} {d0 x0:Int} {t0:List UInt8} (h:ShD w b base K gR gV wx k0 n0 d0 x0 t0) (hb:b ≠ gV) (hR:gV ≠ gR) (hg:base<=gV) (hw:w.heap.size<=gV) (k:Int) (n:Bool) (d x:Int) (t:List UInt8) (hd0:0<=d) (hd1:d<1000000000000000) (ht:t.length<=2000) :
  ∃ wy,(((((wx.setCell ⟨gV,0,none⟩ (iQ k)).setCell ⟨gV,1,none⟩ (.bool n)).setCell ⟨gV,2,none⟩ (iQ d)).setCell ⟨gV,3,none⟩ (iQ x)).setCell ⟨gV,4,none⟩ (sV t))=wy/\Hid (ShD w b base K gR gV wy k n d x t)/\(wx.cell? ⟨gV,0,none⟩=some (iQ k0)/\wx.cell? ⟨gV,1,none⟩=some (.bool n0)/\wx.cell? ⟨gV,2,none⟩=some (iQ d0)/\wx.cell? ⟨gV,3,none⟩=some (iQ x0)/\wx.cell? ⟨gV,4,none⟩=some (sV t0))/\(wx.frozen? ⟨gV,0,none⟩=false/\wx.frozen? ⟨gV,1,none⟩=false/\wx.frozen? ⟨gV,2,none⟩=false/\wx.frozen? ⟨gV,3,none⟩=false/\wx.frozen? ⟨gV,4,none⟩=false):=
 ⟨_,rfl,⟨h.vV.put5 (iQ k) (.bool n) (iQ d) (iQ x) (sV t),((((h.vR.far hR _).far hR _).far hR _).far hR _).far hR _,((((h.cur.far hb hg _).far hb hg _).far hb hg _).far hb hg _).far hb hg _,
  xset (p:=⟨gV,4,none⟩) (xset (p:=⟨gV,3,none⟩) (xset (p:=⟨gV,2,none⟩) (xset (p:=⟨gV,1,none⟩) (xset (p:=⟨gV,0,none⟩) h.ext hw _) hw _) hw _) hw _) hw _,hd0,hd1,ht⟩,h.vV.five,h.vV.fiveF⟩
theorem zPE {w w':World} {base:Nat} {v:Value} {l:List KT} {row:Option Nat} (h:OwnF w base v l) (hg:w.grownBy w' row) (hr:∀ g,v.ownBlock=some g->some g ≠ row):OwnF w' base v l:=by
 refine ⟨h.1,h.2.imp id ?_⟩;rintro ⟨g,cap,cur,h1,h2,h3,h4⟩;have hlt:g<w.heap.size:=by
  rcases Nat.lt_or_ge g w.heap.size with h' | h'
  ·exact h'
  ·rw [Array.getElem?_eq_none h'] at h3;cases h3
 exact ⟨g,cap,cur,h1,h2,by rw [hg.block g hlt (hr g (by rw [h1];rfl))];exact h3,h4⟩
theorem sh_put {a w:World} {g:Nat} (V:Vec w g [iQ 0,.bool false,iQ 0,iQ 0,sV []]) (X:Ext a w) (hw:a.heap.size<=g) (k:Int) (n:Bool) (d x:Int) (t:List UInt8) :
  ∃ wy,(((((w.setCell ⟨g,0,none⟩ (iQ k)).setCell ⟨g,1,none⟩ (.bool n)).setCell ⟨g,2,none⟩ (iQ d)).setCell ⟨g,3,none⟩ (iQ x)).setCell ⟨g,4,none⟩ (sV t))=wy/\Ext a wy/\Vec wy g [iQ k,.bool n,iQ d,iQ x,sV t]/\(∀ c l,c ≠ g->l ≠ []->Vec w c l->Vec wy c l)/\w.grownBy wy (some g)/\(∀ {base K},base<=g->Cur w (g+1) base K->Cur wy (g+1) base K) /\
   (w.cell? ⟨g,0,none⟩=some (iQ 0)/\w.cell? ⟨g,1,none⟩=some (.bool false)/\w.cell? ⟨g,2,none⟩=some (iQ 0)/\w.cell? ⟨g,3,none⟩=some (iQ 0)/\w.cell? ⟨g,4,none⟩=some (sV []))/\(w.frozen? ⟨g,0,none⟩=false/\w.frozen? ⟨g,1,none⟩=false/\w.frozen? ⟨g,2,none⟩=false/\w.frozen? ⟨g,3,none⟩=false/\w.frozen? ⟨g,4,none⟩=false):=by
 have G:=zDH g [iQ k,.bool n,iQ d,iQ x,sV t] 0 w;refine ⟨_,rfl,xset (p:=⟨g,4,none⟩) (xset (p:=⟨g,3,none⟩) (xset (p:=⟨g,2,none⟩) (xset (p:=⟨g,1,none⟩) (xset (p:=⟨g,0,none⟩) X hw _) hw _) hw _) hw _) hw _,V.put5 (iQ k) (.bool n) (iQ d) (iQ x) (sV t),fun c l hc hl VC=>?_,G,fun HB C=>?_,V.five,V.fiveF⟩
 ·have hlt:c<w.heap.size:=by
   cases l with
   | nil=>exact absurd rfl hl
   | cons v r=>exact World.block_lt_of_cell? _ _ (VC 0 v rfl).1
  exact zHC VC (G.block c hlt (fun e=>hc (by cases e;rfl)))
 ·have hb:g+1 ≠ g:=by omega
  exact Cur.grown C G (fun r e=>by cases e;exact ⟨by omega,HB⟩)
theorem zW0 (v:Value) (k:Nat) (w:World) (hc:zCP w w.heap.size v k) (hk:k<=1048576) :
  Calls Tryz.prog 11 #[v] w fun e w'=>(∃ (k:Int) (n:Bool) (d x:Int) (t s:List UInt8),e=.returned (.tuple #[valV k n d x t,.string (bsF s)])/\0<=d/\d<1000000000000000/\t.length<=2000/\s.length<=20100)/\Ext w w':=by
 have X0:=x1 w (.cells #[iQ 0,.bool false,iQ 0,iQ 0,sV []] 33);have V0:=zA2 w [iQ 0,.bool false,iQ 0,iQ 0,sV []] 33;change Vec (w.alloc (.cells #[iQ 0,.bool false,iQ 0,iQ 0,sV []] 33)) _ _ at V0;have hc1:zCP (w.alloc (.cells #[iQ 0,.bool false,iQ 0,iQ 0,sV []] 33)) w.heap.size v k:=hc.only (b:=w.heap.size) (Only.of_ext X0) (Nat.le_refl _);have C0:=Cur.made (w.alloc (.cells #[iQ 0,.bool false,iQ 0,iQ 0,sV []] 33)) v k w.heap.size 47 hc1 hk (by rw [World.size_alloc];omega);have X1:=x1 (w.alloc (.cells #[iQ 0,.bool false,iQ 0,iQ 0,sV []] 33)) (.cells #[v,iQ 0,.int .u64 0] 47);have V1:=V0.l X1;rw [World.size_alloc] at C0;have hv:∃ p cap,v=.slice p k cap:=by
  rcases hc with ⟨⟨p,cap,h⟩,rfl⟩ | ⟨pb,po,cap,_,h,_⟩
  ·exact ⟨p,cap,h⟩
  ·exact ⟨_,cap,h⟩
 have XW:=xt X0 X1;clear hc hc1 V0 X0 X1 hk;obtain ⟨p,cap,rfl⟩:=hv;go_enter Tryz.func11,Tryz.ntmps11;go_wp2_with fail;refine (decC (w.heap.size+1) w.heap.size 0 _ C0 (by omega)).mono ?_;rintro e w1 ⟨⟨n,d,x,rfl,d0,d1⟩,c1,o1⟩;have V2:=o1.vecC (by omega) V1;have E1:=Only.ext XW o1 (by omega);clear C0 V1 o1 XW;go_wp2_with fail;refine (zSC n d x w1).mono ?_;rintro e w2 ⟨rfl,e2⟩;have Y2:=x1 w2 (.cells #[iQ 1,.bool n,iQ d,iQ x,sV []] 33);have D3:=zA2 w2 [iQ 1,.bool n,iQ d,iQ x,sV []] 33;change Vec (w2.alloc (.cells #[iQ 1,.bool n,iQ d,iQ x,sV []] 33)) _ _ at D3;have HG:Hid (w.heap.size+1<w2.heap.size):=(c1.ext e2).lt;have SD0:Hid (ShD w (w.heap.size+1) w.heap.size (0+20) w.heap.size w2.heap.size _ 1 n d x []):=⟨D3,(V2.l e2).l Y2,(c1.ext e2).ext Y2,xt (xt E1 e2) Y2,d0,d1,by simp⟩;clear V2 Y2 D3 c1 e2 E1 d0 d1;go_wp2_with fail;refine (zBA (w.heap.size+1) w.heap.size _ 6 _ SD0.out.cur (by omega) (by omega) (by omega)).mono ?_;rintro e w3 ⟨y,rfl,⟨y0,y9⟩,c2,o2⟩;have SD1:=hid (SD0.out.step (by have:=HG.out;omega) (by omega) (by omega) c2 o2);clear SD0 c2 o2;go_upto_block 0 with fail;go_cut [] (fun wx=>∃ k n d x t,ShD w (w.heap.size+1) w.heap.size 200 w.heap.size w2.heap.size wx k n d x t)
 case first =>
  by_cases q0:y=0
  ·subst q0;clear y0 y9;go_wp2_with fail;refine (valueC _ _ _ _ SD1.out.cur (by omega)).mono ?_;rintro e w4 ⟨⟨k',n',d',x',t',rfl,d0,d1,ht⟩,c2,o2⟩;have SD2:=hid (SD1.out.step (by have:=HG.out;omega) (by omega) (by omega) c2 o2);clear SD1 c2 o2;go_wp2_with fail;refine (zS9 _ _ _ k' n' d' x' t' w4 SD2.out.cur (by omega) d0 d1 ht).mono ?_;rintro e w5 ⟨⟨k',n',d',x',t',rfl,d0,d1,ht⟩,c2,o2⟩;have SD3:=hid (SD2.out.step (by have:=HG.out;omega) (by omega) (by omega) c2 o2);clear SD2 c2 o2;obtain ⟨wy,hy,SD4,⟨b0,b1,b2,b3,b4⟩,⟨fb0,fb1,fb2,fb3,fb4⟩⟩:=SD3.out.put (by have:=HG.out;omega) (by have:=HG.out;omega) (by have:=HG.out;omega) (by have:=HG.out;omega) k' n' d' x' t' d0 d1 ht;go_wp2_with fail;go_meet
   case rel=>exact ⟨_,_,_,_,_,SD4.out.more (by omega)⟩
  ·have e0:(y == 0)=false:=by simpa using q0
   by_cases q1:y=1
   ·subst q1;clear y0 y9;go_wp2_with fail;refine (zBA _ _ _ 20000 _ SD1.out.cur (by omega) (by omega) (by omega)).mono ?_;rintro e w4 ⟨z,rfl,⟨z0,z1⟩,c2,o2⟩;have SD2:=hid (SD1.out.step (by have:=HG.out;omega) (by omega) (by omega) c2 o2);clear SD1 c2 o2;go_wp2_with fail;refine (zL4 (z - 9000) w4 (by omega) (by omega)).mono ?_;rintro e w5 ⟨⟨n4,d4,x4,rfl,d0,d1⟩,e5⟩;have SD3:=hid (SD2.out.l e5);clear SD2 e5 z0 z1 d0 d1;go_wp2_with fail;refine (zBA _ _ _ 9 _ SD3.out.cur (by omega) (by omega) (by omega)).mono ?_;rintro e w6 ⟨z',rfl,⟨z0,z1⟩,c2,o2⟩;have SD4:=hid (SD3.out.step (by have:=HG.out;omega) (by omega) (by omega) c2 o2);clear SD3 c2 o2;go_wp2_with fail;refine (zL4 (1+z') w6 (by omega) (by omega)).mono ?_;rintro e w7 ⟨⟨n5,d5,x5,rfl,d0,d1⟩,e5⟩;have SD5:=hid (SD4.out.l e5);clear SD4 e5 z0 z1 d0 d1;go_wp2_with fail;refine (stepT n4 d4 x4 n5 d5 x5 w7).mono ?_;rintro e w8 ⟨⟨k',n',d',x',t',rfl,d0,d1,ht⟩,e5⟩;have SD6:=hid (SD5.out.l e5);clear SD5 e5;obtain ⟨wy,hy,SD7,⟨b0,b1,b2,b3,b4⟩,⟨fb0,fb1,fb2,fb3,fb4⟩⟩:=SD6.out.put (by have:=HG.out;omega) (by have:=HG.out;omega) (by have:=HG.out;omega) (by have:=HG.out;omega) k' n' d' x' t' d0 d1 ht;go_wp2_with fail;go_meet
    case rel=>exact ⟨_,_,_,_,_,SD7.out.more (by omega)⟩
   ·have e1:(y == 1)=false:=(by simpa using q1);by_cases q2:y=2
    ·subst q2;clear y0 y9;go_wp2_with fail;refine (zBA _ _ _ 3 _ SD1.out.cur (by omega) (by omega) (by omega)).mono ?_;rintro e w4 ⟨z,rfl,⟨z0,z1⟩,c2,o2⟩;have SD2:=hid (SD1.out.step (by have:=HG.out;omega) (by omega) (by omega) c2 o2);clear SD1 c2 o2;go_wp2_with fail;refine (zL4 (z - 1) w4 (by omega) (by omega)).mono ?_;rintro e w5 ⟨⟨n4,d4,x4,rfl,d0,d1⟩,e5⟩;have SD3:=hid (SD2.out.l e5);clear SD2 e5 z0 z1;obtain ⟨wy,hy,SD7,⟨b0,b1,b2,b3,b4⟩,⟨fb0,fb1,fb2,fb3,fb4⟩⟩:=SD3.out.put (by have:=HG.out;omega) (by have:=HG.out;omega) (by have:=HG.out;omega) (by have:=HG.out;omega) 1 n4 d4 x4 [] d0 d1 (by simp);go_wp2_with fail;go_meet
     case rel=>exact ⟨_,_,_,_,_,SD7.out.more (by omega)⟩
    ·have e2:(y == 2)=false:=(by simpa using q2);go_wp2_with fail;go_meet
     case rel=>exact ⟨_,_,_,_,_,SD1.out.more (by omega)⟩
 case rest =>
  obtain ⟨kk,nn,dd,xx,tt,SD⟩:=hcut
  rename World=>w0
  have HSD:=hid SD;clear SD SD1;go_upto_region 10 with fail;refine zAQ (fun lx:Nat->Value=>{ tmps:=#[.slice p k cap,undef,.pointer (some ⟨w.heap.size,0,none⟩),lx 3,Value.pointer (some ⟨w.heap.size+1,0,none⟩),.pointer (some ⟨w2.heap.size,0,none⟩),u6,u7,u8,u9,u10,u11,u12,.int .i64 y,u14,u15,u16,u17,u18,u19,u20,u21,u22,u23,u24,u25,u26,u27,u28,u29,u30,u31,u32,u33,u34,u35,u36,lx 37,lx 38,lx 39,lx 40,lx 41,lx 42,lx 43],defers:=[] }) (fun L lx lw=>Hid (Ext w lw/\Vec lw w2.heap.size [iQ kk,.bool nn,iQ dd,iQ xx,sV tt]/\(L 7=false->Vec lw w.heap.size [iQ 0,.bool false,iQ 0,iQ 0,sV []])/\(L 7=true->Vec lw w.heap.size [iQ kk,.bool nn,iQ dd,iQ xx,sV tt])/\(L 3=false->Cur lw (w.heap.size+1) w.heap.size 200)/\(L 3=true->L 6=false->Cur lw (w.heap.size+1) w.heap.size 340)/\(L 4=true->L 3=true)/\(L 0=true->lx 37=valV kk nn dd xx tt)/\(L 1=true->lx 38=Value.pointer (some ⟨w.heap.size+1,0,none⟩))/\(L 2=true->lx 39=Value.pointer (some ⟨w.heap.size+1,0,none⟩))/\(L 3=true->L 4=false->∃ v l B,lx 40=v/\w2.heap.size<B/\OwnF lw B v l/\B<=lw.heap.size/\l.length<=3/\∀ f ∈ l,DrF f)/\(L 4=true->∃ s,lx 41=.string (bsF s)/\s.length<=1000)/\(L 5=true->∃ g,lx 42=.slice (some ⟨g,0,none⟩) 4 4/\w2.heap.size<g/\Vec lw g (pcS.map sV))/\(L 6=true->∃ s,lx 43=.string (bsF s)/\s.length<=20100)/\(L 8=true->∃ s,lx 3=.string (bsF s)/\s.length<=20100))) rfl (by kernel_rfl) (fun jj=>if jj=3 then Value.string ⟨#[]⟩ else if jj=37 then u37 else if jj=38 then u38 else if jj=39 then u39 else if jj=40 then u40 else if jj=41 then u41 else if jj=42 then u42 else if jj=43 then u43 else undef) rfl ?_ ?_ ?_
  ·exact ⟨(xd HSD.out.ext),(HSD.out.vV.l (xd (xr _))),(fun _=>HSD.out.vR.l (xd (xr _))),(fun h=>by cases h),(fun _=>HSD.out.cur.ext (xd (xr _))),(fun h=>by cases h),(fun h=>by cases h),(fun h=>by cases h),(fun h=>by cases h),(fun h=>by cases h),(fun h=>by cases h),(fun h=>by cases h),(fun h=>by cases h),(fun h=>by cases h),(fun h=>by cases h)⟩
  ·intro L lx wl i o K hK ho hL haf hI;obtain ⟨X,vV,vz,vc,ca,cb,l43,f0,f1,f2,f3,f4,f5,f6,f8⟩:=hI.out;have wlt:w2.heap.size<wl.heap.size:=World.block_lt_of_cell? _ _ (vV 0 _ rfl).1
   match i,ho,hL,haf,hK with
   | 0,ho,hL,haf,hK =>
    cases ho
    (try dsimp only)
    obtain ⟨a0,a1,a2,a3,a4⟩:=Vec.five vV;go_wp2_with fail;exact hK (fun jj=>if jj=37 then valV kk nn dd xx tt else lx jj) _ ⟨X,vV,vz,vc,ca,cb,l43,(fun _=>rfl),f1,f2,f3,f4,f5,f6,f8⟩
   | 1,ho,hL,haf,hK =>
    cases ho
    (try dsimp only)
    go_wp2_with fail;exact hK (fun jj=>if jj=38 then Value.pointer (some ⟨w.heap.size+1,0,none⟩) else lx jj) _ ⟨X,vV,vz,vc,ca,cb,l43,f0,(fun _=>rfl),f2,f3,f4,f5,f6,f8⟩
   | 2,ho,hL,haf,hK =>
    cases ho
    (try dsimp only)
    go_wp2_with fail;exact hK (fun jj=>if jj=39 then Value.pointer (some ⟨w.heap.size+1,0,none⟩) else lx jj) _ ⟨X,vV,vz,vc,ca,cb,l43,f0,f1,(fun _=>rfl),f3,f4,f5,f6,f8⟩
   | 3,ho,hL,haf,hK =>
    cases ho
    (try dsimp only)
    rw [f2 (haf ⟨2,.data⟩ (by simp) rfl)];go_wp2_with fail;refine (zK2 _ _ 200 wl (ca hL) (by omega)).mono ?_;rintro e w' ⟨v,l,rfl,hf,l1,l3⟩;have O1:=hf.only;go_wp2_with fail;exact hK (fun jj=>if jj=40 then v else if jj=39 then Value.pointer (some ⟨w.heap.size+1,0,none⟩) else lx jj) _ ⟨(O1.ext X (by omega)),(O1.vecC (by have:=HG.out;omega) vV),(fun h=>O1.vecC (by omega) (vz h)),(fun h=>O1.vecC (by omega) (vc h)),(fun h=>by cases h),(fun _ _=>hf.cur),(fun _=>rfl),f0,f1,(fun _=>rfl),(fun _ _=>⟨_,l,_,rfl,wlt,hf.own,hf.only.size,l3,hf.dr⟩),f4,(fun h=>by obtain ⟨g,q1,q2,q3⟩:=f5 h;exact ⟨g,q1,q2,O1.vecC (by have:=HG.out;omega) q3⟩),f6,f8⟩
   | 4,ho,hL,haf,hK =>
    cases ho
    (try dsimp only)
    have h3:L 3=true:=(haf ⟨3,.data⟩ (by simp) rfl);obtain ⟨v,l,B,e40,hB,own,_,l3,hdr⟩:=f3 h3 hL;rw [e40];go_wp2_with fail;refine (toldD v l wl (zDY own) l3 hdr).mono ?_;rintro e w' ⟨⟨s,rfl,hs⟩,e2⟩;go_wp2_with fail;exact hK (fun jj=>if jj=41 then .string (bsF s) else if jj=40 then v else lx jj) _ ⟨(xt X e2),(vV.l e2),(fun h=>(vz h).l e2),(fun h=>(vc h).l e2),(fun h=>(ca h).ext e2),(fun h h2=>(cb h h2).ext e2),(fun _=>h3),f0,f1,f2,(fun h h2=>by cases h2),(fun _=>⟨s,rfl,hs⟩),(fun h=>by obtain ⟨g,q1,q2,q3⟩:=f5 h;exact ⟨g,q1,q2,q3.l e2⟩),f6,f8⟩
   | 5,ho,hL,haf,hK =>
    cases ho
    (try dsimp only)
    have TV:=zA2 wl (pcS.map sV) 9;have X2:=x1 wl (.cells (pcS.map sV).toArray 9);go_wp2_with fail;exact hK (fun jj=>if jj=42 then .slice (some ⟨wl.heap.size,0,none⟩) 4 4 else lx jj) _ ⟨(xt X X2),(vV.l X2),(fun h=>(vz h).l X2),(fun h=>(vc h).l X2),(fun h=>(ca h).ext X2),(fun h h2=>(cb h h2).ext X2),l43,f0,f1,f2,(fun h h2=>by obtain ⟨v,l,B,q1,q2,q3,q4,q5,q6⟩:=f3 h h2;exact ⟨v,l,B,q1,q2,zDO q3 X2,Nat.le_trans q4 X2.size,q5,q6⟩),f4,(fun _=>⟨_,rfl,wlt,TV⟩),f6,f8⟩
   | 6,ho,hL,haf,hK =>
    cases ho
    (try dsimp only)
    have h4:L 4=true:=(haf ⟨4,.data⟩ (by simp) rfl);have h3:=l43 h4;obtain ⟨s,e41,hs⟩:=f4 h4;obtain ⟨g,e42,hg,VB⟩:=f5 (haf ⟨5,.data⟩ (by simp) rfl);have CB:=cb h3 hL;rw [f1 (haf ⟨1,.data⟩ (by simp) rfl),e41,e42];go_wp2_with fail;refine (bentG 4 _ _ 340 s g wl CB (by omega) (by omega) (by have:=HG.out;omega) (by omega) (by omega) (pcT pcS) (pc_at VB) (fun j=>(zNK zRR j).2) (fun j _=>(zNK zRR j).1)).mono ?_;rintro e w' ⟨s',rfl,hs',O1⟩;go_wp2_with fail;exact hK (fun jj=>if jj=43 then .string (bsF s') else if jj=38 then Value.pointer (some ⟨w.heap.size+1,0,none⟩) else if jj=41 then .string (bsF s) else if jj=42 then .slice (some ⟨g,0,none⟩) 4 4 else lx jj) _ ⟨(O1.ext X (by omega)),(O1.vecC (by have:=HG.out;omega) vV),(fun h=>O1.vecC (by omega) (vz h)),(fun h=>O1.vecC (by omega) (vc h)),(fun h=>by have h2:L 3=false:=h;rw [h3] at h2;cases h2),(fun _ h=>by cases h),l43,f0,(fun _=>rfl),f2,(fun _ h=>by have h2:L 4=false:=h;rw [h4] at h2;cases h2),(fun _=>⟨s,rfl,hs⟩),(fun _=>⟨g,rfl,hg,O1.vecC (by have:=HG.out;omega) VB⟩),(fun _=>⟨s',rfl,hs'⟩),f8⟩
   | 7,ho,hL,haf,hK =>
    cases ho
    (try dsimp only)
    have VZ:=vz hL;rw [f0 (haf ⟨0,.data⟩ (by simp) rfl)];obtain ⟨wy,hy,xy,vy,kv,gy,cy,⟨b0,b1,b2,b3,b4⟩,⟨fb0,fb1,fb2,fb3,fb4⟩⟩:=sh_put VZ X (Nat.le_refl _) kk nn dd xx tt;go_wp2_with fail;exact hK (fun jj=>if jj=37 then valV kk nn dd xx tt else lx jj) _ ⟨(xy),(kv _ _ (by have:=HG.out;omega) (by simp) vV),(fun h=>by cases h),(fun _=>vy),(fun h=>cy (Nat.le_refl _) (ca h)),(fun h h2=>cy (Nat.le_refl _) (cb h h2)),l43,(fun _=>rfl),f1,f2,(fun h h2=>by obtain ⟨v,l,B,q1,q2,q3,q4,q5,q6⟩:=f3 h h2;exact ⟨v,l,B,q1,q2,zPE q3 gy (fun r hr e=>by cases e;have:=(zDP q3 _ hr).1;have:=HG.out;omega),Nat.le_trans q4 gy.size,q5,q6⟩),f4,(fun h=>by obtain ⟨g,q1,q2,q3⟩:=f5 h;exact ⟨g,q1,q2,kv _ _ (by have:=HG.out;omega) (by simp [pcS]) q3⟩),f6,f8⟩
   | 8,ho,hL,haf,hK =>
    cases ho
    (try dsimp only)
    obtain ⟨s,e43,hs⟩:=f6 (haf ⟨6,.data⟩ (by simp) rfl);rw [e43];go_wp2_with fail;exact hK (fun jj=>if jj=3 then .string (bsF s) else if jj=43 then .string (bsF s) else lx jj) _ ⟨X,vV,vz,vc,ca,cb,l43,f0,f1,f2,f3,f4,f5,(fun _=>⟨s,rfl,hs⟩),(fun _=>⟨s,rfl,hs⟩)⟩
   | k+9,ho,_,_,_=>simp at ho
  ·intro L lx w8 hall hI;obtain ⟨X,vV,vz,vc,ca,cb,l43,f0,f1,f2,f3,f4,f5,f6,f8⟩:=hI.out;obtain ⟨s,e3,hs⟩:=f8 (hall 8 (by simp));obtain ⟨fd0,fd1,fd2,fd3,fd4⟩:=Vec.five (vc (hall 7 (by simp)));have PO:∀ S0,S0=s->Hid ((∃ (k:Int) (n:Bool) (d x:Int) (t s:List UInt8),Ending.returned (.tuple #[valV kk nn dd xx tt,.string (bsF S0)])=.returned (.tuple #[valV k n d x t,.string (bsF s)])/\0<=d/\d<1000000000000000/\t.length<=2000/\s.length<=20100)/\Ext w w8):=fun S0 hS0=>⟨⟨_,_,_,_,_,S0,rfl,HSD.out.d0,HSD.out.d1,HSD.out.tl,by rw [hS0];exact hs⟩,X⟩;have PO:=PO s rfl
   (try dsimp only)
   rw [e3];clear X vV vz vc ca cb l43 f0 f1 f2 f3 f4 f5 f6 f8 hI hall HSD;go_wp2_with fail;exact bodyPost_ret (v:=.tuple #[valV kk nn dd xx tt,.string (bsF s)]) (by simp [results,Tryz.results11,go_sem,fd0,fd1,fd2,fd3,fd4]) rfl PO.out
theorem zJQ {l o:BL} (h:Lib.hasPrefix l o=true):l=o++l.drop o.length:=by
 unfold Lib.hasPrefix at h;obtain ⟨r,hr⟩:=List.isPrefixOf_iff_prefix.1 h;rw [<- hr];simp
theorem zN1 (c:UInt8):∀ (r:BL) (k:Nat),k<=(r.takeWhile (· == c)).length->r=List.replicate k c++r.drop k
 | r,0,_=>by simp
 | [],k+1,h=>by simp at h
 | d :: r,k+1,h=>by
  rw [List.takeWhile_cons] at h
  split at h
  ·next hd =>
   have hd:d=c:=by simpa using hd
   rw [List.length_cons] at h;have:=zN1 c r k (by omega);rw [List.replicate_succ,List.cons_append,List.drop_succ_cons,<- this,hd]
  ·simp at h
theorem zH2 (c:UInt8) (m:Nat) (r:BL):r=repF [c] (runF c m r)++r.drop (runF c m r):=by
 rw [zJL];exact zN1 c r _ (by unfold runF;omega)
theorem zHM {l:BL} {x:BL × BL} (h:quoS l=some x):l=quoB x.1++x.2:=by
 unfold quoS at h
 split at h
 ·obtain ⟨t,r⟩:=x;have hp:=zH4 h;have h1:=hp.1;have ht:t ≠ []:=by
   cases l with
   | nil=>cases h
   | cons c0 r0 =>
    have h:(if (c0 == 34)=true then (if (r0.dropWhile nq) ≠ []/\(r0.takeWhile nq) ≠ []/\(r0.takeWhile nq).length<=20/\zBW (r0.takeWhile nq)=true then some (r0.takeWhile nq,(r0.dropWhile nq).drop 1) else none) else none)=some (t,r):=h
    split at h
    ·split at h
     ·rename_i hh;cases h;exact hh.2.1
     ·cases h
    ·cases h
  rw [h1];unfold quoB;rw [if_neg ht];simp
 ·cases h;simp [quoB]
theorem zSD {b l:BL} {x:KT × BL} (h:numS b l=some x):quoB b++l=zBB x.1++x.2:=by
 unfold numS at h;dsimp only at h;obtain ⟨g,hg⟩:=nm (Lib.hasPrefix l [35,44]);rw [hg] at h;obtain ⟨l2,hl2⟩:=nm ((if g=true then l.drop 2 else l));have e1:l=(if g=true then [35,44] else [])++l2:=by
  rw [<- hl2];cases g
  ·rfl
  ·exact zJQ hg
 rw [hl2] at h;have e2:=zH2 48 9 l2;obtain ⟨w,hw⟩:=nm (runF 48 9 l2);rw [hw] at h e2
 split at h
 ·cases h
 ·obtain ⟨l3,hl3⟩:=nm (l2.drop w);rw [hl3] at h e2;obtain ⟨pt,hpt⟩:=nm (Lib.hasPrefix l3 [46]);rw [hpt] at h;obtain ⟨l4,hl4⟩:=nm ((if pt=true then l3.drop 1 else l3));rw [hl4] at h;have e3:l3=(if pt=true then [46] else [])++l4:=by
   rw [<- hl4];cases pt
   ·rfl
   ·exact zJQ hpt
  obtain ⟨p,hp⟩:=nm ((if pt=true then runF 48 9 l4 else 0));rw [hp] at h;have e4:l4=repF [48] p++l4.drop p:=by
   rw [<- hp]
   split
   ·exact zH2 48 9 l4
   ·simp [repF]
  obtain ⟨l5,hl5⟩:=nm (l4.drop p);rw [hl5] at h e4;obtain ⟨m,hm⟩:=nm ((if pt=true then runF 35 9 l5 else 0));rw [hm] at h;have e5:l5=repF [35] m++l5.drop m:=by
   rw [<- hm]
   split
   ·exact zH2 35 9 l5
   ·simp [repF]
  split at h
  ·cases h
  ·next hpm =>
   obtain ⟨l6,hl6⟩:=nm (l5.drop m);rw [hl6] at h e5;have e6:=zH2 37 3 l6;obtain ⟨t,ht⟩:=nm (runF 37 3 l6);rw [ht] at h e6;cases hq:quoS (l6.drop t) with
   | none=>rw [hq] at h;cases h
   | some y =>
    rw [hq] at h;cases h;have e7:=zHM hq;rw [e7] at e6;have em:(if decide (0<((p:Nat):Int)+((m:Nat):Int))=true then 46 :: (repF [48] p++repF [35] m) else [])=(if pt=true then [46] else [])++(repF [48] p++repF [35] m):=by
     cases pt
     ·have hp0:p=0:=(by rw [<- hp];rfl);have hm0:m=0:=(by rw [<- hm];rfl);rw [hp0,hm0];simp [repF]
     ·rw [if_pos (decide_eq_true (by
       have:p+m ≠ 0:=fun e=>hpm ⟨rfl,e⟩;omega))]
      rfl
    unfold zBB;dsimp only;simp only [Int.toNat_natCast];rw [em,e1,e2,e3,e4,e5,e6];simp [List.append_assoc]
theorem zQ1 {b l:BL} {x:KT × BL} (h:zE8 b l=some x):quoB b++l=zBB x.1++x.2:=by
 unfold zE8 at h;dsimp only at h
 split at h
 ·cases hq:quoS (l.drop (l.takeWhile sepC).length) with
  | none=>rw [hq] at h;cases h
  | some y =>
   rw [hq] at h;cases h;have e7:=zHM hq;have e1:l=l.takeWhile sepC++l.drop (l.takeWhile sepC).length:=by
    obtain ⟨r,hr⟩:=List.takeWhile_prefix (p:=sepC) (l:=l);have:l.drop (l.takeWhile sepC).length=r:=by
     have h2:=congrArg (List.drop (l.takeWhile sepC).length) hr;rw [List.drop_left] at h2;exact h2.symm
    rw [this,hr]
   rw [e7] at e1;unfold zBB;dsimp only;obtain ⟨d,hd⟩:=nm (l.takeWhile sepC);rw [hd] at e1 ⊢;rw [e1];simp [repF,List.append_assoc]
 ·cases h
theorem zR9 {l:BL} {x:KT × BL} (h:secS l=some x):l=zBB x.1++x.2:=by
 unfold secS at h;cases hq:quoS l with
 | none=>rw [hq] at h;cases h
 | some y =>
  rw [hq] at h;have h:(if Lib.hasPrefix y.2 [35,44] || Lib.hasPrefix y.2 [48] then numS y.1 y.2 else zE8 y.1 y.2)=some x:=h;have e1:=zHM hq
  split at h
  ·rw [<- zSD h];exact e1
  ·rw [<- zQ1 h];exact e1
theorem zVI (a b:BL) (r:List BL) (s:BL):Lib.join (a :: b :: r) s=a++s++Lib.join (b :: r) s:=by
 unfold Lib.join;rw [List.intercalate_cons_cons,List.append_assoc]
theorem zIQ:∀ (k:Nat) (l:BL) (acc:List KT),zBV k l acc ≠ []->∃ ys,zBV k l acc=acc++ys/\ys ≠ []/\Lib.join (ys.map zBB) [59]=l
 | 0,l,acc,h=>absurd rfl h
 | k+1,l,acc,h=>by
  simp only [zBV] at h ⊢;cases hS:secS l with
  | none=>rw [hS] at h;exact absurd rfl h
  | some x =>
   rw [hS] at h;dsimp only at h ⊢;have e:=zR9 hS
   split at h
   ·exact absurd rfl h
   ·next h3 =>
    rw [if_neg h3]
    split at h
    ·next h0 =>
     rw [if_pos h0];refine ⟨[x.1],rfl,by simp,?_⟩;rw [e,h0];simp [Lib.join]
    ·next h0 =>
     rw [if_neg h0]
     split at h
     ·next hp =>
      rw [if_pos hp];obtain ⟨ys,h1,h2,h4⟩:=zIQ k (x.2.drop 1) (acc++[x.1]) h;refine ⟨x.1 :: ys,by rw [h1];simp,by simp,?_⟩;cases ys with
      | nil=>exact absurd rfl h2
      | cons y r =>
       rw [List.map_cons,List.map_cons,zVI,<- List.map_cons,h4,e];have:=zJQ hp;rw [List.append_assoc]
       congr 1
       exact this.symm
     ·exact absurd rfl h
theorem zP6 (c:BL) (h:zAZ c ≠ []):zFG (zAZ c)=c:=by
 have hj:Lib.join ((zAZ c).map zBB) [59]=c:=by
  unfold zAZ at h ⊢
  split at h
  ·exact absurd rfl h
  ·next h1 =>
   rw [if_neg h1];obtain ⟨ys,h2,_,h4⟩:=zIQ 4 c [] h;rw [h2];exact h4
 have hg:=zGA c;have h3:=(zF6 c).2;have ha:(zAZ c).any (fun f=>!cntB f)=false:=by
  rw [List.any_eq_false];intro f hf;rw [(hg f hf).1];simp
 unfold zFG;rw [if_neg (by omega),ha,if_neg (by simp),hj,if_pos rfl]
end Go.Proofs.YtjlojlgdkfpcdaaGreatDoor

