/-
  Several texts in one: Te1, Xc, Te2, Zs, Te3, Te4.
-/
import Derived.Test.YtjlojlgdkfpcdaaGreatDoorMg16
import Derived.Test.YtjlojlgdkfpcdaaGreatDoorSe1
import Derived.Test.YtjlojlgdkfpcdaaGreatDoorMg34
import Derived.Test.YtjlojlgdkfpcdaaGreatDoorMg5
import Derived.OwnWalk
import Derived.Laws.OwnMore
import Derived.Test.YtjlojlgdkfpcdaaGreatDoorMg0
import Derived.Deep.AppendSrc
import Derived.Deep.Upon
import Derived.Laws.IdiomStrings
set_option maxRecDepth 8000
set_option maxHeartbeats 8000000
namespace Go.Proofs.YtjlojlgdkfpcdaaGreatDoor
open Go.RowKit
theorem Only.setCellsT {b g:Nat} {a:World} (hg:a.heap.size<=g):∀ (us:List Value) (o:Nat) (w:World),Only b a w->Only b a (w.setCells g o us)
 | [],_,_,h=>h
 | u :: us,o,_,h=>Only.setCellsT hg us (o+1) _ (h.setNew (g:=g) (i:=o) hg u)
theorem Cur.setCellsT {b base K g:Nat} (hb:b ≠ g) (hg:base<=g):∀ (us:List Value) (o:Nat) (w:World),Cur w b base K->Cur (w.setCells g o us) b base K
 | [],_,_,h=>h
 | u :: us,o,_,h=>Cur.setCellsT hb hg us (o+1) _ (h.far (g:=g) (i:=o) hb hg u)
def DrF (f:KT):Prop:=f.bf.length<=20/\f.af.length<=20/\f.dt.length<=40
structure SecD (w:World) (b base K br bF:Nat) (wx:World) (f:KT):Prop where
 vF:Vec wx bF f.cells
 vR:Vec wx br [.bool false,sV [],sV [],iQ 0,iQ 0,iQ 0,.bool false,iQ 0,sV []]
 cur:Cur wx b base K
 only:Only b w wx
 dr:DrF f
theorem SecD.step {w wx wy:World} {b base K K' br bF:Nat} {f:KT} (h:SecD w b base K br bF wx f) (hF:bF ≠ b) (hR:br ≠ b) (c:Cur wy b base K') (o:Only b wx wy):SecD w b base K' br bF wy f:=
 ⟨o.vecC hF h.vF,o.vecC hR h.vR,c,h.only.trans o,h.dr⟩
theorem SecD.ext {w wx wy:World} {b base K br bF:Nat} {f:KT} (h:SecD w b base K br bF wx f) (x:Ext wx wy):SecD w b base K br bF wy f:=
 ⟨h.vF.l x,h.vR.l x,h.cur.ext x,h.only.trans (Only.of_ext x),h.dr⟩
theorem SecD.more {w wx:World} {b base K K' br bF:Nat} {f:KT} (h:SecD w b base K br bF wx f) (k:K<=K'):SecD w b base K' br bF wx f:=⟨h.vF,h.vR,h.cur.more k,h.only,h.dr⟩
theorem SecD.put {w wx:World} {b base K br bF i:Nat} {f f':KT} {u:Value} (h:SecD w b base K br bF wx f) (hb:b ≠ bF) (hR:br ≠ bF) (hg:base<=bF) (hw:w.heap.size<=bF) (hi:i<9) (e:f.cells.set i u=f'.cells) (hd:DrF f'):SecD w b base K br bF (wx.setCell ⟨bF,i,none⟩ u) f':=
 ⟨by rw [<- e];exact h.vF.put i (by show i<9;exact hi) u,h.vR.far (by show bF ≠ br;exact fun q=>hR q.symm) u,h.cur.far hb hg u,h.only.setNew hw u,hd⟩
def drBf:List BLs:=[[69,85,82,32],[40],[97,59,98]]
def drAf:List BLs:=[[32,107,109],[41],[46]]
def drDt:List BLs:=[[121,121,121,121,45,109,109,45,100,100],[100,46,109,46,121,121],[104,104,58,110,110,58,115,115],[121,121,121,121,47,109,109,47,100,100,32,104,104,58,110,110],[109,109]]
theorem zT9 {w wx:World} {b base K br bF:Nat} {f:KT} (h:SecD w b base K br bF wx f) (hR:w.heap.size<=br) (hb:b ≠ br) (hg:base<=br) :
  ∃ wn,wx.setCells br 0 f.cells=wn/\Vec wn br f.cells/\Cur wn b base K/\Only b w wn/\wx.there br 0 9/\wx.rangeAt bF 0 f.cells:=by
 obtain ⟨ng,bf,af,wh,pl,mb,gr,tm,dt⟩:=f;refine ⟨_,rfl,?_,Cur.setCellsT hb hg _ 0 wx h.cur,Only.setCellsT hR _ 0 wx h.only,zEO h.vR (by simp),fun j u hu=>by rw [Nat.zero_add];exact (h.vF j u hu).1⟩;exact zCQ _ 0 wx _ h.vR (by simp)
theorem zUI (b base K:Nat) (w:World) (h:Cur w b base K) (hK:K<=900000) :
  Calls Tryz.prog 42 #[.pointer (some ⟨b,0,none⟩)] w fun e w'=>(∃ f:KT,e=.returned (.agg f.cells.toArray)/\DrF f)/\Cur w' b base (K+40)/\Only b w w':=by
 have bl:=h.lt;have bb:=h.baseC;obtain ⟨u0,u1,h0,h1,s0,s1,V0,V1,X⟩:=mkB2 w [.bool false,sV [],sV [],iQ 0,iQ 0,iQ 0,.bool false,iQ 0,sV []] [.bool false,sV [],sV [],iQ 0,iQ 0,iQ 0,.bool false,iQ 0,sV []] 28 28;obtain ⟨br,hbr⟩:=nm (w.heap.size);rw [hbr] at V0 V1;obtain ⟨u2,hu2,V2,K2,E2,VT2⟩:=zEG V1 (.bool false) (sV []) (sV []) (iQ 0) (iQ 0) (iQ 0) (.bool false) (iQ 0) (sV []);have C2:Cur u2 b base K:=by rw [<- hu2];exact Cur.setCellsT (by omega) (by omega) _ 0 u1 (h.ext X)
 have O2:Only b w u2:=by rw [<- hu2];exact Only.setCellsT (by omega) _ 0 u1 (Only.of_ext X)
 obtain ⟨f0,SD⟩:∃ f0,Hid (SecD w b base (K+0) br (br+1) u2 f0):=⟨zBM,V2,K2 br _ (by omega) (by simp) V0,C2,O2,by show _/\_;simp [zBM]⟩;have H2:=hid hu2;have HBR:=hid hbr;have HN:Hid (b<br/\base<=b/\w.heap.size=br):=⟨by omega,bb,hbr⟩;have HK:=hid hK;clear h bl bb V0 V1 X hu2 V2 K2 E2 C2 O2 hK;go_enter Tryz.func42,Tryz.ntmps42;go_upto_region 2 with (refine zAW rfl _ _ _ rfl (br+1) 0 _ rfl rfl VT2 hi9K (by simp [Value.oneCell']) H2.out ?_);clear hbr h0 h1 s0 s1 VT2;go_upto_if 6 with (go_at_call 17;refine (oneC b base (K+0) 4 _ SD.out.cur (by have:=HK.out;omega) (by omega) (by omega)).mono ?_;rintro e w1 ⟨v,rfl,c1,o1⟩;have SD1:=hid (SD.out.step (by have:=HN.out;omega) (by have:=HN.out;omega) c1 o1));clear SD c1 o1;go_cut [] (fun wx=>∃ f,SecD w b base (K+8) br (br+1) wx f)
 case first =>
  cases v
  ·go_wp2_with fail;go_meet
   case rel=>exact ⟨_,SD1.out.more (by omega)⟩
  ·obtain ⟨g1,hg1⟩:=nm (w1.heap.size);have TV:=zA2 w1 (drBf.map sV) 9;rw [hg1] at TV;have hgb:Hid (b<g1/\br+1<g1):=by
    have h1:=SD1.out.cur.lt;have h2:br+1<w1.heap.size:=World.block_lt_of_cell? _ _ (SD1.out.vF 0 _ rfl).1;show _/\_;omega
   have SDx:=fun o=>hid (SD1.out.ext (x1 w1 o));go_wp2_with fail;refine (zBA b base _ 3 _ (SDx _).out.cur (by have:=HK.out;omega) (by omega) (by omega)).mono ?_;rintro e w2 ⟨y,rfl,⟨y0,y9⟩,c2,o2⟩;have SD2:=hid ((SDx _).out.step (by have:=HN.out;omega) (by have:=HN.out;omega) c2 o2);have TV:Vec w2 g1 (drBf.map sV):=o2.vecC (by have:=hgb.out;omega) TV;clear SDx c2 o2 SD1;obtain ⟨m,rfl⟩:=Int.eq_ofNat_of_zero_le y0;obtain ⟨t,ht,hm⟩:=zLY (L:=drBf) (m:=m) (by show m<3;omega);have hl:t.length<=4:=by
    simp only [drBf,List.mem_cons,List.not_mem_nil,or_false] at hm
    rcases hm with rfl | rfl | rfl <;> decide
   have a0:=(TV m _ ht).1;have i2:(m:Int)<3:=y9;obtain ⟨ca,cf⟩:=SD2.out.vF 1 _ rfl;have SD3:=hid (SD2.out.put (i:=1) (u:=sV t) (f':=⟨f0.ng,t,f0.af,f0.wh,f0.pl,f0.mb,f0.gr,f0.tm,f0.dt⟩) (by have:=HN.out;omega) (by omega) (by have:=HN.out;omega) (by have:=HN.out;omega) (by omega) rfl ⟨by show t.length<=20;omega,SD2.out.dr.2.1,SD2.out.dr.2.2⟩);clear hm ht TV hg1 SD2;go_wp2_with fail;go_meet
   case rel=>exact ⟨_,SD3.out.more (by omega)⟩
 case rest =>
  obtain ⟨f0,hf0⟩:=hcut
  rename World=>w0
  have SD:=hid hf0;clear hf0;go_upto_if 14 with (go_at_call 17;refine (oneC b base (K+8) 4 _ SD.out.cur (by have:=HK.out;omega) (by omega) (by omega)).mono ?_;rintro e w1 ⟨v,rfl,c1,o1⟩;have SD1:=hid (SD.out.step (by have:=HN.out;omega) (by have:=HN.out;omega) c1 o1));clear SD c1 o1;go_cut [] (fun wx=>∃ f,SecD w b base (K+16) br (br+1) wx f)
  case first =>
   cases v
   ·go_wp2_with fail;go_meet
    case rel=>exact ⟨_,SD1.out.more (by omega)⟩
   ·obtain ⟨g1,hg1⟩:=nm (w1.heap.size);have TV:=zA2 w1 (drAf.map sV) 9;rw [hg1] at TV;have hgb:Hid (b<g1/\br+1<g1):=by
     have h1:=SD1.out.cur.lt;have h2:br+1<w1.heap.size:=World.block_lt_of_cell? _ _ (SD1.out.vF 0 _ rfl).1;show _/\_;omega
    have SDx:=fun o=>hid (SD1.out.ext (x1 w1 o));go_wp2_with fail;refine (zBA b base _ 3 _ (SDx _).out.cur (by have:=HK.out;omega) (by omega) (by omega)).mono ?_;rintro e w2 ⟨y,rfl,⟨y0,y9⟩,c2,o2⟩;have SD2:=hid ((SDx _).out.step (by have:=HN.out;omega) (by have:=HN.out;omega) c2 o2);have TV:Vec w2 g1 (drAf.map sV):=o2.vecC (by have:=hgb.out;omega) TV;clear SDx c2 o2 SD1;obtain ⟨m,rfl⟩:=Int.eq_ofNat_of_zero_le y0;obtain ⟨t,ht,hm⟩:=zLY (L:=drAf) (m:=m) (by show m<3;omega);have hl:t.length<=3:=by
     simp only [drAf,List.mem_cons,List.not_mem_nil,or_false] at hm
     rcases hm with rfl | rfl | rfl <;> decide
    have a0:=(TV m _ ht).1;have i2:(m:Int)<3:=y9;obtain ⟨ca,cf⟩:=SD2.out.vF 2 _ rfl;have SD3:=hid (SD2.out.put (i:=2) (u:=sV t) (f':=⟨f0.ng,f0.bf,t,f0.wh,f0.pl,f0.mb,f0.gr,f0.tm,f0.dt⟩) (by have:=HN.out;omega) (by omega) (by have:=HN.out;omega) (by have:=HN.out;omega) (by omega) rfl ⟨SD2.out.dr.1,by show t.length<=20;omega,SD2.out.dr.2.2⟩);clear hm ht TV hg1 SD2;go_wp2_with fail;go_meet
    case rel=>exact ⟨_,SD3.out.more (by omega)⟩
  case rest =>
   obtain ⟨f0,hf0⟩:=hcut
   rename World=>w0
   have SD:=hid hf0;clear hf0;obtain ⟨ng,bf,af,wh,pl,mb,gr,tm,dt⟩:=f0;go_wp2_with fail;refine (oneC b base (K+16) 4 _ SD.out.cur (by have:=HK.out;omega) (by omega) (by omega)).mono ?_;rintro e w1 ⟨v,rfl,c1,o1⟩;have SD1:=hid (SD.out.step (by have:=HN.out;omega) (by have:=HN.out;omega) c1 o1);clear SD c1 o1;cases v
   ·go_wp2_with fail;refine (zBA b base _ 3 _ SD1.out.cur (by have:=HK.out;omega) (by omega) (by omega)).mono ?_;rintro e w2 ⟨y1,rfl,⟨y0,y9⟩,c2,o2⟩;have SDx:=hid (SD1.out.step (by have:=HN.out;omega) (by have:=HN.out;omega) c2 o2);have cc:=SDx.out.vF 3 _ rfl;have SDy:=hid (SDx.out.put (i:=3) (u:=iQ (1+y1)) (f':=⟨ng,bf,af,1+y1,pl,mb,gr,tm,dt⟩) (by have:=HN.out;omega) (by omega) (by have:=HN.out;omega) (by have:=HN.out;omega) (by omega) rfl SDx.out.dr);obtain ⟨wz1,hz1⟩:=nm (w2.setCell ⟨br+1,3,none⟩ (iQ (1+y1)));rw [hz1] at SDy;have SD2:=SDy;clear SDy SDx SD1 c2 o2;go_wp2_with fail;refine (oneC b base _ 3 _ SD2.out.cur (by have:=HK.out;omega) (by omega) (by omega)).mono ?_;rintro e w3 ⟨y2,rfl,c2,o2⟩;have SDx:=hid (SD2.out.step (by have:=HN.out;omega) (by have:=HN.out;omega) c2 o2);have cc:=SDx.out.vF 6 _ rfl;have SDy:=hid (SDx.out.put (i:=6) (u:=.bool y2) (f':=⟨ng,bf,af,1+y1,pl,mb,y2,tm,dt⟩) (by have:=HN.out;omega) (by omega) (by have:=HN.out;omega) (by have:=HN.out;omega) (by omega) rfl SDx.out.dr);obtain ⟨wz2,hz2⟩:=nm (w3.setCell ⟨br+1,6,none⟩ (.bool y2));rw [hz2] at SDy;have SD3:=SDy;clear SDy SDx SD2 c2 o2;go_wp2_with fail;refine (zBA b base _ 4 _ SD3.out.cur (by have:=HK.out;omega) (by omega) (by omega)).mono ?_;rintro e w4 ⟨y3,rfl,⟨y0,y9⟩,c2,o2⟩;have SDx:=hid (SD3.out.step (by have:=HN.out;omega) (by have:=HN.out;omega) c2 o2);have cc:=SDx.out.vF 4 _ rfl;have SDy:=hid (SDx.out.put (i:=4) (u:=iQ y3) (f':=⟨ng,bf,af,1+y1,y3,mb,y2,tm,dt⟩) (by have:=HN.out;omega) (by omega) (by have:=HN.out;omega) (by have:=HN.out;omega) (by omega) rfl SDx.out.dr);obtain ⟨wz3,hz3⟩:=nm (w4.setCell ⟨br+1,4,none⟩ (iQ y3));rw [hz3] at SDy;have SD4:=SDy;clear SDy SDx SD3 c2 o2;go_wp2_with fail;refine (zBA b base _ 3 _ SD4.out.cur (by have:=HK.out;omega) (by omega) (by omega)).mono ?_;rintro e w5 ⟨y4,rfl,⟨y0,y9⟩,c2,o2⟩;have SDx:=hid (SD4.out.step (by have:=HN.out;omega) (by have:=HN.out;omega) c2 o2);have cc:=SDx.out.vF 5 _ rfl;have SDy:=hid (SDx.out.put (i:=5) (u:=iQ y4) (f':=⟨ng,bf,af,1+y1,y3,y4,y2,tm,dt⟩) (by have:=HN.out;omega) (by omega) (by have:=HN.out;omega) (by have:=HN.out;omega) (by omega) rfl SDx.out.dr);obtain ⟨wz4,hz4⟩:=nm (w5.setCell ⟨br+1,5,none⟩ (iQ y4));rw [hz4] at SDy;have SD5:=SDy;clear SDy SDx SD4 c2 o2;go_wp2_with fail;refine (zBA b base _ 6 _ SD5.out.cur (by have:=HK.out;omega) (by omega) (by omega)).mono ?_;rintro e w6 ⟨y5,rfl,⟨y0,y9⟩,c2,o2⟩;have SDx:=hid (SD5.out.step (by have:=HN.out;omega) (by have:=HN.out;omega) c2 o2);have cc:=SDx.out.vF 7 _ rfl;have SDy:=hid (SDx.out.put (i:=7) (u:=iQ (y5 / 4)) (f':=⟨ng,bf,af,1+y1,y3,y4,y2,y5 / 4,dt⟩) (by have:=HN.out;omega) (by omega) (by have:=HN.out;omega) (by have:=HN.out;omega) (by omega) rfl SDx.out.dr);obtain ⟨wz5,hz5⟩:=nm (w6.setCell ⟨br+1,7,none⟩ (iQ (y5 / 4)));rw [hz5] at SDy;have SD6:=SDy;clear SDy SDx SD5 c2 o2;obtain ⟨wn,hn,VN,CN,ON,VT,VR⟩:=zT9 SD6.out (by have:=HN.out;omega) (by have:=HN.out;omega) (by have:=HN.out;omega);dsimp only [KT.cells] at VR hn;have HN9:=hid hn;have PO:Hid ((∃ f:KT,Ending.returned (.agg #[.bool ng,sV bf,sV af,iQ (1+y1),iQ y3,iQ y4,.bool y2,iQ (y5 / 4),sV dt])=.returned (.agg f.cells.toArray)/\DrF f)/\Cur wn b base (K+40)/\Only b w wn):=⟨⟨_,rfl,SD6.out.dr⟩,CN.more (by omega),ON⟩;have q0:=vC9 VN;clear hn VN CN ON SD6;go_wp2_with (first | (refine wpList_load_mid rfl 28 (.tmp 3) rfl (br+1) 0 rfl _ _ VR Tryz.underlying28 rfl hi9K ?_) | (refine zAW rfl _ _ _ rfl br 0 _ rfl rfl VT hi9K (by simp [Value.oneCell']) HN9.out ?_));exact bodyPost_ret (v:=.agg #[.bool ng,sV bf,sV af,iQ (1+y1),iQ y3,iQ y4,.bool y2,iQ (y5 / 4),sV dt]) (by simp [results,Tryz.results42,go_sem,q0]) rfl PO.out
   ·obtain ⟨g1,hg1⟩:=nm (w1.heap.size);have TV:=zA2 w1 (drDt.map sV) 9;rw [hg1] at TV;have hgb:Hid (b<g1/\br+1<g1):=by
     have h1:=SD1.out.cur.lt;have h2:br+1<w1.heap.size:=World.block_lt_of_cell? _ _ (SD1.out.vF 0 _ rfl).1;show _/\_;omega
    have SDx:=fun o=>hid (SD1.out.ext (x1 w1 o));go_wp2_with fail;refine (zBA b base _ 5 _ (SDx _).out.cur (by have:=HK.out;omega) (by omega) (by omega)).mono ?_;rintro e w2 ⟨y,rfl,⟨y0,y9⟩,c2,o2⟩;have SD2:=hid ((SDx _).out.step (by have:=HN.out;omega) (by have:=HN.out;omega) c2 o2);have TV:Vec w2 g1 (drDt.map sV):=o2.vecC (by have:=hgb.out;omega) TV;clear SDx c2 o2 SD1;obtain ⟨m,rfl⟩:=Int.eq_ofNat_of_zero_le y0;obtain ⟨t,ht,hm⟩:=zLY (L:=drDt) (m:=m) (by show m<5;omega);have hl:t.length<=16:=by
     simp only [drDt,List.mem_cons,List.not_mem_nil,or_false] at hm
     rcases hm with rfl | rfl | rfl | rfl | rfl <;> decide
    have a0:=(TV m _ ht).1;have i2:(m:Int)<5:=y9;have cc:=SD2.out.vF 8 _ rfl;have SD3:=hid (SD2.out.put (i:=8) (u:=sV t) (f':=⟨ng,bf,af,wh,pl,mb,gr,tm,t⟩) (by have:=HN.out;omega) (by omega) (by have:=HN.out;omega) (by have:=HN.out;omega) (by omega) rfl ⟨SD2.out.dr.1,SD2.out.dr.2.1,by show t.length<=40;omega⟩);obtain ⟨w3,h3⟩:=nm (w2.setCell ⟨br+1,8,none⟩ (sV t));rw [h3] at SD3;clear hm ht TV hg1 SD2;obtain ⟨wn,hn,VN,CN,ON,VT,VR⟩:=zT9 SD3.out (by have:=HN.out;omega) (by have:=HN.out;omega) (by have:=HN.out;omega);dsimp only [KT.cells] at VR hn;have HN9:=hid hn;have PO:Hid ((∃ f:KT,Ending.returned (.agg #[.bool ng,sV bf,sV af,iQ wh,iQ pl,iQ mb,.bool gr,iQ tm,sV t])=.returned (.agg f.cells.toArray)/\DrF f)/\Cur wn b base (K+40)/\Only b w wn):=⟨⟨_,rfl,SD3.out.dr⟩,CN.more (by omega),ON⟩;have q0:=vC9 VN;clear hn VN CN ON SD3;go_wp2_with (first | (refine wpList_load_mid rfl 28 (.tmp 3) rfl (br+1) 0 rfl _ _ VR Tryz.underlying28 rfl hi9K ?_) | (refine zAW rfl _ _ _ rfl br 0 _ rfl rfl VT hi9K (by simp [Value.oneCell']) HN9.out ?_));exact bodyPost_ret (v:=.agg #[.bool ng,sV bf,sV af,iQ wh,iQ pl,iQ mb,.bool gr,iQ tm,sV t]) (by simp [results,Tryz.results42,go_sem,q0]) rfl PO.out
theorem Cur.base_le {w:World} {b base K:Nat} (h:Cur w b base K):base<=b:=by obtain ⟨_,_,_,_,_,_,_,_,_,_,_,hb⟩:=h;exact hb
theorem Only.of_grown {w w':World} {g:Nat} (h:w.grownBy w' (some g)):Only g w w':=⟨h.os,h.tape,h.output,h.size,fun k hk hl=>h.block k hl (fun e=>hk (by cases e;rfl))⟩
theorem zLL {w w':World} (h:w.grownBy w' none):Ext w w':=⟨h.os,h.tape,h.output,h.size,fun k hk=>h.block k hk (fun e=>by cases e)⟩
theorem Only.to_grown {w w':World} {g:Nat} (h:Only g w w'):w.grownBy w' (some g):=⟨h.os,h.tape,h.output,h.size,fun k hk hne=>h.block k (fun e=>hne (by rw [e])) hk⟩
theorem Only.box3 {b k:Nat} {w w':World} {v0 v1 v2:Value} (h:Only b w w') (hk:k ≠ b) (B:Box3 w k v0 v1 v2):Box3 w' k v0 v1 v2:=by
 have hlt:=World.block_lt_of_cell? _ _ B.1.1;have hf:∀ j,w'.frozen? ⟨k,j,none⟩=w.frozen? ⟨k,j,none⟩:=fun j=>by
  unfold World.frozen?;rw [h.block k hk hlt]
 exact ⟨⟨h.cell hk B.1.1,h.cell hk B.1.2.1,h.cell hk B.1.2.2⟩,(hf 0).trans B.2.1,(hf 1).trans B.2.2.1,(hf 2).trans B.2.2.2⟩
theorem Cur.grown {w w':World} {b base K:Nat} {row:Option Nat} (h:Cur w b base K) (hg:w.grownBy w' row) (hr:∀ r,row=some r->r ≠ b/\base<=r):Cur w' b base K:=by
 cases row with
 | none=>exact h.ext (zLL hg)
 | some g =>
  obtain ⟨hgb,hbg⟩:=hr g rfl;have o:=Only.of_grown hg;obtain ⟨v,k,a,s,B,hc,r⟩:=h;exact ⟨v,k,a,s,o.box3 (fun e=>hgb e.symm) B,hc.only o hbg,r⟩
theorem Only.grown {w w1 w':World} {b:Nat} {row:Option Nat} (h:Only b w w1) (hg:w1.grownBy w' row) (hr:∀ r,row=some r->w.heap.size<=r):Only b w w':=
 ⟨hg.os.trans h.os,hg.tape.trans h.tape,hg.output.trans h.output,Nat.le_trans h.size hg.size,fun k hk hl=>(hg.block k (Nat.lt_of_lt_of_le hl h.size) (fun e=>by have:=hr k e.symm;omega)).trans (h.block k hk hl)⟩
theorem zGI {w w':World} {row:Option Nat} {k j:Nat} {v:Value} (hg:w.grownBy w' row) (hr:∀ r,row=some r->r ≠ k) (hc:w.cell? ⟨k,j,none⟩=some v):w'.cell? ⟨k,j,none⟩=some v:=by
 cases row with
 | none=>exact cell_later (zLL hg) hc
 | some g=>exact (Only.of_grown hg).cell (fun e=>hr g rfl e.symm) hc
theorem zPD {w w':World} {b base:Nat} {v:Value} {l:List KT} (h:OwnF w base v l) (hx:Only b w w') (hb:b<base):OwnF w' base v l:=by
 refine ⟨h.1,h.2.imp id ?_⟩;rintro ⟨g,cap,cur,rfl,h2,h3,h4⟩;have hg:g<w.heap.size:=by
  rcases Nat.lt_or_ge g w.heap.size with h' | h'
  ·exact h'
  ·rw [Array.getElem?_eq_none h'] at h3;cases h3
 exact ⟨g,cap,cur,rfl,h2,by rw [hx.block g (by omega) hg];exact h3,h4⟩
structure FmtD (w:World) (b base K:Nat) (v:Value) (l:List KT) (wx:World):Prop where
 own:OwnF wx w.heap.size v l
 cur:Cur wx b base K
 only:Only b w wx
 dr:∀ f ∈ l,DrF f
theorem zK2 (b base K:Nat) (w:World) (h:Cur w b base K) (hK:K<=800000) :
  Calls Tryz.prog 16 #[.pointer (some ⟨b,0,none⟩)] w fun e w'=>∃ v l,e=.returned v/\FmtD w b base (K+140) v l w'/\1<=l.length/\l.length<=3:=by
 have bl:=h.lt;have bb:=h.baseC;obtain ⟨B,hB⟩:=nm (w.heap.size);have HB:Hid (w.heap.size=B/\b<B/\base<=b):=⟨hB,by omega,bb⟩;have HK:=hid hK;have HC:=hid h;clear hB bl bb hK h;go_enter Tryz.func16,Tryz.ntmps16;go_wp2_with fail;refine (zBA b base K 3 _ HC.out (by have:=HK.out;omega) (by omega) (by omega)).mono ?_;rintro e w1 ⟨y,rfl,⟨y0,y9⟩,c1,o1⟩;have HF:Hid (FmtD w b base (K+2) (.slice none 0 0) [] w1):=⟨zBX _ _,c1,o1,fun f hf=>by cases hf⟩;obtain ⟨m,hm⟩:=Int.eq_ofNat_of_zero_le y0;subst hm;have hm3:m<3:=by omega
 have wm:IntKind.i64.wrap (1+(m:Int))=((m+1:Nat):Int):=by rw [IntKind.wrap_i64] <;> omega
 clear c1 o1 HC;go_wp2_with fail;clear wm y0 y9;go_loopw [3,4] (fun v n wr=>∃ (l:List KT) (j:Nat),n=.int .i64 (j:Int)/\l.length+j=m+1/\Hid (FmtD w b base (K+2+42 * l.length) v l wr)) (fun _ n _=>(intOf n).toNat)
 case atStart=>exact ⟨[],m+1,by go_num,by simp,HF⟩
 case round =>
  clear HF;obtain ⟨l,j,rfl,hlj,HF⟩:=hrel;obtain ⟨p4,c4,hv,-⟩:=zBH HF.out.own;subst hv;by_cases hj:0<j
  ·have i1:(0:Int)<(j:Int):=by omega
   have i2:(j:Int) > 0:=i1;obtain ⟨j',rfl⟩:∃ j',j=j'+1:=⟨j - 1,by omega⟩;have wj:IntKind.i64.wrap (((j'+1:Nat):Int) - 1)=(j':Int):=by rw [IntKind.wrap_i64] <;> omega
   have hll:Hid (l.length<=2):=by show _<=_;omega
   go_wp2_with fail;refine (zUI b base _ _ HF.out.cur (by have:=HK.out;have:=hll.out;omega)).mono ?_;rintro e w2 ⟨⟨f,rfl,hd⟩,c2,o2⟩;have HO2:=zPD HF.out.own o2 (by have:=HB.out;omega);have O2:=HF.out.only.trans o2;have HD:=hid hd;have hdr:=hid HF.out.dr;have OQ:Hid (OwnF (w2.alloc (.cells f.cells.toArray 28)) w.heap.size (.slice p4 l.length c4) l):=zDO HO2 (x1 _ _);have HOB:=hid (zDP OQ.out);have C3:=hid (c2.ext (x1 w2 (.cells f.cells.toArray 28)));have O3:=hid (O2.trans (Only.of_ext (x1 w2 (.cells f.cells.toArray 28))));have hsz:Hid (w.heap.size<=w2.heap.size):=O2.size;obtain ⟨inf,hi,hz,hz1,hz2⟩:=infoF;clear HO2 O2 c2 o2 hd HF;go_wp2_with (at_builtin;refine wpList_append_own _ rfl _ _ 23 rfl w.heap.size 28 inf (.agg zBM.cells.toArray) 9 96 Tryz.underlying23 hi hz hz1 hz2 rfl (by decide) _ _ _ rfl OQ.out ⟨w2.heap.size,0,none⟩ 1 1 f.cells rfl rfl (World.news_of_block (heap_alloc_new w2 (.cells f.cells.toArray 28))) (by simp [Value.oneCell']) (by have:=hll.out;simp only [maxLen];omega) (by have:=hll.out;omega) (by have:=hsz.out;simp;omega) ?_);intro v7 wC ownC gC _;have OC:OwnF wC w.heap.size v7 (l++[f]):=by
    show World.ownsRow _ _ _ _ _ _ _;rw [zEH,List.length_append];rw [show zC1 [f]=f.cells by simp [zC1]];exact ownC
   have CC:=C3.out.grown gC (fun r hr=>by have h1:=(HOB.out r hr).1;have:=HB.out;omega);have OO:=O3.out.grown gC (fun r hr=>by have h1:=(HOB.out r hr).1;have:=HB.out;omega);have HF2:Hid (FmtD w b base (K+2+42 * (l++[f]).length) v7 (l++[f]) wC):=⟨OC,CC.more (by rw [List.length_append];simp;omega),OO,fun g hg=>by
    rcases List.mem_append.1 hg with hg | hg
    ·exact hdr.out g hg
    ·rw [List.mem_singleton.1 hg];exact HD.out⟩
   obtain ⟨p7,c7,hv7,-⟩:=zBH OC;subst hv7;clear gC ownC hi hz hz1 hz2 OQ HOB C3 O3 OC CC OO;go_wp2_with fail;go_roundw
   case rel=>exact ⟨l++[f],j',by first | rfl | go_num,by rw [List.length_append];simp;omega,HF2⟩
   case measure=>simp [intOf]
  ·obtain rfl:j=0:=by omega
   clear hj;go_wp2_with fail;go_ret;exact ⟨_,l,rfl,⟨HF.out.own,HF.out.cur.more (by omega),HF.out.only,HF.out.dr⟩,by omega,by omega⟩
theorem app_src {P:Program} (w:World) (base:Nat) (t tx ty e:TypeId) (i:TypeInfo) (z:Value) (ht:P.underlying t=some (.slice e)) (hi:P.info? e=some i) (hz:i.zero=some z)
  (hsize:i.size=1) (hby:i.bytes=1) (hzs:z.cells.size=1) (v:Value) (n:Nat) (xs:List Value) (hown:w.ownsRow base e 1 v n xs) (x:Value) (m:Nat) (news:List Value) (hs:Src P 1 tx x m news w)
  (hnm:n+m<=100000) (hbase:base<=w.heap.size) :
  ∃ v' w',(Builtin.append_ #[t,tx] ty #[v,x]).run P w=.ok v' w'/\w'.ownsRow base e 1 v' (n+m) (xs++news)/\w.grownBy w' v.ownBlock:=by
 have hs':Src P i.size tx x m news w:=by rw [hsize];exact hs
 have hml:n+m<=maxLen:=by simp only [maxLen];omega
 have hlen:(xs++news).length=(n+m) * 1:=by rw [List.length_append,hown.1,hs.newsLen,Nat.add_mul]
 have grown:∀ (old:Nat) (row:Option Nat),
   (w.drew.alloc (.cells ((xs++news).toArray++Builtin.zeroCells z.cells (grownCap w (n+m) old e - (n+m))) e)).ownsRow base e 1 (.slice (some ⟨w.heap.size,0,none⟩) (n+m) (grownCap w (n+m) old e)) (n+m) (xs++news) /\
   w.grownBy (w.drew.alloc (.cells ((xs++news).toArray++Builtin.zeroCells z.cells (grownCap w (n+m) old e - (n+m))) e)) row:=by
  intro old row;have hge:=grownCap_ge w (n+m) old e;refine ⟨⟨hlen,.inr ⟨w.heap.size,_,_,rfl,hbase,heap_alloc_new w.drew _,hge,grownCap_le_maxLen w (n+m) old e hml,?_,?_⟩⟩,⟨rfl,rfl,rfl,by simp,fun k hk _=>heap_alloc_old w.drew _ (h:=hk)⟩⟩
  ·rw [Array.size_append,List.size_toArray,size_zeroCells,hzs,hlen];omega
  ·rw [Array.toList_append,<- hlen];exact List.take_left
 rcases hown.2 with ⟨rfl,rfl⟩ | ⟨g,cap,cur,rfl,hbg,hg,hnc,hcm,hcs,htake⟩
 ·have hx:xs=[]:=List.eq_nil_of_length_eq_zero (by simpa using hown.1);subst hx;by_cases hm:m=0
  ·subst hm;have hn:news=[]:=List.eq_nil_of_length_eq_zero (by simpa using hs.newsLen);subst hn;exact ⟨_,_,run_append_nothing w t tx ty e i ht hi none 0 0 (Nat.le_refl _) x hs',World.ownsRow_nil w base e 1,⟨rfl,rfl,rfl,Nat.le_refl _,fun _ _ _=>rfl⟩⟩
  ·have hr:=run_append_grow_src (P:=P) w t tx ty e i z ht hi hz none 0 0 [] (run_firstCells_none w.drew i.size 0 0 0) x m news hs' (by omega) (by omega) (growslice_fits (by omega) (by rw [hby];omega));have hgr:=grown 0 (Value.ownBlock (.slice none 0 0));exact ⟨_,_,hr,hgr.1,hgr.2⟩
 ·by_cases hroom:n+m<=cap
  ·have hfit:n * i.size+news.length<=cur.size:=by rw [hs'.newsLen,hcs,hsize,<- Nat.add_mul];omega
   have hst:=run_storeCells_at P g (n * i.size) e news 0 cur w hg (by simpa using hfit) hs.one;simp only [Nat.add_zero] at hst;have hr:(Builtin.append_ #[t,tx] ty #[.slice (some ⟨g,0,none⟩) n cap,x]).run P w=.ok (.slice (some ⟨g,0,none⟩) (n+m) cap) (w.setRow g (cur.toList.take (n * i.size)++news++cur.toList.drop (n * i.size+news.length)).toArray):=by
    rcases hs'.kind with ⟨e',hk⟩ | hk <;> simp [Builtin.append_,run_underlying ht,run_underlying hk,sizeOf,typeInfo,hi,hs'.len,hroom,hs'.cells,Addr.add_lit,hst]
   refine ⟨_,_,hr,⟨hlen,.inr ⟨g,cap,_,rfl,hbg,setRow_heap w g cur _ e _ hg,hroom,hcm,?_,?_⟩⟩,⟨rfl,rfl,rfl,by simp,fun k _ hk=>setRow_other w g k _ (fun e=>hk (by simp [Value.ownBlock,e]))⟩⟩
   ·simp only [List.size_toArray,List.length_append,List.length_take,List.length_drop,Array.length_toList];omega
   ·rw [hsize,htake,<- hlen];exact List.take_left
  ·have holds:∀ j u,xs[j]?=some u->w.cell? ((⟨g,0,none⟩:Addr).add j)=some u:=hown.cells (g:=g) rfl;have hr:=run_append_grow_src (P:=P) w t tx ty e i z ht hi hz (some ⟨g,0,none⟩) n cap xs (run_firstCells_some (P:=P) w.drew i.size n ⟨g,0,none⟩ n cap xs (by rw [hsize];exact hown.1) (by simpa using holds)) x m news hs' (by omega) (by omega) (growslice_fits (by omega) (by rw [hby];omega));have hgr:=grown cap (Value.ownBlock (.slice (some ⟨g,0,none⟩) n cap));exact ⟨_,_,hr,hgr.1,hgr.2⟩
theorem zDC {P:Program} (w:World) {ops:Array Oper} {rest:List Oper} {o:Oper} {a:Act} {Q:Exit->Act->World->Prop} (hgd:o.guard=none) (s x:Operand) (t tx:TypeId)
  (ho:o.op=.call { callee:=.builtin .append,args:=#[s,x],argTypes:=#[t,tx] })
  (base:Nat) (e:TypeId) (i:TypeInfo) (z:Value) (ht:P.underlying t=some (.slice e)) (hi:P.info? e=some i) (hz:i.zero=some z)
  (hsize:i.size=1) (hby:i.bytes=1) (hzs:z.cells.size=1) (v:Value) (n:Nat) (xs:List Value) (hsv:a.eval s=v) (hown:w.ownsRow base e 1 v n xs) (xv:Value) (m:Nat) (news:List Value) (hx:a.eval x=xv) (hs:Src P 1 tx xv m news w)
  (hnm:n+m<=100000) (hbase:base<=w.heap.size)
  (h:∀ v' w',w'.ownsRow base e 1 v' (n+m) (xs++news)->w.grownBy w' v.ownBlock->wpList P ops Q rest (a.put o.dst v') w'):wpList P ops Q (o :: rest) a w:=by
 obtain ⟨v',w',hr,h2,h3⟩:=app_src (P:=P) w base t tx o.type e i z ht hi hz hsize hby hzs v n xs hown xv m news hs hnm hbase;refine wpList_plain hgd fun _ hK=>?_;unfold Oper.wp execOp;simp only [ho,resolve,invoke,builtin,Sem.run_bind,Sem.run_pure,Result.andThen_ok,List.map_toArray,List.map_cons,List.map_nil,hsv,hx,hr];exact hK _ _ (h v' w' h2 h3)
def bsF (l:List UInt8):ByteArray:=⟨l.toArray⟩
theorem zOA (l:List UInt8):(bsF l).size=l.length:=rfl
theorem zS6 {w:World} {base n:Nat} {v:Value} (l:List UInt8) (h:w.ownsRow base 5 1 v n (l.map fun c=>Value.int .u8 c.toNat)) (hn:0<n):(convert 22 9 v).run Tryz.prog w=.ok (.string (bsF l)) w:=by
 have hl:l.length=n:=by simpa using h.1
 rcases h.2 with ⟨_,h0⟩ | ⟨g,cap,cur,rfl,_⟩
 ·omega
 ·have:=run_convert_bytes_back (P:=Tryz.prog) w 22 9 5 ⟨g,0,none⟩ cap l Tryz.underlying22 Tryz.underlying5 Tryz.underlying9 (fun j hj=>h.cells (g:=g) rfl j _ (by simp [hj]));rw [hl] at this;exact this
theorem pick1C (b:Nat) (w:World) :
  Calls Tryz.prog 18 #[.pointer (some ⟨b,0,none⟩),iQ 1] w fun e w'=>e=.returned (iQ 0)/\w'=w:=by
 go_enter Tryz.func18,Tryz.ntmps18;go_wp2_with fail;go_ret;exact ⟨rfl,rfl⟩
theorem zJR (b base K n:Nat) (w:World) (h:Cur w b base K) (hK:K<=900000) (n0:1<=n) (n1:n<=100000000) :
  Calls Tryz.prog 18 #[.pointer (some ⟨b,0,none⟩),iQ n] w fun e w'=>∃ v:Nat,e=.returned (iQ v)/\v<n/\Cur w' b base (K+2)/\Only b w w':=by
 rcases Nat.lt_or_ge 1 n with h1 | h1
 ·refine (zBA b base K n w h (by omega) (by omega) (by omega)).mono ?_;rintro e w' ⟨v,rfl,⟨v0,v1⟩,c,o⟩;exact ⟨v.toNat,by rw [Int.toNat_of_nonneg v0],by omega,c,o⟩
 ·obtain rfl:n=1:=by omega
  refine (pick1C b w).mono ?_;rintro e w' ⟨rfl,rfl⟩;exact ⟨0,rfl,by omega,h.more (by omega),(Only.refl b _)⟩
theorem bentG (m b base K:Nat) (l:List UInt8) (g:Nat) (w:World) (h:Cur w b base K) (hK:K<=800000) (l9:l.length<=20000) (hgb:g ≠ b) (m1:1<=m) (m9:m<=100)
  (T:Nat->ByteArray) (VB:∀ j,j<m->w.cell? ⟨g,j,none⟩=some (.string (T j))) (ts:∀ j,(T j).size<=10) (t1:∀ j,j<m->1<=(T j).size) :
  Calls Tryz.prog 27 #[.pointer (some ⟨b,0,none⟩),.string (bsF l),.slice (some ⟨g,0,none⟩) m m] w fun e w'=>∃ (l':List UInt8),e=.returned (.string (bsF l'))/\l'.length<=20100/\Only b w w':=by
 obtain ⟨L,hL⟩:=nm (l.length);have zL:(bsF l).size=L:=by rw [zOA,hL]
 have bl:=h.lt;have bb:=h.base_le;have hcv:=run_bytes_of_string (P:=Tryz.prog) w 9 22 5 (bsF l) Tryz.underlying9 Tryz.underlying22 Tryz.underlying5;obtain ⟨C,hC⟩:=nm (grownCap w (bsF l).size 0 5);have hCL:L<=C:=by rw [<- hC,<- zL];exact grownCap_ge _ _ _ _
 obtain ⟨wb,hwb⟩:=nm (w.drew.alloc (.cells (bytesRow (bsF l) (grownCap w (bsF l).size 0 5)) 5 ((bytesRow (bsF l) (grownCap w (bsF l).size 0 5)).size,(bytesRow (bsF l) (grownCap w (bsF l).size 0 5)).size+1)));have XB:Ext w wb:=by rw [<- hwb];exact xa (xd (xr _)) _
 have CB:∀ j u,((l.map fun c=>Value.int .u8 c.toNat)[j]?=some u)->wb.cell? ⟨w.heap.size,j,none⟩=some u:=fun j u hj=>by
  have hjl:j<l.length:=by
   have:=(List.getElem?_eq_some_iff.1 hj).1;simpa using this
  rw [<- hwb];have:(w.drew.alloc (.cells (bytesRow (bsF l) (grownCap w (bsF l).size 0 5)) 5 ((bytesRow (bsF l) (grownCap w (bsF l).size 0 5)).size,(bytesRow (bsF l) (grownCap w (bsF l).size 0 5)).size+1))).heap[w.heap.size]?=some (.cells (bytesRow (bsF l) (grownCap w (bsF l).size 0 5)) 5 ((bytesRow (bsF l) (grownCap w (bsF l).size 0 5)).size,(bytesRow (bsF l) (grownCap w (bsF l).size 0 5)).size+1)):=heap_alloc_new w.drew _;unfold World.cell?;simp only [this];rw [<- hj];unfold bytesRow;rw [Array.getElem?_append_left (by simp [bsF];exact hjl)];simp [bsF]
 rw [hwb,hC,zL] at hcv;have sb:wb.heap.size=w.heap.size+1:=by rw [<- hwb];simp
 have CC:=h.ext XB;have VC:∀ j,j<m->wb.cell? ⟨g,j,none⟩=some (.string (T j)):=fun j hj=>cell_later XB (VB j hj);have gl:g<w.heap.size:=World.block_lt_of_cell? _ _ (VB 0 (by omega));have OB:Only b w wb:=Only.of_ext XB;have HCB:Hid (∀ j u,((l.map fun c=>Value.int .u8 c.toNat)[j]?=some u)->wb.cell? ⟨w.heap.size,j,none⟩=some u):=CB;clear hC hwb XB VB h CB;go_enter Tryz.func27,Tryz.ntmps27
 rcases Nat.eq_zero_or_pos L with hL0 | hL0
 ·have f1:((L:Int) == 0)=true:=by rw [beq_iff_eq];omega
  clear CC VC HCB;go_wp2_with fail;go_ret;exact ⟨l,rfl,by omega,OB⟩
 have f1:((L:Int) == 0)=false:=by rw [beq_eq_false_iff_ne];omega
 go_wp2_with fail;refine (oneC b base _ 2 wb CC (by omega) (by omega) (by omega)).mono ?_;rintro e w1 ⟨q,rfl,c1,o1⟩;cases q
 ·have O1:=OB.trans o1;clear hcv c1 o1 CC VC HCB;go_wp2_with fail;go_ret;exact ⟨l,rfl,by omega,O1⟩
 ·go_wp2_with fail;refine (zJR b base _ L w1 c1 (by omega) (by omega) (by omega)).mono ?_;rintro e w2 ⟨i,rfl,i1,c2,o2⟩;have O2:=OB.trans (o1.trans o2);have HC2:Hid (∀ j u,((l.map fun c=>Value.int .u8 c.toNat)[j]?=some u)->w2.cell? ⟨w.heap.size,j,none⟩=some u):=fun j u hj=>(o1.trans o2).cell (by omega) (HCB.out j u hj);have VC2:Hid (∀ j,j<m->w2.cell? ⟨g,j,none⟩=some (.string (T j))):=fun j hj=>(o1.trans o2).cell hgb (VC j hj);have s2:w.heap.size+1<=w2.heap.size:=by have:=(o1.trans o2).size;omega
  clear hcv c1 o1 o2 CC VC HCB OB;obtain ⟨inf,hi,hz,hz1,hz2⟩:∃ inf,Tryz.prog.info? 5=some inf/\inf.zero=some (.int .u8 0)/\inf.size=1/\inf.bytes=1:=by
   have h0:(Tryz.prog.info? 5).map (fun i=>(i.zero,i.size,i.bytes))=some (some (.int .u8 0),1,1):=by kernel_rfl
   obtain ⟨inf,e1,e2⟩:=Option.map_eq_some_iff.1 h0;simp only [Prod.mk.injEq] at e2;exact ⟨inf,e1,e2.1,e2.2.1,e2.2.2⟩
  have iC:(i:Int)<=(C:Int):=by omega
  go_wp2_with (at_builtin;refine zDC _ rfl _ _ 22 22 rfl (w.heap.size+1) 5 inf (.int .u8 0) Tryz.underlying22 hi hz hz1 hz2 rfl _ 0 [] rfl (World.ownsRow_nil _ _ _ _) _ i ((l.take i).map fun c=>Value.int .u8 c.toNat) rfl ?_ (by omega) (by omega) ?_)
  ·exact Src.ofSlice _ Tryz.underlying22 ⟨w.heap.size,0,none⟩ i C _ (by simp;omega) (fun j u hj=>by
    rw [Addr.add_lit,Nat.zero_add];refine HC2.out j u ?_;have hji:j<i:=by
     have:=(List.getElem?_eq_some_iff.1 hj).1;simp at this;omega
    rw [<- hj];simp [hji]) (fun u hu=>by
    simp only [List.mem_map] at hu;obtain ⟨_,_,rfl⟩:=hu;rfl)
  intro v1 w3 own1 gr1;have c3:=c2.grown gr1 (fun r e=>by cases e);have O3:=O2.grown gr1 (fun r e=>by cases e);have HC3:Hid (∀ j u,((l.map fun c=>Value.int .u8 c.toNat)[j]?=some u)->w3.cell? ⟨w.heap.size,j,none⟩=some u):=fun j u hj=>zGI gr1 (fun r e=>by cases e) (HC2.out j u hj);have VC3:Hid (∀ j,j<m->w3.cell? ⟨g,j,none⟩=some (.string (T j))):=fun j hj=>zGI gr1 (fun r e=>by cases e) (VC2.out j hj);have s3:w.heap.size+1<=w3.heap.size:=Nat.le_trans s2 gr1.size;clear HC2 VC2 O2 c2 gr1;go_wp2_with fail;refine (zJR b base _ m w3 c3 (by omega) (by omega) (by omega)).mono ?_;rintro e w4 ⟨q,rfl,q1,c4,o4⟩;have own2:=own1.kept (Only.to_grown o4) (.inr (fun e=>by have:=(own1.lt _ e).1;omega));have O4:=O3.trans o4;have HC4:Hid (∀ j u,((l.map fun c=>Value.int .u8 c.toNat)[j]?=some u)->w4.cell? ⟨w.heap.size,j,none⟩=some u):=fun j u hj=>o4.cell (by omega) (HC3.out j u hj);have hq:=o4.cell hgb (VC3.out q (by omega));have s4:w.heap.size+1<=w4.heap.size:=Nat.le_trans s3 o4.size;have tq:=ts q;have tq1:=t1 q q1;clear HC3 VC3 O3 c3 own1 o4;go_wp2_with (at_builtin;refine zDC _ rfl _ _ 22 9 rfl (w.heap.size+1) 5 inf (.int .u8 0) Tryz.underlying22 hi hz hz1 hz2 rfl _ _ _ rfl own2 _ (T q).size (byteCells (T q)) rfl (Src.ofString _ Tryz.underlying9 (T q)) (by omega) (by omega) ?_);intro v2 w5 own3 gr2;have lt2:=fun r e=>(own2.lt r e).1;have c5:=c4.grown gr2 (fun r e=>by have:=lt2 r e;constructor <;> omega);have O5:=O4.grown gr2 (fun r e=>by have:=lt2 r e;omega);have HC5:Hid (∀ j u,((l.map fun c=>Value.int .u8 c.toNat)[j]?=some u)->w5.cell? ⟨w.heap.size,j,none⟩=some u):=fun j u hj=>zGI gr2 (fun r e=>by have:=lt2 r e;omega) (HC4.out j u hj);have s5:w.heap.size+1<=w5.heap.size:=Nat.le_trans s4 gr2.size;clear HC4 O4 c4 gr2 own2 hq lt2;go_wp2_with fail;refine (zJR b base _ 2 w5 c5 (by omega) (by omega) (by omega)).mono ?_;rintro e w6 ⟨k,rfl,k1,c6,o6⟩;have own4:=own3.kept (Only.to_grown o6) (.inr (fun e=>by have:=(own3.lt _ e).1;omega));have O6:=O5.trans o6;have HC6:Hid (∀ j u,((l.map fun c=>Value.int .u8 c.toNat)[j]?=some u)->w6.cell? ⟨w.heap.size,j,none⟩=some u):=fun j u hj=>o6.cell (by omega) (HC5.out j u hj);have s6:w.heap.size+1<=w6.heap.size:=Nat.le_trans s5 o6.size;clear HC5 O5 c5 own3 o6 c6;obtain ⟨ik,e1,i2,i3⟩:∃ ik:Nat,(i:Int)+(k:Int)=(ik:Int)/\i<=ik/\ik<=i+1:=⟨i+k,by omega,by omega,by omega⟩;have e2:(ik:Int)<=(L:Int):=by omega
  have e3:(L:Int)<=(C:Int):=by omega
  go_wp2_with (at_builtin;refine zDC _ rfl _ _ 22 22 rfl (w.heap.size+1) 5 inf (.int .u8 0) Tryz.underlying22 hi hz hz1 hz2 rfl _ _ _ rfl own4 _ (L - ik) ((l.drop ik).map fun c=>Value.int .u8 c.toNat) rfl ?_ (by omega) (by omega) ?_)
  case refine_1.inl =>
   have:L - ik=0:=by omega
   rw [this,List.drop_eq_nil_of_le (by simp;omega)];exact Src.ofSlice _ Tryz.underlying22 ⟨w.heap.size,0,none⟩ 0 0 [] (by simp) (fun j u hj=>by simp at hj) (fun u hu=>by simp at hu)
  case refine_1.inr =>
   exact Src.ofSlice _ Tryz.underlying22 ⟨w.heap.size,ik,none⟩ (L - ik) _ _ (by simp;omega) (fun j u hj=>by
    rw [Addr.add_lit];refine HC6.out _ u ?_;rw [List.getElem?_drop] at hj;exact hj) (fun u hu=>by
    have:=List.mem_of_mem_drop hu;simp only [List.mem_map] at this;obtain ⟨_,_,rfl⟩:=this;rfl)
  all_goals
   intro v3 w7 own5 gr3;have O7:=O6.grown gr3 (fun r e=>by have:=(own4.lt r e).1;omega);have hcv:=zS6 (l.take i++(T q).data.toList++l.drop ik) (by
    simp only [List.map_append,List.map_take,List.map_drop,List.append_assoc];exact own5) (by omega)
   have hlen:(l.take i++(T q).data.toList++l.drop ik).length<=20100:=by
    have:(T q).data.toList.length=(T q).size:=(by rw [Array.length_toList];rfl);simp only [List.length_append,List.length_take,List.length_drop,this];omega
   obtain ⟨l',hl'⟩:=nm (l.take i++(T q).data.toList++l.drop ik);rw [hl'] at hcv hlen;clear hl' own5 gr3 own4 O6 HC6;go_wp2_with fail;go_ret;exact ⟨l',rfl,hlen,O7⟩
theorem zUY {w:World} {base n c:Nat} {p:Option Addr} {f:KT} {r:List KT} (h:OwnF w base (.slice p n c) (f :: r)) :
  ∃ g,p=some ⟨g,0,none⟩/\base<=g/\g<w.heap.size/\n<=c/\Vec w g (zC1 (f :: r)):=by
 have hb:=zDP h
 rcases h.2 with ⟨h0,h1⟩ | ⟨g,cap,cur,hv,h2,h3,h4,_,h5,h6⟩
 ·have:=h.1;simp only [zC1,List.length_append,h1] at this;have e:f.cells.length=9:=rfl;omega
 ·cases hv;refine ⟨g,rfl,h2,(hb g rfl).2,h4,fun i v hi=>?_⟩;have:=h.cells (g:=g) rfl i v hi;rw [show (⟨g,0,none⟩:Addr).add i=⟨g,i,none⟩ by unfold Addr.add;split <;> simp_all] at this;refine ⟨this,?_⟩;unfold World.frozen?;rw [h3];simp
theorem zGG:∀ l:List KT,(zC1 l).length=l.length * 9
 | []=>rfl
 | f :: l=>by
  have:=zGG l;have e:f.cells.length=9:=rfl;simp only [zC1,List.length_append,List.length_cons,this,e];omega
theorem zHD {w:World} {g c:Nat} {l:List KT} (V:Vec w g (zC1 l)) (hc:l.length<=c):zB0 w (.slice (some ⟨g,0,none⟩) l.length c) l:=
 ⟨_,c,rfl,hc,fun _=>⟨g,0,rfl,fun i e hi k u hu=>by
  rw [Nat.zero_add];exact (V _ u ((zK3 hi k (KT.cells_lt hu)).trans hu)).1⟩⟩
structure DfD (w:World) (b base K bF g:Nat) (wx:World) (f:KT) (L:List Value):Prop where
 vF:Vec wx bF f.cells
 vG:Vec wx g L
 cur:Cur wx b base K
 ext:Ext w wx
 dr:DrF f
theorem DfD.step {w wx wy:World} {b base K K' bF g:Nat} {f:KT} {L:List Value} (h:DfD w b base K bF g wx f L) (hF:bF ≠ b) (hR:g ≠ b) (hw:w.heap.size<=b) (c:Cur wy b base K') (o:Only b wx wy):DfD w b base K' bF g wy f L:=
 ⟨o.vecC hF h.vF,o.vecC hR h.vG,c,o.ext h.ext hw,h.dr⟩
theorem DfD.l {w wx wy:World} {b base K bF g:Nat} {f:KT} {L:List Value} (h:DfD w b base K bF g wx f L) (x:Ext wx wy):DfD w b base K bF g wy f L:=
 ⟨h.vF.l x,h.vG.l x,h.cur.ext x,xt h.ext x,h.dr⟩
theorem DfD.put {w wx:World} {b base K bF g i:Nat} {f f':KT} {L:List Value} {u:Value} (h:DfD w b base K bF g wx f L) (hb:b ≠ bF) (hR:g ≠ bF) (hg:base<=bF) (hw:w.heap.size<=bF) (hi:i<9) (e:f.cells.set i u=f'.cells) (hd:DrF f'):DfD w b base K bF g (wx.setCell ⟨bF,i,none⟩ u) f' L:=
 ⟨by rw [<- e];exact h.vF.put i (by show i<9;exact hi) u,h.vG.far (by show bF ≠ g;exact fun q=>hR q.symm) u,h.cur.far hb hg u,xset (p:=⟨bF,i,none⟩) h.ext hw u,hd⟩
theorem zJA {w wx:World} {b base K bF g n c:Nat} {f f0:KT} {r:List KT} (h:DfD w b base K bF g wx f (zC1 (f0 :: r))) (hw:w.heap.size<=g) (hn:r.length+1=n) (hc:n<=c) (hr:∀ x ∈ r,DrF x) :
  ∃ wn,wx.setCells g 0 f.cells=wn/\wx.there g 0 9/\wx.rangeAt bF 0 f.cells/\((∃ v l,Ending.returned (.slice (some ⟨g,0,none⟩) n c)=.returned v/\zB0 wn v l/\1<=l.length/\l.length=n/\∀ x ∈ l,DrF x)/\Ext w wn):=by
 have hl:9<=(zC1 (f0 :: r)).length:=by rw [zGG,List.length_cons];omega
 refine ⟨_,rfl,zEO h.vG (by omega),fun j u hu=>by rw [Nat.zero_add];exact (h.vF j u hu).1,⟨_,f :: r,rfl,?_,by simp,by simpa using hn,?_⟩,Ext.setCells hw _ 0 wx h.ext⟩
 ·have V:=zCQ f.cells 0 wx _ h.vG (by show 0+9<=_;omega);have e:setsN (zC1 (f0 :: r)) 0 f.cells=zC1 (f :: r):=rfl;rw [e] at V;have:=zHD (l:=f :: r) V (c:=c) (by simp;omega);rw [List.length_cons,hn] at this;exact this
 ·intro x hx
  rcases List.mem_cons.1 hx with rfl | hx
  ·exact h.dr
  ·exact hr x hx
def ddDt:List BLs:=[[48],[45,121],[121,121,121],[109,109,59,100]]
theorem drawFmt (v:Value) (k:Nat) (w:World) (hc:zCP w w.heap.size v k) (hk:k<=1048576) :
  Calls Tryz.prog 5 #[v] w fun e w'=>(∃ v l,e=.returned v/\zB0 w' v l/\1<=l.length/\l.length<=3/\∀ x ∈ l,DrF x)/\Ext w w':=by
 have C0:=Cur.made w v k w.heap.size 47 hc hk (Nat.le_refl _);have X0:=x1 w (.cells #[v,iQ 0,.int .u64 0] 47);have hv:∃ p cap,v=.slice p k cap:=by
  rcases hc with ⟨⟨p,cap,h⟩,rfl⟩ | ⟨pb,po,cap,_,h,_⟩
  ·exact ⟨p,cap,h⟩
  ·exact ⟨_,cap,h⟩
 clear hc;obtain ⟨p,cap,rfl⟩:=hv;go_enter Tryz.func5,Tryz.ntmps5;go_wp2_with fail;refine (zK2 w.heap.size w.heap.size 0 _ C0 (by omega)).mono ?_;rintro e w1 ⟨v,l,rfl,hf,l1,l3⟩;obtain ⟨own,c1,o1,hdr⟩:=hf;obtain ⟨p1,cp1,rfl,hcp⟩:=zBH own;obtain ⟨f0,r,rfl⟩:∃ f0 r,l=f0 :: r:=by
  cases l with
  | nil=>simp at l1
  | cons a b=>exact ⟨a,b,rfl⟩
 obtain ⟨g,rfl,hg,hg1,-,VG⟩:=zUY own;obtain ⟨n,hn⟩:=nm (r.length+1);rw [List.length_cons,hn] at hcp l3 ⊢;have hgw:w.heap.size<g:=by have:=X0.size;simp at hg;omega
 have E1:=Only.ext X0 o1 (Nat.le_refl _);clear C0 own o1 X0 hg l1 hk;have n1:(0:Int)<(n:Int):=by omega
 have HC:=hid c1;clear c1;go_wp2_with fail;refine (oneC w.heap.size w.heap.size _ 6 _ HC.out (by omega) (by omega) (by omega)).mono ?_;rintro e w2 ⟨q,rfl,c2,o2⟩;have V2:=o2.vecC (by omega) VG;have E2:=Only.ext E1 o2 (Nat.le_refl _);have s2:g<w2.heap.size:=Nat.lt_of_lt_of_le hg1 o2.size;clear HC VG o2 E1 hg1;cases q
 ·have FI:=zHD (l:=f0 :: r) V2 (c:=cp1) (by simp;omega);rw [List.length_cons,hn] at FI;have PO:Hid ((∃ v l,Ending.returned (.slice (some ⟨g,0,none⟩) n cp1)=.returned v/\zB0 w2 v l/\1<=l.length/\l.length<=3/\∀ x ∈ l,DrF x)/\Ext w w2):=⟨⟨_,f0 :: r,rfl,FI,by simp,by simp;omega,hdr⟩,E2⟩;clear FI V2 E2 c2;go_wp2_with fail;go_ret;exact PO.out
 ·obtain ⟨ng,bf,af,wh,pl,mb,gr,tm,dt⟩:=f0;have hn9:9<=(zC1 (⟨ng,bf,af,wh,pl,mb,gr,tm,dt⟩ :: r)).length:=by rw [zGG,List.length_cons];omega
  have VR0:w2.rangeAt g 0 (KT.cells ⟨ng,bf,af,wh,pl,mb,gr,tm,dt⟩):=fun j u hu=>by
   rw [Nat.zero_add];refine (V2 j u ?_).1;have hj:j<9:=KT.cells_lt hu;simp only [zC1];rw [List.getElem?_append_left (by show j<9;exact hj)];exact hu
  have D0:=zA2 w2 zBM.cells 28;have X2:=x1 w2 (.cells zBM.cells.toArray 28);have VT3:(w2.alloc (.cells zBM.cells.toArray 28)).there w2.heap.size 0 9:=zEO D0 (by show 0+9<=9;omega);obtain ⟨u3,hu3,D3,K3,F3,-⟩:=zEG (by exact D0) (.bool ng) (sV bf) (sV af) (iQ wh) (iQ pl) (iQ mb) (.bool gr) (iQ tm) (sV dt);have V3:=K3 g _ (by omega) (by simp [zC1,KT.cells]) (V2.l X2);have E3:=F3 w (xt E2 X2) (by have:=E2.size;omega);have C3:Cur u3 w.heap.size w.heap.size (0+140+2):=by rw [<- hu3];exact Cur.setCellsT (by omega) (by omega) _ 0 _ (c2.ext X2)
  have SD0:Hid (DfD w w.heap.size w.heap.size (0+140+2) w2.heap.size g u3 ⟨ng,bf,af,wh,pl,mb,gr,tm,dt⟩ (zC1 (⟨ng,bf,af,wh,pl,mb,gr,tm,dt⟩ :: r))):=⟨D3,V3,C3,E3,hdr _ (by simp)⟩;have HU3:=hid hu3;have HR:Hid (∀ x ∈ r,DrF x):=fun x hx=>hdr x (by simp [hx]);have HN:Hid (w.heap.size<g/\g<w2.heap.size/\r.length+1=n/\n<=cp1/\n<=3):=⟨hgw,s2,hn,hcp,l3⟩;clear D0 X2 D3 K3 F3 V3 E3 C3 V2 E2 c2 hu3 hn9 hdr hgw s2 hn hcp l3;dsimp only [KT.cells] at VR0;go_wp2_with (first | (refine wpList_load_mid rfl 28 (.tmp 14) rfl g 0 rfl _ _ VR0 Tryz.underlying28 rfl hi9K ?_) | (refine zAW rfl _ _ _ rfl w2.heap.size 0 _ rfl rfl VT3 hi9K (by simp [Value.oneCell']) HU3.out ?_));clear VR0 VT3 HU3;refine (zBA w.heap.size w.heap.size _ 6 _ SD0.out.cur (by omega) (by omega) (by omega)).mono ?_;rintro e w3 ⟨y,rfl,⟨y0,y9⟩,c2,o2⟩;have SD1:=hid (SD0.out.step (by have:=HN.out;omega) (by have:=HN.out;omega) (Nat.le_refl _) c2 o2);clear SD0 c2 o2;obtain rfl | rfl | rfl | rfl | rfl | rfl:y=0\/y=1\/y=2\/y=3\/y=4\/y=5:=by omega
  ·go_wp2_with fail;refine (zBA w.heap.size w.heap.size _ 12 _ SD1.out.cur (by omega) (by omega) (by omega)).mono ?_;rintro e w4 ⟨y1,rfl,⟨y0,y9⟩,c2,o2⟩;have SD2:=hid (SD1.out.step (by have:=HN.out;omega) (by have:=HN.out;omega) (Nat.le_refl _) c2 o2);clear SD1 c2 o2;have cc:=SD2.out.vF 3 _ rfl;have SDy:=hid (SD2.out.put (i:=3) (u:=iQ y1) (f':=⟨ng,bf,af,y1,pl,mb,gr,tm,dt⟩) (by have:=HN.out;omega) (by have:=HN.out;omega) (by have:=HN.out;omega) (by have:=HN.out;omega) (by omega) rfl SD2.out.dr);obtain ⟨wz,hz⟩:=nm (w4.setCell ⟨w2.heap.size,3,none⟩ (iQ y1));rw [hz] at SDy;clear SD2;obtain ⟨wn,hwn,VT,VR,PO⟩:=zJA SDy.out (by have:=HN.out;omega) HN.out.2.2.1 HN.out.2.2.2.1 HR.out;dsimp only [KT.cells] at VR hwn;have HWN:=hid hwn;have PO:=hid PO;clear hwn SDy;go_wp2_with (first | (refine wpList_load_mid rfl 28 (.tmp 5) rfl w2.heap.size 0 rfl _ _ VR Tryz.underlying28 rfl hi9K ?_) | (refine zAW rfl _ _ _ rfl g 0 _ rfl rfl VT hi9K (by simp [Value.oneCell']) HWN.out ?_));go_ret;obtain ⟨⟨v,l,q1,q2,q3,q4,q5⟩,q6⟩:=PO.out;exact ⟨⟨v,l,q1,q2,q3,by have:=HN.out;omega,q5⟩,q6⟩
  ·obtain ⟨g1,hg1⟩:=nm (w3.heap.size);have TV:=zA2 w3 (ddDt.map sV) 9;rw [hg1] at TV;have hgb:Hid (w.heap.size<g1):=by
    have h1:=SD1.out.cur.lt;show _<_;omega
   have SDx:=fun o=>hid (SD1.out.l (x1 w3 o));go_wp2_with fail;refine (zBA w.heap.size w.heap.size _ 4 _ (SDx _).out.cur (by omega) (by omega) (by omega)).mono ?_;rintro e w4 ⟨y,rfl,⟨y0,y9⟩,c2,o2⟩;have SD2:=hid ((SDx _).out.step (by have:=HN.out;omega) (by have:=HN.out;omega) (Nat.le_refl _) c2 o2);have TV:Vec w4 g1 (ddDt.map sV):=o2.vecC (by have:=hgb.out;omega) TV;clear SDx c2 o2 SD1;obtain ⟨m,rfl⟩:=Int.eq_ofNat_of_zero_le y0;obtain ⟨t,ht,hm⟩:=zLY (L:=ddDt) (m:=m) (by show m<4;omega);have hl:t.length<=4:=by
    simp only [ddDt,List.mem_cons,List.not_mem_nil,or_false] at hm
    rcases hm with rfl | rfl | rfl | rfl <;> decide
   have a0:=(TV m _ ht).1;have i2:(m:Int)<4:=y9;have cc:=SD2.out.vF 8 _ rfl;have SDy:=hid (SD2.out.put (i:=8) (u:=sV t) (f':=⟨ng,bf,af,wh,pl,mb,gr,tm,t⟩) (by have:=HN.out;omega) (by have:=HN.out;omega) (by have:=HN.out;omega) (by have:=HN.out;omega) (by omega) rfl ⟨SD2.out.dr.1,SD2.out.dr.2.1,by show t.length<=40;omega⟩);obtain ⟨wz,hz⟩:=nm (w4.setCell ⟨w2.heap.size,8,none⟩ (sV t));rw [hz] at SDy;clear hm ht TV hg1 SD2;obtain ⟨wn,hwn,VT,VR,PO⟩:=zJA SDy.out (by have:=HN.out;omega) HN.out.2.2.1 HN.out.2.2.2.1 HR.out;dsimp only [KT.cells] at VR hwn;have HWN:=hid hwn;have PO:=hid PO;clear hwn SDy;go_wp2_with (first | (refine wpList_load_mid rfl 28 (.tmp 5) rfl w2.heap.size 0 rfl _ _ VR Tryz.underlying28 rfl hi9K ?_) | (refine zAW rfl _ _ _ rfl g 0 _ rfl rfl VT hi9K (by simp [Value.oneCell']) HWN.out ?_));go_ret;obtain ⟨⟨v,l,q1,q2,q3,q4,q5⟩,q6⟩:=PO.out;exact ⟨⟨v,l,q1,q2,q3,by have:=HN.out;omega,q5⟩,q6⟩
  ·have cc:=SD1.out.vF 1 _ rfl;have SDy:=hid (SD1.out.put (i:=1) (u:=sV [97,34,98]) (f':=⟨ng,[97,34,98],af,wh,pl,mb,gr,tm,dt⟩) (by have:=HN.out;omega) (by have:=HN.out;omega) (by have:=HN.out;omega) (by have:=HN.out;omega) (by omega) rfl ⟨by show (3:Nat)<=20;omega,SD1.out.dr.2.1,SD1.out.dr.2.2⟩);obtain ⟨wz,hz⟩:=nm (w3.setCell ⟨w2.heap.size,1,none⟩ (sV [97,34,98]));rw [hz] at SDy;clear SD1;obtain ⟨wn,hwn,VT,VR,PO⟩:=zJA SDy.out (by have:=HN.out;omega) HN.out.2.2.1 HN.out.2.2.2.1 HR.out;dsimp only [KT.cells] at VR hwn;have HWN:=hid hwn;have PO:=hid PO;clear hwn SDy;go_wp2_with (first | (refine wpList_load_mid rfl 28 (.tmp 5) rfl w2.heap.size 0 rfl _ _ VR Tryz.underlying28 rfl hi9K ?_) | (refine zAW rfl _ _ _ rfl g 0 _ rfl rfl VT hi9K (by simp [Value.oneCell']) HWN.out ?_));go_ret;obtain ⟨⟨v,l,q1,q2,q3,q4,q5⟩,q6⟩:=PO.out;exact ⟨⟨v,l,q1,q2,q3,by have:=HN.out;omega,q5⟩,q6⟩
  ·have cc:=SD1.out.vF 0 _ rfl;have SDy:=hid (SD1.out.put (i:=0) (u:=.bool true) (f':=⟨true,bf,af,wh,pl,mb,gr,tm,dt⟩) (by have:=HN.out;omega) (by have:=HN.out;omega) (by have:=HN.out;omega) (by have:=HN.out;omega) (by omega) rfl SD1.out.dr);obtain ⟨wz,hz⟩:=nm (w3.setCell ⟨w2.heap.size,0,none⟩ (.bool true));rw [hz] at SDy;clear SD1;obtain ⟨wn,hwn,VT,VR,PO⟩:=zJA SDy.out (by have:=HN.out;omega) HN.out.2.2.1 HN.out.2.2.2.1 HR.out;dsimp only [KT.cells] at VR hwn;have HWN:=hid hwn;have PO:=hid PO;clear hwn SDy;go_wp2_with (first | (refine wpList_load_mid rfl 28 (.tmp 5) rfl w2.heap.size 0 rfl _ _ VR Tryz.underlying28 rfl hi9K ?_) | (refine zAW rfl _ _ _ rfl g 0 _ rfl rfl VT hi9K (by simp [Value.oneCell']) HWN.out ?_));go_ret;obtain ⟨⟨v,l,q1,q2,q3,q4,q5⟩,q6⟩:=PO.out;exact ⟨⟨v,l,q1,q2,q3,by have:=HN.out;omega,q5⟩,q6⟩
  ·have cc:=SD1.out.vF 4 _ rfl;have SDy:=hid (SD1.out.put (i:=4) (u:=iQ 10) (f':=⟨ng,bf,af,wh,10,mb,gr,tm,dt⟩) (by have:=HN.out;omega) (by have:=HN.out;omega) (by have:=HN.out;omega) (by have:=HN.out;omega) (by omega) rfl SD1.out.dr);obtain ⟨wz,hz⟩:=nm (w3.setCell ⟨w2.heap.size,4,none⟩ (iQ 10));rw [hz] at SDy;clear SD1;obtain ⟨wn,hwn,VT,VR,PO⟩:=zJA SDy.out (by have:=HN.out;omega) HN.out.2.2.1 HN.out.2.2.2.1 HR.out;dsimp only [KT.cells] at VR hwn;have HWN:=hid hwn;have PO:=hid PO;clear hwn SDy;go_wp2_with (first | (refine wpList_load_mid rfl 28 (.tmp 5) rfl w2.heap.size 0 rfl _ _ VR Tryz.underlying28 rfl hi9K ?_) | (refine zAW rfl _ _ _ rfl g 0 _ rfl rfl VT hi9K (by simp [Value.oneCell']) HWN.out ?_));go_ret;obtain ⟨⟨v,l,q1,q2,q3,q4,q5⟩,q6⟩:=PO.out;exact ⟨⟨v,l,q1,q2,q3,by have:=HN.out;omega,q5⟩,q6⟩
  ·have cc:=SD1.out.vF 7 _ rfl;have SDy:=hid (SD1.out.put (i:=7) (u:=iQ 4) (f':=⟨ng,bf,af,wh,pl,mb,gr,4,dt⟩) (by have:=HN.out;omega) (by have:=HN.out;omega) (by have:=HN.out;omega) (by have:=HN.out;omega) (by omega) rfl SD1.out.dr);obtain ⟨wz,hz⟩:=nm (w3.setCell ⟨w2.heap.size,7,none⟩ (iQ 4));rw [hz] at SDy;clear SD1;obtain ⟨wn,hwn,VT,VR,PO⟩:=zJA SDy.out (by have:=HN.out;omega) HN.out.2.2.1 HN.out.2.2.2.1 HR.out;dsimp only [KT.cells] at VR hwn;have HWN:=hid hwn;have PO:=hid PO;clear hwn SDy;go_wp2_with (first | (refine wpList_load_mid rfl 28 (.tmp 5) rfl w2.heap.size 0 rfl _ _ VR Tryz.underlying28 rfl hi9K ?_) | (refine zAW rfl _ _ _ rfl g 0 _ rfl rfl VT hi9K (by simp [Value.oneCell']) HWN.out ?_));go_ret;obtain ⟨⟨v,l,q1,q2,q3,q4,q5⟩,q6⟩:=PO.out;exact ⟨⟨v,l,q1,q2,q3,by have:=HN.out;omega,q5⟩,q6⟩
end Go.Proofs.YtjlojlgdkfpcdaaGreatDoor

