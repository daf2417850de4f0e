import Derived.Test.YteliaeejooekbaaGreatDoorMg26
import Derived.Deep.DeepCutAuto
set_option maxRecDepth 8000
set_option maxHeartbeats 4000000
namespace Go.Proofs.YteliaeejooekbaaGreatDoor
open Go.RowKit
theorem zBY.laterG {w0 w:World} (h:zBY w0) (x:Ext w0 w):zBY w:=fun n w1 a b c=>h n w1 a b (xt x c)
theorem zV4 (w0:World) (hT:Tens w0) (hE:zB4 w0) (hO:zBX w0) (LW:LibW w0) (IT:zBY w0):∀ (F:Nat),F<=40->∀ (rest:List NT) (b:Nat) (w:World),Ext w0 w->w0.heap.size<=b->zK2 w0 w b rest->(∀ x ∈ rest,x.t.length<=1048576 /\ -9223372036854775808<=x.d/\x.d<=9223372036854775807)->rest.length<=1048576 ->
  Calls Tryz.prog 101 #[.pointer (some ⟨b,0,none⟩),iQ (41 - (F:Int))] w fun e w'=>zFZ w0 F rest b w e w'
 | F,hF,[],b,w,X,hb,hG,hr,hlen=>by
  obtain ⟨p,cap,V,hc,hrow⟩:=hG;have a0:=(V 0 _ rfl).1;have HN:Hid (zCL NT.good F []=none):=by cases F <;> rfl
  obtain ⟨D,hD⟩:∃ D:Int,41 - (F:Int)=D:=⟨_,rfl⟩;rw [hD];clear hrow hr hD;go_enter Tryz.func101,Tryz.ntmps101;go_wp2_with fail;exact bodyPost_ret (v:=.tuple #[.nilIface,.bool false]) (by simp [results,Tryz.results101,go_sem]) rfl ⟨zAX.refl _ _,.inr ⟨HN.out,_,rfl⟩⟩
 | 0,hF,x :: r,b,w,X,hb,hG,hr,hlen=>by
  obtain ⟨p,cap,V,hc,hrow⟩:=hG;have a0:=(V 0 _ rfl).1;have HN:Hid (zCL NT.good 0 (x :: r)=none):=rfl;obtain ⟨n,hn⟩:=nm ((x :: r).length);have hn1:¬ (n:Int)=0:=by rw [<- hn,List.length_cons];omega
  have hn2:((n:Int) == 0)=false:=by simp;omega
  rw [hn] at a0;clear hrow hr V hn hc;show Calls Tryz.prog 101 #[.pointer (some ⟨b,0,none⟩),iQ 41] w _;go_enter Tryz.func101,Tryz.ntmps101;go_wp2_with fail;exact bodyPost_ret (v:=.tuple #[.nilIface,.bool false]) (by simp [results,Tryz.results101,go_sem]) rfl ⟨zAX.refl _ _,.inr ⟨HN.out,_,rfl⟩⟩
 | F+1,hF,x :: r,b,w,X,hb,hG,hr,hlen=>by
  have IH:Hid (∀ (rest:List NT) (w:World),Ext w0 w->zK2 w0 w b rest->(∀ x ∈ rest,x.t.length<=1048576 /\ -9223372036854775808<=x.d/\x.d<=9223372036854775807)->rest.length<=1048576->Calls Tryz.prog 101 #[.pointer (some ⟨b,0,none⟩),iQ (41 - (F:Int))] w fun e w'=>zFZ w0 F rest b w e w'):=fun rest w X hG hr hl=>zV4 w0 hT hE hO LW IT F (by omega) rest b w X hb hG hr hl;obtain ⟨D,hD⟩:∃ D:Int,41 - ((F+1:Nat):Int)=D:=⟨_,rfl⟩;have hD1:D+1=41 - (F:Int):=by omega
  have hD2:¬ (40<D):=by omega
  have hD3:decide (40<D)=false:=decide_eq_false hD2;have hD4 : -100<=D/\D<=100:=by omega
  rw [hD];rw [<- hD1] at IH;clear hD hD1;obtain ⟨p,cap,V,hc,hrow⟩:=hG;obtain ⟨bn,o,rfl,RN⟩:=hrow (by simp);have hx:=hr x (by simp);have GN:Hid (∀ W,Ext w0 W->Calls Tryz.prog 115 #[x.val] W fun e w'=>e=.returned (.bool x.good)/\Ext W w'):=fun W XW=>zV6 x.k x.t x.n x.d x.x x.r x.c x.f x.g x.r2 x.c2 x.f2 x.g2 x.q W hx.1 hx.2.1 hx.2.2 (hT.l XW) (hE.l XW) (hO.l XW) (LW.l XW) (IT.laterG XW);have HRA:=zK2.head RN X;obtain ⟨n,hn⟩:=nm (r.length);have V1:Vec w b [.slice (some ⟨bn,o,none⟩) (n+1) cap]:=by rw [<- hn];exact V
  have hc1:n+1<=cap:=by rw [<- hn];exact hc
  have hn1:¬ ((n:Int)+1=0):=by omega
  have hn2:(((n:Int)+1) == 0)=false:=by simp;omega
  have HNR:Hid _:=hn;have a0:=(V1 0 _ rfl).1;obtain ⟨q,hq⟩:=nm (x.good);have HQ:Hid _:=hq;rw [hq] at GN;clear hc hn V hrow hq;go_enter Tryz.func101,Tryz.ntmps101;go_wp2_with (refine zC2 rfl 73 (.tmp 25) rfl bn o rfl x.cells _ HRA Tryz.underlying73 rfl zCE ?_);refine (GN.out w X).mono ?_;rintro e w1 ⟨rfl,e1⟩;cases q
  ·have HN:Hid (zCL NT.good (F+1) (x :: r)=none):=by
    show _=_;rw [zCL,HQ.out];rfl
   clear HRA;go_wp2_with fail;exact bodyPost_ret (v:=.tuple #[.nilIface,.bool false]) (by simp [results,Tryz.results101,go_sem]) rfl ⟨zAX.of_ext e1,.inr ⟨HN.out,_,rfl⟩⟩
  have V2:=V1.l e1;have HRA1:w1.rangeAt bn o x.cells:=zK2.head RN (xt X e1);have hbw:b<w1.heap.size:=World.block_lt_of_cell? _ _ (V2 0 _ rfl).1;obtain ⟨wz,hz,XZ,VZ,-⟩:=zAD w1 [iQ 0,.string ⟨#[]⟩,.bool false,iQ 0,iQ 0,iQ 0,iQ 0,.bool false,.bool false,iQ 0,iQ 0,.bool false,.bool false,iQ 0] 73;have VT:=VZ.there;have VR:=World.rangeAt_setCells_same wz w1.heap.size 0 x.cells VT;have XR:=Ext.setCells (b:=w1.heap.size) (Nat.le_refl _) x.cells 0 wz XZ;have VN:Vec (wz.setCells w1.heap.size 0 x.cells) w1.heap.size x.cells:=fun i v hi=>⟨zA0 VR hi,by rw [World.frozen?_setCells];exact (VZ i _ (List.getElem?_eq_getElem (show i<14 from zEU hi))).2⟩;obtain ⟨w2,h2⟩:=nm (wz.setCells w1.heap.size 0 x.cells);rw [h2] at VR XR VN;have one:(x.cells.toArray).all (·.oneCell')=true:=by simp [Value.oneCell']
  have V3:=V2.l XR;have b0:=(V2 0 _ rfl).1;have a0:=(V3 0 _ rfl).1;have f0:=(V3 0 _ rfl).2;go_upto_region 4 with (first | (refine wpList_load_mid rfl 73 (.tmp 34) rfl bn o rfl x.cells _ HRA1 Tryz.underlying73 rfl zCE ?_) | (refine wpList_store_mid rfl _ _ _ rfl w1.heap.size 0 x.cells.toArray rfl rfl VT zCE one ?_;show wpList _ _ _ _ _ (wz.setCells w1.heap.size 0 x.cells);rw [h2];go_frame));obtain ⟨gN,hgN⟩:=nm (w1.heap.size);have O2:zAX b w w2:=zAX.of_ext (xt e1 XR);have X2:=xt X (xt e1 XR);have hsz:=XR.size;have hgl:gN<w2.heap.size:=by have:=World.block_lt_of_cell? _ _ (VN 0 _ rfl).1;rw [hgN] at this;exact this
  have hwN:w.heap.size<=gN:=by rw [<- hgN];exact e1.size
  rw [hgN] at VN hbw ⊢;clear hz h2 VZ XZ VT VR XR one V2 b0 HRA HRA1 hgN hsz;go_cut [41] (fun s wc=>∃ p':Option Addr,s=.slice p' n (cap - 1)/\Hid (Vec wc b [.slice p' n (cap - 1)]/\(0<n->∃ bn' o',p'=some ⟨bn',o',none⟩/\RowN w0 bn' o' r)/\zAX b w wc/\Vec wc gN x.cells/\gN<wc.heap.size))
  case first =>
   by_cases hcap:cap=1
   ·subst hcap;obtain rfl:n=0:=(by omega);go_wp2_with fail;go_meet
    case rel=>exact ⟨_,rfl,V3.put 0 (by simp) _,fun h=>absurd h (by omega),O2.set _,VN.far (p:=⟨b,0,none⟩) (by show b ≠ gN;omega) _,by rw [World.size_setCell];exact hgl⟩
   ·have i1:(1:Int)<=(n:Int)+1:=(by omega);have i2:(n:Int)+1<=(cap:Int):=(by omega);have hcap2:¬ (cap - 1=0):=(by omega);go_wp2_with fail;go_meet
    case rel=>exact ⟨_,rfl,V3.put 0 (by simp) _,fun h=>⟨bn,o+14,rfl,RN.tail⟩,O2.set _,VN.far (p:=⟨b,0,none⟩) (by show b ≠ gN;omega) _,by rw [World.size_setCell];exact hgl⟩
  case rest =>
   obtain ⟨p',rfl,HC⟩:=hcut;have hgood:=zQB.kids x HQ.out;obtain ⟨m,hm⟩:∃ m:Nat,x.q=(m:Int):=⟨x.q.toNat,by omega⟩;have HM:Hid _:=hm;have hm100:m<=100:=by omega
   have c13:wc.cell? ⟨gN,13,none⟩=some (iQ (m:Int)):=by rw [<- hm];exact (HC.out.2.2.2.1 13 _ rfl).1
   have HL0:Hid (zTW w0 F r x b gN w 0 none 0 wc):=by
    obtain ⟨k1,k2,k3,k4,k5⟩:=HC.out;exact ⟨[],[],r,rfl,zDR.nil,rfl,zPT _ _,⟨p',cap - 1,by rw [HNR.out];exact k1,by rw [HNR.out];omega,fun h=>k2 (by rw [HNR.out] at h;exact h)⟩,k3,k4,k5⟩
   have HRO:Hid (∀ y ∈ r,y.t.length<=1048576 /\ -9223372036854775808<=y.d/\y.d<=9223372036854775807):=fun y hy=>hr y (by simp [hy]);have hrl:r.length<=1048576:=by rw [List.length_cons] at hlen;omega
   have HXT:Hid (x.t.length<=1048576):=hx.1;clear hm HC hgood V1 V3 RN a0 f0 hx hr GN hc1 hn1 hn2 hD2 hD3;go_wp2_with fail;clear c13;go_loopw [7,46] (fun kv i wr=>∃ (j c:Nat) (pk:Option Addr),j<=m/\i=.int .i64 j/\kv=.slice pk j c/\Hid (zTW w0 F r x b gN w j pk c wr)) (fun _ i _=>m - (intOf i).toNat)
   case atStart=>exact ⟨0,0,none,by omega,rfl,rfl,HL0⟩
   case round =>
    obtain ⟨j,c,pk,hj,rfl,rfl,HL⟩:=hrel;by_cases hlt:j<m
    ·have i2:(j:Int)<(m:Int):=(by omega);obtain ⟨vs,ks,r',l1,l2,l3,l4,l5,l6,l7,l8⟩:=HL.out;have suf:=zC9 (zGH NT.good F) _ _ _ _ l1;have IC:=IH.out r' wr (zAX.ext X l6 hb) l5 (fun y hy=>HRO.out y (suf.subset hy)) (Nat.le_trans suf.length_le hrl);have K1:Hid _:=l1;have K2:Hid (zDR wr (fun k=>gN<k/\k<wr.heap.size/\(Value.slice pk j c).ownBlock ≠ some k) vs ks/\vs.length=j/\OwnT wr (gN+1) (.slice pk j c) vs):=⟨l2,l3,l4⟩;have K3:Hid (zAX b w wr/\Vec wr gN x.cells/\gN<wr.heap.size):=⟨l6,l7,l8⟩;clear HL l1 l2 l3 l4 l5 l6 l7 l8 suf HL0;go_wp2_with fail;refine IC.mono ?_;rintro e w3 ⟨O3,HP⟩;have O3':=K3.out.1.trans O3
     rcases HP with ⟨tr,r2,v,hg,rfl,hsh,GX2⟩ | ⟨hg,v,rfl⟩
     ·obtain ⟨T,a,rfl⟩:=hsh.kind.iface;obtain ⟨w4,h4,X4,V4,-⟩:=zAD w3 [.iface T a] 123;obtain ⟨l2,l3,l4⟩:=K2.out;have l4':OwnT wr (gN+1) (.slice pk j c) vs:=l4;have O4:=zIE (zIE l4' O3 (by omega)) (zAX.of_ext (b:=b) X4) (by omega);obtain ⟨v',w5,hrun,O5,GW,hbl⟩:=zQR w4 (gN+1) (.slice pk j c) vs O4 T a w3.heap.size V4 (by omega) (by have:=K3.out.2.2;have:=O3.size;have:=X4.size;omega);obtain ⟨pk',c',ev⟩:∃ pk' c',v'=.slice pk' (j+1) c':=by
       obtain ⟨q1,q2,q3,_⟩:=zLO O5;rw [List.length_append,l3] at q3;exact ⟨q1,q2,q3⟩
      subst ev;have rb:∀ k,(Value.slice pk j c).ownBlock=some k->gN+1<=k:=fun k hk=>(zD9 O4 k hk).1;have HT5:zDR w5 (fun k=>gN<k/\k<w5.heap.size/\(Value.slice pk' (j+1) c').ownBlock ≠ some k) (vs++[.iface T a]) (ks++[tr]):=by
       have s3:=O3.size;have s4:=X4.size;have s5:=GW.size;have hgw:=K3.out.2.2;have hnew:∀ k,k<w4.heap.size->(Value.slice pk j c).ownBlock ≠ some k->(Value.slice pk' (j+1) c').ownBlock ≠ some k:=fun k h1 h2 h3=>by
        rcases hbl with h | h
        ·exact h2 (h ▸ h3)
        ·rw [h] at h3;cases h3;omega
       refine zDR.snoc (l2.keep (fun k hk=>?_) (fun k hk=>⟨hk.1,by omega,hnew k (by omega) hk.2.2⟩)) (hsh.keep (fun k hk=>?_) (fun k hk=>⟨by omega,by omega,hnew k (by omega) (fun e=>by have:=(zD9 l4' k e).2;omega)⟩))
       ·rw [GW.block k (by omega) (fun e=>hk.2.2 e.symm),X4.block k (by omega),O3.block k (by omega) (by omega)]
       ·rw [GW.block k (by omega) (fun e=>by have:=(zD9 l4' k e.symm).2;omega),X4.block k hk.2]
      have HL1:Hid (zTW w0 F r x b gN w (j+1) pk' c' w5):=by
       obtain ⟨q1,q2,q3,q4,q5⟩:=GX2;refine ⟨vs++[.iface T a],ks++[tr],r2,by rw [zBH,K1.out];simp only [hg],HT5,by rw [List.length_append,l3];rfl,O5,⟨q1,q2,zCO (q3.l X4) GW (fun k hk=>by have:=rb k hk;omega),q4,q5⟩,(O3'.trans (zAX.of_ext X4)).grown GW (fun k hk=>by have:=rb k hk;omega),zCO ((O3.vec (by omega) K3.out.2.1).l X4) GW (fun k hk=>by have:=rb k hk;omega),?_⟩;have:=K3.out.2.2;have:=O3.size;have:=X4.size;have:=GW.size;omega
      clear O5 GW hbl HT5 rb O4 l4' l4 l3 l2 V4 X4 GX2 hsh hg O3 O3' K1 K2 K3 IC;go_wp2_with (at_builtin;refine Lib.wpList_append_run _ rfl _ _ _ _ rfl _ _ rfl rfl _ _ hrun ?_);go_roundw
      case rel=>exact ⟨j+1,c',pk',by omega,by go_num,rfl,HL1⟩
      case measure=>simp [intOf];omega
     ·have HN:Hid (zCL NT.good (F+1) (x :: r)=none):=by
       show _=_;have:zBH (zCL NT.good F) m r=none:=zH8 (j:=j) (by rw [zBH,K1.out];simp only [hg]) m hlt;rw [zCL,HQ.out,HM.out];simp [this]
      clear hg IC K1 K2 K3;go_wp2_with fail;exact bodyPost_ret (v:=.tuple #[.nilIface,.bool false]) (by simp [results,Tryz.results101,go_sem]) rfl ⟨O3',.inr ⟨HN.out,_,rfl⟩⟩
    ·obtain rfl:j=m:=(by omega);have i2:¬ (j:Int)<(j:Int):=(by omega);clear HL0 IH;obtain ⟨vs,ks,r',l1,l2,l3,l4,l5,l6,l7,l8⟩:=HL.out;have hsz:=zLX HQ.out;have hx1:x.q=(vs.length:Int):=(by rw [l3];exact HM.out);have TA:=zLN l4;have TO:Hid (∀ W,Ext wr W->Calls Tryz.prog 116 #[x.val,.slice pk j c] W fun e w'=>∃ u,e=.returned u/\TreeV w' (fun k=>gN<k/\k<wr.heap.size) u (.mk x ks)/\Ext W w'):=fun W XW=>zMG (fun k=>gN<k/\k<wr.heap.size) x _ vs ks W (TA.l XW) (l2.keep (fun k hk=>XW.block k hk.2.1) (fun k hk=>⟨hk.1,hk.2.1⟩)) (fun k hk=>Nat.lt_of_lt_of_le hk.2 XW.size) (fun g hg=>by have:=zD9 l4 g hg;exact ⟨by omega,this.2⟩) (fun h=>by have:=hsz.1 h;omega) (fun h=>by have:=hsz.2.1 h;omega) hsz.2.2 HXT.out (hO.l (xt (zAX.ext X l6 hb) XW)) (LW.l (xt (zAX.ext X l6 hb) XW));have KI:Hid (∀ W,Ext wr W->Calls Tryz.prog 117 #[iQ x.k,.slice pk j c] W fun e w'=>e=.returned (.bool (zCD x.k ks))/\Ext W w'):=fun W XW=>zW6 x.k _ vs ks W (TA.l XW) l2.shapes (by rw [<- l2.len];omega);clear TA hsz hx1;go_wp2_with fail;refine zA3 (fun lx:Nat->Value=>{ tmps:=#[Value.pointer (some ⟨b,0,none⟩),Value.int .i64 D,undef,undef,lx 4,lx 5,Value.pointer (some ⟨gN,0,none⟩),Value.slice pk j c,u8,u9,u10,u11,u12,u13,u14,u15,u16,u17,u18,u19,u20,u21,u22,u23,u24,u25,u26,u27,u28,u29,u30,u31,u32,u33,u34,u35,u36,u37,u38,u39,u40,Value.slice p' n (cap - 1),u42,u43,Value.pointer (some ⟨gN,13,none⟩),Value.int .i64 (j:Int),Value.int .i64 (j:Int),Value.bool false,u48,u49,u50,u51,u52,u53,u54,u55,u56,u57,u58,u59,u60,u61,lx 62,lx 63,lx 64,lx 65,lx 66,lx 67,lx 68],defers:=[] }) (fun L lx lw=>Hid (Ext wr lw/\(L 0=true->lx 62=.agg x.cells.toArray)/\(L 1=true->lx 63=.slice pk j c)/\(L 2=true->∃ u,lx 64=u/\TreeV lw (fun k=>gN<k/\k<wr.heap.size) u (.mk x ks))/\(L 3=true->lx 65=.pointer (some ⟨gN,0,none⟩))/\(L 4=true->lx 66=iQ x.k)/\(L 5=true->lx 67=.slice pk j c)/\(L 6=true->lx 68=.bool (zCD x.k ks))/\(L 7=true->L 2=true/\lx 4=lx 64)/\(L 8=true->lx 5=.bool (zCD x.k ks)))) rfl (by kernel_rfl) (fun jj=>if jj=4 then u4 else if jj=5 then u5 else if jj=62 then u62 else if jj=63 then u63 else if jj=64 then u64 else if jj=65 then u65 else if jj=66 then u66 else if jj=67 then u67 else if jj=68 then u68 else undef) rfl ?_ ?_ ?_
     ·exact ⟨xd (xr _),(fun h=>by cases h),(fun h=>by cases h),(fun h=>by cases h),(fun h=>by cases h),(fun h=>by cases h),(fun h=>by cases h),(fun h=>by cases h),(fun h=>by cases h),(fun h=>by cases h)⟩
     ·intro L lx lw ix o K hK ho hL haf hI hcl;obtain ⟨E,f0,f1,f2,f3,f4,f5,f6,f7,f8⟩:=hI.out
      match ix,ho,hL,haf,hK with
      | 0,ho,hL,haf,hK =>
       cases ho
       (try dsimp only)
       refine Eq.mpr (if_pos (by rfl)) ?_;have HRX:lw.rangeAt gN 0 x.cells:=fun q v hv=>(by rw [Nat.zero_add];exact ((l7.l E) q v hv).1);refine wpList_load_mid rfl 73 (.tmp 6) rfl gN 0 rfl x.cells _ HRX Tryz.underlying73 rfl zCE ?_;go_wp2_with fail;exact hK (fun jj=>if jj=62 then .agg x.cells.toArray else lx jj) _ ⟨E,(fun _=>rfl),f1,f2,f3,f4,f5,f6,f7,f8⟩
      | 1,ho,hL,haf,hK =>
       cases ho
       (try dsimp only)
       refine Eq.mpr (if_pos (by rfl)) ?_;go_wp2_with fail;exact hK (fun jj=>if jj=63 then .slice pk j c else lx jj) _ ⟨E,f0,(fun _=>rfl),f2,f3,f4,f5,f6,f7,f8⟩
      | 2,ho,hL,haf,hK =>
       cases ho
       (try dsimp only)
       rw [f0 (haf ⟨0,.data⟩ (by simp) rfl),f1 (haf ⟨1,.data⟩ (by simp) rfl)];refine Eq.mpr (if_pos (by rfl)) ?_;go_wp2_with fail;refine (TO.out lw E).mono ?_;rintro rr w' ⟨u,rfl,hsh,e'⟩;go_wp2_with fail;exact hK (fun jj=>if jj=64 then u else if jj=62 then .agg x.cells.toArray else if jj=63 then .slice pk j c else lx jj) _ ⟨(xt E e'),(fun _=>rfl),(fun _=>rfl),(fun _=>⟨u,rfl,hsh⟩),f3,f4,f5,f6,(fun h=>by have h1:L 7=true:=h;have:=(f7 h1).1;rw [hL] at this;cases this),f8⟩
      | 3,ho,hL,haf,hK =>
       cases ho
       (try dsimp only)
       refine Eq.mpr (if_pos (by rfl)) ?_;go_wp2_with fail;exact hK (fun jj=>if jj=65 then .pointer (some ⟨gN,0,none⟩) else lx jj) _ ⟨E,f0,f1,f2,(fun _=>rfl),f4,f5,f6,f7,f8⟩
      | 4,ho,hL,haf,hK =>
       cases ho
       (try dsimp only)
       rw [f3 (haf ⟨3,.data⟩ (by simp) rfl)];refine Eq.mpr (if_pos (by rfl)) ?_;have c0:=((l7.l E) 0 _ rfl).1;go_wp2_with fail;exact hK (fun jj=>if jj=66 then iQ x.k else if jj=65 then .pointer (some ⟨gN,0,none⟩) else lx jj) _ ⟨E,f0,f1,f2,(fun _=>rfl),(fun _=>rfl),f5,f6,f7,f8⟩
      | 5,ho,hL,haf,hK =>
       cases ho
       (try dsimp only)
       refine Eq.mpr (if_pos (by rfl)) ?_;go_wp2_with fail;exact hK (fun jj=>if jj=67 then .slice pk j c else lx jj) _ ⟨E,f0,f1,f2,f3,f4,(fun _=>rfl),f6,f7,f8⟩
      | 6,ho,hL,haf,hK =>
       cases ho
       (try dsimp only)
       rw [f4 (haf ⟨4,.data⟩ (by simp) rfl),f5 (haf ⟨5,.data⟩ (by simp) rfl)];refine Eq.mpr (if_pos (by rfl)) ?_;go_wp2_with fail;refine (KI.out lw E).mono ?_;rintro rr w' ⟨rfl,e'⟩;go_wp2_with fail;exact hK (fun jj=>if jj=68 then .bool (zCD x.k ks) else if jj=66 then iQ x.k else if jj=67 then .slice pk j c else lx jj) _ ⟨(xt E e'),f0,f1,(fun h=>by obtain ⟨u,h1,h2⟩:=f2 h;exact ⟨u,h1,h2.l (fun k hk=>Nat.lt_of_lt_of_le hk.2 E.size) e'⟩),f3,(fun _=>rfl),(fun _=>rfl),(fun _=>rfl),f7,f8⟩
      | 7,ho,hL,haf,hK =>
       cases ho
       (try dsimp only)
       refine Eq.mpr (if_pos (by rfl)) ?_;go_wp2_with fail;exact hK (fun jj=>if jj=4 then lx 64 else lx jj) _ ⟨E,f0,f1,f2,f3,f4,f5,f6,(fun _=>⟨haf ⟨2,.data⟩ (by simp) rfl,rfl⟩),f8⟩
      | 8,ho,hL,haf,hK =>
       cases ho
       (try dsimp only)
       rw [f6 (haf ⟨6,.data⟩ (by simp) rfl)];refine Eq.mpr (if_pos (by rfl)) ?_;go_wp2_with fail;exact hK (fun jj=>if jj=5 then .bool (zCD x.k ks) else if jj=68 then .bool (zCD x.k ks) else lx jj) _ ⟨E,f0,f1,f2,f3,f4,f5,(fun _=>rfl),f7,(fun _=>rfl)⟩
      | k+9,ho,_,_,_=>simp at ho
     ·intro L lx w9 hall hI;obtain ⟨E,f0,f1,f2,f3,f4,f5,f6,f7,f8⟩:=hI.out;obtain ⟨u,eu,hsh⟩:=f2 (hall 2 (by simp));have e4:=(f7 (hall 7 (by simp))).2;rw [eu] at e4
      (try dsimp only)
      rw [e4,f8 (hall 8 (by simp))];have O9:=l6.trans (zAX.of_ext E);have HEND:Hid (zFZ w0 (F+1) (x :: r) b w (.returned (.tuple #[u,.bool (zCD x.k ks)])) w9):=by
       refine ⟨O9,?_⟩;have hgf:zCL NT.good (F+1) (x :: r)=if zCD x.k ks then some (.mk x ks,r') else none:=by
        rw [zCL,HQ.out,HM.out];simp [l1]
       cases hkb:zCD x.k ks with
       | true =>
        rw [hkb] at hgf;obtain ⟨q1,q2,q3,q4,q5⟩:=l5;exact .inl ⟨_,r',u,hgf,rfl,hsh.keep (fun _ _=>rfl) (fun k hk=>⟨by omega,Nat.lt_of_lt_of_le hk.2 E.size⟩),q1,q2,q3.l E,q4,q5⟩
       | false =>
        rw [hkb] at hgf;exact .inr ⟨hgf,u,rfl⟩
      clear hI hall eu e4 hsh O9 f0 f1 f2 f3 f4 f5 f6 f7 f8;go_wp2_with fail;exact bodyPost_ret (v:=.tuple #[u,.bool (zCD x.k ks)]) (by simp [results,Tryz.results101,go_sem]) rfl HEND.out
def NT.fits (x:NT):Prop:=x.t.length<=1048576 /\ -9223372036854775808<=x.d/\x.d<=9223372036854775807
theorem zJQ {gd:NT->Bool} {f:List NT} (h:300<f.length):zCA gd f=false:=by
 unfold zCA;rw [decide_eq_false (by omega)];rfl
def zVK (f:List NT) (u:Value) (w w':World):Prop:=zCA NT.good f=true->∃ t,zB5 41 f=some (t,[])/\TreeV w' (fun k=>w.heap.size<=k/\k<w'.heap.size) u t
theorem zRP (v:Value) (f:List NT) (w:World) (h:zAT w v f) (hr:∀ x ∈ f,x.fits) (hl:f.length<=1048576) (hT:Tens w) (hE:zB4 w) (hO:zBX w) (LW:LibW w) (IT:zBY w) :
  Calls Tryz.prog 83 #[v] w fun e w'=>∃ u,e=.returned (.tuple #[u,.bool (zCA NT.good f)])/\zVK f u w w'/\Ext w w':=by
 obtain ⟨p,cap,rfl,hc,hrow⟩:=h;obtain ⟨n,hn⟩:=nm (f.length);by_cases h300:300<n
 ·have HF:Hid (zCA NT.good f=false):=zJQ (by rw [hn];exact h300);rw [HF.out,hn];have h1:(300:Int)<(n:Int):=by omega
  clear hrow hr hc hn;go_enter Tryz.func83,Tryz.ntmps83;go_wp2_with fail;exact bodyPost_ret (v:=.tuple #[.nilIface,.bool false]) (by simp [results,Tryz.results83,go_sem]) rfl ⟨_,rfl,(fun h=>by rw [HF.out] at h;cases h),xr _⟩
 ·have h1:¬ (300:Int)<(n:Int):=by omega
  have VG:=zA5 w [.slice p f.length cap] 141;have XG:=x1 w (.cells #[.slice p f.length cap] 141);change Vec (w.alloc (.cells #[.slice p f.length cap] 141)) _ _ at VG;rw [hn] at VG XG;obtain ⟨wa,ha⟩:=nm (w.alloc (.cells #[.slice p n cap] 141));rw [ha] at VG XG;have GC:=zV4 w hT hE hO LW IT 40 (Nat.le_refl _) f w.heap.size wa XG (Nat.le_refl _) ⟨p,cap,by rw [hn];exact VG,hc,hrow⟩ hr hl;have GC:Calls Tryz.prog 101 #[.pointer (some ⟨w.heap.size,0,none⟩),iQ 1] wa fun e w'=>zFZ w 40 f w.heap.size wa e w':=GC;have hd:decide (f.length<=300)=true:=decide_eq_true (by omega);obtain ⟨Q,hQ⟩:=nm (zCA NT.good f);have HQ:Hid _:=hQ;rw [hn,hQ];have HD:Hid _:=hd;clear hrow hr hc hn hQ hd;go_enter Tryz.func83,Tryz.ntmps83;go_wp2_with fail;refine GC.mono ?_;rintro e w1 ⟨O1,HP⟩;have X1:=zAX.ext XG O1 (Nat.le_refl _)
  rcases HP with ⟨t,r,u,hg,rfl,hsh,pq,cq,Vq,hcq,hrq⟩ | ⟨hg,u,rfl⟩
  ·have c0:=(Vq 0 _ rfl).1;cases r with
   | nil =>
    have HE:Hid ((!zDB t)=Q):=by
     show _=_;rw [<- HQ.out,zCA,HD.out,hg];rfl
    have CN:=zSO u t w1 hsh.shape;obtain ⟨z,hz⟩:=nm (zDB t);rw [hz] at CN HE;change w1.cell? _=some (.slice pq 0 cq) at c0;have HTK:Hid (zB5 41 f=some (t,[])):=(zGG zQB 40 f [] t (zDB t) hg (fun h=>h)).1 41 (by omega);have HTR:Hid (TreeV w1 (fun k=>w.heap.size<=k/\k<w1.heap.size) u t):=hsh.keep (fun _ _=>rfl) (fun k hk=>⟨Nat.le_trans XG.size hk.1,hk.2⟩);clear hz hg hsh Vq hrq hcq GC;go_wp2_with (go_at_call 102;refine CN.mono ?_;rintro e w2 ⟨rfl,e2⟩);exact bodyPost_ret (v:=.tuple #[u,.bool (!z)]) (by simp [results,Tryz.results83,go_sem]) rfl ⟨u,by rw [HE.out],(fun _=>⟨t,HTK.out,(HTR.out.l (fun k hk=>hk.2) e2).keep (fun _ _=>rfl) (fun k hk=>⟨hk.1,Nat.lt_of_lt_of_le hk.2 e2.size⟩)⟩),xt X1 e2⟩
   | cons y ys =>
    have HE:Hid (false=Q):=by
     show _=_;rw [<- HQ.out,zCA,HD.out,hg];rfl
    obtain ⟨k,hk⟩:=nm ((y :: ys).length);have hk1:¬ (k:Int)=0:=(by rw [<- hk,List.length_cons];omega);have hk2:((k:Int) == 0)=false:=(by simp;omega);rw [hk] at c0;clear hg hsh Vq hrq hcq GC hk;go_wp2_with fail;exact bodyPost_ret (v:=.tuple #[u,.bool false]) (by simp [results,Tryz.results83,go_sem]) rfl ⟨u,by rw [HE.out],(fun h=>by rw [HQ.out,<- HE.out] at h;cases h),X1⟩
  ·have HE:Hid (false=Q):=by
    show _=_;rw [<- HQ.out,zCA,HD.out,hg];rfl
   clear hg GC;go_wp2_with fail;exact bodyPost_ret (v:=.tuple #[u,.bool false]) (by simp [results,Tryz.results83,go_sem]) rfl ⟨u,by rw [HE.out],(fun h=>by rw [HQ.out,<- HE.out] at h;cases h),X1⟩
theorem zRE (v:Value) (f:List NT) (w:World) (h:zAT w v f) (hr:∀ x ∈ f,x.fits) (hl:f.length<=1048576) (hT:Tens w) (hE:zB4 w) (hO:zBX w) (LW:LibW w) (IT:zBY w) :
  Calls Tryz.prog 58 #[v] w fun e w'=>e=.returned (.bool (zCA NT.good f))/\Ext w w':=by
 have C:=zRP v f w h hr hl hT hE hO LW IT;obtain ⟨Q,hQ⟩:=nm (zCA NT.good f);rw [hQ] at C ⊢;clear hQ;go_enter Tryz.func58,Tryz.ntmps58;go_wp2_with fail;refine C.mono ?_;rintro e w1 ⟨u,rfl,_,e1⟩;go_wp2_with fail;go_ret;exact ⟨rfl,e1⟩
end Go.Proofs.YteliaeejooekbaaGreatDoor
