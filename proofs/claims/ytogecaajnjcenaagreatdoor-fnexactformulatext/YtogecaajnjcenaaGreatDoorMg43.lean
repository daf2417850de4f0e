/-
  Several texts in one: Fx7, Fx8.
-/
import Derived.Test.YtogecaajnjcenaaGreatDoorMg16
import Derived.Test.YtogecaajnjcenaaGreatDoorMg5
import Derived.Test.YtogecaajnjcenaaGreatDoorMg19
import Derived.Test.YtogecaajnjcenaaGreatDoorMg32
import Derived.Test.YtogecaajnjcenaaGreatDoorMg40
import Derived.Test.YtogecaajnjcenaaGreatDoorMg33
import Derived.Test.YtogecaajnjcenaaGreatDoorFx6
import Derived.Test.YtogecaajnjcenaaGreatDoorMg31
namespace Go.Proofs.YtogecaajnjcenaaGreatDoor
open Go.RowKit
theorem joinF_lenB (n:Nat) (l:List (List UInt8)) (hb:∀ u ∈ l,u.length≤1000000000):∀ j,(joinF n l j).length≤j * 1000000001
 | 0=>by simp [joinF]
 | j+1=>by
  have h:=joinF_lenB n l hb j;have h1:(l.getD j []).length≤1000000000:=by
   rw [List.getD_eq_getElem?_getD];cases hj:l[j]? with
   | none=>simp
   | some u=>exact hb u (List.mem_of_getElem? hj)
  have h2:(sepT n j).length≤1:=by
   unfold sepT
   split
   ·simp
   ·split <;> simp
  rw [joinF,List.length_append,List.length_append];omega
set_option maxRecDepth 8000 in
set_option maxHeartbeats 4000000 in
theorem textS11 (row col:Int) (x:NT) (hk:x.k=11) (p:Option Addr) (cap:Nat) (es:List ET) (s:Nat→Value) (l:List (List UInt8)) (w:World) (hn:es.length≤1000) (ht:x.t.length≤200) (hb:∀ u ∈ l,u.length≤1000000000)
  (hp:0<es.length→∃ g,p=some ⟨g,0,none⟩∧∀ (i:Nat) (e:ET),es[i]?=some e→w.rangeAt g (i * 15) (e.n.exL (s i)))
  (hsl:∀ (i:Nat) (e:ET),es[i]?=some e→∃ pk nk ck,s i=.slice pk nk ck)
  (hi:∀ (i:Nat) (e:ET) (W:World),es[i]?=some e→Ext w W→Calls Tryz.prog 20 #[.agg #[.int .i64 row,.int .i64 col],e.n.ex (s i)] W fun r w'=>r=.returned (sV (l.getD i []))∧Ext W w') :
  Calls Tryz.prog 20 #[.agg #[.int .i64 row,.int .i64 col],x.ex (.slice p es.length cap)] w fun e w'=>e=.returned (sV (x.t++(40 :: (joinF es.length l es.length++[41]))))∧Ext w w':=by
 obtain ⟨A,hA⟩:∃ A,x.t++(40 :: (joinF es.length l es.length++[41]))=A:=⟨_,rfl⟩;have HA:Hid _:=hA;rw [hA];obtain ⟨kk,hkk⟩:∃ q,es.length=q:=⟨_,rfl⟩;have HI:Hid _:=hi;have HP:Hid _:=hp;have HSL:Hid _:=hsl;have HKK:Hid _:=hkk;have HB:Hid _:=hb;rw [hkk] at hn HP HA ⊢;clear hA hkk hi hp hsl hb;obtain ⟨k,t,ng,d,e,r,cc,f,gg,r2,c2,f2,g2,q⟩:=x;obtain rfl:k=11:=hk;have ht:t.length≤200:=ht;obtain ⟨wa,ha,X1,VW,-⟩:=boxed w [.int .i64 row,.int .i64 col] 39;obtain ⟨wb,hb,X2,VN,-⟩:=boxed wa [.int .i64 11,sV t,.bool ng,.int .i64 d,.int .i64 e,.int .i64 r,.int .i64 cc,.bool f,.bool gg,.int .i64 r2,.int .i64 c2,.bool f2,.bool g2,.int .i64 q,.slice p kk cap] 55;have HBA:Hid _:=ha;have HBB:Hid _:=hb;obtain ⟨gW,hgw⟩:∃ z,w.heap.size=z:=⟨_,rfl⟩;have HGW:Hid _:=hgw;obtain ⟨gN,hgn⟩:∃ z,wa.heap.size=z:=⟨_,rfl⟩;have HG:Hid _:=hgn;rw [hgw] at VW;rw [hgn] at VN;have VW:=VW.later X2;have X:=xt X1 X2;have hz:gW+1=gN:=by rw [← hgn,← ha,World.size_alloc,hgw]
 have HZ:Hid _:=hz;have HM:Hid (∀ lw,Ext wb lw→Vec lw gW [.int .i64 row,.int .i64 col]∧lw.cell? ⟨gN,14,none⟩=some (.slice p kk cap)∧lw.cell? ⟨gN,1,none⟩=some (sV t)):=fun lw x=>⟨VW.later x,cell_later x (VN 14 _ rfl).1,cell_later x (VN 1 _ rfl).1⟩;have c0:=(VN 0 _ rfl).1;have c1:=(VN 1 _ rfl).1;have c14:=(VN 14 _ rfl).1;clear ha hb hgn hgw hz X1 X2 VW VN;go_enter Tryz.func20,Tryz.ntmps20;go_upto_region 1 with fail;rw [HBA.out,HBB.out]
 (try rw [HG.out])
 (try rw [HGW.out])
 (try rw [HZ.out])
 clear HBA HBB HG HGW HZ;have q1:(9223372036854775807<t.length+1)=False:=eq_false (by omega);obtain ⟨O0,hO0⟩:∃ q,t++[40]=q:=⟨_,rfl⟩;have HO0:Hid (O0=t++(40 :: joinF kk l 0)):=by show _=_;rw [← hO0];rfl
 have hS0:(⟨t.toArray⟩:ByteArray)++⟨#[40]⟩=⟨O0.toArray⟩:=by rw [← hO0];exact bs_of (by simp)
 clear hO0;go_wp2_with fail
 (try rw [hS0])
 clear hS0 c0 c1 c14 q1;have X0:Ext wb wb:=xr _;go_loopw [6,102] (fun ov i wr=>∃ (j:Nat) (O:List UInt8),j≤kk∧ov=sV O∧i=.int .i64 (j:Int)∧Hid (O=t++(40 :: joinF kk l j))∧Hid (Ext wb wr)) (fun _ i _=>kk - (intOf i).toNat)
 case atStart=>exact ⟨0,O0,by omega,rfl,rfl,HO0,xr _⟩
 case round =>
  obtain ⟨j,O,hj,rfl,rfl,HO,HX⟩:=hrel;have hOl:O.length≤200+1+j * 1000000001:=by have:=joinF_lenB kk l HB.out j;rw [HO.out];simp;omega
  by_cases hlt:j<kk
  ·have i2:(j:Int)<(kk:Int):=by omega
   obtain ⟨e,he⟩:∃ e,es[j]?=some e:=⟨_,List.getElem?_eq_getElem (by rw [HKK.out];exact hlt)⟩;obtain ⟨g,rfl,hcell⟩:=HP.out (by omega);obtain ⟨pk,nk,ck,hsk⟩:=HSL.out j e he;obtain ⟨⟨ek,et,en,ed,ex,er,ec,ef,eg,er2,ec2,ef2,eg2,eq⟩,ekids⟩:=e;have HRA:wr.rangeAt g (j * 15) (NT.exL ⟨ek,et,en,ed,ex,er,ec,ef,eg,er2,ec2,ef2,eg2,eq⟩ (.slice pk nk ck)):=fun c u hu=>by
    have:=hcell j _ he c u (by rw [hsk];exact hu);exact cell_later (xt X (xt X0 HX.out)) this
   obtain ⟨wz,hz9,XZ,VZ,-⟩:=boxed wr [.int .i64 0,.string ⟨#[]⟩,.bool false,.int .i64 0,.int .i64 0,.int .i64 0,.int .i64 0,.bool false,.bool false,.int .i64 0,.int .i64 0,.bool false,.bool false,.int .i64 0,.slice none 0 0] 55;have VT:=VZ.there;have VR:=World.rangeAt_setCells_same wz wr.heap.size 0 (NT.exL ⟨ek,et,en,ed,ex,er,ec,ef,eg,er2,ec2,ef2,eg2,eq⟩ (.slice pk nk ck)) VT;have XR:=Ext.setCells (b:=wr.heap.size) (Nat.le_refl _) (NT.exL ⟨ek,et,en,ed,ex,er,ec,ef,eg,er2,ec2,ef2,eg2,eq⟩ (.slice pk nk ck)) 0 wz XZ;obtain ⟨w5,h5⟩:∃ q,wz.setCells wr.heap.size 0 (NT.exL ⟨ek,et,en,ed,ex,er,ec,ef,eg,er2,ec2,ef2,eg2,eq⟩ (.slice pk nk ck))=q:=⟨_,rfl⟩;rw [h5] at VR XR;have X5:=xt X0 (xt HX.out XR);have CW:=vC2 ((HM.out _ X5).1);have one:((NT.exL ⟨ek,et,en,ed,ex,er,ec,ef,eg,er2,ec2,ef2,eg2,eq⟩ (.slice pk nk ck)).toArray).all (·.oneCell')=true:=by simp [Value.oneCell']
   have CC:=HI.out j _ w5 he (xt X X5);rw [hsk] at CC;obtain ⟨u,hu⟩:∃ u,l.getD j []=u:=⟨_,rfl⟩;have hul:u.length≤1000000000:=by
    rw [← hu,List.getD_eq_getElem?_getD];cases hj:l[j]? with
    | none=>simp
    | some v=>exact HB.out v (List.mem_of_getElem? hj)
   rw [hu] at CC;have HU:Hid _:=hu;clear hu he hsk hcell VZ XZ;by_cases h0:0<j
   ·have i3:(0:Int)<(j:Int):=(by omega);have i4:(j:Int) > 0:=i3;have hsep:sepT kk j=[44]:=(by unfold sepT;rw [if_neg (by omega),if_neg (by rw [Nat.mod_eq_of_lt hlt];omega)]);have q1:(9223372036854775807<O.length+1)=False:=eq_false (by omega);have q2:(9223372036854775807<O.length+1+u.length)=False:=eq_false (by omega);obtain ⟨N,hN⟩:∃ N,O++(44 :: u)=N:=⟨_,rfl⟩;have HN:Hid (N=t++(40 :: joinF kk l (j+1))):=by
     show _=_;rw [← hN,HO.out,joinF,hsep,HU.out];simp
    have hSN:((⟨O.toArray⟩:ByteArray)++⟨#[44]⟩)++⟨u.toArray⟩=⟨N.toArray⟩:=(by rw [← hN];exact bs_of (by simp));clear hN HU HO;clear hsep;go_wp2_with (first | (refine wpList_load_mid rfl 55 (.tmp 105) rfl g (j * 15) rfl (NT.exL ⟨ek,et,en,ed,ex,er,ec,ef,eg,er2,ec2,ef2,eg2,eq⟩ (.slice pk nk ck)) _ HRA Tryz.underlying55 rfl hi15E ?_) | (refine wpList_store_mid rfl _ _ _ rfl wr.heap.size 0 (NT.exL ⟨ek,et,en,ed,ex,er,ec,ef,eg,er2,ec2,ef2,eg2,eq⟩ (.slice pk nk ck)).toArray rfl rfl VT hi15E one ?_;show wpList _ _ _ _ _ (wz.setCells wr.heap.size 0 (NT.exL ⟨ek,et,en,ed,ex,er,ec,ef,eg,er2,ec2,ef2,eg2,eq⟩ (.slice pk nk ck)));rw [h5];go_frame) | (refine wpList_load_mid rfl 55 (.tmp 8) rfl wr.heap.size 0 rfl (NT.exL ⟨ek,et,en,ed,ex,er,ec,ef,eg,er2,ec2,ef2,eg2,eq⟩ (.slice pk nk ck)) _ VR Tryz.underlying55 rfl hi15E ?_));refine CC.mono ?_;rintro e w6 ⟨rfl,e6⟩;go_wp2_with fail
    (try rw [hSN])
    go_roundw
    case rel=>exact ⟨j+1,N,by omega,rfl,by go_num,HN,xt HX.out (xt XR e6)⟩
    case measure=>simp [intOf];omega
   ·have i3:¬ (0:Int)<(j:Int):=(by omega);have i4:¬ (j:Int) > 0:=i3;have hsep:sepT kk j=[]:=(by rw [show j=0 by omega];rfl);have q2:(9223372036854775807<O.length+u.length)=False:=eq_false (by omega);obtain ⟨N,hN⟩:∃ N,O++u=N:=⟨_,rfl⟩;have HN:Hid (N=t++(40 :: joinF kk l (j+1))):=by
     show _=_;rw [← hN,HO.out,joinF,hsep,HU.out];simp
    have hSN:(⟨O.toArray⟩:ByteArray)++⟨u.toArray⟩=⟨N.toArray⟩:=(by rw [← hN];exact bs_of (by simp));clear hN HU HO;clear hsep h0;go_wp2_with (first | (refine wpList_load_mid rfl 55 (.tmp 105) rfl g (j * 15) rfl (NT.exL ⟨ek,et,en,ed,ex,er,ec,ef,eg,er2,ec2,ef2,eg2,eq⟩ (.slice pk nk ck)) _ HRA Tryz.underlying55 rfl hi15E ?_) | (refine wpList_store_mid rfl _ _ _ rfl wr.heap.size 0 (NT.exL ⟨ek,et,en,ed,ex,er,ec,ef,eg,er2,ec2,ef2,eg2,eq⟩ (.slice pk nk ck)).toArray rfl rfl VT hi15E one ?_;show wpList _ _ _ _ _ (wz.setCells wr.heap.size 0 (NT.exL ⟨ek,et,en,ed,ex,er,ec,ef,eg,er2,ec2,ef2,eg2,eq⟩ (.slice pk nk ck)));rw [h5];go_frame) | (refine wpList_load_mid rfl 55 (.tmp 8) rfl wr.heap.size 0 rfl (NT.exL ⟨ek,et,en,ed,ex,er,ec,ef,eg,er2,ec2,ef2,eg2,eq⟩ (.slice pk nk ck)) _ VR Tryz.underlying55 rfl hi15E ?_));refine CC.mono ?_;rintro e w6 ⟨rfl,e6⟩;go_wp2_with fail
    (try rw [hSN])
    go_roundw
    case rel=>exact ⟨j+1,N,by omega,rfl,by go_num,HN,xt HX.out (xt XR e6)⟩
    case measure=>simp [intOf];omega
  ·obtain rfl:j=kk:=by omega
   have i2:¬ (j:Int)<(j:Int):=by omega
   have q1:(9223372036854775807<O.length+1)=False:=eq_false (by omega);go_wp2_with fail;go_ret;exact ⟨ret_str (by rw [← HA.out,HO.out];refine bs_of ?_;simp),xt X (xt X0 HX.out)⟩
set_option maxRecDepth 8000 in
set_option maxHeartbeats 4000000 in
theorem textS12 (row col:Int) (x:NT) (hk:x.k=12) (p:Option Addr) (cap:Nat) (es:List ET) (s:Nat→Value) (l:List (List UInt8)) (w:World) (hn:es.length≤1000) (ht:x.t.length≤200) (hb:∀ u ∈ l,u.length≤1000000000) (R:Nat) (hR:1≤R∧R≤es.length) (hnum:numL x.t=(R:Int))
  (hp:0<es.length→∃ g,p=some ⟨g,0,none⟩∧∀ (i:Nat) (e:ET),es[i]?=some e→w.rangeAt g (i * 15) (e.n.exL (s i)))
  (hsl:∀ (i:Nat) (e:ET),es[i]?=some e→∃ pk nk ck,s i=.slice pk nk ck)
  (hi:∀ (i:Nat) (e:ET) (W:World),es[i]?=some e→Ext w W→Calls Tryz.prog 20 #[.agg #[.int .i64 row,.int .i64 col],e.n.ex (s i)] W fun r w'=>r=.returned (sV (l.getD i []))∧Ext W w') :
  Calls Tryz.prog 20 #[.agg #[.int .i64 row,.int .i64 col],x.ex (.slice p es.length cap)] w fun e w'=>e=.returned (sV (123 :: (joinF (es.length / R) l es.length++[125])))∧Ext w w':=by
 obtain ⟨A,hA⟩:∃ A,123 :: (joinF (es.length / R) l es.length++[125])=A:=⟨_,rfl⟩;have HA:Hid _:=hA;rw [hA];obtain ⟨kk,hkk⟩:∃ q,es.length=q:=⟨_,rfl⟩;have HI:Hid _:=hi;have HP:Hid _:=hp;have HSL:Hid _:=hsl;have HKK:Hid _:=hkk;have HB:Hid _:=hb;rw [hkk] at hn HP HA ⊢;have HR:Hid (1≤R∧R≤kk):=by show 1≤R∧R≤kk;rw [← hkk];exact hR
 have HNU:Hid _:=hnum;clear hR hnum;clear hA hkk hi hp hsl hb;obtain ⟨k,t,ng,d,e,r,cc,f,gg,r2,c2,f2,g2,q⟩:=x;obtain rfl:k=12:=hk;have ht:t.length≤200:=ht;obtain ⟨wa,ha,X1,VW,-⟩:=boxed w [.int .i64 row,.int .i64 col] 39;obtain ⟨wb,hb,X2,VN,-⟩:=boxed wa [.int .i64 12,sV t,.bool ng,.int .i64 d,.int .i64 e,.int .i64 r,.int .i64 cc,.bool f,.bool gg,.int .i64 r2,.int .i64 c2,.bool f2,.bool g2,.int .i64 q,.slice p kk cap] 55;have HBA:Hid _:=ha;have HBB:Hid _:=hb;obtain ⟨gW,hgw⟩:∃ z,w.heap.size=z:=⟨_,rfl⟩;have HGW:Hid _:=hgw;obtain ⟨gN,hgn⟩:∃ z,wa.heap.size=z:=⟨_,rfl⟩;have HG:Hid _:=hgn;rw [hgw] at VW;rw [hgn] at VN;have VW:=VW.later X2;have X:=xt X1 X2;have hz:gW+1=gN:=by rw [← hgn,← ha,World.size_alloc,hgw]
 have HZ:Hid _:=hz;have HM:Hid (∀ lw,Ext wb lw→Vec lw gW [.int .i64 row,.int .i64 col]∧lw.cell? ⟨gN,14,none⟩=some (.slice p kk cap)∧lw.cell? ⟨gN,1,none⟩=some (sV t)):=fun lw x=>⟨VW.later x,cell_later x (VN 14 _ rfl).1,cell_later x (VN 1 _ rfl).1⟩;have c0:=(VN 0 _ rfl).1;have c1:=(VN 1 _ rfl).1;have c14:=(VN 14 _ rfl).1;clear ha hb hgn hgw hz X1 X2 VW VN;go_enter Tryz.func20,Tryz.ntmps20;go_upto_region 1 with fail;rw [HBA.out,HBB.out]
 (try rw [HG.out])
 (try rw [HGW.out])
 (try rw [HZ.out])
 clear HBA HBB HG HGW HZ;have hnl:numL t=(R:Int):=HNU.out;have NU:Hid (∀ W,Calls Tryz.prog 39 #[.string ⟨t.toArray⟩] W fun e w'=>e=.returned (.int .i64 (R:Int))∧w'=W):=fun W=>by have h:=numS ⟨t.toArray⟩ t W rfl;rw [hnl] at h;exact h
 clear hnl;obtain ⟨C,hC⟩:∃ q,kk / R=q:=⟨_,rfl⟩;have HC:Hid _:=hC;have HC1:Hid (1≤C∧C≤1000):=by
  show 1≤C∧C≤1000;obtain ⟨h1,h2⟩:=HR.out;have h3:=Nat.div_pos h2 h1;rw [hC] at h3;have h4:=Nat.div_le_self kk R;rw [hC] at h4;omega
 have hq:(kk:Int).tdiv (R:Int)=(C:Int):=by rw [← hC];exact (Int.ofNat_tdiv kk R).symm
 have hRz:¬ (R:Int)=0:=by have:=HR.out;omega
 have hRz2:((R:Int) == 0)=false:=by simp;have:=HR.out;omega
 have hqw:IntKind.i64.wrap (C:Int)=(C:Int):=by have:=HC1.out;rw [IntKind.wrap_i64] <;> omega
 have hRm:¬ (R:Int) = -1:=by omega
 clear hC;go_upto_region 28 with fail;refine wp_region_letters_c (fun lx:Nat→Value=>{ tmps:=#[Value.agg #[Value.int .i64 row,Value.int .i64 col],NT.ex ⟨12,t,ng,d,e,r,cc,f,gg,r2,c2,f2,g2,q⟩ (.slice p kk cap),Value.pointer (some ⟨gW,0,none⟩),Value.pointer (some ⟨gN,0,none⟩),Value.string { data:=#[] },undef,undef,undef,undef,lx 9,undef,undef,undef,Value.pointer (some ⟨gN,0,none⟩),Value.pointer (some ⟨gN,0,none⟩),Value.int .i64 12,Value.bool false,Value.bool false,undef,undef,undef,undef,Value.bool false,Value.bool false,undef,undef,undef,undef,Value.bool false,Value.bool false,undef,undef,undef,undef,undef,Value.bool false,Value.bool false,undef,undef,undef,undef,undef,undef,undef,undef,undef,undef,undef,undef,Value.bool false,Value.bool false,undef,undef,undef,undef,undef,undef,undef,Value.bool false,Value.bool false,undef,undef,undef,undef,undef,undef,undef,Value.bool false,Value.bool false,undef,undef,undef,undef,undef,undef,undef,undef,undef,undef,undef,undef,undef,undef,undef,undef,undef,undef,undef,undef,undef,undef,undef,undef,Value.bool false,Value.bool false,undef,undef,undef,undef,undef,undef,undef,undef,undef,undef,undef,undef,undef,undef,undef,undef,undef,undef,undef,undef,undef,undef,undef,undef,Value.bool true,Value.bool true,lx 121,lx 122,lx 123,lx 124,lx 125,lx 126,lx 127,lx 128,undef,undef,undef,undef,undef,undef,undef,undef,undef,undef,undef,undef,undef,undef,undef,undef,undef,undef,undef,undef,undef,undef,undef,undef,undef,undef,undef,undef,undef,undef,undef,undef,undef],defers:=[] }) (fun L lx lw=>Hid (Ext wb lw∧(L 0=true→lx 121=.pointer (some ⟨gN,14,none⟩))∧(L 1=true→lx 122=.slice p kk cap)∧(L 2=true→lx 123=.int .i64 (kk:Int))∧(L 3=true→lx 124=.pointer (some ⟨gN,0,none⟩))∧(L 4=true→lx 125=.pointer (some ⟨gN,1,none⟩))∧(L 5=true→lx 126=sV t)∧(L 6=true→lx 127=.int .i64 (R:Int))∧(L 7=true→lx 128=.int .i64 (C:Int))∧(L 8=true→lx 9=.int .i64 (C:Int)))) rfl (by kernel_rfl) (fun jj=>undef) rfl ?_ ?_ ?_
 ·exact ⟨xd (xr _),(fun h=>by cases h),(fun h=>by cases h),(fun h=>by cases h),(fun h=>by cases h),(fun h=>by cases h),(fun h=>by cases h),(fun h=>by cases h),(fun h=>by cases h),(fun h=>by cases h)⟩
 ·intro L lx lw ix oo K hK ho hL haf hI hcl;obtain ⟨E,f0,f1,f2,f3,f4,f5,f6,f7,f8⟩:=hI.out
  match ix,ho,hL,haf,hK with
  | 0,ho,hL,haf,hK =>
   cases ho
   (try dsimp only)
   refine Eq.mpr (if_pos (by rfl)) ?_;go_wp2_with fail;exact hK (fun jj=>if jj=121 then .pointer (some ⟨gN,14,none⟩) else lx jj) _ ⟨E,(fun _=>rfl),f1,f2,f3,f4,f5,f6,f7,f8⟩
  | 1,ho,hL,haf,hK =>
   cases ho
   (try dsimp only)
   rw [f0 (haf ⟨0,.data⟩ (by simp) rfl)];refine Eq.mpr (if_pos (by rfl)) ?_;have q:=(HM.out _ E).2.1;go_wp2_with fail;exact hK (fun jj=>if jj=122 then .slice p kk cap else if jj=121 then .pointer (some ⟨gN,14,none⟩) else lx jj) _ ⟨E,(fun _=>rfl),(fun _=>rfl),f2,f3,f4,f5,f6,f7,f8⟩
  | 2,ho,hL,haf,hK =>
   cases ho
   (try dsimp only)
   rw [f1 (haf ⟨1,.data⟩ (by simp) rfl)];refine Eq.mpr (if_pos (by rfl)) ?_;go_wp2_with fail;exact hK (fun jj=>if jj=123 then .int .i64 (kk:Int) else if jj=122 then .slice p kk cap else lx jj) _ ⟨E,f0,(fun _=>rfl),(fun _=>rfl),f3,f4,f5,f6,f7,f8⟩
  | 3,ho,hL,haf,hK =>
   cases ho
   (try dsimp only)
   refine Eq.mpr (if_pos (by rfl)) ?_;go_wp2_with fail;exact hK (fun jj=>if jj=124 then .pointer (some ⟨gN,0,none⟩) else lx jj) _ ⟨E,f0,f1,f2,(fun _=>rfl),f4,f5,f6,f7,f8⟩
  | 4,ho,hL,haf,hK =>
   cases ho
   (try dsimp only)
   rw [f3 (haf ⟨3,.data⟩ (by simp) rfl)];refine Eq.mpr (if_pos (by rfl)) ?_;go_wp2_with fail;exact hK (fun jj=>if jj=125 then .pointer (some ⟨gN,1,none⟩) else if jj=124 then .pointer (some ⟨gN,0,none⟩) else lx jj) _ ⟨E,f0,f1,f2,(fun _=>rfl),(fun _=>rfl),f5,f6,f7,f8⟩
  | 5,ho,hL,haf,hK =>
   cases ho
   (try dsimp only)
   rw [f4 (haf ⟨4,.data⟩ (by simp) rfl)];refine Eq.mpr (if_pos (by rfl)) ?_;have q:=(HM.out _ E).2.2;go_wp2_with fail;exact hK (fun jj=>if jj=126 then sV t else if jj=125 then .pointer (some ⟨gN,1,none⟩) else lx jj) _ ⟨E,f0,f1,f2,f3,(fun _=>rfl),(fun _=>rfl),f6,f7,f8⟩
  | 6,ho,hL,haf,hK =>
   cases ho
   (try dsimp only)
   rw [f5 (haf ⟨5,.data⟩ (by simp) rfl)];refine Eq.mpr (if_pos (by rfl)) ?_;go_wp2_with fail;refine (NU.out lw).mono ?_;rintro rr w' ⟨rfl,rfl⟩;go_wp2_with fail;exact hK (fun jj=>if jj=127 then .int .i64 (R:Int) else if jj=126 then sV t else lx jj) _ ⟨E,f0,f1,f2,f3,f4,(fun _=>rfl),(fun _=>rfl),f7,f8⟩
  | 7,ho,hL,haf,hK =>
   cases ho
   (try dsimp only)
   rw [f2 (haf ⟨2,.data⟩ (by simp) rfl),f6 (haf ⟨6,.data⟩ (by simp) rfl)];refine Eq.mpr (if_pos (by rfl)) ?_;go_wp2_with fail;exact hK (fun jj=>if jj=128 then .int .i64 (C:Int) else if jj=123 then .int .i64 (kk:Int) else if jj=127 then .int .i64 (R:Int) else lx jj) _ ⟨E,f0,f1,(fun _=>rfl),f3,f4,f5,(fun _=>rfl),(fun _=>rfl),f8⟩
  | 8,ho,hL,haf,hK =>
   cases ho
   (try dsimp only)
   rw [f7 (haf ⟨7,.data⟩ (by simp) rfl)];refine Eq.mpr (if_pos (by rfl)) ?_;go_wp2_with fail;exact hK (fun jj=>if jj=9 then .int .i64 (C:Int) else if jj=128 then .int .i64 (C:Int) else lx jj) _ ⟨E,f0,f1,f2,f3,f4,f5,f6,(fun _=>rfl),(fun _=>rfl)⟩
  | k+9,ho,_,_,_=>simp at ho
 ·intro L lx wc hall hI;obtain ⟨E,f0,f1,f2,f3,f4,f5,f6,f7,f8⟩:=hI.out
  (try dsimp only)
  rw [f8 (hall 8 (by simp)),f0 (hall 0 (by simp)),f1 (hall 1 (by simp)),f2 (hall 2 (by simp)),f3 (hall 3 (by simp)),f4 (hall 4 (by simp)),f5 (hall 5 (by simp)),f6 (hall 6 (by simp)),f7 (hall 7 (by simp))];clear hI hall f0 f1 f2 f3 f4 f5 f6 f7 f8;have X0:Ext wb wc:=E;have c14:=(HM.out _ E).2.1;obtain ⟨O0,hO0⟩:∃ q:List UInt8,[123]=q:=⟨_,rfl⟩;have HO0:Hid (O0=123 :: joinF C l 0):=by show _=_;rw [← hO0];rfl
  have hS0:(⟨#[123]⟩:ByteArray)=⟨O0.toArray⟩:=by rw [← hO0]
  clear hO0 E NU;go_wp2_with fail
  (try rw [hS0])
  clear hS0 c14;go_loopw [10,132] (fun ov i wr=>∃ (j:Nat) (O:List UInt8),j≤kk∧ov=sV O∧i=.int .i64 (j:Int)∧Hid (O=123 :: joinF C l j)∧Hid (Ext wc wr)) (fun _ i _=>kk - (intOf i).toNat)
  case atStart=>exact ⟨0,O0,by omega,rfl,rfl,HO0,xr _⟩
  case round =>
   obtain ⟨j,O,hj,rfl,rfl,HO,HX⟩:=hrel;have hOl:O.length≤1+j * 1000000001:=by have:=joinF_lenB C l HB.out j;rw [HO.out];simp;omega
   by_cases hlt:j<kk
   ·have i2:(j:Int)<(kk:Int):=(by omega);obtain ⟨e,he⟩:∃ e,es[j]?=some e:=⟨_,List.getElem?_eq_getElem (by rw [HKK.out];exact hlt)⟩;obtain ⟨g,rfl,hcell⟩:=HP.out (by omega);obtain ⟨pk,nk,ck,hsk⟩:=HSL.out j e he;obtain ⟨⟨ek,et,en,ed,ex,er,ec,ef,eg,er2,ec2,ef2,eg2,eq⟩,ekids⟩:=e;have HRA:wr.rangeAt g (j * 15) (NT.exL ⟨ek,et,en,ed,ex,er,ec,ef,eg,er2,ec2,ef2,eg2,eq⟩ (.slice pk nk ck)):=fun c u hu=>by
     have:=hcell j _ he c u (by rw [hsk];exact hu);exact cell_later (xt X (xt X0 HX.out)) this
    obtain ⟨wz,hz9,XZ,VZ,-⟩:=boxed wr [.int .i64 0,.string ⟨#[]⟩,.bool false,.int .i64 0,.int .i64 0,.int .i64 0,.int .i64 0,.bool false,.bool false,.int .i64 0,.int .i64 0,.bool false,.bool false,.int .i64 0,.slice none 0 0] 55;have VT:=VZ.there;have VR:=World.rangeAt_setCells_same wz wr.heap.size 0 (NT.exL ⟨ek,et,en,ed,ex,er,ec,ef,eg,er2,ec2,ef2,eg2,eq⟩ (.slice pk nk ck)) VT;have XR:=Ext.setCells (b:=wr.heap.size) (Nat.le_refl _) (NT.exL ⟨ek,et,en,ed,ex,er,ec,ef,eg,er2,ec2,ef2,eg2,eq⟩ (.slice pk nk ck)) 0 wz XZ;obtain ⟨w5,h5⟩:∃ q,wz.setCells wr.heap.size 0 (NT.exL ⟨ek,et,en,ed,ex,er,ec,ef,eg,er2,ec2,ef2,eg2,eq⟩ (.slice pk nk ck))=q:=⟨_,rfl⟩;rw [h5] at VR XR;have X5:=xt X0 (xt HX.out XR);have CW:=vC2 ((HM.out _ X5).1);have one:((NT.exL ⟨ek,et,en,ed,ex,er,ec,ef,eg,er2,ec2,ef2,eg2,eq⟩ (.slice pk nk ck)).toArray).all (·.oneCell')=true:=(by simp [Value.oneCell']);have CC:=HI.out j _ w5 he (xt X X5);rw [hsk] at CC;obtain ⟨u,hu⟩:∃ u,l.getD j []=u:=⟨_,rfl⟩;have hul:u.length≤1000000000:=by
     rw [← hu,List.getD_eq_getElem?_getD];cases hj:l[j]? with
     | none=>simp
     | some v=>exact HB.out v (List.mem_of_getElem? hj)
    rw [hu] at CC;have HU:Hid _:=hu;clear hu he hsk hcell VZ XZ;by_cases h0:0<j
    ·have i3:(0:Int)<(j:Int):=(by omega);have i4:(j:Int) > 0:=i3;have hCz:¬ (C:Int)=0:=(by have:=HC1.out;omega);have hCz2:((C:Int) == 0)=false:=(by simp;have:=HC1.out;omega);have hCm:¬ (C:Int) = -1:=(by omega);obtain ⟨m,hm⟩:∃ m,j % C=m:=⟨_,rfl⟩;have hmm:(j:Int).tmod (C:Int)=(m:Int):=(by rw [← hm];exact (Int.ofNat_tmod j C).symm);by_cases hm0:m=0
     ·subst hm0;have hsep:sepT C j=[59]:=(by unfold sepT;rw [if_neg (by omega),if_pos hm]);have q1:(9223372036854775807<O.length+1)=False:=eq_false (by omega);have q2:(9223372036854775807<O.length+1+u.length)=False:=eq_false (by omega);obtain ⟨N,hN⟩:∃ N,O++(59 :: u)=N:=⟨_,rfl⟩;have HN:Hid (N=123 :: joinF C l (j+1)):=by
       show _=_;rw [← hN,HO.out,joinF,hsep,HU.out];simp
      have hSN:((⟨O.toArray⟩:ByteArray)++⟨#[59]⟩)++⟨u.toArray⟩=⟨N.toArray⟩:=(by rw [← hN];exact bs_of (by simp));clear hN HU HO;clear hsep hm;go_wp2_with (first | (refine wpList_load_mid rfl 55 (.tmp 135) rfl g (j * 15) rfl (NT.exL ⟨ek,et,en,ed,ex,er,ec,ef,eg,er2,ec2,ef2,eg2,eq⟩ (.slice pk nk ck)) _ HRA Tryz.underlying55 rfl hi15E ?_) | (refine wpList_store_mid rfl _ _ _ rfl wr.heap.size 0 (NT.exL ⟨ek,et,en,ed,ex,er,ec,ef,eg,er2,ec2,ef2,eg2,eq⟩ (.slice pk nk ck)).toArray rfl rfl VT hi15E one ?_;show wpList _ _ _ _ _ (wz.setCells wr.heap.size 0 (NT.exL ⟨ek,et,en,ed,ex,er,ec,ef,eg,er2,ec2,ef2,eg2,eq⟩ (.slice pk nk ck)));rw [h5];go_frame) | (refine wpList_load_mid rfl 55 (.tmp 12) rfl wr.heap.size 0 rfl (NT.exL ⟨ek,et,en,ed,ex,er,ec,ef,eg,er2,ec2,ef2,eg2,eq⟩ (.slice pk nk ck)) _ VR Tryz.underlying55 rfl hi15E ?_));refine CC.mono ?_;rintro e w6 ⟨rfl,e6⟩;go_wp2_with fail
      (try rw [hSN])
      go_roundw
      case rel=>exact ⟨j+1,N,by omega,rfl,by go_num,HN,xt HX.out (xt XR e6)⟩
      case measure=>simp [intOf];omega
     ·have hsep:sepT C j=[44]:=(by unfold sepT;rw [if_neg (by omega),if_neg (by rw [hm];exact hm0)]);have hmz:((m:Int) == 0)=false:=(by simp;omega);have q1:(9223372036854775807<O.length+1)=False:=eq_false (by omega);have q2:(9223372036854775807<O.length+1+u.length)=False:=eq_false (by omega);obtain ⟨N,hN⟩:∃ N,O++(44 :: u)=N:=⟨_,rfl⟩;have HN:Hid (N=123 :: joinF C l (j+1)):=by
       show _=_;rw [← hN,HO.out,joinF,hsep,HU.out];simp
      have hSN:((⟨O.toArray⟩:ByteArray)++⟨#[44]⟩)++⟨u.toArray⟩=⟨N.toArray⟩:=(by rw [← hN];exact bs_of (by simp));clear hN HU HO;clear hsep hm;go_wp2_with (first | (refine wpList_load_mid rfl 55 (.tmp 135) rfl g (j * 15) rfl (NT.exL ⟨ek,et,en,ed,ex,er,ec,ef,eg,er2,ec2,ef2,eg2,eq⟩ (.slice pk nk ck)) _ HRA Tryz.underlying55 rfl hi15E ?_) | (refine wpList_store_mid rfl _ _ _ rfl wr.heap.size 0 (NT.exL ⟨ek,et,en,ed,ex,er,ec,ef,eg,er2,ec2,ef2,eg2,eq⟩ (.slice pk nk ck)).toArray rfl rfl VT hi15E one ?_;show wpList _ _ _ _ _ (wz.setCells wr.heap.size 0 (NT.exL ⟨ek,et,en,ed,ex,er,ec,ef,eg,er2,ec2,ef2,eg2,eq⟩ (.slice pk nk ck)));rw [h5];go_frame) | (refine wpList_load_mid rfl 55 (.tmp 12) rfl wr.heap.size 0 rfl (NT.exL ⟨ek,et,en,ed,ex,er,ec,ef,eg,er2,ec2,ef2,eg2,eq⟩ (.slice pk nk ck)) _ VR Tryz.underlying55 rfl hi15E ?_));refine CC.mono ?_;rintro e w6 ⟨rfl,e6⟩;go_wp2_with fail
      (try rw [hSN])
      go_roundw
      case rel=>exact ⟨j+1,N,by omega,rfl,by go_num,HN,xt HX.out (xt XR e6)⟩
      case measure=>simp [intOf];omega
    ·have i3:¬ (0:Int)<(j:Int):=(by omega);have i4:¬ (j:Int) > 0:=i3;have hsep:sepT C j=[]:=(by rw [show j=0 by omega];rfl);have q2:(9223372036854775807<O.length+u.length)=False:=eq_false (by omega);obtain ⟨N,hN⟩:∃ N,O++u=N:=⟨_,rfl⟩;have HN:Hid (N=123 :: joinF C l (j+1)):=by
      show _=_;rw [← hN,HO.out,joinF,hsep,HU.out];simp
     have hSN:(⟨O.toArray⟩:ByteArray)++⟨u.toArray⟩=⟨N.toArray⟩:=(by rw [← hN];exact bs_of (by simp));clear hN HU HO;clear hsep h0;go_wp2_with (first | (refine wpList_load_mid rfl 55 (.tmp 135) rfl g (j * 15) rfl (NT.exL ⟨ek,et,en,ed,ex,er,ec,ef,eg,er2,ec2,ef2,eg2,eq⟩ (.slice pk nk ck)) _ HRA Tryz.underlying55 rfl hi15E ?_) | (refine wpList_store_mid rfl _ _ _ rfl wr.heap.size 0 (NT.exL ⟨ek,et,en,ed,ex,er,ec,ef,eg,er2,ec2,ef2,eg2,eq⟩ (.slice pk nk ck)).toArray rfl rfl VT hi15E one ?_;show wpList _ _ _ _ _ (wz.setCells wr.heap.size 0 (NT.exL ⟨ek,et,en,ed,ex,er,ec,ef,eg,er2,ec2,ef2,eg2,eq⟩ (.slice pk nk ck)));rw [h5];go_frame) | (refine wpList_load_mid rfl 55 (.tmp 12) rfl wr.heap.size 0 rfl (NT.exL ⟨ek,et,en,ed,ex,er,ec,ef,eg,er2,ec2,ef2,eg2,eq⟩ (.slice pk nk ck)) _ VR Tryz.underlying55 rfl hi15E ?_));refine CC.mono ?_;rintro e w6 ⟨rfl,e6⟩;go_wp2_with fail
     (try rw [hSN])
     go_roundw
     case rel=>exact ⟨j+1,N,by omega,rfl,by go_num,HN,xt HX.out (xt XR e6)⟩
     case measure=>simp [intOf];omega
   ·obtain rfl:j=kk:=(by omega);have i2:¬ (j:Int)<(j:Int):=(by omega);have q1:(9223372036854775807<O.length+1)=False:=eq_false (by omega);go_wp2_with fail;go_ret;exact ⟨ret_str (by rw [← HA.out,HC.out,HO.out];refine bs_of ?_;simp),xt X (xt X0 HX.out)⟩
theorem OkE.num12 {x:NT} {ks:List ET} (h:OkE (.mk x ks)) (h12:x.k=12):numL x.t=((whole x.t).toNat:Int):=by
 obtain ⟨hg,_,_⟩:=h.right;unfold NT.good goodN at hg;rw [h12] at hg;simp [sidesB] at hg;obtain ⟨_,⟨⟨⟨h1,h2⟩,h3⟩,_⟩,_⟩:=hg;obtain ⟨n,hn⟩:∃ n:Nat,whole x.t=n:=⟨(whole x.t).toNat,by omega⟩;have hi:∀ i:Nat,Lib.itoa (i:Int)=Lib.decDigits i:=fun i=>by unfold Lib.itoa;rw [if_neg (by omega)];simp
 rw [hn,hi] at h3;rw [hn,Int.toNat_natCast,h3];exact (whole20 n (List.mem_range.2 (by omega)) (by omega)).2
theorem asm_leaf (D:NT→List UInt8) (T:Int→Int→Bool→Bool→List UInt8) (x:NT) (es:List ET):textE D T (.mk x es)=asmT D T x (es.map lvE) (es.map (textE D T)):=textE_mk D T x es
theorem asm8 (D:NT→List UInt8) (T:Int→Int→Bool→Bool→List UInt8) (x:NT) (hk:x.k=8) (lv:List Int) (l:List (List UInt8)):asmT D T x lv l=45 :: kidT (lv.getD 0 0) 6 (l.getD 0 []):=by simp [asmT,hk]
theorem asm9 (D:NT→List UInt8) (T:Int→Int→Bool→Bool→List UInt8) (x:NT) (hk:x.k=9) (lv:List Int) (l:List (List UInt8)):asmT D T x lv l=kidT (lv.getD 0 0) 7 (l.getD 0 [])++[37]:=by simp [asmT,hk]
theorem asm10 (D:NT→List UInt8) (T:Int→Int→Bool→Bool→List UInt8) (x:NT) (hk:x.k=10) (lv:List Int) (l:List (List UInt8)):asmT D T x lv l=kidT (lv.getD 0 0) (lvOp x.t) (l.getD 0 [])++(x.t++kidT (lv.getD 1 0) (lvOp x.t+1) (l.getD 1 [])):=by simp [asmT,hk]
theorem asm11 (D:NT→List UInt8) (T:Int→Int→Bool→Bool→List UInt8) (x:NT) (hk:x.k=11) (lv:List Int) (l:List (List UInt8)):asmT D T x lv l=x.t++(40 :: (joinF l.length l l.length++[41])):=by simp [asmT,hk]
theorem asm12 (D:NT→List UInt8) (T:Int→Int→Bool→Bool→List UInt8) (x:NT) (hk:x.k=12) (lv:List Int) (l:List (List UInt8)):asmT D T x lv l=123 :: (joinF (l.length / (whole x.t).toNat) l l.length++[125]):=by simp [asmT,hk]
set_option maxRecDepth 8000 in
set_option maxHeartbeats 4000000 in
theorem textSE (row col:Int) (D:NT→List UInt8) (T:Int→Int→Bool→Bool→List UInt8) (C:TextC row col D T) {w:World} {U:Nat→Prop} {v:Value} {es:List ET} (h:KidsS w U v es) :
  ∀ (x:NT) (W:World),Ext w W→OkE (.mk x es)→cntE (.mk x es)≤300 →
   Calls Tryz.prog 20 #[.agg #[.int .i64 row,.int .i64 col],x.ex v] W fun r w'=>r=.returned (sV (textE D T (.mk x es)))∧Ext W w':=by
 induction h with
 | mk p cap es s hc hp hk ih =>
 intro x W XW ok hcnt;have hkids:=ok.kids;obtain ⟨hg,_,hsub⟩:=ok.right;have hcl:cntL es≤299:=by rw [cntE] at hcnt;omega
 have hsl:∀ (i:Nat) (e:ET),es[i]?=some e→∃ pk nk ck,s i=.slice pk nk ck:=fun i e hi=>by obtain ⟨q1,q2,q3,_⟩:=(hk i e hi).slice;exact ⟨_,_,_,q3⟩
 have hI:∀ (i:Nat) (e:ET) (W':World),es[i]?=some e→Ext W W'→Calls Tryz.prog 20 #[.agg #[.int .i64 row,.int .i64 col],e.n.ex (s i)] W' fun r w'=>r=.returned (sV (textE D T e))∧Ext W' w':=fun i e W' hi X'=>by
  obtain ⟨n,ks⟩:=e;have hc':=cntL_get hi;exact ih i (.mk n ks) hi n W' (xt XW X') (hsub _ (List.mem_of_getElem? hi)) (show cntE (.mk n ks)≤300 by omega)
 have hlen:∀ (i:Nat) (e:ET),es[i]?=some e→(textE D T e).length≤1000000000:=fun i e hi=>by
  have h1:=textE_len D T C.lenD C.lenT e (ok_all e (hsub e (List.mem_of_getElem? hi)));have h2:=cntL_get hi;omega
 have hop:∀ (i:Nat) (e:ET),es[i]?=some e→e.n.k=10→e.n.t ∈ opsL:=fun i e hi h=>by
  obtain ⟨n,ks⟩:=e;exact ((hsub _ (List.mem_of_getElem? hi)).kids.2.1 h).2
 have hpW:0<es.length→∃ g,p=some ⟨g,0,none⟩∧∀ (i:Nat) (e:ET),es[i]?=some e→W.rangeAt g (i * 15) (e.n.exL (s i)):=fun h0=>by
  obtain ⟨g,h1,h2,h3⟩:=hp h0;exact ⟨g,h1,fun i e hi c u hu=>cell_later XW (h3 i e hi c u hu)⟩
 by_cases k8:x.k=8
 ·obtain ⟨e,rfl⟩:=hkids.1 (.inl k8);obtain ⟨n,ks⟩:=e;obtain ⟨g,rfl,hcell⟩:=hpW (by simp);obtain ⟨pk,nk,ck,hs0⟩:=hsl 0 _ rfl;have hc0:=hcell 0 _ rfl;rw [hs0] at hc0;refine (textS8 row col x k8 g cap n pk nk ck ks (textE D T (.mk n ks)) W hc0 (hop 0 _ rfl) (hlen 0 _ rfl) (fun W' X'=>by have:=hI 0 _ W' rfl X';rw [hs0] at this;exact this)).mono ?_;rintro r w' ⟨rfl,e'⟩;exact ⟨by rw [asm_leaf D T x,asm8 D T x k8];rfl,e'⟩
 by_cases k9:x.k=9
 ·obtain ⟨e,rfl⟩:=hkids.1 (.inr k9);obtain ⟨n,ks⟩:=e;obtain ⟨g,rfl,hcell⟩:=hpW (by simp);obtain ⟨pk,nk,ck,hs0⟩:=hsl 0 _ rfl;have hc0:=hcell 0 _ rfl;rw [hs0] at hc0;refine (textS9 row col x k9 g cap n pk nk ck ks (textE D T (.mk n ks)) W hc0 (hop 0 _ rfl) (hlen 0 _ rfl) (fun W' X'=>by have:=hI 0 _ W' rfl X';rw [hs0] at this;exact this)).mono ?_;rintro r w' ⟨rfl,e'⟩;exact ⟨by rw [asm_leaf D T x,asm9 D T x k9];rfl,e'⟩
 by_cases k10:x.k=10
 ·obtain ⟨⟨e,f,rfl⟩,hx⟩:=hkids.2.1 k10;obtain ⟨n,ks⟩:=e;obtain ⟨m,ls⟩:=f;obtain ⟨g,rfl,hcell⟩:=hpW (by simp);obtain ⟨pk,nk,ck,hs0⟩:=hsl 0 _ rfl;obtain ⟨pl,nl,cl,hs1⟩:=hsl 1 _ rfl;have hc0:=hcell 0 _ rfl;have hc1:=hcell 1 _ rfl;rw [hs0] at hc0;rw [hs1] at hc1;refine (textS10 row col x k10 g cap n pk nk ck ks (textE D T (.mk n ks)) m pl nl cl ls (textE D T (.mk m ls)) W hx hc0 (hop 0 _ rfl) (hlen 0 _ rfl) (fun W' X'=>by have:=hI 0 _ W' rfl X';rw [hs0] at this;exact this)
   hc1 (hop 1 _ rfl) (hlen 1 _ rfl) (fun W' X'=>by have:=hI 1 _ W' rfl X';rw [hs1] at this;exact this)).mono ?_
  rintro r w' ⟨rfl,e'⟩;exact ⟨by rw [asm_leaf D T x,asm10 D T x k10];rfl,e'⟩
 have hget:∀ (i:Nat) (e:ET),es[i]?=some e→(es.map (textE D T)).getD i []=textE D T e:=fun i e hi=>by simp [hi]
 have hb:∀ u ∈ es.map (textE D T),u.length≤1000000000:=fun u hu=>by
  obtain ⟨e,he,rfl⟩:=List.mem_map.1 hu;obtain ⟨i,hi⟩:=List.getElem?_of_mem he;exact hlen i e hi
 have hI2:∀ (i:Nat) (e:ET) (W':World),es[i]?=some e→Ext W W'→Calls Tryz.prog 20 #[.agg #[.int .i64 row,.int .i64 col],e.n.ex (s i)] W' fun r w'=>r=.returned (sV ((es.map (textE D T)).getD i []))∧Ext W' w':=fun i e W' hi X'=>by
  rw [hget i e hi];exact hI i e W' hi X'
 have ht:=good_t hg;by_cases k11:x.k=11
 ·refine (textS11 row col x k11 p cap es s (es.map (textE D T)) W (by have:=hkids.2.2.2 k11;omega) ht hb hpW hsl hI2).mono ?_;rintro r w' ⟨rfl,e'⟩;exact ⟨by rw [asm_leaf D T x,asm11 D T x k11];rw [List.length_map],e'⟩
 by_cases k12:x.k=12
 ·obtain ⟨h1,h2,h3,h4,h5⟩:=hkids.2.2.1 k12;refine (textS12 row col x k12 p cap es s (es.map (textE D T)) W (by omega) ht hb (whole x.t).toNat ⟨h1,h5⟩ (ok.num12 k12) hpW hsl hI2).mono ?_;rintro r w' ⟨rfl,e'⟩;exact ⟨by rw [asm_leaf D T x,asm12 D T x k12];rw [List.length_map],e'⟩
 exact textLeafS row col D T C x p es.length cap es W hg (by omega) (good_refX hg) ⟨k8,k9,k10,k11,k12⟩
end Go.Proofs.YtogecaajnjcenaaGreatDoor

