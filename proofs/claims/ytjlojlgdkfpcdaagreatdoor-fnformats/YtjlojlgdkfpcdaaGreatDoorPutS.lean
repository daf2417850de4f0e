/-
  l1Put.
-/
import Derived.Test.YtjlojlgdkfpcdaaGreatDoorMg12
import Derived.Test.YtjlojlgdkfpcdaaGreatDoorMg14
set_option maxRecDepth 8000
set_option maxHeartbeats 8000000
namespace Go.Proofs.YtjlojlgdkfpcdaaGreatDoor
open Go.RowKit
theorem up_eq {P c:Nat} {more:Bool} {T:Nat} (hT:10 ^ c=T) :
  zAV 0 (decide (P / T % 2=1)) (zCL P c more)=(decide (T<2 * (P % T)) || (decide (2 * (P % T)=T) && (more || decide (P / T % 2=1)))):=by
 have e:∀ (od:Bool) (r:Nat),zAV 0 od r=(decide (r=3) || (decide (r=2) && od)):=fun _ _=>rfl;rw [e];unfold zCL;rw [hT];by_cases h1:T<2 * (P % T)
 ·simp [h1]
 ·by_cases h2:2 * (P % T)=T
  ·cases more <;> simp [h2]
  ·simp only [h1,h2,false_and,or_false,if_false,decide_false,Bool.false_or,Bool.false_and]
   split <;> simp
theorem rnd_up {P c:Nat} {more:Bool} {T:Nat} (hT:10 ^ c=T) (u:Bool) (hu:zAV 0 (decide (P / T % 2=1)) (zCL P c more)=u):rndM 0 P c more=P / T+if u=true then 1 else 0:=by
 unfold rndM;rw [hT,hu]
theorem zU6 {g0 d:Int} {g1:Bool} {g2:Option Addr} {g3 g4:Nat} (h:Value.agg #[iQ g0,.bool g1,.slice g2 g3 g4]=zS d):g0=d:=by
 simp at h;exact h.1
theorem putS {v:Value} {z:Int} (e:Int) (more:Bool) (w:World) (h:ZV w v z) (hz:z ≠ 0) (k:Nat) (hk:k<=1000) (kz:(z.natAbs:Int)<1000000000 ^ k) (e0 : -50000<=e) (e1:e<=50000) :
  Calls Tryz.prog 57 #[v,iQ e,.bool more] w fun r w'=>r=.returned (resV (putR (decide (z<0)) z.natAbs e more))/\Ext w w':=by
 obtain ⟨KK,hKK⟩:∃ K:Nat,K=10000:=⟨_,rfl⟩;obtain ⟨sg,hsg⟩:=nm (decide (z<0));rw [hsg];obtain ⟨P,hP⟩:∃ P:Nat,z.natAbs=P:=⟨_,rfl⟩;rw [hP] at kz ⊢;obtain ⟨R,hR⟩:=nm (putR sg P e more);rw [hR];have HR:Hid (putR sg P e more=R/\P ≠ 0):=⟨hR,by omega⟩;have hN:nd P<=9 * k:=by
  apply zIC;have:((10 ^ (9 * k):Nat):Int)=1000000000 ^ k:=by rw [Int.natCast_pow];exact pow9 k
  omega
 obtain ⟨c0,c1,pa,na,ca,rfl⟩:=h.shape;have NA:Hid (∀ w2,Ext w w2->Calls Tryz.prog 110 #[.agg #[iQ c0,.bool c1,.slice pa na ca]] w2 fun e w'=>e=.returned (.bool sg)/\Ext w2 w'):=fun w2 x=>zAU sg w2 hsg (h.l x);have AB:Hid (∀ w2,Ext w w2->Calls Tryz.prog 111 #[.agg #[iQ c0,.bool c1,.slice pa na ca]] w2 fun e w'=>∃ z0 z1 p n c,e=.returned (.agg #[iQ z0,.bool z1,.slice p n c])/\ZV w' (.agg #[iQ z0,.bool z1,.slice p n c]) P/\Ext w2 w'):=fun w2 x=>by
  refine (zI6 w2 (h.l x)).mono ?_;rintro e w' ⟨v',rfl,hz,hx⟩;rw [hP] at hz;obtain ⟨z0,z1,p,n,c,rfl⟩:=hz.shape;exact ⟨z0,z1,p,n,c,rfl,hz,hx⟩
 have DG:Hid (∀ (w2:World) (v:Value),ZV w2 v P->Calls Tryz.prog 112 #[v] w2 fun e w'=>e=.returned (iQ (nd P))/\Ext w2 w'):=fun w2 v hv=>by
  have:=zJ9 w2 hv (by omega) k (by omega) kz;rw [Int.toNat_natCast] at this;unfold ndZ at this;rw [if_neg HR.out.2] at this;exact this
 have ZR:Hid (∀ (w2:World) (v:Value) (z:Int) (c:Bool),ZV w2 v z->(z == 0)=c->Calls Tryz.prog 113 #[v] w2 fun e w'=>e=.returned (.bool c)/\Ext w2 w'):=fun w2 v z c hv hc=>by
  rw [<- hc];exact zH0 w2 hv
 have DV:Hid (∀ (w2:World) (va vb:Value) (a b:Int),ZV w2 va a->ZV w2 vb b->0<=a->0<b->a<1000000000 ^ KK->b<1000000000 ^ KK->Calls Tryz.prog 114 #[va,vb] w2 fun e w'=>∃ q0 q1 q2 q3 q4 r0 r1 r2 r3 r4,e=.returned (.tuple #[.agg #[iQ q0,.bool q1,.slice q2 q3 q4],.agg #[iQ r0,.bool r1,.slice r2 r3 r4]])/\ZV w' (.agg #[iQ q0,.bool q1,.slice q2 q3 q4]) (a / b)/\ZV w' (.agg #[iQ r0,.bool r1,.slice r2 r3 r4]) (a % b)/\Ext w2 w'):=fun w2 va vb a b ha hb a0 b0 ka kb=>by
  refine (zK9 w2 ha hb a0 b0 KK (by omega) ka kb).mono ?_;rintro e w' ⟨vq,vr,rfl,hq,hr,hx⟩;obtain ⟨q0,q1,q2,q3,q4,rfl⟩:=hq.shape;obtain ⟨r0,r1,r2,r3,r4,rfl⟩:=hr.shape;exact ⟨q0,q1,q2,q3,q4,r0,r1,r2,r3,r4,rfl,hq,hr,hx⟩
 have SM:Hid (∀ (w2:World) (n:Int),0<=n->n<=10->Calls Tryz.prog 58 #[iQ n] w2 fun e w'=>∃ v',e=.returned v'/\ZV w' v' n/\Ext w2 w'):=fun w2 n n0 n1=>zBL n w2 (by omega) (by omega);have AD:Hid (∀ (w2:World) (va vb:Value) (a b:Int),ZV w2 va a->ZV w2 vb b->(a.natAbs:Int)<1000000000 ^ KK->(b.natAbs:Int)<1000000000 ^ KK->Calls Tryz.prog 116 #[va,vb] w2 fun e w'=>∃ z0 z1 p n c,e=.returned (.agg #[iQ z0,.bool z1,.slice p n c])/\ZV w' (.agg #[iQ z0,.bool z1,.slice p n c]) (a+b)/\Ext w2 w'):=fun w2 va vb a b ha hb ka kb=>by
  refine (zMV w2 ha hb KK (by omega) ka kb).mono ?_;rintro e w' ⟨v',rfl,hz,hx⟩;obtain ⟨z0,z1,p,n,c,rfl⟩:=hz.shape;exact ⟨z0,z1,p,n,c,rfl,hz,hx⟩
 have SK:Hid ((1000000000:Int)<=1000000000 ^ KK):=by
  have:=zB8 (show 1<=KK by omega);rw [Int.pow_one] at this;exact this
 have PK:Hid ((P:Int)<1000000000 ^ KK/\nd P<=9 * k):=⟨Int.lt_of_lt_of_le kz (zB8 (by omega)),hN⟩;have TN:Hid (∀ (w2:World),15<nd P->Calls Tryz.prog 93 #[iQ ((nd P:Int) - 15)] w2 fun e w'=>∃ v',e=.returned v'/\ZV w' v' ((10 ^ (nd P - 15):Nat):Int)/\Ext w2 w'):=fun w2 h15=>by
  have e3:((nd P:Int) - 15)=((nd P - 15:Nat):Int):=by omega
  rw [e3,Int.natCast_pow];exact zHF (nd P - 15) w2 (by omega)
 have Ba:=(Box3.made w (iQ c0) (.bool c1) (.slice pa na ca) 103).l (x1 _ (.cells #[.bool false,.bool false,iQ 0,iQ 0] 99));have Br:=Box4.made (w.alloc (.cells #[iQ c0,.bool c1,.slice pa na ca] 103)) (.bool false) (.bool false) (iQ 0) (iQ 0) 99;have X0:=xa (x1 w (.cells #[iQ c0,.bool c1,.slice pa na ca] 103)) (.cells #[.bool false,.bool false,iQ 0,iQ 0] 99);simp only [World.size_alloc] at Br;have HH:=h;clear h kz hsg hP hR hN hz hKK;go_enter Tryz.func57,Tryz.ntmps57;go_wp2_with fail;refine (NA.out _ X0).mono ?_;rintro r w1 ⟨rfl,x1'⟩;have Ba':=Ba.l x1';obtain ⟨⟨p0,p1,p2⟩,_⟩:=Ba';go_wp2_with fail;refine (AB.out _ (xt X0 x1')).mono ?_;rintro r w2 ⟨z0,z1,z2,z3,z4,rfl,hz2,x2'⟩;have B2:=(Ba.l x1').l x2';have ZP:ZIn (set3 w2 w.heap.size (iQ z0) (.bool z1) (.slice z2 z3 z4)) w.heap.size P:=⟨_,_,_,_,_,B2.put _ _ _,hz2.set3 B2 _ _ _⟩;have X2:=Ext.set3 (xt (xt X0 x1') x2') (b:=w.heap.size) (Nat.le_refl _) (iQ z0) (.bool z1) (.slice z2 z3 z4);have Br2:=(Br.l x1').l x2';have Br3:=((Br2.far (p:=⟨w.heap.size,0,none⟩) (show w.heap.size ≠ w.heap.size+1 by omega) (iQ z0)).far (p:=⟨w.heap.size,1,none⟩) (show w.heap.size ≠ w.heap.size+1 by omega) (.bool z1)).far (p:=⟨w.heap.size,2,none⟩) (show w.heap.size ≠ w.heap.size+1 by omega) (.slice z2 z3 z4);obtain ⟨⟨g0,g1,g2⟩,h0,h1,h2⟩:=B2;obtain ⟨u2,hu2⟩:=nm (set3 w2 w.heap.size (iQ z0) (.bool z1) (.slice z2 z3 z4));rw [hu2] at ZP X2;unfold set3 at hu2;rw [hu2] at Br3;have ZP':=ZP;obtain ⟨y0,y1,y2,y3,y4,⟨⟨i0,i1,i2⟩,_⟩,hy⟩:=ZP';clear hz2 NA AB Ba Br Br2 X0 x1' x2' p0 p1 p2;go_wp2_with fail;refine (DG.out _ _ hy).mono ?_;rintro r w3 ⟨rfl,x3'⟩;replace ZP:=ZP.l x3';replace Br3:=Br3.l x3';replace X2:=xt X2 x3';have hy3:=hy.l x3';replace i0:=cell_later x3' i0;replace i1:=cell_later x3' i1;replace i2:=cell_later x3' i2;clear hy g0 g1 g2 h0 h1 h2 hu2 DG x3';go_upto_region 4 with fail;go_cut [29] (fun v wc=>v=.bool (decide (15<nd P))/\Ext w3 wc)
 case first =>
  go_wp2_with fail;refine (ZR.out _ _ _ false hy3 (by rw [beq_eq_false_iff_ne];have:=HR.out.2;omega)).mono ?_;rintro r w4 ⟨rfl,x4'⟩;go_wp2_with fail
  all_goals go_meet
  case rel=>exact ⟨by congr 1;rw [Bool.eq_iff_iff,decide_eq_true_eq,decide_eq_true_eq];omega,x4'⟩
 case rest =>
  obtain ⟨rfl,x4'⟩:=hcut
  rename World=>w4
  replace ZP:=ZP.l x4';replace Br3:=Br3.l x4';replace X2:=xt X2 x4';clear i0 i1 i2 hy3 x4';go_upto_if 29 with fail;go_cut [1] (fun v wc=>∃ (Q:Nat) (f:Int),v=iQ f/\Hid (fitR sg Q f=R/\Q ≠ 0/\Q<=1000000000000000 /\ -60000<=f/\f<=60000)/\ZIn wc w.heap.size Q/\Box4 wc (w.heap.size+1) (.bool false) (.bool false) (iQ 0) (iQ 0)/\Ext w wc)
  case first =>
   by_cases h15:15<nd P
   ·have h15':decide (15<nd P)=true:=decide_eq_true h15;rw [h15'];have ZP':=ZP;obtain ⟨y0,y1,y2,y3,y4,⟨⟨i0,i1,i2⟩,_⟩,hy⟩:=ZP';have k15:(15:Int)<(nd P:Int):=(by omega);have kN:(nd P:Int)<=9000:=(by have:=PK.out.2;omega);obtain ⟨T,hT⟩:∃ T:Nat,10 ^ (nd P - 15)=T:=⟨_,rfl⟩;have T0:0<T:=(by rw [<- hT];exact zA7 _);have TP:T<=P:=(by rw [<- hT];exact zSJ (by omega));have TK:Hid ((T:Int)<1000000000 ^ KK):=by
     have:=PK.out.1;show _<_;omega
    have TN6:Hid (∀ (w2:World),Calls Tryz.prog 93 #[iQ ((nd P:Int) - 15)] w2 fun e w'=>∃ v',e=.returned v'/\ZV w' v' (T:Int)/\Ext w2 w'):=fun w2=>(by rw [<- hT];exact TN.out w2 h15);have qP:P / T<=P:=Nat.div_le_self _ _;have rT:P % T<T:=Nat.mod_lt _ T0;have q00:0<P / T:=Nat.div_pos TP T0;obtain ⟨c,hc⟩:∃ c:Nat,nd P - 15=c:=⟨_,rfl⟩;have hT':=hT;rw [hc] at hT';have UP:=up_eq (P:=P) (more:=more) hT';obtain ⟨u,hu⟩:∃ u:Bool,zAV 0 (decide (P / T % 2=1)) (zCL P c more)=u:=⟨_,rfl⟩;rw [hu] at UP;have RU:=rnd_up hT' u hu;have DVE:Hid ((P:Int) / (T:Int)=((P / T:Nat):Int)/\(P:Int) % (T:Int)=((P % T:Nat):Int)):=⟨(Int.natCast_ediv _ _).symm,(Int.natCast_emod _ _).symm⟩;obtain ⟨q,hq⟩:=nm (P / T);obtain ⟨r,hr⟩:=nm (P % T);rw [hq] at qP q00 UP RU DVE;rw [hr] at rT UP DVE;clear hu hq hr hT';have DV6:Hid (∀ (w2:World) (va vb:Value),ZV w2 va P->ZV w2 vb T->Calls Tryz.prog 114 #[va,vb] w2 fun e w'=>∃ q0 q1 q2 q3 q4 r0 r1 r2 r3 r4,e=.returned (.tuple #[.agg #[iQ q0,.bool q1,.slice q2 q3 q4],.agg #[iQ r0,.bool r1,.slice r2 r3 r4]])/\ZV w' (.agg #[iQ q0,.bool q1,.slice q2 q3 q4]) (q:Int)/\ZV w' (.agg #[iQ r0,.bool r1,.slice r2 r3 r4]) (r:Int)/\Ext w2 w'):=fun w2 va vb h1 h2=>by
     rw [<- DVE.out.1,<- DVE.out.2];exact DV.out w2 va vb P T h1 h2 (by omega) (by omega) PK.out.1 TK.out
    have DV8:Hid (∀ (w2:World) (va vb:Value),ZV w2 va (q:Int)->ZV w2 vb (2:Int)->Calls Tryz.prog 114 #[va,vb] w2 fun e w'=>∃ q0 q1 q2 q3 q4 r0 r1 r2 r3 r4,e=.returned (.tuple #[.agg #[iQ q0,.bool q1,.slice q2 q3 q4],.agg #[iQ r0,.bool r1,.slice r2 r3 r4]])/\ZV w' (.agg #[iQ q0,.bool q1,.slice q2 q3 q4]) ((q / 2:Nat):Int)/\ZV w' (.agg #[iQ r0,.bool r1,.slice r2 r3 r4]) ((q % 2:Nat):Int)/\Ext w2 w'):=fun w2 va vb h1 h2=>by
     rw [Int.natCast_ediv q 2,Int.natCast_emod q 2];exact DV.out w2 va vb _ 2 h1 h2 (by omega) (by omega) (by have:=PK.out.1;omega) (by have:=SK.out;omega)
    have AR:Hid (((r:Int).natAbs:Int)<1000000000 ^ KK/\((q:Int).natAbs:Int)<1000000000 ^ KK/\((1:Int).natAbs:Int)<1000000000 ^ KK):=⟨by have:=TK.out;omega,by have:=PK.out.1;omega,by have:=SK.out;omega⟩;have HUP:=hid UP;obtain ⟨Q,hQ⟩:=nm (q+(if u=true then 1 else 0));have FQ:Hid (fitR sg Q (e+((nd P:Int) - 15))=R/\Q ≠ 0/\Q<=1000000000000000/\(u=true->(q:Int)+1=Q)/\(u=false->q=Q)):=by
     have h1:=RU;rw [hQ] at h1;have h2:=HR.out.1;unfold putR at h2;rw [if_pos h15,hc,h1] at h2;have h3:=zNC (more:=more) h15;rw [hc,h1] at h3;refine ⟨?_,?_,h3,fun h=>?_,fun h=>?_⟩
     ·rw [show e+((nd P:Int) - 15)=e+(c:Int) by omega];exact h2
     ·rw [<- hQ];split <;> omega
     ·rw [<- hQ,if_pos h];omega
     ·rw [<- hQ,if_neg (by rw [h];decide)];omega
    clear hQ UP RU hT h15 h15' TN DV DVE;go_upto_region 6 with fail;go_cut [10,11] (fun v x wc=>∃ bq br,v=.pointer (some ⟨bq,0,none⟩)/\x=.pointer (some ⟨br,0,none⟩)/\Two w4 wc bq br (q:Int) (r:Int))
    case first =>
     have hltb:w.heap.size<w4.heap.size:=World.block_lt_of_cell? _ _ i0;have neb0:w4.heap.size ≠ w.heap.size:=(by omega);have neb1:w4.heap.size+1 ≠ w.heap.size:=(by omega);go_region_held3 (fun w'=>w'.cell? ⟨w.heap.size,0,none⟩=some (iQ y0)/\w'.cell? ⟨w.heap.size,1,none⟩=some (.bool y1)/\w'.cell? ⟨w.heap.size,2,none⟩=some (.slice y2 y3 y4)) (go_keep) (first
      | (go_at_call 93;refine (TN6.out _).mono ?_;rintro rr w4s ⟨vs,rfl,hzs,es⟩;have Xs:Ext w4 w4s:=xt (by first | exact xd (xr _) | exact xd (xa (xr _) _) | exact xd (xa (xa (xr _) _) _)) es;have j0:=cell_later Xs i0;have j1:=cell_later Xs i1;have j2:=cell_later Xs i2;have m0:=World.new_ne w4s _ j0;have m0':w4s.heap.size+1 ≠ w.heap.size:=(by have:=Xs.size;omega);(try have na1:w4s.heap.size ≠ w4.heap.size:=(by have hes:=es.size;(try simp at hes);omega));(try have na2:w4s.heap.size ≠ w4.heap.size+1:=(by have hes:=es.size;(try simp at hes);omega));(try have na3:w4.heap.size ≠ w4s.heap.size:=(by have hes:=es.size;(try simp at hes);omega));(try have na4:w4.heap.size+1 ≠ w4s.heap.size:=(by have hes:=es.size;(try simp at hes);omega)))
      | (go_at_call 114;refine (DV6.out _ _ _ (hy.l (by first | exact Xs | exact xa Xs _ | exact xa (xa Xs _) _)) (by first | exact hzs | exact hzs.l (x1 _ _) | exact hzs.l (xa (x1 _ _) _))).mono ?_;rintro rr w4d ⟨q0,q1,q2,q3,q4,r0,r1,r2,r3,r4,rfl,hqd,hrd,ed⟩;have Xd:Ext w4 w4d:=xt (by first | exact Xs | exact xa Xs _ | exact xa (xa Xs _) _) ed;have k0:=cell_later Xd i0;have k1:=cell_later Xd i1;have k2:=cell_later Xd i2;have m1:=World.new_ne w4d _ k0;have m1':w4d.heap.size+1 ≠ w.heap.size:=(by have:=Xd.size;omega);(try have RA:Box3 w4d (w4.heap.size) (iQ 0) (.bool false) (.slice none 0 0):=(by exact ((Box3.made w4 (iQ 0) (.bool false) (.slice none 0 0) 103).l (xt (by first | exact xd (xr _) | exact xd (xa (xr _) _)) es)).l (xt (by first | exact xr _ | exact xa (xr _) _) ed)));(try have RB:Box3 w4d (w4.heap.size+1) (iQ 0) (.bool false) (.slice none 0 0):=(by have h:=((Box3.made (w4.alloc (.cells #[iQ 0,.bool false,.slice none 0 0] 103)) (iQ 0) (.bool false) (.slice none 0 0) 103).l (xt (xd (xr _)) es)).l ed;simp only [World.size_alloc] at h;exact h));(try have RC:Box3 w4d (w4s.heap.size) (iQ 0) (.bool false) (.slice none 0 0):=(by exact (Box3.made w4s (iQ 0) (.bool false) (.slice none 0 0) 103).l (xt (by first | exact xr _ | exact xa (xr _) _) ed)));(try have RD:Box3 w4d (w4s.heap.size+1) (iQ 0) (.bool false) (.slice none 0 0):=(by have h:=(Box3.made (w4s.alloc (.cells #[iQ 0,.bool false,.slice none 0 0] 103)) (iQ 0) (.bool false) (.slice none 0 0) 103).l ed;simp only [World.size_alloc] at h;exact h));(try have RA':=RA;try obtain ⟨⟨a00,a01,a02⟩,a03,a04,a05⟩:=RA');(try obtain ⟨⟨a10,a11,a12⟩,a13,a14,a15⟩:=RA.up);(try have RB':=RB;try obtain ⟨⟨b00,b01,b02⟩,b03,b04,b05⟩:=RB');(try obtain ⟨⟨b10,b11,b12⟩,b13,b14,b15⟩:=RB.up);(try have RC':=RC;try obtain ⟨⟨c00,c01,c02⟩,c03,c04,c05⟩:=RC');(try obtain ⟨⟨c10,c11,c12⟩,c13,c14,c15⟩:=RC.up);(try have RD':=RD;try obtain ⟨⟨d00,d01,d02⟩,d03,d04,d05⟩:=RD');(try obtain ⟨⟨d10,d11,d12⟩,d13,d14,d15⟩:=RD.up);(try have nb0:w4d.heap.size ≠ w4.heap.size:=(by have hes:=es.size;(try simp at hes);have hed:=ed.size;(try simp at hed);omega));(try have nc0:w4.heap.size ≠ w4d.heap.size:=(by have hes:=es.size;(try simp at hes);have hed:=ed.size;(try simp at hed);omega));(try have nb1:w4d.heap.size ≠ w4.heap.size+1:=(by have hes:=es.size;(try simp at hes);have hed:=ed.size;(try simp at hed);omega));(try have nc1:w4.heap.size+1 ≠ w4d.heap.size:=(by have hes:=es.size;(try simp at hes);have hed:=ed.size;(try simp at hed);omega));(try have nb2:w4d.heap.size ≠ w4s.heap.size:=(by have hed:=ed.size;(try simp at hed);omega));(try have nc2:w4s.heap.size ≠ w4d.heap.size:=(by have hed:=ed.size;(try simp at hed);omega));(try have nb3:w4d.heap.size ≠ w4s.heap.size+1:=(by have hed:=ed.size;(try simp at hed);omega));(try have nc3:w4s.heap.size+1 ≠ w4d.heap.size:=(by have hed:=ed.size;(try simp at hed);omega))))
     all_goals
      have Ss:=Xs.size;have esS:=es.size;have edS:=ed.size
      (try simp at esS)
      (try simp at edS)
      go_wp2_with fail;go_meet
      case rel =>
       first
       | (refine ⟨w4.heap.size,w4.heap.size+1,rfl,rfl,?_⟩;exact two5 (w:=w4d) Xd hqd hrd RA RB (Nat.le_refl _) (Nat.le_succ _) (by omega))
       | (refine ⟨w4.heap.size+1,w4.heap.size,rfl,rfl,?_⟩;exact two5 (w:=w4d) Xd hqd hrd RB RA (Nat.le_succ _) (Nat.le_refl _) (by omega))
       | (refine ⟨w4s.heap.size,w4s.heap.size+1,rfl,rfl,?_⟩;exact two5 (w:=w4d) Xd hqd hrd RC RD Ss (Nat.le_succ_of_le Ss) (by omega))
       | (refine ⟨w4s.heap.size+1,w4s.heap.size,rfl,rfl,?_⟩;exact two5 (w:=w4d) Xd hqd hrd RD RC (Nat.le_succ_of_le Ss) Ss (by omega))
       | (refine ⟨w4.heap.size,w4s.heap.size,rfl,rfl,?_⟩;exact two5 (w:=w4d) Xd hqd hrd RA RC (Nat.le_refl _) Ss (by omega))
       | (refine ⟨w4s.heap.size,w4.heap.size,rfl,rfl,?_⟩;exact two5 (w:=w4d) Xd hqd hrd RC RA Ss (Nat.le_refl _) (by omega))
       | (refine ⟨w4.heap.size,w4d.heap.size,rfl,rfl,?_⟩;exact two3 (w:=w4d) Xd hqd hrd RA (Nat.le_refl _))
       | (refine ⟨w4d.heap.size,w4.heap.size,rfl,rfl,?_⟩;exact two4 (w:=w4d) Xd hqd hrd RA (Nat.le_refl _))
       | (refine ⟨w4s.heap.size,w4d.heap.size,rfl,rfl,?_⟩;exact two3 (w:=w4d) Xd hqd hrd RC Ss)
       | (refine ⟨w4d.heap.size,w4s.heap.size,rfl,rfl,?_⟩;exact two4 (w:=w4d) Xd hqd hrd RC Ss)
       | (refine ⟨w4d.heap.size,w4d.heap.size+1,rfl,rfl,?_⟩;exact two1 (w:=w4d) Xd hqd hrd)
       | (refine ⟨w4d.heap.size+1,w4d.heap.size,rfl,rfl,?_⟩;exact two2 (w:=w4d) Xd hqd hrd)
    case rest =>
     obtain ⟨b10,b11,rfl,rfl,l10,l11,ne10,Z10,Z11,x7⟩:=hcut
     rename World=>w7
     clear i0 i1 i2 hy DV6;have Z11':=Z11;obtain ⟨y0,y1,y2,y3,y4,⟨⟨i0,i1,i2⟩,_⟩,hy⟩:=Z11';go_wp2_with fail;refine (AD.out _ _ _ _ _ hy hy AR.out.1 AR.out.1).mono ?_;rintro rr w8 ⟨z0,z1,z2,z3,z4,rfl,hz8,x8'⟩;go_wp2_with fail;refine (TN6.out _).mono ?_;rintro rr w8' ⟨vt,rfl,hzt,x8''⟩;go_wp2_with fail;refine (zMT _ (hz8.l x8'') hzt).mono ?_;rintro rr w9 ⟨rfl,x9'⟩;obtain ⟨hf,hhf⟩:=nm (cmpI ((r:Int)+(r:Int)) (T:Int));rw [hhf];have HF:Hid ((T<2 * r->hf=1)/\(2 * r=T->hf=0)/\(2 * r<T->hf = -1)):=⟨fun h=>by rw [<- hhf];exact zE2 (by omega),fun h=>by rw [<- hhf,show (r:Int)+(r:Int)=(T:Int) by omega];exact zMU _,fun h=>by rw [<- hhf];exact zEK (by omega)⟩;have X9:=xt (xt x8' x8'') x9';replace Z10:=Z10.l X9;replace x7:=xt x7 X9;clear hhf hz8 hzt x8' x8'' x9' X9 i0 i1 i2 hy Z11 l11 ne10 TN6;have Z10':=Z10;obtain ⟨y0,y1,y2,y3,y4,⟨⟨i0,i1,i2⟩,_⟩,hy⟩:=Z10';go_upto_region 8 with fail;go_cut [13,14] (fun v x wc=>∃ bq br,v=.pointer (some ⟨bq,0,none⟩)/\x=.pointer (some ⟨br,0,none⟩)/\Two w9 wc bq br ((q / 2:Nat):Int) ((q % 2:Nat):Int))
     case first =>
      have hltb:b10<w9.heap.size:=World.block_lt_of_cell? _ _ i0;have neb0:w9.heap.size ≠ b10:=(by omega);have neb1:w9.heap.size+1 ≠ b10:=(by omega);go_region_held3 (fun w'=>w'.cell? ⟨b10,0,none⟩=some (iQ y0)/\w'.cell? ⟨b10,1,none⟩=some (.bool y1)/\w'.cell? ⟨b10,2,none⟩=some (.slice y2 y3 y4)) (go_keep) (first
       | (go_at_call 58;refine (SM.out _ 2 (by decide) (by decide)).mono ?_;rintro rr w9s ⟨vs,rfl,hzs,es⟩;have Xs:Ext w9 w9s:=xt (by first | exact xd (xr _) | exact xd (xa (xr _) _) | exact xd (xa (xa (xr _) _) _)) es;have j0:=cell_later Xs i0;have j1:=cell_later Xs i1;have j2:=cell_later Xs i2;have m0:=World.new_ne w9s _ j0;have m0':w9s.heap.size+1 ≠ b10:=(by have:=Xs.size;omega);(try have na1:w9s.heap.size ≠ w9.heap.size:=(by have hes:=es.size;(try simp at hes);omega));(try have na2:w9s.heap.size ≠ w9.heap.size+1:=(by have hes:=es.size;(try simp at hes);omega));(try have na3:w9.heap.size ≠ w9s.heap.size:=(by have hes:=es.size;(try simp at hes);omega));(try have na4:w9.heap.size+1 ≠ w9s.heap.size:=(by have hes:=es.size;(try simp at hes);omega)))
       | (go_at_call 114;refine (DV8.out _ _ _ (hy.l (by first | exact Xs | exact xa Xs _ | exact xa (xa Xs _) _)) (by first | exact hzs | exact hzs.l (x1 _ _) | exact hzs.l (xa (x1 _ _) _))).mono ?_;rintro rr w9d ⟨q0,q1,q2,q3,q4,r0,r1,r2,r3,r4,rfl,hqd,hrd,ed⟩;have Xd:Ext w9 w9d:=xt (by first | exact Xs | exact xa Xs _ | exact xa (xa Xs _) _) ed;have k0:=cell_later Xd i0;have k1:=cell_later Xd i1;have k2:=cell_later Xd i2;have m1:=World.new_ne w9d _ k0;have m1':w9d.heap.size+1 ≠ b10:=(by have:=Xd.size;omega);(try have RA:Box3 w9d (w9.heap.size) (iQ 0) (.bool false) (.slice none 0 0):=(by exact ((Box3.made w9 (iQ 0) (.bool false) (.slice none 0 0) 103).l (xt (by first | exact xd (xr _) | exact xd (xa (xr _) _)) es)).l (xt (by first | exact xr _ | exact xa (xr _) _) ed)));(try have RB:Box3 w9d (w9.heap.size+1) (iQ 0) (.bool false) (.slice none 0 0):=(by have h:=((Box3.made (w9.alloc (.cells #[iQ 0,.bool false,.slice none 0 0] 103)) (iQ 0) (.bool false) (.slice none 0 0) 103).l (xt (xd (xr _)) es)).l ed;simp only [World.size_alloc] at h;exact h));(try have RC:Box3 w9d (w9s.heap.size) (iQ 0) (.bool false) (.slice none 0 0):=(by exact (Box3.made w9s (iQ 0) (.bool false) (.slice none 0 0) 103).l (xt (by first | exact xr _ | exact xa (xr _) _) ed)));(try have RD:Box3 w9d (w9s.heap.size+1) (iQ 0) (.bool false) (.slice none 0 0):=(by have h:=(Box3.made (w9s.alloc (.cells #[iQ 0,.bool false,.slice none 0 0] 103)) (iQ 0) (.bool false) (.slice none 0 0) 103).l ed;simp only [World.size_alloc] at h;exact h));(try have RA':=RA;try obtain ⟨⟨a00,a01,a02⟩,a03,a04,a05⟩:=RA');(try obtain ⟨⟨a10,a11,a12⟩,a13,a14,a15⟩:=RA.up);(try have RB':=RB;try obtain ⟨⟨b00,b01,b02⟩,b03,b04,b05⟩:=RB');(try obtain ⟨⟨b10,b11,b12⟩,b13,b14,b15⟩:=RB.up);(try have RC':=RC;try obtain ⟨⟨c00,c01,c02⟩,c03,c04,c05⟩:=RC');(try obtain ⟨⟨c10,c11,c12⟩,c13,c14,c15⟩:=RC.up);(try have RD':=RD;try obtain ⟨⟨d00,d01,d02⟩,d03,d04,d05⟩:=RD');(try obtain ⟨⟨d10,d11,d12⟩,d13,d14,d15⟩:=RD.up);(try have nb0:w9d.heap.size ≠ w9.heap.size:=(by have hes:=es.size;(try simp at hes);have hed:=ed.size;(try simp at hed);omega));(try have nc0:w9.heap.size ≠ w9d.heap.size:=(by have hes:=es.size;(try simp at hes);have hed:=ed.size;(try simp at hed);omega));(try have nb1:w9d.heap.size ≠ w9.heap.size+1:=(by have hes:=es.size;(try simp at hes);have hed:=ed.size;(try simp at hed);omega));(try have nc1:w9.heap.size+1 ≠ w9d.heap.size:=(by have hes:=es.size;(try simp at hes);have hed:=ed.size;(try simp at hed);omega));(try have nb2:w9d.heap.size ≠ w9s.heap.size:=(by have hed:=ed.size;(try simp at hed);omega));(try have nc2:w9s.heap.size ≠ w9d.heap.size:=(by have hed:=ed.size;(try simp at hed);omega));(try have nb3:w9d.heap.size ≠ w9s.heap.size+1:=(by have hed:=ed.size;(try simp at hed);omega));(try have nc3:w9s.heap.size+1 ≠ w9d.heap.size:=(by have hed:=ed.size;(try simp at hed);omega))))
      all_goals
       have Ss:=Xs.size;have esS:=es.size;have edS:=ed.size
       (try simp at esS)
       (try simp at edS)
       go_wp2_with fail;go_meet
       case rel =>
        first
        | (refine ⟨w9.heap.size,w9.heap.size+1,rfl,rfl,?_⟩;exact two5 (w:=w9d) Xd hqd hrd RA RB (Nat.le_refl _) (Nat.le_succ _) (by omega))
        | (refine ⟨w9.heap.size+1,w9.heap.size,rfl,rfl,?_⟩;exact two5 (w:=w9d) Xd hqd hrd RB RA (Nat.le_succ _) (Nat.le_refl _) (by omega))
        | (refine ⟨w9s.heap.size,w9s.heap.size+1,rfl,rfl,?_⟩;exact two5 (w:=w9d) Xd hqd hrd RC RD Ss (Nat.le_succ_of_le Ss) (by omega))
        | (refine ⟨w9s.heap.size+1,w9s.heap.size,rfl,rfl,?_⟩;exact two5 (w:=w9d) Xd hqd hrd RD RC (Nat.le_succ_of_le Ss) Ss (by omega))
        | (refine ⟨w9.heap.size,w9s.heap.size,rfl,rfl,?_⟩;exact two5 (w:=w9d) Xd hqd hrd RA RC (Nat.le_refl _) Ss (by omega))
        | (refine ⟨w9s.heap.size,w9.heap.size,rfl,rfl,?_⟩;exact two5 (w:=w9d) Xd hqd hrd RC RA Ss (Nat.le_refl _) (by omega))
        | (refine ⟨w9.heap.size,w9d.heap.size,rfl,rfl,?_⟩;exact two3 (w:=w9d) Xd hqd hrd RA (Nat.le_refl _))
        | (refine ⟨w9d.heap.size,w9.heap.size,rfl,rfl,?_⟩;exact two4 (w:=w9d) Xd hqd hrd RA (Nat.le_refl _))
        | (refine ⟨w9s.heap.size,w9d.heap.size,rfl,rfl,?_⟩;exact two3 (w:=w9d) Xd hqd hrd RC Ss)
        | (refine ⟨w9d.heap.size,w9s.heap.size,rfl,rfl,?_⟩;exact two4 (w:=w9d) Xd hqd hrd RC Ss)
        | (refine ⟨w9d.heap.size,w9d.heap.size+1,rfl,rfl,?_⟩;exact two1 (w:=w9d) Xd hqd hrd)
        | (refine ⟨w9d.heap.size+1,w9d.heap.size,rfl,rfl,?_⟩;exact two2 (w:=w9d) Xd hqd hrd)
     case rest =>
      obtain ⟨b13,b14,rfl,rfl,l13,l14,ne13,Z13,Z14,xa'⟩:=hcut
      rename World=>wa
      replace Z10:=Z10.l xa';have lt10:b10<w9.heap.size:=World.block_lt_of_cell? _ _ i0;replace x7:=xt x7 xa';clear i0 i1 i2 hy DV8 Z13 l13 ne13 xa';have Z14':=Z14;obtain ⟨y0,y1,y2,y3,y4,⟨⟨i0,i1,i2⟩,_⟩,hy⟩:=Z14';go_upto_region 9 with fail;go_cut [64] (fun v wc=>v=.bool u/\Ext wa wc)
      case first =>
       by_cases g1:T<2 * r
       ·obtain rfl:=HF.out.1 g1;have U:u=true:=(by rw [HUP.out];simp [g1]);clear g1;go_wp2_with fail;go_meet
        case rel=>exact ⟨by rw [U],xr _⟩
       ·by_cases g2:2 * r=T
        ·obtain rfl:=HF.out.2.1 g2;cases more
         ·have U:u=decide (q % 2=1):=(by rw [HUP.out];simp [g2]);clear g1 g2;go_wp2_with fail;refine (ZR.out _ _ _ (decide (q % 2=0)) hy (by rw [Bool.eq_iff_iff,beq_iff_eq,decide_eq_true_eq];omega)).mono ?_;rintro rr wb ⟨rfl,xb'⟩;go_wp2_with fail;go_meet
          case rel=>exact ⟨by rw [U];congr 1;rw [Bool.eq_iff_iff];simp,xb'⟩
         ·have U:u=true:=(by rw [HUP.out];simp [g2]);clear g1 g2;go_wp2_with fail;go_meet
          case rel=>exact ⟨by rw [U],xr _⟩
        ·obtain rfl:=HF.out.2.2 (by omega);have U:u=false:=(by rw [HUP.out];simp [g1,g2]);clear g1 g2;go_wp2_with fail;go_meet
         case rel=>exact ⟨by rw [U],xr _⟩
      case rest =>
       obtain ⟨rfl,xb'⟩:=hcut
       rename World=>wb
       replace Z10:=Z10.l xb';replace x7:=xt x7 xb';clear i0 i1 i2 hy Z14 l14 HF HUP ZR xb';go_upto_if 64 with fail;go_cut [] (fun wc=>ZIn wc b10 (Q:Int)/\Ext w4 wc)
       case first =>
        have Z10':=Z10;obtain ⟨y0,y1,y2,y3,y4,⟨⟨i0,i1,i2⟩,j0,j1,j2⟩,hy⟩:=Z10';cases u
        ·have hq:=FQ.out.2.2.2.2 rfl;go_wp2_with fail;go_meet
         case rel=>exact ⟨by rw [<- hq];exact Z10,x7⟩
        ·have hq:=FQ.out.2.2.2.1 rfl;go_upto_region 10 with fail;go_region_with (first
          | (go_at_call 58;refine (SM.out _ 1 (by decide) (by decide)).mono ?_;rintro rr wc ⟨vs,rfl,hzs,es⟩;have Xs:Ext wb wc:=xt (xd (xr _)) es;have k0:=cell_later Xs i0;have k1:=cell_later Xs i1;have k2:=cell_later Xs i2)
          | (go_at_call 116;refine (AD.out _ _ _ _ _ (hy.l Xs) hzs AR.out.2.1 AR.out.2.2).mono ?_;rintro rr wd ⟨q0,q1,q2,q3,q4,rfl,hzd,ed⟩;have Xd:Ext wb wd:=xt Xs ed;have ZZ:=Z10.l Xd;have ZZ':=ZZ;obtain ⟨g0,g1,g2,g3,g4,⟨⟨k0',k1',k2'⟩,jj0,jj1,jj2⟩,_⟩:=ZZ'))
         all_goals
          rw [hq] at hzd;go_wp2_with fail;go_meet
          case rel=>exact ⟨ZZ.put hzd,Ext.set3 (xt x7 Xd) l10 _ _ _⟩
       case rest =>
        obtain ⟨Z10,x7⟩:=hcut
        rename World=>wc
        have ZPc:=ZP.l x7;have Brc:=Br3.l x7;have Xc:=xt X2 x7;have lt0:w.heap.size+1<w4.heap.size:=World.block_lt_of_cell? _ _ Br3.1.1;obtain ⟨y0,y1,y2,y3,y4,⟨⟨i0,i1,i2⟩,_⟩,hy⟩:=Z10;have ZN:=ZPc.put hy;have BN:=((Brc.far (p:=⟨w.heap.size,0,none⟩) (show w.heap.size ≠ w.heap.size+1 by omega) (iQ y0)).far (p:=⟨w.heap.size,1,none⟩) (show w.heap.size ≠ w.heap.size+1 by omega) (.bool y1)).far (p:=⟨w.heap.size,2,none⟩) (show w.heap.size ≠ w.heap.size+1 by omega) (.slice y2 y3 y4);have XN:=Ext.set3 Xc (b:=w.heap.size) (Nat.le_refl _) (iQ y0) (.bool y1) (.slice y2 y3 y4);obtain ⟨g0,g1,g2,g3,g4,⟨⟨h0,h1,h2⟩,j0,j1,j2⟩,_⟩:=ZPc;have ef:Hid (-60000<=e+((nd P:Int) - 15)/\e+((nd P:Int) - 15)<=60000):=(by show _/\_;omega);clear hy Brc Z10;go_wp2_with fail;go_meet
        case rel=>exact ⟨Q,_,rfl,⟨FQ.out.1,FQ.out.2.1,FQ.out.2.2.1,ef.out.1,ef.out.2⟩,ZN,BN,XN⟩
   ·have HRR:Hid (fitR sg P e=R):=(by have:=HR.out.1;unfold putR at this;rw [if_neg h15] at this;exact this);have hp15:P<1000000000000000:=by
     have:=(zE5 P).1;have:=zB3 (show nd P<=15 by omega);have e:(10:Nat) ^ 15=1000000000000000:=(by decide);omega
    have h15':decide (15<nd P)=false:=decide_eq_false h15;rw [h15'];go_wp2_with fail;go_meet
    case rel=>exact ⟨P,e,rfl,⟨HRR.out,HR.out.2,by omega,by omega,by omega⟩,ZP,Br3,X2⟩
  case rest =>
   obtain ⟨Q,f,rfl,HQ,ZQ,BQ,XQ⟩:=hcut
   rename World=>wb
   clear ZP Br3 X2 TN HR;obtain ⟨y0,y1,y2,y3,y4,⟨⟨i0,i1,i2⟩,_⟩,hy⟩:=ZQ;have ZQ:ZIn wb w.heap.size Q:=⟨y0,y1,y2,y3,y4,⟨⟨i0,i1,i2⟩,by assumption⟩,hy⟩;go_wp2_with fail;refine (ZR.out _ _ _ false hy (by rw [beq_eq_false_iff_ne];have:=HQ.out.2.1;omega)).mono ?_;rintro rr wc ⟨rfl,xc'⟩;replace ZQ:=ZQ.l xc';replace BQ:=BQ.l xc';replace XQ:=xt XQ xc';clear i0 i1 i2 hy xc';go_wp2_with fail;go_loopw [1] (fun x wr=>∃ (D:Nat) (y:Int),x=.int .i64 y/\Hid (D ≠ 0/\D<=1000000000000000/\y - f+nd D=nd Q/\zAK D y=zAK Q f)/\ZIn wr w.heap.size D/\Box4 wr (w.heap.size+1) (.bool false) (.bool false) (.int .i64 0) (.int .i64 0)/\Ext w wr) (fun x _=>(100000 - intOf x).toNat)
   case atStart=>exact ⟨Q,f,rfl,⟨HQ.out.2.1,HQ.out.2.2.1,by omega,rfl⟩,ZQ,BQ,XQ⟩
   case round =>
    clear ZQ BQ XQ;obtain ⟨D,y,rfl,HD,ZD,BD,XD⟩:=hrel;have D0:=HD.out.1;have D1:=HD.out.2.1;have nQ:nd Q<=16:=zIC (by have:=HQ.out.2.2.1;omega);have nD:nd D<=16:=zIC (by omega);have y00 : -60016<=y:=(by have:=HD.out.2.2.1;have:=HQ.out.2.2.2.1;omega);have y11:y<=60016:=(by have:=HD.out.2.2.1;have:=HQ.out.2.2.2.2;omega);have DV15:Hid (∀ (w2:World) (va vb:Value),ZV w2 va (D:Int)->ZV w2 vb (10:Int)->Calls Tryz.prog 114 #[va,vb] w2 fun e w'=>∃ q0 q1 q2 q3 q4 r0 r1 r2 r3 r4,e=.returned (.tuple #[.agg #[iQ q0,.bool q1,.slice q2 q3 q4],.agg #[iQ r0,.bool r1,.slice r2 r3 r4]])/\ZV w' (.agg #[iQ q0,.bool q1,.slice q2 q3 q4]) ((D / 10:Nat):Int)/\ZV w' (.agg #[iQ r0,.bool r1,.slice r2 r3 r4]) ((D % 10:Nat):Int)/\Ext w2 w'):=fun w2 va vb h1 h2=>by
     have:=zK9 w2 h1 h2 (by omega) (by omega) 2 (by decide) (by omega) (by omega);refine this.mono ?_;rintro e w' ⟨vq,vr,rfl,hq,hr,hx⟩;obtain ⟨q0,q1,q2,q3,q4,rfl⟩:=hq.shape;obtain ⟨r0,r1,r2,r3,r4,rfl⟩:=hr.shape;exact ⟨q0,q1,q2,q3,q4,r0,r1,r2,r3,r4,rfl,hq,hr,hx⟩
    have ZD':=ZD;obtain ⟨y0,y1,y2,y3,y4,⟨⟨i0,i1,i2⟩,_⟩,hy⟩:=ZD';clear nQ nD DV;go_upto_region 15 with fail;go_cut [15,16] (fun v x wc=>∃ bq br,v=.pointer (some ⟨bq,0,none⟩)/\x=.pointer (some ⟨br,0,none⟩)/\Two wr wc bq br ((D / 10:Nat):Int) ((D % 10:Nat):Int))
    case first =>
     have hltb:w.heap.size<wr.heap.size:=World.block_lt_of_cell? _ _ i0;have neb0:wr.heap.size ≠ w.heap.size:=(by omega);have neb1:wr.heap.size+1 ≠ w.heap.size:=(by omega);go_region_held3 (fun w'=>w'.cell? ⟨w.heap.size,0,none⟩=some (iQ y0)/\w'.cell? ⟨w.heap.size,1,none⟩=some (.bool y1)/\w'.cell? ⟨w.heap.size,2,none⟩=some (.slice y2 y3 y4)) (go_keep) (first
      | (go_at_call 58;refine (SM.out _ 10 (by decide) (by decide)).mono ?_;rintro rr wrs ⟨vs,rfl,hzs,es⟩;have Xs:Ext wr wrs:=xt (by first | exact xd (xr _) | exact xd (xa (xr _) _) | exact xd (xa (xa (xr _) _) _)) es;have j0:=cell_later Xs i0;have j1:=cell_later Xs i1;have j2:=cell_later Xs i2;have m0:=World.new_ne wrs _ j0;have m0':wrs.heap.size+1 ≠ w.heap.size:=(by have:=Xs.size;omega);(try have na1:wrs.heap.size ≠ wr.heap.size:=(by have hes:=es.size;(try simp at hes);omega));(try have na2:wrs.heap.size ≠ wr.heap.size+1:=(by have hes:=es.size;(try simp at hes);omega));(try have na3:wr.heap.size ≠ wrs.heap.size:=(by have hes:=es.size;(try simp at hes);omega));(try have na4:wr.heap.size+1 ≠ wrs.heap.size:=(by have hes:=es.size;(try simp at hes);omega)))
      | (go_at_call 114;refine (DV15.out _ _ _ (hy.l (by first | exact Xs | exact xa Xs _ | exact xa (xa Xs _) _)) (by first | exact hzs | exact hzs.l (x1 _ _) | exact hzs.l (xa (x1 _ _) _))).mono ?_;rintro rr wrd ⟨q0,q1,q2,q3,q4,r0,r1,r2,r3,r4,rfl,hqd,hrd,ed⟩;have Xd:Ext wr wrd:=xt (by first | exact Xs | exact xa Xs _ | exact xa (xa Xs _) _) ed;have k0:=cell_later Xd i0;have k1:=cell_later Xd i1;have k2:=cell_later Xd i2;have m1:=World.new_ne wrd _ k0;have m1':wrd.heap.size+1 ≠ w.heap.size:=(by have:=Xd.size;omega);(try have RA:Box3 wrd (wr.heap.size) (iQ 0) (.bool false) (.slice none 0 0):=(by exact ((Box3.made wr (iQ 0) (.bool false) (.slice none 0 0) 103).l (xt (by first | exact xd (xr _) | exact xd (xa (xr _) _)) es)).l (xt (by first | exact xr _ | exact xa (xr _) _) ed)));(try have RB:Box3 wrd (wr.heap.size+1) (iQ 0) (.bool false) (.slice none 0 0):=(by have h:=((Box3.made (wr.alloc (.cells #[iQ 0,.bool false,.slice none 0 0] 103)) (iQ 0) (.bool false) (.slice none 0 0) 103).l (xt (xd (xr _)) es)).l ed;simp only [World.size_alloc] at h;exact h));(try have RC:Box3 wrd (wrs.heap.size) (iQ 0) (.bool false) (.slice none 0 0):=(by exact (Box3.made wrs (iQ 0) (.bool false) (.slice none 0 0) 103).l (xt (by first | exact xr _ | exact xa (xr _) _) ed)));(try have RD:Box3 wrd (wrs.heap.size+1) (iQ 0) (.bool false) (.slice none 0 0):=(by have h:=(Box3.made (wrs.alloc (.cells #[iQ 0,.bool false,.slice none 0 0] 103)) (iQ 0) (.bool false) (.slice none 0 0) 103).l ed;simp only [World.size_alloc] at h;exact h));(try have RA':=RA;try obtain ⟨⟨a00,a01,a02⟩,a03,a04,a05⟩:=RA');(try obtain ⟨⟨a10,a11,a12⟩,a13,a14,a15⟩:=RA.up);(try have RB':=RB;try obtain ⟨⟨b00,b01,b02⟩,b03,b04,b05⟩:=RB');(try obtain ⟨⟨b10,b11,b12⟩,b13,b14,b15⟩:=RB.up);(try have RC':=RC;try obtain ⟨⟨c00,c01,c02⟩,c03,c04,c05⟩:=RC');(try obtain ⟨⟨c10,c11,c12⟩,c13,c14,c15⟩:=RC.up);(try have RD':=RD;try obtain ⟨⟨d00,d01,d02⟩,d03,d04,d05⟩:=RD');(try obtain ⟨⟨d10,d11,d12⟩,d13,d14,d15⟩:=RD.up);(try have nb0:wrd.heap.size ≠ wr.heap.size:=(by have hes:=es.size;(try simp at hes);have hed:=ed.size;(try simp at hed);omega));(try have nc0:wr.heap.size ≠ wrd.heap.size:=(by have hes:=es.size;(try simp at hes);have hed:=ed.size;(try simp at hed);omega));(try have nb1:wrd.heap.size ≠ wr.heap.size+1:=(by have hes:=es.size;(try simp at hes);have hed:=ed.size;(try simp at hed);omega));(try have nc1:wr.heap.size+1 ≠ wrd.heap.size:=(by have hes:=es.size;(try simp at hes);have hed:=ed.size;(try simp at hed);omega));(try have nb2:wrd.heap.size ≠ wrs.heap.size:=(by have hed:=ed.size;(try simp at hed);omega));(try have nc2:wrs.heap.size ≠ wrd.heap.size:=(by have hed:=ed.size;(try simp at hed);omega));(try have nb3:wrd.heap.size ≠ wrs.heap.size+1:=(by have hed:=ed.size;(try simp at hed);omega));(try have nc3:wrs.heap.size+1 ≠ wrd.heap.size:=(by have hed:=ed.size;(try simp at hed);omega))))
     all_goals
      have Ss:=Xs.size;have esS:=es.size;have edS:=ed.size
      (try simp at esS)
      (try simp at edS)
      go_wp2_with fail;go_meet
      case rel =>
       first
       | (refine ⟨wr.heap.size,wr.heap.size+1,rfl,rfl,?_⟩;exact two5 (w:=wrd) Xd hqd hrd RA RB (Nat.le_refl _) (Nat.le_succ _) (by omega))
       | (refine ⟨wr.heap.size+1,wr.heap.size,rfl,rfl,?_⟩;exact two5 (w:=wrd) Xd hqd hrd RB RA (Nat.le_succ _) (Nat.le_refl _) (by omega))
       | (refine ⟨wrs.heap.size,wrs.heap.size+1,rfl,rfl,?_⟩;exact two5 (w:=wrd) Xd hqd hrd RC RD Ss (Nat.le_succ_of_le Ss) (by omega))
       | (refine ⟨wrs.heap.size+1,wrs.heap.size,rfl,rfl,?_⟩;exact two5 (w:=wrd) Xd hqd hrd RD RC (Nat.le_succ_of_le Ss) Ss (by omega))
       | (refine ⟨wr.heap.size,wrs.heap.size,rfl,rfl,?_⟩;exact two5 (w:=wrd) Xd hqd hrd RA RC (Nat.le_refl _) Ss (by omega))
       | (refine ⟨wrs.heap.size,wr.heap.size,rfl,rfl,?_⟩;exact two5 (w:=wrd) Xd hqd hrd RC RA Ss (Nat.le_refl _) (by omega))
       | (refine ⟨wr.heap.size,wrd.heap.size,rfl,rfl,?_⟩;exact two3 (w:=wrd) Xd hqd hrd RA (Nat.le_refl _))
       | (refine ⟨wrd.heap.size,wr.heap.size,rfl,rfl,?_⟩;exact two4 (w:=wrd) Xd hqd hrd RA (Nat.le_refl _))
       | (refine ⟨wrs.heap.size,wrd.heap.size,rfl,rfl,?_⟩;exact two3 (w:=wrd) Xd hqd hrd RC Ss)
       | (refine ⟨wrd.heap.size,wrs.heap.size,rfl,rfl,?_⟩;exact two4 (w:=wrd) Xd hqd hrd RC Ss)
       | (refine ⟨wrd.heap.size,wrd.heap.size+1,rfl,rfl,?_⟩;exact two1 (w:=wrd) Xd hqd hrd)
       | (refine ⟨wrd.heap.size+1,wrd.heap.size,rfl,rfl,?_⟩;exact two2 (w:=wrd) Xd hqd hrd)
    case rest =>
     obtain ⟨b15,b16,rfl,rfl,l15,l16,ne15,Z15,Z16,x5⟩:=hcut
     rename World=>w5
     have ltr:w.heap.size+1<wr.heap.size:=World.block_lt_of_cell? _ _ BD.1.1;replace ZD:=ZD.l x5;replace BD:=BD.l x5;replace XD:=xt XD x5;clear i0 i1 i2 hy DV15 x5;obtain ⟨y0,y1,y2,y3,y4,⟨⟨i0,i1,i2⟩,_⟩,hy⟩:=Z16;by_cases hm:D % 10=0
     ·go_wp2_with fail;refine (ZR.out _ _ _ true hy (by rw [beq_iff_eq];omega)).mono ?_;rintro rr w6 ⟨rfl,x6⟩;replace ZD:=ZD.l x6;replace BD:=BD.l x6;replace Z15:=Z15.l x6;replace XD:=xt XD x6;obtain ⟨z0,z1,z2,z3,z4,⟨⟨k0,k1,k2⟩,_⟩,hz⟩:=Z15;have ZN:=ZD.put hz;have BN:=((BD.far (p:=⟨w.heap.size,0,none⟩) (show w.heap.size ≠ w.heap.size+1 by omega) (iQ z0)).far (p:=⟨w.heap.size,1,none⟩) (show w.heap.size ≠ w.heap.size+1 by omega) (.bool z1)).far (p:=⟨w.heap.size,2,none⟩) (show w.heap.size ≠ w.heap.size+1 by omega) (.slice z2 z3 z4);have XN:=Ext.set3 XD (b:=w.heap.size) (Nat.le_refl _) (iQ z0) (.bool z1) (.slice z2 z3 z4);obtain ⟨g0,g1,g2,g3,g4,⟨⟨h0,h1,h2⟩,j0,j1,j2⟩,_⟩:=ZD;have HN:Hid (D / 10 ≠ 0/\D / 10<=1000000000000000/\y+1 - f+nd (D / 10)=nd Q/\zAK (D / 10) (y+1)=zAK Q f):=by
       have:=zIX D0;exact ⟨by omega,by omega,by have:=HD.out.2.2.1;omega,by rw [<- zB1 D0 hm];exact HD.out.2.2.2⟩
      clear i0 i1 i2 hy hz BD x6;go_wp2_with fail;go_roundw
      case rel=>exact ⟨D / 10,y+1,rfl,HN.out,ZN,BN,XN⟩
      case measure=>simp [intOf];omega
     ·have HRR:=fit_at (neg:=sg) HQ.out.2.1 (d:=D) (x:=y) (by rw [<- HD.out.2.2.2,zDL hm]);rw [HQ.out.1] at HRR;go_wp2_with fail;refine (ZR.out _ _ _ false hy (by rw [beq_eq_false_iff_ne];omega)).mono ?_;rintro rr w6 ⟨rfl,x6⟩;replace ZD:=ZD.l x6;replace BD:=BD.l x6;replace XD:=xt XD x6;obtain ⟨g0,g1,g2,g3,g4,⟨⟨h0,h1,h2⟩,_⟩,hg⟩:=ZD;have hgs:=(hg.small_of (zBD (by omega) (by omega))).2.2;obtain rfl:g0=(D:Int):=zU6 hgs;obtain ⟨⟨m0,m1,m2,m3⟩,n0,n1,n2,n3⟩:=BD;clear i0 i1 i2 hy x6 hg hgs D0 D1 hm y00 y11 ltr l15 l16 ne15 HD HQ e0 e1 PK SK AD SM ZR;by_cases h1':300<y
      ·rw [if_pos h1'] at HRR;have H:=hid HRR;clear HRR;go_wp2_with fail;exact bodyPost_ret (v:=.agg #[.bool false,.bool false,iQ 0,iQ 0]) (by simp [results,Tryz.results57,go_sem,m0,m1,m2,m3]) rfl ⟨by rw [H.out],xset (xset (xset (xset XD (Nat.le_succ _) _) (Nat.le_succ _) _) (Nat.le_succ _) _) (Nat.le_succ _) _⟩
      ·rw [if_neg h1'] at HRR;by_cases h2':y < -300
       ·rw [if_pos h2'] at HRR;have H:=hid HRR;clear HRR;go_wp2_with fail;exact bodyPost_ret (v:=.agg #[.bool true,.bool false,iQ 0,iQ 0]) (by simp [results,Tryz.results57,go_sem,m0,m1,m2,m3]) rfl ⟨by rw [H.out],xset (xset (xset (xset XD (Nat.le_succ _) _) (Nat.le_succ _) _) (Nat.le_succ _) _) (Nat.le_succ _) _⟩
       ·rw [if_neg h2'] at HRR;have H:=hid HRR;clear HRR;go_wp2_with fail;exact bodyPost_ret (v:=.agg #[.bool true,.bool sg,iQ D,iQ y]) (by simp [results,Tryz.results57,go_sem,m0,m1,m2,m3]) rfl ⟨by rw [H.out],xset (xset (xset (xset XD (Nat.le_succ _) _) (Nat.le_succ _) _) (Nat.le_succ _) _) (Nat.le_succ _) _⟩
end Go.Proofs.YtjlojlgdkfpcdaaGreatDoor

