/-
  Several texts in one: Gs4, Gs7, Fx2.
-/
import Derived.Test.YtogecaajnjcenaaGreatDoorMg31
import Derived.Test.YtogecaajnjcenaaGreatDoorGs6
import Derived.Test.YtogecaajnjcenaaGreatDoorMg25
import Derived.Test.YtogecaajnjcenaaGreatDoorMg12
namespace Go.Proofs.YtogecaajnjcenaaGreatDoor
open Go.RowKit
mutual
theorem sizeE_le (gd:NT→Bool):∀ (e:ET) (many:Bool) (a d:Nat),sizeE gd e many=some (a,d)→a≤cntE e∧d≤cntE e
 | .mk n ks,many,a,d,h=>by
  rw [sizeE] at h
  split at h
  ·split at h
   ·cases h
   ·next a1 d1 h1 =>
    cases h;have:=sizeL_le gd ks _ a1 d1 h1;rw [cntE];omega
  ·cases h
theorem sizeL_le (gd:NT→Bool):∀ (es:List ET) (many:Bool) (a d:Nat),sizeL gd es many=some (a,d)→a≤cntL es∧d≤cntL es
 | [],many,a,d,h=>by rw [sizeL] at h;cases h;omega
 | k :: ks,many,a,d,h=>by
  rw [sizeL] at h
  split at h
  ·cases h
  ·next a1 d1 h1 =>
   split at h
   ·cases h
   ·next a2 d2 h2 =>
    cases h;have:=sizeE_le gd k many a1 d1 h1;have:=sizeL_le gd ks many a2 d2 h2;rw [cntL];omega
end
def sizeUp:Option (Nat × Nat)→Option (Nat × Nat)
 | none=>none
 | some (a,d)=>some (a+1,d+1)
def sizeAdd (a d:Nat):Option (Nat × Nat)→Option (Nat × Nat)
 | none=>none
 | some (a',d')=>some (a+a',max d d')
theorem sizeE_eq (gd:NT→Bool) (n:NT) (ks:List ET) (many:Bool):sizeE gd (.mk n ks) many=if rightE gd (.mk n ks) many then sizeUp (sizeL gd ks (decide (n.k=11) && decide (1<ks.length))) else none:=by
 rw [sizeE]
 split
 ·cases sizeL gd ks (decide (n.k=11) && decide (1<ks.length)) with
  | none=>rfl
  | some q=>rfl
 ·rfl
theorem sizeL_fail {gd:NT→Bool} {many:Bool} {es:List ET} {j:Nat} (h:sizeL gd (es.take (j+1)) many=none):sizeL gd es many=none:=by
 have:=sizeL_append gd many (es.take (j+1)) (es.drop (j+1));rw [List.take_append_drop,h] at this;exact this
theorem sizeL_step {gd:NT→Bool} {many:Bool} {es:List ET} {j:Nat} {e:ET} (he:es[j]?=some e) {a d:Nat} (h:sizeL gd (es.take j) many=some (a,d)) :
  sizeL gd (es.take (j+1)) many=sizeAdd a d (sizeE gd e many):=by
 have:es.take (j+1)=es.take j++[e]:=by rw [List.take_add_one,he];rfl
 rw [this,sizeL_append,h,sizeL];cases sizeE gd e many with
 | none=>rfl
 | some q=>obtain ⟨a',d'⟩:=q;rw [sizeL];simp [sizeAdd]
def sizeV:Option (Nat × Nat)→Value
 | none=>.tuple #[.int .i64 0,.int .i64 0,.bool false]
 | some (a,d)=>.tuple #[.int .i64 (a:Int),.int .i64 (d:Int),.bool true]
theorem maxS4 (a b:Nat) (w:World):Calls Tryz.prog 64 #[.int .i64 (a:Int),.int .i64 (b:Int)] w fun e w'=>e=.returned (.int .i64 ((max a b:Nat):Int))∧w'=w:=by
 by_cases h:(a:Int)<(b:Int)
 ·rw [Nat.max_eq_right (by omega)];have h':(b:Int) > (a:Int):=h;have h2:¬ (a:Int) > (b:Int):=by omega
  go_enter Tryz.func64,Tryz.ntmps64;go_wp2_with fail;go_ret;exact ⟨rfl,rfl⟩
 ·by_cases h2:(b:Int)<(a:Int)
  ·rw [Nat.max_eq_left (by omega)];go_enter Tryz.func64,Tryz.ntmps64;go_wp2_with fail;go_ret;exact ⟨rfl,rfl⟩
  ·obtain rfl:a=b:=by omega
   rw [Nat.max_self];go_enter Tryz.func64,Tryz.ntmps64;go_wp2_with fail;go_ret;exact ⟨rfl,rfl⟩
set_option maxRecDepth 8000 in
set_option maxHeartbeats 4000000 in
theorem sizeSE {w:World} {U:Nat→Prop} (hU:∀ k,U k→k<w.heap.size) {v:Value} {es:List ET} (h:KidsS w U v es):∀ (x:NT) (many:Bool) (W:World),Ext w W→x.t.length≤1048576→allL (fun n=>n.t.length≤1048576) es→cntL es≤1000000 →
  Calls Tryz.prog 49 #[x.ex v,.bool many] W fun r w'=>r=.returned (sizeV (sizeE NT.good (.mk x es) many))∧Ext W w':=by
 induction h with
 | mk p cap es s hc hp hk ih =>
 intro x many W XW hx hall hcnt;obtain ⟨XN0,hXN⟩:∃ q,q=x:=⟨_,rfl⟩;have HR:Hid (∀ W',Ext W W'→Calls Tryz.prog 63 #[x.ex (.slice p es.length cap),.bool many] W' fun e w'=>e=.returned (.bool (rightE NT.good (.mk x es) many))∧Ext W' w'):=fun W' X'=>rightAllS x p cap es U many W' hx ((KidsS.mk p cap es s hc hp hk).later hU (xt XW X')) (fun k hk'=>Nat.lt_of_lt_of_le (hU k hk') (xt XW X').size);have HIH:Hid (∀ (i:Nat) (e:ET),es[i]?=some e→∀ (many:Bool) (W':World),Ext W W'→Calls Tryz.prog 49 #[e.n.ex (s i),.bool many] W' fun r w'=>r=.returned (sizeV (sizeE NT.good e many))∧Ext W' w'):=fun i e hi mny W' X'=>by
  have ha:=allL_get hall hi;have hc':=cntL_get hi;obtain ⟨n,ks⟩:=e;rw [cntE] at hc';exact ih i (.mk n ks) hi n mny W' (xt XW X') ha.1 ha.2 (by show cntL ks≤_;omega)
 have HP:Hid _:=hp;have HSL:Hid (∀ (i:Nat) (e:ET),es[i]?=some e→∃ pk nk ck,s i=.slice pk nk ck):=fun i e hi=>by obtain ⟨q1,q2,q3,_⟩:=(hk i e hi).slice;exact ⟨_,_,_,q3⟩
 have SE:sizeE NT.good (.mk x es) many=(if rightE NT.good (.mk x es) many then sizeUp (sizeL NT.good es (decide (x.k=11) && decide (1<es.length))) else none):=sizeE_eq _ _ _ _;obtain ⟨rb,hrb⟩:∃ q,rightE NT.good (.mk x es) many=q:=⟨_,rfl⟩;rw [hrb] at HR SE;obtain ⟨kk,hkk⟩:∃ q,es.length=q:=⟨_,rfl⟩;rw [hkk] at HR SE HP ⊢;have HKK:Hid _:=hkk;have hkb:kk≤1000000:=by have:=len_cntL es;omega
 obtain ⟨SZ,hSZ⟩:∃ q,sizeE NT.good (.mk x es) many=q:=⟨_,rfl⟩;have HSE:Hid ((if rb then sizeUp (sizeL NT.good es (decide (x.k=11) && decide (1<kk))) else none)=SZ):=by show _=_;rw [← hSZ,SE]
 rw [hSZ];have HCN:Hid _:=hcnt;have HXW:Hid _:=XW;clear SE hSZ hrb hkk hp hk ih hc hall hcnt hx XW XN0 hXN;obtain ⟨xk,xt',xn,xd',xx,xr',xc,xf,xg,xr2,xc2,xf2,xg2,xq⟩:=x;have XB:=x1 W (.cells (NT.exL ⟨xk,xt',xn,xd',xx,xr',xc,xf,xg,xr2,xc2,xf2,xg2,xq⟩ (.slice p kk cap)).toArray 55);have VB:=vec_made W (NT.exL ⟨xk,xt',xn,xd',xx,xr',xc,xf,xg,xr2,xc2,xf2,xg2,xq⟩ (.slice p kk cap)) 55;obtain ⟨wa,ha⟩:∃ q,W.alloc (.cells (NT.exL ⟨xk,xt',xn,xd',xx,xr',xc,xf,xg,xr2,xc2,xf2,xg2,xq⟩ (.slice p kk cap)).toArray 55)=q:=⟨_,rfl⟩;rw [ha] at XB VB;have VRB:wa.rangeAt W.heap.size 0 (NT.exL ⟨xk,xt',xn,xd',xx,xr',xc,xf,xg,xr2,xc2,xf2,xg2,xq⟩ (.slice p kk cap)):=fun j u hu=>by rw [Nat.zero_add];exact (VB j u hu).1
 go_enter Tryz.func49,Tryz.ntmps49;go_wp2_with (refine wpList_load_mid rfl 55 (.tmp 2) rfl W.heap.size 0 rfl (NT.exL ⟨xk,xt',xn,xd',xx,xr',xc,xf,xg,xr2,xc2,xf2,xg2,xq⟩ (.slice p kk cap)) _ VRB Tryz.underlying55 rfl hi15E ?_);refine (HR.out wa XB).mono ?_;rintro e w1 ⟨rfl,e1⟩;have V1:=VB.later e1;have Y1:=xt XB e1;clear HR;cases rb
 ·have HE:Hid (none=SZ):=HSE.out;clear HSE VRB VB;go_wp2_with fail;exact bodyPost_ret (v:=.tuple #[.int .i64 0,.int .i64 0,.bool false]) (by simp [results,Tryz.results49,go_sem]) rfl ⟨by rw [← HE.out];rfl,Y1⟩
 ·have c14:=(V1 14 _ rfl).1;have HL0:Hid (Ext w1 w1∧sizeL NT.good (es.take 0) (decide (xk=11) && decide (1<kk))=some (0,0)):=⟨xr _,by rw [List.take_zero,sizeL]⟩;clear VRB VB;go_wp2_with fail;clear c14;go_loopw [7,8,21] (fun nv dv i wr=>∃ j a d:Nat,j≤kk∧i=.int .i64 j∧nv=.int .i64 ((a+1:Nat):Int)∧dv=.int .i64 (d:Int)∧a≤1000000∧d≤1000000∧Hid (Ext w1 wr∧sizeL NT.good (es.take j) (decide (xk=11) && decide (1<kk))=some (a,d))) (fun _ _ i _=>kk - (intOf i).toNat)
  case atStart=>exact ⟨0,0,0,by omega,rfl,rfl,rfl,by omega,by omega,HL0⟩
  case round =>
   obtain ⟨j,a,d,hj,rfl,rfl,rfl,ha1,hd1,HO⟩:=hrel;by_cases hlt:j<kk
   ·have i2:(j:Int)<(kk:Int):=(by omega);obtain ⟨e,he⟩:∃ e,es[j]?=some e:=⟨_,List.getElem?_eq_getElem (by rw [HKK.out];exact hlt)⟩;obtain ⟨g,rfl,_,hcell⟩:=HP.out (by omega);obtain ⟨pk,nk,ck,hsk⟩:=HSL.out j e he;have HEL:Hid _:=he;obtain ⟨⟨ek,et,en,ed,ex,er,ec,ef,eg,er2,ec2,ef2,eg2,eq⟩,ekids⟩:=e;have CI:=HIH.out j _ he;rw [hsk] at CI;have HRA:wr.rangeAt g (j * 15) (NT.exL ⟨ek,et,en,ed,ex,er,ec,ef,eg,er2,ec2,ef2,eg2,eq⟩ (.slice pk nk ck)):=fun c u hu=>by
     have:=hcell j _ he c u (by rw [hsk];exact hu);exact cell_later (xt (xt HXW.out Y1) HO.out.1) this
    have VX:=V1.later HO.out.1;obtain ⟨wz,hz9,XZ,VZ,-⟩:=boxed wr [.int .i64 0,.string ⟨#[]⟩,.bool false,.int .i64 0,.int .i64 0,.int .i64 0,.int .i64 0,.bool false,.bool false,.int .i64 0,.int .i64 0,.bool false,.bool false,.int .i64 0,.slice none 0 0] 55;have VT:=VZ.there;have VR:=World.rangeAt_setCells_same wz wr.heap.size 0 (NT.exL ⟨ek,et,en,ed,ex,er,ec,ef,eg,er2,ec2,ef2,eg2,eq⟩ (.slice pk nk ck)) VT;have XR:=Ext.setCells (b:=wr.heap.size) (Nat.le_refl _) (NT.exL ⟨ek,et,en,ed,ex,er,ec,ef,eg,er2,ec2,ef2,eg2,eq⟩ (.slice pk nk ck)) 0 wz XZ;obtain ⟨w5,h5⟩:∃ q,wz.setCells wr.heap.size 0 (NT.exL ⟨ek,et,en,ed,ex,er,ec,ef,eg,er2,ec2,ef2,eg2,eq⟩ (.slice pk nk ck))=q:=⟨_,rfl⟩;rw [h5] at VR XR;have VX5:=VX.later XR;have n0:=(VX5 0 _ rfl).1;have n14:=(VX5 14 _ rfl).1;have one:((NT.exL ⟨ek,et,en,ed,ex,er,ec,ef,eg,er2,ec2,ef2,eg2,eq⟩ (.slice pk nk ck)).toArray).all (·.oneCell')=true:=(by simp [Value.oneCell']);have CE:=cntL_get he;obtain ⟨mb,hmb⟩:∃ q,(decide (xk=11) && decide (1<kk))=q:=⟨_,rfl⟩;have HMB:Hid _:=hmb;have CC:Calls Tryz.prog 49 #[NT.ex ⟨ek,et,en,ed,ex,er,ec,ef,eg,er2,ec2,ef2,eg2,eq⟩ (.slice pk nk ck),.bool mb] w5 fun r w'=>r=.returned (sizeV (sizeE NT.good (.mk ⟨ek,et,en,ed,ex,er,ec,ef,eg,er2,ec2,ef2,eg2,eq⟩ ekids) mb))∧Ext w5 w':=CI mb w5 (xt (xt Y1 HO.out.1) XR);have HST:=sizeL_step (gd:=NT.good) (many:=mb) HEL.out (by rw [← hmb];exact HO.out.2);obtain ⟨sz,hsz⟩:∃ q,sizeE NT.good (.mk ⟨ek,et,en,ed,ex,er,ec,ef,eg,er2,ec2,ef2,eg2,eq⟩ ekids) mb=q:=⟨_,rfl⟩;rw [hsz] at CC HST;have HSB:Hid (∀ a' d',sz=some (a',d')→a+a'≤1000000∧max d d'≤1000000):=fun a' d' hq=>by
     rw [hq] at HST;have:=sizeL_le NT.good _ _ _ _ HST;have:=cntL_take es (j+1);have:=HCN.out;omega
    have HST:Hid _:=HST;clear he hsk CI hcell VX VZ XZ hsz CE HEL hmb;by_cases k11:xk=11
    all_goals
     by_cases kk1:1<kk
    all_goals
     have hq1:mb=(decide (xk=11) && decide (1<kk)):=HMB.out.symm
     first | rw [decide_eq_true k11] at hq1 | rw [decide_eq_false k11] at hq1
     first | rw [decide_eq_true kk1] at hq1 | rw [decide_eq_false kk1] at hq1
     have hk1:((xk:Int) == 11)=decide (xk=11):=by by_cases h:xk=11 <;> simp [h]
     first | rw [decide_eq_true k11] at hk1 | rw [decide_eq_false k11] at hk1
     have hk2:decide (1<(kk:Int))=decide (1<kk):=by by_cases h:1<kk <;> simp [h] <;> omega
     first | rw [decide_eq_true kk1] at hk2 | rw [decide_eq_false kk1] at hk2
     have CC2:=CC;rw [hq1] at CC2;clear CC k11;go_wp2_with (first | (refine wpList_load_mid rfl 55 (.tmp 23) rfl g (j * 15) rfl (NT.exL ⟨ek,et,en,ed,ex,er,ec,ef,eg,er2,ec2,ef2,eg2,eq⟩ (.slice pk nk ck)) _ HRA Tryz.underlying55 rfl hi15E ?_) | (refine wpList_store_mid rfl _ _ _ rfl wr.heap.size 0 (NT.exL ⟨ek,et,en,ed,ex,er,ec,ef,eg,er2,ec2,ef2,eg2,eq⟩ (.slice pk nk ck)).toArray rfl rfl VT hi15E one ?_;show wpList _ _ _ _ _ (wz.setCells wr.heap.size 0 (NT.exL ⟨ek,et,en,ed,ex,er,ec,ef,eg,er2,ec2,ef2,eg2,eq⟩ (.slice pk nk ck)));rw [h5];go_frame) | (refine wpList_load_mid rfl 55 (.tmp 10) rfl wr.heap.size 0 rfl (NT.exL ⟨ek,et,en,ed,ex,er,ec,ef,eg,er2,ec2,ef2,eg2,eq⟩ (.slice pk nk ck)) _ VR Tryz.underlying55 rfl hi15E ?_));refine CC2.mono ?_;rintro e w6 ⟨rfl,e6⟩;have Y6:=xt (xt HO.out.1 XR) e6;cases sz with
     | none =>
      have HE:Hid (none=SZ):=by
       show _=_;have hf:sizeL NT.good es (decide (xk=11) && decide (1<kk))=none:=(by rw [HMB.out];exact sizeL_fail (j:=j) HST.out);rw [← HSE.out];simp [hf,sizeUp]
      clear HO HRA VR VT XR CC2 VX5 n0 n14 HST HSB;simp only [sizeV];go_wp2_with fail;exact bodyPost_ret (v:=.tuple #[.int .i64 0,.int .i64 0,.bool false]) (by simp [results,Tryz.results49,go_sem]) rfl ⟨by rw [← HE.out];rfl,xt Y1 Y6⟩
     | some ad =>
      obtain ⟨a',d'⟩:=ad;have HB2:=HSB.out a' d' rfl;have HM:Hid (Ext w1 w6∧sizeL NT.good (es.take (j+1)) (decide (xk=11) && decide (1<kk))=some (a+a',max d d')):=⟨Y6,by rw [HMB.out];exact HST.out⟩;obtain ⟨dm,hdm⟩:∃ q,max d d'=q:=⟨_,rfl⟩;have MX:∀ W',Calls Tryz.prog 64 #[.int .i64 (d:Int),.int .i64 (d':Int)] W' fun e w'=>e=.returned (.int .i64 (dm:Int))∧w'=W':=fun W'=>(by rw [← hdm];exact maxS4 d d' W');rw [hdm] at HM HB2;clear HO HRA VR VT XR CC2 VX5 n0 n14 HST HSB hdm;simp only [sizeV];have hs1:IntKind.i64.wrap (((a+1:Nat):Int)+(a':Int))=((a+a'+1:Nat):Int):=(by rw [IntKind.wrap_i64] <;> omega);go_wp2_with (go_at_call 64;refine (MX _).mono ?_;rintro e w7 ⟨rfl,rfl⟩);go_roundw
      case rel=>exact ⟨j+1,a+a',dm,by omega,by go_num,by go_num,rfl,by omega,by omega,HM⟩
      case measure=>simp [intOf];omega
   ·obtain rfl:j=kk:=(by omega);have i2:¬ (j:Int)<(j:Int):=(by omega);have HE:Hid (some (a+1,d+1)=SZ):=by
     show _=_;have hf:=HO.out.2;rw [← HKK.out,List.take_length,HKK.out] at hf;rw [← HSE.out];simp [hf,sizeUp]
    have Y3:=HO.out.1;clear HO;go_wp2_with fail;exact bodyPost_ret (v:=sizeV (some (a+1,d+1))) (by simp [results,Tryz.results49,go_sem,sizeV]) rfl ⟨by rw [← HE.out],xt Y1 Y3⟩
theorem cntL_append:∀ (a b:List ET),cntL (a++b)=cntL a+cntL b
 | [],b=>by rw [List.nil_append,cntL];omega
 | k :: a,b=>by rw [List.cons_append,cntL,cntL,cntL_append a b];omega
theorem allL_append {P:NT→Prop}:∀ (a b:List ET),allL P a→allL P b→allL P (a++b)
 | [],_,_,h=>h
 | _ :: a,b,ha,h=>⟨ha.1,allL_append a b ha.2 h⟩
theorem manyF_cnt {g:List NT→Option (ET × List NT)} (hg:∀ l t r,g l=some (t,r)→cntE t+r.length=l.length):∀ (m:Nat) (l:List NT) (ks:List ET) (r:List NT),manyF g m l=some (ks,r)→cntL ks+r.length=l.length
 | 0,l,ks,r,h=>by cases h;rw [cntL];omega
 | m+1,l,ks,r,h=>by
  rw [manyF] at h
  split at h
  ·cases h
  ·next ks1 r1 h1 =>
   split at h
   ·cases h
   ·next k r2 h2 =>
    cases h;have a:=manyF_cnt hg m l ks1 r1 h1;have b:=hg _ _ _ h2;rw [cntL_append,cntL,cntL];omega
theorem take_cnt:∀ (F:Nat) (l:List NT) (t:ET) (r:List NT),takeF F l=some (t,r)→cntE t+r.length=l.length
 | 0,_,_,_,h=>by cases h
 | F+1,[],_,_,h=>by cases h
 | F+1,n :: rest,t,r,h=>by
  rw [takeF] at h
  split at h
  ·split at h
   ·cases h
   ·next ks r1 h1 =>
    cases h;have a:=manyF_cnt (take_cnt F) _ _ _ _ h1;rw [cntE,List.length_cons];omega
  ·cases h
theorem manyF_all {P:NT→Prop} {g:List NT→Option (ET × List NT)} (hg:∀ l t r,(∀ x ∈ l,P x)→g l=some (t,r)→allE P t∧∀ x ∈ r,P x):∀ (m:Nat) (l:List NT) (ks:List ET) (r:List NT),(∀ x ∈ l,P x)→manyF g m l=some (ks,r)→allL P ks∧∀ x ∈ r,P x
 | 0,l,ks,r,hl,h=>by cases h;exact ⟨trivial,hl⟩
 | m+1,l,ks,r,hl,h=>by
  rw [manyF] at h
  split at h
  ·cases h
  ·next ks1 r1 h1 =>
   split at h
   ·cases h
   ·next k r2 h2 =>
    cases h;have a:=manyF_all hg m l ks1 r1 hl h1;have b:=hg _ _ _ a.2 h2;exact ⟨allL_append _ _ a.1 ⟨b.1,trivial⟩,b.2⟩
theorem take_all {P:NT→Prop}:∀ (F:Nat) (l:List NT) (t:ET) (r:List NT),(∀ x ∈ l,P x)→takeF F l=some (t,r)→allE P t∧∀ x ∈ r,P x
 | 0,_,_,_,_,h=>by cases h
 | F+1,[],_,_,_,h=>by cases h
 | F+1,n :: rest,t,r,hl,h=>by
  rw [takeF] at h
  split at h
  ·split at h
   ·cases h
   ·next ks r1 h1 =>
    cases h;have a:=manyF_all (take_all F) _ _ _ _ (fun x hx=>hl x (List.mem_cons_of_mem _ hx)) h1;exact ⟨⟨hl n List.mem_cons_self,a.1⟩,a.2⟩
  ·cases h
def goodO:Option (Nat × Nat)→Bool
 | some (n,d)=>decide (n≤300) && decide (d≤40)
 | none=>false
noncomputable def goodTB (t:ET):Bool:=goodO (sizeE NT.good t false)
theorem goodSF_take {f:List NT} {t:ET} (h0:1≤f.length) (h1:f.length≤300) (h:takeF 41 f=some (t,[])):goodSF NT.good f=goodTB t:=by
 unfold goodSF goodTB;rw [h,decide_eq_true h0,decide_eq_true h1];show (true && true && (match sizeE NT.good t false with
  | some (n,d)=>decide (n≤300) && decide (d≤40)
  | none=>false))=_
 cases sizeE NT.good t false with
 | none=>rfl
 | some q=>obtain ⟨a,b⟩:=q;rfl
theorem goodSF_none {f:List NT} (h:∀ t,takeF 41 f ≠ some (t,[])):goodSF NT.good f=false:=by
 unfold goodSF;cases ht:takeF 41 f with
 | none=>simp
 | some q =>
  obtain ⟨t,r⟩:=q;cases r with
  | nil=>exact absurd ht (h t)
  | cons a r=>simp
theorem goodSF_long {f:List NT} (h:f.length=0∨300<f.length):goodSF NT.good f=false:=by
 unfold goodSF
 rcases h with h | h
 ·rw [decide_eq_false (show ¬ 1≤f.length by omega)];rfl
 ·rw [decide_eq_false (show ¬ f.length≤300 by omega),Bool.and_false,Bool.false_and]
theorem OnlyT.setCells {b:Nat} {w w':World} (h:OnlyT b w w') (us:List Value) (o:Nat):OnlyT b w (w'.setCells b o us):=by
 induction us generalizing o w' with
 | nil=>exact h
 | cons u us ih=>exact ih (h.set u) (o+1)
set_option maxRecDepth 8000 in
set_option maxHeartbeats 4000000 in
theorem goodTS {W:World} {U:Nat→Prop} (hU:∀ k,U k→k<W.heap.size) {v:Value} {es:List ET} (h:KidsS W U v es) (x:NT) (hx:x.t.length≤1048576) (ha:allL (fun n=>n.t.length≤1048576) es) (hc:cntL es≤1000000) :
  Calls Tryz.prog 33 #[x.ex v] W fun r w'=>r=.returned (.bool (goodTB (.mk x es)))∧Ext W w':=by
 have HS:Hid (∀ W',Ext W W'→Calls Tryz.prog 49 #[x.ex v,.bool false] W' fun r w'=>r=.returned (sizeV (sizeE NT.good (.mk x es) false))∧Ext W' w'):=fun W' X=>sizeSE hU h x false W' X hx ha hc;unfold goodTB;obtain ⟨SZ,hSZ⟩:∃ q,sizeE NT.good (.mk x es) false=q:=⟨_,rfl⟩;rw [hSZ] at HS ⊢;obtain ⟨p,cap,rfl,_⟩:=h.slice;obtain ⟨kk,hkk⟩:∃ q,es.length=q:=⟨_,rfl⟩;rw [hkk] at HS ⊢;clear hkk hSZ h ha hc hx;obtain ⟨xk,xt',xn,xd',xx,xr',xc,xf,xg,xr2,xc2,xf2,xg2,xq⟩:=x;have XB:=x1 W (.cells (NT.exL ⟨xk,xt',xn,xd',xx,xr',xc,xf,xg,xr2,xc2,xf2,xg2,xq⟩ (.slice p kk cap)).toArray 55);have VB:=vec_made W (NT.exL ⟨xk,xt',xn,xd',xx,xr',xc,xf,xg,xr2,xc2,xf2,xg2,xq⟩ (.slice p kk cap)) 55;obtain ⟨wa,ha⟩:∃ q,W.alloc (.cells (NT.exL ⟨xk,xt',xn,xd',xx,xr',xc,xf,xg,xr2,xc2,xf2,xg2,xq⟩ (.slice p kk cap)).toArray 55)=q:=⟨_,rfl⟩;rw [ha] at XB VB;have VRB:wa.rangeAt W.heap.size 0 (NT.exL ⟨xk,xt',xn,xd',xx,xr',xc,xf,xg,xr2,xc2,xf2,xg2,xq⟩ (.slice p kk cap)):=fun j u hu=>by rw [Nat.zero_add];exact (VB j u hu).1
 go_enter Tryz.func33,Tryz.ntmps33;go_wp2_with (refine wpList_load_mid rfl 55 (.tmp 1) rfl W.heap.size 0 rfl (NT.exL ⟨xk,xt',xn,xd',xx,xr',xc,xf,xg,xr2,xc2,xf2,xg2,xq⟩ (.slice p kk cap)) _ VRB Tryz.underlying55 rfl hi15E ?_);refine (HS.out wa XB).mono ?_;rintro e w1 ⟨rfl,e1⟩;have Y1:=xt XB e1;clear HS VRB VB ha;cases SZ with
 | none =>
  rw [show sizeV none=Value.tuple #[.int .i64 0,.int .i64 0,.bool false] from rfl];go_wp2_with fail;go_ret;exact ⟨rfl,Y1⟩
 | some q =>
  obtain ⟨n,d⟩:=q;rw [show sizeV (some (n,d))=Value.tuple #[.int .i64 (n:Int),.int .i64 (d:Int),.bool true] from rfl];by_cases hn:n≤300
  ·have i1:(n:Int)≤300:=by omega
   by_cases hd:d≤40
   ·have i2:(d:Int)≤40:=(by omega);have HG:Hid (goodO (some (n,d))=true):=(by show (decide (n≤300) && decide (d≤40))=true;simp [hn,hd]);go_wp2_with fail;go_ret;exact ⟨by rw [HG.out];rfl,Y1⟩
   ·have i2:¬ (d:Int)≤40:=(by omega);have i3:decide ((d:Int)≤40)=false:=decide_eq_false i2;have HG:Hid (goodO (some (n,d))=false):=(by show (decide (n≤300) && decide (d≤40))=false;simp [hd]);go_wp2_with fail;go_ret;exact ⟨by rw [HG.out];rfl,Y1⟩
  ·have i1:¬ (n:Int)≤300:=by omega
   have i3:decide ((n:Int)≤300)=false:=decide_eq_false i1;have HG:Hid (goodO (some (n,d))=false):=by show (decide (n≤300) && decide (d≤40))=false;simp [hn]
   go_wp2_with fail;go_ret;exact ⟨by rw [HG.out];rfl,Y1⟩
def OkE (e:ET):Prop:=∃ many s,sizeE NT.good e many=some s
theorem sizeL_each {gd:NT→Bool} {many:Bool}:∀ {ks:List ET} {s:Nat × Nat},sizeL gd ks many=some s→∀ k ∈ ks,∃ s',sizeE gd k many=some s'
 | k :: ks,s,h,x,hx=>by
  rw [sizeL] at h
  split at h
  ·cases h
  ·next a b h1 =>
   split at h
   ·cases h
   ·next c d h2 =>
    rcases List.mem_cons.1 hx with rfl | hx
    ·exact ⟨_,h1⟩
    ·exact sizeL_each h2 x hx
theorem OkE.right {x:NT} {ks:List ET} (h:OkE (.mk x ks)):x.good=true∧x.q=(ks.length:Int)∧∀ k ∈ ks,OkE k:=by
 obtain ⟨many,s,h⟩:=h;rw [sizeE] at h
 split at h
 ·next hr =>
  unfold rightE at hr;simp only [Bool.and_eq_true,decide_eq_true_eq] at hr
  split at h
  ·cases h
  ·next a d hl=>exact ⟨hr.1.1.2,hr.1.1.1,fun k hk=>by obtain ⟨s',hs⟩:=sizeL_each hl k hk;exact ⟨_,s',hs⟩⟩
 ·cases h
theorem OkE.kids {x:NT} {ks:List ET} (h:OkE (.mk x ks)):(x.k=8∨x.k=9→∃ e,ks=[e])∧(x.k=10→(∃ e f,ks=[e,f])∧x.t ∈ opsL) ∧
  (x.k=12→1≤(whole x.t).toNat∧(whole x.t).toNat≤20∧whole x.t=((whole x.t).toNat:Int)∧ks.length≤100∧(whole x.t).toNat≤ks.length)∧(x.k=11→ks.length≤30):=by
 obtain ⟨hg,hq,_⟩:=h.right;have hsz:=good_sizes hg;refine ⟨fun h8=>?_,fun h10=>⟨?_,?_⟩,fun h12=>?_,fun h11=>?_⟩
 ·have:=hsz.1 h8;exact List.length_eq_one_iff.1 (by omega)
 ·have:=hsz.2.1 h10
  match ks,(show ks.length=2 by omega) with
  | [a,b],_=>exact ⟨a,b,rfl⟩
 ·unfold NT.good goodN at hg;rw [h10] at hg;simp at hg;exact mem_ops hg.2
 ·unfold NT.good goodN at hg;rw [h12] at hg;simp [sidesB] at hg;obtain ⟨_,⟨⟨⟨h1,h2⟩,_⟩,h3,h4⟩,h5⟩:=hg;have hm:x.q.tmod (whole x.t)=0:=by simpa using h5
  have hle:whole x.t≤x.q:=by
   obtain ⟨c,hc⟩:=Int.dvd_of_tmod_eq_zero hm;have:1≤c:=by
    rcases Int.lt_or_le c 1 with h | h
    ·have:whole x.t * c≤0:=Int.mul_nonpos_of_nonneg_of_nonpos (by omega) (by omega);omega
    ·exact h
   rw [hc];have h6:=Int.mul_le_mul_of_nonneg_left this (show (0:Int)≤whole x.t by omega);rw [Int.mul_one] at h6;exact h6
  omega
 ·unfold NT.good goodN at hg;rw [h11] at hg;simp at hg;omega
theorem good_refX {x:NT} (h:x.good=true) (hk:x.k=5∨x.k=6):goodRB x.r x.c=true∧(x.k=6→goodRB x.r2 x.c2=true):=by
 unfold NT.good goodN at h
 rcases hk with hk | hk
 ·rw [hk] at h;simp at h;exact ⟨h.2,fun h'=>by rw [hk] at h';cases h'⟩
 ·rw [hk] at h;simp at h;exact ⟨h.2.1,fun _=>h.2.2⟩
theorem itoa_20:∀ n:Nat,n<21→(Lib.itoa (n:Int)).length≤200:=by decide +kernel
theorem mem_len {L:List (List UInt8)} (hL:∀ t ∈ L,t.length≤200) {t:List UInt8} (h:memB L t=true):t.length≤200:=by
 unfold memB at h;simp only [List.any_eq_true,beq_iff_eq] at h;obtain ⟨u,hu,rfl⟩:=h;exact hL u hu
theorem good_t {x:NT} (h:x.good=true):x.t.length≤200:=by
 unfold NT.good goodN at h;have nil:x.t=[]→x.t.length≤200:=fun q=>by rw [q];simp
 by_cases k1:x.k=1
 ·rw [if_pos k1] at h;rw [Bool.and_eq_true] at h;obtain ⟨ha,hb⟩:=h;exact nil (of_decide_eq_true ha).1
 rw [if_neg k1] at h;by_cases k2:x.k=2
 ·rw [if_pos k2] at h;rw [Bool.and_eq_true] at h;obtain ⟨ha,hb⟩:=h;unfold printB printN at hb;rw [Bool.and_eq_true] at hb;exact of_decide_eq_true hb.2
 rw [if_neg k2] at h;by_cases k3:x.k=3
 ·rw [if_pos k3] at h;rw [Bool.and_eq_true] at h;obtain ⟨ha,hb⟩:=h;unfold boolB at hb;rw [Bool.or_eq_true] at hb
  rcases hb with q | q <;> rw [eq_of_beq q] <;> simp
 rw [if_neg k3] at h;by_cases k4:x.k=4
 ·rw [if_pos k4] at h;rw [Bool.and_eq_true] at h;obtain ⟨ha,hb⟩:=h;exact mem_len (by decide) hb
 rw [if_neg k4] at h;by_cases k7:x.k=7
 ·rw [if_pos k7] at h;rw [Bool.and_eq_true] at h;obtain ⟨ha,hb⟩:=h;unfold nameB at hb;simp only [Bool.and_eq_true,Bool.not_eq_true',decide_eq_false_iff_not] at hb;omega
 rw [if_neg k7] at h;by_cases k5:x.k=5
 ·rw [if_pos k5] at h;rw [Bool.and_eq_true] at h;obtain ⟨ha,hb⟩:=h;exact nil (of_decide_eq_true ha).1
 rw [if_neg k5] at h;by_cases k6:x.k=6
 ·rw [if_pos k6] at h;rw [Bool.and_eq_true] at h;obtain ⟨ha,hb⟩:=h;exact nil (of_decide_eq_true ha).1
 rw [if_neg k6] at h;by_cases k13:x.k=13
 ·rw [if_pos k13] at h;rw [Bool.and_eq_true] at h;obtain ⟨ha,hb⟩:=h;exact nil (of_decide_eq_true ha).1
 rw [if_neg k13] at h;by_cases k8:x.k=8
 ·rw [if_pos k8] at h;rw [Bool.and_eq_true] at h;obtain ⟨ha,hb⟩:=h;exact nil (of_decide_eq_true ha).1
 rw [if_neg k8] at h;by_cases k9:x.k=9
 ·rw [if_pos k9] at h;rw [Bool.and_eq_true] at h;obtain ⟨ha,hb⟩:=h;exact nil (of_decide_eq_true ha).1
 rw [if_neg k9] at h;by_cases k10:x.k=10
 ·rw [if_pos k10] at h;rw [Bool.and_eq_true] at h;obtain ⟨ha,hb⟩:=h;exact mem_len (by decide) hb
 rw [if_neg k10] at h;by_cases k11:x.k=11
 ·rw [if_pos k11] at h;rw [Bool.and_eq_true] at h;obtain ⟨ha,hb⟩:=h;rw [Bool.and_eq_true,Bool.and_eq_true] at hb;obtain ⟨⟨hb,_⟩,_⟩:=hb;unfold nameB at hb;simp only [Bool.and_eq_true,Bool.not_eq_true',decide_eq_false_iff_not] at hb;omega
 rw [if_neg k11] at h;by_cases k12:x.k=12
 ·rw [if_pos k12] at h;rw [Bool.and_eq_true] at h;obtain ⟨ha,hb⟩:=h;unfold sidesB at hb;simp only [Bool.and_eq_true,decide_eq_true_eq] at hb;obtain ⟨⟨⟨⟨h1,h2⟩,h3⟩,_⟩,_⟩:=hb;rw [eq_of_beq h3];obtain ⟨n,hn⟩:∃ n:Nat,whole x.t=n:=⟨(whole x.t).toNat,by omega⟩;rw [hn];exact itoa_20 n (by omega)
 rw [if_neg k12] at h;cases h
mutual
theorem ok_all:∀ (e:ET),OkE e→allE (fun n=>n.t.length≤200) e
 | .mk _ ks,h=>⟨good_t h.right.1,ok_allL ks h.right.2.2⟩
theorem ok_allL:∀ (ks:List ET),(∀ k ∈ ks,OkE k)→allL (fun n=>n.t.length≤200) ks
 | [],_=>trivial
 | k :: ks,h=>⟨ok_all k (h k (List.mem_cons_self ..)),ok_allL ks (fun q hq=>h q (List.mem_cons_of_mem _ hq))⟩
end
end Go.Proofs.YtogecaajnjcenaaGreatDoor

