import Derived.Test.YtnbagcclckekkaaGreatDoorMg42
import Derived.Deep.RegionHeld3
namespace Go.Proofs.YtnbagcclckekkaaGreatDoor
open Go.RowKit
set_option maxRecDepth 8000 in
set_option maxHeartbeats 2000000 in
theorem turnS (k a m:Int) (d:Bool) (n l:Int) (w:World) (hl:limT k=l) (hm:1≤m∧m≤100) (ha:1≤a∧a≤1000) (hn:1≤n∧n≤1000) :
  Calls Tryz.prog 46 #[tuV k a m d,.int .i64 n] w fun e w'=>e=.returned (.int .i64 (tN l a m d n))∧Ext w w':=by
 have L:∀ w,Calls Tryz.prog 44 #[.int .i64 k] w fun e w'=>e=.returned (.int .i64 l)∧w'=w:=fun w=>by rw [← hl];exact limitS k w
 obtain ⟨V,hV⟩:∃ V,tN l a m d n=V:=⟨_,rfl⟩;rw [hV];have hVd:Hid ((n<a∧V=n)∨(a≤n∧d=true∧n<a+m∧V=0)∨(a≤n∧d=true∧a+m≤n∧V=n - m)∨(a≤n∧d=false∧l<n+m∧V=0)∨(a≤n∧d=false∧n+m≤l∧V=n+m)):=by
  have:=tN_is l a m d n;rw [hV] at this;exact this
 clear hV hl;have e1:IntKind.i64.wrap (a+m)=a+m:=by rw [IntKind.wrap_i64];omega
 have e2:IntKind.i64.wrap (n - m)=n - m:=by rw [IntKind.wrap_i64];omega
 have e3:IntKind.i64.wrap (n+m)=n+m:=by rw [IntKind.wrap_i64];omega
 have X:=x1 w (.cells #[.int .i64 k,.int .i64 a,.int .i64 m,.bool d] 28);obtain ⟨⟨q0,q1,q2,q3⟩,_⟩:=Box4.made w (.int .i64 k) (.int .i64 a) (.int .i64 m) (.bool d) 28;go_enter Tryz.func46,Tryz.ntmps46;go_upto_region 1 with fail;obtain ⟨w0,hw0⟩:∃ u,w.alloc (.cells #[.int .i64 k,.int .i64 a,.int .i64 m,.bool d] 28)=u:=⟨_,rfl⟩;rw [hw0] at X q0 q1 q2 q3 ⊢;clear hw0;by_cases h1:n<a
 ·go_wp2
  all_goals go_ret
  all_goals exact ⟨ret_int (by have:=hVd.out;omega),X⟩
 ·have f1:decide (n<a)=false:=decide_eq_false h1;cases d
  ·have hVd':Hid ((l<n+m∧V=0)∨(n+m≤l∧V=n+m)):=by
    have:=hVd.out;simp at this;show _∨_;omega
   clear hVd;go_upto_region 7 with fail;go_quiet ((go_at_call 44;refine Calls.quiet_of_same (L _)))
   go_wp2
   all_goals go_ret
   all_goals exact ⟨ret_int (by have:=hVd'.out;omega),xdNt X _⟩
  ·have hVd':Hid ((n<a+m∧V=0)∨(a+m≤n∧V=n - m)):=by
    have:=hVd.out;simp at this;show _∨_;omega
   clear hVd
   go_wp2
   all_goals go_ret
   all_goals exact ⟨ret_int (by have:=hVd'.out;omega),X⟩
set_option maxRecDepth 8000 in
set_option maxHeartbeats 2000000 in
theorem endsS (k a m:Int) (d:Bool) (A B l:Int) (w:World) (hl:limT k=l) (hm:1≤m∧m≤100) (ha:1≤a∧a≤l) (hd:d=true→a+m - 1≤l) (hA:1≤A) (hAB:A≤B) (hB:B≤l) :
  Calls Tryz.prog 48 #[tuV k a m d,.int .i64 A,.int .i64 B] w fun e w'=>e=.returned (.tuple #[.int .i64 (stF l a m d A B),.int .i64 (stT l a m d A B),.bool (decide (0<stF l a m d A B))])∧Ext w w':=by
 have hl0:l≤1000:=by obtain ⟨x,e,h⟩:=limT_is k;rw [hl] at e;omega
 have T:Hid (∀ n w,1≤n→n≤l→Calls Tryz.prog 46 #[tuV k a m d,.int .i64 n] w fun e w'=>e=.returned (.int .i64 (tN l a m d n))∧Ext w w'):=fun n w h1 h2=>turnS k a m d n l w hl hm (by omega) (by omega);have S0:=st_start hm.1 ha.1 ha.2 hd hA (show A≤l by omega);have S1:Hid (∀ n,A≤n→n≤l→(0<tN l a m d n→stF l a m d A n=(if stF l a m d A (n - 1)=0 then tN l a m d n else stF l a m d A (n - 1))∧stT l a m d A n=tN l a m d n)∧(tN l a m d n≤0→stF l a m d A n=stF l a m d A (n - 1)∧stT l a m d A n=stT l a m d A (n - 1))):=fun n h1 h2=>st_step hm.1 ha.1 ha.2 hd hA h1 h2;clear hl hm ha hd;have X:=x1 w (.cells #[.int .i64 k,.int .i64 a,.int .i64 m,.bool d] 28);have BX:=Box4.made w (.int .i64 k) (.int .i64 a) (.int .i64 m) (.bool d) 28;go_enter Tryz.func48,Tryz.ntmps48;go_wp2_with fail;obtain ⟨w0,hw0⟩:∃ u,w.alloc (.cells #[.int .i64 k,.int .i64 a,.int .i64 m,.bool d] 28)=u:=⟨_,rfl⟩;rw [hw0] at X BX ⊢;clear hw0;go_loopw [9,10,11] (fun f t i wr=>∃ n:Int,i=.int .i64 n∧A≤n∧n≤B+1∧f=.int .i64 (stF l a m d A (n - 1))∧t=.int .i64 (stT l a m d A (n - 1))∧Ext w0 wr) (fun _ _ i _=>(B+1 - intOf i).toNat)
 case atStart=>exact ⟨A,rfl,by omega,by omega,by rw [S0.1],by rw [S0.2],xr _⟩
 case round =>
  obtain ⟨n,rfl,n0,n1,rfl,rfl,xr'⟩:=hrel
  rename World=>wr
  obtain ⟨⟨q0,q1,q2,q3⟩,_⟩:=BX.later xr';by_cases hn:n≤B
  ·obtain ⟨s1,s2⟩:=S1.out n n0 (by omega);obtain ⟨v,hv⟩:∃ v,tN l a m d n=v:=⟨_,rfl⟩;obtain ⟨f,hf⟩:∃ v,stF l a m d A (n - 1)=v:=⟨_,rfl⟩;obtain ⟨t,ht⟩:∃ v,stT l a m d A (n - 1)=v:=⟨_,rfl⟩;obtain ⟨f',hf'⟩:∃ v,stF l a m d A n=v:=⟨_,rfl⟩;obtain ⟨t',ht'⟩:∃ v,stT l a m d A n=v:=⟨_,rfl⟩;have T1:=fun w=>T.out n w (by omega) (by omega);rw [hv] at T1 s1 s2;rw [hf,hf'] at s1 s2;rw [ht',ht] at s2;rw [ht'] at s1;rw [hf,ht];have S2:Hid ((0<v→f'=(if f=0 then v else f)∧t'=v)∧(v≤0→f'=f∧t'=t)):=⟨s1,s2⟩;have HF:Hid (stF l a m d A n=f'):=hf';have HT:Hid (stT l a m d A n=t'):=ht';have wn:IntKind.i64.wrap (n+1)=n+1:=by rw [IntKind.wrap_i64];omega
   clear s1 s2 hf ht hf' ht' hv S0;go_wp2_with fail;refine (T1 _).mono ?_;rintro e w2 ⟨rfl,x2⟩;clear q0 q1 q2 q3;by_cases hv:0<v
   ·have S3:=S2.out.1 hv;by_cases h0:f=0
    ·rw [if_pos h0] at S3;subst h0;obtain ⟨rfl,rfl⟩:=S3;go_wp2_with fail
     go_round
     case rel=>exact ⟨n+1,rfl,by omega,by omega,by rw [Int.add_sub_cancel,HF.out],by rw [Int.add_sub_cancel,HT.out],xt xr' x2⟩
     case measure=>simp [intOf];omega
    ·rw [if_neg h0] at S3;obtain ⟨rfl,rfl⟩:=S3;have g0:decide (f'=0)=false:=decide_eq_false h0;have g1:(f' == 0)=false:=beq_eq_false_iff_ne.2 h0;go_wp2_with fail
     go_round
     case rel=>exact ⟨n+1,rfl,by omega,by omega,by rw [Int.add_sub_cancel,HF.out],by rw [Int.add_sub_cancel,HT.out],xt xr' x2⟩
     case measure=>simp [intOf];omega
   ·obtain ⟨rfl,rfl⟩:=S2.out.2 (by omega);have g0:decide (0<v)=false:=decide_eq_false hv;go_wp2_with fail
    go_round
    case rel=>exact ⟨n+1,rfl,by omega,by omega,by rw [Int.add_sub_cancel,HF.out],by rw [Int.add_sub_cancel,HT.out],xt xr' x2⟩
    case measure=>simp [intOf];omega
  ·obtain rfl:n=B+1:=by omega
   rw [Int.add_sub_cancel];clear T S0 S1;obtain ⟨f,hf⟩:∃ v,stF l a m d A B=v:=⟨_,rfl⟩;obtain ⟨t,ht⟩:∃ v,stT l a m d A B=v:=⟨_,rfl⟩;have HF:Hid (stF l a m d A B=f):=hf;have HT:Hid (stT l a m d A B=t):=ht;rw [hf,ht];clear hf ht;go_wp2_with fail;exact bodyPost_ret (v:=.tuple #[.int .i64 f,.int .i64 t,.bool (decide (0<f))]) (by simp [results,Tryz.results48,go_sem]) rfl ⟨by rw [HF.out,HT.out],xt X xr'⟩
def taB (k a m:Int) (d:Bool) (r c:Int) (f g:Bool) (r' c':Int) (f' g':Bool):Value:=
 if gTurnB k a m d=true∧goodAB r c r' c'=true then
  (if k=1 then (if stF 1000 a m d (lo r r') (hi r r')=0 then .tuple #[arV 0 0 false false 0 0 false false,.bool false]
   else if r'<r then .tuple #[arV (stT 1000 a m d (lo r r') (hi r r')) c f g (stF 1000 a m d (lo r r') (hi r r')) c' f' g',.bool true] else .tuple #[arV (stF 1000 a m d (lo r r') (hi r r')) c f g (stT 1000 a m d (lo r r') (hi r r')) c' f' g',.bool true])
  else (if stF 200 a m d (lo c c') (hi c c')=0 then .tuple #[arV 0 0 false false 0 0 false false,.bool false]
   else if c'<c then .tuple #[arV r (stT 200 a m d (lo c c') (hi c c')) f g r' (stF 200 a m d (lo c c') (hi c c')) f' g',.bool true] else .tuple #[arV r (stF 200 a m d (lo c c') (hi c c')) f g r' (stT 200 a m d (lo c c') (hi c c')) f' g',.bool true]))
 else .tuple #[arV 0 0 false false 0 0 false false,.bool false]
theorem gTurnB_bd {k a m:Int} {d:Bool} (h:gTurnB k a m d=true):(k=1∨k=2)∧(1≤m∧m≤100)∧(1≤a∧a≤limT k)∧(d=true→a+m - 1≤limT k):=of_decide_eq_true h
theorem goodAB_bd {r c r' c':Int} (h:goodAB r c r' c'=true):((1≤r∧r≤1000)∧1≤c∧c≤200)∧(1≤r'∧r'≤1000)∧1≤c'∧c'≤200:=by
 unfold goodAB goodRB at h;simp at h;exact h
theorem lo_hi {x y z:Int} (h1:1≤x∧x≤z) (h2:1≤y∧y≤z):1≤lo x y∧lo x y≤hi x y∧hi x y≤z:=by
 have:=lo_is x y;have:=hi_is x y;omega
set_option maxRecDepth 8000 in
set_option maxHeartbeats 8000000 in
theorem areaTS (k a m:Int) (d:Bool) (r c:Int) (f g:Bool) (r' c':Int) (f' g':Bool) (w:World) :
  Calls Tryz.prog 23 #[tuV k a m d,arV r c f g r' c' f' g'] w fun e w'=>e=.returned (taB k a m d r c f g r' c' f' g')∧Ext w w':=by
 obtain ⟨V,hV⟩:∃ V,taB k a m d r c f g r' c' f' g'=V:=⟨_,rfl⟩;rw [hV];unfold taB at hV;have GT:=fun w=>gTurnS k a m d w;have GA:=fun w=>goodAS r c f g r' c' f' g' w;obtain ⟨p,hp⟩:∃ p,gTurnB k a m d=p:=⟨_,rfl⟩;obtain ⟨q,hq⟩:∃ q,goodAB r c r' c'=q:=⟨_,rfl⟩;rw [hp] at GT hV;rw [hq] at GA hV;have B2:=Vec.made4 w (.int .i64 k) (.int .i64 a) (.int .i64 m) (.bool d) 28;have X:=x1 w (.cells #[.int .i64 k,.int .i64 a,.int .i64 m,.bool d] 28);obtain ⟨wa,ha⟩:∃ wa,w.alloc (.cells #[.int .i64 k,.int .i64 a,.int .i64 m,.bool d] 28)=wa:=⟨_,rfl⟩;rw [ha] at B2 X;have sa:wa.heap.size=w.heap.size+1:=by rw [← ha,World.size_alloc]
 have B3:=Vec.made8 wa (.int .i64 r) (.int .i64 c) (.bool f) (.bool g) (.int .i64 r') (.int .i64 c') (.bool f') (.bool g') 45;have x3:=x1 wa (.cells #[.int .i64 r,.int .i64 c,.bool f,.bool g,.int .i64 r',.int .i64 c',.bool f',.bool g'] 45);obtain ⟨wb,hb⟩:∃ wb,wa.alloc (.cells #[.int .i64 r,.int .i64 c,.bool f,.bool g,.int .i64 r',.int .i64 c',.bool f',.bool g'] 45)=wb:=⟨_,rfl⟩;rw [hb] at B3 x3;have sb:wb.heap.size=w.heap.size+1+1:=by rw [← hb,World.size_alloc,sa]
 have B4:=Vec.made8 wb (.int .i64 0) (.int .i64 0) (.bool false) (.bool false) (.int .i64 0) (.int .i64 0) (.bool false) (.bool false) 45;have x4:=x1 wb (.cells #[.int .i64 0,.int .i64 0,.bool false,.bool false,.int .i64 0,.int .i64 0,.bool false,.bool false] 45);rw [sa] at B3;go_enter Tryz.func23,Tryz.ntmps23;go_upto_region 1 with fail
 (try rw [ha])
 (try rw [hb])
 obtain ⟨w0,hw0⟩:∃ w0,wb.alloc (.cells #[.int .i64 0,.int .i64 0,.bool false,.bool false,.int .i64 0,.int .i64 0,.bool false,.bool false] 45)=w0:=⟨_,rfl⟩;have s0:w0.heap.size=w.heap.size+1+1+1:=by rw [← hw0,World.size_alloc,sb]
 rw [hw0] at B4 x4 ⊢;rw [sb] at B4;replace B2:=(B2.later x3).later x4;replace B3:=B3.later x4;replace X:=xt (xt X x3) x4;clear ha hb hw0 sa sb x3 x4;obtain ⟨⟨a0,a1,a2,a3⟩,_⟩:=B2.box4;go_wp2_with fail;refine (GT _).mono ?_;rintro e w1 ⟨rfl,e1⟩;clear a0 a1 a2 a3 GT;have s1:=e1.size;replace B2:=B2.later e1;replace B3:=B3.later e1;replace B4:=B4.later e1;replace X:=xt X e1;clear e1;obtain ⟨⟨⟨m0,m1,m2,m3⟩,m4,m5,m6,m7⟩,⟨m8,m9,mA,mB⟩,mC,mD,mE,mF⟩:=B4.box8;cases p
 ·have Z:Hid (Value.tuple #[arV 0 0 false false 0 0 false false,.bool false]=V):=by unfold Hid;rw [← hV];simp
  clear hV
  go_wp2
  exact bodyPost_ret (v:=.tuple #[arV 0 0 false false 0 0 false false,.bool false]) (by simp [results,Tryz.results23,go_sem,m0,m1,m2,m3,m4,m5,m6,m7]) rfl ⟨congrArg Ending.returned Z.out,Ext.set8 X (by omega) _ _ _ _ _ _ _ _⟩
 clear m0 m1 m2 m3 m4 m5 m6 m7 m8 m9 mA mB mC mD mE mF;obtain ⟨⟨⟨a0,a1,a2,a3⟩,a4,a5,a6,a7⟩,_⟩:=B3.box8;go_wp2_with fail;refine (GA _).mono ?_;rintro e w2 ⟨rfl,e2⟩;clear a0 a1 a2 a3 a4 a5 a6 a7 GA;have s2:=e2.size;replace B2:=B2.later e2;replace B3:=B3.later e2;replace B4:=B4.later e2;replace X:=xt X e2;clear e2;obtain ⟨⟨⟨m0,m1,m2,m3⟩,m4,m5,m6,m7⟩,⟨m8,m9,mA,mB⟩,mC,mD,mE,mF⟩:=B4.box8;cases q
 ·have Z:Hid (Value.tuple #[arV 0 0 false false 0 0 false false,.bool false]=V):=by unfold Hid;rw [← hV];simp
  clear hV
  go_wp2
  exact bodyPost_ret (v:=.tuple #[arV 0 0 false false 0 0 false false,.bool false]) (by simp [results,Tryz.results23,go_sem,m0,m1,m2,m3,m4,m5,m6,m7]) rfl ⟨congrArg Ending.returned Z.out,Ext.set8 X (by omega) _ _ _ _ _ _ _ _⟩
 clear m0 m1 m2 m3 m4 m5 m6 m7 m8 m9 mA mB mC mD mE mF;obtain ⟨hk,hm,ha,hd⟩:=gTurnB_bd hp;obtain ⟨⟨hr,hc⟩,hr',hc'⟩:=goodAB_bd hq;clear hp hq;obtain ⟨⟨⟨a0,a1,a2,a3⟩,a4,a5,a6,a7⟩,_⟩:=B3.box8;go_upto_region 4 with fail;have B6:=Vec.made8 w2 (.int .i64 r) (.int .i64 c) (.bool f) (.bool g) (.int .i64 r') (.int .i64 c') (.bool f') (.bool g') 45;have x6:=x1 w2 (.cells #[.int .i64 r,.int .i64 c,.bool f,.bool g,.int .i64 r',.int .i64 c',.bool f',.bool g'] 45);obtain ⟨w3,hw3⟩:∃ w3,w2.alloc (.cells #[.int .i64 r,.int .i64 c,.bool f,.bool g,.int .i64 r',.int .i64 c',.bool f',.bool g'] 45)=w3:=⟨_,rfl⟩;rw [hw3] at B6 x6 ⊢;obtain ⟨b6,hb6⟩:∃ b,w2.heap.size=b:=⟨_,rfl⟩;rw [hb6] at B6 ⊢;clear hw3 a0 a1 a2 a3 a4 a5 a6 a7;replace B2:=B2.later x6;replace B3:=B3.later x6;replace B4:=B4.later x6;replace X:=xt X x6;have g6:w.heap.size+1+1+1≤b6:=by omega
 clear x6 s1 s2 s0 hb6;obtain rfl | rfl:=hk
 ·have lim:limT 1=1000:=by simp [limT]
  rw [lim] at ha hd;simp only [true_and,if_true,if_true] at hV;obtain ⟨A1,A2,A3⟩:=lo_hi hr hr';have EN:=fun w=>endsS 1 a m d (lo r r') (hi r r') 1000 w lim hm ha hd A1 A2 A3;have ST:=st_good hm.1 ha.1 ha.2 hd A1 A2 A3;obtain ⟨F,hF⟩:∃ F,stF 1000 a m d (lo r r') (hi r r')=F:=⟨_,rfl⟩;obtain ⟨T,hT⟩:∃ T,stT 1000 a m d (lo r r') (hi r r')=T:=⟨_,rfl⟩;rw [hF,hT] at EN hV;have F0:0≤F:=by rw [hF] at ST;omega
  have Z:Hid (F=0→Value.tuple #[arV 0 0 false false 0 0 false false,.bool false]=V):=fun h=>by rw [← hV,if_pos h]
  have Y1:Hid (F ≠ 0→r'<r→Value.tuple #[arV T c f g F c' f' g',.bool true]=V):=fun h h'=>by rw [← hV,if_neg h,if_pos h']
  have Y2:Hid (F ≠ 0→¬ r'<r→Value.tuple #[arV F c f g T c' f' g',.bool true]=V):=fun h h'=>by rw [← hV,if_neg h,if_neg h']
  have MI:=fun w=>minS r r' w;have MA:=fun w=>maxS r r' w;obtain ⟨A,hA⟩:∃ A,lo r r'=A:=⟨_,rfl⟩;obtain ⟨B,hB⟩:∃ B,hi r r'=B:=⟨_,rfl⟩;rw [hA] at MI EN;rw [hB] at MA EN;clear hV hF hT hA hB ST A1 A2 A3 hm ha hd lim hr hr' hc hc';obtain ⟨⟨b0,b1,b2,b3⟩,_⟩:=B2.box4;go_upto_region 5 with fail;clear b0 b1 b2 b3;go_cut [7,8,9] (fun u v z wc=>u=.int .i64 F∧v=.int .i64 T∧z=.bool (decide (0<F))∧Ext w3 wc)
  case first =>
   obtain ⟨⟨b0,b1,b2,b3⟩,_⟩:=B2.box4;obtain ⟨⟨⟨a0,a1,a2,a3⟩,a4,a5,a6,a7⟩,_⟩:=B3.box8;go_region_held3 (fun w'=>(w'.cell? ⟨w.heap.size,0,none⟩=some (.int .i64 1)∧w'.cell? ⟨w.heap.size,1,none⟩=some (.int .i64 a)∧w'.cell? ⟨w.heap.size,2,none⟩=some (.int .i64 m)∧w'.cell? ⟨w.heap.size,3,none⟩=some (.bool d))∧w'.cell? ⟨w.heap.size+1,0,none⟩=some (.int .i64 r)∧w'.cell? ⟨w.heap.size+1,1,none⟩=some (.int .i64 c)∧w'.cell? ⟨w.heap.size+1,2,none⟩=some (.bool f)∧w'.cell? ⟨w.heap.size+1,3,none⟩=some (.bool g)∧w'.cell? ⟨w.heap.size+1,4,none⟩=some (.int .i64 r')∧w'.cell? ⟨w.heap.size+1,5,none⟩=some (.int .i64 c')∧w'.cell? ⟨w.heap.size+1,6,none⟩=some (.bool f')∧w'.cell? ⟨w.heap.size+1,7,none⟩=some (.bool g')) (go_keep) (first
    | (go_at_call 49;refine (MI _).mono ?_;rintro e w' ⟨rfl,rfl⟩)
    | (go_at_call 50;refine (MA _).mono ?_;rintro e w' ⟨rfl,rfl⟩)
    | (go_at_call 48;refine (EN _).mono ?_;rintro e w4 ⟨rfl,e4⟩;have e4':Ext w3 w4:=xt (xd (xr _)) e4;clear b0 b1 b2 b3 a0 a1 a2 a3 a4 a5 a6 a7;obtain ⟨⟨b0,b1,b2,b3⟩,_⟩:=(B2.later e4').box4;obtain ⟨⟨⟨a0,a1,a2,a3⟩,a4,a5,a6,a7⟩,_⟩:=(B3.later e4').box8))
   all_goals go_wp2_with fail
   all_goals go_meet
   all_goals exact ⟨rfl,rfl,rfl,e4'⟩
  case rest =>
   obtain ⟨rfl,rfl,rfl,e4⟩:=hcut
   rename World=>w4
   replace B3:=B3.later e4;replace B4:=B4.later e4;replace B6:=B6.later e4;replace X:=xt X e4;clear e4 B2 EN MI MA;obtain ⟨⟨⟨a0,a1,a2,a3⟩,a4,a5,a6,a7⟩,⟨a8,a9,aA,aB⟩,aC,aD,aE,aF⟩:=B6.box8;have N6:=(B6.put 0 (by simp) (.int .i64 F)).put 4 (by simp) (.int .i64 T);have N3:=(B3.far (p:=⟨b6,0,none⟩) (by simp only;omega) (.int .i64 F)).far (p:=⟨b6,4,none⟩) (by simp only;omega) (.int .i64 T);have N4:=(B4.far (p:=⟨b6,0,none⟩) (by simp only;omega) (.int .i64 F)).far (p:=⟨b6,4,none⟩) (by simp only;omega) (.int .i64 T);have NX:=xset (p:=⟨b6,4,none⟩) (xset (p:=⟨b6,0,none⟩) X (by simp only;omega) (.int .i64 F)) (by simp only;omega) (.int .i64 T);go_upto_region 8 with fail;obtain ⟨w5,hw5⟩:∃ u,(w4.setCell ⟨b6,0,none⟩ (.int .i64 F)).setCell ⟨b6,4,none⟩ (.int .i64 T)=u:=⟨_,rfl⟩;rw [hw5] at N6 N3 N4 NX ⊢;clear hw5 a0 a1 a2 a3 a4 a5 a6 a7 a8 a9 aA aB aC aD aE aF B3 B4 B6 X;obtain ⟨⟨⟨b0,b1,b2,b3⟩,b4,b5,b6',b7⟩,_⟩:=N3.box8;by_cases hx:r'<r
   ·have fx:decide (r'<r)=true:=decide_eq_true hx;have M6:=N6;have M3:=N3;have M4:=N4;have NX0:=NX;clear N6 N3 N4 NX;obtain ⟨⟨⟨a0,a1,a2,a3⟩,a4,a5,a6,a7⟩,⟨a8,a9,aA,aB⟩,aC,aD,aE,aF⟩:=M6.box8;have N6:=(M6.put 0 (by simp) (.int .i64 T)).put 4 (by simp) (.int .i64 F);have N3:=(M3.far (p:=⟨b6,0,none⟩) (by simp only;omega) (.int .i64 T)).far (p:=⟨b6,4,none⟩) (by simp only;omega) (.int .i64 F);have N4:=(M4.far (p:=⟨b6,0,none⟩) (by simp only;omega) (.int .i64 T)).far (p:=⟨b6,4,none⟩) (by simp only;omega) (.int .i64 F);have NX:=xset (p:=⟨b6,4,none⟩) (xset (p:=⟨b6,0,none⟩) NX0 (by simp only;omega) (.int .i64 T)) (by simp only;omega) (.int .i64 F);go_upto_region 11 with fail;obtain ⟨w6,hw6⟩:∃ u,(w5.setCell ⟨b6,0,none⟩ (.int .i64 T)).setCell ⟨b6,4,none⟩ (.int .i64 F)=u:=⟨_,rfl⟩;rw [hw6] at N6 N3 N4 NX ⊢;clear hw6 a0 a1 a2 a3 a4 a5 a6 a7 a8 a9 aA aB aC aD aE aF M6 M3 M4 NX0 b0 b1 b2 b3 b4 b5 b6' b7;by_cases h0:F=0
    ·have zz:=Z.out h0;have f0:decide (0<F)=false:=decide_eq_false (by omega);clear Z Y1 Y2;obtain ⟨⟨⟨m0,m1,m2,m3⟩,m4,m5,m6,m7⟩,⟨m8,m9,mA,mB⟩,mC,mD,mE,mF⟩:=N4.box8;have ZZ:Hid (Value.tuple #[arV 0 0 false false 0 0 false false,.bool false]=V):=zz;clear zz
     go_wp2
     exact bodyPost_ret (v:=.tuple #[arV 0 0 false false 0 0 false false,.bool false]) (by simp [results,Tryz.results23,go_sem,m0,m1,m2,m3,m4,m5,m6,m7]) rfl ⟨congrArg Ending.returned ZZ.out,Ext.set8 NX (by omega) _ _ _ _ _ _ _ _⟩
    ·have f0:decide (0<F)=true:=decide_eq_true (by omega);have ZZ:Hid (Value.tuple #[arV T c f g F c' f' g',.bool true]=V):=Y1.out h0 hx;clear Z Y1 Y2;obtain ⟨⟨⟨m0,m1,m2,m3⟩,m4,m5,m6,m7⟩,⟨m8,m9,mA,mB⟩,mC,mD,mE,mF⟩:=N4.box8;obtain ⟨⟨⟨a0,a1,a2,a3⟩,a4,a5,a6,a7⟩,_⟩:=N6.box8
     go_wp2
     exact bodyPost_ret (v:=.tuple #[arV T c f g F c' f' g',.bool true]) (by simp [results,Tryz.results23,go_sem,m0,m1,m2,m3,m4,m5,m6,m7]) rfl ⟨congrArg Ending.returned ZZ.out,Ext.set8 NX (by omega) _ _ _ _ _ _ _ _⟩
   ·have fx:decide (r'<r)=false:=decide_eq_false hx;go_upto_region 11 with fail;clear b0 b1 b2 b3 b4 b5 b6' b7;by_cases h0:F=0
    ·have zz:=Z.out h0;have f0:decide (0<F)=false:=decide_eq_false (by omega);clear Z Y1 Y2;obtain ⟨⟨⟨m0,m1,m2,m3⟩,m4,m5,m6,m7⟩,⟨m8,m9,mA,mB⟩,mC,mD,mE,mF⟩:=N4.box8;have ZZ:Hid (Value.tuple #[arV 0 0 false false 0 0 false false,.bool false]=V):=zz;clear zz
     go_wp2
     exact bodyPost_ret (v:=.tuple #[arV 0 0 false false 0 0 false false,.bool false]) (by simp [results,Tryz.results23,go_sem,m0,m1,m2,m3,m4,m5,m6,m7]) rfl ⟨congrArg Ending.returned ZZ.out,Ext.set8 NX (by omega) _ _ _ _ _ _ _ _⟩
    ·have f0:decide (0<F)=true:=decide_eq_true (by omega);have ZZ:Hid (Value.tuple #[arV F c f g T c' f' g',.bool true]=V):=Y2.out h0 hx;clear Z Y1 Y2;obtain ⟨⟨⟨m0,m1,m2,m3⟩,m4,m5,m6,m7⟩,⟨m8,m9,mA,mB⟩,mC,mD,mE,mF⟩:=N4.box8;obtain ⟨⟨⟨a0,a1,a2,a3⟩,a4,a5,a6,a7⟩,_⟩:=N6.box8
     go_wp2
     exact bodyPost_ret (v:=.tuple #[arV F c f g T c' f' g',.bool true]) (by simp [results,Tryz.results23,go_sem,m0,m1,m2,m3,m4,m5,m6,m7]) rfl ⟨congrArg Ending.returned ZZ.out,Ext.set8 NX (by omega) _ _ _ _ _ _ _ _⟩
 ·have lim:limT 2=200:=by simp [limT]
  rw [lim] at ha hd;simp only [true_and,if_true,show ((2:Int)=1)=False by decide,if_false] at hV;obtain ⟨A1,A2,A3⟩:=lo_hi hc hc';have EN:=fun w=>endsS 2 a m d (lo c c') (hi c c') 200 w lim hm ha hd A1 A2 A3;have ST:=st_good hm.1 ha.1 ha.2 hd A1 A2 A3;obtain ⟨F,hF⟩:∃ F,stF 200 a m d (lo c c') (hi c c')=F:=⟨_,rfl⟩;obtain ⟨T,hT⟩:∃ T,stT 200 a m d (lo c c') (hi c c')=T:=⟨_,rfl⟩;rw [hF,hT] at EN hV;have F0:0≤F:=by rw [hF] at ST;omega
  have Z:Hid (F=0→Value.tuple #[arV 0 0 false false 0 0 false false,.bool false]=V):=fun h=>by rw [← hV,if_pos h]
  have Y1:Hid (F ≠ 0→c'<c→Value.tuple #[arV r T f g r' F f' g',.bool true]=V):=fun h h'=>by rw [← hV,if_neg h,if_pos h']
  have Y2:Hid (F ≠ 0→¬ c'<c→Value.tuple #[arV r F f g r' T f' g',.bool true]=V):=fun h h'=>by rw [← hV,if_neg h,if_neg h']
  have MI:=fun w=>minS c c' w;have MA:=fun w=>maxS c c' w;obtain ⟨A,hA⟩:∃ A,lo c c'=A:=⟨_,rfl⟩;obtain ⟨B,hB⟩:∃ B,hi c c'=B:=⟨_,rfl⟩;rw [hA] at MI EN;rw [hB] at MA EN;clear hV hF hT hA hB ST A1 A2 A3 hm ha hd lim hr hr' hc hc';obtain ⟨⟨b0,b1,b2,b3⟩,_⟩:=B2.box4;go_upto_region 14 with fail;clear b0 b1 b2 b3;go_cut [10,11,12] (fun u v z wc=>u=.int .i64 F∧v=.int .i64 T∧z=.bool (decide (0<F))∧Ext w3 wc)
  case first =>
   obtain ⟨⟨b0,b1,b2,b3⟩,_⟩:=B2.box4;obtain ⟨⟨⟨a0,a1,a2,a3⟩,a4,a5,a6,a7⟩,_⟩:=B3.box8;go_region_held3 (fun w'=>(w'.cell? ⟨w.heap.size,0,none⟩=some (.int .i64 2)∧w'.cell? ⟨w.heap.size,1,none⟩=some (.int .i64 a)∧w'.cell? ⟨w.heap.size,2,none⟩=some (.int .i64 m)∧w'.cell? ⟨w.heap.size,3,none⟩=some (.bool d))∧w'.cell? ⟨w.heap.size+1,0,none⟩=some (.int .i64 r)∧w'.cell? ⟨w.heap.size+1,1,none⟩=some (.int .i64 c)∧w'.cell? ⟨w.heap.size+1,2,none⟩=some (.bool f)∧w'.cell? ⟨w.heap.size+1,3,none⟩=some (.bool g)∧w'.cell? ⟨w.heap.size+1,4,none⟩=some (.int .i64 r')∧w'.cell? ⟨w.heap.size+1,5,none⟩=some (.int .i64 c')∧w'.cell? ⟨w.heap.size+1,6,none⟩=some (.bool f')∧w'.cell? ⟨w.heap.size+1,7,none⟩=some (.bool g')) (go_keep) (first
    | (go_at_call 49;refine (MI _).mono ?_;rintro e w' ⟨rfl,rfl⟩)
    | (go_at_call 50;refine (MA _).mono ?_;rintro e w' ⟨rfl,rfl⟩)
    | (go_at_call 48;refine (EN _).mono ?_;rintro e w4 ⟨rfl,e4⟩;have e4':Ext w3 w4:=xt (xd (xr _)) e4;clear b0 b1 b2 b3 a0 a1 a2 a3 a4 a5 a6 a7;obtain ⟨⟨b0,b1,b2,b3⟩,_⟩:=(B2.later e4').box4;obtain ⟨⟨⟨a0,a1,a2,a3⟩,a4,a5,a6,a7⟩,_⟩:=(B3.later e4').box8))
   all_goals go_wp2_with fail
   all_goals go_meet
   all_goals exact ⟨rfl,rfl,rfl,e4'⟩
  case rest =>
   obtain ⟨rfl,rfl,rfl,e4⟩:=hcut
   rename World=>w4
   replace B3:=B3.later e4;replace B4:=B4.later e4;replace B6:=B6.later e4;replace X:=xt X e4;clear e4 B2 EN MI MA;obtain ⟨⟨⟨a0,a1,a2,a3⟩,a4,a5,a6,a7⟩,⟨a8,a9,aA,aB⟩,aC,aD,aE,aF⟩:=B6.box8;have N6:=(B6.put 1 (by simp) (.int .i64 F)).put 5 (by simp) (.int .i64 T);have N3:=(B3.far (p:=⟨b6,1,none⟩) (by simp only;omega) (.int .i64 F)).far (p:=⟨b6,5,none⟩) (by simp only;omega) (.int .i64 T);have N4:=(B4.far (p:=⟨b6,1,none⟩) (by simp only;omega) (.int .i64 F)).far (p:=⟨b6,5,none⟩) (by simp only;omega) (.int .i64 T);have NX:=xset (p:=⟨b6,5,none⟩) (xset (p:=⟨b6,1,none⟩) X (by simp only;omega) (.int .i64 F)) (by simp only;omega) (.int .i64 T);go_upto_region 17 with fail;obtain ⟨w5,hw5⟩:∃ u,(w4.setCell ⟨b6,1,none⟩ (.int .i64 F)).setCell ⟨b6,5,none⟩ (.int .i64 T)=u:=⟨_,rfl⟩;rw [hw5] at N6 N3 N4 NX ⊢;clear hw5 a0 a1 a2 a3 a4 a5 a6 a7 a8 a9 aA aB aC aD aE aF B3 B4 B6 X;obtain ⟨⟨⟨b0,b1,b2,b3⟩,b4,b5,b6',b7⟩,_⟩:=N3.box8;by_cases hx:c'<c
   ·have fx:decide (c'<c)=true:=decide_eq_true hx;have M6:=N6;have M3:=N3;have M4:=N4;have NX0:=NX;clear N6 N3 N4 NX;obtain ⟨⟨⟨a0,a1,a2,a3⟩,a4,a5,a6,a7⟩,⟨a8,a9,aA,aB⟩,aC,aD,aE,aF⟩:=M6.box8;have N6:=(M6.put 1 (by simp) (.int .i64 T)).put 5 (by simp) (.int .i64 F);have N3:=(M3.far (p:=⟨b6,1,none⟩) (by simp only;omega) (.int .i64 T)).far (p:=⟨b6,5,none⟩) (by simp only;omega) (.int .i64 F);have N4:=(M4.far (p:=⟨b6,1,none⟩) (by simp only;omega) (.int .i64 T)).far (p:=⟨b6,5,none⟩) (by simp only;omega) (.int .i64 F);have NX:=xset (p:=⟨b6,5,none⟩) (xset (p:=⟨b6,1,none⟩) NX0 (by simp only;omega) (.int .i64 T)) (by simp only;omega) (.int .i64 F);go_upto_region 20 with fail;obtain ⟨w6,hw6⟩:∃ u,(w5.setCell ⟨b6,1,none⟩ (.int .i64 T)).setCell ⟨b6,5,none⟩ (.int .i64 F)=u:=⟨_,rfl⟩;rw [hw6] at N6 N3 N4 NX ⊢;clear hw6 a0 a1 a2 a3 a4 a5 a6 a7 a8 a9 aA aB aC aD aE aF M6 M3 M4 NX0 b0 b1 b2 b3 b4 b5 b6' b7;by_cases h0:F=0
    ·have zz:=Z.out h0;have f0:decide (0<F)=false:=decide_eq_false (by omega);clear Z Y1 Y2;obtain ⟨⟨⟨m0,m1,m2,m3⟩,m4,m5,m6,m7⟩,⟨m8,m9,mA,mB⟩,mC,mD,mE,mF⟩:=N4.box8;have ZZ:Hid (Value.tuple #[arV 0 0 false false 0 0 false false,.bool false]=V):=zz;clear zz
     go_wp2
     exact bodyPost_ret (v:=.tuple #[arV 0 0 false false 0 0 false false,.bool false]) (by simp [results,Tryz.results23,go_sem,m0,m1,m2,m3,m4,m5,m6,m7]) rfl ⟨congrArg Ending.returned ZZ.out,Ext.set8 NX (by omega) _ _ _ _ _ _ _ _⟩
    ·have f0:decide (0<F)=true:=decide_eq_true (by omega);have ZZ:Hid (Value.tuple #[arV r T f g r' F f' g',.bool true]=V):=Y1.out h0 hx;clear Z Y1 Y2;obtain ⟨⟨⟨m0,m1,m2,m3⟩,m4,m5,m6,m7⟩,⟨m8,m9,mA,mB⟩,mC,mD,mE,mF⟩:=N4.box8;obtain ⟨⟨⟨a0,a1,a2,a3⟩,a4,a5,a6,a7⟩,_⟩:=N6.box8
     go_wp2
     exact bodyPost_ret (v:=.tuple #[arV r T f g r' F f' g',.bool true]) (by simp [results,Tryz.results23,go_sem,m0,m1,m2,m3,m4,m5,m6,m7]) rfl ⟨congrArg Ending.returned ZZ.out,Ext.set8 NX (by omega) _ _ _ _ _ _ _ _⟩
   ·have fx:decide (c'<c)=false:=decide_eq_false hx;go_upto_region 20 with fail;clear b0 b1 b2 b3 b4 b5 b6' b7;by_cases h0:F=0
    ·have zz:=Z.out h0;have f0:decide (0<F)=false:=decide_eq_false (by omega);clear Z Y1 Y2;obtain ⟨⟨⟨m0,m1,m2,m3⟩,m4,m5,m6,m7⟩,⟨m8,m9,mA,mB⟩,mC,mD,mE,mF⟩:=N4.box8;have ZZ:Hid (Value.tuple #[arV 0 0 false false 0 0 false false,.bool false]=V):=zz;clear zz
     go_wp2
     exact bodyPost_ret (v:=.tuple #[arV 0 0 false false 0 0 false false,.bool false]) (by simp [results,Tryz.results23,go_sem,m0,m1,m2,m3,m4,m5,m6,m7]) rfl ⟨congrArg Ending.returned ZZ.out,Ext.set8 NX (by omega) _ _ _ _ _ _ _ _⟩
    ·have f0:decide (0<F)=true:=decide_eq_true (by omega);have ZZ:Hid (Value.tuple #[arV r F f g r' T f' g',.bool true]=V):=Y2.out h0 hx;clear Z Y1 Y2;obtain ⟨⟨⟨m0,m1,m2,m3⟩,m4,m5,m6,m7⟩,⟨m8,m9,mA,mB⟩,mC,mD,mE,mF⟩:=N4.box8;obtain ⟨⟨⟨a0,a1,a2,a3⟩,a4,a5,a6,a7⟩,_⟩:=N6.box8
     go_wp2
     exact bodyPost_ret (v:=.tuple #[arV r F f g r' T f' g',.bool true]) (by simp [results,Tryz.results23,go_sem,m0,m1,m2,m3,m4,m5,m6,m7]) rfl ⟨congrArg Ending.returned ZZ.out,Ext.set8 NX (by omega) _ _ _ _ _ _ _ _⟩
def trB (k a m:Int) (d:Bool) (r c:Int) (f g:Bool):Value:=
 if gTurnB k a m d=true∧goodRB r c=true then
  (if k=1 then (if tN 1000 a m d r=0 then .tuple #[refV 0 0 false false,.bool false] else .tuple #[refV (tN 1000 a m d r) c f g,.bool true])
  else (if tN 200 a m d c=0 then .tuple #[refV 0 0 false false,.bool false] else .tuple #[refV r (tN 200 a m d c) f g,.bool true]))
 else .tuple #[refV 0 0 false false,.bool false]
theorem goodRB_bd {r c:Int} (h:goodRB r c=true):(1≤r∧r≤1000)∧1≤c∧c≤200:=of_decide_eq_true h
set_option maxRecDepth 8000 in
set_option maxHeartbeats 8000000 in
theorem refTS (k a m:Int) (d:Bool) (r c:Int) (f g:Bool) (w:World) :
  Calls Tryz.prog 22 #[tuV k a m d,refV r c f g] w fun e w'=>e=.returned (trB k a m d r c f g)∧Ext w w':=by
 obtain ⟨V,hV⟩:∃ V,trB k a m d r c f g=V:=⟨_,rfl⟩;rw [hV];unfold trB at hV;have GT:=fun w=>gTurnS k a m d w;have GA:=fun w=>goodRS r c f g w;obtain ⟨p,hp⟩:∃ p,gTurnB k a m d=p:=⟨_,rfl⟩;obtain ⟨q,hq⟩:∃ q,goodRB r c=q:=⟨_,rfl⟩;rw [hp] at GT hV;rw [hq] at GA hV;have B2:=Vec.made4 w (.int .i64 k) (.int .i64 a) (.int .i64 m) (.bool d) 28;have X:=x1 w (.cells #[.int .i64 k,.int .i64 a,.int .i64 m,.bool d] 28);obtain ⟨wa,ha⟩:∃ wa,w.alloc (.cells #[.int .i64 k,.int .i64 a,.int .i64 m,.bool d] 28)=wa:=⟨_,rfl⟩;rw [ha] at B2 X;have sa:wa.heap.size=w.heap.size+1:=by rw [← ha,World.size_alloc]
 have B3:=Vec.made4 wa (.int .i64 r) (.int .i64 c) (.bool f) (.bool g) 43;have x3:=x1 wa (.cells #[.int .i64 r,.int .i64 c,.bool f,.bool g] 43);obtain ⟨wb,hb⟩:∃ wb,wa.alloc (.cells #[.int .i64 r,.int .i64 c,.bool f,.bool g] 43)=wb:=⟨_,rfl⟩;rw [hb] at B3 x3;have sb:wb.heap.size=w.heap.size+1+1:=by rw [← hb,World.size_alloc,sa]
 have B4:=Vec.made4 wb (.int .i64 0) (.int .i64 0) (.bool false) (.bool false) 43;have x4:=x1 wb (.cells #[.int .i64 0,.int .i64 0,.bool false,.bool false] 43);rw [sa] at B3;go_enter Tryz.func22,Tryz.ntmps22;go_upto_region 1 with fail
 (try rw [ha])
 (try rw [hb])
 obtain ⟨w0,hw0⟩:∃ w0,wb.alloc (.cells #[.int .i64 0,.int .i64 0,.bool false,.bool false] 43)=w0:=⟨_,rfl⟩;have s0:w0.heap.size=w.heap.size+1+1+1:=by rw [← hw0,World.size_alloc,sb]
 rw [hw0] at B4 x4 ⊢;rw [sb] at B4;replace B2:=(B2.later x3).later x4;replace B3:=B3.later x4;replace X:=xt (xt X x3) x4;clear ha hb hw0 sa sb x3 x4;obtain ⟨⟨a0,a1,a2,a3⟩,_⟩:=B2.box4;go_wp2_with fail;refine (GT _).mono ?_;rintro e w1 ⟨rfl,e1⟩;clear a0 a1 a2 a3 GT;have s1:=e1.size;replace B2:=B2.later e1;replace B3:=B3.later e1;replace B4:=B4.later e1;replace X:=xt X e1;clear e1;obtain ⟨⟨m0,m1,m2,m3⟩,m4,m5,m6,m7⟩:=B4.box4;cases p
 ·have Z:Hid (Value.tuple #[refV 0 0 false false,.bool false]=V):=by unfold Hid;rw [← hV];simp
  clear hV
  go_wp2
  exact bodyPost_ret (v:=.tuple #[refV 0 0 false false,.bool false]) (by simp [results,Tryz.results22,go_sem,m0,m1,m2,m3]) rfl ⟨congrArg Ending.returned Z.out,Ext.set4 (o:=0) X (by omega) _ _ _ _⟩
 clear m0 m1 m2 m3 m4 m5 m6 m7;obtain ⟨⟨a0,a1,a2,a3⟩,_⟩:=B3.box4;go_wp2_with fail;refine (GA _).mono ?_;rintro e w2 ⟨rfl,e2⟩;clear a0 a1 a2 a3 GA;have s2:=e2.size;replace B2:=B2.later e2;replace B3:=B3.later e2;replace B4:=B4.later e2;replace X:=xt X e2;clear e2;obtain ⟨⟨m0,m1,m2,m3⟩,m4,m5,m6,m7⟩:=B4.box4;cases q
 ·have Z:Hid (Value.tuple #[refV 0 0 false false,.bool false]=V):=by unfold Hid;rw [← hV];simp
  clear hV
  go_wp2
  exact bodyPost_ret (v:=.tuple #[refV 0 0 false false,.bool false]) (by simp [results,Tryz.results22,go_sem,m0,m1,m2,m3]) rfl ⟨congrArg Ending.returned Z.out,Ext.set4 (o:=0) X (by omega) _ _ _ _⟩
 clear m0 m1 m2 m3 m4 m5 m6 m7;obtain ⟨hk,hm,ha,hd⟩:=gTurnB_bd hp;obtain ⟨hr,hc⟩:=goodRB_bd hq;clear hp hq;obtain ⟨⟨a0,a1,a2,a3⟩,_⟩:=B3.box4;go_upto_region 4 with fail;have B6:=Vec.made4 w2 (.int .i64 r) (.int .i64 c) (.bool f) (.bool g) 43;have x6:=x1 w2 (.cells #[.int .i64 r,.int .i64 c,.bool f,.bool g] 43);obtain ⟨w3,hw3⟩:∃ w3,w2.alloc (.cells #[.int .i64 r,.int .i64 c,.bool f,.bool g] 43)=w3:=⟨_,rfl⟩;rw [hw3] at B6 x6 ⊢;obtain ⟨b6,hb6⟩:∃ b,w2.heap.size=b:=⟨_,rfl⟩;rw [hb6] at B6 ⊢;clear hw3 a0 a1 a2 a3;replace B2:=B2.later x6;replace B3:=B3.later x6;replace B4:=B4.later x6;replace X:=xt X x6;have g6:w.heap.size+1+1+1≤b6:=by omega
 clear x6 s1 s2 s0 hb6;obtain rfl | rfl:=hk
 ·have lim:limT 1=1000:=by simp [limT]
  rw [lim] at ha hd;simp only [true_and,if_true,if_true] at hV;have TN:=fun w=>turnS 1 a m d r 1000 w lim hm (by omega) (by omega);have TI:=tN_is 1000 a m d r;obtain ⟨v,hv⟩:∃ v,tN 1000 a m d r=v:=⟨_,rfl⟩;rw [hv] at TN hV TI;have v0:0≤v∧v≤1000:=by
   cases d <;> simp at TI hd <;> omega
  have Z:Hid (v=0→Value.tuple #[refV 0 0 false false,.bool false]=V):=fun h=>by rw [← hV,if_pos h]
  have Y:Hid (v ≠ 0→Value.tuple #[refV v c f g,.bool true]=V):=fun h=>by rw [← hV,if_neg h]
  have G:Hid (∀ w,Calls Tryz.prog 33 #[refV v c f g] w fun e w'=>e=.returned (.bool (decide (v ≠ 0)))∧Ext w w'):=fun w=>by
   have e:decide (v ≠ 0)=goodRB v c:=by
    unfold goodRB;rw [decide_eq_decide];omega
   rw [e];exact goodRS _ _ _ _ _
  clear hV hv TI hm ha hd lim hr hc;obtain ⟨⟨b0,b1,b2,b3⟩,_⟩:=B2.box4;obtain ⟨⟨a0,a1,a2,a3⟩,_⟩:=B3.box4;go_wp2_with fail;clear b0 b1 b2 b3 a0 a1 a2 a3;refine (TN _).mono ?_;rintro e w4 ⟨rfl,e4⟩;replace B4:=B4.later e4;replace B6:=B6.later e4;replace X:=xt X e4;clear e4 B2 B3 TN;obtain ⟨⟨a0,a1,a2,a3⟩,a4,a5,a6,a7⟩:=B6.box4;have N6:=B6.put 0 (by simp) (.int .i64 v);have N4:=B4.far (p:=⟨b6,0,none⟩) (by simp only;omega) (.int .i64 v);have NX:=xset (p:=⟨b6,0,none⟩) X (by simp only;omega) (.int .i64 v);go_upto_region 7 with fail;obtain ⟨w5,hw5⟩:∃ u,w4.setCell ⟨b6,0,none⟩ (.int .i64 v)=u:=⟨_,rfl⟩;rw [hw5] at N6 N4 NX ⊢;clear hw5 a0 a1 a2 a3 a4 a5 a6 a7 B4 B6 X;obtain ⟨⟨a0,a1,a2,a3⟩,_⟩:=N6.box4;go_wp2_with fail;refine (G.out _).mono ?_;rintro e w6 ⟨rfl,e6⟩;clear a0 a1 a2 a3;replace N6:=N6.later e6;replace N4:=N4.later e6;replace NX:=xt NX e6;clear e6 G;obtain ⟨⟨a0,a1,a2,a3⟩,_⟩:=N6.box4;obtain ⟨⟨m0,m1,m2,m3⟩,m4,m5,m6,m7⟩:=N4.box4;by_cases h0:v=0
  ·have ZZ:Hid (Value.tuple #[refV 0 0 false false,.bool false]=V):=Z.out h0;have f0:decide (v ≠ 0)=false:=decide_eq_false (fun h=>h h0);rw [f0];clear Z Y f0
   go_wp2
   exact bodyPost_ret (v:=.tuple #[refV 0 0 false false,.bool false]) (by simp [results,Tryz.results22,go_sem,m0,m1,m2,m3]) rfl ⟨congrArg Ending.returned ZZ.out,Ext.set4 (o:=0) NX (by omega) _ _ _ _⟩
  ·have ZZ:Hid (Value.tuple #[refV v c f g,.bool true]=V):=Y.out h0;have f0:decide (v ≠ 0)=true:=decide_eq_true h0;rw [f0];clear Z Y f0
   go_wp2
   exact bodyPost_ret (v:=.tuple #[refV v c f g,.bool true]) (by simp [results,Tryz.results22,go_sem,m0,m1,m2,m3]) rfl ⟨congrArg Ending.returned ZZ.out,Ext.set4 (o:=0) NX (by omega) _ _ _ _⟩
 ·have lim:limT 2=200:=by simp [limT]
  rw [lim] at ha hd;simp only [true_and,if_true,show ((2:Int)=1)=False by decide,if_false] at hV;have TN:=fun w=>turnS 2 a m d c 200 w lim hm (by omega) (by omega);have TI:=tN_is 200 a m d c;obtain ⟨v,hv⟩:∃ v,tN 200 a m d c=v:=⟨_,rfl⟩;rw [hv] at TN hV TI;have v0:0≤v∧v≤200:=by
   cases d <;> simp at TI hd <;> omega
  have Z:Hid (v=0→Value.tuple #[refV 0 0 false false,.bool false]=V):=fun h=>by rw [← hV,if_pos h]
  have Y:Hid (v ≠ 0→Value.tuple #[refV r v f g,.bool true]=V):=fun h=>by rw [← hV,if_neg h]
  have G:Hid (∀ w,Calls Tryz.prog 33 #[refV r v f g] w fun e w'=>e=.returned (.bool (decide (v ≠ 0)))∧Ext w w'):=fun w=>by
   have e:decide (v ≠ 0)=goodRB r v:=by
    unfold goodRB;rw [decide_eq_decide];omega
   rw [e];exact goodRS _ _ _ _ _
  clear hV hv TI hm ha hd lim hr hc;obtain ⟨⟨b0,b1,b2,b3⟩,_⟩:=B2.box4;obtain ⟨⟨a0,a1,a2,a3⟩,_⟩:=B3.box4;go_wp2_with fail;clear b0 b1 b2 b3 a0 a1 a2 a3;refine (TN _).mono ?_;rintro e w4 ⟨rfl,e4⟩;replace B4:=B4.later e4;replace B6:=B6.later e4;replace X:=xt X e4;clear e4 B2 B3 TN;obtain ⟨⟨a0,a1,a2,a3⟩,a4,a5,a6,a7⟩:=B6.box4;have N6:=B6.put 1 (by simp) (.int .i64 v);have N4:=B4.far (p:=⟨b6,1,none⟩) (by simp only;omega) (.int .i64 v);have NX:=xset (p:=⟨b6,1,none⟩) X (by simp only;omega) (.int .i64 v);go_upto_region 7 with fail;obtain ⟨w5,hw5⟩:∃ u,w4.setCell ⟨b6,1,none⟩ (.int .i64 v)=u:=⟨_,rfl⟩;rw [hw5] at N6 N4 NX ⊢;clear hw5 a0 a1 a2 a3 a4 a5 a6 a7 B4 B6 X;obtain ⟨⟨a0,a1,a2,a3⟩,_⟩:=N6.box4;go_wp2_with fail;refine (G.out _).mono ?_;rintro e w6 ⟨rfl,e6⟩;clear a0 a1 a2 a3;replace N6:=N6.later e6;replace N4:=N4.later e6;replace NX:=xt NX e6;clear e6 G;obtain ⟨⟨a0,a1,a2,a3⟩,_⟩:=N6.box4;obtain ⟨⟨m0,m1,m2,m3⟩,m4,m5,m6,m7⟩:=N4.box4;by_cases h0:v=0
  ·have ZZ:Hid (Value.tuple #[refV 0 0 false false,.bool false]=V):=Z.out h0;have f0:decide (v ≠ 0)=false:=decide_eq_false (fun h=>h h0);rw [f0];clear Z Y f0
   go_wp2
   exact bodyPost_ret (v:=.tuple #[refV 0 0 false false,.bool false]) (by simp [results,Tryz.results22,go_sem,m0,m1,m2,m3]) rfl ⟨congrArg Ending.returned ZZ.out,Ext.set4 (o:=0) NX (by omega) _ _ _ _⟩
  ·have ZZ:Hid (Value.tuple #[refV r v f g,.bool true]=V):=Y.out h0;have f0:decide (v ≠ 0)=true:=decide_eq_true h0;rw [f0];clear Z Y f0
   go_wp2
   exact bodyPost_ret (v:=.tuple #[refV r v f g,.bool true]) (by simp [results,Tryz.results22,go_sem,m0,m1,m2,m3]) rfl ⟨congrArg Ending.returned ZZ.out,Ext.set4 (o:=0) NX (by omega) _ _ _ _⟩
end Go.Proofs.YtnbagcclckekkaaGreatDoor

