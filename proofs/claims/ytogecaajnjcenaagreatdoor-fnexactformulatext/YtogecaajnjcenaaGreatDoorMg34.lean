/-
  Several texts in one: Gw1, Gw2, Nought, ReadNum, IntNum.
-/
import Derived.Test.YtogecaajnjcenaaGreatDoorMg21
import Derived.Test.YtogecaajnjcenaaGreatDoorMg12
import Derived.Test.YtogecaajnjcenaaGreatDoorMg33
import Derived.Shelf.Abstract
import Derived.Test.YtogecaajnjcenaaGreatDoorMg25
import Derived.Test.YtogecaajnjcenaaGreatDoorMg19
import Derived.Test.YtogecaajnjcenaaGreatDoorMg7
import Derived.Test.YtogecaajnjcenaaGreatDoorMg8
import Derived.Test.YtogecaajnjcenaaGreatDoorMg6
import Derived.Test.YtogecaajnjcenaaGreatDoorMg16
namespace Go.Proofs.YtogecaajnjcenaaGreatDoor
open Go.RowKit
theorem mLevL (v:Value) (w:World):(Go.method 354 98 v "loop.example/g00025/impl.level").run Tryz.prog w=.ok (214,v) w:=by kernel_rfl
theorem mLevS (v:Value) (w:World):(Go.method 354 101 v "loop.example/g00025/impl.level").run Tryz.prog w=.ok (217,v) w:=by kernel_rfl
theorem mLevP (v:Value) (w:World):(Go.method 354 106 v "loop.example/g00025/impl.level").run Tryz.prog w=.ok (220,v) w:=by kernel_rfl
theorem mLevC (v:Value) (w:World):(Go.method 354 110 v "loop.example/g00025/impl.level").run Tryz.prog w=.ok (223,v) w:=by kernel_rfl
theorem mLevA (v:Value) (w:World):(Go.method 354 113 v "loop.example/g00025/impl.level").run Tryz.prog w=.ok (226,v) w:=by kernel_rfl
def LevI (T:TypeId) (a:Value) (lv:Int):Prop:=∃ f,(∀ w,(Go.method 354 T a "loop.example/g00025/impl.level").run Tryz.prog w=.ok (f,a) w)∧(∀ args w,(callFunc f args).run Tryz.prog w=.ok (.enter f args) w)∧∀ w,Calls Tryz.prog f #[a] w fun e w'=>e=.returned (.int .i64 lv)∧Ext w w'
set_option maxRecDepth 8000 in
set_option maxHeartbeats 2000000 in
theorem levLeaf (x:NT):LevI 98 x.val 8:=by
 refine ⟨_,mLevL _,fun args w=>by kernel_rfl,fun w=>?_⟩;have X:=x1 w (.cells #[.int .i64 x.k,sV x.t,.bool x.n,.int .i64 x.d,.int .i64 x.x,.int .i64 x.r,.int .i64 x.c,.bool x.f,.bool x.g,.int .i64 x.r2,.int .i64 x.c2,.bool x.f2,.bool x.g2,.int .i64 x.q] 98);go_enter Tryz.func214,Tryz.ntmps214;go_wp2_with fail;go_ret;exact ⟨rfl,X⟩
set_option maxRecDepth 8000 in
set_option maxHeartbeats 2000000 in
theorem levSigned (k:Int) (kid:Value) (hk:k=8∨k=9):LevI 101 (.agg #[.int .i64 k,kid]) (if k=8 then 6 else 7):=by
 refine ⟨_,mLevS _,fun args w=>by kernel_rfl,fun w=>?_⟩;obtain ⟨wa,ha,X,VN,-⟩:=boxed w [.int .i64 k,kid] 101;have a:=vC2 VN
 rcases hk with rfl | rfl
 ·go_enter Tryz.func217,Tryz.ntmps217;go_wp2_with fail;go_ret;exact ⟨rfl,X⟩
 ·go_enter Tryz.func217,Tryz.ntmps217;go_wp2_with fail;go_ret;exact ⟨rfl,X⟩
set_option maxRecDepth 8000 in
set_option maxHeartbeats 2000000 in
theorem levPair (t:List UInt8) (lev:Int) (l r:Value):LevI 106 (.agg #[sV t,.int .i64 lev,l,r]) lev:=by
 refine ⟨_,mLevP _,fun args w=>by kernel_rfl,fun w=>?_⟩;obtain ⟨wa,ha,X,VN,-⟩:=boxed w [sV t,.int .i64 lev,l,r] 106;have a:=vC4 VN;go_enter Tryz.func220,Tryz.ntmps220;go_wp2_with fail;go_ret;exact ⟨rfl,X⟩
set_option maxRecDepth 8000 in
set_option maxHeartbeats 2000000 in
theorem levCall (t:List UInt8) (p:Option Addr) (n c:Nat):LevI 110 (.agg #[sV t,.slice p n c]) 8:=by
 refine ⟨_,mLevC _,fun args w=>by kernel_rfl,fun w=>?_⟩;have X:=x1 w (.cells #[sV t,.slice p n c] 110);go_enter Tryz.func223,Tryz.ntmps223;go_wp2_with fail;go_ret;exact ⟨rfl,X⟩
set_option maxRecDepth 8000 in
set_option maxHeartbeats 2000000 in
theorem levArray (r:Int) (p:Option Addr) (n c:Nat):LevI 113 (.agg #[.int .i64 r,.slice p n c]) 8:=by
 refine ⟨_,mLevA _,fun args w=>by kernel_rfl,fun w=>?_⟩;have X:=x1 w (.cells #[.int .i64 r,.slice p n c] 113);go_enter Tryz.func226,Tryz.ntmps226;go_wp2_with fail;go_ret;exact ⟨rfl,X⟩
theorem levTree {w:World} {U:Nat→Prop} {v:Value} {e:ET} (h:TreeV w U v e):∃ T a,v=.iface T a∧LevI T a (lvE e):=by
 cases h with
 | leaf x es hk =>
  refine ⟨_,_,rfl,?_⟩;have:lvE (.mk x es)=8:=by
   show (if x.k=8 then (6:Int) else if x.k=9 then 7 else if x.k=10 then lvOp x.t else 8)=8;rw [if_neg hk.1,if_neg hk.2.1,if_neg hk.2.2.1]
  rw [this];exact levLeaf x
 | signed x v e hk h =>
  refine ⟨_,_,rfl,?_⟩;have:lvE (.mk x [e])=if x.k=8 then 6 else 7:=by
   show (if x.k=8 then (6:Int) else if x.k=9 then 7 else if x.k=10 then lvOp x.t else 8)=_
   rcases hk with hk | hk
   ·rw [if_pos hk,if_pos hk]
   ·rw [hk];rfl
  rw [this];exact levSigned x.k v hk
 | pair x l r e f hk h1 h2 =>
  refine ⟨_,_,rfl,?_⟩;have:lvE (.mk x [e,f])=(aheadO x.t).2:=by
   show (if x.k=8 then (6:Int) else if x.k=9 then 7 else if x.k=10 then lvOp x.t else 8)=_;rw [hk];rfl
  rw [this];exact levPair _ _ _ _
 | call x p cap es s hk hc hp hs =>
  refine ⟨_,_,rfl,?_⟩;have:lvE (.mk x es)=8:=by
   show (if x.k=8 then (6:Int) else if x.k=9 then 7 else if x.k=10 then lvOp x.t else 8)=8;rw [hk];rfl
  rw [this];exact levCall _ _ _ _
 | array x p cap es s hk h20 hc hp hs =>
  refine ⟨_,_,rfl,?_⟩;have:lvE (.mk x es)=8:=by
   show (if x.k=8 then (6:Int) else if x.k=9 then 7 else if x.k=10 then lvOp x.t else 8)=8;rw [hk];rfl
  rw [this];exact levArray _ _ _ _
def NotI (w0:World) (how:Value) (T:Int→Int→Bool→Bool→List UInt8):Prop:=∃ ty a f,how=.iface ty a∧(∀ w,(Go.method 354 ty a "loop.example/g00025/impl.tell").run Tryz.prog w=.ok (f,a) w)∧(∀ args w,(callFunc f args).run Tryz.prog w=.ok (.enter f args) w) ∧
 ∀ (r c:Int) (g h:Bool) (w:World),goodRB r c=true→Ext w0 w→Calls Tryz.prog f #[a,refV r c g h] w fun e w'=>e=.returned (sV (T r c g h))∧Ext w w'
structure TextI (w0:World) (how:Value) (D:NT→List UInt8) (T:Int→Int→Bool→Bool→List UInt8):Prop where
 tell:NotI w0 how T
 num:∀ (x:NT) (w:World),x.good=true→x.k=1→Ext w0 w→Calls Tryz.prog 61 #[.agg #[.bool x.n,.int .i64 x.d,.int .i64 x.x]] w fun e w'=>e=.returned (sV (D x))∧Ext w w'
 quo:∀ (f:List UInt8) (w:World),f.length≤1048576→Ext w0 w→Calls Tryz.prog 62 #[sV f,sV [34],sV [34,34]] w fun e w'=>e=.returned (sV (quoF f))∧Ext w w'
 lenD:∀ x,(D x).length≤2000
 lenT:∀ r c f g,(T r c f g).length≤1000
set_option maxRecDepth 8000 in
set_option maxHeartbeats 4000000 in
theorem leafI (w0:World) (how:Value) (D:NT→List UInt8) (T:Int→Int→Bool→Bool→List UInt8) (C:TextI w0 how D T) (x:NT) (ks:List ET) (b:Nat) (w:World) (hc:w.cell? ⟨b,0,none⟩=some how) (X0:Ext w0 w) (hg:x.good=true) (ht:x.t.length≤200)
  (hr:x.k=5∨x.k=6→goodRB x.r x.c=true∧(x.k=6→goodRB x.r2 x.c2=true)) (hk:x.k ≠ 8∧x.k ≠ 9∧x.k ≠ 10∧x.k ≠ 11∧x.k ≠ 12) :
  Calls Tryz.prog 43 #[.pointer (some ⟨b,0,none⟩),x.val] w fun e w'=>e=.returned (sV (textE D T (.mk x ks)))∧Ext w w':=by
 obtain ⟨ty,a,fn,rfl,M,EN,CR⟩:=C.tell;have HN:Hid (x.k=1→∀ W,Ext w W→Calls Tryz.prog 61 #[.agg #[.bool x.n,.int .i64 x.d,.int .i64 x.x]] W fun e w'=>e=.returned (sV (D x))∧Ext W w'):=fun h W XW=>C.num x W hg h (xt X0 XW);have HQ:Hid (∀ W,Ext w W→Calls Tryz.prog 62 #[sV x.t,sV [34],sV [34,34]] W fun e w'=>e=.returned (sV (quoF x.t))∧Ext W w'):=fun W XW=>C.quo x.t W (by omega) (xt X0 XW);have HR1:Hid (x.k=5∨x.k=6→∀ W,Ext w W→Calls Tryz.prog fn #[a,refV x.r x.c x.f x.g] W fun e w'=>e=.returned (sV (T x.r x.c x.f x.g))∧Ext W w'):=fun h W XW=>CR _ _ _ _ W (hr h).1 (xt X0 XW);have HR2:Hid (x.k=6→∀ W,Ext w W→Calls Tryz.prog fn #[a,refV x.r2 x.c2 x.f2 x.g2] W fun e w'=>e=.returned (sV (T x.r2 x.c2 x.f2 x.g2))∧Ext W w'):=fun h W XW=>CR _ _ _ _ W ((hr (.inr h)).2 h) (xt X0 XW);have L1:=C.lenT x.r x.c x.f x.g;have L2:=C.lenT x.r2 x.c2 x.f2 x.g2;obtain ⟨D1,hD1⟩:∃ z,D x=z:=⟨_,rfl⟩;obtain ⟨T1,hT1⟩:∃ z,T x.r x.c x.f x.g=z:=⟨_,rfl⟩;obtain ⟨T2,hT2⟩:∃ z,T x.r2 x.c2 x.f2 x.g2=z:=⟨_,rfl⟩;have HA:Hid (textE D T (.mk x ks)=if x.k=1 then D1 else if x.k=2 then quoT x.t else if x.k=5 then T1 else if x.k=6 then T1++(58 :: T2) else x.t):=by
  show _=_;rw [textE_mk,asmT,hD1,hT1,hT2,if_neg hk.1,if_neg hk.2.1,if_neg hk.2.2.1,if_neg hk.2.2.2.1,if_neg hk.2.2.2.2]
 obtain ⟨R,hR⟩:∃ R,textE D T (.mk x ks)=R:=⟨_,rfl⟩;rw [hR] at HA ⊢;rw [hD1] at HN;rw [hT1] at HR1 L1;rw [hT2] at HR2 L2;clear hR hD1 hT1 hT2 C hg hr CR X0;have ht:x.t.length≤200:=ht;obtain ⟨k,t,ng,d,e,r,cc,f,g,ra,ca,fa,ga,q⟩:=x;obtain ⟨wa,ha,X,VN,-⟩:=boxed w [.int .i64 k,sV t,.bool ng,.int .i64 d,.int .i64 e,.int .i64 r,.int .i64 cc,.bool f,.bool g,.int .i64 ra,.int .i64 ca,.bool fa,.bool ga,.int .i64 q] 43;have hc:=cell_later X hc;have HBA:Hid _:=ha;obtain ⟨gN,hgn⟩:∃ z,w.heap.size=z:=⟨_,rfl⟩;have HG:Hid _:=hgn;rw [hgn] at VN;have cN:=vC14 VN;clear ha hgn;have hk8:(k == 8)=false:=by simp;exact hk.1
 have hk9:(k == 9)=false:=by simp;exact hk.2.1
 have hk10:(k == 10)=false:=by simp;exact hk.2.2.1
 have hk11:(k == 11)=false:=by simp;exact hk.2.2.2.1
 have hk12:(k == 12)=false:=by simp;exact hk.2.2.2.2
 clear hk;go_enter Tryz.func43,Tryz.ntmps43;go_upto_region 1 with fail;rw [HBA.out]
 (try rw [HG.out])
 clear HBA HG;by_cases h1:k=1
 ·subst h1;have HR:Hid (R=D1):=HA.out;have CN:=HN.out rfl wa X;clear HA HQ HR1 HR2 HN;go_wp2_with fail;refine CN.mono ?_;rintro e w1 ⟨rfl,e1⟩;go_wp2_with fail;go_ret;exact ⟨ret_str (by rw [HR.out]),xt X e1⟩
 have i1:(k == 1)=false:=by simp;exact h1
 by_cases h2:k=2
 ·subst h2;have HR:Hid (R=quoT t):=HA.out;have CN:=HQ.out wa X;have HL:Hid ((quoF t).length≤400):=by
   have h1:=quoF_length t;have h2:t.length≤200:=ht;show _≤_;omega
  clear HA HQ HR1 HR2 HN;obtain ⟨u,hu⟩:∃ u,quoF t=u:=⟨_,rfl⟩;have HU:Hid (R=34 :: (u++[34])):=by show _=_;rw [HR.out,← hu];rfl
  rw [hu] at CN HL;have q1:(9223372036854775807<1+u.length)=False:=eq_false (by have:=HL.out;omega);have q2:(9223372036854775807<1+u.length+1)=False:=eq_false (by have:=HL.out;omega);clear hu HR;go_wp2_with fail;refine CN.mono ?_;rintro e w1 ⟨rfl,e1⟩;go_wp2_with fail;go_ret;exact ⟨ret_str (by rw [HU.out];refine bs_of ?_;simp),xt X e1⟩
 have i2:(k == 2)=false:=by simp;exact h2
 by_cases h5:k=5
 ·subst h5;have HR:Hid (R=T1):=HA.out;have CN:Hid _:=HR1.out (.inl rfl);clear HA HQ HR1 HR2 HN;go_upto_region 7 with fail;refine wp_region_letters_c (fun lx:Nat→Value=>{ tmps:=#[Value.pointer (some ⟨b,0,none⟩),NT.val ⟨5,t,ng,d,e,r,cc,f,g,ra,ca,fa,ga,q⟩,undef,Value.pointer (some ⟨gN,0,none⟩),lx 4,Value.pointer (some ⟨gN,0,none⟩),Value.int .i64 5,Value.bool false,Value.bool false,undef,undef,undef,Value.bool false,Value.bool false,undef,undef,undef,undef,undef,Value.bool true,Value.bool true,lx 21,lx 22,lx 23,lx 24,lx 25,lx 26,lx 27,undef,undef,undef,undef,undef,undef,undef,undef,undef,undef,undef,undef,undef,undef,undef,undef,undef,undef,undef,undef],defers:=[] }) (fun L lx lw=>Hid (Ext wa lw∧(L 0=true→lx 21=.pointer (some ⟨b,0,none⟩))∧(L 1=true→lx 22=.pointer (some ⟨b,0,none⟩))∧(L 2=true→lx 23=.pointer (some ⟨b,0,none⟩))∧(L 3=true→lx 24=.iface ty a)∧(L 4=true→lx 25=.pointer (some ⟨gN,5,none⟩))∧(L 5=true→lx 26=refV r cc f g)∧(L 6=true→lx 27=sV T1)∧(L 7=true→lx 4=sV T1))) rfl (by kernel_rfl) (fun jj=>if jj=4 then Value.string { data:=#[] } else undef) rfl ?_ ?_ ?_
  ·exact ⟨xd (xr _),(fun h=>by cases h),(fun h=>by cases h),(fun h=>by cases h),(fun h=>by cases h),(fun h=>by cases h),(fun h=>by cases h),(fun h=>by cases h),(fun h=>by cases h)⟩
  ·intro L lx lw ix oo K hK ho hL haf hI hcl;obtain ⟨E,f0,f1,f2,f3,f4,f5,f6,f7⟩:=hI.out
   match ix,ho,hL,haf,hK with
   | 0,ho,hL,haf,hK =>
    cases ho
    (try dsimp only)
    refine Eq.mpr (if_pos (by rfl)) ?_;go_wp2_with fail;exact hK (fun jj=>if jj=21 then .pointer (some ⟨b,0,none⟩) else lx jj) _ ⟨E,(fun _=>rfl),f1,f2,f3,f4,f5,f6,f7⟩
   | 1,ho,hL,haf,hK =>
    cases ho
    (try dsimp only)
    rw [f0 (haf ⟨0,.data⟩ (by simp) rfl)];refine Eq.mpr (if_pos (by rfl)) ?_;go_wp2_with fail;exact hK (fun jj=>if jj=22 then .pointer (some ⟨b,0,none⟩) else if jj=21 then .pointer (some ⟨b,0,none⟩) else lx jj) _ ⟨E,(fun _=>rfl),(fun _=>rfl),f2,f3,f4,f5,f6,f7⟩
   | 2,ho,hL,haf,hK =>
    cases ho
    (try dsimp only)
    rw [f1 (haf ⟨1,.data⟩ (by simp) rfl)];refine Eq.mpr (if_pos (by rfl)) ?_;go_wp2_with fail;exact hK (fun jj=>if jj=23 then .pointer (some ⟨b,0,none⟩) else if jj=22 then .pointer (some ⟨b,0,none⟩) else lx jj) _ ⟨E,f0,(fun _=>rfl),(fun _=>rfl),f3,f4,f5,f6,f7⟩
   | 3,ho,hL,haf,hK =>
    cases ho
    (try dsimp only)
    rw [f2 (haf ⟨2,.data⟩ (by simp) rfl)];refine Eq.mpr (if_pos (by rfl)) ?_;have q:=cell_later E hc;go_wp2_with fail;exact hK (fun jj=>if jj=24 then .iface ty a else if jj=23 then .pointer (some ⟨b,0,none⟩) else lx jj) _ ⟨E,f0,f1,(fun _=>rfl),(fun _=>rfl),f4,f5,f6,f7⟩
   | 4,ho,hL,haf,hK =>
    cases ho
    (try dsimp only)
    refine Eq.mpr (if_pos (by rfl)) ?_;go_wp2_with fail;exact hK (fun jj=>if jj=25 then .pointer (some ⟨gN,5,none⟩) else lx jj) _ ⟨E,f0,f1,f2,f3,(fun _=>rfl),f5,f6,f7⟩
   | 5,ho,hL,haf,hK =>
    cases ho
    (try dsimp only)
    rw [f4 (haf ⟨4,.data⟩ (by simp) rfl)];refine Eq.mpr (if_pos (by rfl)) ?_;have q0:=cell_later E (VN 5 _ rfl).1;have q1:=cell_later E (VN 6 _ rfl).1;have q2:=cell_later E (VN 7 _ rfl).1;have q3:=cell_later E (VN 8 _ rfl).1;go_wp2_with fail;exact hK (fun jj=>if jj=26 then refV r cc f g else if jj=25 then .pointer (some ⟨gN,5,none⟩) else lx jj) _ ⟨E,f0,f1,f2,f3,(fun _=>rfl),(fun _=>rfl),f6,f7⟩
   | 6,ho,hL,haf,hK =>
    cases ho
    (try dsimp only)
    rw [f3 (haf ⟨3,.data⟩ (by simp) rfl),f5 (haf ⟨5,.data⟩ (by simp) rfl)];refine Eq.mpr (if_pos (by rfl)) ?_;have q:=M lw;have q2:=EN;go_wp2_with fail;refine (CN.out lw (xt X E)).mono ?_;rintro rr w' ⟨rfl,e'⟩;go_wp2_with fail;exact hK (fun jj=>if jj=27 then sV T1 else if jj=24 then .iface ty a else if jj=26 then refV r cc f g else lx jj) _ ⟨(xt E e'),f0,f1,f2,(fun _=>rfl),f4,(fun _=>rfl),(fun _=>rfl),f7⟩
   | 7,ho,hL,haf,hK =>
    cases ho
    (try dsimp only)
    rw [f6 (haf ⟨6,.data⟩ (by simp) rfl)];refine Eq.mpr (if_pos (by rfl)) ?_;go_wp2_with fail;exact hK (fun jj=>if jj=4 then sV T1 else if jj=27 then sV T1 else lx jj) _ ⟨E,f0,f1,f2,f3,f4,f5,(fun _=>rfl),(fun _=>rfl)⟩
   | k+8,ho,_,_,_=>simp at ho
  ·intro L lx w9 hall hI;obtain ⟨E,f0,f1,f2,f3,f4,f5,f6,f7⟩:=hI.out
   (try dsimp only)
   rw [f7 (hall 7 (by simp)),f0 (hall 0 (by simp)),f1 (hall 1 (by simp)),f2 (hall 2 (by simp)),f3 (hall 3 (by simp)),f4 (hall 4 (by simp)),f5 (hall 5 (by simp)),f6 (hall 6 (by simp))];clear hI hall f0 f1 f2 f3 f4 f5 f6 f7;go_wp2_with fail;go_ret;exact ⟨ret_str (by rw [HR.out]),xt X E⟩
 have i5:(k == 5)=false:=by simp;exact h5
 by_cases h6:k=6
 ·subst h6;have HR:Hid (R=T1++(58 :: T2)):=HA.out;have C1:Hid _:=HR1.out (.inr rfl);have C2:Hid _:=HR2.out rfl;clear HA HQ HR1 HR2 HN;have q1:(9223372036854775807<T1.length+1)=False:=eq_false (by omega);have q2:(9223372036854775807<T1.length+1+T2.length)=False:=eq_false (by omega);clear L1 L2;go_upto_region 9 with fail;refine wp_region_letters_c (fun lx:Nat→Value=>{ tmps:=#[Value.pointer (some ⟨b,0,none⟩),NT.val ⟨6,t,ng,d,e,r,cc,f,g,ra,ca,fa,ga,q⟩,undef,Value.pointer (some ⟨gN,0,none⟩),lx 4,Value.pointer (some ⟨gN,0,none⟩),Value.int .i64 6,Value.bool false,Value.bool false,undef,undef,undef,Value.bool false,Value.bool false,undef,undef,undef,undef,undef,Value.bool false,Value.bool false,undef,undef,undef,undef,undef,undef,undef,Value.bool true,Value.bool true,lx 30,lx 31,lx 32,lx 33,lx 34,lx 35,lx 36,lx 37,lx 38,lx 39,lx 40,lx 41,lx 42,lx 43,lx 44,lx 45,undef,undef],defers:=[] }) (fun L lx lw=>Hid (Ext wa lw∧(L 0=true→lx 30=.pointer (some ⟨b,0,none⟩))∧(L 1=true→lx 31=.pointer (some ⟨b,0,none⟩))∧(L 2=true→lx 32=.pointer (some ⟨b,0,none⟩))∧(L 3=true→lx 33=.iface ty a)∧(L 4=true→lx 34=.pointer (some ⟨gN,5,none⟩))∧(L 5=true→lx 35=refV r cc f g)∧(L 6=true→lx 36=sV T1)∧(L 7=true→lx 37=.string ((⟨T1.toArray⟩:ByteArray)++⟨#[58]⟩))∧(L 8=true→lx 38=.pointer (some ⟨b,0,none⟩))∧(L 9=true→lx 39=.pointer (some ⟨b,0,none⟩))∧(L 10=true→lx 40=.pointer (some ⟨b,0,none⟩))∧(L 11=true→lx 41=.iface ty a)∧(L 12=true→lx 42=.pointer (some ⟨gN,9,none⟩))∧(L 13=true→lx 43=refV ra ca fa ga)∧(L 14=true→lx 44=sV T2)∧(L 15=true→lx 45=.string (((⟨T1.toArray⟩:ByteArray)++⟨#[58]⟩)++⟨T2.toArray⟩))∧(L 16=true→lx 4=.string (((⟨T1.toArray⟩:ByteArray)++⟨#[58]⟩)++⟨T2.toArray⟩)))) rfl (by kernel_rfl) (fun jj=>if jj=4 then Value.string { data:=#[] } else undef) rfl ?_ ?_ ?_
  ·exact ⟨xd (xr _),(fun h=>by cases h),(fun h=>by cases h),(fun h=>by cases h),(fun h=>by cases h),(fun h=>by cases h),(fun h=>by cases h),(fun h=>by cases h),(fun h=>by cases h),(fun h=>by cases h),(fun h=>by cases h),(fun h=>by cases h),(fun h=>by cases h),(fun h=>by cases h),(fun h=>by cases h),(fun h=>by cases h),(fun h=>by cases h),(fun h=>by cases h)⟩
  ·intro L lx lw ix oo K hK ho hL haf hI hcl;obtain ⟨E,f0,f1,f2,f3,f4,f5,f6,f7,f8,f9,f10,f11,f12,f13,f14,f15,f16⟩:=hI.out
   match ix,ho,hL,haf,hK with
   | 0,ho,hL,haf,hK =>
    cases ho
    (try dsimp only)
    refine Eq.mpr (if_pos (by rfl)) ?_;go_wp2_with fail;exact hK (fun jj=>if jj=30 then .pointer (some ⟨b,0,none⟩) else lx jj) _ ⟨E,(fun _=>rfl),f1,f2,f3,f4,f5,f6,f7,f8,f9,f10,f11,f12,f13,f14,f15,f16⟩
   | 1,ho,hL,haf,hK =>
    cases ho
    (try dsimp only)
    rw [f0 (haf ⟨0,.data⟩ (by simp) rfl)];refine Eq.mpr (if_pos (by rfl)) ?_;go_wp2_with fail;exact hK (fun jj=>if jj=31 then .pointer (some ⟨b,0,none⟩) else if jj=30 then .pointer (some ⟨b,0,none⟩) else lx jj) _ ⟨E,(fun _=>rfl),(fun _=>rfl),f2,f3,f4,f5,f6,f7,f8,f9,f10,f11,f12,f13,f14,f15,f16⟩
   | 2,ho,hL,haf,hK =>
    cases ho
    (try dsimp only)
    rw [f1 (haf ⟨1,.data⟩ (by simp) rfl)];refine Eq.mpr (if_pos (by rfl)) ?_;go_wp2_with fail;exact hK (fun jj=>if jj=32 then .pointer (some ⟨b,0,none⟩) else if jj=31 then .pointer (some ⟨b,0,none⟩) else lx jj) _ ⟨E,f0,(fun _=>rfl),(fun _=>rfl),f3,f4,f5,f6,f7,f8,f9,f10,f11,f12,f13,f14,f15,f16⟩
   | 3,ho,hL,haf,hK =>
    cases ho
    (try dsimp only)
    rw [f2 (haf ⟨2,.data⟩ (by simp) rfl)];refine Eq.mpr (if_pos (by rfl)) ?_;have q:=cell_later E hc;go_wp2_with fail;exact hK (fun jj=>if jj=33 then .iface ty a else if jj=32 then .pointer (some ⟨b,0,none⟩) else lx jj) _ ⟨E,f0,f1,(fun _=>rfl),(fun _=>rfl),f4,f5,f6,f7,f8,f9,f10,f11,f12,f13,f14,f15,f16⟩
   | 4,ho,hL,haf,hK =>
    cases ho
    (try dsimp only)
    refine Eq.mpr (if_pos (by rfl)) ?_;go_wp2_with fail;exact hK (fun jj=>if jj=34 then .pointer (some ⟨gN,5,none⟩) else lx jj) _ ⟨E,f0,f1,f2,f3,(fun _=>rfl),f5,f6,f7,f8,f9,f10,f11,f12,f13,f14,f15,f16⟩
   | 5,ho,hL,haf,hK =>
    cases ho
    (try dsimp only)
    rw [f4 (haf ⟨4,.data⟩ (by simp) rfl)];refine Eq.mpr (if_pos (by rfl)) ?_;have q0:=cell_later E (VN 5 _ rfl).1;have q1:=cell_later E (VN 6 _ rfl).1;have q2:=cell_later E (VN 7 _ rfl).1;have q3:=cell_later E (VN 8 _ rfl).1;go_wp2_with fail;exact hK (fun jj=>if jj=35 then refV r cc f g else if jj=34 then .pointer (some ⟨gN,5,none⟩) else lx jj) _ ⟨E,f0,f1,f2,f3,(fun _=>rfl),(fun _=>rfl),f6,f7,f8,f9,f10,f11,f12,f13,f14,f15,f16⟩
   | 6,ho,hL,haf,hK =>
    cases ho
    (try dsimp only)
    rw [f3 (haf ⟨3,.data⟩ (by simp) rfl),f5 (haf ⟨5,.data⟩ (by simp) rfl)];refine Eq.mpr (if_pos (by rfl)) ?_;have q:=M lw;have q2:=EN;go_wp2_with fail;refine (C1.out lw (xt X E)).mono ?_;rintro rr w' ⟨rfl,e'⟩;go_wp2_with fail;exact hK (fun jj=>if jj=36 then sV T1 else if jj=33 then .iface ty a else if jj=35 then refV r cc f g else lx jj) _ ⟨(xt E e'),f0,f1,f2,(fun _=>rfl),f4,(fun _=>rfl),(fun _=>rfl),f7,f8,f9,f10,f11,f12,f13,f14,f15,f16⟩
   | 7,ho,hL,haf,hK =>
    cases ho
    (try dsimp only)
    rw [f6 (haf ⟨6,.data⟩ (by simp) rfl)];refine Eq.mpr (if_pos (by rfl)) ?_;go_wp2_with fail;exact hK (fun jj=>if jj=37 then .string ((⟨T1.toArray⟩:ByteArray)++⟨#[58]⟩) else if jj=36 then sV T1 else lx jj) _ ⟨E,f0,f1,f2,f3,f4,f5,(fun _=>rfl),(fun _=>rfl),f8,f9,f10,f11,f12,f13,f14,f15,f16⟩
   | 8,ho,hL,haf,hK =>
    cases ho
    (try dsimp only)
    refine Eq.mpr (if_pos (by rfl)) ?_;go_wp2_with fail;exact hK (fun jj=>if jj=38 then .pointer (some ⟨b,0,none⟩) else lx jj) _ ⟨E,f0,f1,f2,f3,f4,f5,f6,f7,(fun _=>rfl),f9,f10,f11,f12,f13,f14,f15,f16⟩
   | 9,ho,hL,haf,hK =>
    cases ho
    (try dsimp only)
    rw [f8 (haf ⟨8,.data⟩ (by simp) rfl)];refine Eq.mpr (if_pos (by rfl)) ?_;go_wp2_with fail;exact hK (fun jj=>if jj=39 then .pointer (some ⟨b,0,none⟩) else if jj=38 then .pointer (some ⟨b,0,none⟩) else lx jj) _ ⟨E,f0,f1,f2,f3,f4,f5,f6,f7,(fun _=>rfl),(fun _=>rfl),f10,f11,f12,f13,f14,f15,f16⟩
   | 10,ho,hL,haf,hK =>
    cases ho
    (try dsimp only)
    rw [f9 (haf ⟨9,.data⟩ (by simp) rfl)];refine Eq.mpr (if_pos (by rfl)) ?_;go_wp2_with fail;exact hK (fun jj=>if jj=40 then .pointer (some ⟨b,0,none⟩) else if jj=39 then .pointer (some ⟨b,0,none⟩) else lx jj) _ ⟨E,f0,f1,f2,f3,f4,f5,f6,f7,f8,(fun _=>rfl),(fun _=>rfl),f11,f12,f13,f14,f15,f16⟩
   | 11,ho,hL,haf,hK =>
    cases ho
    (try dsimp only)
    rw [f10 (haf ⟨10,.data⟩ (by simp) rfl)];refine Eq.mpr (if_pos (by rfl)) ?_;have q:=cell_later E hc;go_wp2_with fail;exact hK (fun jj=>if jj=41 then .iface ty a else if jj=40 then .pointer (some ⟨b,0,none⟩) else lx jj) _ ⟨E,f0,f1,f2,f3,f4,f5,f6,f7,f8,f9,(fun _=>rfl),(fun _=>rfl),f12,f13,f14,f15,f16⟩
   | 12,ho,hL,haf,hK =>
    cases ho
    (try dsimp only)
    refine Eq.mpr (if_pos (by rfl)) ?_;go_wp2_with fail;exact hK (fun jj=>if jj=42 then .pointer (some ⟨gN,9,none⟩) else lx jj) _ ⟨E,f0,f1,f2,f3,f4,f5,f6,f7,f8,f9,f10,f11,(fun _=>rfl),f13,f14,f15,f16⟩
   | 13,ho,hL,haf,hK =>
    cases ho
    (try dsimp only)
    rw [f12 (haf ⟨12,.data⟩ (by simp) rfl)];refine Eq.mpr (if_pos (by rfl)) ?_;have q0:=cell_later E (VN 9 _ rfl).1;have q1:=cell_later E (VN 10 _ rfl).1;have q2:=cell_later E (VN 11 _ rfl).1;have q3:=cell_later E (VN 12 _ rfl).1;go_wp2_with fail;exact hK (fun jj=>if jj=43 then refV ra ca fa ga else if jj=42 then .pointer (some ⟨gN,9,none⟩) else lx jj) _ ⟨E,f0,f1,f2,f3,f4,f5,f6,f7,f8,f9,f10,f11,(fun _=>rfl),(fun _=>rfl),f14,f15,f16⟩
   | 14,ho,hL,haf,hK =>
    cases ho
    (try dsimp only)
    rw [f11 (haf ⟨11,.data⟩ (by simp) rfl),f13 (haf ⟨13,.data⟩ (by simp) rfl)];refine Eq.mpr (if_pos (by rfl)) ?_;have q:=M lw;have q2:=EN;go_wp2_with fail;refine (C2.out lw (xt X E)).mono ?_;rintro rr w' ⟨rfl,e'⟩;go_wp2_with fail;exact hK (fun jj=>if jj=44 then sV T2 else if jj=41 then .iface ty a else if jj=43 then refV ra ca fa ga else lx jj) _ ⟨(xt E e'),f0,f1,f2,f3,f4,f5,f6,f7,f8,f9,f10,(fun _=>rfl),f12,(fun _=>rfl),(fun _=>rfl),f15,f16⟩
   | 15,ho,hL,haf,hK =>
    cases ho
    (try dsimp only)
    rw [f7 (haf ⟨7,.data⟩ (by simp) rfl),f14 (haf ⟨14,.data⟩ (by simp) rfl)];refine Eq.mpr (if_pos (by rfl)) ?_;go_wp2_with fail;exact hK (fun jj=>if jj=45 then .string (((⟨T1.toArray⟩:ByteArray)++⟨#[58]⟩)++⟨T2.toArray⟩) else if jj=37 then .string ((⟨T1.toArray⟩:ByteArray)++⟨#[58]⟩) else if jj=44 then sV T2 else lx jj) _ ⟨E,f0,f1,f2,f3,f4,f5,f6,(fun _=>rfl),f8,f9,f10,f11,f12,f13,(fun _=>rfl),(fun _=>rfl),f16⟩
   | 16,ho,hL,haf,hK =>
    cases ho
    (try dsimp only)
    rw [f15 (haf ⟨15,.data⟩ (by simp) rfl)];refine Eq.mpr (if_pos (by rfl)) ?_;go_wp2_with fail;exact hK (fun jj=>if jj=4 then .string (((⟨T1.toArray⟩:ByteArray)++⟨#[58]⟩)++⟨T2.toArray⟩) else if jj=45 then .string (((⟨T1.toArray⟩:ByteArray)++⟨#[58]⟩)++⟨T2.toArray⟩) else lx jj) _ ⟨E,f0,f1,f2,f3,f4,f5,f6,f7,f8,f9,f10,f11,f12,f13,f14,(fun _=>rfl),(fun _=>rfl)⟩
   | k+17,ho,_,_,_=>simp at ho
  ·intro L lx w9 hall hI;obtain ⟨E,f0,f1,f2,f3,f4,f5,f6,f7,f8,f9,f10,f11,f12,f13,f14,f15,f16⟩:=hI.out
   (try dsimp only)
   rw [f16 (hall 16 (by simp)),f0 (hall 0 (by simp)),f1 (hall 1 (by simp)),f2 (hall 2 (by simp)),f3 (hall 3 (by simp)),f4 (hall 4 (by simp)),f5 (hall 5 (by simp)),f6 (hall 6 (by simp)),f7 (hall 7 (by simp)),f8 (hall 8 (by simp)),f9 (hall 9 (by simp)),f10 (hall 10 (by simp)),f11 (hall 11 (by simp)),f12 (hall 12 (by simp)),f13 (hall 13 (by simp)),f14 (hall 14 (by simp)),f15 (hall 15 (by simp))];clear hI hall f0 f1 f2 f3 f4 f5 f6 f7 f8 f9 f10 f11 f12 f13 f14 f15 f16;go_wp2_with fail;go_ret;exact ⟨ret_str (by rw [HR.out];refine bs_of ?_;simp),xt X E⟩
 have i6:(k == 6)=false:=by simp;exact h6
 have HR:Hid (R=t):=by
  show _=_;rw [HA.out];show (if k=1 then _ else if k=2 then _ else if k=5 then _ else if k=6 then _ else t)=t;rw [if_neg h1,if_neg h2,if_neg h5,if_neg h6]
 clear HA HQ HR1 HR2 HN;go_wp2_with fail;go_ret;exact ⟨ret_str (by rw [HR.out]),X⟩
set_option maxRecDepth 4000 in
set_option maxHeartbeats 1000000 in
theorem nought_any (n:Nat) (w:World) (hn:n≤1000000) :
  Calls Tryz.prog 52 #[.int .i64 n] w fun e w'=>e=.returned (.string ⟨(List.replicate n (48:UInt8)).toArray⟩)∧Ext w w':=by
 have hmk:=run_make_row' (P:=Tryz.prog) 68 5 (.int .u8 0) 1 Tryz.underlying68 info8 rfl .i64 .i64 n (by omega) (by omega);go_enter Tryz.func52,Tryz.ntmps52;go_wp2_with fail;go_loopw [9] (fun i wr=>∃ m:Nat,m≤n∧i=.int .i64 m∧wr.rowIs w.heap.size 5 n (fun j=>.int .u8 (if j<m then 48 else 0))∧Ext w wr) (fun i _=>n - (intOf i).toNat)
 case atStart=>exact ⟨0,Nat.zero_le _,rfl,(World.rowIs_made w (.int .u8 0) n 5).congr (fun i _=>by simp),x1 _ _⟩
 case round =>
  obtain ⟨m,hm,rfl,hR,X⟩:=hrel;by_cases hlt:m<n
  ·have hlt':(m:Int)<(n:Int):=by omega
   have kz:=World.rowIs.frozen hR m;have kf:=World.rowIs.cell hR (i:=m) hlt;have HR:Hid (wr.rowIs w.heap.size 5 n (fun j=>.int .u8 (if j<m then 48 else 0))):=hR;rw [if_neg (Nat.lt_irrefl _)] at kf;clear hR hmk;go_wp2_with fail;go_roundw
   case rel =>
    refine ⟨m+1,by omega,by go_num,(World.rowIs.set HR.out m (.int .u8 48)).congr (fun j _=>?_),xset X (Nat.le_refl _) _⟩;by_cases hj:j=m
    ·subst hj;simp
    ·simp only [hj,if_false];by_cases h2:j<m
     ·simp [h2,show j<m+1 by omega]
     ·simp [h2,show ¬ j<m+1 by omega]
   case measure=>simp [intOf];omega
  ·obtain rfl:m=n:=by omega
   have hcv:=run_convert_bytes_back (P:=Tryz.prog) wr 68 9 5 ⟨w.heap.size,0,none⟩ m (List.replicate m (48:UInt8)) Tryz.underlying68 Tryz.underlying5 Tryz.underlying9 (fun j hj=>by
    have hj':j<m:=(by simpa using hj);have:=World.rowIs.cell hR (i:=j) hj';rw [Addr.add_lit,Nat.zero_add,this,if_pos hj'];simp)
   rw [List.length_replicate] at hcv;clear hR hmk hlt
   go_wp2
   go_ret;exact ⟨rfl,X⟩
end Go.Proofs.YtogecaajnjcenaaGreatDoor

namespace Go.Proofs.YtogecaajnjcenaaGreatDoor
end Go.Proofs.YtogecaajnjcenaaGreatDoor

namespace Go.Proofs.YtogecaajnjcenaaGreatDoor
theorem good_range {n:Bool} {d e:Int} (h:goodB n d e=true):0≤d∧d<1000000000000000∧(d=0→e=0∧n=false):=by
 unfold goodB at h
 split at h
 ·rename_i h0;simp at h;exact ⟨by omega,by omega,fun _=>⟨h.2,h.1⟩⟩
 ·simp at h;exact ⟨by omega,by omega,fun hd=>absurd hd (by omega)⟩
end Go.Proofs.YtogecaajnjcenaaGreatDoor

