/-
  Several texts in one: Fx5, Oy0, Gw0.
-/
import Derived.Test.YtogecaajnjcenaaGreatDoorMg16
import Derived.Test.YtogecaajnjcenaaGreatDoorMg32
import Derived.Test.YtogecaajnjcenaaGreatDoorMg19
import Derived.Test.YtogecaajnjcenaaGreatDoorMg24
import Derived.Test.YtogecaajnjcenaaGreatDoorMg1
import Derived.Lib.AppendZeros
import Derived.Laws.IdiomStrings
import Derived.Lib.Builder
import Derived.Lib.UnsafeStr
import Derived.Shelf.RegionOpenPlain
namespace Go.Proofs.YtogecaajnjcenaaGreatDoor
open Go.RowKit
structure TextC (row col:Int) (D:NT→List UInt8) (T:Int→Int→Bool→Bool→List UInt8):Prop where
 tell:TellS row col T
 num:∀ (x:NT) (w:World),x.good=true→x.k=1→Calls Tryz.prog 34 #[.agg #[.bool x.n,.int .i64 x.d,.int .i64 x.x]] w fun e w'=>e=.returned (sV (D x))∧Ext w w'
 quo:∀ (f:List UInt8) (w:World),f.length≤1048576→Calls Tryz.prog 35 #[sV f] w fun e w'=>e=.returned (sV (quoT f))∧Ext w w'
 lenD:∀ x,(D x).length≤2000
 lenT:∀ r c f g,(T r c f g).length≤1000
set_option maxRecDepth 8000 in
set_option maxHeartbeats 4000000 in
theorem textLeafS (row col:Int) (D:NT→List UInt8) (T:Int→Int→Bool→Bool→List UInt8) (C:TextC row col D T) (x:NT) (p:Option Addr) (n c:Nat) (ks:List ET) (w:World) (hg:x.good=true) (ht:x.t.length≤1048576)
  (hr:x.k=5∨x.k=6→goodRB x.r x.c=true∧(x.k=6→goodRB x.r2 x.c2=true)) (hk:x.k ≠ 8∧x.k ≠ 9∧x.k ≠ 10∧x.k ≠ 11∧x.k ≠ 12) :
  Calls Tryz.prog 20 #[.agg #[.int .i64 row,.int .i64 col],x.ex (.slice p n c)] w fun e w'=>e=.returned (sV (textE D T (.mk x ks)))∧Ext w w':=by
 have HN:Hid (x.k=1→∀ w,Calls Tryz.prog 34 #[.agg #[.bool x.n,.int .i64 x.d,.int .i64 x.x]] w fun e w'=>e=.returned (sV (D x))∧Ext w w'):=fun h w=>C.num x w hg h;have HQ:Hid (∀ w,Calls Tryz.prog 35 #[sV x.t] w fun e w'=>e=.returned (sV (quoT x.t))∧Ext w w'):=fun w=>C.quo x.t w ht;have HR1:Hid (x.k=5∨x.k=6→∀ w,Calls Tryz.prog 36 #[.agg #[.int .i64 row,.int .i64 col],refV x.r x.c x.f x.g] w fun e w'=>e=.returned (sV (T x.r x.c x.f x.g))∧Ext w w'):=fun h w=>C.tell.tell _ _ _ _ w (hr h).1;have HR2:Hid (x.k=6→∀ w,Calls Tryz.prog 36 #[.agg #[.int .i64 row,.int .i64 col],refV x.r2 x.c2 x.f2 x.g2] w fun e w'=>e=.returned (sV (T x.r2 x.c2 x.f2 x.g2))∧Ext w w'):=fun h w=>C.tell.tell _ _ _ _ w ((hr (.inr h)).2 h);have L1:=C.lenT x.r x.c x.f x.g;have L2:=C.lenT x.r2 x.c2 x.f2 x.g2;obtain ⟨D1,hD1⟩:∃ z,D x=z:=⟨_,rfl⟩;obtain ⟨T1,hT1⟩:∃ z,T x.r x.c x.f x.g=z:=⟨_,rfl⟩;obtain ⟨T2,hT2⟩:∃ z,T x.r2 x.c2 x.f2 x.g2=z:=⟨_,rfl⟩;have HA:Hid (textE D T (.mk x ks)=if x.k=1 then D1 else if x.k=2 then quoT x.t else if x.k=5 then T1 else if x.k=6 then T1++(58 :: T2) else x.t):=by
  show _=_;rw [textE_mk,asmT,hD1,hT1,hT2,if_neg hk.1,if_neg hk.2.1,if_neg hk.2.2.1,if_neg hk.2.2.2.1,if_neg hk.2.2.2.2]
 obtain ⟨R,hR⟩:∃ R,textE D T (.mk x ks)=R:=⟨_,rfl⟩;rw [hR] at HA ⊢;rw [hD1] at HN;rw [hT1] at HR1 L1;rw [hT2] at HR2 L2;clear hR hD1 hT1 hT2 C hg ht hr;obtain ⟨k,t,ng,d,e,r,cc,f,g,ra,ca,fa,ga,q⟩:=x;obtain ⟨wa,ha,X1,VW,-⟩:=boxed w [.int .i64 row,.int .i64 col] 39;obtain ⟨wb,hb,X2,VN,-⟩:=boxed wa [.int .i64 k,sV t,.bool ng,.int .i64 d,.int .i64 e,.int .i64 r,.int .i64 cc,.bool f,.bool g,.int .i64 ra,.int .i64 ca,.bool fa,.bool ga,.int .i64 q,.slice p n c] 55;have HBA:Hid _:=ha;obtain ⟨gW,hgw⟩:∃ z,w.heap.size=z:=⟨_,rfl⟩;have HGW:Hid _:=hgw;rw [hgw] at VW;have HBB:Hid _:=hb;obtain ⟨gN,hgn⟩:∃ z,wa.heap.size=z:=⟨_,rfl⟩;have HG:Hid _:=hgn;rw [hgn] at VN;have VW:=VW.later X2;have X:=xt X1 X2;have hz:gW+1=gN:=by rw [← hgn,← ha,World.size_alloc,hgw]
 have HZ:Hid _:=hz;have a:=vC15 VN;have b:=vC2 VW;clear ha hb hgn hgw hz X1 X2;have hk8:(k == 8)=false:=by simp;exact hk.1
 have hk9:(k == 9)=false:=by simp;exact hk.2.1
 have hk10:(k == 10)=false:=by simp;exact hk.2.2.1
 have hk11:(k == 11)=false:=by simp;exact hk.2.2.2.1
 have hk12:(k == 12)=false:=by simp;exact hk.2.2.2.2
 clear hk;go_enter Tryz.func20,Tryz.ntmps20;go_upto_region 1 with fail;rw [HBA.out,HBB.out]
 (try rw [HG.out])
 (try rw [HGW.out])
 (try rw [HZ.out])
 clear HBA HBB HG HGW HZ;by_cases h1:k=1
 ·subst h1;have HR:Hid (R=D1):=HA.out;have CN:=HN.out rfl wb;clear HA HQ HR1 HR2 HN;go_wp2_with fail;refine CN.mono ?_;rintro e w1 ⟨rfl,e1⟩;go_wp2_with fail;go_ret;exact ⟨ret_str (by rw [HR.out]),xt X e1⟩
 have i1:(k == 1)=false:=by simp;exact h1
 by_cases h2:k=2
 ·subst h2;have HR:Hid (R=quoT t):=HA.out;have CN:=HQ.out wb;clear HA HQ HR1 HR2 HN;go_wp2_with fail;refine CN.mono ?_;rintro e w1 ⟨rfl,e1⟩;go_wp2_with fail;go_ret;exact ⟨ret_str (by rw [HR.out]),xt X e1⟩
 have i2:(k == 2)=false:=by simp;exact h2
 by_cases h5:k=5
 ·subst h5;have HR:Hid (R=T1):=HA.out;have CN:=HR1.out (.inl rfl) wb;clear HA HQ HR1 HR2 HN;go_wp2_with fail;refine CN.mono ?_;rintro e w1 ⟨rfl,e1⟩;go_wp2_with fail;go_ret;exact ⟨ret_str (by rw [HR.out]),xt X e1⟩
 have i5:(k == 5)=false:=by simp;exact h5
 by_cases h6:k=6
 ·subst h6;have HR:Hid (R=T1++(58 :: T2)):=HA.out;have C1:=HR1.out (.inr rfl);have C2:=HR2.out rfl;clear HA HQ HR1 HR2 HN;have q1:(9223372036854775807<T1.length+1)=False:=eq_false (by omega);have q2:(9223372036854775807<T1.length+1+T2.length)=False:=eq_false (by omega);clear L1 L2;have C1:Hid _:=C1;have C2:Hid _:=C2;have HM:Hid (∀ lw,Ext wb lw→Vec lw gN [.int .i64 6,sV t,.bool ng,.int .i64 d,.int .i64 e,.int .i64 r,.int .i64 cc,.bool f,.bool g,.int .i64 ra,.int .i64 ca,.bool fa,.bool ga,.int .i64 q,.slice p n c]∧Vec lw gW [.int .i64 row,.int .i64 col]):=fun lw x=>⟨VN.later x,VW.later x⟩;go_upto_region 9 with fail;refine wp_region_letters_c (fun lx:Nat→Value=>{ tmps:=#[Value.agg #[Value.int .i64 row,Value.int .i64 col],NT.ex ⟨6,t,ng,d,e,r,cc,f,g,ra,ca,fa,ga,q⟩ (.slice p n c),Value.pointer (some ⟨gW,0,none⟩),Value.pointer (some ⟨gN,0,none⟩),lx 4,undef,undef,undef,undef,undef,undef,undef,undef,Value.pointer (some ⟨gN,0,none⟩),Value.pointer (some ⟨gN,0,none⟩),Value.int .i64 6,Value.bool false,Value.bool false,undef,undef,undef,undef,Value.bool false,Value.bool false,undef,undef,undef,undef,Value.bool false,Value.bool false,undef,undef,undef,undef,undef,Value.bool true,Value.bool true,lx 37,lx 38,lx 39,lx 40,lx 41,lx 42,lx 43,lx 44,lx 45,lx 46,lx 47,lx 48,undef,undef,undef,undef,undef,undef,undef,undef,undef,undef,undef,undef,undef,undef,undef,undef,undef,undef,undef,undef,undef,undef,undef,undef,undef,undef,undef,undef,undef,undef,undef,undef,undef,undef,undef,undef,undef,undef,undef,undef,undef,undef,undef,undef,undef,undef,undef,undef,undef,undef,undef,undef,undef,undef,undef,undef,undef,undef,undef,undef,undef,undef,undef,undef,undef,undef,undef,undef,undef,undef,undef,undef,undef,undef,undef,undef,undef,undef,undef,undef,undef,undef,undef,undef,undef,undef,undef,undef,undef,undef,undef,undef,undef,undef,undef,undef,undef,undef,undef,undef,undef,undef,undef,undef,undef,undef,undef,undef,undef,undef,undef,undef,undef],defers:=[] }) (fun L lx lw=>Hid (Ext wb lw∧(L 0=true→lx 37=.agg #[.int .i64 row,.int .i64 col])∧(L 1=true→lx 38=.pointer (some ⟨gN,0,none⟩))∧(L 2=true→lx 39=.pointer (some ⟨gN,5,none⟩))∧(L 3=true→lx 40=refV r cc f g)∧(L 4=true→lx 41=sV T1)∧(L 5=true→lx 42=.string ((⟨T1.toArray⟩:ByteArray)++⟨#[58]⟩))∧(L 6=true→lx 43=.agg #[.int .i64 row,.int .i64 col])∧(L 7=true→lx 44=.pointer (some ⟨gN,0,none⟩))∧(L 8=true→lx 45=.pointer (some ⟨gN,9,none⟩))∧(L 9=true→lx 46=refV ra ca fa ga)∧(L 10=true→lx 47=sV T2)∧(L 11=true→lx 48=.string (((⟨T1.toArray⟩:ByteArray)++⟨#[58]⟩)++⟨T2.toArray⟩))∧(L 12=true→lx 4=.string (((⟨T1.toArray⟩:ByteArray)++⟨#[58]⟩)++⟨T2.toArray⟩)))) rfl (by kernel_rfl) (fun jj=>if jj=4 then Value.string { data:=#[] } else undef) rfl ?_ ?_ ?_
  ·exact ⟨xd (xr _),(fun h=>by cases h),(fun h=>by cases h),(fun h=>by cases h),(fun h=>by cases h),(fun h=>by cases h),(fun h=>by cases h),(fun h=>by cases h),(fun h=>by cases h),(fun h=>by cases h),(fun h=>by cases h),(fun h=>by cases h),(fun h=>by cases h),(fun h=>by cases h)⟩
  ·intro L lx lw ix oo K hK ho hL haf hI hcl;obtain ⟨E,f0,f1,f2,f3,f4,f5,f6,f7,f8,f9,f10,f11,f12⟩:=hI.out
   match ix,ho,hL,haf,hK with
   | 0,ho,hL,haf,hK =>
    cases ho
    (try dsimp only)
    refine Eq.mpr (if_pos (by rfl)) ?_;have q0:=((HM.out _ E).2 0 _ rfl).1;have q1:=((HM.out _ E).2 1 _ rfl).1;go_wp2_with fail;exact hK (fun jj=>if jj=37 then .agg #[.int .i64 row,.int .i64 col] else lx jj) _ ⟨E,(fun _=>rfl),f1,f2,f3,f4,f5,f6,f7,f8,f9,f10,f11,f12⟩
   | 1,ho,hL,haf,hK =>
    cases ho
    (try dsimp only)
    refine Eq.mpr (if_pos (by rfl)) ?_;go_wp2_with fail;exact hK (fun jj=>if jj=38 then .pointer (some ⟨gN,0,none⟩) else lx jj) _ ⟨E,f0,(fun _=>rfl),f2,f3,f4,f5,f6,f7,f8,f9,f10,f11,f12⟩
   | 2,ho,hL,haf,hK =>
    cases ho
    (try dsimp only)
    rw [f1 (haf ⟨1,.data⟩ (by simp) rfl)];refine Eq.mpr (if_pos (by rfl)) ?_;go_wp2_with fail;exact hK (fun jj=>if jj=39 then .pointer (some ⟨gN,5,none⟩) else if jj=38 then .pointer (some ⟨gN,0,none⟩) else lx jj) _ ⟨E,f0,(fun _=>rfl),(fun _=>rfl),f3,f4,f5,f6,f7,f8,f9,f10,f11,f12⟩
   | 3,ho,hL,haf,hK =>
    cases ho
    (try dsimp only)
    rw [f2 (haf ⟨2,.data⟩ (by simp) rfl)];refine Eq.mpr (if_pos (by rfl)) ?_;have q0:=((HM.out _ E).1 5 _ rfl).1;have q1:=((HM.out _ E).1 6 _ rfl).1;have q2:=((HM.out _ E).1 7 _ rfl).1;have q3:=((HM.out _ E).1 8 _ rfl).1;go_wp2_with fail;exact hK (fun jj=>if jj=40 then refV r cc f g else if jj=39 then .pointer (some ⟨gN,5,none⟩) else lx jj) _ ⟨E,f0,f1,(fun _=>rfl),(fun _=>rfl),f4,f5,f6,f7,f8,f9,f10,f11,f12⟩
   | 4,ho,hL,haf,hK =>
    cases ho
    (try dsimp only)
    rw [f0 (haf ⟨0,.data⟩ (by simp) rfl),f3 (haf ⟨3,.data⟩ (by simp) rfl)];refine Eq.mpr (if_pos (by rfl)) ?_;go_wp2_with fail;refine (C1.out lw).mono ?_;rintro rr w' ⟨rfl,e'⟩;go_wp2_with fail;exact hK (fun jj=>if jj=41 then sV T1 else if jj=37 then .agg #[.int .i64 row,.int .i64 col] else if jj=40 then refV r cc f g else lx jj) _ ⟨(xt E e'),(fun _=>rfl),f1,f2,(fun _=>rfl),(fun _=>rfl),f5,f6,f7,f8,f9,f10,f11,f12⟩
   | 5,ho,hL,haf,hK =>
    cases ho
    (try dsimp only)
    rw [f4 (haf ⟨4,.data⟩ (by simp) rfl)];refine Eq.mpr (if_pos (by rfl)) ?_;go_wp2_with fail;exact hK (fun jj=>if jj=42 then .string ((⟨T1.toArray⟩:ByteArray)++⟨#[58]⟩) else if jj=41 then sV T1 else lx jj) _ ⟨E,f0,f1,f2,f3,(fun _=>rfl),(fun _=>rfl),f6,f7,f8,f9,f10,f11,f12⟩
   | 6,ho,hL,haf,hK =>
    cases ho
    (try dsimp only)
    refine Eq.mpr (if_pos (by rfl)) ?_;have q0:=((HM.out _ E).2 0 _ rfl).1;have q1:=((HM.out _ E).2 1 _ rfl).1;go_wp2_with fail;exact hK (fun jj=>if jj=43 then .agg #[.int .i64 row,.int .i64 col] else lx jj) _ ⟨E,f0,f1,f2,f3,f4,f5,(fun _=>rfl),f7,f8,f9,f10,f11,f12⟩
   | 7,ho,hL,haf,hK =>
    cases ho
    (try dsimp only)
    refine Eq.mpr (if_pos (by rfl)) ?_;go_wp2_with fail;exact hK (fun jj=>if jj=44 then .pointer (some ⟨gN,0,none⟩) else lx jj) _ ⟨E,f0,f1,f2,f3,f4,f5,f6,(fun _=>rfl),f8,f9,f10,f11,f12⟩
   | 8,ho,hL,haf,hK =>
    cases ho
    (try dsimp only)
    rw [f7 (haf ⟨7,.data⟩ (by simp) rfl)];refine Eq.mpr (if_pos (by rfl)) ?_;go_wp2_with fail;exact hK (fun jj=>if jj=45 then .pointer (some ⟨gN,9,none⟩) else if jj=44 then .pointer (some ⟨gN,0,none⟩) else lx jj) _ ⟨E,f0,f1,f2,f3,f4,f5,f6,(fun _=>rfl),(fun _=>rfl),f9,f10,f11,f12⟩
   | 9,ho,hL,haf,hK =>
    cases ho
    (try dsimp only)
    rw [f8 (haf ⟨8,.data⟩ (by simp) rfl)];refine Eq.mpr (if_pos (by rfl)) ?_;have q0:=((HM.out _ E).1 9 _ rfl).1;have q1:=((HM.out _ E).1 10 _ rfl).1;have q2:=((HM.out _ E).1 11 _ rfl).1;have q3:=((HM.out _ E).1 12 _ rfl).1;go_wp2_with fail;exact hK (fun jj=>if jj=46 then refV ra ca fa ga else if jj=45 then .pointer (some ⟨gN,9,none⟩) else lx jj) _ ⟨E,f0,f1,f2,f3,f4,f5,f6,f7,(fun _=>rfl),(fun _=>rfl),f10,f11,f12⟩
   | 10,ho,hL,haf,hK =>
    cases ho
    (try dsimp only)
    rw [f6 (haf ⟨6,.data⟩ (by simp) rfl),f9 (haf ⟨9,.data⟩ (by simp) rfl)];refine Eq.mpr (if_pos (by rfl)) ?_;go_wp2_with fail;refine (C2.out lw).mono ?_;rintro rr w' ⟨rfl,e'⟩;go_wp2_with fail;exact hK (fun jj=>if jj=47 then sV T2 else if jj=43 then .agg #[.int .i64 row,.int .i64 col] else if jj=46 then refV ra ca fa ga else lx jj) _ ⟨(xt E e'),f0,f1,f2,f3,f4,f5,(fun _=>rfl),f7,f8,(fun _=>rfl),(fun _=>rfl),f11,f12⟩
   | 11,ho,hL,haf,hK =>
    cases ho
    (try dsimp only)
    rw [f5 (haf ⟨5,.data⟩ (by simp) rfl),f10 (haf ⟨10,.data⟩ (by simp) rfl)];refine Eq.mpr (if_pos (by rfl)) ?_;go_wp2_with fail;exact hK (fun jj=>if jj=48 then .string (((⟨T1.toArray⟩:ByteArray)++⟨#[58]⟩)++⟨T2.toArray⟩) else if jj=42 then .string ((⟨T1.toArray⟩:ByteArray)++⟨#[58]⟩) else if jj=47 then sV T2 else lx jj) _ ⟨E,f0,f1,f2,f3,f4,(fun _=>rfl),f6,f7,f8,f9,(fun _=>rfl),(fun _=>rfl),f12⟩
   | 12,ho,hL,haf,hK =>
    cases ho
    (try dsimp only)
    rw [f11 (haf ⟨11,.data⟩ (by simp) rfl)];refine Eq.mpr (if_pos (by rfl)) ?_;go_wp2_with fail;exact hK (fun jj=>if jj=4 then .string (((⟨T1.toArray⟩:ByteArray)++⟨#[58]⟩)++⟨T2.toArray⟩) else if jj=48 then .string (((⟨T1.toArray⟩:ByteArray)++⟨#[58]⟩)++⟨T2.toArray⟩) else lx jj) _ ⟨E,f0,f1,f2,f3,f4,f5,f6,f7,f8,f9,f10,(fun _=>rfl),(fun _=>rfl)⟩
   | k+13,ho,_,_,_=>simp at ho
  ·intro L lx w9 hall hI;obtain ⟨E,f0,f1,f2,f3,f4,f5,f6,f7,f8,f9,f10,f11,f12⟩:=hI.out
   (try dsimp only)
   rw [f12 (hall 12 (by simp)),f0 (hall 0 (by simp)),f1 (hall 1 (by simp)),f2 (hall 2 (by simp)),f3 (hall 3 (by simp)),f4 (hall 4 (by simp)),f5 (hall 5 (by simp)),f6 (hall 6 (by simp)),f7 (hall 7 (by simp)),f8 (hall 8 (by simp)),f9 (hall 9 (by simp)),f10 (hall 10 (by simp)),f11 (hall 11 (by simp))];clear hI hall f0 f1 f2 f3 f4 f5 f6 f7 f8 f9 f10 f11 f12;go_wp2_with fail;go_ret;exact ⟨ret_str (by rw [HR.out];refine bs_of ?_;simp),xt X E⟩
 have i6:(k == 6)=false:=by simp;exact h6
 have HR:Hid (R=t):=by
  show _=_;rw [HA.out];show (if k=1 then _ else if k=2 then _ else if k=5 then _ else if k=6 then _ else t)=t;rw [if_neg h1,if_neg h2,if_neg h5,if_neg h6]
 clear HA HQ HR1 HR2 HN;go_wp2_with fail;go_ret;exact ⟨ret_str (by rw [HR.out]),X⟩
abbrev OwnY (w:World) (base:Nat) (v:Value) (l:List UInt8):Prop:=w.ownsRow base 5 1 v l.length (encB l)
theorem ownY_nil (w:World) (base:Nat):OwnY w base (.slice none 0 0) []:=World.ownsRow_nil _ _ _ _
theorem ownY_lt {w:World} {base:Nat} {v:Value} {l:List UInt8} (h:OwnY w base v l):∀ r,v.ownBlock=some r→base≤r∧r<w.heap.size:=by
 intro r hr
 rcases h.2 with ⟨rfl,_⟩ | ⟨g,cap,cur,rfl,h2,h3,_⟩
 ·cases hr
 ·have:g=r:=by simpa [Value.ownBlock] using hr
  subst this;refine ⟨h2,?_⟩
  rcases Nat.lt_or_ge g w.heap.size with h' | h'
  ·exact h'
  ·rw [Array.getElem?_eq_none h'] at h3;cases h3
theorem ownY_later {w w':World} {base:Nat} {v:Value} {l:List UInt8} (h:OwnY w base v l) (hx:Ext w w'):OwnY w' base v l:=by
 refine ⟨h.1,h.2.imp id ?_⟩;rintro ⟨g,cap,cur,rfl,h2,h3,h4⟩;exact ⟨g,cap,cur,rfl,h2,by rw [hx.block g (ownY_lt h g rfl).2];exact h3,h4⟩
theorem ownY_slice {w:World} {base:Nat} {v:Value} {l:List UInt8} (h:OwnY w base v l):∃ p c,v=.slice p l.length c∧l.length≤c:=by
 rcases h.2 with ⟨rfl,h0⟩ | ⟨g,cap,cur,rfl,_,_,h3,_⟩
 ·exact ⟨none,0,by rw [h0],by omega⟩
 ·exact ⟨_,_,rfl,h3⟩
theorem infoY:∃ inf,Tryz.prog.info? 5=some inf∧inf.zero=some (.int .u8 0)∧inf.size=1∧inf.bytes=1:=by
 have h:(Tryz.prog.info? 5).map (fun i=>(i.zero,i.size,i.bytes))=some (some (.int .u8 0),1,1):=by kernel_rfl
 cases h':Tryz.prog.info? 5 with
 | none=>rw [h'] at h;cases h
 | some inf =>
  rw [h'] at h;simp at h;exact ⟨inf,rfl,h.1,h.2.1,h.2.2⟩
theorem encB_append (l m:List UInt8):encB (l++m)=encB l++encB m:=by simp [encB]
theorem app_byte (w:World) (base:Nat) (v:Value) (l:List UInt8) (O:OwnY w base v l) (c:UInt8) (b:Nat) (V:Vec w b [.int .u8 (c.toNat:Int)]) (hl:l.length≤9000000) (hb:base≤w.heap.size) :
  ∃ v' w',(Builtin.append_ #[68,68] 68 #[v,.slice (some ⟨b,0,none⟩) 1 1]).run Tryz.prog w=.ok v' w'∧OwnY w' base v' (l++[c])∧w.grownBy w' v.ownBlock:=by
 obtain ⟨inf,hi,hz,hsz,hby⟩:=infoY;obtain ⟨v',w',hrun,O',GW,_⟩:=app_srcG (P:=Tryz.prog) w base 68 68 68 5 inf (.int .u8 0) Tryz.underlying68 hi hz 1 hsz (by rw [hby];omega) rfl v l.length _ O (.slice (some ⟨b,0,none⟩) 1 1) 1 [.int .u8 (c.toNat:Int)]
  (Src.ofSlice (size:=1) w Tryz.underlying68 ⟨b,0,none⟩ 1 1 [.int .u8 (c.toNat:Int)] rfl (fun j u hj=>by rw [Addr.add_lit,Nat.zero_add];exact (V j u hj).1) (fun u hu=>by simp at hu;subst hu;rfl)) (by omega) hb
 refine ⟨v',w',hrun,?_,GW⟩;show World.ownsRow _ _ _ _ _ _ _;rw [List.length_append,encB_append];exact O'
theorem ext_rowY {w0 w w':World} {row:Option Nat} (x:Ext w0 w) (g:w.grownBy w' row) (h:∀ r,row=some r→w0.heap.size≤r):Ext w0 w':=
 ⟨g.os.trans x.os,g.tape.trans x.tape,g.output.trans x.output,Nat.le_trans x.size g.size,fun k hk=>(g.block k (Nat.lt_of_lt_of_le hk x.size) (fun e=>by have:=h k e.symm;omega)).trans (x.block k hk)⟩
theorem conv_text {w:World} {base:Nat} {v:Value} {l:List UInt8} (O:OwnY w base v l):(convert 68 9 v).run Tryz.prog w=.ok (sV l) w:=by
 rcases O.2 with ⟨rfl,h0⟩ | ⟨g,cap,cur,rfl,_⟩
 ·have:l=[]:=List.eq_nil_of_length_eq_zero h0;subst this;rw [run_convert_bytes_string w 68 9 5 none 0 0 Tryz.underlying68 Tryz.underlying5 Tryz.underlying9];rfl
 ·refine run_convert_bytes_back (P:=Tryz.prog) w 68 9 5 ⟨g,0,none⟩ cap l Tryz.underlying68 Tryz.underlying5 Tryz.underlying9 (fun j hj=>?_);exact O.cells (g:=g) rfl j _ (encB_at (List.getElem?_eq_getElem hj))
theorem put_byte (w0 w:World) (v:Value) (l:List UInt8) (c:UInt8) (x:Ext w0 w) (O:OwnY w w0.heap.size v l) (hl:l.length≤9000000) :
  ∃ p n q w2,(Builtin.append_ #[68,68] 68 #[v,.slice (some ⟨w.heap.size,0,none⟩) 1 1]).run Tryz.prog (w.alloc (.cells #[.int .u8 (c.toNat:Int)] 5))=.ok (.slice p n q) w2∧OwnY w2 w0.heap.size (.slice p n q) (l++[c])∧Ext w0 w2:=by
 have X:=x1 w (.cells #[.int .u8 (c.toNat:Int)] 5);have V:=vec_made w [.int .u8 (c.toNat:Int)] 5;obtain ⟨v',w',hrun,O',GW⟩:=app_byte _ _ v l (ownY_later O X) c w.heap.size V hl (Nat.le_trans x.size X.size);obtain ⟨p,q,rfl,_⟩:=ownY_slice O';exact ⟨p,_,q,w',hrun,O',ext_rowY (xt x X) GW (fun r hr=>(ownY_lt O r hr).1)⟩
def WrAt (w:World) (B b:Nat) (how p:Value) (l:List UInt8):Prop:=B≤b∧∃ v,w.heap[b]?=some (.cells #[how,p,v] 72 (0,0))∧OwnY w B v l∧v.ownBlock ≠ some b
def Wr (w:World) (B b:Nat) (how:Value) (l:List UInt8):Prop:=WrAt w B b how (.pointer none) l∨WrAt w B b how (.pointer (some ⟨b,1,none⟩)) l
theorem heap_lt {w:World} {b:Nat} {o:Obj} (h:w.heap[b]?=some o):b<w.heap.size:=by
 rcases Nat.lt_or_ge b w.heap.size with h' | h'
 ·exact h'
 ·rw [Array.getElem?_eq_none h'] at h;cases h
theorem WrAt.later {w w':World} {B b:Nat} {how p:Value} {l:List UInt8} (h:WrAt w B b how p l) (x:Ext w w'):WrAt w' B b how p l:=by
 obtain ⟨h1,v,h2,h3,h4⟩:=h;exact ⟨h1,v,by rw [x.block b (heap_lt h2)];exact h2,ownY_later h3 x,h4⟩
theorem Wr.later {w w':World} {B b:Nat} {how:Value} {l:List UInt8} (h:Wr w B b how l) (x:Ext w w'):Wr w' B b how l:=h.imp (fun q=>q.later x) (fun q=>q.later x)
theorem Wr.any {w:World} {B b:Nat} {how:Value} {l:List UInt8} (h:Wr w B b how l):∃ p,WrAt w B b how p l:=h.elim (fun q=>⟨_,q⟩) (fun q=>⟨_,q⟩)
theorem WrAt.cells {w:World} {B b:Nat} {how p:Value} {l:List UInt8} (h:WrAt w B b how p l):w.cell? ⟨b,0,none⟩=some how∧w.cell? ⟨b,1,none⟩=some p:=by
 obtain ⟨_,v,h2,_⟩:=h;exact ⟨by rw [Lib.cell_of_heap h2];rfl,by rw [Lib.cell_of_heap h2];rfl⟩
theorem Wr.how {w:World} {B b:Nat} {how:Value} {l:List UInt8} (h:Wr w B b how l):w.cell? ⟨b,0,none⟩=some how:=by
 obtain ⟨p,h⟩:=h.any;exact h.cells.1
theorem Wr.base {w:World} {B b:Nat} {how:Value} {l:List UInt8} (h:Wr w B b how l):B≤b∧b<w.heap.size:=by
 obtain ⟨p,h1,v,h2,_⟩:=h.any;exact ⟨h1,heap_lt h2⟩
theorem ownY_set {w:World} {B b i:Nat} {v u:Value} {l:List UInt8} (h:OwnY w B v l) (hne:v.ownBlock ≠ some b):OwnY (w.setCell ⟨b,i,none⟩ u) B v l:=
 h.kept (row:=some b) ⟨rfl,rfl,rfl,by simp [World.setCell],fun k _ hk=>Below.heap_setCell _ _ _ _ (fun e=>hk (by simp [e]))⟩ (.inr hne)
theorem WrAt.used {w:World} {B b:Nat} {how p:Value} {l:List UInt8} (h:WrAt w B b how p l) (q:Value):WrAt (w.setCell ⟨b,1,none⟩ q) B b how q l:=by
 obtain ⟨h1,v,h2,h3,h4⟩:=h;refine ⟨h1,v,?_,ownY_set h3 h4,h4⟩;simp [World.setCell,Array.getElem?_modify,h2]
theorem WrAt.put {w:World} {B b:Nat} {how p v v':Value} {l:List UInt8} (h1:B≤b) (h2:w.heap[b]?=some (.cells #[how,p,v] 72 (0,0))) (h3:OwnY w B v' l):WrAt (w.setCell ⟨b,2,none⟩ v') B b how p l:=by
 have h4:=Lib.ownBlock_ne h3 h2 (by decide);refine ⟨h1,v',?_,ownY_set h3 h4,h4⟩;simp [World.setCell,Array.getElem?_modify,h2]
def Buf (w:World) (b k:Nat):Prop:=∃ how p v,w.heap[b]?=some (.cells #[how,p,v] 72 (0,0))∧v.ownBlock=some k
structure WrX (b:Nat) (w w':World):Prop where
 os:w'.os=w.os
 tape:w'.tape=w.tape
 output:w'.output=w.output
 size:w.heap.size≤w'.heap.size
 block:∀ k,k<w.heap.size→k ≠ b→¬ Buf w b k→w'.heap[k]?=w.heap[k]?
 buf:∀ k,Buf w' b k→Buf w b k∨w.heap.size≤k
theorem WrX.refl (b:Nat) (w:World):WrX b w w:=⟨rfl,rfl,rfl,Nat.le_refl _,fun _ _ _ _=>rfl,fun _ h=>.inl h⟩
theorem WrX.trans {b:Nat} {w1 w2 w3:World} (h:WrX b w1 w2) (k:WrX b w2 w3):WrX b w1 w3:=by
 refine ⟨k.os.trans h.os,k.tape.trans h.tape,k.output.trans h.output,Nat.le_trans h.size k.size,fun i hi hb hn=>?_,fun i hi=>?_⟩
 ·rw [k.block i (Nat.lt_of_lt_of_le hi h.size) hb (fun hq=>(h.buf i hq).elim hn (fun hq=>absurd hi (by omega))),h.block i hi hb hn]
 ·rcases k.buf i hi with hq | hq
  ·exact h.buf i hq
  ·exact .inr (Nat.le_trans h.size hq)
theorem wrX_ext {b:Nat} {w w':World} (h:Ext w w') (hb:b<w.heap.size):WrX b w w':=by
 refine ⟨h.os,h.tape,h.output,h.size,fun k hk _ _=>h.block k hk,fun k hk=>.inl ?_⟩;obtain ⟨how,p,v,h2,h3⟩:=hk;exact ⟨how,p,v,by rw [← h.block b hb];exact h2,h3⟩
theorem buf_of {w:World} {b k:Nat} {how p v:Value} (h2:w.heap[b]?=some (.cells #[how,p,v] 72 (0,0))) (h:Buf w b k):v.ownBlock=some k:=by
 obtain ⟨_,_,v',h3,h4⟩:=h;rw [h2] at h3;cases h3;exact h4
theorem wrX_mk {b:Nat} {w w':World} {how p v how' p' v':Value} (os:w'.os=w.os) (tape:w'.tape=w.tape) (output:w'.output=w.output) (size:w.heap.size≤w'.heap.size)
  (h2:w.heap[b]?=some (.cells #[how,p,v] 72 (0,0))) (h2':w'.heap[b]?=some (.cells #[how',p',v'] 72 (0,0)))
  (hblk:∀ k,k<w.heap.size→k ≠ b→v.ownBlock ≠ some k→w'.heap[k]?=w.heap[k]?) (hv:∀ k,v'.ownBlock=some k→v.ownBlock=some k∨w.heap.size≤k):WrX b w w':=
 ⟨os,tape,output,size,fun k hk hb hn=>hblk k hk hb (fun e=>hn ⟨how,p,v,h2,e⟩),fun k hk=>(hv k (buf_of h2' hk)).imp (fun e=>⟨how,p,v,h2,e⟩) id⟩
theorem Wr.buf {w:World} {B b k:Nat} {how:Value} {l:List UInt8} (h:Wr w B b how l) (hk:Buf w b k):B≤k∧k<w.heap.size:=by
 obtain ⟨p,h1,v,h2,h3,_⟩:=h.any;exact ownY_lt h3 k (buf_of h2 hk)
theorem WrX.below {w w':World} {B b:Nat} {how:Value} {l:List UInt8} (x:WrX b w w') (h:Wr w B b how l):Below B w w':=
 ⟨x.os,x.tape,x.output,x.size,fun k hk=>x.block k (by have:=h.base;omega) (by have:=h.base;omega) (fun hq=>by have:=(Wr.buf h hq).1;omega)⟩
def Safe (w:World) (b g:Nat):Prop:=g<w.heap.size∧g ≠ b∧¬ Buf w b g
theorem Safe.keep {w w':World} {b g:Nat} (h:Safe w b g) (x:WrX b w w'):Safe w' b g:=⟨Nat.lt_of_lt_of_le h.1 x.size,h.2.1,fun hq=>(x.buf g hq).elim h.2.2 (fun hq=>by have:=h.1;omega)⟩
theorem Safe.same {w w':World} {b g:Nat} (h:Safe w b g) (x:WrX b w w'):w'.heap[g]?=w.heap[g]?:=x.block g h.1 h.2.1 h.2.2
theorem safe_new {w w':World} {B b g:Nat} {how:Value} {l:List UInt8} (h:Wr w B b how l) (x:Ext w w') (h1:w.heap.size≤g) (h2:g<w'.heap.size):Safe w' b g:=by
 have hb:=h.base;refine ⟨h2,by omega,fun hq=>?_⟩;obtain ⟨how',p,v,h3,h4⟩:=hq;rw [x.block b hb.2] at h3;have:=(Wr.buf h ⟨how',p,v,h3,h4⟩).2;omega
theorem vec_same {w w':World} {g:Nat} {L:List Value} (V:Vec w g L) (h:w'.heap[g]?=w.heap[g]?):Vec w' g L:=fun i v hv=>by
 have q:=V i v hv;unfold World.cell? World.frozen? at q ⊢;simp only [h];exact q
theorem app_textB (w:World) (base:Nat) (v:Value) (l:List UInt8) (O:OwnY w base v l) (t:List UInt8) (hl:l.length+t.length≤9000000) (hb:base≤w.heap.size) :
  ∃ v' w',(Builtin.append_ #[68,9] 68 #[v,sV t]).run Tryz.prog w=.ok v' w'∧OwnY w' base v' (l++t)∧w.grownBy w' v.ownBlock∧(v'.ownBlock=v.ownBlock∨v'.ownBlock=some w.heap.size):=by
 obtain ⟨inf,hi,hz,hsz,hby⟩:=infoY;obtain ⟨v',w',hrun,O',GW,HV⟩:=app_srcG (P:=Tryz.prog) w base 68 9 68 5 inf (.int .u8 0) Tryz.underlying68 hi hz 1 hsz (by rw [hby];omega) rfl v l.length _ O (sV t) t.length (encB t)
  (Src.ofString w Tryz.underlying9 ⟨t.toArray⟩) (by omega) hb
 refine ⟨v',w',hrun,?_,GW,HV⟩;show World.ownsRow _ _ _ _ _ _ _;rw [List.length_append,encB_append];exact O'
theorem set_heap {w:World} {b:Nat} {how p v q:Value} (i:Nat) (h2:w.heap[b]?=some (.cells #[how,p,v] 72 (0,0))):(w.setCell ⟨b,i,none⟩ q).heap[b]?=some (.cells (#[how,p,v].setIfInBounds i q) 72 (0,0)):=by
 simp [World.setCell,Array.getElem?_modify,h2]
theorem sizeBld:(Tryz.prog.info? 70).map (·.size)=some 2:=by kernel_rfl
theorem liesBld:liesAt Tryz.prog Tryz.prog.depth 72 (3 / Tryz.prog.cellsOf 72) 1 70 1=true:=by kernel_rfl
set_option maxRecDepth 8000 in
set_option maxHeartbeats 2000000 in
theorem copyW (B b:Nat) (how:Value) (l:List UInt8) (w:World) (h:Wr w B b how l) :
  Calls Tryz.prog 60 #[.pointer (some ⟨b,1,none⟩)] w fun e w'=>e=.returned (.tuple #[])∧WrAt w' B b how (.pointer (some ⟨b,1,none⟩)) l∧WrX b w w':=by
 obtain ⟨j,hj,hjs⟩:=Option.map_eq_some_iff.1 sizeBld
 rcases h with h | h
 ·have HW:Hid _:=h;have c1:=h.cells.2;have f1:w.frozen? ⟨b,1,none⟩=false:=by obtain ⟨_,v,h2,_⟩:=h;exact Lib.frozen_of_heap h2 1
  have hsh:w.shape? b=some (72,3):=by obtain ⟨_,v,h2,_⟩:=h;simp [World.shape?,h2]
  have HX:Hid (WrX b w (w.setCell ⟨b,1,none⟩ (.pointer (some ⟨b,1,none⟩)))):=by
   obtain ⟨_,v,h2,_⟩:=h;exact wrX_mk rfl rfl rfl (by simp [World.setCell]) h2 (set_heap 1 h2) (fun k _ hk _=>Below.heap_setCell _ _ _ _ hk) (fun k hk=>.inl hk)
  clear h;go_enter Tryz.func60,Tryz.ntmps60;go_wp2_with fail;rw [Lib.run_to_unsafe w ⟨b,1,none⟩ Tryz.underlying67 Tryz.underlying143 hj (by rw [hjs];decide) hsh (by show 1<3;omega)];simp only [Result.andThen];rw [Oper.upon_value];go_wp2_with fail;rw [run_callFunc_extern Tryz.func85 (by kernel_rfl) (by kernel_rfl) (by kernel_rfl) (e:=Extern.AbiNoEscape.same) (by kernel_rfl)];rw [Lib.run_noEscape];simp only [Result.andThen];rw [Oper.upon_value];go_wp2_with fail;rw [Lib.run_from_unsafe w ⟨b,1,none⟩ Tryz.underlying143 Tryz.underlying67 hj hsh liesBld];simp only [Result.andThen];rw [Oper.upon_value];go_wp2_with fail
  go_end0
  exact ⟨rfl,WrAt.used HW.out _,HX.out⟩
 ·have HW:Hid _:=h;have c1:=h.cells.2;clear h;go_enter Tryz.func60,Tryz.ntmps60;go_wp2_with fail;rw [Lib.run_neq_ptr_same w _ Tryz.underlying67 hj];go_wp2_with fail
  go_end0
  exact ⟨rfl,HW.out,WrX.refl b w⟩
set_option maxRecDepth 8000 in
set_option maxHeartbeats 2000000 in
theorem writeW (B b:Nat) (how:Value) (l t:List UInt8) (w:World) (h:Wr w B b how l) (hl:l.length+t.length≤9000000) :
  Calls Tryz.prog 42 #[.pointer (some ⟨b,1,none⟩),sV t] w fun e w'=>(∃ v,e=.returned v)∧Wr w' B b how (l++t)∧WrX b w w':=by
 have CC:=copyW B b how l w h;obtain ⟨s,hs⟩:∃ s:ByteArray,(⟨t.toArray⟩:ByteArray)=s:=⟨_,rfl⟩;have HS:Hid _:=hs;have HB:=h.base;show Calls Tryz.prog 42 #[.pointer (some ⟨b,1,none⟩),.string ⟨t.toArray⟩] w _;rw [hs];clear hs h;go_enter Tryz.func42,Tryz.ntmps42;go_wp2_with fail;refine CC.mono ?_;rintro e w1 ⟨rfl,⟨h1,v,h2,h3,h4⟩,x1⟩;clear CC;obtain ⟨v',w2,hrun,O2,G2,HV⟩:=app_textB w1 B v l h3 t hl (by have:=x1.size;omega);rw [show (sV t:Value)=.string s from congrArg Value.string HS.out] at hrun;obtain ⟨p,q,rfl,_⟩:=ownY_slice O2;have c2:w1.cell? ⟨b,2,none⟩=some v:=by rw [Lib.cell_of_heap h2];rfl
 have h2':w2.heap[b]?=some (.cells #[how,.pointer (some ⟨b,1,none⟩),v] 72 (0,0)):=by rw [G2.block b (heap_lt h2) (fun e=>h4 e.symm)];exact h2
 have d2:w2.cell? ⟨b,2,none⟩=some v:=by rw [Lib.cell_of_heap h2'];rfl
 have f2:w2.frozen? ⟨b,2,none⟩=false:=Lib.frozen_of_heap h2' 2;have HE:Hid (Wr (w2.setCell ⟨b,2,none⟩ (.slice p (l++t).length q)) B b how (l++t)∧WrX b w (w2.setCell ⟨b,2,none⟩ (.slice p (l++t).length q))):=by
  refine ⟨.inr (WrAt.put (v:=v) h1 h2' O2),x1.trans (wrX_mk G2.os G2.tape G2.output ?_ h2 (set_heap 2 h2') (fun k hk hb hn=>?_) (fun k hk=>?_))⟩
  ·have:=G2.size;simpa [World.setCell] using this
  ·rw [Below.heap_setCell _ _ _ _ hb,G2.block k hk (fun e=>hn e.symm)]
  ·rcases HV with e | e
   ·left;rw [← e];exact hk
   ·right;have hk':(Value.slice p (l++t).length q).ownBlock=some k:=hk;rw [e] at hk';cases hk';exact Nat.le_refl _
 clear h2 h3 h4 x1 O2 G2 h2' h1 HB HV;obtain ⟨n,hn⟩:∃ n,(l++t).length=n:=⟨_,rfl⟩;rw [hn] at hrun HE;clear hn;go_wp2_with (at_builtin;refine Lib.wpList_append_run _ rfl _ _ _ _ rfl _ _ rfl rfl _ _ hrun ?_);go_wp2_with fail;exact bodyPost_ret (v:=.tuple #[.int .i64 s.size,.nilIface]) (by simp [results,Tryz.results42,go_sem]) rfl ⟨⟨_,rfl⟩,HE.out⟩
set_option maxRecDepth 8000 in
set_option maxHeartbeats 2000000 in
theorem putW (B b:Nat) (how:Value) (l t:List UInt8) (w:World) (h:Wr w B b how l) (hl:l.length+t.length≤9000000) :
  Calls Tryz.prog 24 #[.pointer (some ⟨b,0,none⟩),sV t] w fun e w'=>e=.returned (.tuple #[])∧Wr w' B b how (l++t)∧WrX b w w':=by
 have CC:=writeW B b how l t w h hl;obtain ⟨s,hs⟩:∃ s:ByteArray,(⟨t.toArray⟩:ByteArray)=s:=⟨_,rfl⟩;rw [show (sV t:Value)=.string s from congrArg Value.string hs] at CC ⊢;clear hs h;go_enter Tryz.func24,Tryz.ntmps24;go_wp2_with fail;refine CC.mono ?_;rintro e w1 ⟨⟨v,rfl⟩,q⟩;have Q:Hid _:=q;clear q;go_wp2_with fail
 go_end0
 exact ⟨rfl,Q.out⟩
set_option maxRecDepth 8000 in
set_option maxHeartbeats 2000000 in
theorem lenW (B b:Nat) (how:Value) (l:List UInt8) (w:World) (h:Wr w B b how l) :
  Calls Tryz.prog 26 #[.pointer (some ⟨b,1,none⟩)] w fun e w'=>e=.returned (.int .i64 l.length)∧w'=w:=by
 obtain ⟨p,h1,v,h2,h3,h4⟩:=h.any;obtain ⟨pp,q,rfl,_⟩:=ownY_slice h3;have c2:w.cell? ⟨b,2,none⟩=some (.slice pp l.length q):=by rw [Lib.cell_of_heap h2];rfl
 clear h h1 h2 h3 h4;go_enter Tryz.func26,Tryz.ntmps26;go_wp2_with fail;go_ret;exact ⟨rfl,rfl⟩
theorem cellsByteY:Tryz.prog.cellsOf 5=1:=by kernel_rfl
set_option maxRecDepth 8000 in
set_option maxHeartbeats 2000000 in
theorem strW (B b:Nat) (how:Value) (l:List UInt8) (w:World) (h:Wr w B b how l) (h0:l ≠ []) :
  Calls Tryz.prog 27 #[.pointer (some ⟨b,1,none⟩)] w fun e w'=>e=.returned (sV l)∧Below B w w':=by
 obtain ⟨p,h1,v,h2,hown,h4⟩:=h.any;have hl0:l.length ≠ 0:=by simpa using h0
 obtain ⟨g,cap,cur,rfl,hbg,hg,hnc,hcm,hcs,htake⟩:∃ g cap cur,v=.slice (some ⟨g,0,none⟩) l.length cap∧B≤g∧w.heap[g]?=some (.cells cur 5 (0,0))∧l.length≤cap∧cap≤maxLen∧cur.size=cap * 1∧cur.toList.take (l.length * 1)=encB l:=by
  rcases hown.2 with ⟨_,hz⟩ | ⟨g,cap,cur,hv,r⟩
  ·exact absurd hz hl0
  ·exact ⟨g,cap,cur,hv,r⟩
 have c2:w.drew.cell? ⟨b,2,none⟩=some (.slice (some ⟨g,0,none⟩) l.length cap):=by
  have:w.drew.heap[b]?=some (.cells #[how,p,.slice (some ⟨g,0,none⟩) l.length cap] 72 (0,0)):=h2;rw [Lib.cell_of_heap this];rfl
 have hSD:(Builtin.unsafeSliceData_ #[68] 114 #[.slice (some ⟨g,0,none⟩) l.length cap]).run Tryz.prog w.drew=.ok (.pointer (some ⟨g,0,none⟩)) w.drew:=
  Lib.run_unsafeSliceData_row _ _ _ _ _ _ (by omega)
 have hUS:(Builtin.unsafeString_ #[114,3] 9 #[.pointer (some ⟨g,0,none⟩),.int .i64 l.length]).run Tryz.prog w.drew=.ok (.string ⟨l.toArray⟩) (w.drew.freeze ⟨g,0,none⟩ l.length):=by
  refine Lib.run_unsafeString_row w.drew 114 3 9 5 Tryz.underlying114 cellsByteY g cur.size (by have hg':w.drew.heap[g]?=some (.cells cur 5 (0,0)):=hg;simp [World.shape?,hg']) l h0 (by omega) (by unfold maxLen at hcm;omega) ?_;intro j x hx;exact hown.cells (g:=g) rfl j (.int .u8 x.toNat) (by simp [encB,hx])
 have HE:Hid (Below B w (w.drew.freeze ⟨g,0,none⟩ l.length)):=Lib.below_freeze (Below.drew (Below.refl B w)) (p:=⟨g,0,none⟩) hbg _;clear h h1 h2 hown h4 hg hnc hcm hcs htake hbg;go_enter Tryz.func27,Tryz.ntmps27;go_wp2_with fail;have mixed:Tryz.prog.follows .mixedOrders=true:=rfl
 go_region_o
 all_goals
  go_wp2_with fail;go_ret;exact ⟨rfl,HE.out⟩
end Go.Proofs.YtogecaajnjcenaaGreatDoor

