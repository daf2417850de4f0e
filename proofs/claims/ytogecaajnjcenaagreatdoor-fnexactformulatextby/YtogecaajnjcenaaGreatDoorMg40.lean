/-
  Several texts in one: Rqi, Fy0, Gw3, Gw4, Gw5a, Fx4.
-/
import Derived.Test.YtogecaajnjcenaaGreatDoorMg38
import Derived.Test.YtogecaajnjcenaaGreatDoorMg1
import Derived.Test.YtogecaajnjcenaaGreatDoorShelc
import Derived.Test.YtogecaajnjcenaaGreatDoorMg33
import Derived.Test.YtogecaajnjcenaaGreatDoorMg34
import Derived.Test.YtogecaajnjcenaaGreatDoorMg35
import Derived.Test.YtogecaajnjcenaaGreatDoorMg37
import Derived.Test.YtogecaajnjcenaaGreatDoorRt
import Derived.Test.YtogecaajnjcenaaGreatDoorBase
import Derived.Test.YtogecaajnjcenaaGreatDoorMg12
import Derived.Test.YtogecaajnjcenaaGreatDoorMg31
namespace Go.Proofs.YtogecaajnjcenaaGreatDoor
open Go.RowKit
def Tab14 (w:World):Prop:=∃ m,w.cell? ⟨3,0,none⟩=some (.int .i64 m)
theorem Tab14.later {w w':World} (h:Tab14 w) (x:Ext w w'):Tab14 w':=by
 obtain ⟨m,a⟩:=h;exact ⟨m,cell_later x a⟩
theorem extra14:Builder.Extra Tryz.prog layReplAll_ren:={
 sizeBuilder:=by kernel_rfl
 liesBuilder:=by kernel_rfl
 t5:=layReplAll.t5
 a5:=layReplAll.a5
 z5:=layReplAll.z5
 v5:=layReplAll.v5
 infoByte:=by kernel_rfl
 cellsByte:=by kernel_rfl
 sizeByte:=by kernel_rfl
 neB5:=by decide }
theorem fReplAll14:layReplAll_ren.f 155=62:=by kernel_rfl
theorem gMaxLen14:layReplAll_ren.g 1=3:=by kernel_rfl
theorem replI (f:List UInt8) (w:World) (hl:f.length≤1048576) (T:Tab14 w) :
  Calls Tryz.prog 62 #[sV f,sV [34],sV [34,34]] w fun e w'=>e=.returned (sV (quoF f))∧Ext w w':=by
 obtain ⟨m,hm⟩:=T;have hc:=Lib.countB_le ⟨#[34]⟩ (by show 1≤1;omega) f.length ⟨f.toArray⟩ (Nat.le_refl _);have hc2:Lib.countB ⟨f.toArray⟩ ⟨#[34]⟩≤f.length:=hc;have h:=Any.strings_ReplaceAll layReplAll extra14 ⟨f.toArray⟩ ⟨#[34]⟩ ⟨#[34,34]⟩ m w (by show f.length<_;omega) (by rw [gMaxLen14];exact hm) (by show 1≤1;omega) (by show f.length+Lib.countB ⟨f.toArray⟩ ⟨#[34]⟩ * 2≤_;omega);rw [fReplAll14] at h;have e:Lib.replaceAll (⟨f.toArray⟩:ByteArray).data.toList (⟨#[34]⟩:ByteArray).data.toList (⟨#[34,34]⟩:ByteArray).data.toList=quoF f:=replace_quoF f;rw [e] at h;exact h
noncomputable def decN (x:NT):List UInt8:=textT x.n x.d x.x
theorem decN_len (x:NT):(decN x).length≤2000:=by
 unfold decN;by_cases h:goodB x.n x.d x.x=true
 ·rw [textT_good h,List.length_append];obtain ⟨g0,g1,g2⟩:=good_range h;have h1:=(itoa_len0 g0 g1).2;obtain ⟨e0,e1⟩:=good_exp h;have h2:=sizeT_len h1 e0 e1;have h3:(if x.n=true then [45] else ([]:List UInt8)).length≤1:=by split <;> simp
  omega
 ·unfold textT;rw [if_neg h];simp
theorem refT_len (r c:Int) (f g:Bool):(refT r c f g).length≤1000:=by
 unfold refT
 split
 ·next h =>
  have h1:=fixT_len f;have h2:=fixT_len g;have h3:=colName_len c;have h4:=intT_len (n:=r) (by unfold GoodR at h;omega) (by unfold GoodR at h;omega);unfold refL;simp only [List.length_append];omega
 ·simp
theorem good_num {x:NT} (h:x.good=true) (hk:x.k=1):goodB x.n x.d x.x=true:=by
 unfold NT.good goodN at h;rw [if_pos hk,Bool.and_eq_true,Bool.and_eq_true] at h;exact h.2.1
theorem numTS (x:NT) (w:World):Calls Tryz.prog 34 #[.agg #[.bool x.n,.int .i64 x.d,.int .i64 x.x]] w fun e w'=>e=.returned (sV (decN x))∧Ext w w':=
 (textS x.n x.d x.x w).mono fun e w' h=>by
  obtain ⟨s,rfl,hs,hx⟩:=h;exact ⟨ret_str (bs_of hs),hx⟩
theorem numTI (x:NT) (w:World) (hg:x.good=true) (hk:x.k=1) (IT:ItoaC w) (hT:Tens w):Calls Tryz.prog 61 #[.agg #[.bool x.n,.int .i64 x.d,.int .i64 x.x]] w fun e w'=>e=.returned (sV (decN x))∧Ext w w':=by
 obtain ⟨g0,g1,g2⟩:=good_range (good_num hg hk);refine (textI repC x.n x.d x.x w IT (by omega) (by omega) hT).mono fun e w' h=>?_;obtain ⟨s,rfl,hs,hx⟩:=h;exact ⟨ret_str (bs_of hs),hx⟩
set_option maxRecDepth 8000 in
set_option maxHeartbeats 2000000 in
theorem refS0 (r c:Int) (f g:Bool) (w:World):Calls Tryz.prog 36 #[.agg #[.int .i64 0,.int .i64 0],refV r c f g] w fun e w'=>e=.returned (sV (refT r c f g))∧Ext w w':=by
 obtain ⟨wa,ha,X1,VW,-⟩:=boxed w [.int .i64 0,.int .i64 0] 39;obtain ⟨wb,hb,X2,VN,-⟩:=boxed wa [.int .i64 r,.int .i64 c,.bool f,.bool g] 41;have c1:=vC2 (VW.later X2);have c2:=vC4 VN;have CR:Hid (∀ W,Calls Tryz.prog 54 #[refV r c f g] W fun e w'=>e=.returned (sV (refT r c f g))∧Ext W w'):=fun W=>refTextS r c f g W;have HX:Hid (Ext w wb):=xt X1 X2;clear X1 X2 VW VN;go_enter Tryz.func36,Tryz.ntmps36;go_wp2_with fail;refine (CR.out _).mono ?_;rintro e w1 ⟨rfl,e1⟩;go_wp2_with fail;go_ret;exact ⟨rfl,xt HX.out e1⟩
set_option maxRecDepth 8000 in
set_option maxHeartbeats 2000000 in
theorem refS1 (row col:Int) (h1:1≤row) (r c:Int) (f g:Bool) (w:World):Calls Tryz.prog 36 #[.agg #[.int .i64 row,.int .i64 col],refV r c f g] w fun e w'=>e=.returned (sV (byT r c f g row col))∧Ext w w':=by
 obtain ⟨wa,ha,X1,VW,-⟩:=boxed w [.int .i64 row,.int .i64 col] 39;obtain ⟨wb,hb,X2,VN,-⟩:=boxed wa [.int .i64 r,.int .i64 c,.bool f,.bool g] 41;have c1:=vC2 (VW.later X2);have c2:=vC4 VN;have CR:Hid (∀ W,Calls Tryz.prog 53 #[refV r c f g,.int .i64 row,.int .i64 col] W fun e w'=>e=.returned (sV (byT r c f g row col))∧Ext W w'):=fun W=>byTextS r c f g row col W;have HX:Hid (Ext w wb):=xt X1 X2;have i1:0<row:=by omega
 have i2:row > 0:=i1;clear X1 X2 VW VN;go_enter Tryz.func36,Tryz.ntmps36;go_wp2_with fail;refine (CR.out _).mono ?_;rintro e w1 ⟨rfl,e1⟩;go_wp2_with fail;go_ret;exact ⟨rfl,xt HX.out e1⟩
theorem byT_len (row col r c:Int) (f g:Bool):(byT r c f g row col).length≤1000:=by
 unfold byT
 split
 ·next h =>
  obtain ⟨h1,h2⟩:=h;unfold GoodR at h1 h2;have e1:=farL_len (a:=r) (h:=row) (by omega) (by omega) (by omega) (by omega) f;have e2:=farL_len (a:=c) (h:=col) (by omega) (by omega) (by omega) (by omega) g;unfold byL;simp only [List.length_append,List.length_cons,List.length_nil];omega
 ·simp
theorem textC0:TextC 0 0 decN refT:=⟨⟨fun r c f g w _=>refS0 r c f g w⟩,fun x w _ _=>numTS x w,fun f w hf=>quotedS f w hf,decN_len,refT_len⟩
theorem textC1 (row col:Int) (h1:1≤row):TextC row col decN (fun r c f g=>byT r c f g row col):=⟨⟨fun r c f g w _=>refS1 row col h1 r c f g w⟩,fun x w _ _=>numTS x w,fun f w hf=>quotedS f w hf,decN_len,byT_len row col⟩
set_option maxRecDepth 8000 in
set_option maxHeartbeats 2000000 in
theorem tellL (r c:Int) (f g:Bool) (w0 w:World) (IT:ItoaC w0) (X0:Ext w0 w):Calls Tryz.prog 205 #[.agg #[],refV r c f g] w fun e w'=>e=.returned (sV (refT r c f g))∧Ext w w':=by
 obtain ⟨wa,ha,X1,VW,-⟩:=boxed w [] 47;obtain ⟨wb,hb,X2,VN,-⟩:=boxed wa [.int .i64 r,.int .i64 c,.bool f,.bool g] 41;have c2:=vC4 VN;have CR:Hid (∀ W,Ext w W→Calls Tryz.prog 132 #[refV r c f g] W fun e w'=>e=.returned (sV (refT r c f g))∧Ext W w'):=fun W XW=>refTextI r c f g W IT (xt X0 XW);have HX:Hid (Ext w wb):=xt X1 X2;clear X1 X2 VW VN IT X0;go_enter Tryz.func205,Tryz.ntmps205;go_wp2_with fail;refine (CR.out _ HX.out).mono ?_;rintro e w1 ⟨rfl,e1⟩;go_wp2_with fail;go_ret;exact ⟨rfl,xt HX.out e1⟩
set_option maxRecDepth 8000 in
set_option maxHeartbeats 2000000 in
theorem tellP (row col r c:Int) (f g:Bool) (w0 w:World) (IT:ItoaC w0) (X0:Ext w0 w):Calls Tryz.prog 206 #[.agg #[.int .i64 row,.int .i64 col],refV r c f g] w fun e w'=>e=.returned (sV (byT r c f g row col))∧Ext w w':=by
 obtain ⟨wa,ha,X1,VW,-⟩:=boxed w [.int .i64 row,.int .i64 col] 51;obtain ⟨wb,hb,X2,VN,-⟩:=boxed wa [.int .i64 r,.int .i64 c,.bool f,.bool g] 41;have c1:=vC2 (VW.later X2);have c2:=vC4 VN;have CR:Hid (∀ W,Ext w W→Calls Tryz.prog 207 #[refV r c f g,.int .i64 row,.int .i64 col] W fun e w'=>e=.returned (sV (byT r c f g row col))∧Ext W w'):=fun W XW=>byTextI r c f g row col W IT (xt X0 XW);have HX:Hid (Ext w wb):=xt X1 X2;clear X1 X2 VW VN IT X0;go_enter Tryz.func206,Tryz.ntmps206;go_wp2_with fail;refine (CR.out _ HX.out).mono ?_;rintro e w1 ⟨rfl,e1⟩;go_wp2_with fail;go_ret;exact ⟨rfl,xt HX.out e1⟩
theorem notL (w:World) (IT:ItoaC w):NotI w (.iface 47 (.agg #[])) refT:=
 ⟨_,_,205,rfl,fun w=>by kernel_rfl,fun args w=>by kernel_rfl,fun r c g h W _ X=>tellL r c g h w W IT X⟩
theorem notP (row col:Int) (w:World) (IT:ItoaC w):NotI w (.iface 51 (.agg #[.int .i64 row,.int .i64 col])) (fun r c f g=>byT r c f g row col):=
 ⟨_,_,206,rfl,fun w=>by kernel_rfl,fun args w=>by kernel_rfl,fun r c g h W _ X=>tellP row col r c g h w W IT X⟩
theorem textI_of {w:World} {how:Value} {T:Int→Int→Bool→Bool→List UInt8} (hN:NotI w how T) (hlen:∀ r c f g,(T r c f g).length≤1000) (IT:ItoaC w) (hT:Tens w) (hM:Tab14 w):TextI w how decN T:=
 ⟨hN,fun x W hg hk X=>numTI x W hg hk (fun n w1 a b c=>IT n w1 a b (xt X c)) (hT.later X),fun f W hf X=>replI f W hf (hM.later X),decN_len,hlen⟩
def TellP (w0:World) (b:Nat) (how v:Value) (u:List UInt8):Prop:=∀ (W:World) (l:List UInt8),Ext w0 W→Wr W w0.heap.size b how l→l.length+u.length≤9000000 →
 Calls Tryz.prog 25 #[.pointer (some ⟨b,0,none⟩),v] W fun e w'=>e=.returned (.tuple #[])∧Wr w' w0.heap.size b how (l++u)∧WrX b W w'
structure Way (w0 W:World) (b:Nat) (how:Value) (w:World) (l:List UInt8):Prop where
 ext:Ext w0 w
 wr:Wr w w0.heap.size b how l
 only:WrX b W w
theorem Way.start {w0 W:World} {b:Nat} {how:Value} {l:List UInt8} (X:Ext w0 W) (h:Wr W w0.heap.size b how l):Way w0 W b how W l:=⟨X,h,WrX.refl b W⟩
theorem Way.ofExt {w0 W w w':World} {b:Nat} {how:Value} {l:List UInt8} (h:Way w0 W b how w l) (x:Ext w w'):Way w0 W b how w' l:=⟨xt h.ext x,Wr.later h.wr x,h.only.trans (wrX_ext x h.wr.base.2)⟩
theorem Way.step {w0 W w w':World} {b:Nat} {how:Value} {l l':List UInt8} (h:Way w0 W b how w l) (hw:Wr w' w0.heap.size b how l') (x:WrX b w w'):Way w0 W b how w' l':=⟨h.ext.trans (x.below h.wr),hw,h.only.trans x⟩
theorem Way.cast {w0 W w:World} {b:Nat} {how:Value} {l l':List UInt8} (h:Way w0 W b how w l) (e:l=l'):Way w0 W b how w l':=by rw [← e];exact h
set_option maxRecDepth 8000 in
set_option maxHeartbeats 2000000 in
theorem tellAtI (w0:World) (b:Nat) (how:Value) (T:TypeId) (a:Value) (u:List UInt8) (lv least:Int) (hv:LevI T a lv) (ht:TellP w0 b how (.iface T a) u) (W:World) (l:List UInt8) (XW:Ext w0 W) (h:Wr W w0.heap.size b how l) (hl:l.length+(kidT lv least u).length≤9000000) :
  Calls Tryz.prog 45 #[.pointer (some ⟨b,0,none⟩),.iface T a,.int .i64 least] W fun e w'=>e=.returned (.tuple #[])∧Wr w' w0.heap.size b how (l++kidT lv least u)∧WrX b W w':=by
 obtain ⟨f,M,EN,CL⟩:=hv;have HC:Hid (∀ W',Calls Tryz.prog f #[a] W' fun e w'=>e=.returned (.int .i64 lv)∧Ext W' w'):=CL;have q:=M W;have q2:=EN;have HT:Hid (TellP w0 b how (.iface T a) u):=ht;have HW:Hid (Way w0 W b how W l):=Way.start XW h;have HL:Hid _:=hl;obtain ⟨R,hR⟩:∃ R,l++kidT lv least u=R:=⟨_,rfl⟩;have HR:Hid _:=hR;rw [hR];clear CL M EN ht h XW hl hR;go_enter Tryz.func45,Tryz.ntmps45;go_wp2_with fail;refine (HC.out _).mono ?_;rintro e w1 ⟨rfl,e1⟩;have H1:Hid (Way w0 W b how w1 l):=Way.ofExt HW.out e1;clear HC q q2 e1 HW;by_cases hlv:lv<least
 ·have i1:¬ lv ≥ least:=by omega
  have i2:¬ least≤lv:=by omega
  have HK:Hid (R=((l++[40])++u)++[41]):=by
   show _=_;rw [← HR.out,kidT,if_pos hlv];simp
  have HM:Hid (l.length+u.length+2≤9000000):=by
   have h:=HL.out;rw [kidT,if_pos hlv] at h;simp at h;show l.length+u.length+2≤9000000;omega
  clear HR HL;go_wp2_with fail;refine (putW _ b how l [40] w1 H1.out.wr (by have:=HM.out;simp;omega)).mono ?_;rintro e w2 ⟨rfl,h2,x2⟩;have H2:Hid (Way w0 W b how w2 (l++[40])):=Way.step H1.out h2 x2;clear h2 x2 H1;go_wp2_with fail;refine (HT.out w2 _ H2.out.ext H2.out.wr (by have:=HM.out;simp;omega)).mono ?_;rintro e w3 ⟨rfl,h3,x3⟩;have H3:Hid (Way w0 W b how w3 ((l++[40])++u)):=Way.step H2.out h3 x3;clear h3 x3 H2;go_wp2_with fail;refine (putW _ b how _ [41] w3 H3.out.wr (by have:=HM.out;simp;omega)).mono ?_;rintro e w4 ⟨rfl,h4,x4⟩;have H4:Hid (Way w0 W b how w4 (((l++[40])++u)++[41])):=Way.step H3.out h4 x4;clear h4 x4 H3;go_wp2_with fail
  go_end0
  exact ⟨rfl,by rw [HK.out];exact H4.out.wr,H4.out.only⟩
 ·have i1:lv ≥ least:=by omega
  have i2:least≤lv:=by omega
  have HK:Hid (R=l++u):=by
   show _=_;rw [← HR.out,kidT,if_neg hlv]
  have HM:Hid (l.length+u.length≤9000000):=by
   have h:=HL.out;rw [kidT,if_neg hlv] at h;exact h
  clear HR HL;go_wp2_with fail;refine (HT.out w1 _ H1.out.ext H1.out.wr HM.out).mono ?_;rintro e w3 ⟨rfl,h3,x3⟩;have H3:Hid (Way w0 W b how w3 (l++u)):=Way.step H1.out h3 x3;clear h3 x3 H1;go_wp2_with fail;exact bodyPost_ret (v:=.tuple #[]) (by simp [results,Tryz.results45,go_sem]) rfl ⟨rfl,by rw [HK.out];exact H3.out.wr,H3.out.only⟩
set_option maxRecDepth 8000 in
set_option maxHeartbeats 2000000 in
theorem tellSignedI (w0:World) (b:Nat) (how:Value) (k:Int) (hk:k=8∨k=9) (T:TypeId) (a:Value) (u:List UInt8) (lv:Int) (hv:LevI T a lv) (ht:TellP w0 b how (.iface T a) u) (W:World) (l:List UInt8) (XW:Ext w0 W) (h:Wr W w0.heap.size b how l) (hl:l.length+(if k=8 then 45 :: kidT lv 6 u else kidT lv 7 u++[37]).length≤9000000) :
  Calls Tryz.prog 44 #[.pointer (some ⟨b,0,none⟩),.agg #[.int .i64 k,.iface T a]] W fun e w'=>e=.returned (.tuple #[])∧Wr w' w0.heap.size b how (l++(if k=8 then 45 :: kidT lv 6 u else kidT lv 7 u++[37]))∧WrX b W w':=by
 have HT:Hid (∀ (least:Int) (W':World) (l':List UInt8),Ext w0 W'→Wr W' w0.heap.size b how l'→l'.length+(kidT lv least u).length≤9000000→Calls Tryz.prog 45 #[.pointer (some ⟨b,0,none⟩),.iface T a,.int .i64 least] W' fun e w'=>e=.returned (.tuple #[])∧Wr w' w0.heap.size b how (l'++kidT lv least u)∧WrX b W' w'):=fun least W' l' X' h' hl'=>tellAtI w0 b how T a u lv least hv ht W' l' X' h' hl';obtain ⟨wa,ha,X,VN,-⟩:=boxed W [.int .i64 k,.iface T a] 101;have hsz:wa.heap.size=W.heap.size+1:=by rw [← ha,World.size_alloc]
 have HS:Hid (Safe wa b W.heap.size):=safe_new h X (Nat.le_refl _) (by omega);have HW:Hid (Way w0 W b how wa l):=Way.ofExt (Way.start XW h) X;have HL:Hid _:=hl;obtain ⟨gS,hgs⟩:∃ z,W.heap.size=z:=⟨_,rfl⟩;have HG:Hid _:=hgs;rw [hgs] at VN HS;have c:=vC2 VN;have HV:Hid (Vec wa gS [.int .i64 k,.iface T a]):=VN;have HA:Hid _:=ha;clear ht hv h hl XW X hgs VN ha hsz
 rcases hk with rfl | rfl
 ·have HM:Hid (l.length+(kidT lv 6 u).length+1≤9000000):=by
   have h:=HL.out;rw [if_pos rfl] at h;simp at h;show l.length+(kidT lv 6 u).length+1≤9000000;omega
  clear HL;go_enter Tryz.func44,Tryz.ntmps44;go_upto_region 1 with fail;rw [HA.out]
  (try rw [HG.out])
  go_wp2_with fail;refine (putW _ b how l [45] wa HW.out.wr (by have:=HM.out;simp;omega)).mono ?_;rintro e w2 ⟨rfl,h2,x2⟩;have H2:Hid (Way w0 W b how w2 (l++[45])):=Way.step HW.out h2 x2;have c2:=vC2 (vec_same HV.out (Safe.same HS.out x2));clear h2 x2 c HS HV HW;go_wp2_with fail;refine (HT.out 6 w2 _ H2.out.ext H2.out.wr (by have:=HM.out;simp;omega)).mono ?_;rintro e w3 ⟨rfl,h3,x3⟩;have H3:Hid (Way w0 W b how w3 ((l++[45])++kidT lv 6 u)):=Way.step H2.out h3 x3;clear h3 x3 c2;go_wp2_with fail;exact bodyPost_ret (v:=.tuple #[]) (by simp [results,Tryz.results44,go_sem]) rfl ⟨rfl,(H3.out.cast (by simp)).wr,H3.out.only⟩
 ·have HM:Hid (l.length+(kidT lv 7 u).length+1≤9000000):=by
   have h:=HL.out;rw [if_neg (by decide)] at h;simp at h;show l.length+(kidT lv 7 u).length+1≤9000000;omega
  clear HL;go_enter Tryz.func44,Tryz.ntmps44;go_upto_region 1 with fail;rw [HA.out]
  (try rw [HG.out])
  go_wp2_with fail;refine (HT.out 7 wa _ HW.out.ext HW.out.wr (by have:=HM.out;omega)).mono ?_;rintro e w2 ⟨rfl,h2,x2⟩;have H2:Hid (Way w0 W b how w2 (l++kidT lv 7 u)):=Way.step HW.out h2 x2;clear h2 x2 c HV HS HW;go_wp2_with fail;refine (putW _ b how _ [37] w2 H2.out.wr (by have:=HM.out;simp;omega)).mono ?_;rintro e w3 ⟨rfl,h3,x3⟩;have H3:Hid (Way w0 W b how w3 ((l++kidT lv 7 u)++[37])):=Way.step H2.out h3 x3;clear h3 x3;go_wp2_with fail
  go_end0
  exact ⟨rfl,(H3.out.cast (by simp)).wr,H3.out.only⟩
theorem joinF_mono (C:Nat) (us:List (List UInt8)) {j k:Nat} (h:j≤k):(joinF C us j).length≤(joinF C us k).length:=by
 induction h with
 | refl=>exact Nat.le_refl _
 | step h ih=>rw [joinF,List.length_append];omega
set_option maxRecDepth 8000 in
set_option maxHeartbeats 4000000 in
theorem tellListI (w0:World) (b:Nat) (how:Value) (C:Nat) (p:Option Addr) (cap:Nat) (s:Nat→Value) (us:List (List UInt8))
  (hp:0<us.length→∃ g,p=some ⟨g,0,none⟩∧g<w0.heap.size∧∀ i,i<us.length→w0.cell? ⟨g,i,none⟩=some (s i))
  (hs:∀ i,i<us.length→∃ T a,s i=.iface T a) (ht:∀ i,i<us.length→TellP w0 b how (s i) (us.getD i []))
  (hC:0<us.length→1≤C) (hn:us.length≤1000) (W:World) (l:List UInt8) (XW:Ext w0 W) (h:Wr W w0.heap.size b how l)
  (hl:l.length+(joinF C us us.length).length≤9000000) :
  Calls Tryz.prog 46 #[.pointer (some ⟨b,0,none⟩),.slice p us.length cap,.int .i64 C] W fun e w'=>e=.returned (.tuple #[])∧Wr w' w0.heap.size b how (l++joinF C us us.length)∧WrX b W w':=by
 have HW:Hid (Way w0 W b how W (l++joinF C us 0)):=(Way.start XW h).cast (by simp [joinF]);obtain ⟨n,hnn⟩:∃ n,us.length=n:=⟨_,rfl⟩;rw [hnn] at hp hs ht hC hn hl ⊢;have HPP:Hid _:=hp;have HS:Hid _:=hs;have HT:Hid (∀ i,i<n→∀ (W:World) (l:List UInt8),Ext w0 W→Wr W w0.heap.size b how l→l.length+(us.getD i []).length≤9000000→Calls Tryz.prog 25 #[.pointer (some ⟨b,0,none⟩),s i] W fun e w'=>e=.returned (.tuple #[])∧Wr w' w0.heap.size b how (l++us.getD i [])∧WrX b W w'):=ht;have HCC:Hid _:=hC;have HL:Hid (∀ j,j<n→l.length+(joinF C us j).length+(sepT C j).length+(us.getD j []).length≤9000000):=fun j hj=>by
  have h:=joinF_mono C us (show j+1≤n by omega);rw [joinF,List.length_append,List.length_append] at h;omega
 clear hp hs ht hC hl XW h hnn;go_enter Tryz.func46,Tryz.ntmps46;go_wp2_with fail;go_loopw [10] (fun i wr=>∃ j:Nat,j≤n∧i=.int .i64 (j:Int)∧Hid (Way w0 W b how wr (l++joinF C us j))) (fun i _=>n - (intOf i).toNat)
 case atStart=>exact ⟨0,by omega,rfl,HW⟩
 case round =>
  obtain ⟨j,hj,rfl,HO⟩:=hrel;by_cases hlt:j<n
  ·have i2:(j:Int)<(n:Int):=by omega
   obtain ⟨g,rfl,hg,hcell⟩:=HPP.out (by omega);obtain ⟨T,a,hsj⟩:=HS.out j hlt;have HC:Hid (w0.cell? ⟨g,j,none⟩=some (.iface T a)):=by show _=_;rw [← hsj];exact hcell j hlt
   have c0:wr.cell? ⟨g,j,none⟩=some (.iface T a):=cell_later HO.out.ext HC.out;have HT:=fun W l=>(by have:=HT.out j hlt W l;rw [hsj] at this;exact this:Ext w0 W→Wr W w0.heap.size b how l→l.length+(us.getD j []).length≤9000000→Calls Tryz.prog 25 #[.pointer (some ⟨b,0,none⟩),.iface T a] W fun e w'=>e=.returned (.tuple #[])∧Wr w' w0.heap.size b how (l++us.getD j [])∧WrX b W w');have HT:Hid _:=HT;clear hcell hsj hg HPP HS;by_cases h0:j=0
   ·have i3:((j:Int) == 0)=true:=(by simp;omega);have hsep:sepT C j=[]:=(by rw [h0];rfl);have HP2:Hid (Way w0 W b how wr (l++joinF C us j)):=HO;clear HO h0;go_wp2_with fail;refine (HT.out wr _ HP2.out.ext HP2.out.wr (by have:=HL.out j hlt;simp only [List.length_append];omega)).mono ?_;rintro e w6 ⟨rfl,h6,x6⟩;have H6:Hid (Way w0 W b how w6 (l++joinF C us (j+1))):=(Way.step HP2.out h6 x6).cast (by rw [joinF,hsep];simp);clear h6 x6 HP2 hsep;go_wp2_with fail;go_roundw
    case rel=>exact ⟨j+1,by omega,by go_num,H6⟩
    case measure=>simp [intOf];omega
   ·have i3:((j:Int) == 0)=false:=(by simp;omega);have hC1:=HCC.out (by omega);have hCz:¬ (C:Int)=0:=(by omega);have hCz2:((C:Int) == 0)=false:=(by simp;omega);obtain ⟨m,hm⟩:∃ m,j % C=m:=⟨_,rfl⟩;have hmm:(j:Int).tmod (C:Int)=(m:Int):=(by rw [← hm];exact (Int.ofNat_tmod j C).symm);by_cases hm0:m=0
    ·subst hm0;have hsep:sepT C j=[59]:=(by unfold sepT;rw [if_neg (by omega),if_pos hm]);clear hm;go_wp2_with fail;refine (putW _ b how _ [59] wr HO.out.wr (by have:=HL.out j hlt;rw [hsep] at this;simp only [List.length_append,List.length_cons,List.length_nil] at this ⊢;omega)).mono ?_;rintro e wP ⟨rfl,h5,x5⟩;have HP2:Hid (Way w0 W b how wP ((l++joinF C us j)++[59])):=Way.step HO.out h5 x5;have cP:wP.cell? ⟨g,j,none⟩=some (.iface T a):=cell_later HP2.out.ext HC.out;clear h5 x5 HO c0;go_wp2_with fail;refine (HT.out wP _ HP2.out.ext HP2.out.wr (by have:=HL.out j hlt;rw [hsep] at this;simp only [List.length_append,List.length_cons,List.length_nil] at this ⊢;omega)).mono ?_;rintro e w6 ⟨rfl,h6,x6⟩;have H6:Hid (Way w0 W b how w6 (l++joinF C us (j+1))):=(Way.step HP2.out h6 x6).cast (by rw [joinF,hsep];simp);clear h6 x6 HP2 hsep;go_wp2_with fail;go_roundw
     case rel=>exact ⟨j+1,by omega,by go_num,H6⟩
     case measure=>simp [intOf];omega
    ·have hsep:sepT C j=[44]:=(by unfold sepT;rw [if_neg (by omega),if_neg (by rw [hm];exact hm0)]);have hmz:((m:Int) == 0)=false:=(by simp;omega);have hmz2:¬ (m:Int)=0:=(by omega);clear hm;go_wp2_with fail;refine (putW _ b how _ [44] wr HO.out.wr (by have:=HL.out j hlt;rw [hsep] at this;simp only [List.length_append,List.length_cons,List.length_nil] at this ⊢;omega)).mono ?_;rintro e wP ⟨rfl,h5,x5⟩;have HP2:Hid (Way w0 W b how wP ((l++joinF C us j)++[44])):=Way.step HO.out h5 x5;have cP:wP.cell? ⟨g,j,none⟩=some (.iface T a):=cell_later HP2.out.ext HC.out;clear h5 x5 HO c0;go_wp2_with fail;refine (HT.out wP _ HP2.out.ext HP2.out.wr (by have:=HL.out j hlt;rw [hsep] at this;simp only [List.length_append,List.length_cons,List.length_nil] at this ⊢;omega)).mono ?_;rintro e w6 ⟨rfl,h6,x6⟩;have H6:Hid (Way w0 W b how w6 (l++joinF C us (j+1))):=(Way.step HP2.out h6 x6).cast (by rw [joinF,hsep];simp);clear h6 x6 HP2 hsep;go_wp2_with fail;go_roundw
     case rel=>exact ⟨j+1,by omega,by go_num,H6⟩
     case measure=>simp [intOf];omega
  ·obtain rfl:j=n:=by omega
   have i2:¬ (j:Int)<(j:Int):=by omega
   go_wp2_with fail
   go_end0
   exact ⟨rfl,HO.out.wr,HO.out.only⟩
theorem taYes_leaf (v:Value) (w:World):(Instr.typeAssert (.iface 98 v) 64 98 true).run Tryz.prog w=.ok (.tuple #[v,.bool true]) w:=by kernel_rfl
theorem taYes_signed (v:Value) (w:World):(Instr.typeAssert (.iface 101 v) 64 101 true).run Tryz.prog w=.ok (.tuple #[v,.bool true]) w:=by kernel_rfl
theorem taYes_pair (v:Value) (w:World):(Instr.typeAssert (.iface 106 v) 64 106 true).run Tryz.prog w=.ok (.tuple #[v,.bool true]) w:=by kernel_rfl
theorem taYes_call (v:Value) (w:World):(Instr.typeAssert (.iface 110 v) 64 110 true).run Tryz.prog w=.ok (.tuple #[v,.bool true]) w:=by kernel_rfl
theorem taYes_array (v:Value) (w:World):(Instr.typeAssert (.iface 113 v) 64 113 true).run Tryz.prog w=.ok (.tuple #[v,.bool true]) w:=by kernel_rfl
theorem taNo_signed_leaf (v:Value) (w:World):(Instr.typeAssert (.iface 101 v) 64 98 true).run Tryz.prog w=.ok (.tuple #[.agg #[.int .i64 0,.string ⟨#[]⟩,.bool false,.int .i64 0,.int .i64 0,.int .i64 0,.int .i64 0,.bool false,.bool false,.int .i64 0,.int .i64 0,.bool false,.bool false,.int .i64 0],.bool false]) w:=by kernel_rfl
theorem taNo_pair_leaf (v:Value) (w:World):(Instr.typeAssert (.iface 106 v) 64 98 true).run Tryz.prog w=.ok (.tuple #[.agg #[.int .i64 0,.string ⟨#[]⟩,.bool false,.int .i64 0,.int .i64 0,.int .i64 0,.int .i64 0,.bool false,.bool false,.int .i64 0,.int .i64 0,.bool false,.bool false,.int .i64 0],.bool false]) w:=by kernel_rfl
theorem taNo_pair_signed (v:Value) (w:World):(Instr.typeAssert (.iface 106 v) 64 101 true).run Tryz.prog w=.ok (.tuple #[.agg #[.int .i64 0,.nilIface],.bool false]) w:=by kernel_rfl
theorem taNo_call_leaf (v:Value) (w:World):(Instr.typeAssert (.iface 110 v) 64 98 true).run Tryz.prog w=.ok (.tuple #[.agg #[.int .i64 0,.string ⟨#[]⟩,.bool false,.int .i64 0,.int .i64 0,.int .i64 0,.int .i64 0,.bool false,.bool false,.int .i64 0,.int .i64 0,.bool false,.bool false,.int .i64 0],.bool false]) w:=by kernel_rfl
theorem taNo_call_signed (v:Value) (w:World):(Instr.typeAssert (.iface 110 v) 64 101 true).run Tryz.prog w=.ok (.tuple #[.agg #[.int .i64 0,.nilIface],.bool false]) w:=by kernel_rfl
theorem taNo_call_pair (v:Value) (w:World):(Instr.typeAssert (.iface 110 v) 64 106 true).run Tryz.prog w=.ok (.tuple #[.agg #[.string ⟨#[]⟩,.int .i64 0,.nilIface,.nilIface],.bool false]) w:=by kernel_rfl
theorem taNo_array_leaf (v:Value) (w:World):(Instr.typeAssert (.iface 113 v) 64 98 true).run Tryz.prog w=.ok (.tuple #[.agg #[.int .i64 0,.string ⟨#[]⟩,.bool false,.int .i64 0,.int .i64 0,.int .i64 0,.int .i64 0,.bool false,.bool false,.int .i64 0,.int .i64 0,.bool false,.bool false,.int .i64 0],.bool false]) w:=by kernel_rfl
theorem taNo_array_signed (v:Value) (w:World):(Instr.typeAssert (.iface 113 v) 64 101 true).run Tryz.prog w=.ok (.tuple #[.agg #[.int .i64 0,.nilIface],.bool false]) w:=by kernel_rfl
theorem taNo_array_pair (v:Value) (w:World):(Instr.typeAssert (.iface 113 v) 64 106 true).run Tryz.prog w=.ok (.tuple #[.agg #[.string ⟨#[]⟩,.int .i64 0,.nilIface,.nilIface],.bool false]) w:=by kernel_rfl
theorem taNo_array_call (v:Value) (w:World):(Instr.typeAssert (.iface 113 v) 64 110 true).run Tryz.prog w=.ok (.tuple #[.agg #[.string ⟨#[]⟩,.slice none 0 0],.bool false]) w:=by kernel_rfl
def sumT (l:List (List UInt8)):Nat:=(l.map List.length).sum
theorem sumT_cons (a:List UInt8) (l:List (List UInt8)):sumT (a :: l)=a.length+sumT l:=by simp [sumT]
theorem quoF_len (f:List UInt8):(quoF f).length≤2 * f.length:=by
 unfold quoF
 induction f with
 | nil=>simp
 | cons a f ih =>
  rw [List.flatMap_cons,List.length_append,List.length_cons]
  split
  ·simp only [List.length_cons,List.length_nil];omega
  ·simp only [List.length_cons,List.length_nil];omega
theorem sepT_len (c i:Nat):(sepT c i).length≤1:=by
 unfold sepT
 split
 ·simp
 ·split <;> simp
theorem joinF_len (c:Nat) (l:List (List UInt8)):∀ k,k≤l.length→(joinF c l k).length≤sumT (l.take k)+k
 | 0,_=>by simp [joinF]
 | k+1,h=>by
  have ih:=joinF_len c l k (by omega);have hs:=sepT_len c k;have e1:l.take (k+1)=l.take k++[l.getD k []]:=by
   rw [List.take_add_one,List.getElem?_eq_getElem (by omega),List.getD_eq_getElem?_getD,List.getElem?_eq_getElem (by omega)];rfl
  rw [joinF,List.length_append,List.length_append,e1];simp only [sumT,List.map_append,List.sum_append,List.map_cons,List.map_nil,List.sum_cons,List.sum_nil] at ih ⊢;omega
theorem joinF_all (c:Nat) (l:List (List UInt8)):(joinF c l l.length).length≤sumT l+l.length:=by
 have:=joinF_len c l l.length (Nat.le_refl _)
 rwa [List.take_length] at this
theorem kidT_len (lv least:Int) (s:List UInt8):(kidT lv least s).length≤s.length+2:=by
 unfold kidT
 split <;> simp
theorem getD_sum:∀ (l:List (List UInt8)),(l.getD 0 []).length+(l.getD 1 []).length≤sumT l
 | []=>by simp [sumT]
 | [a]=>by simp [sumT]
 | a :: b :: l=>by rw [sumT_cons,sumT_cons];show a.length+b.length≤_;omega
theorem asmT_len (D:NT→List UInt8) (T:Int→Int→Bool→Bool→List UInt8) (hD:∀ x,(D x).length≤2000) (hT:∀ r c f g,(T r c f g).length≤1000) (x:NT) (lv:List Int) (l:List (List UInt8)) :
  (asmT D T x lv l).length≤2 * x.t.length+3000+sumT l+l.length:=by
 have h0:=getD_sum l;have h1:=hD x;have h2:=hT x.r x.c x.f x.g;have h3:=hT x.r2 x.c2 x.f2 x.g2;have h4:=quoF_len x.t;have h5:=kidT_len (lv.getD 0 0) 6 (l.getD 0 []);have h6:=kidT_len (lv.getD 0 0) 7 (l.getD 0 []);have h7:=kidT_len (lv.getD 0 0) (lvOp x.t) (l.getD 0 []);have h8:=kidT_len (lv.getD 1 0) (lvOp x.t+1) (l.getD 1 []);have h9:=joinF_all l.length l;have h10:=joinF_all (l.length / (whole x.t).toNat) l;unfold asmT quoT
 split
 ·omega
 ·split
  ·simp only [List.length_cons,List.length_append,List.length_nil];omega
  ·split
   ·omega
   ·split
    ·simp only [List.length_cons,List.length_append];omega
    ·split
     ·simp only [List.length_cons];omega
     ·split
      ·simp only [List.length_cons,List.length_append,List.length_nil];omega
      ·split
       ·simp only [List.length_append];omega
       ·split
        ·simp only [List.length_cons,List.length_append,List.length_nil];omega
        ·split
         ·simp only [List.length_cons,List.length_append,List.length_nil];omega
         ·omega
mutual
theorem textE_len (D:NT→List UInt8) (T:Int→Int→Bool→Bool→List UInt8) (hD:∀ x,(D x).length≤2000) (hT:∀ r c f g,(T r c f g).length≤1000):∀ (e:ET),allE (fun n=>n.t.length≤200) e→(textE D T e).length+3≤4000 * cntE e
 | .mk x ks,h=>by
  have h1:=asmT_len D T hD hT x (ks.map lvE) (textL D T ks);have h2:=textL_len D T hD hT ks h.2;have h3:x.t.length≤200:=h.1;rw [textE,cntE];omega
theorem textL_len (D:NT→List UInt8) (T:Int→Int→Bool→Bool→List UInt8) (hD:∀ x,(D x).length≤2000) (hT:∀ r c f g,(T r c f g).length≤1000):∀ (ks:List ET),allL (fun n=>n.t.length≤200) ks→sumT (textL D T ks)+3 * (textL D T ks).length≤4000 * cntL ks
 | [],_=>by rw [textL];simp [sumT]
 | k :: ks,h=>by
  have h1:=textE_len D T hD hT k h.1;have h2:=textL_len D T hD hT ks h.2;rw [textL,cntL,sumT_cons,List.length_cons];omega
end
end Go.Proofs.YtogecaajnjcenaaGreatDoor

