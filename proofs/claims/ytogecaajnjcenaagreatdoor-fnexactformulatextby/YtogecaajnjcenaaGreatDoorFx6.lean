/-
  Chapter 4: a tree's text by the specification: kinds with one kid or two.
-/
import Derived.Test.YtogecaajnjcenaaGreatDoorMg16
import Derived.Test.YtogecaajnjcenaaGreatDoorMg19
namespace Go.Proofs.YtogecaajnjcenaaGreatDoor
open Go.RowKit
theorem opsL_200:∀ t ∈ opsL,t.length≤200:=by decide
theorem kidT_short (lv least:Int) (u:List UInt8) (h:u.length≤1000000000):(kidT lv least u).length≤2000000000:=by
 unfold kidT
 split
 ·simp;omega
 ·omega
set_option maxRecDepth 8000 in
set_option maxHeartbeats 4000000 in
theorem textS8 (row col:Int) (x:NT) (hk:x.k=8) (g c:Nat) (y:NT) (p:Option Addr) (n c':Nat) (ks:List ET) (u:List UInt8) (w:World) (hcy:w.rangeAt g 0 (y.exL (.slice p n c'))) (hoy:y.k=10→y.t ∈ opsL) (huy:u.length≤1000000000)
  (hty:∀ W,Ext w W→Calls Tryz.prog 20 #[.agg #[.int .i64 row,.int .i64 col],y.ex (.slice p n c')] W fun e w'=>e=.returned (sV u)∧Ext W w') :
  Calls Tryz.prog 20 #[.agg #[.int .i64 row,.int .i64 col],x.ex (.slice (some ⟨g,0,none⟩) 1 c)] w fun e w'=>e=.returned (sV (45 :: kidT (lvE (.mk y ks)) 6 u))∧Ext w w':=by
 have HKy:Hid (∀ W,Ext w W→Calls Tryz.prog 37 #[.agg #[.int .i64 row,.int .i64 col],y.ex (.slice p n c'),.int .i64 6] W fun e w'=>e=.returned (sV (kidT (lvE (.mk y ks)) 6 u))∧Ext W w'):=fun W XW=>kidS row col y p n c' ks 6 u W (by omega) hoy (fun W2 X2=>hty W2 (xt XW X2));have HLy:Hid ((kidT (lvE (.mk y ks)) 6 u).length≤2000000000):=kidT_short _ _ _ huy;obtain ⟨Ry,hRy⟩:∃ R,kidT (lvE (.mk y ks)) 6 u=R:=⟨_,rfl⟩;rw [hRy] at HKy HLy ⊢;clear hRy hoy hty huy;obtain ⟨k,t,ng,d,e,r,cc,f,gg,r2,c2,f2,g2,q⟩:=x;obtain rfl:k=8:=hk;obtain ⟨yk,yt,yn,yd,ye,yr,yc,yf,yg,yr2,yc2,yf2,yg2,yq⟩:=y;obtain ⟨wa,ha,X1,VW,-⟩:=boxed w [.int .i64 row,.int .i64 col] 39;obtain ⟨wb,hb,X2,VN,-⟩:=boxed wa [.int .i64 8,sV t,.bool ng,.int .i64 d,.int .i64 e,.int .i64 r,.int .i64 cc,.bool f,.bool gg,.int .i64 r2,.int .i64 c2,.bool f2,.bool g2,.int .i64 q,.slice (some ⟨g,0,none⟩) 1 c] 55;have HBA:Hid _:=ha;have HBB:Hid _:=hb;obtain ⟨gW,hgw⟩:∃ z,w.heap.size=z:=⟨_,rfl⟩;have HGW:Hid _:=hgw;obtain ⟨gN,hgn⟩:∃ z,wa.heap.size=z:=⟨_,rfl⟩;have HG:Hid _:=hgn;rw [hgw] at VW;rw [hgn] at VN;have VW:=VW.later X2;have X:=xt X1 X2;have hz:gW+1=gN:=by rw [← hgn,← ha,World.size_alloc,hgw]
 have HZ:Hid _:=hz;have HM:Hid (∀ lw,Ext wb lw→(lw.rangeAt g 0 [.int .i64 yk,sV yt,.bool yn,.int .i64 yd,.int .i64 ye,.int .i64 yr,.int .i64 yc,.bool yf,.bool yg,.int .i64 yr2,.int .i64 yc2,.bool yf2,.bool yg2,.int .i64 yq,.slice p n c'])∧Vec lw gW [.int .i64 row,.int .i64 col]∧lw.cell? ⟨gN,14,none⟩=some (.slice (some ⟨g,0,none⟩) 1 c)∧lw.cell? ⟨gN,1,none⟩=some (sV t)):=fun lw x=>⟨fun j v hj=>cell_later (xt X x) (hcy j v hj),VW.later x,((VN.later x) 14 _ rfl).1,((VN.later x) 1 _ rfl).1⟩;have HKy:Hid (∀ W,Ext wb W→Calls Tryz.prog 37 #[.agg #[.int .i64 row,.int .i64 col],.agg #[.int .i64 yk,sV yt,.bool yn,.int .i64 yd,.int .i64 ye,.int .i64 yr,.int .i64 yc,.bool yf,.bool yg,.int .i64 yr2,.int .i64 yc2,.bool yf2,.bool yg2,.int .i64 yq,.slice p n c'],.int .i64 6] W fun e w'=>e=.returned (sV Ry)∧Ext W w'):=fun W XW=>HKy.out W (xt X XW);have c0:=(VN 0 _ rfl).1;have c1:=(VN 1 _ rfl).1;clear ha hb hgn hgw hz X1 X2 VW VN hcy;go_enter Tryz.func20,Tryz.ntmps20;go_upto_region 1 with fail;rw [HBA.out,HBB.out]
 (try rw [HG.out])
 (try rw [HGW.out])
 (try rw [HZ.out])
 clear HBA HBB HG HGW HZ;go_upto_region 11 with fail;refine wp_region_letters_c (fun lx:Nat→Value=>{ tmps:=#[Value.agg #[Value.int .i64 row,Value.int .i64 col],NT.ex ⟨8,t,ng,d,e,r,cc,f,gg,r2,c2,f2,g2,q⟩ (.slice (some ⟨g,0,none⟩) 1 c),Value.pointer (some ⟨gW,0,none⟩),Value.pointer (some ⟨gN,0,none⟩),lx 4,undef,undef,undef,undef,undef,undef,undef,undef,Value.pointer (some ⟨gN,0,none⟩),Value.pointer (some ⟨gN,0,none⟩),Value.int .i64 8,Value.bool false,Value.bool false,undef,undef,undef,undef,Value.bool false,Value.bool false,undef,undef,undef,undef,Value.bool false,Value.bool false,undef,undef,undef,undef,undef,Value.bool false,Value.bool false,undef,undef,undef,undef,undef,undef,undef,undef,undef,undef,undef,undef,Value.bool true,Value.bool true,lx 51,lx 52,lx 53,lx 54,lx 55,lx 56,lx 57,undef,undef,undef,undef,undef,undef,undef,undef,undef,undef,undef,undef,undef,undef,undef,undef,undef,undef,undef,undef,undef,undef,undef,undef,undef,undef,undef,undef,undef,undef,undef,undef,undef,undef,undef,undef,undef,undef,undef,undef,undef,undef,undef,undef,undef,undef,undef,undef,undef,undef,undef,undef,undef,undef,undef,undef,undef,undef,undef,undef,undef,undef,undef,undef,undef,undef,undef,undef,undef,undef,undef,undef,undef,undef,undef,undef,undef,undef,undef,undef,undef,undef,undef,undef,undef,undef,undef,undef,undef,undef,undef,undef,undef,undef,undef,undef,undef,undef,undef,undef,undef,undef,undef,undef],defers:=[] }) (fun L lx lw=>Hid (Ext wb lw∧(L 0=true→lx 51=.agg #[.int .i64 row,.int .i64 col])∧(L 1=true→lx 52=.pointer (some ⟨gN,14,none⟩))∧(L 2=true→lx 53=.slice (some ⟨g,0,none⟩) 1 c)∧(L 3=true→lx 54=.pointer (some ⟨g,0,none⟩))∧(L 4=true→lx 55=.agg #[.int .i64 yk,sV yt,.bool yn,.int .i64 yd,.int .i64 ye,.int .i64 yr,.int .i64 yc,.bool yf,.bool yg,.int .i64 yr2,.int .i64 yc2,.bool yf2,.bool yg2,.int .i64 yq,.slice p n c'])∧(L 5=true→lx 56=sV Ry)∧(L 6=true→lx 57=.string ((⟨#[45]⟩:ByteArray)++⟨Ry.toArray⟩))∧(L 7=true→lx 4=.string ((⟨#[45]⟩:ByteArray)++⟨Ry.toArray⟩)))) rfl (by kernel_rfl) (fun jj=>if jj=4 then Value.string { data:=#[] } else undef) rfl ?_ ?_ ?_
 ·exact ⟨xd (xr _),(fun h=>by cases h),(fun h=>by cases h),(fun h=>by cases h),(fun h=>by cases h),(fun h=>by cases h),(fun h=>by cases h),(fun h=>by cases h),(fun h=>by cases h)⟩
 ·intro L lx lw ix oo K hK ho hL haf hI hcl;obtain ⟨E,f0,f1,f2,f3,f4,f5,f6,f7⟩:=hI.out
  match ix,ho,hL,haf,hK with
  | 0,ho,hL,haf,hK =>
   cases ho
   (try dsimp only)
   refine Eq.mpr (if_pos (by rfl)) ?_;have q0:=((HM.out _ E).2.1 0 _ rfl).1;have q1:=((HM.out _ E).2.1 1 _ rfl).1;go_wp2_with fail;exact hK (fun jj=>if jj=51 then .agg #[.int .i64 row,.int .i64 col] else lx jj) _ ⟨E,(fun _=>rfl),f1,f2,f3,f4,f5,f6,f7⟩
  | 1,ho,hL,haf,hK =>
   cases ho
   (try dsimp only)
   refine Eq.mpr (if_pos (by rfl)) ?_;go_wp2_with fail;exact hK (fun jj=>if jj=52 then .pointer (some ⟨gN,14,none⟩) else lx jj) _ ⟨E,f0,(fun _=>rfl),f2,f3,f4,f5,f6,f7⟩
  | 2,ho,hL,haf,hK =>
   cases ho
   (try dsimp only)
   rw [f1 (haf ⟨1,.data⟩ (by simp) rfl)];refine Eq.mpr (if_pos (by rfl)) ?_;have q:=(HM.out _ E).2.2.1;go_wp2_with fail;exact hK (fun jj=>if jj=53 then .slice (some ⟨g,0,none⟩) 1 c else if jj=52 then .pointer (some ⟨gN,14,none⟩) else lx jj) _ ⟨E,f0,(fun _=>rfl),(fun _=>rfl),f3,f4,f5,f6,f7⟩
  | 3,ho,hL,haf,hK =>
   cases ho
   (try dsimp only)
   rw [f2 (haf ⟨2,.data⟩ (by simp) rfl)];refine Eq.mpr (if_pos (by rfl)) ?_;go_wp2_with fail;exact hK (fun jj=>if jj=54 then .pointer (some ⟨g,0,none⟩) else if jj=53 then .slice (some ⟨g,0,none⟩) 1 c else lx jj) _ ⟨E,f0,f1,(fun _=>rfl),(fun _=>rfl),f4,f5,f6,f7⟩
  | 4,ho,hL,haf,hK =>
   cases ho
   (try dsimp only)
   rw [f3 (haf ⟨3,.data⟩ (by simp) rfl)];refine Eq.mpr (if_pos (by rfl)) ?_;go_wp2_with (refine wpList_load_mid rfl 55 (.tmp 54) rfl g 0 rfl [.int .i64 yk,sV yt,.bool yn,.int .i64 yd,.int .i64 ye,.int .i64 yr,.int .i64 yc,.bool yf,.bool yg,.int .i64 yr2,.int .i64 yc2,.bool yf2,.bool yg2,.int .i64 yq,.slice p n c'] _ (HM.out _ E).1 Tryz.underlying55 rfl hi15E ?_);exact hK (fun jj=>if jj=55 then .agg #[.int .i64 yk,sV yt,.bool yn,.int .i64 yd,.int .i64 ye,.int .i64 yr,.int .i64 yc,.bool yf,.bool yg,.int .i64 yr2,.int .i64 yc2,.bool yf2,.bool yg2,.int .i64 yq,.slice p n c'] else if jj=54 then .pointer (some ⟨g,0,none⟩) else lx jj) _ ⟨E,f0,f1,f2,(fun _=>rfl),(fun _=>rfl),f5,f6,f7⟩
  | 5,ho,hL,haf,hK =>
   cases ho
   (try dsimp only)
   rw [f0 (haf ⟨0,.data⟩ (by simp) rfl),f4 (haf ⟨4,.data⟩ (by simp) rfl)];refine Eq.mpr (if_pos (by rfl)) ?_;go_wp2_with fail;refine (HKy.out lw E).mono ?_;rintro rr w' ⟨rfl,e'⟩;go_wp2_with fail;exact hK (fun jj=>if jj=56 then sV Ry else if jj=51 then .agg #[.int .i64 row,.int .i64 col] else if jj=55 then .agg #[.int .i64 yk,sV yt,.bool yn,.int .i64 yd,.int .i64 ye,.int .i64 yr,.int .i64 yc,.bool yf,.bool yg,.int .i64 yr2,.int .i64 yc2,.bool yf2,.bool yg2,.int .i64 yq,.slice p n c'] else lx jj) _ ⟨(xt E e'),(fun _=>rfl),f1,f2,f3,(fun _=>rfl),(fun _=>rfl),f6,f7⟩
  | 6,ho,hL,haf,hK =>
   cases ho
   (try dsimp only)
   rw [f5 (haf ⟨5,.data⟩ (by simp) rfl)];refine Eq.mpr (if_pos (by rfl)) ?_;have q:(9223372036854775807<1+Ry.length)=False:=eq_false (by have:=HLy.out;omega);go_wp2_with fail;exact hK (fun jj=>if jj=57 then .string ((⟨#[45]⟩:ByteArray)++⟨Ry.toArray⟩) else if jj=56 then sV Ry else lx jj) _ ⟨E,f0,f1,f2,f3,f4,(fun _=>rfl),(fun _=>rfl),f7⟩
  | 7,ho,hL,haf,hK =>
   cases ho
   (try dsimp only)
   rw [f6 (haf ⟨6,.data⟩ (by simp) rfl)];refine Eq.mpr (if_pos (by rfl)) ?_;go_wp2_with fail;exact hK (fun jj=>if jj=4 then .string ((⟨#[45]⟩:ByteArray)++⟨Ry.toArray⟩) else if jj=57 then .string ((⟨#[45]⟩:ByteArray)++⟨Ry.toArray⟩) else lx jj) _ ⟨E,f0,f1,f2,f3,f4,f5,(fun _=>rfl),(fun _=>rfl)⟩
  | k+8,ho,_,_,_=>simp at ho
 ·intro L lx w9 hall hI;obtain ⟨E,f0,f1,f2,f3,f4,f5,f6,f7⟩:=hI.out
  (try dsimp only)
  rw [f7 (hall 7 (by simp)),f0 (hall 0 (by simp)),f1 (hall 1 (by simp)),f2 (hall 2 (by simp)),f3 (hall 3 (by simp)),f4 (hall 4 (by simp)),f5 (hall 5 (by simp)),f6 (hall 6 (by simp))];clear hI hall f0 f1 f2 f3 f4 f5 f6 f7;go_wp2_with fail;go_ret;exact ⟨ret_str (by refine bs_of ?_;simp),xt X E⟩
set_option maxRecDepth 8000 in
set_option maxHeartbeats 4000000 in
theorem textS9 (row col:Int) (x:NT) (hk:x.k=9) (g c:Nat) (y:NT) (p:Option Addr) (n c':Nat) (ks:List ET) (u:List UInt8) (w:World) (hcy:w.rangeAt g 0 (y.exL (.slice p n c'))) (hoy:y.k=10→y.t ∈ opsL) (huy:u.length≤1000000000)
  (hty:∀ W,Ext w W→Calls Tryz.prog 20 #[.agg #[.int .i64 row,.int .i64 col],y.ex (.slice p n c')] W fun e w'=>e=.returned (sV u)∧Ext W w') :
  Calls Tryz.prog 20 #[.agg #[.int .i64 row,.int .i64 col],x.ex (.slice (some ⟨g,0,none⟩) 1 c)] w fun e w'=>e=.returned (sV (kidT (lvE (.mk y ks)) 7 u++[37]))∧Ext w w':=by
 have HKy:Hid (∀ W,Ext w W→Calls Tryz.prog 37 #[.agg #[.int .i64 row,.int .i64 col],y.ex (.slice p n c'),.int .i64 7] W fun e w'=>e=.returned (sV (kidT (lvE (.mk y ks)) 7 u))∧Ext W w'):=fun W XW=>kidS row col y p n c' ks 7 u W (by omega) hoy (fun W2 X2=>hty W2 (xt XW X2));have HLy:Hid ((kidT (lvE (.mk y ks)) 7 u).length≤2000000000):=kidT_short _ _ _ huy;obtain ⟨Ry,hRy⟩:∃ R,kidT (lvE (.mk y ks)) 7 u=R:=⟨_,rfl⟩;rw [hRy] at HKy HLy ⊢;clear hRy hoy hty huy;obtain ⟨k,t,ng,d,e,r,cc,f,gg,r2,c2,f2,g2,q⟩:=x;obtain rfl:k=9:=hk;obtain ⟨yk,yt,yn,yd,ye,yr,yc,yf,yg,yr2,yc2,yf2,yg2,yq⟩:=y;obtain ⟨wa,ha,X1,VW,-⟩:=boxed w [.int .i64 row,.int .i64 col] 39;obtain ⟨wb,hb,X2,VN,-⟩:=boxed wa [.int .i64 9,sV t,.bool ng,.int .i64 d,.int .i64 e,.int .i64 r,.int .i64 cc,.bool f,.bool gg,.int .i64 r2,.int .i64 c2,.bool f2,.bool g2,.int .i64 q,.slice (some ⟨g,0,none⟩) 1 c] 55;have HBA:Hid _:=ha;have HBB:Hid _:=hb;obtain ⟨gW,hgw⟩:∃ z,w.heap.size=z:=⟨_,rfl⟩;have HGW:Hid _:=hgw;obtain ⟨gN,hgn⟩:∃ z,wa.heap.size=z:=⟨_,rfl⟩;have HG:Hid _:=hgn;rw [hgw] at VW;rw [hgn] at VN;have VW:=VW.later X2;have X:=xt X1 X2;have hz:gW+1=gN:=by rw [← hgn,← ha,World.size_alloc,hgw]
 have HZ:Hid _:=hz;have HM:Hid (∀ lw,Ext wb lw→(lw.rangeAt g 0 [.int .i64 yk,sV yt,.bool yn,.int .i64 yd,.int .i64 ye,.int .i64 yr,.int .i64 yc,.bool yf,.bool yg,.int .i64 yr2,.int .i64 yc2,.bool yf2,.bool yg2,.int .i64 yq,.slice p n c'])∧Vec lw gW [.int .i64 row,.int .i64 col]∧lw.cell? ⟨gN,14,none⟩=some (.slice (some ⟨g,0,none⟩) 1 c)∧lw.cell? ⟨gN,1,none⟩=some (sV t)):=fun lw x=>⟨fun j v hj=>cell_later (xt X x) (hcy j v hj),VW.later x,((VN.later x) 14 _ rfl).1,((VN.later x) 1 _ rfl).1⟩;have HKy:Hid (∀ W,Ext wb W→Calls Tryz.prog 37 #[.agg #[.int .i64 row,.int .i64 col],.agg #[.int .i64 yk,sV yt,.bool yn,.int .i64 yd,.int .i64 ye,.int .i64 yr,.int .i64 yc,.bool yf,.bool yg,.int .i64 yr2,.int .i64 yc2,.bool yf2,.bool yg2,.int .i64 yq,.slice p n c'],.int .i64 7] W fun e w'=>e=.returned (sV Ry)∧Ext W w'):=fun W XW=>HKy.out W (xt X XW);have c0:=(VN 0 _ rfl).1;have c1:=(VN 1 _ rfl).1;clear ha hb hgn hgw hz X1 X2 VW VN hcy;go_enter Tryz.func20,Tryz.ntmps20;go_upto_region 1 with fail;rw [HBA.out,HBB.out]
 (try rw [HG.out])
 (try rw [HGW.out])
 (try rw [HZ.out])
 clear HBA HBB HG HGW HZ;go_upto_region 13 with fail;refine wp_region_letters_c (fun lx:Nat→Value=>{ tmps:=#[Value.agg #[Value.int .i64 row,Value.int .i64 col],NT.ex ⟨9,t,ng,d,e,r,cc,f,gg,r2,c2,f2,g2,q⟩ (.slice (some ⟨g,0,none⟩) 1 c),Value.pointer (some ⟨gW,0,none⟩),Value.pointer (some ⟨gN,0,none⟩),lx 4,undef,undef,undef,undef,undef,undef,undef,undef,Value.pointer (some ⟨gN,0,none⟩),Value.pointer (some ⟨gN,0,none⟩),Value.int .i64 9,Value.bool false,Value.bool false,undef,undef,undef,undef,Value.bool false,Value.bool false,undef,undef,undef,undef,Value.bool false,Value.bool false,undef,undef,undef,undef,undef,Value.bool false,Value.bool false,undef,undef,undef,undef,undef,undef,undef,undef,undef,undef,undef,undef,Value.bool false,Value.bool false,undef,undef,undef,undef,undef,undef,undef,Value.bool true,Value.bool true,lx 60,lx 61,lx 62,lx 63,lx 64,lx 65,lx 66,undef,undef,undef,undef,undef,undef,undef,undef,undef,undef,undef,undef,undef,undef,undef,undef,undef,undef,undef,undef,undef,undef,undef,undef,undef,undef,undef,undef,undef,undef,undef,undef,undef,undef,undef,undef,undef,undef,undef,undef,undef,undef,undef,undef,undef,undef,undef,undef,undef,undef,undef,undef,undef,undef,undef,undef,undef,undef,undef,undef,undef,undef,undef,undef,undef,undef,undef,undef,undef,undef,undef,undef,undef,undef,undef,undef,undef,undef,undef,undef,undef,undef,undef,undef,undef,undef,undef,undef,undef,undef,undef,undef,undef,undef,undef],defers:=[] }) (fun L lx lw=>Hid (Ext wb lw∧(L 0=true→lx 60=.agg #[.int .i64 row,.int .i64 col])∧(L 1=true→lx 61=.pointer (some ⟨gN,14,none⟩))∧(L 2=true→lx 62=.slice (some ⟨g,0,none⟩) 1 c)∧(L 3=true→lx 63=.pointer (some ⟨g,0,none⟩))∧(L 4=true→lx 64=.agg #[.int .i64 yk,sV yt,.bool yn,.int .i64 yd,.int .i64 ye,.int .i64 yr,.int .i64 yc,.bool yf,.bool yg,.int .i64 yr2,.int .i64 yc2,.bool yf2,.bool yg2,.int .i64 yq,.slice p n c'])∧(L 5=true→lx 65=sV Ry)∧(L 6=true→lx 66=.string ((⟨Ry.toArray⟩:ByteArray)++⟨#[37]⟩))∧(L 7=true→lx 4=.string ((⟨Ry.toArray⟩:ByteArray)++⟨#[37]⟩)))) rfl (by kernel_rfl) (fun jj=>if jj=4 then Value.string { data:=#[] } else undef) rfl ?_ ?_ ?_
 ·exact ⟨xd (xr _),(fun h=>by cases h),(fun h=>by cases h),(fun h=>by cases h),(fun h=>by cases h),(fun h=>by cases h),(fun h=>by cases h),(fun h=>by cases h),(fun h=>by cases h)⟩
 ·intro L lx lw ix oo K hK ho hL haf hI hcl;obtain ⟨E,f0,f1,f2,f3,f4,f5,f6,f7⟩:=hI.out
  match ix,ho,hL,haf,hK with
  | 0,ho,hL,haf,hK =>
   cases ho
   (try dsimp only)
   refine Eq.mpr (if_pos (by rfl)) ?_;have q0:=((HM.out _ E).2.1 0 _ rfl).1;have q1:=((HM.out _ E).2.1 1 _ rfl).1;go_wp2_with fail;exact hK (fun jj=>if jj=60 then .agg #[.int .i64 row,.int .i64 col] else lx jj) _ ⟨E,(fun _=>rfl),f1,f2,f3,f4,f5,f6,f7⟩
  | 1,ho,hL,haf,hK =>
   cases ho
   (try dsimp only)
   refine Eq.mpr (if_pos (by rfl)) ?_;go_wp2_with fail;exact hK (fun jj=>if jj=61 then .pointer (some ⟨gN,14,none⟩) else lx jj) _ ⟨E,f0,(fun _=>rfl),f2,f3,f4,f5,f6,f7⟩
  | 2,ho,hL,haf,hK =>
   cases ho
   (try dsimp only)
   rw [f1 (haf ⟨1,.data⟩ (by simp) rfl)];refine Eq.mpr (if_pos (by rfl)) ?_;have q:=(HM.out _ E).2.2.1;go_wp2_with fail;exact hK (fun jj=>if jj=62 then .slice (some ⟨g,0,none⟩) 1 c else if jj=61 then .pointer (some ⟨gN,14,none⟩) else lx jj) _ ⟨E,f0,(fun _=>rfl),(fun _=>rfl),f3,f4,f5,f6,f7⟩
  | 3,ho,hL,haf,hK =>
   cases ho
   (try dsimp only)
   rw [f2 (haf ⟨2,.data⟩ (by simp) rfl)];refine Eq.mpr (if_pos (by rfl)) ?_;go_wp2_with fail;exact hK (fun jj=>if jj=63 then .pointer (some ⟨g,0,none⟩) else if jj=62 then .slice (some ⟨g,0,none⟩) 1 c else lx jj) _ ⟨E,f0,f1,(fun _=>rfl),(fun _=>rfl),f4,f5,f6,f7⟩
  | 4,ho,hL,haf,hK =>
   cases ho
   (try dsimp only)
   rw [f3 (haf ⟨3,.data⟩ (by simp) rfl)];refine Eq.mpr (if_pos (by rfl)) ?_;go_wp2_with (refine wpList_load_mid rfl 55 (.tmp 63) rfl g 0 rfl [.int .i64 yk,sV yt,.bool yn,.int .i64 yd,.int .i64 ye,.int .i64 yr,.int .i64 yc,.bool yf,.bool yg,.int .i64 yr2,.int .i64 yc2,.bool yf2,.bool yg2,.int .i64 yq,.slice p n c'] _ (HM.out _ E).1 Tryz.underlying55 rfl hi15E ?_);exact hK (fun jj=>if jj=64 then .agg #[.int .i64 yk,sV yt,.bool yn,.int .i64 yd,.int .i64 ye,.int .i64 yr,.int .i64 yc,.bool yf,.bool yg,.int .i64 yr2,.int .i64 yc2,.bool yf2,.bool yg2,.int .i64 yq,.slice p n c'] else if jj=63 then .pointer (some ⟨g,0,none⟩) else lx jj) _ ⟨E,f0,f1,f2,(fun _=>rfl),(fun _=>rfl),f5,f6,f7⟩
  | 5,ho,hL,haf,hK =>
   cases ho
   (try dsimp only)
   rw [f0 (haf ⟨0,.data⟩ (by simp) rfl),f4 (haf ⟨4,.data⟩ (by simp) rfl)];refine Eq.mpr (if_pos (by rfl)) ?_;go_wp2_with fail;refine (HKy.out lw E).mono ?_;rintro rr w' ⟨rfl,e'⟩;go_wp2_with fail;exact hK (fun jj=>if jj=65 then sV Ry else if jj=60 then .agg #[.int .i64 row,.int .i64 col] else if jj=64 then .agg #[.int .i64 yk,sV yt,.bool yn,.int .i64 yd,.int .i64 ye,.int .i64 yr,.int .i64 yc,.bool yf,.bool yg,.int .i64 yr2,.int .i64 yc2,.bool yf2,.bool yg2,.int .i64 yq,.slice p n c'] else lx jj) _ ⟨(xt E e'),(fun _=>rfl),f1,f2,f3,(fun _=>rfl),(fun _=>rfl),f6,f7⟩
  | 6,ho,hL,haf,hK =>
   cases ho
   (try dsimp only)
   rw [f5 (haf ⟨5,.data⟩ (by simp) rfl)];refine Eq.mpr (if_pos (by rfl)) ?_;have q:(9223372036854775807<Ry.length+1)=False:=eq_false (by have:=HLy.out;omega);go_wp2_with fail;exact hK (fun jj=>if jj=66 then .string ((⟨Ry.toArray⟩:ByteArray)++⟨#[37]⟩) else if jj=65 then sV Ry else lx jj) _ ⟨E,f0,f1,f2,f3,f4,(fun _=>rfl),(fun _=>rfl),f7⟩
  | 7,ho,hL,haf,hK =>
   cases ho
   (try dsimp only)
   rw [f6 (haf ⟨6,.data⟩ (by simp) rfl)];refine Eq.mpr (if_pos (by rfl)) ?_;go_wp2_with fail;exact hK (fun jj=>if jj=4 then .string ((⟨Ry.toArray⟩:ByteArray)++⟨#[37]⟩) else if jj=66 then .string ((⟨Ry.toArray⟩:ByteArray)++⟨#[37]⟩) else lx jj) _ ⟨E,f0,f1,f2,f3,f4,f5,(fun _=>rfl),(fun _=>rfl)⟩
  | k+8,ho,_,_,_=>simp at ho
 ·intro L lx w9 hall hI;obtain ⟨E,f0,f1,f2,f3,f4,f5,f6,f7⟩:=hI.out
  (try dsimp only)
  rw [f7 (hall 7 (by simp)),f0 (hall 0 (by simp)),f1 (hall 1 (by simp)),f2 (hall 2 (by simp)),f3 (hall 3 (by simp)),f4 (hall 4 (by simp)),f5 (hall 5 (by simp)),f6 (hall 6 (by simp))];clear hI hall f0 f1 f2 f3 f4 f5 f6 f7;go_wp2_with fail;go_ret;exact ⟨ret_str (by refine bs_of ?_;simp),xt X E⟩
set_option maxRecDepth 8000 in
set_option maxHeartbeats 4000000 in
theorem textS10 (row col:Int) (x:NT) (hk:x.k=10) (g c:Nat) (y:NT) (p:Option Addr) (n c':Nat) (ks:List ET) (u:List UInt8) (z:NT) (p2:Option Addr) (n2 c2':Nat) (ls:List ET) (v:List UInt8) (w:World) (hx:x.t ∈ opsL) (hcy:w.rangeAt g 0 (y.exL (.slice p n c'))) (hoy:y.k=10→y.t ∈ opsL) (huy:u.length≤1000000000)
  (hty:∀ W,Ext w W→Calls Tryz.prog 20 #[.agg #[.int .i64 row,.int .i64 col],y.ex (.slice p n c')] W fun e w'=>e=.returned (sV u)∧Ext W w') (hcz:w.rangeAt g 15 (z.exL (.slice p2 n2 c2'))) (hoz:z.k=10→z.t ∈ opsL) (huz:v.length≤1000000000)
  (htz:∀ W,Ext w W→Calls Tryz.prog 20 #[.agg #[.int .i64 row,.int .i64 col],z.ex (.slice p2 n2 c2')] W fun e w'=>e=.returned (sV v)∧Ext W w') :
  Calls Tryz.prog 20 #[.agg #[.int .i64 row,.int .i64 col],x.ex (.slice (some ⟨g,0,none⟩) 2 c)] w fun e w'=>e=.returned (sV (kidT (lvE (.mk y ks)) (lvOp x.t) u++(x.t++kidT (lvE (.mk z ls)) (lvOp x.t+1) v)))∧Ext w w':=by
 have HLV:Hid (1≤lvOp x.t∧lvOp x.t≤5∧x.t.length≤200):=⟨(ahead_ops _ hx).2.1,(ahead_ops _ hx).2.2,opsL_200 _ hx⟩;have HOP:Hid (∀ W,Calls Tryz.prog 38 #[sV x.t] W fun e w'=>e=.returned (.int .i64 (lvOp x.t))∧w'=W):=fun W=>opLevelS x.t W hx;have HKy:Hid (∀ W,Ext w W→Calls Tryz.prog 37 #[.agg #[.int .i64 row,.int .i64 col],y.ex (.slice p n c'),.int .i64 (lvOp x.t)] W fun e w'=>e=.returned (sV (kidT (lvE (.mk y ks)) (lvOp x.t) u))∧Ext W w'):=fun W XW=>kidS row col y p n c' ks (lvOp x.t) u W (by omega) hoy (fun W2 X2=>hty W2 (xt XW X2));have HLy:Hid ((kidT (lvE (.mk y ks)) (lvOp x.t) u).length≤2000000000):=kidT_short _ _ _ huy;obtain ⟨Ry,hRy⟩:∃ R,kidT (lvE (.mk y ks)) (lvOp x.t) u=R:=⟨_,rfl⟩;rw [hRy] at HKy HLy ⊢;clear hRy hoy hty huy;have HKz:Hid (∀ W,Ext w W→Calls Tryz.prog 37 #[.agg #[.int .i64 row,.int .i64 col],z.ex (.slice p2 n2 c2'),.int .i64 (lvOp x.t+1)] W fun e w'=>e=.returned (sV (kidT (lvE (.mk z ls)) (lvOp x.t+1) v))∧Ext W w'):=fun W XW=>kidS row col z p2 n2 c2' ls (lvOp x.t+1) v W (by omega) hoz (fun W2 X2=>htz W2 (xt XW X2));have HLz:Hid ((kidT (lvE (.mk z ls)) (lvOp x.t+1) v).length≤2000000000):=kidT_short _ _ _ huz;obtain ⟨Rz,hRz⟩:∃ R,kidT (lvE (.mk z ls)) (lvOp x.t+1) v=R:=⟨_,rfl⟩;rw [hRz] at HKz HLz ⊢;clear hRz hoz htz huz;obtain ⟨lv,hlv⟩:∃ lv,lvOp x.t=lv:=⟨_,rfl⟩;rw [hlv] at HLV HOP HKy HKz;clear hlv hx;obtain ⟨k,t,ng,d,e,r,cc,f,gg,r2,c2,f2,g2,q⟩:=x;obtain rfl:k=10:=hk;obtain ⟨yk,yt,yn,yd,ye,yr,yc,yf,yg,yr2,yc2,yf2,yg2,yq⟩:=y;obtain ⟨zk,zt,zn,zd,ze,zr,zc,zf,zg,zr2,zc2,zf2,zg2,zq⟩:=z;obtain ⟨wa,ha,X1,VW,-⟩:=boxed w [.int .i64 row,.int .i64 col] 39;obtain ⟨wb,hb,X2,VN,-⟩:=boxed wa [.int .i64 10,sV t,.bool ng,.int .i64 d,.int .i64 e,.int .i64 r,.int .i64 cc,.bool f,.bool gg,.int .i64 r2,.int .i64 c2,.bool f2,.bool g2,.int .i64 q,.slice (some ⟨g,0,none⟩) 2 c] 55;have HBA:Hid _:=ha;have HBB:Hid _:=hb;obtain ⟨gW,hgw⟩:∃ z,w.heap.size=z:=⟨_,rfl⟩;have HGW:Hid _:=hgw;obtain ⟨gN,hgn⟩:∃ z,wa.heap.size=z:=⟨_,rfl⟩;have HG:Hid _:=hgn;rw [hgw] at VW;rw [hgn] at VN;have VW:=VW.later X2;have X:=xt X1 X2;have hz:gW+1=gN:=by rw [← hgn,← ha,World.size_alloc,hgw]
 have HZ:Hid _:=hz;have HM:Hid (∀ lw,Ext wb lw→(lw.rangeAt g 0 [.int .i64 yk,sV yt,.bool yn,.int .i64 yd,.int .i64 ye,.int .i64 yr,.int .i64 yc,.bool yf,.bool yg,.int .i64 yr2,.int .i64 yc2,.bool yf2,.bool yg2,.int .i64 yq,.slice p n c']∧lw.rangeAt g 15 [.int .i64 zk,sV zt,.bool zn,.int .i64 zd,.int .i64 ze,.int .i64 zr,.int .i64 zc,.bool zf,.bool zg,.int .i64 zr2,.int .i64 zc2,.bool zf2,.bool zg2,.int .i64 zq,.slice p2 n2 c2'])∧Vec lw gW [.int .i64 row,.int .i64 col]∧lw.cell? ⟨gN,14,none⟩=some (.slice (some ⟨g,0,none⟩) 2 c)∧lw.cell? ⟨gN,1,none⟩=some (sV t)):=fun lw x=>⟨⟨fun j v hj=>cell_later (xt X x) (hcy j v hj),fun j v hj=>cell_later (xt X x) (hcz j v hj)⟩,VW.later x,((VN.later x) 14 _ rfl).1,((VN.later x) 1 _ rfl).1⟩;have HKy:Hid (∀ W,Ext wb W→Calls Tryz.prog 37 #[.agg #[.int .i64 row,.int .i64 col],.agg #[.int .i64 yk,sV yt,.bool yn,.int .i64 yd,.int .i64 ye,.int .i64 yr,.int .i64 yc,.bool yf,.bool yg,.int .i64 yr2,.int .i64 yc2,.bool yf2,.bool yg2,.int .i64 yq,.slice p n c'],.int .i64 lv] W fun e w'=>e=.returned (sV Ry)∧Ext W w'):=fun W XW=>HKy.out W (xt X XW);have HKz:Hid (∀ W,Ext wb W→Calls Tryz.prog 37 #[.agg #[.int .i64 row,.int .i64 col],.agg #[.int .i64 zk,sV zt,.bool zn,.int .i64 zd,.int .i64 ze,.int .i64 zr,.int .i64 zc,.bool zf,.bool zg,.int .i64 zr2,.int .i64 zc2,.bool zf2,.bool zg2,.int .i64 zq,.slice p2 n2 c2'],.int .i64 (lv+1)] W fun e w'=>e=.returned (sV Rz)∧Ext W w'):=fun W XW=>HKz.out W (xt X XW);have c0:=(VN 0 _ rfl).1;have c1:=(VN 1 _ rfl).1;clear ha hb hgn hgw hz X1 X2 VW VN hcy hcz;go_enter Tryz.func20,Tryz.ntmps20;go_upto_region 1 with fail;rw [HBA.out,HBB.out]
 (try rw [HG.out])
 (try rw [HGW.out])
 (try rw [HZ.out])
 clear HBA HBB HG HGW HZ;go_upto_region 16 with (refine (HOP.out _).mono ?_;rintro e w1 ⟨rfl,rfl⟩;go_wp2_with fail);refine wp_region_letters_c (fun lx:Nat→Value=>{ tmps:=#[Value.agg #[Value.int .i64 row,Value.int .i64 col],NT.ex ⟨10,t,ng,d,e,r,cc,f,gg,r2,c2,f2,g2,q⟩ (.slice (some ⟨g,0,none⟩) 2 c),Value.pointer (some ⟨gW,0,none⟩),Value.pointer (some ⟨gN,0,none⟩),lx 4,Value.int .i64 lv,undef,undef,undef,undef,undef,undef,undef,Value.pointer (some ⟨gN,0,none⟩),Value.pointer (some ⟨gN,0,none⟩),Value.int .i64 10,Value.bool false,Value.bool false,undef,undef,undef,undef,Value.bool false,Value.bool false,undef,undef,undef,undef,Value.bool false,Value.bool false,undef,undef,undef,undef,undef,Value.bool false,Value.bool false,undef,undef,undef,undef,undef,undef,undef,undef,undef,undef,undef,undef,Value.bool false,Value.bool false,undef,undef,undef,undef,undef,undef,undef,Value.bool false,Value.bool false,undef,undef,undef,undef,undef,undef,undef,Value.bool true,Value.bool true,Value.pointer (some ⟨gN,0,none⟩),Value.pointer (some ⟨gN,1,none⟩),sV t,Value.int .i64 lv,lx 73,lx 74,lx 75,lx 76,lx 77,lx 78,lx 79,lx 80,lx 81,lx 82,lx 83,lx 84,lx 85,lx 86,lx 87,lx 88,lx 89,lx 90,lx 91,lx 92,undef,undef,undef,undef,undef,undef,undef,undef,undef,undef,undef,undef,undef,undef,undef,undef,undef,undef,undef,undef,undef,undef,undef,undef,undef,undef,undef,undef,undef,undef,undef,undef,undef,undef,undef,undef,undef,undef,undef,undef,undef,undef,undef,undef,undef,undef,undef,undef,undef,undef,undef,undef,undef,undef,undef,undef,undef,undef,undef,undef,undef,undef,undef,undef,undef,undef,undef,undef,undef],defers:=[] }) (fun L lx lw=>Hid (Ext w1 lw∧(L 0=true→lx 73=.agg #[.int .i64 row,.int .i64 col])∧(L 1=true→lx 74=.pointer (some ⟨gN,14,none⟩))∧(L 2=true→lx 75=.slice (some ⟨g,0,none⟩) 2 c)∧(L 3=true→lx 76=.pointer (some ⟨g,0,none⟩))∧(L 4=true→lx 77=.agg #[.int .i64 yk,sV yt,.bool yn,.int .i64 yd,.int .i64 ye,.int .i64 yr,.int .i64 yc,.bool yf,.bool yg,.int .i64 yr2,.int .i64 yc2,.bool yf2,.bool yg2,.int .i64 yq,.slice p n c'])∧(L 5=true→lx 78=.int .i64 lv)∧(L 6=true→lx 79=sV Ry)∧(L 7=true→lx 80=.pointer (some ⟨gN,0,none⟩))∧(L 8=true→lx 81=.pointer (some ⟨gN,1,none⟩))∧(L 9=true→lx 82=sV t)∧(L 10=true→lx 83=.string ((⟨Ry.toArray⟩:ByteArray)++⟨t.toArray⟩))∧(L 11=true→lx 84=.agg #[.int .i64 row,.int .i64 col])∧(L 12=true→lx 85=.pointer (some ⟨gN,14,none⟩))∧(L 13=true→lx 86=.slice (some ⟨g,0,none⟩) 2 c)∧(L 14=true→lx 87=.pointer (some ⟨g,15,none⟩))∧(L 15=true→lx 88=.agg #[.int .i64 zk,sV zt,.bool zn,.int .i64 zd,.int .i64 ze,.int .i64 zr,.int .i64 zc,.bool zf,.bool zg,.int .i64 zr2,.int .i64 zc2,.bool zf2,.bool zg2,.int .i64 zq,.slice p2 n2 c2'])∧(L 16=true→lx 89=.int .i64 lv)∧(L 17=true→lx 90=.int .i64 (lv+1))∧(L 18=true→lx 91=sV Rz)∧(L 19=true→lx 92=.string (((⟨Ry.toArray⟩:ByteArray)++⟨t.toArray⟩)++⟨Rz.toArray⟩))∧(L 20=true→lx 4=.string (((⟨Ry.toArray⟩:ByteArray)++⟨t.toArray⟩)++⟨Rz.toArray⟩)))) rfl (by kernel_rfl) (fun jj=>if jj=4 then Value.string { data:=#[] } else undef) rfl ?_ ?_ ?_
 ·exact ⟨xd (xr _),(fun h=>by cases h),(fun h=>by cases h),(fun h=>by cases h),(fun h=>by cases h),(fun h=>by cases h),(fun h=>by cases h),(fun h=>by cases h),(fun h=>by cases h),(fun h=>by cases h),(fun h=>by cases h),(fun h=>by cases h),(fun h=>by cases h),(fun h=>by cases h),(fun h=>by cases h),(fun h=>by cases h),(fun h=>by cases h),(fun h=>by cases h),(fun h=>by cases h),(fun h=>by cases h),(fun h=>by cases h),(fun h=>by cases h)⟩
 ·intro L lx lw ix oo K hK ho hL haf hI hcl;obtain ⟨E,f0,f1,f2,f3,f4,f5,f6,f7,f8,f9,f10,f11,f12,f13,f14,f15,f16,f17,f18,f19,f20⟩:=hI.out
  match ix,ho,hL,haf,hK with
  | 0,ho,hL,haf,hK =>
   cases ho
   (try dsimp only)
   refine Eq.mpr (if_pos (by rfl)) ?_;have q0:=((HM.out _ E).2.1 0 _ rfl).1;have q1:=((HM.out _ E).2.1 1 _ rfl).1;go_wp2_with fail;exact hK (fun jj=>if jj=73 then .agg #[.int .i64 row,.int .i64 col] else lx jj) _ ⟨E,(fun _=>rfl),f1,f2,f3,f4,f5,f6,f7,f8,f9,f10,f11,f12,f13,f14,f15,f16,f17,f18,f19,f20⟩
  | 1,ho,hL,haf,hK =>
   cases ho
   (try dsimp only)
   refine Eq.mpr (if_pos (by rfl)) ?_;go_wp2_with fail;exact hK (fun jj=>if jj=74 then .pointer (some ⟨gN,14,none⟩) else lx jj) _ ⟨E,f0,(fun _=>rfl),f2,f3,f4,f5,f6,f7,f8,f9,f10,f11,f12,f13,f14,f15,f16,f17,f18,f19,f20⟩
  | 2,ho,hL,haf,hK =>
   cases ho
   (try dsimp only)
   rw [f1 (haf ⟨1,.data⟩ (by simp) rfl)];refine Eq.mpr (if_pos (by rfl)) ?_;have q:=(HM.out _ E).2.2.1;go_wp2_with fail;exact hK (fun jj=>if jj=75 then .slice (some ⟨g,0,none⟩) 2 c else if jj=74 then .pointer (some ⟨gN,14,none⟩) else lx jj) _ ⟨E,f0,(fun _=>rfl),(fun _=>rfl),f3,f4,f5,f6,f7,f8,f9,f10,f11,f12,f13,f14,f15,f16,f17,f18,f19,f20⟩
  | 3,ho,hL,haf,hK =>
   cases ho
   (try dsimp only)
   rw [f2 (haf ⟨2,.data⟩ (by simp) rfl)];refine Eq.mpr (if_pos (by rfl)) ?_;go_wp2_with fail;exact hK (fun jj=>if jj=76 then .pointer (some ⟨g,0,none⟩) else if jj=75 then .slice (some ⟨g,0,none⟩) 2 c else lx jj) _ ⟨E,f0,f1,(fun _=>rfl),(fun _=>rfl),f4,f5,f6,f7,f8,f9,f10,f11,f12,f13,f14,f15,f16,f17,f18,f19,f20⟩
  | 4,ho,hL,haf,hK =>
   cases ho
   (try dsimp only)
   rw [f3 (haf ⟨3,.data⟩ (by simp) rfl)];refine Eq.mpr (if_pos (by rfl)) ?_;go_wp2_with (refine wpList_load_mid rfl 55 (.tmp 76) rfl g 0 rfl [.int .i64 yk,sV yt,.bool yn,.int .i64 yd,.int .i64 ye,.int .i64 yr,.int .i64 yc,.bool yf,.bool yg,.int .i64 yr2,.int .i64 yc2,.bool yf2,.bool yg2,.int .i64 yq,.slice p n c'] _ (HM.out _ E).1.1 Tryz.underlying55 rfl hi15E ?_);exact hK (fun jj=>if jj=77 then .agg #[.int .i64 yk,sV yt,.bool yn,.int .i64 yd,.int .i64 ye,.int .i64 yr,.int .i64 yc,.bool yf,.bool yg,.int .i64 yr2,.int .i64 yc2,.bool yf2,.bool yg2,.int .i64 yq,.slice p n c'] else if jj=76 then .pointer (some ⟨g,0,none⟩) else lx jj) _ ⟨E,f0,f1,f2,(fun _=>rfl),(fun _=>rfl),f5,f6,f7,f8,f9,f10,f11,f12,f13,f14,f15,f16,f17,f18,f19,f20⟩
  | 5,ho,hL,haf,hK =>
   cases ho
   (try dsimp only)
   refine Eq.mpr (if_pos (by rfl)) ?_;go_wp2_with fail;exact hK (fun jj=>if jj=78 then .int .i64 lv else lx jj) _ ⟨E,f0,f1,f2,f3,f4,(fun _=>rfl),f6,f7,f8,f9,f10,f11,f12,f13,f14,f15,f16,f17,f18,f19,f20⟩
  | 6,ho,hL,haf,hK =>
   cases ho
   (try dsimp only)
   rw [f0 (haf ⟨0,.data⟩ (by simp) rfl),f4 (haf ⟨4,.data⟩ (by simp) rfl),f5 (haf ⟨5,.data⟩ (by simp) rfl)];refine Eq.mpr (if_pos (by rfl)) ?_;go_wp2_with fail;refine (HKy.out lw E).mono ?_;rintro rr w' ⟨rfl,e'⟩;go_wp2_with fail;exact hK (fun jj=>if jj=79 then sV Ry else if jj=73 then .agg #[.int .i64 row,.int .i64 col] else if jj=77 then .agg #[.int .i64 yk,sV yt,.bool yn,.int .i64 yd,.int .i64 ye,.int .i64 yr,.int .i64 yc,.bool yf,.bool yg,.int .i64 yr2,.int .i64 yc2,.bool yf2,.bool yg2,.int .i64 yq,.slice p n c'] else if jj=78 then .int .i64 lv else lx jj) _ ⟨(xt E e'),(fun _=>rfl),f1,f2,f3,(fun _=>rfl),(fun _=>rfl),(fun _=>rfl),f7,f8,f9,f10,f11,f12,f13,f14,f15,f16,f17,f18,f19,f20⟩
  | 7,ho,hL,haf,hK =>
   cases ho
   (try dsimp only)
   refine Eq.mpr (if_pos (by rfl)) ?_;go_wp2_with fail;exact hK (fun jj=>if jj=80 then .pointer (some ⟨gN,0,none⟩) else lx jj) _ ⟨E,f0,f1,f2,f3,f4,f5,f6,(fun _=>rfl),f8,f9,f10,f11,f12,f13,f14,f15,f16,f17,f18,f19,f20⟩
  | 8,ho,hL,haf,hK =>
   cases ho
   (try dsimp only)
   rw [f7 (haf ⟨7,.data⟩ (by simp) rfl)];refine Eq.mpr (if_pos (by rfl)) ?_;go_wp2_with fail;exact hK (fun jj=>if jj=81 then .pointer (some ⟨gN,1,none⟩) else if jj=80 then .pointer (some ⟨gN,0,none⟩) else lx jj) _ ⟨E,f0,f1,f2,f3,f4,f5,f6,(fun _=>rfl),(fun _=>rfl),f9,f10,f11,f12,f13,f14,f15,f16,f17,f18,f19,f20⟩
  | 9,ho,hL,haf,hK =>
   cases ho
   (try dsimp only)
   rw [f8 (haf ⟨8,.data⟩ (by simp) rfl)];refine Eq.mpr (if_pos (by rfl)) ?_;have q:=(HM.out _ E).2.2.2;go_wp2_with fail;exact hK (fun jj=>if jj=82 then sV t else if jj=81 then .pointer (some ⟨gN,1,none⟩) else lx jj) _ ⟨E,f0,f1,f2,f3,f4,f5,f6,f7,(fun _=>rfl),(fun _=>rfl),f10,f11,f12,f13,f14,f15,f16,f17,f18,f19,f20⟩
  | 10,ho,hL,haf,hK =>
   cases ho
   (try dsimp only)
   rw [f6 (haf ⟨6,.data⟩ (by simp) rfl),f9 (haf ⟨9,.data⟩ (by simp) rfl)];refine Eq.mpr (if_pos (by rfl)) ?_;have q:(9223372036854775807<Ry.length+t.length)=False:=eq_false (by have:=HLy.out;have:=HLV.out;omega);go_wp2_with fail;exact hK (fun jj=>if jj=83 then .string ((⟨Ry.toArray⟩:ByteArray)++⟨t.toArray⟩) else if jj=79 then sV Ry else if jj=82 then sV t else lx jj) _ ⟨E,f0,f1,f2,f3,f4,f5,(fun _=>rfl),f7,f8,(fun _=>rfl),(fun _=>rfl),f11,f12,f13,f14,f15,f16,f17,f18,f19,f20⟩
  | 11,ho,hL,haf,hK =>
   cases ho
   (try dsimp only)
   refine Eq.mpr (if_pos (by rfl)) ?_;have q0:=((HM.out _ E).2.1 0 _ rfl).1;have q1:=((HM.out _ E).2.1 1 _ rfl).1;go_wp2_with fail;exact hK (fun jj=>if jj=84 then .agg #[.int .i64 row,.int .i64 col] else lx jj) _ ⟨E,f0,f1,f2,f3,f4,f5,f6,f7,f8,f9,f10,(fun _=>rfl),f12,f13,f14,f15,f16,f17,f18,f19,f20⟩
  | 12,ho,hL,haf,hK =>
   cases ho
   (try dsimp only)
   refine Eq.mpr (if_pos (by rfl)) ?_;go_wp2_with fail;exact hK (fun jj=>if jj=85 then .pointer (some ⟨gN,14,none⟩) else lx jj) _ ⟨E,f0,f1,f2,f3,f4,f5,f6,f7,f8,f9,f10,f11,(fun _=>rfl),f13,f14,f15,f16,f17,f18,f19,f20⟩
  | 13,ho,hL,haf,hK =>
   cases ho
   (try dsimp only)
   rw [f12 (haf ⟨12,.data⟩ (by simp) rfl)];refine Eq.mpr (if_pos (by rfl)) ?_;have q:=(HM.out _ E).2.2.1;go_wp2_with fail;exact hK (fun jj=>if jj=86 then .slice (some ⟨g,0,none⟩) 2 c else if jj=85 then .pointer (some ⟨gN,14,none⟩) else lx jj) _ ⟨E,f0,f1,f2,f3,f4,f5,f6,f7,f8,f9,f10,f11,(fun _=>rfl),(fun _=>rfl),f14,f15,f16,f17,f18,f19,f20⟩
  | 14,ho,hL,haf,hK =>
   cases ho
   (try dsimp only)
   rw [f13 (haf ⟨13,.data⟩ (by simp) rfl)];refine Eq.mpr (if_pos (by rfl)) ?_;go_wp2_with fail;exact hK (fun jj=>if jj=87 then .pointer (some ⟨g,15,none⟩) else if jj=86 then .slice (some ⟨g,0,none⟩) 2 c else lx jj) _ ⟨E,f0,f1,f2,f3,f4,f5,f6,f7,f8,f9,f10,f11,f12,(fun _=>rfl),(fun _=>rfl),f15,f16,f17,f18,f19,f20⟩
  | 15,ho,hL,haf,hK =>
   cases ho
   (try dsimp only)
   rw [f14 (haf ⟨14,.data⟩ (by simp) rfl)];refine Eq.mpr (if_pos (by rfl)) ?_;go_wp2_with (refine wpList_load_mid rfl 55 (.tmp 87) rfl g 15 rfl [.int .i64 zk,sV zt,.bool zn,.int .i64 zd,.int .i64 ze,.int .i64 zr,.int .i64 zc,.bool zf,.bool zg,.int .i64 zr2,.int .i64 zc2,.bool zf2,.bool zg2,.int .i64 zq,.slice p2 n2 c2'] _ (HM.out _ E).1.2 Tryz.underlying55 rfl hi15E ?_);exact hK (fun jj=>if jj=88 then .agg #[.int .i64 zk,sV zt,.bool zn,.int .i64 zd,.int .i64 ze,.int .i64 zr,.int .i64 zc,.bool zf,.bool zg,.int .i64 zr2,.int .i64 zc2,.bool zf2,.bool zg2,.int .i64 zq,.slice p2 n2 c2'] else if jj=87 then .pointer (some ⟨g,15,none⟩) else lx jj) _ ⟨E,f0,f1,f2,f3,f4,f5,f6,f7,f8,f9,f10,f11,f12,f13,(fun _=>rfl),(fun _=>rfl),f16,f17,f18,f19,f20⟩
  | 16,ho,hL,haf,hK =>
   cases ho
   (try dsimp only)
   refine Eq.mpr (if_pos (by rfl)) ?_;go_wp2_with fail;exact hK (fun jj=>if jj=89 then .int .i64 lv else lx jj) _ ⟨E,f0,f1,f2,f3,f4,f5,f6,f7,f8,f9,f10,f11,f12,f13,f14,f15,(fun _=>rfl),f17,f18,f19,f20⟩
  | 17,ho,hL,haf,hK =>
   cases ho
   (try dsimp only)
   rw [f16 (haf ⟨16,.data⟩ (by simp) rfl)];refine Eq.mpr (if_pos (by rfl)) ?_;have q:IntKind.i64.wrap (lv+1)=lv+1:=by have:=HLV.out;rw [IntKind.wrap_i64] <;> omega
   go_wp2_with fail;exact hK (fun jj=>if jj=90 then .int .i64 (lv+1) else if jj=89 then .int .i64 lv else lx jj) _ ⟨E,f0,f1,f2,f3,f4,f5,f6,f7,f8,f9,f10,f11,f12,f13,f14,f15,(fun _=>rfl),(fun _=>rfl),f18,f19,f20⟩
  | 18,ho,hL,haf,hK =>
   cases ho
   (try dsimp only)
   rw [f11 (haf ⟨11,.data⟩ (by simp) rfl),f15 (haf ⟨15,.data⟩ (by simp) rfl),f17 (haf ⟨17,.data⟩ (by simp) rfl)];refine Eq.mpr (if_pos (by rfl)) ?_;go_wp2_with fail;refine (HKz.out lw E).mono ?_;rintro rr w' ⟨rfl,e'⟩;go_wp2_with fail;exact hK (fun jj=>if jj=91 then sV Rz else if jj=84 then .agg #[.int .i64 row,.int .i64 col] else if jj=88 then .agg #[.int .i64 zk,sV zt,.bool zn,.int .i64 zd,.int .i64 ze,.int .i64 zr,.int .i64 zc,.bool zf,.bool zg,.int .i64 zr2,.int .i64 zc2,.bool zf2,.bool zg2,.int .i64 zq,.slice p2 n2 c2'] else if jj=90 then .int .i64 (lv+1) else lx jj) _ ⟨(xt E e'),f0,f1,f2,f3,f4,f5,f6,f7,f8,f9,f10,(fun _=>rfl),f12,f13,f14,(fun _=>rfl),f16,(fun _=>rfl),(fun _=>rfl),f19,f20⟩
  | 19,ho,hL,haf,hK =>
   cases ho
   (try dsimp only)
   rw [f10 (haf ⟨10,.data⟩ (by simp) rfl),f18 (haf ⟨18,.data⟩ (by simp) rfl)];refine Eq.mpr (if_pos (by rfl)) ?_;have q:(9223372036854775807<Ry.length+t.length+Rz.length)=False:=eq_false (by have:=HLy.out;have:=HLz.out;have:=HLV.out;omega);go_wp2_with fail;exact hK (fun jj=>if jj=92 then .string (((⟨Ry.toArray⟩:ByteArray)++⟨t.toArray⟩)++⟨Rz.toArray⟩) else if jj=83 then .string ((⟨Ry.toArray⟩:ByteArray)++⟨t.toArray⟩) else if jj=91 then sV Rz else lx jj) _ ⟨E,f0,f1,f2,f3,f4,f5,f6,f7,f8,f9,(fun _=>rfl),f11,f12,f13,f14,f15,f16,f17,(fun _=>rfl),(fun _=>rfl),f20⟩
  | 20,ho,hL,haf,hK =>
   cases ho
   (try dsimp only)
   rw [f19 (haf ⟨19,.data⟩ (by simp) rfl)];refine Eq.mpr (if_pos (by rfl)) ?_;go_wp2_with fail;exact hK (fun jj=>if jj=4 then .string (((⟨Ry.toArray⟩:ByteArray)++⟨t.toArray⟩)++⟨Rz.toArray⟩) else if jj=92 then .string (((⟨Ry.toArray⟩:ByteArray)++⟨t.toArray⟩)++⟨Rz.toArray⟩) else lx jj) _ ⟨E,f0,f1,f2,f3,f4,f5,f6,f7,f8,f9,f10,f11,f12,f13,f14,f15,f16,f17,f18,(fun _=>rfl),(fun _=>rfl)⟩
  | k+21,ho,_,_,_=>simp at ho
 ·intro L lx w9 hall hI;obtain ⟨E,f0,f1,f2,f3,f4,f5,f6,f7,f8,f9,f10,f11,f12,f13,f14,f15,f16,f17,f18,f19,f20⟩:=hI.out
  (try dsimp only)
  rw [f20 (hall 20 (by simp)),f0 (hall 0 (by simp)),f1 (hall 1 (by simp)),f2 (hall 2 (by simp)),f3 (hall 3 (by simp)),f4 (hall 4 (by simp)),f5 (hall 5 (by simp)),f6 (hall 6 (by simp)),f7 (hall 7 (by simp)),f8 (hall 8 (by simp)),f9 (hall 9 (by simp)),f10 (hall 10 (by simp)),f11 (hall 11 (by simp)),f12 (hall 12 (by simp)),f13 (hall 13 (by simp)),f14 (hall 14 (by simp)),f15 (hall 15 (by simp)),f16 (hall 16 (by simp)),f17 (hall 17 (by simp)),f18 (hall 18 (by simp)),f19 (hall 19 (by simp))];clear hI hall f0 f1 f2 f3 f4 f5 f6 f7 f8 f9 f10 f11 f12 f13 f14 f15 f16 f17 f18 f19 f20;go_wp2_with fail;go_ret;exact ⟨ret_str (by refine bs_of ?_;simp),xt X E⟩
end Go.Proofs.YtogecaajnjcenaaGreatDoor

