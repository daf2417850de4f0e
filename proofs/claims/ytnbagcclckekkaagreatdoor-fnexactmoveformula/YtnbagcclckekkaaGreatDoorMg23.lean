/-
  Several texts in one: Gf5, Qx, Vc.
-/
import Derived.Test.YtnbagcclckekkaaGreatDoorMg22
import Derived.Test.YtnbagcclckekkaaGreatDoorBase
import Derived.BigQuiet
import Derived.Test.YtnbagcclckekkaaGreatDoorMg1
namespace Go.Proofs.YtnbagcclckekkaaGreatDoor
open Go.RowKit
theorem xdNz {a b:World} (h:Ext a b) (n:Nat):Ext a (b.drewN n):=⟨h.os,h.tape,h.output,h.size,h.block⟩
set_option maxRecDepth 8000 in
set_option maxHeartbeats 2000000 in
theorem treeOver8 (x:NT) (k:Int) (hk:k=8∨k=9) (g cap:Nat) (T:TypeId) (a:Value) (w:World) (V:Vec w g [.iface T a]) :
  Calls Tryz.prog 90 #[nodV k x.t x.n x.d x.x x.r x.c x.f x.g x.r2 x.c2 x.f2 x.g2 x.q,.slice (some ⟨g,0,none⟩) 1 cap] w fun e w'=>e=.returned (.iface 147 (.agg #[.int .i64 k,.iface T a]))∧Ext w w':=by
 have VN:=vec_made w [.int .i64 k,sV x.t,.bool x.n,.int .i64 x.d,.int .i64 x.x,.int .i64 x.r,.int .i64 x.c,.bool x.f,.bool x.g,.int .i64 x.r2,.int .i64 x.c2,.bool x.f2,.bool x.g2,.int .i64 x.q] 59;have X1:=x1 w (.cells [.int .i64 k,sV x.t,.bool x.n,.int .i64 x.d,.int .i64 x.x,.int .i64 x.r,.int .i64 x.c,.bool x.f,.bool x.g,.int .i64 x.r2,.int .i64 x.c2,.bool x.f2,.bool x.g2,.int .i64 x.q].toArray 59);obtain ⟨wa,ha⟩:∃ wa,w.alloc (.cells [.int .i64 k,sV x.t,.bool x.n,.int .i64 x.d,.int .i64 x.x,.int .i64 x.r,.int .i64 x.c,.bool x.f,.bool x.g,.int .i64 x.r2,.int .i64 x.c2,.bool x.f2,.bool x.g2,.int .i64 x.q].toArray 59)=wa:=⟨_,rfl⟩;rw [ha] at VN X1;have a0:=(VN 0 _ rfl).1;have b0:=((V.later X1) 0 _ rfl).1
 rcases hk with rfl | rfl
 all_goals
  go_enter Tryz.func90,Tryz.ntmps90;go_wp2_with fail
  go_region
  go_wp2_with fail;go_ret;exact ⟨rfl,xdNz X1 _⟩
set_option maxRecDepth 8000 in
set_option maxHeartbeats 2000000 in
theorem treeOver10 (x:NT) (g cap:Nat) (T1 T2:TypeId) (a1 a2:Value) (w:World) (V:Vec w g [.iface T1 a1,.iface T2 a2]) (hO:OpTab w) :
  Calls Tryz.prog 90 #[nodV 10 x.t x.n x.d x.x x.r x.c x.f x.g x.r2 x.c2 x.f2 x.g2 x.q,.slice (some ⟨g,0,none⟩) 2 cap] w fun e w'=>(∃ s lev,e=.returned (.iface 152 (.agg #[sV s,.int .i64 lev,.iface T1 a1,.iface T2 a2])))∧Ext w w':=by
 have VN:=vec_made w [.int .i64 10,sV x.t,.bool x.n,.int .i64 x.d,.int .i64 x.x,.int .i64 x.r,.int .i64 x.c,.bool x.f,.bool x.g,.int .i64 x.r2,.int .i64 x.c2,.bool x.f2,.bool x.g2,.int .i64 x.q] 59;have X1:=x1 w (.cells [.int .i64 10,sV x.t,.bool x.n,.int .i64 x.d,.int .i64 x.x,.int .i64 x.r,.int .i64 x.c,.bool x.f,.bool x.g,.int .i64 x.r2,.int .i64 x.c2,.bool x.f2,.bool x.g2,.int .i64 x.q].toArray 59);obtain ⟨wa,ha⟩:∃ wa,w.alloc (.cells [.int .i64 10,sV x.t,.bool x.n,.int .i64 x.d,.int .i64 x.x,.int .i64 x.r,.int .i64 x.c,.bool x.f,.bool x.g,.int .i64 x.r2,.int .i64 x.c2,.bool x.f2,.bool x.g2,.int .i64 x.q].toArray 59)=wa:=⟨_,rfl⟩;rw [ha] at VN X1;have a0:=(VN 0 _ rfl).1;have V1:=V.later X1;have aT:=(VN 1 _ rfl).1;obtain ⟨⟨os,ol⟩,hos⟩:∃ o,aheadO x.t=o:=⟨_,rfl⟩;have AH:Hid (∀ W,Ext wa W→Calls Tryz.prog 111 #[sV x.t] W fun e w'=>e=.returned (.agg #[sV os,.int .i64 ol])∧Ext W w'):=fun W X=>by
  have:=aheadI x.t W (hO.later (xt X1 X));rw [hos] at this;exact this
 clear hos V hO;go_enter Tryz.func90,Tryz.ntmps90;go_wp2_with fail;refine wp_region_letters_c (fun lx:Nat→Value=>{ tmps:=#[nodV 10 x.t x.n x.d x.x x.r x.c x.f x.g x.r2 x.c2 x.f2 x.g2 x.q,Value.slice (some ⟨g,0,none⟩) 2 cap,Value.pointer (some ⟨w.heap.size,0,none⟩),undef,lx 4,Value.pointer (some ⟨w.heap.size,0,none⟩),Value.int .i64 10,Value.bool false,Value.bool false,Value.bool false,undef,undef,undef,undef,undef,undef,undef,Value.bool true,Value.bool true,lx 19,lx 20,lx 21,lx 22,lx 23,lx 24,lx 25,lx 26,lx 27,lx 28,lx 29,undef,undef,undef,undef,undef,undef,undef,undef,undef,undef,undef,undef,undef,undef,undef,undef,undef,undef],defers:=[] }) (fun L lx lw=>Hid (Ext wa lw∧(L 0=true→lx 19=.pointer (some ⟨w.heap.size,1,none⟩))∧(L 1=true→lx 20=sV x.t)∧(L 2=true→lx 21=.agg #[sV os,.int .i64 ol])∧(L 3=true→lx 22=.slice (some ⟨g,0,none⟩) 2 cap)∧(L 4=true→lx 23=.pointer (some ⟨g,0,none⟩))∧(L 5=true→lx 24=.iface T1 a1)∧(L 6=true→lx 25=.slice (some ⟨g,0,none⟩) 2 cap)∧(L 7=true→lx 26=.pointer (some ⟨g,1,none⟩))∧(L 8=true→lx 27=.iface T2 a2)∧(L 9=true→lx 28=.agg #[sV os,.int .i64 ol,.iface T1 a1,.iface T2 a2])∧(L 10=true→lx 29=.iface 152 (.agg #[sV os,.int .i64 ol,.iface T1 a1,.iface T2 a2]))∧(L 11=true→lx 4=.iface 152 (.agg #[sV os,.int .i64 ol,.iface T1 a1,.iface T2 a2])))) rfl (by kernel_rfl) (fun jj=>if jj=4 then Value.nilIface else undef) rfl ?_ ?_ ?_
 ·exact ⟨xd (xr _),(fun h=>by cases h),(fun h=>by cases h),(fun h=>by cases h),(fun h=>by cases h),(fun h=>by cases h),(fun h=>by cases h),(fun h=>by cases h),(fun h=>by cases h),(fun h=>by cases h),(fun h=>by cases h),(fun h=>by cases h),(fun h=>by cases h)⟩
 ·intro L lx lw ix o K hK ho hL haf hI hcl;obtain ⟨E,f0,f1,f2,f3,f4,f5,f6,f7,f8,f9,f10,f11⟩:=hI.out
  match ix,ho,hL,haf,hK with
  | 0,ho,hL,haf,hK =>
   cases ho
   (try dsimp only)
   refine Eq.mpr (if_pos (by rfl)) ?_;go_wp2_with fail;exact hK (fun jj=>if jj=19 then .pointer (some ⟨w.heap.size,1,none⟩) else lx jj) _ ⟨E,(fun _=>rfl),f1,f2,f3,f4,f5,f6,f7,f8,f9,f10,f11⟩
  | 1,ho,hL,haf,hK =>
   cases ho
   (try dsimp only)
   rw [f0 (haf ⟨0,.data⟩ (by simp) rfl)];refine Eq.mpr (if_pos (by rfl)) ?_;have c1:=cell_later E aT;go_wp2_with fail;exact hK (fun jj=>if jj=20 then sV x.t else if jj=19 then .pointer (some ⟨w.heap.size,1,none⟩) else lx jj) _ ⟨E,(fun _=>rfl),(fun _=>rfl),f2,f3,f4,f5,f6,f7,f8,f9,f10,f11⟩
  | 2,ho,hL,haf,hK =>
   cases ho
   (try dsimp only)
   rw [f1 (haf ⟨1,.data⟩ (by simp) rfl)];refine Eq.mpr (if_pos (by rfl)) ?_;go_wp2_with fail;refine (AH.out lw E).mono ?_;rintro rr w' ⟨rfl,e'⟩;go_wp2_with fail;exact hK (fun jj=>if jj=21 then .agg #[sV os,.int .i64 ol] else if jj=20 then sV x.t else lx jj) _ ⟨(xt E e'),f0,(fun _=>rfl),(fun _=>rfl),f3,f4,f5,f6,f7,f8,f9,f10,f11⟩
  | 3,ho,hL,haf,hK =>
   cases ho
   (try dsimp only)
   refine Eq.mpr (if_pos (by rfl)) ?_;go_wp2_with fail;exact hK (fun jj=>if jj=22 then .slice (some ⟨g,0,none⟩) 2 cap else lx jj) _ ⟨E,f0,f1,f2,(fun _=>rfl),f4,f5,f6,f7,f8,f9,f10,f11⟩
  | 4,ho,hL,haf,hK =>
   cases ho
   (try dsimp only)
   rw [f3 (haf ⟨3,.data⟩ (by simp) rfl)];refine Eq.mpr (if_pos (by rfl)) ?_;go_wp2_with fail;exact hK (fun jj=>if jj=23 then .pointer (some ⟨g,0,none⟩) else if jj=22 then .slice (some ⟨g,0,none⟩) 2 cap else lx jj) _ ⟨E,f0,f1,f2,(fun _=>rfl),(fun _=>rfl),f5,f6,f7,f8,f9,f10,f11⟩
  | 5,ho,hL,haf,hK =>
   cases ho
   (try dsimp only)
   rw [f4 (haf ⟨4,.data⟩ (by simp) rfl)];refine Eq.mpr (if_pos (by rfl)) ?_;have c0:=((V1.later E) 0 _ rfl).1;go_wp2_with fail;exact hK (fun jj=>if jj=24 then .iface T1 a1 else if jj=23 then .pointer (some ⟨g,0,none⟩) else lx jj) _ ⟨E,f0,f1,f2,f3,(fun _=>rfl),(fun _=>rfl),f6,f7,f8,f9,f10,f11⟩
  | 6,ho,hL,haf,hK =>
   cases ho
   (try dsimp only)
   refine Eq.mpr (if_pos (by rfl)) ?_;go_wp2_with fail;exact hK (fun jj=>if jj=25 then .slice (some ⟨g,0,none⟩) 2 cap else lx jj) _ ⟨E,f0,f1,f2,f3,f4,f5,(fun _=>rfl),f7,f8,f9,f10,f11⟩
  | 7,ho,hL,haf,hK =>
   cases ho
   (try dsimp only)
   rw [f6 (haf ⟨6,.data⟩ (by simp) rfl)];refine Eq.mpr (if_pos (by rfl)) ?_;go_wp2_with fail;exact hK (fun jj=>if jj=26 then .pointer (some ⟨g,1,none⟩) else if jj=25 then .slice (some ⟨g,0,none⟩) 2 cap else lx jj) _ ⟨E,f0,f1,f2,f3,f4,f5,(fun _=>rfl),(fun _=>rfl),f8,f9,f10,f11⟩
  | 8,ho,hL,haf,hK =>
   cases ho
   (try dsimp only)
   rw [f7 (haf ⟨7,.data⟩ (by simp) rfl)];refine Eq.mpr (if_pos (by rfl)) ?_;have c0:=((V1.later E) 1 _ rfl).1;go_wp2_with fail;exact hK (fun jj=>if jj=27 then .iface T2 a2 else if jj=26 then .pointer (some ⟨g,1,none⟩) else lx jj) _ ⟨E,f0,f1,f2,f3,f4,f5,f6,(fun _=>rfl),(fun _=>rfl),f9,f10,f11⟩
  | 9,ho,hL,haf,hK =>
   cases ho
   (try dsimp only)
   rw [f2 (haf ⟨2,.data⟩ (by simp) rfl),f5 (haf ⟨5,.data⟩ (by simp) rfl),f8 (haf ⟨8,.data⟩ (by simp) rfl)];refine Eq.mpr (if_pos (by rfl)) ?_;go_wp2_with fail;exact hK (fun jj=>if jj=28 then .agg #[sV os,.int .i64 ol,.iface T1 a1,.iface T2 a2] else if jj=21 then .agg #[sV os,.int .i64 ol] else if jj=24 then .iface T1 a1 else if jj=27 then .iface T2 a2 else lx jj) _ ⟨E,f0,f1,(fun _=>rfl),f3,f4,(fun _=>rfl),f6,f7,(fun _=>rfl),(fun _=>rfl),f10,f11⟩
  | 10,ho,hL,haf,hK =>
   cases ho
   (try dsimp only)
   rw [f9 (haf ⟨9,.data⟩ (by simp) rfl)];refine Eq.mpr (if_pos (by rfl)) ?_;go_wp2_with fail;exact hK (fun jj=>if jj=29 then .iface 152 (.agg #[sV os,.int .i64 ol,.iface T1 a1,.iface T2 a2]) else if jj=28 then .agg #[sV os,.int .i64 ol,.iface T1 a1,.iface T2 a2] else lx jj) _ ⟨E,f0,f1,f2,f3,f4,f5,f6,f7,f8,(fun _=>rfl),(fun _=>rfl),f11⟩
  | 11,ho,hL,haf,hK =>
   cases ho
   (try dsimp only)
   rw [f10 (haf ⟨10,.data⟩ (by simp) rfl)];refine Eq.mpr (if_pos (by rfl)) ?_;go_wp2_with fail;exact hK (fun jj=>if jj=4 then .iface 152 (.agg #[sV os,.int .i64 ol,.iface T1 a1,.iface T2 a2]) else if jj=29 then .iface 152 (.agg #[sV os,.int .i64 ol,.iface T1 a1,.iface T2 a2]) else lx jj) _ ⟨E,f0,f1,f2,f3,f4,f5,f6,f7,f8,f9,(fun _=>rfl),(fun _=>rfl)⟩
  | k+12,ho,_,_,_=>simp at ho
 ·intro L lx w9 hall hI;obtain ⟨E,f0,f1,f2,f3,f4,f5,f6,f7,f8,f9,f10,f11⟩:=hI.out
  (try dsimp only)
  rw [f11 (hall 11 (by simp)),f0 (hall 0 (by simp)),f1 (hall 1 (by simp)),f2 (hall 2 (by simp)),f3 (hall 3 (by simp)),f4 (hall 4 (by simp)),f5 (hall 5 (by simp)),f6 (hall 6 (by simp)),f7 (hall 7 (by simp)),f8 (hall 8 (by simp)),f9 (hall 9 (by simp)),f10 (hall 10 (by simp))];clear hI hall f0 f1 f2 f3 f4 f5 f6 f7 f8 f9 f10 f11;go_wp2_with fail;go_ret;exact ⟨⟨os,ol,rfl⟩,xt X1 E⟩
set_option maxRecDepth 8000 in
set_option maxHeartbeats 2000000 in
theorem treeOver11 (x:NT) (p:Option Addr) (n cap:Nat) (w:World) :
  Calls Tryz.prog 90 #[nodV 11 x.t x.n x.d x.x x.r x.c x.f x.g x.r2 x.c2 x.f2 x.g2 x.q,.slice p n cap] w fun e w'=>e=.returned (.iface 154 (.agg #[sV x.t,.slice p n cap]))∧Ext w w':=by
 have VN:=vec_made w [.int .i64 11,sV x.t,.bool x.n,.int .i64 x.d,.int .i64 x.x,.int .i64 x.r,.int .i64 x.c,.bool x.f,.bool x.g,.int .i64 x.r2,.int .i64 x.c2,.bool x.f2,.bool x.g2,.int .i64 x.q] 59;have X1:=x1 w (.cells [.int .i64 11,sV x.t,.bool x.n,.int .i64 x.d,.int .i64 x.x,.int .i64 x.r,.int .i64 x.c,.bool x.f,.bool x.g,.int .i64 x.r2,.int .i64 x.c2,.bool x.f2,.bool x.g2,.int .i64 x.q].toArray 59);obtain ⟨wa,ha⟩:∃ wa,w.alloc (.cells [.int .i64 11,sV x.t,.bool x.n,.int .i64 x.d,.int .i64 x.x,.int .i64 x.r,.int .i64 x.c,.bool x.f,.bool x.g,.int .i64 x.r2,.int .i64 x.c2,.bool x.f2,.bool x.g2,.int .i64 x.q].toArray 59)=wa:=⟨_,rfl⟩;rw [ha] at VN X1;have a0:=(VN 0 _ rfl).1;have aT:=(VN 1 _ rfl).1;go_enter Tryz.func90,Tryz.ntmps90;go_wp2_with fail;go_ret;exact ⟨rfl,X1⟩
set_option maxRecDepth 8000 in
set_option maxHeartbeats 2000000 in
theorem treeOver12 (x:NT) (p:Option Addr) (n cap:Nat) (w:World) (hl:x.t.length≤1048576) (LW:LibW w) :
  Calls Tryz.prog 90 #[nodV 12 x.t x.n x.d x.x x.r x.c x.f x.g x.r2 x.c2 x.f2 x.g2 x.q,.slice p n cap] w fun e w'=>e=.returned (.iface 156 (.agg #[.int .i64 (whole x.t),.slice p n cap]))∧Ext w w':=by
 have VN:=vec_made w [.int .i64 12,sV x.t,.bool x.n,.int .i64 x.d,.int .i64 x.x,.int .i64 x.r,.int .i64 x.c,.bool x.f,.bool x.g,.int .i64 x.r2,.int .i64 x.c2,.bool x.f2,.bool x.g2,.int .i64 x.q] 59;have X1:=x1 w (.cells [.int .i64 12,sV x.t,.bool x.n,.int .i64 x.d,.int .i64 x.x,.int .i64 x.r,.int .i64 x.c,.bool x.f,.bool x.g,.int .i64 x.r2,.int .i64 x.c2,.bool x.f2,.bool x.g2,.int .i64 x.q].toArray 59);obtain ⟨wa,ha⟩:∃ wa,w.alloc (.cells [.int .i64 12,sV x.t,.bool x.n,.int .i64 x.d,.int .i64 x.x,.int .i64 x.r,.int .i64 x.c,.bool x.f,.bool x.g,.int .i64 x.r2,.int .i64 x.c2,.bool x.f2,.bool x.g2,.int .i64 x.q].toArray 59)=wa:=⟨_,rfl⟩;rw [ha] at VN X1;have a0:=(VN 0 _ rfl).1;have aT:=(VN 1 _ rfl).1;have WH:Calls Tryz.prog 112 #[sV x.t] wa fun e w'=>e=.returned (.int .i64 (whole x.t))∧Ext wa w':=wholeC x.t wa hl (LW.later X1);go_enter Tryz.func90,Tryz.ntmps90;go_wp2_with fail;refine WH.mono ?_;rintro e w1 ⟨rfl,e1⟩;go_wp2_with fail;go_ret;exact ⟨rfl,xt X1 e1⟩
set_option maxRecDepth 8000 in
set_option maxHeartbeats 2000000 in
theorem treeOverL (x:NT) (p:Option Addr) (n cap:Nat) (w:World) (k:Int) (h8:k ≠ 8) (h9:k ≠ 9) (h10:k ≠ 10) (h11:k ≠ 11) (h12:k ≠ 12) :
  Calls Tryz.prog 90 #[nodV k x.t x.n x.d x.x x.r x.c x.f x.g x.r2 x.c2 x.f2 x.g2 x.q,.slice p n cap] w fun e w'=>e=.returned (.iface 158 (nodV k x.t x.n x.d x.x x.r x.c x.f x.g x.r2 x.c2 x.f2 x.g2 x.q))∧Ext w w':=by
 have VN:=vec_made w [.int .i64 k,sV x.t,.bool x.n,.int .i64 x.d,.int .i64 x.x,.int .i64 x.r,.int .i64 x.c,.bool x.f,.bool x.g,.int .i64 x.r2,.int .i64 x.c2,.bool x.f2,.bool x.g2,.int .i64 x.q] 59;have X1:=x1 w (.cells [.int .i64 k,sV x.t,.bool x.n,.int .i64 x.d,.int .i64 x.x,.int .i64 x.r,.int .i64 x.c,.bool x.f,.bool x.g,.int .i64 x.r2,.int .i64 x.c2,.bool x.f2,.bool x.g2,.int .i64 x.q].toArray 59);obtain ⟨wa,ha⟩:∃ wa,w.alloc (.cells [.int .i64 k,sV x.t,.bool x.n,.int .i64 x.d,.int .i64 x.x,.int .i64 x.r,.int .i64 x.c,.bool x.f,.bool x.g,.int .i64 x.r2,.int .i64 x.c2,.bool x.f2,.bool x.g2,.int .i64 x.q].toArray 59)=wa:=⟨_,rfl⟩;rw [ha] at VN X1;have a0:=(VN 0 _ rfl).1;have HRA:wa.rangeAt w.heap.size 0 [.int .i64 k,sV x.t,.bool x.n,.int .i64 x.d,.int .i64 x.x,.int .i64 x.r,.int .i64 x.c,.bool x.f,.bool x.g,.int .i64 x.r2,.int .i64 x.c2,.bool x.f2,.bool x.g2,.int .i64 x.q]:=fun j v hv=>by rw [Nat.zero_add];exact (VN j v hv).1
 go_enter Tryz.func90,Tryz.ntmps90;go_wp2_with (refine wpList_load_mid rfl 59 (.tmp 2) rfl w.heap.size 0 rfl [.int .i64 k,sV x.t,.bool x.n,.int .i64 x.d,.int .i64 x.x,.int .i64 x.r,.int .i64 x.c,.bool x.f,.bool x.g,.int .i64 x.r2,.int .i64 x.c2,.bool x.f2,.bool x.g2,.int .i64 x.q] _ HRA Tryz.underlying59 rfl hi14N ?_);go_ret;exact ⟨rfl,X1⟩
theorem treeOverI (x:NT) (v:Value) (vs:List Value) (ks:List ET) (w:World) (h:TreesAt w v vs) (hs:ShapesV vs ks) (h8:x.k=8∨x.k=9→vs.length=1) (h10:x.k=10→vs.length=2) (h12:x.k=12→0≤whole x.t∧whole x.t≤20) (hl:x.t.length≤1048576) (hO:OpTab w) (LW:LibW w) :
  Calls Tryz.prog 90 #[x.val,v] w fun e w'=>∃ u,e=.returned u∧ShapeV u (.mk x ks)∧Ext w w':=by
 obtain ⟨p,cap,rfl,hc,hrow⟩:=h;by_cases k8:x.k=8∨x.k=9
 ·have h1:=h8 k8;obtain ⟨g,rfl,V⟩:=hrow (by omega);obtain ⟨u,e,hu,he,hue⟩:=hs.get (i:=0) (by omega);obtain ⟨u',hu'⟩:=List.length_eq_one_iff.1 h1;obtain ⟨e',he'⟩:=List.length_eq_one_iff.1 (show ks.length=1 by rw [← hs.1];exact h1);subst hu' he';cases hu;cases he;obtain ⟨T,a,rfl⟩:=hue.1.iface;refine (treeOver8 x x.k k8 g cap T a w V).mono ?_;rintro e w' ⟨rfl,e1⟩;exact ⟨_,rfl,⟨KindV.signed _ _,fun q8=>⟨_,_,by rw [show x.k=8 from q8],rfl,hue.1⟩⟩,e1⟩
 ·by_cases k10:x.k=10
  ·have h2:=h10 k10;obtain ⟨g,rfl,V⟩:=hrow (by omega);obtain ⟨u1,u2,hu⟩:∃ u1 u2,vs=[u1,u2]:=by
    match vs,h2 with
    | [a,b],_=>exact ⟨a,b,rfl⟩
   subst hu;obtain ⟨v1,e1,q1,r1,s1⟩:=hs.get (i:=0) (by simp);obtain ⟨v2,e2,q2,r2,s2⟩:=hs.get (i:=1) (by simp);cases q1;cases q2;obtain ⟨T1,a1,rfl⟩:=s1.1.iface;obtain ⟨T2,a2,rfl⟩:=s2.1.iface;have:=treeOver10 x g cap T1 T2 a1 a2 w V hO;rw [← k10] at this;refine this.mono ?_;rintro e w' ⟨⟨s,lev,rfl⟩,e3⟩;refine ⟨_,rfl,⟨?_,fun q8=>absurd (show x.k=8 from q8) (by omega)⟩,e3⟩;show KindV _ x.k;rw [k10];exact KindV.pair _ _ _ _
  ·by_cases k11:x.k=11
   ·have:=treeOver11 x p vs.length cap w;rw [← k11] at this;refine this.mono ?_;rintro e w' ⟨rfl,e3⟩;refine ⟨_,rfl,⟨?_,fun q8=>absurd (show x.k=8 from q8) (by omega)⟩,e3⟩;show KindV _ x.k;rw [k11];exact KindV.call _ _ _ _
   ·by_cases k12:x.k=12
    ·have:=treeOver12 x p vs.length cap w hl LW;rw [← k12] at this;refine this.mono ?_;rintro e w' ⟨rfl,e3⟩;refine ⟨_,rfl,⟨?_,fun q8=>absurd (show x.k=8 from q8) (by omega)⟩,e3⟩;show KindV _ x.k;rw [k12];exact KindV.array _ _ _ _ (h12 k12).1 (h12 k12).2
    ·refine (treeOverL x p vs.length cap w x.k (fun q=>k8 (.inl q)) (fun q=>k8 (.inr q)) k10 k11 k12).mono ?_;rintro e w' ⟨rfl,e3⟩;exact ⟨_,rfl,⟨KindV.leaf x,fun q8=>absurd (show x.k=8 from q8) (fun q=>k8 (.inl q))⟩,e3⟩
structure ExtW (w:World) where
 wld:World
 ext:Ext w wld
instance (w:World):Nonempty (ExtW w):=⟨⟨w,xr w⟩⟩
theorem wp_region_quiet_ext {P:Program} {id:Nat} {Q:Exit→Act→World→Prop} {a:Act} {w:World} {l:List Oper} (hm:P.follows .mixedOrders=true) (hB:Region.lexB .any l.toArray=true)
  (h:wpQuiet P l.toArray (fun w'=>∃ p:ExtW w,w'=p.wld) (fun a'=>∀ w',(∃ p:ExtW w,w'=p.wld)→Q .normal a' w') l a):(Code.region id l.toArray true).wp P Q a w:=
 wp_region_quiet (C:=fun w'=>∃ p:ExtW w,w'=p.wld) hm hB ⟨⟨_,xd (xr w)⟩,rfl⟩ (by simpa using h)
theorem quiet_ext {P:Program} {f:FuncId} {args:Array Value} {w:World} {p:ExtW w} {v:Value} (h:Calls P f args p.wld fun e w'=>e=.returned v∧Ext p.wld w') :
  Calls P f args p.wld fun e w''=>e=.returned v∧∃ q:ExtW w,w''=q.wld:=
 h.mono fun _ w' ⟨he,X⟩=>⟨he,⟨w',xt p.ext X⟩,rfl⟩
theorem quiet_end {P:Program} {ops:Array Oper} {Q:Exit→Act→World→Prop} {a:Act} {w:World} (h:∀ w',Ext w w'→Q .normal a w') :
  wpQuiet P ops (fun w'=>∃ p:ExtW w,w'=p.wld) (fun a'=>∀ w',(∃ p:ExtW w,w'=p.wld)→Q .normal a' w') [] a:=
 wpQuiet_nil (by rintro _ ⟨p,rfl⟩;exact h p.wld p.ext)
theorem Vec.c14 {w:World} {b:Nat} {c0 c1 c2 c3 c4 c5 c6 c7 c8 c9 c10 c11 c12 c13:Value} {l:List Value} (h:Vec w b (c0 :: c1 :: c2 :: c3 :: c4 :: c5 :: c6 :: c7 :: c8 :: c9 :: c10 :: c11 :: c12 :: c13 :: l)):w.cell? ⟨b,0,none⟩=some c0∧w.cell? ⟨b,1,none⟩=some c1∧w.cell? ⟨b,2,none⟩=some c2∧w.cell? ⟨b,3,none⟩=some c3∧w.cell? ⟨b,4,none⟩=some c4∧w.cell? ⟨b,5,none⟩=some c5∧w.cell? ⟨b,6,none⟩=some c6∧w.cell? ⟨b,7,none⟩=some c7∧w.cell? ⟨b,8,none⟩=some c8∧w.cell? ⟨b,9,none⟩=some c9∧w.cell? ⟨b,10,none⟩=some c10∧w.cell? ⟨b,11,none⟩=some c11∧w.cell? ⟨b,12,none⟩=some c12∧w.cell? ⟨b,13,none⟩=some c13:=
 ⟨(h 0 _ rfl).1,(h 1 _ rfl).1,(h 2 _ rfl).1,(h 3 _ rfl).1,(h 4 _ rfl).1,(h 5 _ rfl).1,(h 6 _ rfl).1,(h 7 _ rfl).1,(h 8 _ rfl).1,(h 9 _ rfl).1,(h 10 _ rfl).1,(h 11 _ rfl).1,(h 12 _ rfl).1,(h 13 _ rfl).1⟩
theorem Vec.e14 {w:World} {b:Nat} {c0 c1 c2 c3 c4 c5 c6 c7 c8 c9 c10 c11 c12 c13:Value} {l:List Value} (h:Vec w b (c0 :: c1 :: c2 :: c3 :: c4 :: c5 :: c6 :: c7 :: c8 :: c9 :: c10 :: c11 :: c12 :: c13 :: l)):(∀ p:ExtW w,p.wld.cell? ⟨b,0,none⟩=some c0)∧(∀ p:ExtW w,p.wld.cell? ⟨b,1,none⟩=some c1)∧(∀ p:ExtW w,p.wld.cell? ⟨b,2,none⟩=some c2)∧(∀ p:ExtW w,p.wld.cell? ⟨b,3,none⟩=some c3)∧(∀ p:ExtW w,p.wld.cell? ⟨b,4,none⟩=some c4)∧(∀ p:ExtW w,p.wld.cell? ⟨b,5,none⟩=some c5)∧(∀ p:ExtW w,p.wld.cell? ⟨b,6,none⟩=some c6)∧(∀ p:ExtW w,p.wld.cell? ⟨b,7,none⟩=some c7)∧(∀ p:ExtW w,p.wld.cell? ⟨b,8,none⟩=some c8)∧(∀ p:ExtW w,p.wld.cell? ⟨b,9,none⟩=some c9)∧(∀ p:ExtW w,p.wld.cell? ⟨b,10,none⟩=some c10)∧(∀ p:ExtW w,p.wld.cell? ⟨b,11,none⟩=some c11)∧(∀ p:ExtW w,p.wld.cell? ⟨b,12,none⟩=some c12)∧(∀ p:ExtW w,p.wld.cell? ⟨b,13,none⟩=some c13):=
 ⟨fun p=>(h.later p.ext 0 _ rfl).1,fun p=>(h.later p.ext 1 _ rfl).1,fun p=>(h.later p.ext 2 _ rfl).1,fun p=>(h.later p.ext 3 _ rfl).1,fun p=>(h.later p.ext 4 _ rfl).1,fun p=>(h.later p.ext 5 _ rfl).1,fun p=>(h.later p.ext 6 _ rfl).1,fun p=>(h.later p.ext 7 _ rfl).1,fun p=>(h.later p.ext 8 _ rfl).1,fun p=>(h.later p.ext 9 _ rfl).1,fun p=>(h.later p.ext 10 _ rfl).1,fun p=>(h.later p.ext 11 _ rfl).1,fun p=>(h.later p.ext 12 _ rfl).1,fun p=>(h.later p.ext 13 _ rfl).1⟩
end Go.Proofs.YtnbagcclckekkaaGreatDoor

