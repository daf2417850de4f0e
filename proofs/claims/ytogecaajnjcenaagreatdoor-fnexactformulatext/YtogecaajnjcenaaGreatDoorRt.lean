/-
  RefText on both sides.
-/
import Derived.Test.YtogecaajnjcenaaGreatDoorMg5
import Derived.Test.YtogecaajnjcenaaGreatDoorMg9
import Derived.Deep.RegionHeld3
namespace Go.Proofs.YtogecaajnjcenaaGreatDoor
open Go.RowKit
def bs (l:List UInt8):ByteArray:=⟨l.toArray⟩
theorem bs_list (l:List UInt8):(bs l).data.toList=l:=rfl
theorem bs_size (l:List UInt8):(bs l).size=l.length:=by rw [size_ofL (bs_list l)]
theorem bs_of {s:ByteArray} {l:List UInt8} (h:s.data.toList=l):s=bs l:=bytes_eq h rfl
theorem app_list (a b:ByteArray):(a++b).data.toList=a.data.toList++b.data.toList:=by rw [ByteArray.data_append,Array.toList_append]
theorem ret_str {s t:ByteArray} (h:s=t):Ending.returned (.string s)=.returned (.string t):=by rw [h]
theorem bs_app (a b:List UInt8):bs a++bs b=bs (a++b):=bs_of (by rw [app_list,bs_list,bs_list])
theorem fixI (b:Bool) (w:World):Calls Tryz.prog 152 #[.bool b] w fun e w'=>e=.returned (.string (bs (fixT b)))∧w'=w:=by
 cases b
 all_goals
  go_enter Tryz.func152,Tryz.ntmps152
  go_wp2
  go_ret;exact ⟨rfl,rfl⟩
theorem fixS (b:Bool) (w:World):Calls Tryz.prog 70 #[.bool b] w fun e w'=>e=.returned (.string (bs (fixT b)))∧w'=w:=by
 cases b
 all_goals
  go_enter Tryz.func70,Tryz.ntmps70
  go_wp2
  go_ret;exact ⟨rfl,rfl⟩
theorem colI (n:Int) (w:World):Calls Tryz.prog 153 #[.int .i64 n] w fun e w'=>e=.returned (.string (bs (colName n)))∧w'=w:=
 (colNameI n w).mono fun _ _ ⟨s,he,hs,hw⟩=>⟨by rw [he,bs_of hs],hw⟩
theorem colS (n:Int) (w:World):Calls Tryz.prog 71 #[.int .i64 n] w fun e w'=>e=.returned (.string (bs (colName n)))∧Ext w w':=
 (colNameS n w).mono fun _ _ ⟨s,he,hs,hw⟩=>⟨by rw [he,bs_of hs],hw⟩
theorem itoI {w0:World} (IT:ItoaC w0) (n:Int) (w:World) (n0 : -1000≤n) (n1:n≤1000) (X:Ext w0 w):Calls Tryz.prog 87 #[.int .i64 n] w fun e w'=>e=.returned (.string (bs (intT n)))∧Ext w w':=
 (IT n w (by omega) (by omega) X).mono fun _ _ ⟨s,he,hs,hw⟩=>⟨by rw [he,bs_of hs,itoa_intT (by omega) (by omega)],hw⟩
theorem numI (n:Int) (w:World) (n0:0≤n) (n1:n≤1000):Calls Tryz.prog 51 #[.int .i64 n] w fun e w'=>e=.returned (.string (bs (intT n)))∧Ext w w':=
 (num_any n w n0 (by omega)).mono fun _ _ ⟨l,he,ht,hw⟩=>⟨by rw [he,show l=intT n by rw [ht.dec n0,intT_nat n0,dec_dN (by omega)]];rfl,hw⟩
theorem fixT_len (b:Bool):(fixT b).length≤1:=by cases b <;> decide
theorem colName_len (n:Int):(colName n).length≤2:=by
 unfold colName
 split
 ·rename_i h;exact (colN_val n.toNat (by omega) (by omega)).2.2.1
 ·decide
theorem intT_len {n:Int} (n0 : -1000≤n) (n1:n≤1000):(intT n).length≤5:=by
 unfold intT
 split
 ·have:=(whole_dN n.natAbs (by omega)).2.2.2.2.2;simp;omega
 ·have:=(whole_dN n.toNat (by omega)).2.2.2.2.2;omega
theorem goodRB_iff (r c:Int):goodRB r c=true ↔ GoodR r c:=by unfold goodRB GoodR;simp
set_option maxRecDepth 8000 in
set_option maxHeartbeats 1000000 in
theorem refTextI (r c:Int) (rf cf:Bool) (w:World) {w0:World} (IT:ItoaC w0) (X0:Ext w0 w) :
  Calls Tryz.prog 132 #[refV r c rf cf] w fun e w'=>e=.returned (.string (bs (refT r c rf cf)))∧Ext w w':=by
 have B:=Box4.made w (.int .i64 r) (.int .i64 c) (.bool rf) (.bool cf) 41;have X:=x1 w (.cells #[.int .i64 r,.int .i64 c,.bool rf,.bool cf] 41);have G:=fun w=>goodRI r c rf cf w;by_cases hg:GoodR r c
 ·rw [(goodRB_iff r c).2 hg] at G;have HR:Hid (refT r c rf cf=fixT cf++colName c++fixT rf++intT r):=by show _=_;unfold refT;rw [if_pos hg,refL]
  have II:=fun (w:World) (x:Ext w0 w)=>itoI IT r w (by have:=hg.1;omega) (by have:=hg.1;omega) x;obtain ⟨k1,z1⟩:∃ k,(bs (fixT cf)).size=k:=⟨_,rfl⟩;obtain ⟨k2,z2⟩:∃ k,(bs (colName c)).size=k:=⟨_,rfl⟩;obtain ⟨k3,z3⟩:∃ k,(bs (fixT rf)).size=k:=⟨_,rfl⟩;obtain ⟨k4,z4⟩:∃ k,(bs (intT r)).size=k:=⟨_,rfl⟩;have l1:k1≤1:=by rw [← z1,bs_size];exact fixT_len _
  have l2:k2≤2:=by rw [← z2,bs_size];exact colName_len _
  have l3:k3≤1:=by rw [← z3,bs_size];exact fixT_len _
  have l4:k4≤5:=by rw [← z4,bs_size];exact intT_len (by have:=hg.1;omega) (by have:=hg.1;omega)
  have q1:(9223372036854775807<k1+k2)=False:=eq_false (by omega);have q2:(9223372036854775807<k1+k2+k3)=False:=eq_false (by omega);have q3:(9223372036854775807<k1+k2+k3+k4)=False:=eq_false (by omega);clear hg;go_enter Tryz.func132,Tryz.ntmps132;go_wp2_with fail;refine (G _).mono ?_;rintro e w1 ⟨rfl,e1⟩;have B1:=B.later e1;have X1:=xt X e1;clear B X e1 G;have Y:=xr w1;obtain ⟨⟨a0,a1,a2,a3⟩,_⟩:=B1;go_wp2_with fail;go_region_held3 (fun w'=>w'.cell? ⟨w.heap.size,0,none⟩=some (.int .i64 r)∧w'.cell? ⟨w.heap.size,1,none⟩=some (.int .i64 c)∧w'.cell? ⟨w.heap.size,2,none⟩=some (.bool rf)∧w'.cell? ⟨w.heap.size,3,none⟩=some (.bool cf)) (go_keep) (first
   | (go_at_call 152;refine (fixI _ _).mono ?_;rintro e w' ⟨rfl,rfl⟩)
   | (go_at_call 153;refine (colI _ _).mono ?_;rintro e w' ⟨rfl,rfl⟩)
   | (go_at_call 87;refine (II _ (by first | exact xt X0 X1 | exact xt X0 (xd X1))).mono ?_;rintro e w3 ⟨rfl,e3⟩;have Y:Ext w1 w3:=(by first | exact xt Y e3 | exact xt (xd Y) e3);have a0:=cell_later Y a0;have a1:=cell_later Y a1;have a2:=cell_later Y a2;have a3:=cell_later Y a3))
  all_goals go_wp2_with fail
  all_goals go_ret
  all_goals exact ⟨ret_str (by rw [HR.out,bs_app,bs_app,bs_app]),xt X1 Y⟩
 ·have hg':goodRB r c=false:=by
   rw [← Bool.not_eq_true,goodRB_iff];exact hg
  have HR:Hid (refT r c rf cf=[]):=by show _=_;unfold refT;rw [if_neg hg]
  rw [hg'] at G;clear hg hg';go_enter Tryz.func132,Tryz.ntmps132;go_wp2_with fail;refine (G _).mono ?_;rintro e w1 ⟨rfl,e1⟩;go_wp2_with fail;go_ret;exact ⟨ret_str (by rw [HR.out];rfl),xt X e1⟩
set_option maxRecDepth 8000 in
set_option maxHeartbeats 1000000 in
theorem refTextS (r c:Int) (rf cf:Bool) (w:World) :
  Calls Tryz.prog 54 #[refV r c rf cf] w fun e w'=>e=.returned (.string (bs (refT r c rf cf)))∧Ext w w':=by
 have B:=Box4.made w (.int .i64 r) (.int .i64 c) (.bool rf) (.bool cf) 41;have X:=x1 w (.cells #[.int .i64 r,.int .i64 c,.bool rf,.bool cf] 41);have G:=fun w=>goodRS r c rf cf w;by_cases hg:GoodR r c
 ·rw [(goodRB_iff r c).2 hg] at G;have HR:Hid (refT r c rf cf=fixT cf++colName c++fixT rf++intT r):=by show _=_;unfold refT;rw [if_pos hg,refL]
  have II:=fun (w:World)=>numI r w (by have:=hg.1;omega) (by have:=hg.1;omega);obtain ⟨k1,z1⟩:∃ k,(bs (fixT cf)).size=k:=⟨_,rfl⟩;obtain ⟨k2,z2⟩:∃ k,(bs (colName c)).size=k:=⟨_,rfl⟩;obtain ⟨k3,z3⟩:∃ k,(bs (fixT rf)).size=k:=⟨_,rfl⟩;obtain ⟨k4,z4⟩:∃ k,(bs (intT r)).size=k:=⟨_,rfl⟩;have l1:k1≤1:=by rw [← z1,bs_size];exact fixT_len _
  have l2:k2≤2:=by rw [← z2,bs_size];exact colName_len _
  have l3:k3≤1:=by rw [← z3,bs_size];exact fixT_len _
  have l4:k4≤5:=by rw [← z4,bs_size];exact intT_len (by have:=hg.1;omega) (by have:=hg.1;omega)
  have q1:(9223372036854775807<k1+k2)=False:=eq_false (by omega);have q2:(9223372036854775807<k1+k2+k3)=False:=eq_false (by omega);have q3:(9223372036854775807<k1+k2+k3+k4)=False:=eq_false (by omega);clear hg;go_enter Tryz.func54,Tryz.ntmps54;go_wp2_with fail;refine (G _).mono ?_;rintro e w1 ⟨rfl,e1⟩;have B1:=B.later e1;have X1:=xt X e1;clear B X e1 G;have Y:=xr w1;obtain ⟨⟨a0,a1,a2,a3⟩,_⟩:=B1.later Y;go_wp2_with fail;go_region_held3 (fun w'=>w'.cell? ⟨w.heap.size,0,none⟩=some (.int .i64 r)∧w'.cell? ⟨w.heap.size,1,none⟩=some (.int .i64 c)∧w'.cell? ⟨w.heap.size,2,none⟩=some (.bool rf)∧w'.cell? ⟨w.heap.size,3,none⟩=some (.bool cf)) (go_keep) (first
   | (go_at_call 70;refine (fixS _ _).mono ?_;rintro e w' ⟨rfl,rfl⟩)
   | (go_at_call 71;refine (colS _ _).mono ?_;rintro e w3 ⟨rfl,e3⟩;have Y:Ext w1 w3:=(by first | exact xt Y e3 | exact xt (xd Y) e3);obtain ⟨⟨a0,a1,a2,a3⟩,_⟩:=B1.later Y)
   | (go_at_call 51;refine (II _).mono ?_;rintro e w3 ⟨rfl,e3⟩;have Y:Ext w1 w3:=(by first | exact xt Y e3 | exact xt (xd Y) e3);obtain ⟨⟨a0,a1,a2,a3⟩,_⟩:=B1.later Y))
  all_goals go_wp2_with fail
  all_goals go_ret
  all_goals exact ⟨ret_str (by rw [HR.out,bs_app,bs_app,bs_app]),xt X1 Y⟩
 ·have hg':goodRB r c=false:=by
   rw [← Bool.not_eq_true,goodRB_iff];exact hg
  have HR:Hid (refT r c rf cf=[]):=by show _=_;unfold refT;rw [if_neg hg]
  rw [hg'] at G;clear hg hg';go_enter Tryz.func54,Tryz.ntmps54;go_wp2_with fail;refine (G _).mono ?_;rintro e w1 ⟨rfl,e1⟩;go_wp2_with fail;go_ret;exact ⟨ret_str (by rw [HR.out];rfl),xt X e1⟩
end Go.Proofs.YtogecaajnjcenaaGreatDoor

