import Derived.Test.YteliaeejooekbaaGreatDoorMg4
import Derived.Test.YteliaeejooekbaaGreatDoorMg8
import Derived.Deep.RegionHeld3
set_option maxRecDepth 8000
set_option maxHeartbeats 1000000
namespace Go.Proofs.YteliaeejooekbaaGreatDoor
open Go.RowKit
def bs (l:List UInt8):ByteArray:=⟨l.toArray⟩
theorem zCF (l:List UInt8):(bs l).data.toList=l:=rfl
theorem zBG (l:List UInt8):(bs l).size=l.length:=by rw [zKD (zCF l)]
theorem zOS {s:ByteArray} {l:List UInt8} (h:s.data.toList=l):s=bs l:=zHT h rfl
theorem zQT (a b:ByteArray):(a++b).data.toList=a.data.toList++b.data.toList:=by rw [ByteArray.data_append,Array.toList_append]
theorem zHL {s t:ByteArray} (h:s=t):Ending.returned (.string s)=.returned (.string t):=by rw [h]
theorem zHD (a b:List UInt8):bs a++bs b=bs (a++b):=zOS (by rw [zQT,zCF,zCF])
theorem fixI (b:Bool) (w:World):Calls Tryz.prog 188 #[.bool b] w fun e w'=>e=.returned (.string (bs (fixT b)))/\w'=w:=by
 cases b
 all_goals
  go_enter Tryz.func188,Tryz.ntmps188
  go_wp2
  go_ret;exact ⟨rfl,rfl⟩
theorem fixS (b:Bool) (w:World):Calls Tryz.prog 180 #[.bool b] w fun e w'=>e=.returned (.string (bs (fixT b)))/\w'=w:=by
 cases b
 all_goals
  go_enter Tryz.func180,Tryz.ntmps180
  go_wp2
  go_ret;exact ⟨rfl,rfl⟩
theorem colI (n:Int) (w:World):Calls Tryz.prog 189 #[iQ n] w fun e w'=>e=.returned (.string (bs (zAM n)))/\w'=w:=
 (zQJ n w).mono fun _ _ ⟨s,he,hs,hw⟩=>⟨by rw [he,zOS hs],hw⟩
theorem colS (n:Int) (w:World):Calls Tryz.prog 179 #[iQ n] w fun e w'=>e=.returned (.string (bs (zAM n)))/\Ext w w':=
 (zL2 n w).mono fun _ _ ⟨s,he,hs,hw⟩=>⟨by rw [he,zOS hs],hw⟩
theorem itoI {w0:World} (IT:zBY w0) (n:Int) (w:World) (n0 : -1000<=n) (n1:n<=1000) (X:Ext w0 w):Calls Tryz.prog 160 #[iQ n] w fun e w'=>e=.returned (.string (bs (intT n)))/\Ext w w':=
 (IT n w (by omega) (by omega) X).mono fun _ _ ⟨s,he,hs,hw⟩=>⟨by rw [he,zOS hs,zNY (by omega) (by omega)],hw⟩
theorem numI (n:Int) (w:World) (n0:0<=n) (n1:n<=1000):Calls Tryz.prog 81 #[iQ n] w fun e w'=>e=.returned (.string (bs (intT n)))/\Ext w w':=
 (zN2 n w n0 (by omega)).mono fun _ _ ⟨l,he,ht,hw⟩=>⟨by rw [he,show l=intT n by rw [ht.dec n0,zHN n0,zOJ (by omega)]];rfl,hw⟩
theorem zFV (b:Bool):(fixT b).length<=1:=by cases b <;> decide
theorem zGN (n:Int):(zAM n).length<=2:=by
 unfold zAM
 split
 ·rename_i h;exact (zF5 n.toNat (by omega) (by omega)).2.2.1
 ·decide
theorem zKW {n:Int} (n0 : -1000<=n) (n1:n<=1000):(intT n).length<=5:=by
 unfold intT
 split
 ·have:=(zE7 n.natAbs (by omega)).2.2.2.2.2;simp;omega
 ·have:=(zE7 n.toNat (by omega)).2.2.2.2.2;omega
theorem zBP (r c:Int):zAL r c=true ↔ zDH r c:=by unfold zAL zDH;simp
theorem zPK (r c:Int) (rf cf:Bool) (w:World) {w0:World} (IT:zBY w0) (X0:Ext w0 w) :
  Calls Tryz.prog 173 #[refV r c rf cf] w fun e w'=>e=.returned (.string (bs (refT r c rf cf)))/\Ext w w':=by
 have B:=Box4.made w (iQ r) (iQ c) (.bool rf) (.bool cf) 26;have X:=x1 w (.cells #[iQ r,iQ c,.bool rf,.bool cf] 26);have G:=fun w=>zGJ r c rf cf w;by_cases hg:zDH r c
 ·rw [(zBP r c).2 hg] at G;have HR:Hid (refT r c rf cf=fixT cf++zAM c++fixT rf++intT r):=by show _=_;unfold refT;rw [if_pos hg,refL]
  have II:=fun (w:World) (x:Ext w0 w)=>itoI IT r w (by have:=hg.1;omega) (by have:=hg.1;omega) x;obtain ⟨k1,z1⟩:=nm ((bs (fixT cf)).size);obtain ⟨k2,z2⟩:=nm ((bs (zAM c)).size);obtain ⟨k3,z3⟩:=nm ((bs (fixT rf)).size);obtain ⟨k4,z4⟩:=nm ((bs (intT r)).size);have l1:k1<=1:=by rw [<- z1,zBG];exact zFV _
  have l2:k2<=2:=by rw [<- z2,zBG];exact zGN _
  have l3:k3<=1:=by rw [<- z3,zBG];exact zFV _
  have l4:k4<=5:=by rw [<- z4,zBG];exact zKW (by have:=hg.1;omega) (by have:=hg.1;omega)
  have q1:(9223372036854775807<k1+k2)=False:=eq_false (by omega);have q2:(9223372036854775807<k1+k2+k3)=False:=eq_false (by omega);have q3:(9223372036854775807<k1+k2+k3+k4)=False:=eq_false (by omega);clear hg;go_enter Tryz.func173,Tryz.ntmps173;go_wp2_with fail;refine (G _).mono ?_;rintro e w1 ⟨rfl,e1⟩;have B1:=B.l e1;have X1:=xt X e1;clear B X e1 G;have Y:=xr w1;obtain ⟨⟨a0,a1,a2,a3⟩,_⟩:=B1;go_wp2_with fail;go_region_held3 (fun w'=>w'.cell? ⟨w.heap.size,0,none⟩=some (iQ r)/\w'.cell? ⟨w.heap.size,1,none⟩=some (iQ c)/\w'.cell? ⟨w.heap.size,2,none⟩=some (.bool rf)/\w'.cell? ⟨w.heap.size,3,none⟩=some (.bool cf)) (go_keep) (first
   | (go_at_call 188;refine (fixI _ _).mono ?_;rintro e w' ⟨rfl,rfl⟩)
   | (go_at_call 189;refine (colI _ _).mono ?_;rintro e w' ⟨rfl,rfl⟩)
   | (go_at_call 160;refine (II _ (by first | exact xt X0 X1 | exact xt X0 (xd X1))).mono ?_;rintro e w3 ⟨rfl,e3⟩;have Y:Ext w1 w3:=(by first | exact xt Y e3 | exact xt (xd Y) e3);have a0:=cell_later Y a0;have a1:=cell_later Y a1;have a2:=cell_later Y a2;have a3:=cell_later Y a3))
  all_goals go_wp2_with fail
  all_goals go_ret
  all_goals exact ⟨zHL (by rw [HR.out,zHD,zHD,zHD]),xt X1 Y⟩
 ·have hg':zAL r c=false:=by
   rw [<- Bool.not_eq_true,zBP];exact hg
  have HR:Hid (refT r c rf cf=[]):=by show _=_;unfold refT;rw [if_neg hg]
  rw [hg'] at G;clear hg hg';go_enter Tryz.func173,Tryz.ntmps173;go_wp2_with fail;refine (G _).mono ?_;rintro e w1 ⟨rfl,e1⟩;go_wp2_with fail;go_ret;exact ⟨zHL (by rw [HR.out];rfl),xt X e1⟩
theorem zPJ (r c:Int) (rf cf:Bool) (w:World) :
  Calls Tryz.prog 165 #[refV r c rf cf] w fun e w'=>e=.returned (.string (bs (refT r c rf cf)))/\Ext w w':=by
 have B:=Box4.made w (iQ r) (iQ c) (.bool rf) (.bool cf) 26;have X:=x1 w (.cells #[iQ r,iQ c,.bool rf,.bool cf] 26);have G:=fun w=>zCJ r c rf cf w;by_cases hg:zDH r c
 ·rw [(zBP r c).2 hg] at G;have HR:Hid (refT r c rf cf=fixT cf++zAM c++fixT rf++intT r):=by show _=_;unfold refT;rw [if_pos hg,refL]
  have II:=fun (w:World)=>numI r w (by have:=hg.1;omega) (by have:=hg.1;omega);obtain ⟨k1,z1⟩:=nm ((bs (fixT cf)).size);obtain ⟨k2,z2⟩:=nm ((bs (zAM c)).size);obtain ⟨k3,z3⟩:=nm ((bs (fixT rf)).size);obtain ⟨k4,z4⟩:=nm ((bs (intT r)).size);have l1:k1<=1:=by rw [<- z1,zBG];exact zFV _
  have l2:k2<=2:=by rw [<- z2,zBG];exact zGN _
  have l3:k3<=1:=by rw [<- z3,zBG];exact zFV _
  have l4:k4<=5:=by rw [<- z4,zBG];exact zKW (by have:=hg.1;omega) (by have:=hg.1;omega)
  have q1:(9223372036854775807<k1+k2)=False:=eq_false (by omega);have q2:(9223372036854775807<k1+k2+k3)=False:=eq_false (by omega);have q3:(9223372036854775807<k1+k2+k3+k4)=False:=eq_false (by omega);clear hg;go_enter Tryz.func165,Tryz.ntmps165;go_wp2_with fail;refine (G _).mono ?_;rintro e w1 ⟨rfl,e1⟩;have B1:=B.l e1;have X1:=xt X e1;clear B X e1 G;have Y:=xr w1;obtain ⟨⟨a0,a1,a2,a3⟩,_⟩:=B1.l Y;go_wp2_with fail;go_region_held3 (fun w'=>w'.cell? ⟨w.heap.size,0,none⟩=some (iQ r)/\w'.cell? ⟨w.heap.size,1,none⟩=some (iQ c)/\w'.cell? ⟨w.heap.size,2,none⟩=some (.bool rf)/\w'.cell? ⟨w.heap.size,3,none⟩=some (.bool cf)) (go_keep) (first
   | (go_at_call 180;refine (fixS _ _).mono ?_;rintro e w' ⟨rfl,rfl⟩)
   | (go_at_call 179;refine (colS _ _).mono ?_;rintro e w3 ⟨rfl,e3⟩;have Y:Ext w1 w3:=(by first | exact xt Y e3 | exact xt (xd Y) e3);obtain ⟨⟨a0,a1,a2,a3⟩,_⟩:=B1.l Y)
   | (go_at_call 81;refine (II _).mono ?_;rintro e w3 ⟨rfl,e3⟩;have Y:Ext w1 w3:=(by first | exact xt Y e3 | exact xt (xd Y) e3);obtain ⟨⟨a0,a1,a2,a3⟩,_⟩:=B1.l Y))
  all_goals go_wp2_with fail
  all_goals go_ret
  all_goals exact ⟨zHL (by rw [HR.out,zHD,zHD,zHD]),xt X1 Y⟩
 ·have hg':zAL r c=false:=by
   rw [<- Bool.not_eq_true,zBP];exact hg
  have HR:Hid (refT r c rf cf=[]):=by show _=_;unfold refT;rw [if_neg hg]
  rw [hg'] at G;clear hg hg';go_enter Tryz.func165,Tryz.ntmps165;go_wp2_with fail;refine (G _).mono ?_;rintro e w1 ⟨rfl,e1⟩;go_wp2_with fail;go_ret;exact ⟨zHL (by rw [HR.out];rfl),xt X e1⟩
end Go.Proofs.YteliaeejooekbaaGreatDoor
