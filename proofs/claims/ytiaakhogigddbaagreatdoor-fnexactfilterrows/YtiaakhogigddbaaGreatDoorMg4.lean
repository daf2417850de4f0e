/-
  Several texts in one: LibC, FrameL, V6d, V9e, V7e, W9a, W9b, V7f.
-/
import Derived.Test.YtiaakhogigddbaaGreatDoorMg2
import Derived.Test.YtiaakhogigddbaaGreatDoorShelf
import Derived.WalkSmall
import Derived.Lib.LaidTab
import Derived.Test.YtiaakhogigddbaaGreatDoorMg1
import Derived.Stop.LaidErr
import Derived.Deep.DeepCutAuto
import Derived.Deep.AppendLies
import Derived.OwnWalk
import Derived.Laws.OwnMore
import Derived.Deep.RegionHeld3
namespace Go.Proofs.YtiaakhogigddbaaGreatDoor
open Go.RowKit
theorem shelfExtra:Builder.Extra Tryz.prog layRepeat_ren:={
 sizeBuilder:=by kernel_rfl
 liesBuilder:=by kernel_rfl
 t5:=layRepeat.t5
 a5:=layRepeat.a5
 z5:=layRepeat.z5
 v5:=layRepeat.v5
 infoByte:=by kernel_rfl
 cellsByte:=by kernel_rfl
 sizeByte:=by kernel_rfl
 neB5:=by decide }
theorem fRepeat:layRepeat_ren.f 105=202:=by kernel_rfl
theorem fItoa:layItoa_ren.f 171=173:=by kernel_rfl
theorem repC:RepC:=by
 intro c w h0 h1;obtain ⟨n,rfl⟩:∃ n:Nat,c=(n:Int):=⟨c.toNat,by omega⟩;have h:=Any.strings_Repeat layRepeat shelfExtra ⟨#[48]⟩ n w (by omega) (by show 1 * n≤_;omega);rw [fRepeat] at h;refine h.mono fun e w' ⟨he,hw⟩=>⟨_,he,?_,hw⟩;have e:=Lib.repeatL_replicate 48 1 n;simp only [Nat.mul_one] at e;show Lib.repeatL [48] n=List.replicate ((n:Int)).toNat 48;rw [Int.toNat_natCast,← e];rfl
theorem gPow10:Tryz.prog.globalNamed "internal/strconv.uint64pow10" = some 7:=by kernel_rfl
theorem grow_ext (w:World) (k:Nat) (os:Array Obj):Ext w (Sort.grow (w.drewN k) os):=
 ⟨rfl,rfl,rfl,by simp [Sort.grow,World.drewN],fun i hi=>by simp [Sort.grow,World.drewN,Array.getElem?_append_left hi]⟩
theorem itoaC {w0:World} (h0:Lib.TabIs Tryz.prog w0 "internal/strconv.uint64pow10" .u64 Lib.pow10Tab):ItoaC w0:=by
 intro n w b0 b1 X;have hlt:7<w0.heap.size:=by
  have h:=h0;unfold Lib.TabIs World.var? at h;simp only [gPow10,Option.bind_some] at h;by_cases hk:7<w0.heap.size
  ·exact hk
  ·rw [Array.getElem?_eq_none (by omega)] at h;cases h
 have h:=Any.strconv_Itoa layItoa n (by omega) (by omega) w (var?_below X gPow10 hlt h0);rw [fItoa] at h;refine h.mono fun e w' ⟨he,k,os,hw⟩=>⟨_,he,rfl,?_⟩;subst hw;exact grow_ext w k os
end Go.Proofs.YtiaakhogigddbaaGreatDoor

namespace Go.Proofs.YtiaakhogigddbaaGreatDoor
open Go.ChangeShapes Go.WideShapes Go.ChangeAt Go.RowKit
theorem gPow10Type:(Tryz.prog.globals[7]?).map (·.type)=some 94:=by kernel_rfl
theorem pow10_of {rest:List (String × DataW Unit)} {W:World} (h:laidMet Tryz.prog (("internal/strconv.uint64pow10", Rows.laid_internal_strconv_uint64pow10) :: rest) W):Lib.TabIs Tryz.prog W "internal/strconv.uint64pow10" .u64 Lib.pow10Tab:=
 Lib.tabIs_of_head (rest:=rest) gPow10 gPow10Type Tryz.underlying94 Tryz.underlying93 (by kernel_rfl) (by kernel_rfl) h
end Go.Proofs.YtiaakhogigddbaaGreatDoor

namespace Go.Proofs.YtiaakhogigddbaaGreatDoor
open Go.RowKit
abbrev errT:List UInt8:=[35,86,65,76,85,69,33]
abbrev trueT:List UInt8:=[84,82,85,69]
abbrev falseT:List UInt8:=[70,65,76,83,69]
abbrev boolW (b:Bool):Value:=valV 3 false 0 0 (if b then trueT else falseT)
abbrev errW:Value:=valV 4 false 0 0 errT
set_option maxHeartbeats 1000000 in
theorem textVI (l:List UInt8) (w:World):Calls Tryz.prog 69 #[sV l] w fun e w'=>e=.returned (valV 2 false 0 0 l)∧Ext w w':=by
 go_enter Tryz.func69,Tryz.ntmps69
 go_wp2
 exact bodyPost_ret (v:=valV 2 false 0 0 l) (by simp [results,Tryz.results69,go_sem]) rfl ⟨rfl,by first | exact x1 _ _ | exact xa (x1 _ _) _⟩
set_option maxHeartbeats 1000000 in
theorem textVS (l:List UInt8) (w:World):Calls Tryz.prog 37 #[sV l] w fun e w'=>e=.returned (valV 2 false 0 0 l)∧Ext w w':=by
 go_enter Tryz.func37,Tryz.ntmps37
 go_wp2
 exact bodyPost_ret (v:=valV 2 false 0 0 l) (by simp [results,Tryz.results37,go_sem]) rfl ⟨rfl,by first | exact x1 _ _ | exact xa (x1 _ _) _⟩
set_option maxHeartbeats 1000000 in
theorem errVI (l:List UInt8) (w:World):Calls Tryz.prog 71 #[sV l] w fun e w'=>e=.returned (valV 4 false 0 0 l)∧Ext w w':=by
 go_enter Tryz.func71,Tryz.ntmps71
 go_wp2
 exact bodyPost_ret (v:=valV 4 false 0 0 l) (by simp [results,Tryz.results71,go_sem]) rfl ⟨rfl,by first | exact x1 _ _ | exact xa (x1 _ _) _⟩
set_option maxHeartbeats 1000000 in
theorem errVS (l:List UInt8) (w:World):Calls Tryz.prog 62 #[sV l] w fun e w'=>e=.returned (valV 4 false 0 0 l)∧Ext w w':=by
 go_enter Tryz.func62,Tryz.ntmps62
 go_wp2
 exact bodyPost_ret (v:=valV 4 false 0 0 l) (by simp [results,Tryz.results62,go_sem]) rfl ⟨rfl,by first | exact x1 _ _ | exact xa (x1 _ _) _⟩
set_option maxHeartbeats 1000000 in
theorem numVI (n:Bool) (d x:Int) (w:World):Calls Tryz.prog 148 #[decV n d x] w fun e w'=>e=.returned (valV 1 n d x [])∧Ext w w':=by
 go_enter Tryz.func148,Tryz.ntmps148
 go_wp2
 exact bodyPost_ret (v:=valV 1 n d x []) (by simp [results,Tryz.results148,go_sem]) rfl ⟨rfl,by first | exact x1 _ _ | exact xa (x1 _ _) _⟩
set_option maxHeartbeats 1000000 in
theorem numVS (n:Bool) (d x:Int) (w:World):Calls Tryz.prog 85 #[decV n d x] w fun e w'=>e=.returned (valV 1 n d x [])∧Ext w w':=by
 go_enter Tryz.func85,Tryz.ntmps85
 go_wp2
 exact bodyPost_ret (v:=valV 1 n d x []) (by simp [results,Tryz.results85,go_sem]) rfl ⟨rfl,by first | exact x1 _ _ | exact xa (x1 _ _) _⟩
set_option maxHeartbeats 1000000 in
theorem boolVI (b:Bool) (w:World):Calls Tryz.prog 48 #[.bool b] w fun e w'=>e=.returned (boolW b)∧Ext w w':=by
 cases b
 ·go_enter Tryz.func48,Tryz.ntmps48
  go_wp2
  exact bodyPost_ret (v:=valV 3 false 0 0 falseT) (by simp [results,Tryz.results48,go_sem,falseT]) rfl ⟨rfl,x1 _ _⟩
 ·go_enter Tryz.func48,Tryz.ntmps48
  go_wp2
  exact bodyPost_ret (v:=valV 3 false 0 0 trueT) (by simp [results,Tryz.results48,go_sem,trueT]) rfl ⟨rfl,x1 _ _⟩
set_option maxHeartbeats 1000000 in
theorem boolVS (b:Bool) (w:World):Calls Tryz.prog 64 #[.bool b] w fun e w'=>e=.returned (boolW b)∧Ext w w':=by
 cases b
 ·go_enter Tryz.func64,Tryz.ntmps64
  go_wp2
  exact bodyPost_ret (v:=valV 3 false 0 0 falseT) (by simp [results,Tryz.results64,go_sem,falseT]) rfl ⟨rfl,x1 _ _⟩
 ·go_enter Tryz.func64,Tryz.ntmps64
  go_wp2
  exact bodyPost_ret (v:=valV 3 false 0 0 trueT) (by simp [results,Tryz.results64,go_sem,trueT]) rfl ⟨rfl,x1 _ _⟩
theorem goodV_num {n:Bool} {d x:Int} {t:List UInt8} (h:goodV 1 n d x t=true):goodB n d x=true∧t=[]:=by simpa [goodV] using h
theorem goodV_zero {k:Int} {n:Bool} {d x:Int} {t:List UInt8} (h:goodV k n d x t=true) (h1:k ≠ 1):n=false∧d=0∧x=0:=by
 simp only [goodV,h1,if_false,Bool.and_eq_true] at h;have:=h.1;simpa [zeroD,and_assoc] using this
theorem goodV_empty {n:Bool} {d x:Int} {t:List UInt8} (h:goodV 0 n d x t=true):t=[]:=by simpa [goodV] using (show _∧_ by simpa [goodV] using h).2
theorem Vec.three {w:World} {b:Nat} {v0 v1 v2:Value} (h:Vec w b [v0,v1,v2]):w.cell? ⟨b,0,none⟩=some v0∧w.cell? ⟨b,1,none⟩=some v1∧w.cell? ⟨b,2,none⟩=some v2:=
 ⟨(h 0 _ rfl).1,(h 1 _ rfl).1,(h 2 _ rfl).1⟩
theorem Vec.threeF {w:World} {b:Nat} {v0 v1 v2:Value} (h:Vec w b [v0,v1,v2]):w.frozen? ⟨b,0,none⟩=false∧w.frozen? ⟨b,1,none⟩=false∧w.frozen? ⟨b,2,none⟩=false:=
 ⟨(h 0 _ rfl).2,(h 1 _ rfl).2,(h 2 _ rfl).2⟩
theorem Vec.four {w:World} {b:Nat} {v0 v1 v2 v3:Value} (h:Vec w b [v0,v1,v2,v3]):w.cell? ⟨b,0,none⟩=some v0∧w.cell? ⟨b,1,none⟩=some v1∧w.cell? ⟨b,2,none⟩=some v2∧w.cell? ⟨b,3,none⟩=some v3:=
 ⟨(h 0 _ rfl).1,(h 1 _ rfl).1,(h 2 _ rfl).1,(h 3 _ rfl).1⟩
theorem Vec.fourF {w:World} {b:Nat} {v0 v1 v2 v3:Value} (h:Vec w b [v0,v1,v2,v3]):w.frozen? ⟨b,0,none⟩=false∧w.frozen? ⟨b,1,none⟩=false∧w.frozen? ⟨b,2,none⟩=false∧w.frozen? ⟨b,3,none⟩=false:=
 ⟨(h 0 _ rfl).2,(h 1 _ rfl).2,(h 2 _ rfl).2,(h 3 _ rfl).2⟩
theorem Vec.five {w:World} {b:Nat} {v0 v1 v2 v3 v4:Value} (h:Vec w b [v0,v1,v2,v3,v4]):w.cell? ⟨b,0,none⟩=some v0∧w.cell? ⟨b,1,none⟩=some v1∧w.cell? ⟨b,2,none⟩=some v2∧w.cell? ⟨b,3,none⟩=some v3∧w.cell? ⟨b,4,none⟩=some v4:=
 ⟨(h 0 _ rfl).1,(h 1 _ rfl).1,(h 2 _ rfl).1,(h 3 _ rfl).1,(h 4 _ rfl).1⟩
theorem Vec.fiveF {w:World} {b:Nat} {v0 v1 v2 v3 v4:Value} (h:Vec w b [v0,v1,v2,v3,v4]):w.frozen? ⟨b,0,none⟩=false∧w.frozen? ⟨b,1,none⟩=false∧w.frozen? ⟨b,2,none⟩=false∧w.frozen? ⟨b,3,none⟩=false∧w.frozen? ⟨b,4,none⟩=false:=
 ⟨(h 0 _ rfl).2,(h 1 _ rfl).2,(h 2 _ rfl).2,(h 3 _ rfl).2,(h 4 _ rfl).2⟩
theorem fin5 {a w:World} {b:Nat} (V:Vec w b (valL 0 false 0 0 [])) (X:Ext a w) (hb:a.heap.size≤b) (k:Int) (n:Bool) (d x:Int) (t:List UInt8) :
  ∃ wy,(((((w.setCell ⟨b,0,none⟩ (.int .i64 k)).setCell ⟨b,1,none⟩ (.bool n)).setCell ⟨b,2,none⟩ (.int .i64 d)).setCell ⟨b,3,none⟩ (.int .i64 x)).setCell ⟨b,4,none⟩ (sV t))=wy∧Ext a wy∧(w.cell? ⟨b,0,none⟩=some (.int .i64 0)∧w.cell? ⟨b,1,none⟩=some (.bool false)∧w.cell? ⟨b,2,none⟩=some (.int .i64 0)∧w.cell? ⟨b,3,none⟩=some (.int .i64 0)∧w.cell? ⟨b,4,none⟩=some (sV []))∧(w.frozen? ⟨b,0,none⟩=false∧w.frozen? ⟨b,1,none⟩=false∧w.frozen? ⟨b,2,none⟩=false∧w.frozen? ⟨b,3,none⟩=false∧w.frozen? ⟨b,4,none⟩=false)∧wy.cell? ⟨b,0,none⟩=some (.int .i64 k)∧wy.cell? ⟨b,1,none⟩=some (.bool n)∧wy.cell? ⟨b,2,none⟩=some (.int .i64 d)∧wy.cell? ⟨b,3,none⟩=some (.int .i64 x)∧wy.cell? ⟨b,4,none⟩=some (sV t):=by
 have FG:=V.put5 (.int .i64 k) (.bool n) (.int .i64 d) (.int .i64 x) (sV t);have FX:=Ext.setL (b:=b) hb [.int .i64 k,.bool n,.int .i64 d,.int .i64 x,sV t] 0 X;exact ⟨_,rfl,FX,V.five,V.fiveF,FG.five⟩
theorem newB (w:World) (k:Int) (n:Bool) (d x:Int) (t:List UInt8) :
  ∃ wz wy,w.alloc (.cells #[.int .i64 0,.bool false,.int .i64 0,.int .i64 0,sV []] 39)=wz∧(((((wz.setCell ⟨w.heap.size,0,none⟩ (.int .i64 k)).setCell ⟨w.heap.size,1,none⟩ (.bool n)).setCell ⟨w.heap.size,2,none⟩ (.int .i64 d)).setCell ⟨w.heap.size,3,none⟩ (.int .i64 x)).setCell ⟨w.heap.size,4,none⟩ (sV t))=wy∧Vec wy w.heap.size (valL k n d x t)∧Ext w wy∧(wz.cell? ⟨w.heap.size,0,none⟩=some (.int .i64 0)∧wz.cell? ⟨w.heap.size,1,none⟩=some (.bool false)∧wz.cell? ⟨w.heap.size,2,none⟩=some (.int .i64 0)∧wz.cell? ⟨w.heap.size,3,none⟩=some (.int .i64 0)∧wz.cell? ⟨w.heap.size,4,none⟩=some (sV []))∧wz.frozen? ⟨w.heap.size,0,none⟩=false∧wz.frozen? ⟨w.heap.size,1,none⟩=false∧wz.frozen? ⟨w.heap.size,2,none⟩=false∧wz.frozen? ⟨w.heap.size,3,none⟩=false∧wz.frozen? ⟨w.heap.size,4,none⟩=false:=by
 have Z:=vec_made w (valL 0 false 0 0 []) 39;exact ⟨_,_,rfl,rfl,Z.put5 (.int .i64 k) (.bool n) (.int .i64 d) (.int .i64 x) (sV t),Ext.setL (b:=w.heap.size) (Nat.le_refl _) [.int .i64 k,.bool n,.int .i64 d,.int .i64 x,sV t] 0 (x1 w _),Z.five,Z.fiveF⟩
theorem mkB2 (w:World) (l0 l1:List Value) (T0 T1:TypeId):∃ u0 u1,w.alloc (.cells l0.toArray T0)=u0∧u0.alloc (.cells l1.toArray T1)=u1∧u0.heap.size=w.heap.size+1∧u1.heap.size=w.heap.size+1+1∧Vec u1 (w.heap.size) l0∧Vec u1 (w.heap.size+1) l1∧Ext w u1:=by
 have X0:=x1 w (.cells l0.toArray T0);have B0:=vec_made w l0 T0;obtain ⟨u0,h0⟩:∃ u,w.alloc (.cells l0.toArray T0)=u:=⟨_,rfl⟩;rw [h0] at X0 B0;have s0:u0.heap.size=w.heap.size+1:=by rw [← h0,World.size_alloc]
 have X:=X0;have X1:=x1 u0 (.cells l1.toArray T1);have B1:=vec_made u0 l1 T1;obtain ⟨u1,h1⟩:∃ u,u0.alloc (.cells l1.toArray T1)=u:=⟨_,rfl⟩;rw [h1] at X1 B1;rw [s0] at B1;have s1:u1.heap.size=w.heap.size+1+1:=by rw [← h1,World.size_alloc,s0]
 have B0:=B0.later X1;have X:=xt X X1;exact ⟨u0,u1,h0,h1,s0,s1,B0,B1,X⟩
theorem mkB3 (w:World) (l0 l1 l2:List Value) (T0 T1 T2:TypeId):∃ u0 u1 u2,w.alloc (.cells l0.toArray T0)=u0∧u0.alloc (.cells l1.toArray T1)=u1∧u1.alloc (.cells l2.toArray T2)=u2∧u0.heap.size=w.heap.size+1∧u1.heap.size=w.heap.size+1+1∧u2.heap.size=w.heap.size+1+1+1∧Vec u2 (w.heap.size) l0∧Vec u2 (w.heap.size+1) l1∧Vec u2 (w.heap.size+1+1) l2∧Ext w u2:=by
 have X0:=x1 w (.cells l0.toArray T0);have B0:=vec_made w l0 T0;obtain ⟨u0,h0⟩:∃ u,w.alloc (.cells l0.toArray T0)=u:=⟨_,rfl⟩;rw [h0] at X0 B0;have s0:u0.heap.size=w.heap.size+1:=by rw [← h0,World.size_alloc]
 have X:=X0;have X1:=x1 u0 (.cells l1.toArray T1);have B1:=vec_made u0 l1 T1;obtain ⟨u1,h1⟩:∃ u,u0.alloc (.cells l1.toArray T1)=u:=⟨_,rfl⟩;rw [h1] at X1 B1;rw [s0] at B1;have s1:u1.heap.size=w.heap.size+1+1:=by rw [← h1,World.size_alloc,s0]
 have B0:=B0.later X1;have X:=xt X X1;have X2:=x1 u1 (.cells l2.toArray T2);have B2:=vec_made u1 l2 T2;obtain ⟨u2,h2⟩:∃ u,u1.alloc (.cells l2.toArray T2)=u:=⟨_,rfl⟩;rw [h2] at X2 B2;rw [s1] at B2;have s2:u2.heap.size=w.heap.size+1+1+1:=by rw [← h2,World.size_alloc,s1]
 have B0:=B0.later X2;have B1:=B1.later X2;have X:=xt X X2;exact ⟨u0,u1,u2,h0,h1,h2,s0,s1,s2,B0,B1,B2,X⟩
theorem mkB4 (w:World) (l0 l1 l2 l3:List Value) (T0 T1 T2 T3:TypeId):∃ u0 u1 u2 u3,w.alloc (.cells l0.toArray T0)=u0∧u0.alloc (.cells l1.toArray T1)=u1∧u1.alloc (.cells l2.toArray T2)=u2∧u2.alloc (.cells l3.toArray T3)=u3∧u0.heap.size=w.heap.size+1∧u1.heap.size=w.heap.size+1+1∧u2.heap.size=w.heap.size+1+1+1∧u3.heap.size=w.heap.size+1+1+1+1∧Vec u3 (w.heap.size) l0∧Vec u3 (w.heap.size+1) l1∧Vec u3 (w.heap.size+1+1) l2∧Vec u3 (w.heap.size+1+1+1) l3∧Ext w u3:=by
 have X0:=x1 w (.cells l0.toArray T0);have B0:=vec_made w l0 T0;obtain ⟨u0,h0⟩:∃ u,w.alloc (.cells l0.toArray T0)=u:=⟨_,rfl⟩;rw [h0] at X0 B0;have s0:u0.heap.size=w.heap.size+1:=by rw [← h0,World.size_alloc]
 have X:=X0;have X1:=x1 u0 (.cells l1.toArray T1);have B1:=vec_made u0 l1 T1;obtain ⟨u1,h1⟩:∃ u,u0.alloc (.cells l1.toArray T1)=u:=⟨_,rfl⟩;rw [h1] at X1 B1;rw [s0] at B1;have s1:u1.heap.size=w.heap.size+1+1:=by rw [← h1,World.size_alloc,s0]
 have B0:=B0.later X1;have X:=xt X X1;have X2:=x1 u1 (.cells l2.toArray T2);have B2:=vec_made u1 l2 T2;obtain ⟨u2,h2⟩:∃ u,u1.alloc (.cells l2.toArray T2)=u:=⟨_,rfl⟩;rw [h2] at X2 B2;rw [s1] at B2;have s2:u2.heap.size=w.heap.size+1+1+1:=by rw [← h2,World.size_alloc,s1]
 have B0:=B0.later X2;have B1:=B1.later X2;have X:=xt X X2;have X3:=x1 u2 (.cells l3.toArray T3);have B3:=vec_made u2 l3 T3;obtain ⟨u3,h3⟩:∃ u,u2.alloc (.cells l3.toArray T3)=u:=⟨_,rfl⟩;rw [h3] at X3 B3;rw [s2] at B3;have s3:u3.heap.size=w.heap.size+1+1+1+1:=by rw [← h3,World.size_alloc,s2]
 have B0:=B0.later X3;have B1:=B1.later X3;have B2:=B2.later X3;have X:=xt X X3;exact ⟨u0,u1,u2,u3,h0,h1,h2,h3,s0,s1,s2,s3,B0,B1,B2,B3,X⟩
theorem xdNv {a b:World} (h:Ext a b) (n:Nat):Ext a (b.drewN n):=⟨h.os,h.tape,h.output,h.size,h.block⟩
set_option maxRecDepth 8000 in
set_option maxHeartbeats 2000000 in
theorem goodGI (r c:Int) (v:Value) (l:List VT) (w:World) (h:ValsIn w v l) (hl:l.length≤2000000) (ht:∀ e ∈ l,e.t.length≤2000000) (hd:∀ e ∈ l,-9223372036854775808≤e.d∧e.d≤9223372036854775807) (hT:Tens w) (hE:ErrTab w) :
  Calls Tryz.prog 39 #[grV r c v] w fun e w'=>e=.returned (.bool (goodG r c l))∧Ext w w':=by
 obtain ⟨p,cap,rfl,hcap,hrow⟩:=h;obtain ⟨n,hn⟩:∃ n,l.length=n:=⟨_,rfl⟩;have HN:Hid (l.length=n):=hn;have HG:Hid (goodG r c l=(gsidesB r c n && l.all VT.good)):=by show _=_;unfold goodG;rw [hn]
 obtain ⟨R,hR⟩:∃ R,goodG r c l=R:=⟨_,rfl⟩;rw [hR] at HG ⊢;rw [hn] at hcap hl hrow ⊢;have HRow:Hid (0<n→∃ b o,p=some ⟨b,o,none⟩∧RowV w b o l):=hrow;have HT:Hid (∀ e ∈ l,e.t.length≤2000000):=ht;have X0:=x1 w (.cells #[.int .i64 r,.int .i64 c,.slice p n cap] 35);have HD:Hid (∀ e ∈ l,-9223372036854775808≤e.d∧e.d≤9223372036854775807):=hd;have HTT:Hid (Tens w):=hT;have HEE:Hid (ErrTab w):=hE;clear hn hrow hR ht hd hT hE;by_cases h1:r<1
 ·have HF:Hid (false=R):=by show _=_;rw [HG.out,show gsidesB r c n=false by simp [gsidesB];omega];rfl
  have g1:decide (r<1)=true:=by simpa using h1
  go_enter Tryz.func39,Tryz.ntmps39;go_wp2_with fail;go_quiet (fail);go_wp2_with fail;go_ret;exact ⟨ret_bool HF.out,xdNv X0 _⟩
 have g1:decide (r<1)=false:=by simpa using h1
 by_cases h2:c<1
 ·have HF:Hid (false=R):=by show _=_;rw [HG.out,show gsidesB r c n=false by simp [gsidesB];omega];rfl
  have g2:decide (c<1)=true:=by simpa using h2
  go_enter Tryz.func39,Tryz.ntmps39;go_wp2_with fail;go_quiet (fail);go_wp2_with fail;go_ret;exact ⟨ret_bool HF.out,xdNv X0 _⟩
 have g2:decide (c<1)=false:=by simpa using h2
 have hdiv:r≤2000 / c ↔ r * c≤2000:=Int.le_ediv_iff_mul_le (by omega);have htd:Int.tdiv 2000 c=2000 / c:=Int.tdiv_eq_ediv_of_nonneg (by omega);obtain ⟨dv,hdv⟩:∃ dv,2000 / c=dv:=⟨_,rfl⟩;have dv0:0≤dv:=by rw [← hdv];exact Int.ediv_nonneg (by omega) (by omega)
 have dv1:dv≤2000:=by rw [← hdv];exact Int.ediv_le_self c (by omega)
 rw [hdv] at hdiv htd;clear hdv;by_cases h5:dv<r
 ·have HF:Hid (false=R):=by
   show _=_;rw [HG.out,show gsidesB r c n=false by simp only [gsidesB,decide_eq_false_iff_not];omega];rfl
  have g5:decide (dv<r)=true:=by simpa using h5
  clear hdiv;go_enter Tryz.func39,Tryz.ntmps39;go_wp2_with fail;go_quiet (fail);go_wp2_with fail;go_ret;exact ⟨ret_bool HF.out,xdNv X0 _⟩
 have g5:decide (dv<r)=false:=by simpa using h5
 obtain ⟨m,hm⟩:∃ m,r * c=m:=⟨_,rfl⟩;rw [hm] at hdiv;have m2:m≤2000:=by omega
 have m1:1≤m:=by rw [← hm];have:=Int.mul_le_mul_of_nonneg_left (show (1:Int)≤c by omega) (show 0≤r by omega);omega
 have hwr:IntKind.i64.wrap (r * c)=m:=by rw [hm,IntKind.wrap_i64];omega
 have HS:Hid (gsidesB r c n=decide (m≤2000∧(n:Int)=m)):=by
  show _=_;unfold gsidesB;rw [hm];exact decide_eq_decide.2 (by omega)
 clear hdiv;by_cases h6:(n:Int) ≠ m
 ·have HF:Hid (false=R):=by show _=_;rw [HG.out,HS.out,decide_eq_false (by omega)];rfl
  clear hm;have g6:((n:Int) != m)=true:=by simpa using h6
  go_enter Tryz.func39,Tryz.ntmps39;go_wp2_with fail;go_quiet (fail);go_wp2_with fail;go_ret;exact ⟨ret_bool HF.out,xdNv X0 _⟩
 have h6':(n:Int)=m:=by omega
 have HF:Hid (l.all VT.good=R):=by show _=_;rw [HG.out,HS.out,decide_eq_true (by omega)];rfl
 clear hm h6 HS HG;subst h6';go_enter Tryz.func39,Tryz.ntmps39;go_wp2_with fail;go_quiet (fail);go_wp2_with fail;clear hwr htd;go_loopw [35] (fun i wr=>∃ k:Nat,k≤n∧i=.int .i64 k∧Hid ((l.take k).all VT.good=true)∧Ext w wr) (fun i _=>n - (intOf i).toNat)
 case atStart=>exact ⟨0,by omega,rfl,by show _=_;simp,xdNv X0 _⟩
 case round =>
  obtain ⟨k,hk,rfl,HA,X⟩:=hrel;by_cases hlt:k<n
  ·obtain ⟨e,he⟩:∃ e,l[k]?=some e:=⟨_,List.getElem?_eq_getElem (by rw [HN.out];exact hlt)⟩;obtain ⟨b,o,rfl,hR⟩:=HRow.out (by omega);obtain ⟨a0,a1,a2,a3,a4⟩:=(hR.later X).five he;have het:=HT.out e (List.mem_of_getElem? he);have HY:Hid ((l.take (k+1)).all VT.good=e.good):=by show _=_;rw [all_step he,HA.out];rfl
   have HZ:Hid (e.good=false→l.all VT.good=false):=fun hb=>all_bad he hb;have Y:=x1 wr (.cells #[.int .i64 e.k,.bool e.n,.int .i64 e.d,.int .i64 e.x,sV e.t] 39);have hed:=HD.out e (List.mem_of_getElem? he);have C:=goodVI e.k e.n e.d e.x e.t _ het hed.1 hed.2 (HTT.out.later (xt X Y)) (HEE.out.later (xt X Y));change Calls _ _ _ _ fun r w'=>r=.returned (.bool e.good)∧_ at C;clear hed;obtain ⟨q,hq⟩:∃ q,e.good=q:=⟨_,rfl⟩;rw [hq] at C HY HZ;clear hq;obtain ⟨ek,en,ed,ex,et⟩:=e;have i2:(k:Int)<(n:Int):=by omega
   clear hR he HA;dsimp only at a0 a1 a2 a3 a4 C Y;go_wp2_with fail;clear a0 a1 a2 a3 a4;refine C.mono ?_;rintro rr w' ⟨rfl,E⟩;cases q
   ·have HB:Hid (false=R):=(by show _=_;rw [← HF.out];exact (HZ.out rfl).symm);go_wp2_with fail;go_ret;exact ⟨ret_bool HB.out,xt (xt X Y) E⟩
   ·go_wp2_with fail;go_roundw
    case rel=>exact ⟨k+1,by omega,by go_num,HY,xt (xt X Y) E⟩
    case measure=>simp [intOf];omega
  ·obtain rfl:k=n:=by omega
   have HB:Hid (true=R):=by
    show _=_;rw [← HF.out];have:=HA.out;rw [List.take_of_length_le (by rw [HN.out];exact Nat.le_refl _)] at this;exact this.symm
   clear HA;go_wp2_with fail;go_ret;exact ⟨ret_bool HB.out,X⟩
def flatV:List VT→List Value
 | []=>[]
 | x :: l=>x.cells++flatV l
theorem flatV_append (l m:List VT):flatV (l++m)=flatV l++flatV m:=by
 induction l with
 | nil=>rfl
 | cons x l ih=>simp [flatV,ih]
theorem flatV_length (l:List VT):(flatV l).length=l.length * 5:=by
 induction l with
 | nil=>rfl
 | cons x l ih=>simp [flatV,VT.cells,valL,ih];omega
theorem flatV_at {l:List VT} {i:Nat} {x:VT} (h:l[i]?=some x) (j:Nat) (hj:j<5):(flatV l)[i * 5+j]?=x.cells[j]?:=by
 induction l generalizing i with
 | nil=>cases h
 | cons y l ih =>
  have h5:y.cells.length=5:=rfl;cases i with
  | zero =>
   have:y=x:=by simpa using h
   subst this;show (y.cells++flatV l)[0 * 5+j]?=_;rw [Nat.zero_mul,Nat.zero_add,List.getElem?_append_left (by omega)]
  | succ i =>
   show (y.cells++flatV l)[(i+1) * 5+j]?=_;rw [List.getElem?_append_right (by omega),show (i+1) * 5+j - y.cells.length=i * 5+j by omega];exact ih (by simpa using h)
abbrev OwnW (w:World) (base:Nat) (v:Value) (l:List VT):Prop:=w.ownsRow base 39 5 v l.length (flatV l)
theorem ownW_later {w w':World} {base:Nat} {v:Value} {l:List VT} (h:OwnW w base v l) (hx:Ext w w'):OwnW w' base v l:=by
 refine ⟨h.1,h.2.imp id ?_⟩;rintro ⟨g,cap,cur,h1,h2,h3,h4⟩;have hlt:g<w.heap.size:=by
  rcases Nat.lt_or_ge g w.heap.size with h' | h'
  ·exact h'
  ·rw [Array.getElem?_eq_none h'] at h3;cases h3
 exact ⟨g,cap,cur,h1,h2,by rw [hx.block g hlt];exact h3,h4⟩
theorem ownW_block {w:World} {base:Nat} {v:Value} {l:List VT} (h:OwnW w base v l):∀ r,v.ownBlock=some r→base≤r:=by
 intro r hr
 rcases h.2 with ⟨rfl,_⟩ | ⟨g,cap,cur,rfl,h2,_⟩
 ·cases hr
 ·have:g=r:=by simpa [Value.ownBlock] using hr
  omega
theorem ownW_base {w:World} {base base':Nat} {v:Value} {l:List VT} (h:OwnW w base v l) (hb:base'≤base):OwnW w base' v l:=by
 refine ⟨h.1,h.2.imp id ?_⟩;rintro ⟨g,cap,cur,h1,h2,h3⟩;exact ⟨g,cap,cur,h1,Nat.le_trans hb h2,h3⟩
theorem ownW_lt {w:World} {base:Nat} {v:Value} {l:List VT} (h:OwnW w base v l):∀ g,v.ownBlock=some g→g<w.heap.size:=by
 intro r hr
 rcases h.2 with ⟨rfl,_⟩ | ⟨g,cap,cur,rfl,_,h3,_⟩
 ·cases hr
 ·have:g=r:=by simpa [Value.ownBlock] using hr
  subst this
  rcases Nat.lt_or_ge g w.heap.size with h' | h'
  ·exact h'
  ·rw [Array.getElem?_eq_none h'] at h3;cases h3
theorem ownW_slice {w:World} {base:Nat} {v:Value} {l:List VT} (h:OwnW w base v l):∃ p n c,v=.slice p n c:=by
 rcases h.2 with ⟨rfl,_⟩ | ⟨g,cap,cur,rfl,_⟩
 ·exact ⟨_,_,_,rfl⟩
 ·exact ⟨_,_,_,rfl⟩
theorem vec_same {w w':World} {b:Nat} {l:List Value} (h:Vec w b l) (e:w'.heap[b]?=w.heap[b]?):Vec w' b l:=fun i u hi=>by
 have:=h i u hi;unfold World.cell? World.frozen? at this ⊢;simp only [e];exact this
theorem goodG_all {r c:Int} {l:List VT} (h:goodG r c l=true):gsidesB r c l.length=true∧(∀ e ∈ l,e.good=true)∧(1≤r∧r≤2000)∧1≤c∧c≤2000:=by
 unfold goodG at h;rw [Bool.and_eq_true] at h;have hs:1≤r∧1≤c∧r * c≤2000∧(l.length:Int)=r * c:=of_decide_eq_true h.1;have g1:r≤r * c:=by have:=Int.mul_le_mul_of_nonneg_left (show (1:Int)≤c by omega) (show 0≤r by omega);omega
 have g2:c≤r * c:=by have:=Int.mul_le_mul_of_nonneg_right (show (1:Int)≤r by omega) (show 0≤c by omega);omega
 exact ⟨h.1,List.all_eq_true.1 h.2,by omega⟩
theorem infoW:∃ inf,Tryz.prog.info? 39=some inf∧inf.zero=some (valV 0 false 0 0 [])∧inf.size=5∧inf.bytes=48:=by
 obtain ⟨inf,e1,e2⟩:=Option.map_eq_some_iff.1 infoV;simp only [Prod.mk.injEq] at e2;exact ⟨inf,e1,e2.1,e2.2.1,e2.2.2⟩
theorem OwnV.far {w:World} {g:Nat} {l:List VT} (h:OwnV w g l) {p:Addr} (hp:p.block ≠ g) (u:Value):OwnV (w.setCell p u) g l:=fun i e hi c v hc=>by
 refine ⟨?_,by rw [World.frozen?_setCell];exact (h i e hi c v hc).2⟩;rw [World.cell?_setCell_other _ _ _ _ (fun e=>hp (congrArg Addr.block e))];exact (h i e hi c v hc).1
theorem Vec.put3 {w:World} {b:Nat} {v0 v1 v2:Value} (h:Vec w b [v0,v1,v2]) (u0 u1 u2:Value):Vec (((w.setCell ⟨b,0,none⟩ u0).setCell ⟨b,1,none⟩ u1).setCell ⟨b,2,none⟩ u2) b [u0,u1,u2]:=
 ((h.put 0 (by simp) u0).put 1 (by simp) u1).put 2 (by simp) u2
theorem OwnV.vals {w:World} {g:Nat} {l:List VT} (h:OwnV w g l):ValsIn w (.slice (some ⟨g,0,none⟩) l.length l.length) l:=
 ⟨_,_,rfl,Nat.le_refl _,fun _=>⟨g,0,rfl,h.row⟩⟩
set_option maxRecDepth 8000 in
set_option maxHeartbeats 2000000 in
theorem toGridL (r c:Int) (v:Value) (l:List VT) (w:World) (h:ValsIn w v l) (hl:l.length≤2000000) :
  Calls Tryz.prog 8 #[grV r c v] w fun e w'=>(∃ g,e=.returned (grV r c (.slice (some ⟨g,0,none⟩) l.length l.length))∧w.heap.size≤g∧OwnV w' g l)∧Ext w w':=by
 have X1:=x1 w (.cells #[.int .i64 r,.int .i64 c,v] 24);have B1:=vec_made w [.int .i64 r,.int .i64 c,v] 24;obtain ⟨wa,ha⟩:∃ wa,w.alloc (.cells #[.int .i64 r,.int .i64 c,v] 24)=wa:=⟨_,rfl⟩;have B2:=vec_made wa [.int .i64 0,.int .i64 0,.slice none 0 0] 35;have X2:=x1 wa (.cells #[.int .i64 0,.int .i64 0,.slice none 0 0] 35);obtain ⟨wb,hb⟩:∃ wb,wa.alloc (.cells #[.int .i64 0,.int .i64 0,.slice none 0 0] 35)=wb:=⟨_,rfl⟩;have B3:=vec_made wb [.int .i64 0,.int .i64 0,.slice none 0 0] 35;have X3:=x1 wb (.cells #[.int .i64 0,.int .i64 0,.slice none 0 0] 35);have sa:wa.heap.size=w.heap.size+1:=by rw [← ha,World.size_alloc]
 have sb:wb.heap.size=w.heap.size+1+1:=by rw [← hb,World.size_alloc,sa]
 change Vec (w.alloc (.cells #[.int .i64 r,.int .i64 c,v] 24)) _ _ at B1;change Vec (wa.alloc (.cells #[.int .i64 0,.int .i64 0,.slice none 0 0] 35)) _ _ at B2;change Vec (wb.alloc (.cells #[.int .i64 0,.int .i64 0,.slice none 0 0] 35)) _ _ at B3;rw [ha] at X1 B1;rw [hb] at X2 B2;rw [sa] at B2;rw [sb] at B3;have X:=xt (xt X1 X2) X3;have B1:=(B1.later X2).later X3;have B2:=B2.later X3;clear X1 X2 X3;obtain ⟨wc,hc⟩:∃ wc,wb.alloc (.cells #[.int .i64 0,.int .i64 0,.slice none 0 0] 35)=wc:=⟨_,rfl⟩;have sc:wc.heap.size=w.heap.size+1+1+1:=by rw [← hc,World.size_alloc,sb]
 rw [hc] at B1 B2 B3 X;have a0:=(B1 0 _ rfl).1;have a1:=(B1 1 _ rfl).1;have a2:=(B1 2 _ rfl).1;have k0:=(B3 0 _ rfl).1;have k1:=(B3 1 _ rfl).1;have f0:=(B3 0 _ rfl).2;have f1:=(B3 1 _ rfl).2;obtain ⟨wd,hd⟩:∃ wd,(wc.setCell ⟨w.heap.size+1+1,0,none⟩ (.int .i64 r)).setCell ⟨w.heap.size+1+1,1,none⟩ (.int .i64 c)=wd:=⟨_,rfl⟩;have D1:=(B1.far (p:=⟨w.heap.size+1+1,0,none⟩) (by show w.heap.size+1+1 ≠ _;omega) (.int .i64 r)).far (p:=⟨w.heap.size+1+1,1,none⟩) (by show w.heap.size+1+1 ≠ _;omega) (.int .i64 c);have D2:=(B2.far (p:=⟨w.heap.size+1+1,0,none⟩) (by show w.heap.size+1+1 ≠ _;omega) (.int .i64 r)).far (p:=⟨w.heap.size+1+1,1,none⟩) (by show w.heap.size+1+1 ≠ _;omega) (.int .i64 c);have D3:Vec _ (w.heap.size+1+1) [.int .i64 r,.int .i64 c,.slice none 0 0]:=(B3.put 0 (by simp) (.int .i64 r)).put 1 (by simp) (.int .i64 c);have XD:=xset (xset X (p:=⟨w.heap.size+1+1,0,none⟩) (by show _≤w.heap.size+1+1;omega) (.int .i64 r)) (p:=⟨w.heap.size+1+1,1,none⟩) (by show _≤w.heap.size+1+1;omega) (.int .i64 c);have sd:wd.heap.size=w.heap.size+1+1+1:=by rw [← hd,World.size_setCell,World.size_setCell,sc]
 rw [hd] at D1 D2 D3 XD;have d2:=(D1 2 _ rfl).1;clear B1 B2 B3 X sc;go_enter Tryz.func8,Tryz.ntmps8;go_wp2_with fail;clear ha hb hc sa sb a0 a1 a2 k0 k1 f0 f1 hd d2;refine (toVals v l wd (h.later XD) hl).mono ?_;rintro e w1 ⟨⟨g,rfl,hg,O⟩,e1⟩;rw [sd] at hg;obtain ⟨n,hn⟩:∃ n,l.length=n:=⟨_,rfl⟩;have HN:Hid (l.length=n):=hn;rw [hn];clear hn;have C2:=D2.later e1;have C3:=D3.later e1;have Y:=xt XD e1;clear D1 D2 D3 XD e1 sd h hl;have q2:=(C3 2 _ rfl).1;have p2:=(C3 2 _ rfl).2;have E3:Vec (w1.setCell ⟨w.heap.size+1+1,2,none⟩ (.slice (some ⟨g,0,none⟩) n n)) (w.heap.size+1+1) [.int .i64 r,.int .i64 c,.slice (some ⟨g,0,none⟩) n n]:=C3.put 2 (by simp) _;have E2:=C2.far (p:=⟨w.heap.size+1+1,2,none⟩) (by show w.heap.size+1+1 ≠ _;omega) (.slice (some ⟨g,0,none⟩) n n);have EO:=O.far (p:=⟨w.heap.size+1+1,2,none⟩) (by show w.heap.size+1+1 ≠ _;omega) (.slice (some ⟨g,0,none⟩) n n);have XE:=xset Y (p:=⟨w.heap.size+1+1,2,none⟩) (by show _≤w.heap.size+1+1;omega) (.slice (some ⟨g,0,none⟩) n n);obtain ⟨we,he⟩:∃ we,w1.setCell ⟨w.heap.size+1+1,2,none⟩ (.slice (some ⟨g,0,none⟩) n n)=we:=⟨_,rfl⟩;rw [he] at E3 E2 EO XE;clear C2 C3 O Y;have m0:=(E3 0 _ rfl).1;have m1:=(E3 1 _ rfl).1;have m2:=(E3 2 _ rfl).1;have b0:=(E2 0 _ rfl).1;have b1:=(E2 1 _ rfl).1;have b2:=(E2 2 _ rfl).1;have g0:=(E2 0 _ rfl).2;have g1:=(E2 1 _ rfl).2;have g2:=(E2 2 _ rfl).2;have F2:=E2.put3 (.int .i64 r) (.int .i64 c) (.slice (some ⟨g,0,none⟩) n n);have FO:=((EO.far (p:=⟨w.heap.size+1,0,none⟩) (by show w.heap.size+1 ≠ _;omega) (.int .i64 r)).far (p:=⟨w.heap.size+1,1,none⟩) (by show w.heap.size+1 ≠ _;omega) (.int .i64 c)).far (p:=⟨w.heap.size+1,2,none⟩) (by show w.heap.size+1 ≠ _;omega) (.slice (some ⟨g,0,none⟩) n n);have FX:=xset (xset (xset XE (p:=⟨w.heap.size+1,0,none⟩) (by show _≤w.heap.size+1;omega) (.int .i64 r)) (p:=⟨w.heap.size+1,1,none⟩) (by show _≤w.heap.size+1;omega) (.int .i64 c)) (p:=⟨w.heap.size+1,2,none⟩) (by show _≤w.heap.size+1;omega) (.slice (some ⟨g,0,none⟩) n n);obtain ⟨wy,hy⟩:∃ wy,((we.setCell ⟨w.heap.size+1,0,none⟩ (.int .i64 r)).setCell ⟨w.heap.size+1,1,none⟩ (.int .i64 c)).setCell ⟨w.heap.size+1,2,none⟩ (.slice (some ⟨g,0,none⟩) n n)=wy:=⟨_,rfl⟩;rw [hy] at F2 FO FX;have fd0:=(F2 0 _ rfl).1;have fd1:=(F2 1 _ rfl).1;have fd2:=(F2 2 _ rfl).1;clear E2 E3 EO XE F2;go_wp2_with fail;exact bodyPost_ret (v:=grV r c (.slice (some ⟨g,0,none⟩) n n)) (by simp [results,Tryz.results8,go_sem,fd0,fd1,fd2]) rfl ⟨⟨g,by rw [HN.out],by omega,FO⟩,FX⟩
set_option maxRecDepth 8000 in
set_option maxHeartbeats 2000000 in
theorem eqVals (v v':Value) (l:List VT) (w:World) (h:ValsIn w v l) (h':ValsIn w v' l) (hl:l.length≤2000000) :
  Calls Tryz.prog 20 #[v,v'] w fun e w'=>e=.returned (.bool true)∧Ext w w':=by
 obtain ⟨p,cap,rfl,hcap,hrow⟩:=h;obtain ⟨p',cap',rfl,hcap',hrow'⟩:=h';obtain ⟨n,hn⟩:∃ n,l.length=n:=⟨_,rfl⟩;have HN:Hid (l.length=n):=hn;rw [hn] at hcap hcap' hl hrow hrow' ⊢;have HRow:Hid (0<n→∃ b o,p=some ⟨b,o,none⟩∧RowV w b o l):=hrow;have HRow':Hid (0<n→∃ b o,p'=some ⟨b,o,none⟩∧RowV w b o l):=hrow';clear hn hrow hrow';go_enter Tryz.func20,Tryz.ntmps20;go_wp2_with fail;go_loopw [5] (fun i wr=>∃ k:Nat,k≤n∧i=.int .i64 k∧Ext w wr) (fun i _=>n - (intOf i).toNat)
 case atStart=>exact ⟨0,by omega,rfl,xr _⟩
 case round =>
  obtain ⟨k,hk,rfl,X⟩:=hrel;by_cases hlt:k<n
  ·obtain ⟨e,he⟩:∃ e,l[k]?=some e:=⟨_,List.getElem?_eq_getElem (by rw [HN.out];exact hlt)⟩;obtain ⟨b,o,rfl,hR⟩:=HRow.out (by omega);obtain ⟨b',o',rfl,hR'⟩:=HRow'.out (by omega);obtain ⟨a0,a1,a2,a3,a4⟩:=(hR.later X).five he;obtain ⟨c0,c1,c2,c3,c4⟩:=(hR'.later X).five he;obtain ⟨ek,en,ed,ex,et⟩:=e;have i2:(k:Int)<(n:Int):=by omega
   clear hR hR' he;dsimp only at a0 a1 a2 a3 a4 c0 c1 c2 c3 c4;go_wp2_with fail;go_region_held3 (fun w'=>(w'.cell? ⟨b,o+k * 5,none⟩=some (.int .i64 ek)∧w'.cell? ⟨b,o+k * 5+1,none⟩=some (.bool en)∧w'.cell? ⟨b,o+k * 5+2,none⟩=some (.int .i64 ed)∧w'.cell? ⟨b,o+k * 5+3,none⟩=some (.int .i64 ex)∧w'.cell? ⟨b,o+k * 5+4,none⟩=some (sV et))∧w'.cell? ⟨b',o'+k * 5,none⟩=some (.int .i64 ek)∧w'.cell? ⟨b',o'+k * 5+1,none⟩=some (.bool en)∧w'.cell? ⟨b',o'+k * 5+2,none⟩=some (.int .i64 ed)∧w'.cell? ⟨b',o'+k * 5+3,none⟩=some (.int .i64 ex)∧w'.cell? ⟨b',o'+k * 5+4,none⟩=some (sV et)) (go_keep)
    (first
     | (go_at_call 34;refine (eqValue_same ek en ed ex et _).mono ?_;rintro e w' ⟨rfl,E⟩;have Y:=xt (xd (xr _)) E;have r0:=cell_later Y a0;have r1:=cell_later Y a1;have r2:=cell_later Y a2;have r3:=cell_later Y a3;have r4:=cell_later Y a4;have s0:=cell_later Y c0;have s1:=cell_later Y c1;have s2:=cell_later Y c2;have s3:=cell_later Y c3;have s4:=cell_later Y c4))
   go_wp2_with fail;go_roundw
   case rel=>exact ⟨k+1,by omega,by go_num,xt X Y⟩
   case measure=>simp [intOf];omega
  ·obtain rfl:k=n:=by omega
   go_wp2_with fail;go_ret;exact ⟨rfl,X⟩
set_option maxRecDepth 8000 in
set_option maxHeartbeats 2000000 in
theorem eqGridL (r c:Int) (v v':Value) (l:List VT) (w:World) (h:ValsIn w v l) (h':ValsIn w v' l) (hl:l.length≤2000000) :
  Calls Tryz.prog 12 #[grV r c v,grV r c v'] w fun e w'=>e=.returned (.bool true)∧Ext w w':=by
 have X:=xa (x1 w (.cells #[.int .i64 r,.int .i64 c,v] 35)) (.cells #[.int .i64 r,.int .i64 c,v'] 35);have C:=eqVals v v' l _ (h.later X) (h'.later X) hl;clear h h' hl;go_enter Tryz.func12,Tryz.ntmps12;go_wp2_with fail;refine C.mono ?_;rintro e w1 ⟨rfl,e1⟩;go_wp2_with fail;go_ret;exact ⟨rfl,xt X e1⟩
set_option maxRecDepth 8000 in
set_option maxHeartbeats 2000000 in
theorem szGridL (r c:Int) (v:Value) (l:List VT) (m:Int) (w:World) (h:ValsIn w v l) (m0:0≤m) (m1:m≤1048576) (hl:l.length≤9223372036854775807) (ht:∀ e ∈ l,e.t.length≤9223372036854775807) :
  Calls Tryz.prog 5 #[grV r c v,.int .i64 m] w fun e w'=>(∃ r:Int,e=.returned (.int .i64 r) ∧ -1≤r∧r≤m∧(0≤r→(l.length:Int)≤m∧∀ q ∈ l,(q.t.length:Int)≤m))∧Ext w w':=by
 have X:=x1 w (.cells #[.int .i64 r,.int .i64 c,v] 24);have C:=szVals v l m _ (h.later X) m0 m1 hl ht;clear h hl ht;go_enter Tryz.func5,Tryz.ntmps5;go_wp2_with fail;refine C.mono ?_;rintro e w1 ⟨⟨z,rfl,z0,z1,hz⟩,e1⟩;have HZ:Hid (0≤z→(l.length:Int)≤m∧∀ q ∈ l,(q.t.length:Int)≤m):=hz;clear hz;by_cases hn:z<0
 ·go_wp2_with fail;go_ret;exact ⟨⟨-1,rfl,by omega,by omega,fun h=>by omega⟩,xt X e1⟩
 ·go_wp2_with fail;go_ret;exact ⟨⟨z,rfl,by omega,by omega,HZ.out⟩,xt X e1⟩
end Go.Proofs.YtiaakhogigddbaaGreatDoor

