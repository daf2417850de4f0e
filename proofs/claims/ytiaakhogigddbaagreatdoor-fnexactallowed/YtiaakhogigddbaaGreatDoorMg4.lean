/-
  Several texts in one: LibC, FrameL, FrameVs, V6d, V9e, V7e, W9a, W9b, V7f, W9t, Qa, Qb, Qc, Qd, Fb, V6p.
-/
import Derived.Test.YtiaakhogigddbaaGreatDoorMg2
import Derived.Test.YtiaakhogigddbaaGreatDoorShelf
import Derived.WalkSmall
import Derived.Lib.LaidTab
import Derived.Test.YtiaakhogigddbaaGreatDoorMg1
import Derived.Stop.LaidErr
import Derived.Deep.DeepCutAuto
import Derived.Deep.AppendLies
import Derived.OwnWalk
import Derived.Laws.OwnMore
import Derived.Deep.RegionHeld3
import Derived.Laws.IdiomStrings
import Derived.BigQuiet
import Derived.Deep.QuietTactic
import Derived.Lib.SlKept
import Derived.Shelf.SlicesE.Compact
import Derived.Lib.SliceRun
import Derived.Laws.IdiomCopy
namespace Go.Proofs.YtiaakhogigddbaaGreatDoor
open Go.RowKit
theorem shelfExtra:Builder.Extra Tryz.prog layRepeat_ren:={
 sizeBuilder:=by kernel_rfl
 liesBuilder:=by kernel_rfl
 t5:=layRepeat.t5
 a5:=layRepeat.a5
 z5:=layRepeat.z5
 v5:=layRepeat.v5
 infoByte:=by kernel_rfl
 cellsByte:=by kernel_rfl
 sizeByte:=by kernel_rfl
 neB5:=by decide }
theorem fRepeat:layRepeat_ren.f 105=202:=by kernel_rfl
theorem fItoa:layItoa_ren.f 171=173:=by kernel_rfl
theorem repC:RepC:=by
 intro c w h0 h1;obtain ⟨n,rfl⟩:∃ n:Nat,c=(n:Int):=⟨c.toNat,by omega⟩;have h:=Any.strings_Repeat layRepeat shelfExtra ⟨#[48]⟩ n w (by omega) (by show 1 * n≤_;omega);rw [fRepeat] at h;refine h.mono fun e w' ⟨he,hw⟩=>⟨_,he,?_,hw⟩;have e:=Lib.repeatL_replicate 48 1 n;simp only [Nat.mul_one] at e;show Lib.repeatL [48] n=List.replicate ((n:Int)).toNat 48;rw [Int.toNat_natCast,← e];rfl
theorem gPow10:Tryz.prog.globalNamed "internal/strconv.uint64pow10" = some 7:=by kernel_rfl
theorem grow_ext (w:World) (k:Nat) (os:Array Obj):Ext w (Sort.grow (w.drewN k) os):=
 ⟨rfl,rfl,rfl,by simp [Sort.grow,World.drewN],fun i hi=>by simp [Sort.grow,World.drewN,Array.getElem?_append_left hi]⟩
theorem itoaC {w0:World} (h0:Lib.TabIs Tryz.prog w0 "internal/strconv.uint64pow10" .u64 Lib.pow10Tab):ItoaC w0:=by
 intro n w b0 b1 X;have hlt:7<w0.heap.size:=by
  have h:=h0;unfold Lib.TabIs World.var? at h;simp only [gPow10,Option.bind_some] at h;by_cases hk:7<w0.heap.size
  ·exact hk
  ·rw [Array.getElem?_eq_none (by omega)] at h;cases h
 have h:=Any.strconv_Itoa layItoa n (by omega) (by omega) w (var?_below X gPow10 hlt h0);rw [fItoa] at h;refine h.mono fun e w' ⟨he,k,os,hw⟩=>⟨_,he,rfl,?_⟩;subst hw;exact grow_ext w k os
end Go.Proofs.YtiaakhogigddbaaGreatDoor

namespace Go.Proofs.YtiaakhogigddbaaGreatDoor
open Go.ChangeShapes Go.WideShapes Go.ChangeAt Go.RowKit
theorem gPow10Type:(Tryz.prog.globals[7]?).map (·.type)=some 94:=by kernel_rfl
theorem pow10_of {rest:List (String × DataW Unit)} {W:World} (h:laidMet Tryz.prog (("internal/strconv.uint64pow10", Rows.laid_internal_strconv_uint64pow10) :: rest) W):Lib.TabIs Tryz.prog W "internal/strconv.uint64pow10" .u64 Lib.pow10Tab:=
 Lib.tabIs_of_head (rest:=rest) gPow10 gPow10Type Tryz.underlying94 Tryz.underlying93 (by kernel_rfl) (by kernel_rfl) h
end Go.Proofs.YtiaakhogigddbaaGreatDoor

namespace Go.Proofs.YtiaakhogigddbaaGreatDoor
open Go.ChangeShapes Go.WideShapes Go.ChangeAt Go.RowKit
set_option maxRecDepth 100000 in
theorem open_values {H:Type} {enc:TypeId × Value→H} {W:World} {base:Nat} {v:Value} {d:DataW H} {p:List MemPlace}
  (hv:Value.okWide Tryz.prog W .any base 22 v) (h:DataW.Trod enc Tryz.prog W 0 (fun _=>true) true 22 v d p) :
  ∃ l:List VT,ValsIn W v l∧l.length≤maxLen∧(∀ e ∈ l,e.t.length≤maxLen)∧∀ e ∈ l,-9223372036854775808≤e.d∧e.d≤9223372036854775807:=by
 obtain ⟨a0,len0,cap0,rfl⟩:=okWide_slice Tryz.underlying22 hv;obtain ⟨fuel,hf⟩:=h;have kv:Tryz.prog.cellsOf 28=5:=by kernel_rfl
 rcases Deep.open_slice Tryz.underlying22 hf with ⟨hcs,hx⟩ | ⟨a,len,cap,m,n',D,Pl,hcs,_,hl,hm,hmm,_,hx⟩
 ·simp [Value.cells] at hcs;obtain ⟨rfl,rfl,rfl⟩:=hcs;exact ⟨[],⟨none,0,rfl,Nat.le_refl _,fun h=>by simp at h⟩,by simp,by simp,by simp⟩
 ·simp [Value.cells] at hcs;obtain ⟨rfl,rfl,rfl⟩:=hcs;simp only [if_true] at hmm;subst hmm;have each:∀ i,i<len0→∃ e:VT,(∀ (c:Nat) (u:Value),e.cells[c]?=some u→W.cell? ((a.add (i * 5)).add c)=some u)∧(-9223372036854775808≤e.d∧e.d≤9223372036854775807)∧e.t.length≤maxLen:=by
   intro i hi;obtain ⟨cs',q1,q2⟩:=hx i (by omega);rw [kv] at q1;obtain ⟨_,hlen,hcell⟩:=World.cells?_some q1;obtain ⟨e,rfl,b1,b2⟩:=value_parts hlen q2;refine ⟨e,fun c u hc=>?_,b1,b2⟩;have:=hcell c (cells_lt hc);rw [this,hc]
  obtain ⟨q,hq⟩:=@Deep.choose_lt VT ⟨zeroVT⟩ _ _ each;refine ⟨(List.range len0).map q,⟨some a,m,by simp,by simpa using hl,fun h0=>?_⟩,by simp;omega,?_,?_⟩
  ·have h0':0<len0:=by simpa using h0
   obtain ⟨pb,po,spt⟩:=a;have hc0:=(hq 0 h0').1 0 _ rfl;have hsp:spt=none:=by simpa [Addr.add] using World.cell?_spot hc0
   subst hsp;refine ⟨pb,po,rfl,fun i e hi c u hc=>?_⟩;rw [List.getElem?_map] at hi;obtain ⟨j,hj,rfl⟩:=Option.map_eq_some_iff.1 hi;have hji:j=i∧i<len0:=by
    rw [List.getElem?_eq_some_iff] at hj;obtain ⟨hlt,hj⟩:=hj;simp at hlt hj;exact ⟨hj.symm,hlt⟩
   obtain ⟨rfl,hlt⟩:=hji;have:=(hq j hlt).1 c u hc;rw [Addr.add_lit,Addr.add_lit] at this;exact this
  ·intro e he;obtain ⟨i,hi,rfl⟩:=List.mem_map.1 he;exact (hq i (List.mem_range.1 hi)).2.2
  ·intro e he;obtain ⟨i,hi,rfl⟩:=List.mem_map.1 he;exact (hq i (List.mem_range.1 hi)).2.1
end Go.Proofs.YtiaakhogigddbaaGreatDoor

namespace Go.Proofs.YtiaakhogigddbaaGreatDoor
open Go.RowKit
abbrev errT:List UInt8:=[35,86,65,76,85,69,33]
abbrev trueT:List UInt8:=[84,82,85,69]
abbrev falseT:List UInt8:=[70,65,76,83,69]
abbrev boolW (b:Bool):Value:=valV 3 false 0 0 (if b then trueT else falseT)
abbrev errW:Value:=valV 4 false 0 0 errT
set_option maxHeartbeats 1000000 in
theorem textVI (l:List UInt8) (w:World):Calls Tryz.prog 69 #[sV l] w fun e w'=>e=.returned (valV 2 false 0 0 l)∧Ext w w':=by
 go_enter Tryz.func69,Tryz.ntmps69
 go_wp2
 exact bodyPost_ret (v:=valV 2 false 0 0 l) (by simp [results,Tryz.results69,go_sem]) rfl ⟨rfl,by first | exact x1 _ _ | exact xa (x1 _ _) _⟩
set_option maxHeartbeats 1000000 in
theorem textVS (l:List UInt8) (w:World):Calls Tryz.prog 37 #[sV l] w fun e w'=>e=.returned (valV 2 false 0 0 l)∧Ext w w':=by
 go_enter Tryz.func37,Tryz.ntmps37
 go_wp2
 exact bodyPost_ret (v:=valV 2 false 0 0 l) (by simp [results,Tryz.results37,go_sem]) rfl ⟨rfl,by first | exact x1 _ _ | exact xa (x1 _ _) _⟩
set_option maxHeartbeats 1000000 in
theorem errVI (l:List UInt8) (w:World):Calls Tryz.prog 71 #[sV l] w fun e w'=>e=.returned (valV 4 false 0 0 l)∧Ext w w':=by
 go_enter Tryz.func71,Tryz.ntmps71
 go_wp2
 exact bodyPost_ret (v:=valV 4 false 0 0 l) (by simp [results,Tryz.results71,go_sem]) rfl ⟨rfl,by first | exact x1 _ _ | exact xa (x1 _ _) _⟩
set_option maxHeartbeats 1000000 in
theorem errVS (l:List UInt8) (w:World):Calls Tryz.prog 62 #[sV l] w fun e w'=>e=.returned (valV 4 false 0 0 l)∧Ext w w':=by
 go_enter Tryz.func62,Tryz.ntmps62
 go_wp2
 exact bodyPost_ret (v:=valV 4 false 0 0 l) (by simp [results,Tryz.results62,go_sem]) rfl ⟨rfl,by first | exact x1 _ _ | exact xa (x1 _ _) _⟩
set_option maxHeartbeats 1000000 in
theorem numVI (n:Bool) (d x:Int) (w:World):Calls Tryz.prog 148 #[decV n d x] w fun e w'=>e=.returned (valV 1 n d x [])∧Ext w w':=by
 go_enter Tryz.func148,Tryz.ntmps148
 go_wp2
 exact bodyPost_ret (v:=valV 1 n d x []) (by simp [results,Tryz.results148,go_sem]) rfl ⟨rfl,by first | exact x1 _ _ | exact xa (x1 _ _) _⟩
set_option maxHeartbeats 1000000 in
theorem numVS (n:Bool) (d x:Int) (w:World):Calls Tryz.prog 85 #[decV n d x] w fun e w'=>e=.returned (valV 1 n d x [])∧Ext w w':=by
 go_enter Tryz.func85,Tryz.ntmps85
 go_wp2
 exact bodyPost_ret (v:=valV 1 n d x []) (by simp [results,Tryz.results85,go_sem]) rfl ⟨rfl,by first | exact x1 _ _ | exact xa (x1 _ _) _⟩
set_option maxHeartbeats 1000000 in
theorem boolVI (b:Bool) (w:World):Calls Tryz.prog 48 #[.bool b] w fun e w'=>e=.returned (boolW b)∧Ext w w':=by
 cases b
 ·go_enter Tryz.func48,Tryz.ntmps48
  go_wp2
  exact bodyPost_ret (v:=valV 3 false 0 0 falseT) (by simp [results,Tryz.results48,go_sem,falseT]) rfl ⟨rfl,x1 _ _⟩
 ·go_enter Tryz.func48,Tryz.ntmps48
  go_wp2
  exact bodyPost_ret (v:=valV 3 false 0 0 trueT) (by simp [results,Tryz.results48,go_sem,trueT]) rfl ⟨rfl,x1 _ _⟩
set_option maxHeartbeats 1000000 in
theorem boolVS (b:Bool) (w:World):Calls Tryz.prog 64 #[.bool b] w fun e w'=>e=.returned (boolW b)∧Ext w w':=by
 cases b
 ·go_enter Tryz.func64,Tryz.ntmps64
  go_wp2
  exact bodyPost_ret (v:=valV 3 false 0 0 falseT) (by simp [results,Tryz.results64,go_sem,falseT]) rfl ⟨rfl,x1 _ _⟩
 ·go_enter Tryz.func64,Tryz.ntmps64
  go_wp2
  exact bodyPost_ret (v:=valV 3 false 0 0 trueT) (by simp [results,Tryz.results64,go_sem,trueT]) rfl ⟨rfl,x1 _ _⟩
theorem goodV_num {n:Bool} {d x:Int} {t:List UInt8} (h:goodV 1 n d x t=true):goodB n d x=true∧t=[]:=by simpa [goodV] using h
theorem goodV_zero {k:Int} {n:Bool} {d x:Int} {t:List UInt8} (h:goodV k n d x t=true) (h1:k ≠ 1):n=false∧d=0∧x=0:=by
 simp only [goodV,h1,if_false,Bool.and_eq_true] at h;have:=h.1;simpa [zeroD,and_assoc] using this
theorem goodV_empty {n:Bool} {d x:Int} {t:List UInt8} (h:goodV 0 n d x t=true):t=[]:=by simpa [goodV] using (show _∧_ by simpa [goodV] using h).2
theorem Vec.three {w:World} {b:Nat} {v0 v1 v2:Value} (h:Vec w b [v0,v1,v2]):w.cell? ⟨b,0,none⟩=some v0∧w.cell? ⟨b,1,none⟩=some v1∧w.cell? ⟨b,2,none⟩=some v2:=
 ⟨(h 0 _ rfl).1,(h 1 _ rfl).1,(h 2 _ rfl).1⟩
theorem Vec.threeF {w:World} {b:Nat} {v0 v1 v2:Value} (h:Vec w b [v0,v1,v2]):w.frozen? ⟨b,0,none⟩=false∧w.frozen? ⟨b,1,none⟩=false∧w.frozen? ⟨b,2,none⟩=false:=
 ⟨(h 0 _ rfl).2,(h 1 _ rfl).2,(h 2 _ rfl).2⟩
theorem Vec.four {w:World} {b:Nat} {v0 v1 v2 v3:Value} (h:Vec w b [v0,v1,v2,v3]):w.cell? ⟨b,0,none⟩=some v0∧w.cell? ⟨b,1,none⟩=some v1∧w.cell? ⟨b,2,none⟩=some v2∧w.cell? ⟨b,3,none⟩=some v3:=
 ⟨(h 0 _ rfl).1,(h 1 _ rfl).1,(h 2 _ rfl).1,(h 3 _ rfl).1⟩
theorem Vec.fourF {w:World} {b:Nat} {v0 v1 v2 v3:Value} (h:Vec w b [v0,v1,v2,v3]):w.frozen? ⟨b,0,none⟩=false∧w.frozen? ⟨b,1,none⟩=false∧w.frozen? ⟨b,2,none⟩=false∧w.frozen? ⟨b,3,none⟩=false:=
 ⟨(h 0 _ rfl).2,(h 1 _ rfl).2,(h 2 _ rfl).2,(h 3 _ rfl).2⟩
theorem Vec.five {w:World} {b:Nat} {v0 v1 v2 v3 v4:Value} (h:Vec w b [v0,v1,v2,v3,v4]):w.cell? ⟨b,0,none⟩=some v0∧w.cell? ⟨b,1,none⟩=some v1∧w.cell? ⟨b,2,none⟩=some v2∧w.cell? ⟨b,3,none⟩=some v3∧w.cell? ⟨b,4,none⟩=some v4:=
 ⟨(h 0 _ rfl).1,(h 1 _ rfl).1,(h 2 _ rfl).1,(h 3 _ rfl).1,(h 4 _ rfl).1⟩
theorem Vec.fiveF {w:World} {b:Nat} {v0 v1 v2 v3 v4:Value} (h:Vec w b [v0,v1,v2,v3,v4]):w.frozen? ⟨b,0,none⟩=false∧w.frozen? ⟨b,1,none⟩=false∧w.frozen? ⟨b,2,none⟩=false∧w.frozen? ⟨b,3,none⟩=false∧w.frozen? ⟨b,4,none⟩=false:=
 ⟨(h 0 _ rfl).2,(h 1 _ rfl).2,(h 2 _ rfl).2,(h 3 _ rfl).2,(h 4 _ rfl).2⟩
theorem fin5 {a w:World} {b:Nat} (V:Vec w b (valL 0 false 0 0 [])) (X:Ext a w) (hb:a.heap.size≤b) (k:Int) (n:Bool) (d x:Int) (t:List UInt8) :
  ∃ wy,(((((w.setCell ⟨b,0,none⟩ (.int .i64 k)).setCell ⟨b,1,none⟩ (.bool n)).setCell ⟨b,2,none⟩ (.int .i64 d)).setCell ⟨b,3,none⟩ (.int .i64 x)).setCell ⟨b,4,none⟩ (sV t))=wy∧Ext a wy∧(w.cell? ⟨b,0,none⟩=some (.int .i64 0)∧w.cell? ⟨b,1,none⟩=some (.bool false)∧w.cell? ⟨b,2,none⟩=some (.int .i64 0)∧w.cell? ⟨b,3,none⟩=some (.int .i64 0)∧w.cell? ⟨b,4,none⟩=some (sV []))∧(w.frozen? ⟨b,0,none⟩=false∧w.frozen? ⟨b,1,none⟩=false∧w.frozen? ⟨b,2,none⟩=false∧w.frozen? ⟨b,3,none⟩=false∧w.frozen? ⟨b,4,none⟩=false)∧wy.cell? ⟨b,0,none⟩=some (.int .i64 k)∧wy.cell? ⟨b,1,none⟩=some (.bool n)∧wy.cell? ⟨b,2,none⟩=some (.int .i64 d)∧wy.cell? ⟨b,3,none⟩=some (.int .i64 x)∧wy.cell? ⟨b,4,none⟩=some (sV t):=by
 have FG:=V.put5 (.int .i64 k) (.bool n) (.int .i64 d) (.int .i64 x) (sV t);have FX:=Ext.setL (b:=b) hb [.int .i64 k,.bool n,.int .i64 d,.int .i64 x,sV t] 0 X;exact ⟨_,rfl,FX,V.five,V.fiveF,FG.five⟩
theorem newB (w:World) (k:Int) (n:Bool) (d x:Int) (t:List UInt8) :
  ∃ wz wy,w.alloc (.cells #[.int .i64 0,.bool false,.int .i64 0,.int .i64 0,sV []] 39)=wz∧(((((wz.setCell ⟨w.heap.size,0,none⟩ (.int .i64 k)).setCell ⟨w.heap.size,1,none⟩ (.bool n)).setCell ⟨w.heap.size,2,none⟩ (.int .i64 d)).setCell ⟨w.heap.size,3,none⟩ (.int .i64 x)).setCell ⟨w.heap.size,4,none⟩ (sV t))=wy∧Vec wy w.heap.size (valL k n d x t)∧Ext w wy∧(wz.cell? ⟨w.heap.size,0,none⟩=some (.int .i64 0)∧wz.cell? ⟨w.heap.size,1,none⟩=some (.bool false)∧wz.cell? ⟨w.heap.size,2,none⟩=some (.int .i64 0)∧wz.cell? ⟨w.heap.size,3,none⟩=some (.int .i64 0)∧wz.cell? ⟨w.heap.size,4,none⟩=some (sV []))∧wz.frozen? ⟨w.heap.size,0,none⟩=false∧wz.frozen? ⟨w.heap.size,1,none⟩=false∧wz.frozen? ⟨w.heap.size,2,none⟩=false∧wz.frozen? ⟨w.heap.size,3,none⟩=false∧wz.frozen? ⟨w.heap.size,4,none⟩=false:=by
 have Z:=vec_made w (valL 0 false 0 0 []) 39;exact ⟨_,_,rfl,rfl,Z.put5 (.int .i64 k) (.bool n) (.int .i64 d) (.int .i64 x) (sV t),Ext.setL (b:=w.heap.size) (Nat.le_refl _) [.int .i64 k,.bool n,.int .i64 d,.int .i64 x,sV t] 0 (x1 w _),Z.five,Z.fiveF⟩
theorem mkB2 (w:World) (l0 l1:List Value) (T0 T1:TypeId):∃ u0 u1,w.alloc (.cells l0.toArray T0)=u0∧u0.alloc (.cells l1.toArray T1)=u1∧u0.heap.size=w.heap.size+1∧u1.heap.size=w.heap.size+1+1∧Vec u1 (w.heap.size) l0∧Vec u1 (w.heap.size+1) l1∧Ext w u1:=by
 have X0:=x1 w (.cells l0.toArray T0);have B0:=vec_made w l0 T0;obtain ⟨u0,h0⟩:∃ u,w.alloc (.cells l0.toArray T0)=u:=⟨_,rfl⟩;rw [h0] at X0 B0;have s0:u0.heap.size=w.heap.size+1:=by rw [← h0,World.size_alloc]
 have X:=X0;have X1:=x1 u0 (.cells l1.toArray T1);have B1:=vec_made u0 l1 T1;obtain ⟨u1,h1⟩:∃ u,u0.alloc (.cells l1.toArray T1)=u:=⟨_,rfl⟩;rw [h1] at X1 B1;rw [s0] at B1;have s1:u1.heap.size=w.heap.size+1+1:=by rw [← h1,World.size_alloc,s0]
 have B0:=B0.later X1;have X:=xt X X1;exact ⟨u0,u1,h0,h1,s0,s1,B0,B1,X⟩
theorem mkB3 (w:World) (l0 l1 l2:List Value) (T0 T1 T2:TypeId):∃ u0 u1 u2,w.alloc (.cells l0.toArray T0)=u0∧u0.alloc (.cells l1.toArray T1)=u1∧u1.alloc (.cells l2.toArray T2)=u2∧u0.heap.size=w.heap.size+1∧u1.heap.size=w.heap.size+1+1∧u2.heap.size=w.heap.size+1+1+1∧Vec u2 (w.heap.size) l0∧Vec u2 (w.heap.size+1) l1∧Vec u2 (w.heap.size+1+1) l2∧Ext w u2:=by
 have X0:=x1 w (.cells l0.toArray T0);have B0:=vec_made w l0 T0;obtain ⟨u0,h0⟩:∃ u,w.alloc (.cells l0.toArray T0)=u:=⟨_,rfl⟩;rw [h0] at X0 B0;have s0:u0.heap.size=w.heap.size+1:=by rw [← h0,World.size_alloc]
 have X:=X0;have X1:=x1 u0 (.cells l1.toArray T1);have B1:=vec_made u0 l1 T1;obtain ⟨u1,h1⟩:∃ u,u0.alloc (.cells l1.toArray T1)=u:=⟨_,rfl⟩;rw [h1] at X1 B1;rw [s0] at B1;have s1:u1.heap.size=w.heap.size+1+1:=by rw [← h1,World.size_alloc,s0]
 have B0:=B0.later X1;have X:=xt X X1;have X2:=x1 u1 (.cells l2.toArray T2);have B2:=vec_made u1 l2 T2;obtain ⟨u2,h2⟩:∃ u,u1.alloc (.cells l2.toArray T2)=u:=⟨_,rfl⟩;rw [h2] at X2 B2;rw [s1] at B2;have s2:u2.heap.size=w.heap.size+1+1+1:=by rw [← h2,World.size_alloc,s1]
 have B0:=B0.later X2;have B1:=B1.later X2;have X:=xt X X2;exact ⟨u0,u1,u2,h0,h1,h2,s0,s1,s2,B0,B1,B2,X⟩
theorem mkB4 (w:World) (l0 l1 l2 l3:List Value) (T0 T1 T2 T3:TypeId):∃ u0 u1 u2 u3,w.alloc (.cells l0.toArray T0)=u0∧u0.alloc (.cells l1.toArray T1)=u1∧u1.alloc (.cells l2.toArray T2)=u2∧u2.alloc (.cells l3.toArray T3)=u3∧u0.heap.size=w.heap.size+1∧u1.heap.size=w.heap.size+1+1∧u2.heap.size=w.heap.size+1+1+1∧u3.heap.size=w.heap.size+1+1+1+1∧Vec u3 (w.heap.size) l0∧Vec u3 (w.heap.size+1) l1∧Vec u3 (w.heap.size+1+1) l2∧Vec u3 (w.heap.size+1+1+1) l3∧Ext w u3:=by
 have X0:=x1 w (.cells l0.toArray T0);have B0:=vec_made w l0 T0;obtain ⟨u0,h0⟩:∃ u,w.alloc (.cells l0.toArray T0)=u:=⟨_,rfl⟩;rw [h0] at X0 B0;have s0:u0.heap.size=w.heap.size+1:=by rw [← h0,World.size_alloc]
 have X:=X0;have X1:=x1 u0 (.cells l1.toArray T1);have B1:=vec_made u0 l1 T1;obtain ⟨u1,h1⟩:∃ u,u0.alloc (.cells l1.toArray T1)=u:=⟨_,rfl⟩;rw [h1] at X1 B1;rw [s0] at B1;have s1:u1.heap.size=w.heap.size+1+1:=by rw [← h1,World.size_alloc,s0]
 have B0:=B0.later X1;have X:=xt X X1;have X2:=x1 u1 (.cells l2.toArray T2);have B2:=vec_made u1 l2 T2;obtain ⟨u2,h2⟩:∃ u,u1.alloc (.cells l2.toArray T2)=u:=⟨_,rfl⟩;rw [h2] at X2 B2;rw [s1] at B2;have s2:u2.heap.size=w.heap.size+1+1+1:=by rw [← h2,World.size_alloc,s1]
 have B0:=B0.later X2;have B1:=B1.later X2;have X:=xt X X2;have X3:=x1 u2 (.cells l3.toArray T3);have B3:=vec_made u2 l3 T3;obtain ⟨u3,h3⟩:∃ u,u2.alloc (.cells l3.toArray T3)=u:=⟨_,rfl⟩;rw [h3] at X3 B3;rw [s2] at B3;have s3:u3.heap.size=w.heap.size+1+1+1+1:=by rw [← h3,World.size_alloc,s2]
 have B0:=B0.later X3;have B1:=B1.later X3;have B2:=B2.later X3;have X:=xt X X3;exact ⟨u0,u1,u2,u3,h0,h1,h2,h3,s0,s1,s2,s3,B0,B1,B2,B3,X⟩
def flatV:List VT→List Value
 | []=>[]
 | x :: l=>x.cells++flatV l
abbrev OwnW (w:World) (base:Nat) (v:Value) (l:List VT):Prop:=w.ownsRow base 39 5 v l.length (flatV l)
theorem OwnV.vals {w:World} {g:Nat} {l:List VT} (h:OwnV w g l):ValsIn w (.slice (some ⟨g,0,none⟩) l.length l.length) l:=
 ⟨_,_,rfl,Nat.le_refl _,fun _=>⟨g,0,rfl,h.row⟩⟩
set_option maxRecDepth 8000 in
set_option maxHeartbeats 2000000 in
theorem eqVals (v v':Value) (l:List VT) (w:World) (h:ValsIn w v l) (h':ValsIn w v' l) (hl:l.length≤2000000) :
  Calls Tryz.prog 20 #[v,v'] w fun e w'=>e=.returned (.bool true)∧Ext w w':=by
 obtain ⟨p,cap,rfl,hcap,hrow⟩:=h;obtain ⟨p',cap',rfl,hcap',hrow'⟩:=h';obtain ⟨n,hn⟩:∃ n,l.length=n:=⟨_,rfl⟩;have HN:Hid (l.length=n):=hn;rw [hn] at hcap hcap' hl hrow hrow' ⊢;have HRow:Hid (0<n→∃ b o,p=some ⟨b,o,none⟩∧RowV w b o l):=hrow;have HRow':Hid (0<n→∃ b o,p'=some ⟨b,o,none⟩∧RowV w b o l):=hrow';clear hn hrow hrow';go_enter Tryz.func20,Tryz.ntmps20;go_wp2_with fail;go_loopw [5] (fun i wr=>∃ k:Nat,k≤n∧i=.int .i64 k∧Ext w wr) (fun i _=>n - (intOf i).toNat)
 case atStart=>exact ⟨0,by omega,rfl,xr _⟩
 case round =>
  obtain ⟨k,hk,rfl,X⟩:=hrel;by_cases hlt:k<n
  ·obtain ⟨e,he⟩:∃ e,l[k]?=some e:=⟨_,List.getElem?_eq_getElem (by rw [HN.out];exact hlt)⟩;obtain ⟨b,o,rfl,hR⟩:=HRow.out (by omega);obtain ⟨b',o',rfl,hR'⟩:=HRow'.out (by omega);obtain ⟨a0,a1,a2,a3,a4⟩:=(hR.later X).five he;obtain ⟨c0,c1,c2,c3,c4⟩:=(hR'.later X).five he;obtain ⟨ek,en,ed,ex,et⟩:=e;have i2:(k:Int)<(n:Int):=by omega
   clear hR hR' he;dsimp only at a0 a1 a2 a3 a4 c0 c1 c2 c3 c4;go_wp2_with fail;go_region_held3 (fun w'=>(w'.cell? ⟨b,o+k * 5,none⟩=some (.int .i64 ek)∧w'.cell? ⟨b,o+k * 5+1,none⟩=some (.bool en)∧w'.cell? ⟨b,o+k * 5+2,none⟩=some (.int .i64 ed)∧w'.cell? ⟨b,o+k * 5+3,none⟩=some (.int .i64 ex)∧w'.cell? ⟨b,o+k * 5+4,none⟩=some (sV et))∧w'.cell? ⟨b',o'+k * 5,none⟩=some (.int .i64 ek)∧w'.cell? ⟨b',o'+k * 5+1,none⟩=some (.bool en)∧w'.cell? ⟨b',o'+k * 5+2,none⟩=some (.int .i64 ed)∧w'.cell? ⟨b',o'+k * 5+3,none⟩=some (.int .i64 ex)∧w'.cell? ⟨b',o'+k * 5+4,none⟩=some (sV et)) (go_keep)
    (first
     | (go_at_call 34;refine (eqValue_same ek en ed ex et _).mono ?_;rintro e w' ⟨rfl,E⟩;have Y:=xt (xd (xr _)) E;have r0:=cell_later Y a0;have r1:=cell_later Y a1;have r2:=cell_later Y a2;have r3:=cell_later Y a3;have r4:=cell_later Y a4;have s0:=cell_later Y c0;have s1:=cell_later Y c1;have s2:=cell_later Y c2;have s3:=cell_later Y c3;have s4:=cell_later Y c4))
   go_wp2_with fail;go_roundw
   case rel=>exact ⟨k+1,by omega,by go_num,xt X Y⟩
   case measure=>simp [intOf];omega
  ·obtain rfl:k=n:=by omega
   go_wp2_with fail;go_ret;exact ⟨rfl,X⟩
abbrev numV (x:Nat):Value:=.int .i64 (x:Int)
abbrev OwnI (w:World) (base:Nat) (v:Value) (l:List Nat):Prop:=w.ownsRow base 3 1 v l.length (l.map numV)
structure Asks (f:Nat) (lb:Array Value) (l:List Nat) (p:Nat→Bool) (I:World→Prop):Prop where
 ent:∀ args w,(callFunc f args).run Tryz.prog w=.ok (.enter f args) w
 says:∀ W x,I W→x ∈ l→Calls Tryz.prog f (#[numV x]++lb) W fun e w'=>e=.returned (.bool (p x))∧Ext W w'
 later:∀ W W',I W→Ext W W'→I W'
structure Kept (l:List Nat) (p:Nat→Bool) (j i:Nat) (M:List Nat):Prop where
 len:M.length=l.length
 lt:i<j
 le:j≤l.length
 ahead:M.take i=(l.take j).filter fun x=>!p x
 rest:∀ t,j≤t→M[t]?=l[t]?
set_option maxRecDepth 8000 in
set_option maxHeartbeats 1000000 in
theorem capsI (l:List UInt8) (w:World) (hl:l.length≤2000000) :
  Calls Tryz.prog 83 #[sV l] w fun e w'=>e=.returned (sV (l.map upC))∧Ext w w':=by
 obtain ⟨cap,wb,hcv,hcap,X0,V0⟩:=bytes_made l w;obtain ⟨n,hn⟩:∃ n,l.length=n:=⟨_,rfl⟩;rw [hn] at hcv hcap hl;have HN:Hid (l.length=n):=hn;have V0':Hid (Vec wb w.heap.size (encB (upK l 0))):=by show Vec _ _ _;rw [upK_zero];exact V0
 clear hn V0;go_enter Tryz.func83,Tryz.ntmps83;go_wp2_with fail;clear hcv;go_loopw [10] (fun i wr=>∃ k:Nat,k≤n∧i=.int .i64 k∧Hid (Vec wr w.heap.size (encB (upK l k)))∧Ext w wr) (fun i _=>n - (intOf i).toNat)
 case atStart=>exact ⟨0,by omega,rfl,V0',X0⟩
 case round =>
  obtain ⟨k,hk,rfl,V,X⟩:=hrel;by_cases hlt:k<n
  ·obtain ⟨c,hc⟩:∃ c,l[k]?=some c:=⟨_,List.getElem?_eq_getElem (by rw [HN.out];exact hlt)⟩;obtain ⟨a0,f0⟩:=V.out k _ (encB_at (upK_at hc));have i1:(0:Int)≤(k:Int):=by omega
   have i2:(k:Int)<(n:Int):=by omega
   have hz:c.toNat<256:=UInt8.toNat_lt c;have VP:=V.out.put k (by rw [encB_length,upK_length,HN.out];exact hlt) (.int .u8 ((upC c).toNat:Int));have es:(encB (upK l k)).set k (.int .u8 ((upC c).toNat:Int))=encB (upK l (k+1)):=by rw [upK_succ hc];simp [encB,List.map_set]
   rw [es] at VP;by_cases hs:97≤c.toNat∧c.toNat≤122
   ·have eu:=upC_small hs;rw [eu] at VP;have HV:Hid (Vec (wr.setCell ⟨w.heap.size,k,none⟩ (.int .u8 ((c.toNat:Int) - 32))) w.heap.size (encB (upK l (k+1)))):=VP;obtain ⟨z,ez⟩:∃ z:Int,(c.toNat:Int)=z:=⟨_,rfl⟩;rw [ez] at a0 HV;have z1:97≤z:=(by omega);have z2:z≤122:=(by omega);clear V VP es eu hc hs ez hz;go_wp2_with fail;go_roundw
    case rel=>exact ⟨k+1,by omega,by go_num,by first | exact HV | (show Vec _ _ _;have:=HV.out;rw [show z - 97+65=z - 32 by omega];exact this),xset X (Nat.le_refl _) _⟩
    case measure=>simp [intOf];omega
   ·have eu:=upC_other hs;have HV:Hid (Vec wr w.heap.size (encB (upK l (k+1)))):=by
     show Vec _ _ _;have:upK l (k+1)=upK l k:=by
      rw [upK_succ hc,eu];exact List.ext_getElem? fun i=>by
       rw [List.getElem?_set]
       split
       ·next e=>subst e;rw [if_pos (by rw [upK_length,HN.out];exact hlt)];exact (upK_at hc).symm
       ·rfl
     rw [this];exact V.out
    obtain ⟨z,ez⟩:∃ z:Int,(c.toNat:Int)=z:=⟨_,rfl⟩;rw [ez] at a0;have z3:0≤z∧z≤255:=(by omega);have z4:z<97∨122<z:=(by omega);clear V VP es eu hc hs ez hz
    rcases z4 with z4 | z4
    ·go_wp2_with fail;go_roundw
     case rel=>exact ⟨k+1,by omega,by go_num,HV,X⟩
     case measure=>simp [intOf];omega
    ·have z5:97≤z:=(by omega);go_wp2_with fail;go_roundw
     case rel=>exact ⟨k+1,by omega,by go_num,HV,X⟩
     case measure=>simp [intOf];omega
  ·obtain rfl:k=n:=by omega
   have hb:=bytes_back (l.map upC) w.heap.size cap wr (by have:=V.out;rw [← HN.out,upK_all] at this;exact this);rw [List.length_map,HN.out] at hb;go_wp2_with fail;go_ret;exact ⟨rfl,X⟩
set_option maxRecDepth 8000 in
set_option maxHeartbeats 1000000 in
theorem capsS (l:List UInt8) (w:World) (hl:l.length≤2000000) :
  Calls Tryz.prog 76 #[sV l] w fun e w'=>e=.returned (sV (l.map upC))∧Ext w w':=by
 obtain ⟨cap,wb,hcv,hcap,X0,V0⟩:=bytes_made l w;obtain ⟨n,hn⟩:∃ n,l.length=n:=⟨_,rfl⟩;rw [hn] at hcv hcap hl;have HN:Hid (l.length=n):=hn;have V0':Hid (Vec wb w.heap.size (encB (upK l 0))):=by show Vec _ _ _;rw [upK_zero];exact V0
 clear hn V0;go_enter Tryz.func76,Tryz.ntmps76;go_wp2_with fail;clear hcv;go_loopw [10] (fun i wr=>∃ k:Nat,k≤n∧i=.int .i64 k∧Hid (Vec wr w.heap.size (encB (upK l k)))∧Ext w wr) (fun i _=>n - (intOf i).toNat)
 case atStart=>exact ⟨0,by omega,rfl,V0',X0⟩
 case round =>
  obtain ⟨k,hk,rfl,V,X⟩:=hrel;by_cases hlt:k<n
  ·obtain ⟨c,hc⟩:∃ c,l[k]?=some c:=⟨_,List.getElem?_eq_getElem (by rw [HN.out];exact hlt)⟩;obtain ⟨a0,f0⟩:=V.out k _ (encB_at (upK_at hc));have i1:(0:Int)≤(k:Int):=by omega
   have i2:(k:Int)<(n:Int):=by omega
   have hz:c.toNat<256:=UInt8.toNat_lt c;have VP:=V.out.put k (by rw [encB_length,upK_length,HN.out];exact hlt) (.int .u8 ((upC c).toNat:Int));have es:(encB (upK l k)).set k (.int .u8 ((upC c).toNat:Int))=encB (upK l (k+1)):=by rw [upK_succ hc];simp [encB,List.map_set]
   rw [es] at VP;by_cases hs:97≤c.toNat∧c.toNat≤122
   ·have eu:=upC_small hs;rw [eu] at VP;have HV:Hid (Vec (wr.setCell ⟨w.heap.size,k,none⟩ (.int .u8 ((c.toNat:Int) - 32))) w.heap.size (encB (upK l (k+1)))):=VP;obtain ⟨z,ez⟩:∃ z:Int,(c.toNat:Int)=z:=⟨_,rfl⟩;rw [ez] at a0 HV;have z1:97≤z:=(by omega);have z2:z≤122:=(by omega);clear V VP es eu hc hs ez hz;go_wp2_with fail;go_roundw
    case rel=>exact ⟨k+1,by omega,by go_num,HV,xset X (Nat.le_refl _) _⟩
    case measure=>simp [intOf];omega
   ·have eu:=upC_other hs;have HV:Hid (Vec wr w.heap.size (encB (upK l (k+1)))):=by
     show Vec _ _ _;have:upK l (k+1)=upK l k:=by
      rw [upK_succ hc,eu];exact List.ext_getElem? fun i=>by
       rw [List.getElem?_set]
       split
       ·next e=>subst e;rw [if_pos (by rw [upK_length,HN.out];exact hlt)];exact (upK_at hc).symm
       ·rfl
     rw [this];exact V.out
    obtain ⟨z,ez⟩:∃ z:Int,(c.toNat:Int)=z:=⟨_,rfl⟩;rw [ez] at a0;have z3:0≤z∧z≤255:=(by omega);have z4:z<97∨122<z:=(by omega);clear V VP es eu hc hs ez hz
    rcases z4 with z4 | z4
    ·go_wp2_with fail;go_roundw
     case rel=>exact ⟨k+1,by omega,by go_num,HV,X⟩
     case measure=>simp [intOf];omega
    ·have z5:97≤z:=(by omega);go_wp2_with fail;go_roundw
     case rel=>exact ⟨k+1,by omega,by go_num,HV,X⟩
     case measure=>simp [intOf];omega
  ·obtain rfl:k=n:=by omega
   have hb:=bytes_back (l.map upC) w.heap.size cap wr (by have:=V.out;rw [← HN.out,upK_all] at this;exact this);rw [List.length_map,HN.out] at hb;go_wp2_with fail;go_ret;exact ⟨rfl,X⟩
set_option maxRecDepth 8000 in
set_option maxHeartbeats 2000000 in
theorem numE (w:World) (hT:Tens w) (hE:ErrTab w) :
  Calls Tryz.prog 110 #[valV 0 false 0 0 []] w fun e w'=>e=.returned (valV 1 false 0 0 [])∧Ext w w':=by
 obtain ⟨R,hR⟩:∃ R,valV 1 false 0 0 []=R:=⟨_,rfl⟩;have HR:Hid (valV 1 false 0 0 []=R):=hR;rw [hR];clear hR;obtain ⟨wa,wb,ha,hb,sa,_,B1,B2,X⟩:=mkB2 w [.int .i64 0,.bool false,.int .i64 0,.int .i64 0,sV []] [.int .i64 0,.bool false,.int .i64 0,.int .i64 0,sV []] 39 39;obtain ⟨a0,a1,a2,a3,a4⟩:=Vec.five B1;go_enter Tryz.func110,Tryz.ntmps110;go_wp2_with fail;clear ha hb sa a0 a1 a2 a3 a4;refine (goodVI 0 false 0 0 [] wb (by decide) (by decide) (by decide) (hT.later X) (hE.later X)).mono ?_;rintro e w1 ⟨rfl,e1⟩;rw [show goodV 0 false 0 0 []=true by decide];have C1:=B1.later e1;have C2:=B2.later e1;have X1:=xt X e1;obtain ⟨a0,a1,a2,a3,a4⟩:=Vec.five C1;go_wp2_with fail;clear a0 a1 a2 a3 a4;refine (numVI false 0 0 _).mono ?_;rintro e w2 ⟨rfl,e2⟩;obtain ⟨wy,hy,FX,⟨b0,b1,b2,b3,b4⟩,⟨fb0,fb1,fb2,fb3,fb4⟩,fd0,fd1,fd2,fd3,fd4⟩:=fin5 (C2.later e2) (xt X1 e2) (by omega) (1) (false) (0) (0) ([]);go_wp2_with fail;exact bodyPost_ret (v:=valV 1 false 0 0 []) (by simp [results,Tryz.results110,go_sem,fd0,fd1,fd2,fd3,fd4]) rfl ⟨congrArg Ending.returned HR.out,FX⟩
set_option maxRecDepth 8000 in
set_option maxHeartbeats 2000000 in
theorem textE (w:World) (hT:Tens w) (hE:ErrTab w) :
  Calls Tryz.prog 111 #[valV 0 false 0 0 []] w fun e w'=>e=.returned (valV 2 false 0 0 [])∧Ext w w':=by
 obtain ⟨R,hR⟩:∃ R,valV 2 false 0 0 []=R:=⟨_,rfl⟩;have HR:Hid (valV 2 false 0 0 []=R):=hR;rw [hR];clear hR;obtain ⟨wa,wb,ha,hb,sa,_,B1,B2,X⟩:=mkB2 w [.int .i64 0,.bool false,.int .i64 0,.int .i64 0,sV []] [.int .i64 0,.bool false,.int .i64 0,.int .i64 0,sV []] 39 39;obtain ⟨a0,a1,a2,a3,a4⟩:=Vec.five B1;go_enter Tryz.func111,Tryz.ntmps111;go_wp2_with fail;clear ha hb sa a0 a1 a2 a3 a4;refine (goodVI 0 false 0 0 [] wb (by decide) (by decide) (by decide) (hT.later X) (hE.later X)).mono ?_;rintro e w1 ⟨rfl,e1⟩;rw [show goodV 0 false 0 0 []=true by decide];have C1:=B1.later e1;have C2:=B2.later e1;have X1:=xt X e1;obtain ⟨a0,a1,a2,a3,a4⟩:=Vec.five C1;go_wp2_with fail;clear a0 a1 a2 a3 a4;refine (textVI [] _).mono ?_;rintro e w2 ⟨rfl,e2⟩;obtain ⟨wy,hy,FX,⟨b0,b1,b2,b3,b4⟩,⟨fb0,fb1,fb2,fb3,fb4⟩,fd0,fd1,fd2,fd3,fd4⟩:=fin5 (C2.later e2) (xt X1 e2) (by omega) (2) (false) (0) (0) ([]);go_wp2_with fail;exact bodyPost_ret (v:=valV 2 false 0 0 []) (by simp [results,Tryz.results111,go_sem,fd0,fd1,fd2,fd3,fd4]) rfl ⟨congrArg Ending.returned HR.out,FX⟩
set_option maxRecDepth 8000 in
set_option maxHeartbeats 2000000 in
theorem boolE (w:World) (hT:Tens w) (hE:ErrTab w) :
  Calls Tryz.prog 112 #[valV 0 false 0 0 []] w fun e w'=>e=.returned (valV 3 false 0 0 falseT)∧Ext w w':=by
 obtain ⟨R,hR⟩:∃ R,valV 3 false 0 0 falseT=R:=⟨_,rfl⟩;have HR:Hid (valV 3 false 0 0 falseT=R):=hR;rw [hR];clear hR;obtain ⟨wa,wb,ha,hb,sa,_,B1,B2,X⟩:=mkB2 w [.int .i64 0,.bool false,.int .i64 0,.int .i64 0,sV []] [.int .i64 0,.bool false,.int .i64 0,.int .i64 0,sV []] 39 39;obtain ⟨a0,a1,a2,a3,a4⟩:=Vec.five B1;go_enter Tryz.func112,Tryz.ntmps112;go_wp2_with fail;clear ha hb sa a0 a1 a2 a3 a4;refine (goodVI 0 false 0 0 [] wb (by decide) (by decide) (by decide) (hT.later X) (hE.later X)).mono ?_;rintro e w1 ⟨rfl,e1⟩;rw [show goodV 0 false 0 0 []=true by decide];have C1:=B1.later e1;have C2:=B2.later e1;have X1:=xt X e1;obtain ⟨a0,a1,a2,a3,a4⟩:=Vec.five C1;go_wp2_with fail;clear a0 a1 a2 a3 a4;refine (boolVI false _).mono ?_;rintro e w2 ⟨rfl,e2⟩;obtain ⟨wy,hy,FX,⟨b0,b1,b2,b3,b4⟩,⟨fb0,fb1,fb2,fb3,fb4⟩,fd0,fd1,fd2,fd3,fd4⟩:=fin5 (C2.later e2) (xt X1 e2) (by omega) (3) (false) (0) (0) (falseT);go_wp2_with fail;exact bodyPost_ret (v:=valV 3 false 0 0 falseT) (by simp [results,Tryz.results112,go_sem,fd0,fd1,fd2,fd3,fd4]) rfl ⟨congrArg Ending.returned HR.out,FX⟩
def besideV (k:Int) (n:Bool) (d x:Int) (t:List UInt8) (k':Int):Value:=
 if k ≠ 0 then valV k n d x t else if k'=1 then valV 1 false 0 0 [] else if k'=2 then valV 2 false 0 0 [] else if k'=3 then valV 3 false 0 0 falseT else valV k n d x t
set_option maxHeartbeats 1000000 in
theorem isErrI (k:Int) (n:Bool) (d x:Int) (t:List UInt8) (w:World) :
  Calls Tryz.prog 46 #[valV k n d x t] w fun e w'=>e=.returned (.bool (decide (k=4)))∧Ext w w':=by
 have X:=x1 w (.cells #[.int .i64 k,.bool n,.int .i64 d,.int .i64 x,sV t] 39);by_cases h:k=4
 ·subst h;go_enter Tryz.func46,Tryz.ntmps46;go_wp2_with fail;go_ret;exact ⟨rfl,X⟩
 ·rw [show decide (k=4)=false by simpa using h];have hb:(k == 4)=false:=by simpa using h
  go_enter Tryz.func46,Tryz.ntmps46;go_wp2_with fail;go_ret;exact ⟨rfl,X⟩
set_option maxRecDepth 8000 in
set_option maxHeartbeats 2000000 in
theorem besideI (k:Int) (n:Bool) (d x:Int) (t:List UInt8) (k':Int) (n':Bool) (d' x':Int) (t':List UInt8) (w:World) (hT:Tens w) (hE:ErrTab w) (hg:goodV k n d x t=true) :
  Calls Tryz.prog 78 #[valV k n d x t,valV k' n' d' x' t'] w fun e w'=>e=.returned (besideV k n d x t k')∧Ext w w':=by
 obtain ⟨R,hR⟩:∃ R,besideV k n d x t k'=R:=⟨_,rfl⟩;have HR0:Hid (besideV k n d x t k'=R):=hR;rw [hR];clear hR;have X1:=x1 w (.cells #[.int .i64 k,.bool n,.int .i64 d,.int .i64 x,sV t] 39);have B1:=vec_made w (valL k n d x t) 39;obtain ⟨wa,ha⟩:∃ wa,w.alloc (.cells #[.int .i64 k,.bool n,.int .i64 d,.int .i64 x,sV t] 39)=wa:=⟨_,rfl⟩;have X2:=x1 wa (.cells #[.int .i64 k',.bool n',.int .i64 d',.int .i64 x',sV t'] 39);have B2:=vec_made wa (valL k' n' d' x' t') 39;obtain ⟨wb,hb⟩:∃ wb,wa.alloc (.cells #[.int .i64 k',.bool n',.int .i64 d',.int .i64 x',sV t'] 39)=wb:=⟨_,rfl⟩;have sa:wa.heap.size=w.heap.size+1:=by rw [← ha,World.size_alloc]
 have sb:wb.heap.size=w.heap.size+1+1:=by rw [← hb,World.size_alloc,sa]
 change Vec (w.alloc (.cells #[.int .i64 k,.bool n,.int .i64 d,.int .i64 x,sV t] 39)) _ _ at B1;change Vec (wa.alloc (.cells #[.int .i64 k',.bool n',.int .i64 d',.int .i64 x',sV t'] 39)) _ _ at B2;rw [ha] at X1 B1;rw [hb] at X2 B2;rw [sa] at B2;have B1:=B1.later X2;have X:=xt X1 X2;have X3:=x1 wb (.cells #[.int .i64 0,.bool false,.int .i64 0,.int .i64 0,sV []] 39);have B3:=vec_made wb (valL 0 false 0 0 []) 39;obtain ⟨wc,hc⟩:∃ wc,wb.alloc (.cells #[.int .i64 0,.bool false,.int .i64 0,.int .i64 0,sV []] 39)=wc:=⟨_,rfl⟩;change Vec (wb.alloc (.cells #[.int .i64 0,.bool false,.int .i64 0,.int .i64 0,sV []] 39)) _ _ at B3;rw [hc] at X3 B3;rw [sb] at B3;have B1:=B1.later X3;have B2:=B2.later X3;have X:=xt X X3;clear X1 X2 X3;obtain ⟨a0,a1,a2,a3,a4⟩:=Vec.five B1;obtain ⟨c0,c1,c2,c3,c4⟩:=Vec.five B2;go_enter Tryz.func78,Tryz.ntmps78;by_cases h0:k=0
 ·subst h0;obtain ⟨rfl,rfl,rfl⟩:=goodV_zero hg (by decide);obtain rfl:=goodV_empty hg;have T1:=hT.later X;have E1:=hE.later X;clear hg hT hE;by_cases h1:k'=1
  ·subst h1;have HR:Hid (valV 1 false 0 0 []=R):=by show _=_;rw [← HR0.out];simp [besideV]
   go_wp2_with fail;clear ha hb hc sa sb a0 a1 a2 a3 a4 c0 c1 c2 c3 c4;refine (numE wc T1 E1).mono ?_;rintro e w2 ⟨rfl,e2⟩;obtain ⟨wy,hy,FX,⟨b0,b1,b2,b3,b4⟩,⟨fb0,fb1,fb2,fb3,fb4⟩,fd0,fd1,fd2,fd3,fd4⟩:=fin5 (B3.later e2) (xt X e2) (by omega) (1) (false) (0) (0) ([]);go_wp2_with fail;exact bodyPost_ret (v:=valV 1 false 0 0 []) (by simp [results,Tryz.results78,go_sem,fd0,fd1,fd2,fd3,fd4]) rfl ⟨congrArg Ending.returned HR.out,FX⟩
  ·by_cases h2:k'=2
   ·subst h2;have HR:Hid (valV 2 false 0 0 []=R):=(by show _=_;rw [← HR0.out];simp [besideV]);go_wp2_with fail;clear ha hb hc sa sb a0 a1 a2 a3 a4 c0 c1 c2 c3 c4;refine (textE wc T1 E1).mono ?_;rintro e w2 ⟨rfl,e2⟩;obtain ⟨wy,hy,FX,⟨b0,b1,b2,b3,b4⟩,⟨fb0,fb1,fb2,fb3,fb4⟩,fd0,fd1,fd2,fd3,fd4⟩:=fin5 (B3.later e2) (xt X e2) (by omega) (2) (false) (0) (0) ([]);go_wp2_with fail;exact bodyPost_ret (v:=valV 2 false 0 0 []) (by simp [results,Tryz.results78,go_sem,fd0,fd1,fd2,fd3,fd4]) rfl ⟨congrArg Ending.returned HR.out,FX⟩
   ·by_cases h3:k'=3
    ·subst h3;have HR:Hid (valV 3 false 0 0 falseT=R):=(by show _=_;rw [← HR0.out];simp [besideV]);go_wp2_with fail;clear ha hb hc sa sb a0 a1 a2 a3 a4 c0 c1 c2 c3 c4;refine (boolE wc T1 E1).mono ?_;rintro e w2 ⟨rfl,e2⟩;obtain ⟨wy,hy,FX,⟨b0,b1,b2,b3,b4⟩,⟨fb0,fb1,fb2,fb3,fb4⟩,fd0,fd1,fd2,fd3,fd4⟩:=fin5 (B3.later e2) (xt X e2) (by omega) (3) (false) (0) (0) (falseT);go_wp2_with fail;exact bodyPost_ret (v:=valV 3 false 0 0 falseT) (by simp [results,Tryz.results78,go_sem,fd0,fd1,fd2,fd3,fd4]) rfl ⟨congrArg Ending.returned HR.out,FX⟩
    ·have HR:Hid (valV 0 false 0 0 []=R):=(by show _=_;rw [← HR0.out];simp [besideV,h1,h2,h3]);obtain ⟨wy,hy,FX,⟨b0,b1,b2,b3,b4⟩,⟨fb0,fb1,fb2,fb3,fb4⟩,fd0,fd1,fd2,fd3,fd4⟩:=fin5 (B3) (X) (by omega) (0) (false) (0) (0) ([]);go_wp2_with fail;exact bodyPost_ret (v:=valV 0 false 0 0 []) (by simp [results,Tryz.results78,go_sem,fd0,fd1,fd2,fd3,fd4]) rfl ⟨congrArg Ending.returned HR.out,FX⟩
 ·have HR:Hid (valV k n d x t=R):=by show _=_;rw [← HR0.out];simp [besideV,h0]
  obtain ⟨wy,hy,FX,⟨b0,b1,b2,b3,b4⟩,⟨fb0,fb1,fb2,fb3,fb4⟩,fd0,fd1,fd2,fd3,fd4⟩:=fin5 (B3) (X) (by omega) (k) (n) (d) (x) (t);go_wp2_with fail;exact bodyPost_ret (v:=valV k n d x t) (by simp [results,Tryz.results78,go_sem,fd0,fd1,fd2,fd3,fd4]) rfl ⟨congrArg Ending.returned HR.out,FX⟩
set_option maxRecDepth 8000 in
set_option maxHeartbeats 2000000 in
theorem likeS (k:Int) (n:Bool) (d x:Int) (t:List UInt8) (k':Int) (n':Bool) (d' x':Int) (t':List UInt8) (w:World)  :
  Calls Tryz.prog 73 #[valV k n d x t,valV k' n' d' x' t'] w fun e w'=>e=.returned (besideV k n d x t k')∧Ext w w':=by
 obtain ⟨R,hR⟩:∃ R,besideV k n d x t k'=R:=⟨_,rfl⟩;have HR0:Hid (besideV k n d x t k'=R):=hR;rw [hR];clear hR;have X1:=x1 w (.cells #[.int .i64 k,.bool n,.int .i64 d,.int .i64 x,sV t] 39);have B1:=vec_made w (valL k n d x t) 39;obtain ⟨wa,ha⟩:∃ wa,w.alloc (.cells #[.int .i64 k,.bool n,.int .i64 d,.int .i64 x,sV t] 39)=wa:=⟨_,rfl⟩;have X2:=x1 wa (.cells #[.int .i64 k',.bool n',.int .i64 d',.int .i64 x',sV t'] 39);have B2:=vec_made wa (valL k' n' d' x' t') 39;obtain ⟨wb,hb⟩:∃ wb,wa.alloc (.cells #[.int .i64 k',.bool n',.int .i64 d',.int .i64 x',sV t'] 39)=wb:=⟨_,rfl⟩;have sa:wa.heap.size=w.heap.size+1:=by rw [← ha,World.size_alloc]
 have sb:wb.heap.size=w.heap.size+1+1:=by rw [← hb,World.size_alloc,sa]
 change Vec (w.alloc (.cells #[.int .i64 k,.bool n,.int .i64 d,.int .i64 x,sV t] 39)) _ _ at B1;change Vec (wa.alloc (.cells #[.int .i64 k',.bool n',.int .i64 d',.int .i64 x',sV t'] 39)) _ _ at B2;rw [ha] at X1 B1;rw [hb] at X2 B2;rw [sa] at B2;have B1:=B1.later X2;have X:=xt X1 X2;have X3:=x1 wb (.cells #[.int .i64 0,.bool false,.int .i64 0,.int .i64 0,sV []] 39);have B3:=vec_made wb (valL 0 false 0 0 []) 39;obtain ⟨wc,hc⟩:∃ wc,wb.alloc (.cells #[.int .i64 0,.bool false,.int .i64 0,.int .i64 0,sV []] 39)=wc:=⟨_,rfl⟩;change Vec (wb.alloc (.cells #[.int .i64 0,.bool false,.int .i64 0,.int .i64 0,sV []] 39)) _ _ at B3;rw [hc] at X3 B3;rw [sb] at B3;have B1:=B1.later X3;have B2:=B2.later X3;have X:=xt X X3;clear X1 X2 X3;obtain ⟨a0,a1,a2,a3,a4⟩:=Vec.five B1;obtain ⟨c0,c1,c2,c3,c4⟩:=Vec.five B2;go_enter Tryz.func73,Tryz.ntmps73;by_cases h0:k=0
 ·subst h0;by_cases h1:k'=1
  ·subst h1;have HR:Hid (valV 1 false 0 0 []=R):=by show _=_;rw [← HR0.out];simp [besideV]
   go_wp2_with fail;clear ha hb hc sa sb a0 a1 a2 a3 a4 c0 c1 c2 c3 c4;refine (numVS false 0 0 wc).mono ?_;rintro e w2 ⟨rfl,e2⟩;obtain ⟨wy,hy,FX,⟨b0,b1,b2,b3,b4⟩,⟨fb0,fb1,fb2,fb3,fb4⟩,fd0,fd1,fd2,fd3,fd4⟩:=fin5 (B3.later e2) (xt X e2) (by omega) (1) (false) (0) (0) ([]);go_wp2_with fail;exact bodyPost_ret (v:=valV 1 false 0 0 []) (by simp [results,Tryz.results73,go_sem,fd0,fd1,fd2,fd3,fd4]) rfl ⟨congrArg Ending.returned HR.out,FX⟩
  ·by_cases h2:k'=2
   ·subst h2;have HR:Hid (valV 2 false 0 0 []=R):=(by show _=_;rw [← HR0.out];simp [besideV]);go_wp2_with fail;clear ha hb hc sa sb a0 a1 a2 a3 a4 c0 c1 c2 c3 c4;refine (textVS [] wc).mono ?_;rintro e w2 ⟨rfl,e2⟩;obtain ⟨wy,hy,FX,⟨b0,b1,b2,b3,b4⟩,⟨fb0,fb1,fb2,fb3,fb4⟩,fd0,fd1,fd2,fd3,fd4⟩:=fin5 (B3.later e2) (xt X e2) (by omega) (2) (false) (0) (0) ([]);go_wp2_with fail;exact bodyPost_ret (v:=valV 2 false 0 0 []) (by simp [results,Tryz.results73,go_sem,fd0,fd1,fd2,fd3,fd4]) rfl ⟨congrArg Ending.returned HR.out,FX⟩
   ·by_cases h3:k'=3
    ·subst h3;have HR:Hid (valV 3 false 0 0 falseT=R):=(by show _=_;rw [← HR0.out];simp [besideV]);go_wp2_with fail;clear ha hb hc sa sb a0 a1 a2 a3 a4 c0 c1 c2 c3 c4;refine (boolVS false wc).mono ?_;rintro e w2 ⟨rfl,e2⟩;obtain ⟨wy,hy,FX,⟨b0,b1,b2,b3,b4⟩,⟨fb0,fb1,fb2,fb3,fb4⟩,fd0,fd1,fd2,fd3,fd4⟩:=fin5 (B3.later e2) (xt X e2) (by omega) (3) (false) (0) (0) (falseT);go_wp2_with fail;exact bodyPost_ret (v:=valV 3 false 0 0 falseT) (by simp [results,Tryz.results73,go_sem,fd0,fd1,fd2,fd3,fd4]) rfl ⟨congrArg Ending.returned HR.out,FX⟩
    ·have HR:Hid (valV 0 n d x t=R):=(by show _=_;rw [← HR0.out];simp [besideV,h1,h2,h3]);obtain ⟨wy,hy,FX,⟨b0,b1,b2,b3,b4⟩,⟨fb0,fb1,fb2,fb3,fb4⟩,fd0,fd1,fd2,fd3,fd4⟩:=fin5 (B3) (X) (by omega) (0) (n) (d) (x) (t);go_wp2_with fail;exact bodyPost_ret (v:=valV 0 n d x t) (by simp [results,Tryz.results73,go_sem,fd0,fd1,fd2,fd3,fd4]) rfl ⟨congrArg Ending.returned HR.out,FX⟩
 ·have HR:Hid (valV k n d x t=R):=by show _=_;rw [← HR0.out];simp [besideV,h0]
  obtain ⟨wy,hy,FX,⟨b0,b1,b2,b3,b4⟩,⟨fb0,fb1,fb2,fb3,fb4⟩,fd0,fd1,fd2,fd3,fd4⟩:=fin5 (B3) (X) (by omega) (k) (n) (d) (x) (t);go_wp2_with fail;exact bodyPost_ret (v:=valV k n d x t) (by simp [results,Tryz.results73,go_sem,fd0,fd1,fd2,fd3,fd4]) rfl ⟨congrArg Ending.returned HR.out,FX⟩
end Go.Proofs.YtiaakhogigddbaaGreatDoor

