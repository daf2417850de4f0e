/-
  Several texts in one: Base, BaseT, Good, Wide, WideB, WideC, WideD.
-/
import Derived.Test.YtnphbpmdohidcaaDoorProg
import Derived.WalkKit
import Derived.WalkSpells
import Derived.WalkLawsBesides
import Derived.Shelf.Bits.Mul64
import Derived.Deep.QuietTactic
import Derived.BigQuiet
import Derived.Deep.RegionWith
namespace Go.Proofs.YtnphbpmdohidcaaDoor
open Go.RowKit
abbrev Ext (w w':World):Prop:=Below w.heap.size w w'
theorem xr (w:World):Ext w w:=Below.refl _ _
theorem xt {a b c:World} (h:Ext a b) (k:Ext b c):Ext a c:=h.trans (k.mono h.size)
theorem xa {a b:World} (h:Ext a b) (o:Obj):Ext a (b.alloc o):=h.alloc h.size o
theorem xd {a b:World} (h:Ext a b):Ext a b.drew:=h.drew
theorem x1 (w:World) (o:Obj):Ext w (w.alloc o):=xa (xr w) o
theorem ret_bool {a b:Bool} (h:a=b):Ending.returned (.bool a)=.returned (.bool b):=by rw [h]
theorem ret_int {k:IntKind} {a b:Int} (h:a=b):Ending.returned (.int k a)=.returned (.int k b):=by rw [h]
theorem xset {a b:World} (h:Ext a b) {p:Addr} (hp:a.heap.size≤p.block) (u:Value):Ext a (b.setCell p u):=h.setCell hp u
theorem frozen_later {w w1:World} (hb:Ext w w1) {p:Addr} {v:Value} (h:w.cell? p=some v) (hf:w.frozen? p=false):w1.frozen? p=false:=
 (hb.frozen (World.block_lt_of_cell? _ _ h)).trans hf
def Box3 (w:World) (b:Nat) (v0 v1 v2:Value):Prop:=(w.cell? ⟨b,0,none⟩=some v0∧w.cell? ⟨b,1,none⟩=some v1∧w.cell? ⟨b,2,none⟩=some v2)∧w.frozen? ⟨b,0,none⟩=false∧w.frozen? ⟨b,1,none⟩=false∧w.frozen? ⟨b,2,none⟩=false
def Box4 (w:World) (b:Nat) (v0 v1 v2 v3:Value):Prop:=(w.cell? ⟨b,0,none⟩=some v0∧w.cell? ⟨b,1,none⟩=some v1∧w.cell? ⟨b,2,none⟩=some v2∧w.cell? ⟨b,3,none⟩=some v3)∧w.frozen? ⟨b,0,none⟩=false∧w.frozen? ⟨b,1,none⟩=false∧w.frozen? ⟨b,2,none⟩=false∧w.frozen? ⟨b,3,none⟩=false
theorem Box3.made (w:World) (v0 v1 v2:Value) (t:TypeId):Box3 (w.alloc (.cells #[v0,v1,v2] t)) w.heap.size v0 v1 v2:=by
 refine ⟨⟨?_,?_,?_⟩,?_,?_,?_⟩ <;> simp [go_sem]
theorem Box4.made (w:World) (v0 v1 v2 v3:Value) (t:TypeId):Box4 (w.alloc (.cells #[v0,v1,v2,v3] t)) w.heap.size v0 v1 v2 v3:=by
 refine ⟨⟨?_,?_,?_,?_⟩,?_,?_,?_,?_⟩ <;> simp [go_sem]
theorem Box3.later {w w1:World} {b:Nat} {v0 v1 v2:Value} (h:Box3 w b v0 v1 v2) (hb:Ext w w1):Box3 w1 b v0 v1 v2:=
 ⟨⟨cell_later hb h.1.1,cell_later hb h.1.2.1,cell_later hb h.1.2.2⟩,frozen_later hb h.1.1 h.2.1,frozen_later hb h.1.2.1 h.2.2.1,frozen_later hb h.1.2.2 h.2.2.2⟩
theorem Box4.later {w w1:World} {b:Nat} {v0 v1 v2 v3:Value} (h:Box4 w b v0 v1 v2 v3) (hb:Ext w w1):Box4 w1 b v0 v1 v2 v3:=
 ⟨⟨cell_later hb h.1.1,cell_later hb h.1.2.1,cell_later hb h.1.2.2.1,cell_later hb h.1.2.2.2⟩,frozen_later hb h.1.1 h.2.1,frozen_later hb h.1.2.1 h.2.2.1,frozen_later hb h.1.2.2.1 h.2.2.2.1,frozen_later hb h.1.2.2.2 h.2.2.2.2⟩
abbrev decV (neg:Bool) (d x:Int):Value:=.agg #[.bool neg,.int .i64 d,.int .i64 x]
def Tens (w:World):Prop:=∀ i:Nat,i<20→w.cell? ⟨0,i,none⟩=some (.int .u64 ((10 ^ i:Nat):Int))
theorem Tens.later {w w1:World} (h:Tens w) (hb:Ext w w1):Tens w1:=fun i hi=>cell_later hb (h i hi)
theorem Tens.at15 {w:World} (h:Tens w):w.cell? ⟨0,15,none⟩=some (.int .u64 1000000000000000):=h 15 (by decide)
def goodB (neg:Bool) (d x:Int):Bool:=
 if d=0 then (!neg && decide (x=0)) else decide (0<d∧d<1000000000000000∧d % 10 ≠ 0 ∧ -300≤x∧x≤300)
set_option maxHeartbeats 400000 in
theorem goodI (neg:Bool) (d x:Int) (w:World) (h1 : -9223372036854775808≤d) (h2:d≤9223372036854775807) (hT:Tens w) :
  Calls Tryd.prog 40 #[.agg #[.bool neg,.int .i64 d,.int .i64 x]] w fun e w'=>e=.returned (.bool (goodB neg d x))∧Ext w w':=by
 have hT':=fun o=>Lib.cell?_alloc_some o hT.at15;clear hT;go_enter Tryd.func40,Tryd.ntmps40
 go_wp2
 all_goals go_ret
 all_goals refine ⟨ret_bool ?_,?_⟩
 all_goals first | exact x1 _ _ | skip
 all_goals clear hT'
 all_goals simp_all [goodB]
 all_goals (intros;omega)
set_option maxHeartbeats 400000 in
theorem goodS (neg:Bool) (d x:Int) (w:World) :
  Calls Tryd.prog 45 #[.agg #[.bool neg,.int .i64 d,.int .i64 x]] w fun e w'=>e=.returned (.bool (goodB neg d x))∧Ext w w':=by
 go_enter Tryd.func45,Tryd.ntmps45
 go_wp2
 all_goals go_ret
 all_goals refine ⟨ret_bool ?_,?_⟩
 all_goals first | exact x1 _ _ | skip
 all_goals simp_all [goodB]
 all_goals (intros;omega)
end Go.Proofs.YtnphbpmdohidcaaDoor

