import Derived.Test.YteliaeejooekbaaGreatDoorProg
import Derived.WalkKit
import Derived.WalkSpells
import Derived.WalkLawsBesides
set_option maxRecDepth 8000
namespace Go.Proofs.YteliaeejooekbaaGreatDoor
open Go.RowKit
abbrev Ext (w w':World):Prop:=Below w.heap.size w w'
theorem _root_.Go.Calls.to {P:Program} {f:FuncId} {a:Array Value} {w:World} {v:Value} {Q:Ending->World->Prop} (h:Calls P f a w fun e w'=>e=.returned v/\Ext w w') (k:∀ w',Ext w w'->Q (.returned v) w'):Calls P f a w Q:=h.mono fun _ w' q=>q.1 ▸ k w' q.2
theorem nm {α:Sort _} (a:α):∃ x,a=x:=⟨a,rfl⟩
abbrev iQ (n:Int):Value:=.int .i64 n
theorem xr (w:World):Ext w w:=Below.refl _ _
theorem xt {a b c:World} (h:Ext a b) (k:Ext b c):Ext a c:=h.trans (k.mono h.size)
theorem xa {a b:World} (h:Ext a b) (o:Obj):Ext a (b.alloc o):=h.alloc h.size o
theorem xd {a b:World} (h:Ext a b):Ext a b.drew:=h.drew
theorem x1 (w:World) (o:Obj):Ext w (w.alloc o):=xa (xr w) o
theorem zA1 {a b:Bool} (h:a=b):Ending.returned (.bool a)=.returned (.bool b):=by rw [h]
theorem zAK {k:IntKind} {a b:Int} (h:a=b):Ending.returned (.int k a)=.returned (.int k b):=by rw [h]
theorem xset {a b:World} (h:Ext a b) {p:Addr} (hp:a.heap.size<=p.block) (u:Value):Ext a (b.setCell p u):=h.setCell hp u
theorem zB0 {w w1:World} (hb:Ext w w1) {p:Addr} {v:Value} (h:w.cell? p=some v) (hf:w.frozen? p=false):w1.frozen? p=false:=
 (hb.frozen (World.block_lt_of_cell? _ _ h)).trans hf
def Box3 (w:World) (b:Nat) (v0 v1 v2:Value):Prop:=(w.cell? ⟨b,0,none⟩=some v0/\w.cell? ⟨b,1,none⟩=some v1/\w.cell? ⟨b,2,none⟩=some v2)/\w.frozen? ⟨b,0,none⟩=false/\w.frozen? ⟨b,1,none⟩=false/\w.frozen? ⟨b,2,none⟩=false
def Box4 (w:World) (b:Nat) (v0 v1 v2 v3:Value):Prop:=(w.cell? ⟨b,0,none⟩=some v0/\w.cell? ⟨b,1,none⟩=some v1/\w.cell? ⟨b,2,none⟩=some v2/\w.cell? ⟨b,3,none⟩=some v3)/\w.frozen? ⟨b,0,none⟩=false/\w.frozen? ⟨b,1,none⟩=false/\w.frozen? ⟨b,2,none⟩=false/\w.frozen? ⟨b,3,none⟩=false
theorem Box3.made (w:World) (v0 v1 v2:Value) (t:TypeId):Box3 (w.alloc (.cells #[v0,v1,v2] t)) w.heap.size v0 v1 v2:=by
 refine ⟨⟨?_,?_,?_⟩,?_,?_,?_⟩ <;> simp [go_sem]
theorem Box4.made (w:World) (v0 v1 v2 v3:Value) (t:TypeId):Box4 (w.alloc (.cells #[v0,v1,v2,v3] t)) w.heap.size v0 v1 v2 v3:=by
 refine ⟨⟨?_,?_,?_,?_⟩,?_,?_,?_,?_⟩ <;> simp [go_sem]
theorem Box3.l {w w1:World} {b:Nat} {v0 v1 v2:Value} (h:Box3 w b v0 v1 v2) (hb:Ext w w1):Box3 w1 b v0 v1 v2:=
 ⟨⟨cell_later hb h.1.1,cell_later hb h.1.2.1,cell_later hb h.1.2.2⟩,zB0 hb h.1.1 h.2.1,zB0 hb h.1.2.1 h.2.2.1,zB0 hb h.1.2.2 h.2.2.2⟩
theorem Box4.l {w w1:World} {b:Nat} {v0 v1 v2 v3:Value} (h:Box4 w b v0 v1 v2 v3) (hb:Ext w w1):Box4 w1 b v0 v1 v2 v3:=
 ⟨⟨cell_later hb h.1.1,cell_later hb h.1.2.1,cell_later hb h.1.2.2.1,cell_later hb h.1.2.2.2⟩,zB0 hb h.1.1 h.2.1,zB0 hb h.1.2.1 h.2.2.1,zB0 hb h.1.2.2.1 h.2.2.2.1,zB0 hb h.1.2.2.2 h.2.2.2.2⟩
abbrev decV (neg:Bool) (d x:Int):Value:=.agg #[.bool neg,iQ d,iQ x]
end Go.Proofs.YteliaeejooekbaaGreatDoor
