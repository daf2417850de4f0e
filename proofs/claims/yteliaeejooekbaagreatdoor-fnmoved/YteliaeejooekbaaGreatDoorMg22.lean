import Derived.Test.YteliaeejooekbaaGreatDoorBase
import Derived.BigQuiet
import Derived.Test.YteliaeejooekbaaGreatDoorMg1
set_option maxRecDepth 8000
namespace Go.Proofs.YteliaeejooekbaaGreatDoor
open Go.RowKit
structure ExtW (w:World) where
 wld:World
 ext:Ext w wld
instance (w:World):Nonempty (ExtW w):=⟨⟨w,xr w⟩⟩
theorem zA2 {P:Program} {id:Nat} {Q:Exit->Act->World->Prop} {a:Act} {w:World} {l:List Oper} (hm:P.follows .mixedOrders=true) (hB:Region.lexB .any l.toArray=true)
  (h:wpQuiet P l.toArray (fun w'=>∃ p:ExtW w,w'=p.wld) (fun a'=>∀ w',(∃ p:ExtW w,w'=p.wld)->Q .normal a' w') l a):(Code.region id l.toArray true).wp P Q a w:=
 wp_region_quiet (C:=fun w'=>∃ p:ExtW w,w'=p.wld) hm hB ⟨⟨_,xd (xr w)⟩,rfl⟩ (by simpa using h)
theorem zA6 {P:Program} {f:FuncId} {args:Array Value} {w:World} {p:ExtW w} {v:Value} (h:Calls P f args p.wld fun e w'=>e=.returned v/\Ext p.wld w') :
  Calls P f args p.wld fun e w''=>e=.returned v/\∃ q:ExtW w,w''=q.wld:=
 h.mono fun _ w' ⟨he,X⟩=>⟨he,⟨w',xt p.ext X⟩,rfl⟩
theorem zA7 {P:Program} {ops:Array Oper} {Q:Exit->Act->World->Prop} {a:Act} {w:World} (h:∀ w',Ext w w'->Q .normal a w') :
  wpQuiet P ops (fun w'=>∃ p:ExtW w,w'=p.wld) (fun a'=>∀ w',(∃ p:ExtW w,w'=p.wld)->Q .normal a' w') [] a:=
 wpQuiet_nil (by rintro _ ⟨p,rfl⟩;exact h p.wld p.ext)
theorem Vec.c14 {w:World} {b:Nat} {c0 c1 c2 c3 c4 c5 c6 c7 c8 c9 c10 c11 c12 c13:Value} {l:List Value} (h:Vec w b (c0 :: c1 :: c2 :: c3 :: c4 :: c5 :: c6 :: c7 :: c8 :: c9 :: c10 :: c11 :: c12 :: c13 :: l)):w.cell? ⟨b,0,none⟩=some c0/\w.cell? ⟨b,1,none⟩=some c1/\w.cell? ⟨b,2,none⟩=some c2/\w.cell? ⟨b,3,none⟩=some c3/\w.cell? ⟨b,4,none⟩=some c4/\w.cell? ⟨b,5,none⟩=some c5/\w.cell? ⟨b,6,none⟩=some c6/\w.cell? ⟨b,7,none⟩=some c7/\w.cell? ⟨b,8,none⟩=some c8/\w.cell? ⟨b,9,none⟩=some c9/\w.cell? ⟨b,10,none⟩=some c10/\w.cell? ⟨b,11,none⟩=some c11/\w.cell? ⟨b,12,none⟩=some c12/\w.cell? ⟨b,13,none⟩=some c13:=
 ⟨(h 0 _ rfl).1,(h 1 _ rfl).1,(h 2 _ rfl).1,(h 3 _ rfl).1,(h 4 _ rfl).1,(h 5 _ rfl).1,(h 6 _ rfl).1,(h 7 _ rfl).1,(h 8 _ rfl).1,(h 9 _ rfl).1,(h 10 _ rfl).1,(h 11 _ rfl).1,(h 12 _ rfl).1,(h 13 _ rfl).1⟩
theorem Vec.e14 {w:World} {b:Nat} {c0 c1 c2 c3 c4 c5 c6 c7 c8 c9 c10 c11 c12 c13:Value} {l:List Value} (h:Vec w b (c0 :: c1 :: c2 :: c3 :: c4 :: c5 :: c6 :: c7 :: c8 :: c9 :: c10 :: c11 :: c12 :: c13 :: l)):(∀ p:ExtW w,p.wld.cell? ⟨b,0,none⟩=some c0)/\(∀ p:ExtW w,p.wld.cell? ⟨b,1,none⟩=some c1)/\(∀ p:ExtW w,p.wld.cell? ⟨b,2,none⟩=some c2)/\(∀ p:ExtW w,p.wld.cell? ⟨b,3,none⟩=some c3)/\(∀ p:ExtW w,p.wld.cell? ⟨b,4,none⟩=some c4)/\(∀ p:ExtW w,p.wld.cell? ⟨b,5,none⟩=some c5)/\(∀ p:ExtW w,p.wld.cell? ⟨b,6,none⟩=some c6)/\(∀ p:ExtW w,p.wld.cell? ⟨b,7,none⟩=some c7)/\(∀ p:ExtW w,p.wld.cell? ⟨b,8,none⟩=some c8)/\(∀ p:ExtW w,p.wld.cell? ⟨b,9,none⟩=some c9)/\(∀ p:ExtW w,p.wld.cell? ⟨b,10,none⟩=some c10)/\(∀ p:ExtW w,p.wld.cell? ⟨b,11,none⟩=some c11)/\(∀ p:ExtW w,p.wld.cell? ⟨b,12,none⟩=some c12)/\(∀ p:ExtW w,p.wld.cell? ⟨b,13,none⟩=some c13):=
 ⟨fun p=>(h.l p.ext 0 _ rfl).1,fun p=>(h.l p.ext 1 _ rfl).1,fun p=>(h.l p.ext 2 _ rfl).1,fun p=>(h.l p.ext 3 _ rfl).1,fun p=>(h.l p.ext 4 _ rfl).1,fun p=>(h.l p.ext 5 _ rfl).1,fun p=>(h.l p.ext 6 _ rfl).1,fun p=>(h.l p.ext 7 _ rfl).1,fun p=>(h.l p.ext 8 _ rfl).1,fun p=>(h.l p.ext 9 _ rfl).1,fun p=>(h.l p.ext 10 _ rfl).1,fun p=>(h.l p.ext 11 _ rfl).1,fun p=>(h.l p.ext 12 _ rfl).1,fun p=>(h.l p.ext 13 _ rfl).1⟩
end Go.Proofs.YteliaeejooekbaaGreatDoor
