/-
  The cells of a row, all at once.
-/
import Derived.Test.YteliaeejooekbaaGreatDoorMg1
import Derived.Test.YteliaeejooekbaaGreatDoorMg20
set_option maxRecDepth 8000
namespace Go.Proofs.YteliaeejooekbaaGreatDoor
open Go.RowKit
theorem Vec.c14 {w:World} {b:Nat} {c0 c1 c2 c3 c4 c5 c6 c7 c8 c9 c10 c11 c12 c13:Value} {l:List Value} (h:Vec w b (c0 :: c1 :: c2 :: c3 :: c4 :: c5 :: c6 :: c7 :: c8 :: c9 :: c10 :: c11 :: c12 :: c13 :: l)):w.cell? ⟨b,0,none⟩=some c0/\w.cell? ⟨b,1,none⟩=some c1/\w.cell? ⟨b,2,none⟩=some c2/\w.cell? ⟨b,3,none⟩=some c3/\w.cell? ⟨b,4,none⟩=some c4/\w.cell? ⟨b,5,none⟩=some c5/\w.cell? ⟨b,6,none⟩=some c6/\w.cell? ⟨b,7,none⟩=some c7/\w.cell? ⟨b,8,none⟩=some c8/\w.cell? ⟨b,9,none⟩=some c9/\w.cell? ⟨b,10,none⟩=some c10/\w.cell? ⟨b,11,none⟩=some c11/\w.cell? ⟨b,12,none⟩=some c12/\w.cell? ⟨b,13,none⟩=some c13:=
 ⟨(h 0 _ rfl).1,(h 1 _ rfl).1,(h 2 _ rfl).1,(h 3 _ rfl).1,(h 4 _ rfl).1,(h 5 _ rfl).1,(h 6 _ rfl).1,(h 7 _ rfl).1,(h 8 _ rfl).1,(h 9 _ rfl).1,(h 10 _ rfl).1,(h 11 _ rfl).1,(h 12 _ rfl).1,(h 13 _ rfl).1⟩
theorem Vec.e14 {w:World} {b:Nat} {c0 c1 c2 c3 c4 c5 c6 c7 c8 c9 c10 c11 c12 c13:Value} {l:List Value} (h:Vec w b (c0 :: c1 :: c2 :: c3 :: c4 :: c5 :: c6 :: c7 :: c8 :: c9 :: c10 :: c11 :: c12 :: c13 :: l)):(∀ p:ExtW w,p.wld.cell? ⟨b,0,none⟩=some c0)/\(∀ p:ExtW w,p.wld.cell? ⟨b,1,none⟩=some c1)/\(∀ p:ExtW w,p.wld.cell? ⟨b,2,none⟩=some c2)/\(∀ p:ExtW w,p.wld.cell? ⟨b,3,none⟩=some c3)/\(∀ p:ExtW w,p.wld.cell? ⟨b,4,none⟩=some c4)/\(∀ p:ExtW w,p.wld.cell? ⟨b,5,none⟩=some c5)/\(∀ p:ExtW w,p.wld.cell? ⟨b,6,none⟩=some c6)/\(∀ p:ExtW w,p.wld.cell? ⟨b,7,none⟩=some c7)/\(∀ p:ExtW w,p.wld.cell? ⟨b,8,none⟩=some c8)/\(∀ p:ExtW w,p.wld.cell? ⟨b,9,none⟩=some c9)/\(∀ p:ExtW w,p.wld.cell? ⟨b,10,none⟩=some c10)/\(∀ p:ExtW w,p.wld.cell? ⟨b,11,none⟩=some c11)/\(∀ p:ExtW w,p.wld.cell? ⟨b,12,none⟩=some c12)/\(∀ p:ExtW w,p.wld.cell? ⟨b,13,none⟩=some c13):=
 ⟨fun p=>(h.l p.ext 0 _ rfl).1,fun p=>(h.l p.ext 1 _ rfl).1,fun p=>(h.l p.ext 2 _ rfl).1,fun p=>(h.l p.ext 3 _ rfl).1,fun p=>(h.l p.ext 4 _ rfl).1,fun p=>(h.l p.ext 5 _ rfl).1,fun p=>(h.l p.ext 6 _ rfl).1,fun p=>(h.l p.ext 7 _ rfl).1,fun p=>(h.l p.ext 8 _ rfl).1,fun p=>(h.l p.ext 9 _ rfl).1,fun p=>(h.l p.ext 10 _ rfl).1,fun p=>(h.l p.ext 11 _ rfl).1,fun p=>(h.l p.ext 12 _ rfl).1,fun p=>(h.l p.ext 13 _ rfl).1⟩
end Go.Proofs.YteliaeejooekbaaGreatDoor

