import Derived.Test.YteliaeejooekbaaGreatDoorMg1
import Derived.Laws.IdiomStrings
import Derived.BigQuiet
import Derived.Deep.RegionHeld3
import Derived.Deep.QuietTactic
set_option maxRecDepth 8000
namespace Go.Proofs.YteliaeejooekbaaGreatDoor
open Go.RowKit
def Turned (g:Nat) (w w':World):Prop:=(∀ a,Ext a w->a.heap.size<=g->Ext a w')/\∀ b L,b ≠ g->Vec w b L->Vec w' b L
theorem Turned.step {g:Nat} {w w1 w2:World} (h:Turned g w w1) (x:Ext w1 w2):Turned g w w2:=⟨fun a ha hg=>xt (h.1 a ha hg) x,fun b L hb hL=>(h.2 b L hb hL).l x⟩
structure TurnedIn (lo hi:Nat) (w w':World):Prop where
 ext:∀ a,Ext a w->a.heap.size<=lo->Ext a w'
 vec:∀ b L,(b<lo\/hi<=b)->Vec w b L->Vec w' b L
 size:w.heap.size<=w'.heap.size
 cell:∀ (a:Addr) (u:Value),(a.block<lo\/hi<=a.block)->w.cell? a=some u->w'.cell? a=some u
 froz:∀ (a:Addr) (u:Value),(a.block<lo\/hi<=a.block)->w.cell? a=some u->w.frozen? a=false->w'.frozen? a=false
end Go.Proofs.YteliaeejooekbaaGreatDoor
