/-
  Chapter 5: the program's TurnFormula.
-/
import Derived.Test.YtnbagcclckekkaaGreatDoorMg41
namespace Go.Proofs.YtnbagcclckekkaaGreatDoor
open Go.RowKit
theorem hi8T:(Tryz.prog.info? 45).map (·.size)=some 8:=by kernel_rfl
theorem rwPostB_nil {w w':World} (x:Ext w w'):RwPostB [] w (.returned (.slice none 0 0)) w':=⟨.slice none 0 0,0,rfl,⟨rfl,none,0,rfl,Nat.le_refl _,fun h=>absurd h (by simp)⟩,fun h=>absurd h (by simp),x⟩
theorem RwPostB.ext {l:List NT} {w w1 w2:World} {e:Ending} (h:RwPostB l w1 e w2) (x:Ext w w1):RwPostB l w e w2:=by
 obtain ⟨v,g,h1,h2,h3,h4⟩:=h;exact ⟨v,g,h1,h2,fun h=>⟨Nat.le_trans x.size (h3 h).1,(h3 h).2⟩,xt x h4⟩
end Go.Proofs.YtnbagcclckekkaaGreatDoor

