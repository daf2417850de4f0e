/-
  Texts in order: the three answers of a comparison.
-/
import Derived.Test.YtiaakhogigddbaaGreatDoorMg0
import Derived.Lib.Bytealg
namespace Go.Proofs.YtiaakhogigddbaaGreatDoor
open Go.RowKit
theorem cmp_three:∀ a b:List UInt8,Lib.compareBytes a b = -1∨Lib.compareBytes a b=0∨Lib.compareBytes a b=1
 | [],[]=>Or.inr (Or.inl rfl)
 | [],_ :: _=>Or.inl rfl
 | _ :: _,[]=>Or.inr (Or.inr rfl)
 | a :: x,b :: y=>by
  unfold Lib.compareBytes
  split
  ·exact Or.inl rfl
  ·split
   ·exact Or.inr (Or.inr rfl)
   ·exact cmp_three x y
theorem cmp_less:∀ a b:List UInt8,Op.bytesLess a b=decide (Lib.compareBytes a b = -1)
 | [],[]=>rfl
 | [],_ :: _=>rfl
 | _ :: _,[]=>rfl
 | a :: x,b :: y=>by
  unfold Lib.compareBytes Op.bytesLess;have ih:=cmp_less x y;by_cases h:a<b
  ·simp [h]
  ·by_cases h2:b<a
   ·have:¬ a=b:=fun e=>(by subst e;exact absurd h2 (UInt8.lt_irrefl a));simp [h,h2,this]
   ·have e:a=b:=UInt8.le_antisymm (UInt8.not_lt.1 h2) (UInt8.not_lt.1 h);subst e;simp [UInt8.lt_irrefl,ih]
theorem cmp_same:∀ a b:List UInt8,(a == b)=decide (Lib.compareBytes a b=0)
 | [],[]=>rfl
 | [],_ :: _=>rfl
 | _ :: _,[]=>rfl
 | a :: x,b :: y=>by
  unfold Lib.compareBytes;have ih:=cmp_same x y;by_cases h:a<b
  ·have:¬ a=b:=fun e=>by subst e;exact absurd h (UInt8.lt_irrefl a)
   simp [h,this]
  ·by_cases h2:b<a
   ·have:¬ a=b:=fun e=>(by subst e;exact absurd h2 (UInt8.lt_irrefl a));simp [h,h2,this]
   ·have e:a=b:=UInt8.le_antisymm (UInt8.not_lt.1 h2) (UInt8.not_lt.1 h);subst e;rw [if_neg (UInt8.lt_irrefl a),if_neg (UInt8.lt_irrefl a),← ih];simp
end Go.Proofs.YtiaakhogigddbaaGreatDoor

