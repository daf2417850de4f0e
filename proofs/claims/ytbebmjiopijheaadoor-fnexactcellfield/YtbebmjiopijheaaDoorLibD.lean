/-
  What strings.Repeat and strconv.Itoa give, as the walks take it.
-/
import Derived.Test.YtbebmjiopijheaaDoorBase
import Derived.Lib.ItoaNum
namespace Go.Proofs.YtbebmjiopijheaaDoor
open Go.RowKit

def RepC : Prop := ∀ (c : Int) (w : World), 0 ≤ c → c ≤ 1000 → Calls Tryd.prog 13 #[.string ⟨#[48]⟩, .int .i64 c] w fun e w' => ∃ s, e = .returned (.string s) ∧ s.data.toList = List.replicate c.toNat 48 ∧ Ext w w'
def ItoaC (w0 : World) : Prop := ∀ (n : Int) (w : World), -1000000000000000 < n → n < 1000000000000000 → Ext w0 w → Calls Tryd.prog 48 #[.int .i64 n] w fun e w' => ∃ s, e = .returned (.string s) ∧ s.data.toList = Lib.itoa n ∧ Ext w w'

end Go.Proofs.YtbebmjiopijheaaDoor

