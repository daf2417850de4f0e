/-
  Several texts in one: Rpd, Rb.
-/
import Derived.Test.YtogecaajnjcenaaGreatDoorMg35
import Derived.Test.YtogecaajnjcenaaGreatDoorSheld
import Derived.WalkSmall
import Derived.Lib.LaidTab
import Derived.Test.YtogecaajnjcenaaGreatDoorRt
import Derived.Test.YtogecaajnjcenaaGreatDoorMg11
import Derived.Deep.DeepCutAuto
namespace Go.Proofs.YtogecaajnjcenaaGreatDoor
open Go.RowKit
theorem shelfExtra:Builder.Extra Tryz.prog layRepeat_ren:={
 sizeBuilder:=by kernel_rfl
 liesBuilder:=by kernel_rfl
 t5:=layRepeat.t5
 a5:=layRepeat.a5
 z5:=layRepeat.z5
 v5:=layRepeat.v5
 infoByte:=by kernel_rfl
 cellsByte:=by kernel_rfl
 sizeByte:=by kernel_rfl
 neB5:=by decide }
theorem fRepeat:layRepeat_ren.f 105=115:=by kernel_rfl
theorem repC:RepC:=by
 intro c w h0 h1;obtain ⟨n,rfl⟩:∃ n:Nat,c=(n:Int):=⟨c.toNat,by omega⟩;have h:=Any.strings_Repeat layRepeat shelfExtra ⟨#[48]⟩ n w (by omega) (by show 1 * n≤_;omega);rw [fRepeat] at h;refine h.mono fun e w' ⟨he,hw⟩=>⟨_,he,?_,hw⟩;have e:=Lib.repeatL_replicate 48 1 n;simp only [Nat.mul_one] at e;show Lib.repeatL [48] n=List.replicate ((n:Int)).toNat 48;rw [Int.toNat_natCast,← e];rfl
abbrev seenV (r c:Int) (rf cf:Bool) (row col:Int):Value:=arV r c rf cf row col false false
end Go.Proofs.YtogecaajnjcenaaGreatDoor

