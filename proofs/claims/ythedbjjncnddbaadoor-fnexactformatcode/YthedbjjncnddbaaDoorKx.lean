/-
  Chapter 10: what the library's functions give, as the program's reader of codes calls them.
-/
import Derived.Test.YthedbjjncnddbaaDoorKr
import Derived.Test.YthedbjjncnddbaaDoorShelf
import Derived.Test.YthedbjjncnddbaaDoorShelb
import Derived.Laws.IdiomStrings
import Derived.Lib.IndexMore
import Derived.Deep.MidRow
namespace Go.Proofs.YthedbjjncnddbaaDoor
open Go.RowKit

def aheadV : List Value := [.int .u16 0, .int .u16 1, .int .u16 3, .int .u16 7, .int .u16 8, .int .u16 16, .int .u16 48, .int .u16 104, .int .u16 3, .int .u16 488, .int .u16 1000]
/-- What the reader of codes finds at package level. -/
def TabK (w : World) : Prop := (∃ m, w.cell? ⟨2, 0, none⟩ = some (.int .i64 m)) ∧ w.rangeAt 0 0 aheadV ∧ w.rangeAt 1 0 marksV
theorem TabK.later {w w' : World} (h : TabK w) (x : Ext w w') : TabK w' := by
  obtain ⟨⟨m, a⟩, b, c⟩ := h
  exact ⟨⟨m, cell_later x a⟩, fun i v hv => cell_later x (b i v hv), fun i v hv => cell_later x (c i v hv)⟩
theorem fCutPrefixK : layCutPrefix_ren.f 103 = 16 := by kernel_rfl
theorem fTrimLeftK : layTrimLeft_ren.f 161 = 60 := by kernel_rfl
theorem fTrimPrefixK : layTrimPrefix_ren.f 101 = 44 := by kernel_rfl
theorem fTrimK : layTrim_ren.f 160 = 47 := by kernel_rfl
theorem fCutK : layCut_ren.f 145 = 57 := by kernel_rfl
theorem gMaxLenK : layCut_ren.g 1 = 2 := by kernel_rfl
theorem cutPrefixK (l : BL) (c : UInt8) (w : World) :
    Calls Tryd.prog 16 #[sV l, sV [c]] w fun e w' => e = .returned (.tuple #[sV (Lib.trimPrefix l [c]), .bool (Lib.hasPrefix l [c])]) ∧ w' = w := by
  have h := Any.strings_CutPrefix layCutPrefix ⟨l.toArray⟩ ⟨#[c]⟩ w
  rw [fCutPrefixK] at h
  exact h
theorem trimPrefixK (l : BL) (w : World) :
    Calls Tryd.prog 44 #[sV l, sV [35, 44]] w fun e w' => e = .returned (sV (Lib.trimPrefix l [35, 44])) ∧ w' = w := by
  have h := Any.strings_TrimPrefix layTrimPrefix ⟨l.toArray⟩ ⟨#[35, 44]⟩ w
  rw [fTrimPrefixK] at h
  exact h
theorem trimLeftK (l : BL) (c : UInt8) (hc : c = 48 ∨ c = 46 ∨ c = 35 ∨ c = 37) (w : World) :
    Calls Tryd.prog 60 #[sV l, sV [c]] w fun e w' => e = .returned (sV (Lib.trimLeftS l [c])) ∧ Ext w w' := by
  rcases hc with rfl | rfl | rfl | rfl
  · have h := Any.strings_TrimLeft_laid layTrimLeft (by kernel_rfl) ⟨l.toArray⟩ ⟨#[48]⟩ w (by decide) (ascii_of_all (by decide))
    rw [fTrimLeftK] at h
    exact h
  · have h := Any.strings_TrimLeft_laid layTrimLeft (by kernel_rfl) ⟨l.toArray⟩ ⟨#[46]⟩ w (by decide) (ascii_of_all (by decide))
    rw [fTrimLeftK] at h
    exact h
  · have h := Any.strings_TrimLeft_laid layTrimLeft (by kernel_rfl) ⟨l.toArray⟩ ⟨#[35]⟩ w (by decide) (ascii_of_all (by decide))
    rw [fTrimLeftK] at h
    exact h
  · have h := Any.strings_TrimLeft_laid layTrimLeft (by kernel_rfl) ⟨l.toArray⟩ ⟨#[37]⟩ w (by decide) (ascii_of_all (by decide))
    rw [fTrimLeftK] at h
    exact h
theorem trimK (l : BL) (w : World) (hl : l.length ≤ 1000) :
    Calls Tryd.prog 47 #[sV l, sV [34]] w fun e w' => e = .returned (sV (Lib.trimS l [34])) ∧ Ext w w' := by
  have h := Any.strings_Trim_laid layTrim (by kernel_rfl) ⟨l.toArray⟩ ⟨#[34]⟩ w (by show l.length ≤ _; omega) (by decide) (ascii_of_all (by decide))
  rw [fTrimK] at h
  exact h
theorem cutK (l : BL) (w : World) (hl : l.length ≤ 1000) (T : TabK w) :
    Calls Tryd.prog 57 #[sV l, sV [34]] w fun e w' => e = .returned (.tuple #[sV (Lib.cut l [34]).1, sV (Lib.cut l [34]).2.1, .bool (Lib.cut l [34]).2.2]) ∧ Ext w w' := by
  obtain ⟨⟨m, hm⟩, _, _⟩ := T
  have h := Any.strings_Cut layCut ⟨l.toArray⟩ ⟨#[34]⟩ m w (by show l.length < _; omega) (by rw [gMaxLenK]; exact hm)
  rw [fCutK] at h
  exact h.mono fun e w' ⟨he, n, hw⟩ => ⟨he, by rw [hw]; exact ⟨rfl, rfl, rfl, Nat.le_refl _, fun _ _ => rfl⟩⟩
set_option maxRecDepth 8000 in
set_option maxHeartbeats 1000000 in
theorem prefI (l p : BL) (w : World) : Calls Tryd.prog 48 #[sV l, sV p] w fun e w' => e = .returned (.bool (Lib.hasPrefix l p)) ∧ w' = w := by
  rw [prefK_iff]
  have EX := ext_sub l 0 p.length
  rw [Nat.sub_zero, List.drop_zero] at EX
  have z1 : (⟨l.toArray⟩ : ByteArray).size = l.length := rfl
  have z2 : (⟨p.toArray⟩ : ByteArray).size = p.length := rfl
  obtain ⟨b, hb⟩ : ∃ b, (l.take p.length == p) = b := ⟨_, rfl⟩
  have HB : ((⟨(l.take p.length).toArray⟩ : ByteArray).toList == (⟨p.toArray⟩ : ByteArray).toList) = b := by rw [ByteArray.toList_eq, ByteArray.toList_eq]; exact hb
  rw [hb]
  show Calls Tryd.prog 48 #[.string ⟨l.toArray⟩, .string ⟨p.toArray⟩] w _
  obtain ⟨s, hs⟩ : ∃ s, (⟨l.toArray⟩ : ByteArray) = s := ⟨_, rfl⟩
  obtain ⟨t, ht⟩ : ∃ s, (⟨p.toArray⟩ : ByteArray) = s := ⟨_, rfl⟩
  obtain ⟨x, hx⟩ : ∃ x, (⟨(l.take p.length).toArray⟩ : ByteArray) = x := ⟨_, rfl⟩
  obtain ⟨n, hn⟩ : ∃ n, l.length = n := ⟨_, rfl⟩
  obtain ⟨k, hk⟩ : ∃ n, p.length = n := ⟨_, rfl⟩
  rw [hs] at EX z1 ⊢
  rw [ht] at z2 HB ⊢
  rw [hx] at EX HB
  rw [hn] at z1 ⊢
  rw [hk] at z2 EX ⊢
  clear hb hs ht hx hn hk
  by_cases h : k ≤ n
  · have i1 : (k : Int) ≤ (n : Int) := by omega
    have i2 : (0 : Int) ≤ (k : Int) := by omega
    rw [decide_eq_true h]
    cases b
    all_goals
      go_enter Tryd.func48, Tryd.ntmps48
      go_wp2_with fail
      go_ret
      first | exact ⟨rfl, rfl⟩ | exact ⟨by simp [EX], rfl⟩ | exact ⟨by simp [EX, HB], rfl⟩
  · have i1 : (n : Int) < (k : Int) := by omega
    rw [decide_eq_false h]
    go_enter Tryd.func48, Tryd.ntmps48
    go_wp2_with fail
    go_ret
    exact ⟨rfl, rfl⟩
theorem hasPrefI (l p : BL) (w : World) : Calls Tryd.prog 50 #[sV l, sV p] w fun e w' => e = .returned (.bool (Lib.hasPrefix l p)) ∧ w' = w := by
  have H := prefI l p w
  go_enter Tryd.func50, Tryd.ntmps50
  go_wp2_with fail
  refine H.mono ?_
  rintro e w1 ⟨rfl, rfl⟩
  go_wp2_with fail
  go_ret
  exact ⟨rfl, rfl⟩

theorem bits_and_u16_one (a : Nat) (ha : a < 65536) : bits .and .u16 (a : Int) 1 = ((a % 2 : Nat) : Int) := by
  have h1 : (BitVec.ofInt 16 (a : Int)).toNat = a := by
    rw [BitVec.ofInt_natCast, BitVec.toNat_ofNat]; exact Nat.mod_eq_of_lt (by omega)
  have h2 : (BitVec.ofInt 16 (1 : Int)).toNat = 1 := by decide
  show IntKind.u16.wrap ((BitVec.ofInt 16 (a : Int) &&& BitVec.ofInt 16 (1 : Int)).toNat : Int) = _
  rw [BitVec.toNat_and, h1, h2, Nat.and_one_is_mod, IntKind.wrap_u16]
  omega
set_option maxHeartbeats 1000000 in
theorem hasI (p k : Nat) (hp : p < 65536) (hk : k ≤ 12) (w : World) : Calls Tryd.prog 28 #[.int .u16 (p : Int), .int .i64 (k : Int)] w fun e w' => e = .returned (.bool (p / 2 ^ k % 2 == 1)) ∧ w' = w := by
  have hq : p / 2 ^ k < 65536 := Nat.lt_of_le_of_lt (Nat.div_le_self _ _) hp
  have hc : ((p : Int) / 2 ^ k) = ((p / 2 ^ k : Nat) : Int) := by rw [Int.natCast_ediv]; simp
  have hb := bits_and_u16_one (p / 2 ^ k) hq
  rw [← hc] at hb
  have hr : ((((p / 2 ^ k) % 2 : Nat) : Int) == 1) = (p / 2 ^ k % 2 == 1) := by
    rcases Nat.mod_two_eq_zero_or_one (p / 2 ^ k) with h | h <;> rw [h] <;> rfl
  have HB : Hid ((bits BinOp.and IntKind.u16 ((p : Int) / 2 ^ k) 1 == 1) = (p / 2 ^ k % 2 == 1)) := by show _ = _; rw [hb, hr]
  clear hb hr hc hq
  go_enter Tryd.func28, Tryd.ntmps28
  go_wp2_with fail
  go_ret
  exact ⟨ret_bool HB.out, rfl⟩

end Go.Proofs.YthedbjjncnddbaaDoor
