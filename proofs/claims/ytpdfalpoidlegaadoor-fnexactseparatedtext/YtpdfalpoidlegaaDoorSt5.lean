/-
  Chapter 14: a field's text, by the program.
-/
import Derived.Test.YtpdfalpoidlegaaDoorSt4
import Derived.Test.YtpdfalpoidlegaaDoorSt2
import Derived.Lib.ReplaceLaws
namespace Go.Proofs.YtpdfalpoidlegaaDoor
open Go.RowKit

theorem replaceK_pass (b : UInt8) (hb : b ≠ 34) (l : List UInt8) : ∀ k, Lib.replaceK [34] [34, 34] k (b :: l) = b :: Lib.replaceK [34] [34, 34] k l
  | 0 => rfl
  | k + 1 => by
    have hi : Lib.index (b :: l) [34] = if Lib.index l [34] == -1 then -1 else Lib.index l [34] + 1 := by
      rw [Lib.index, if_neg (by simp [List.isPrefixOf]; exact fun e => hb e.symm)]
    have hg := Lib.index_ge l [34]
    by_cases h : Lib.index l [34] = -1
    · rw [Lib.replaceK, Lib.replaceK, hi, h]
      rfl
    · obtain ⟨i, hi2⟩ : ∃ i : Nat, Lib.index l [34] = i := ⟨(Lib.index l [34]).toNat, by omega⟩
      have hi3 : Lib.index (b :: l) [34] = ((i + 1 : Nat) : Int) := by rw [hi, hi2, if_neg (by simp)]; omega
      rw [Lib.replaceK_hit _ _ _ _ _ hi2, Lib.replaceK_hit _ _ _ _ _ hi3]
      simp
theorem replace_quoF (f : List UInt8) : Lib.replaceAll f [34] [34, 34] = quoF f := by
  have key : ∀ f : List UInt8, Lib.replaceK [34] [34, 34] (Lib.count f [34]) f = quoF f := by
    intro f
    induction f with
    | nil => rfl
    | cons b l ih =>
      by_cases hb : b = 34
      · subst hb
        have hi : Lib.index (34 :: l) [34] = ((0 : Nat) : Int) := by rw [Lib.index, if_pos (by simp [List.isPrefixOf])]; rfl
        rw [Lib.count_hit (by simp) hi, Nat.add_comm, Lib.replaceK_hit _ _ _ _ _ hi]
        have e : ((34 : UInt8) :: l).drop (0 + [(34 : UInt8)].length) = l := rfl
        rw [e, ih]
        rfl
      · have hi : Lib.index (b :: l) [34] = if Lib.index l [34] == -1 then -1 else Lib.index l [34] + 1 := by
          rw [Lib.index, if_neg (by simp [List.isPrefixOf]; exact fun e => hb e.symm)]
        have hc : Lib.count (b :: l) [34] = Lib.count l [34] := by
          have hg := Lib.index_ge l [34]
          by_cases h : Lib.index l [34] = -1
          · rw [Lib.count_miss h, Lib.count_miss (by rw [hi, h]; rfl)]
          · obtain ⟨i, hi2⟩ : ∃ i : Nat, Lib.index l [34] = i := ⟨(Lib.index l [34]).toNat, by omega⟩
            have hi3 : Lib.index (b :: l) [34] = ((i + 1 : Nat) : Int) := by rw [hi, hi2, if_neg (by simp)]; omega
            rw [Lib.count_hit (by simp) hi2, Lib.count_hit (by simp) hi3]
            rfl
        rw [hc, replaceK_pass b hb, ih]
        unfold quoF
        rw [List.flatMap_cons, if_neg hb]
        rfl
  unfold Lib.replaceAll Lib.replace
  rw [if_neg (by decide)]
  unfold Lib.replaceNum
  rw [if_pos (.inl (by omega))]
  exact key f
/-- What the library finds at package level. -/
def Tab14 (w : World) : Prop := ∃ m, w.cell? ⟨0, 0, none⟩ = some (.int .i64 m)
theorem Tab14.later {w w' : World} (h : Tab14 w) (x : Ext w w') : Tab14 w' := by
  obtain ⟨m, a⟩ := h
  exact ⟨m, cell_later x a⟩
theorem extra14 : Builder.Extra Tryd.prog layReplAll_ren := {
  sizeBuilder := by kernel_rfl
  liesBuilder := by kernel_rfl
  t5 := layReplAll.t5
  a5 := layReplAll.a5
  z5 := layReplAll.z5
  v5 := layReplAll.v5
  infoByte := by kernel_rfl
  cellsByte := by kernel_rfl
  sizeByte := by kernel_rfl
  neB5 := by decide }
theorem fReplAll14 : layReplAll_ren.f 155 = 21 := by kernel_rfl
theorem fWrite14 : layReplAll_ren.f 166 = 14 := by kernel_rfl
theorem fString14 : layReplAll_ren.f 169 = 17 := by kernel_rfl
theorem fLen14 : layBLen_ren.f 170 = 16 := by kernel_rfl
theorem gMaxLen14 : layReplAll_ren.g 1 = 0 := by kernel_rfl
theorem replI (f : List UInt8) (w : World) (hl : f.length ≤ 1048576) (T : Tab14 w) :
    Calls Tryd.prog 21 #[sV f, sV [34], sV [34, 34]] w fun e w' => e = .returned (sV (quoF f)) ∧ Ext w w' := by
  obtain ⟨m, hm⟩ := T
  have hc := Lib.countB_le ⟨#[34]⟩ (by show 1 ≤ 1; omega) f.length ⟨f.toArray⟩ (Nat.le_refl _)
  have hc2 : Lib.countB ⟨f.toArray⟩ ⟨#[34]⟩ ≤ f.length := hc
  have h := Any.strings_ReplaceAll layReplAll extra14 ⟨f.toArray⟩ ⟨#[34]⟩ ⟨#[34, 34]⟩ m w (by show f.length < _; omega) (by rw [gMaxLen14]; exact hm) (by show 1 ≤ 1; omega) (by show f.length + Lib.countB ⟨f.toArray⟩ ⟨#[34]⟩ * 2 ≤ _; omega)
  rw [fReplAll14] at h
  have e : Lib.replaceAll (⟨f.toArray⟩ : ByteArray).data.toList (⟨#[34]⟩ : ByteArray).data.toList (⟨#[34, 34]⟩ : ByteArray).data.toList = quoF f := replace_quoF f
  rw [e] at h
  exact h

theorem cat_text (a b : List UInt8) : (⟨a.toArray⟩ ++ ⟨b.toArray⟩ : ByteArray) = ⟨(a ++ b).toArray⟩ := by
  apply ByteArray.ext
  rw [ByteArray.data_append]
  apply Array.ext'
  simp
set_option maxRecDepth 8000 in
set_option maxHeartbeats 2000000 in
theorem fieldI (f : List UInt8) (m : UInt8) (alone : Bool) (w : World) (hm : m.toNat < 128) (hl : f.length ≤ 1048576) (T : Tab14 w) :
    Calls Tryd.prog 15 #[sV f, sV [m], .bool alone] w fun e w' => e = .returned (sV (fldT m alone f)) ∧ Ext w w' := by
  have HT : Hid (Tab14 w) := T
  obtain ⟨s, hs⟩ : ∃ s : ByteArray, (⟨f.toArray⟩ : ByteArray) = s := ⟨_, rfl⟩
  obtain ⟨k, hk⟩ : ∃ s : ByteArray, (⟨[m].toArray⟩ : ByteArray) = s := ⟨_, rfl⟩
  obtain ⟨k1, hk1⟩ : ∃ s : ByteArray, (⟨[m, 34].toArray⟩ : ByteArray) = s := ⟨_, rfl⟩
  obtain ⟨k2, hk2⟩ : ∃ s : ByteArray, (⟨(chL m).toArray⟩ : ByteArray) = s := ⟨_, rfl⟩
  have a1 : (k ++ ⟨#[34]⟩ : ByteArray) = k1 := by rw [← hk, ← hk1]; exact cat_text [m] [34]
  have a2 : (k1 ++ ⟨#[13, 10]⟩ : ByteArray) = k2 := by rw [← hk1, ← hk2]; exact cat_text [m, 34] [13, 10]
  have z1 : k.size + (⟨#[34]⟩ : ByteArray).size ≤ 9223372036854775807 := by rw [← hk]; show 1 + 1 ≤ _; omega
  have z2 : k1.size + (⟨#[13, 10]⟩ : ByteArray).size ≤ 9223372036854775807 := by rw [← hk1]; show 2 + 2 ≤ _; omega
  have CC := containsI f m w hm hl
  have CR : Hid (∀ W, Ext w W → Calls Tryd.prog 21 #[.string s, sV [34], sV [34, 34]] W fun e w' => e = .returned (sV (quoF f)) ∧ Ext W w') := fun W x => by rw [← hs]; exact replI f W hl (HT.out.later x)
  change Calls Tryd.prog 20 #[.string ⟨f.toArray⟩, .string ⟨(chL m).toArray⟩] w _ at CC
  rw [hs, hk2] at CC
  obtain ⟨E, hE⟩ : ∃ E, s.toList.isEmpty = E := ⟨_, rfl⟩
  have HE : Hid (f.isEmpty = E) := by show _ = _; rw [← hE, ByteArray.toList_eq, ← hs]
  have HFS : Hid (Value.string s = sV f) := by show _ = _; rw [← hs]
  have HQ : Hid (fldT m alone f = if ((E && alone) || needB m f) = true then quoT f else f) := by show _ = _; unfold fldT oddB; rw [HE.out]
  have hq := quoF_length f
  obtain ⟨x, hx⟩ : ∃ x : ByteArray, (⟨(quoF f).toArray⟩ : ByteArray) = x := ⟨_, rfl⟩
  obtain ⟨x1, hx1⟩ : ∃ x : ByteArray, (⟨(34 :: quoF f).toArray⟩ : ByteArray) = x := ⟨_, rfl⟩
  have b1 : (⟨#[34]⟩ ++ x : ByteArray) = x1 := by rw [← hx, ← hx1]; exact cat_text [34] (quoF f)
  have b2 : (x1 ++ ⟨#[34]⟩ : ByteArray) = ⟨(quoT f).toArray⟩ := by rw [← hx1]; exact cat_text (34 :: quoF f) [34]
  have z3 : (⟨#[34]⟩ : ByteArray).size + x.size ≤ 9223372036854775807 := by rw [← hx]; show 1 + (quoF f).length ≤ _; omega
  have z4 : x1.size + (⟨#[34]⟩ : ByteArray).size ≤ 9223372036854775807 := by rw [← hx1]; show (quoF f).length + 1 + 1 ≤ _; omega
  have CR2 : Hid (∀ W, Ext w W → Calls Tryd.prog 21 #[.string s, sV [34], sV [34, 34]] W fun e w' => e = .returned (.string x) ∧ Ext W w') := fun W y => by rw [← hx]; exact CR.out W y
  show Calls Tryd.prog 15 #[.string ⟨f.toArray⟩, .string ⟨[m].toArray⟩, .bool alone] w _
  rw [hs, hk]
  obtain ⟨B, hB⟩ : ∃ B, needB m f = B := ⟨_, rfl⟩
  rw [hB] at CC HQ
  have HB2 : Hid (Value.string (⟨(quoT f).toArray⟩ : ByteArray) = sV (quoT f)) := rfl
  obtain ⟨yy, hyy⟩ : ∃ y : ByteArray, (⟨(quoT f).toArray⟩ : ByteArray) = y := ⟨_, rfl⟩
  have HYY : Hid ((⟨(quoT f).toArray⟩ : ByteArray) = yy) := hyy
  rw [hyy] at b2
  clear hs hk hk1 hk2 hx hx1 hq hB hl CR hyy hm HB2 HT
  by_cases hAE : (E && alone) = true
  · rw [Bool.and_eq_true] at hAE
    obtain ⟨rfl, rfl⟩ := hAE
    have HQ2 : Hid (fldT m true f = quoT f) := by show _ = _; rw [HQ.out]; rfl
    go_enter Tryd.func15, Tryd.ntmps15
    go_wp2_with fail
    refine (CR2.out _ (xr _)).mono ?_
    rintro _ w2 ⟨rfl, e2⟩
    go_wp2_with fail
    go_ret
    exact ⟨by rw [HQ2.out]; show _ = Ending.returned (.string _); rw [HYY.out]; rfl, e2⟩
  · have hAE : (E && alone) = false := by simpa using hAE
    rw [hAE, Bool.false_or] at HQ
    cases alone
    · cases B
      · have HQ2 : Hid (fldT m false f = f) := by show _ = _; rw [HQ.out]; rfl
        go_enter Tryd.func15, Tryd.ntmps15
        go_wp2_with fail
        refine CC.mono ?_
        rintro _ w1 ⟨rfl, e1⟩
        go_wp2_with fail
        go_ret
        exact ⟨by rw [HQ2.out]; exact congrArg Ending.returned HFS.out, e1⟩
      · have HQ2 : Hid (fldT m false f = quoT f) := by show _ = _; rw [HQ.out]; rfl
        go_enter Tryd.func15, Tryd.ntmps15
        go_wp2_with fail
        refine CC.mono ?_
        rintro _ w1 ⟨rfl, e1⟩
        go_wp2_with fail
        refine (CR2.out _ e1).mono ?_
        rintro _ w2 ⟨rfl, e2⟩
        go_wp2_with fail
        go_ret
        exact ⟨by rw [HQ2.out]; show _ = Ending.returned (.string _); rw [HYY.out]; rfl, xt e1 e2⟩
    · have hE0 : E = false := by simpa using hAE
      subst hE0
      cases B
      · have HQ2 : Hid (fldT m true f = f) := by show _ = _; rw [HQ.out]; rfl
        go_enter Tryd.func15, Tryd.ntmps15
        go_wp2_with fail
        refine CC.mono ?_
        rintro _ w1 ⟨rfl, e1⟩
        go_wp2_with fail
        go_ret
        exact ⟨by rw [HQ2.out]; exact congrArg Ending.returned HFS.out, e1⟩
      · have HQ2 : Hid (fldT m true f = quoT f) := by show _ = _; rw [HQ.out]; rfl
        go_enter Tryd.func15, Tryd.ntmps15
        go_wp2_with fail
        refine CC.mono ?_
        rintro _ w1 ⟨rfl, e1⟩
        go_wp2_with fail
        refine (CR2.out _ e1).mono ?_
        rintro _ w2 ⟨rfl, e2⟩
        go_wp2_with fail
        go_ret
        exact ⟨by rw [HQ2.out]; show _ = Ending.returned (.string _); rw [HYY.out]; rfl, xt e1 e2⟩

end Go.Proofs.YtpdfalpoidlegaaDoor
