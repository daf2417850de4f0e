/-
  ReA, ReB, ReC, ReD, ReE, ReF in one.
-/
import Derived.Test.YtfkihaihbaobeaaGreatDoorPutZ
import Derived.Test.YtfkihaihbaobeaaGreatDoorMuI
import Derived.BigQuiet
import Derived.Test.YtfkihaihbaobeaaGreatDoorShelc
import Derived.Laws.IdiomStrings
import Derived.Deep.RegionHeld3
namespace Go.Proofs.YtfkihaihbaobeaaGreatDoor
open Go.RowKit

def bs (l : List UInt8) : ByteArray := ⟨l.toArray⟩
theorem bs_size (l : List UInt8) : (bs l).size = l.length := rfl
def isD (b : UInt8) : Bool := decide (48 ≤ b.toNat ∧ b.toNat ≤ 57)
theorem bs_at (l : List UInt8) {p : Nat} (hp : p < (bs l).size) : ((bs l)[p]'hp) = l.getD p 0 := by
  have hp' : p < l.length := hp
  rw [List.getD_eq_getElem?_getD, List.getElem?_eq_getElem hp']
  rfl
theorem take_atD {l : List UInt8} {i : Nat} (h : i < l.length) : l.take (i + 1) = l.take i ++ [l.getD i 0] := by
  rw [List.take_succ_eq_append_getElem h, List.getD_eq_getElem?_getD, List.getElem?_eq_getElem h]
  rfl
theorem takeWhile_atD (P : UInt8 → Bool) (l : List UInt8) (k : Nat) (h : (l.take k).all P = true) (hk : k ≤ l.length) (hs : k = l.length ∨ P (l.getD k 0) = false) : l.takeWhile P = l.take k ∧ l.dropWhile P = l.drop k := by
  induction l generalizing k with
  | nil => simp at hk; simp [hk]
  | cons c l ih =>
    cases k with
    | zero =>
      rcases hs with hs | hs
      · simp at hs
      · have : P c = false := by simpa using hs
        simp [this]
    | succ k =>
      simp only [List.take_succ_cons, List.all_cons, Bool.and_eq_true] at h
      simp only [List.length_cons] at hk hs
      obtain ⟨h1, h2⟩ := ih k h.2 (by omega) (by rcases hs with hs | hs; exact .inl (by omega); exact .inr (by simpa using hs))
      rw [List.takeWhile_cons_of_pos h.1, List.dropWhile_cons_of_pos h.1, h1, h2]
      exact ⟨rfl, rfl⟩

theorem xdNq {a b : World} (h : Ext a b) (n : Nat) : Ext a (b.drewN n) := ⟨h.os, h.tape, h.output, h.size, h.block⟩
theorem ext_bs (l : List UInt8) (a b : Nat) : (bs l).extract a b = bs ((l.drop a).take (b - a)) := by
  unfold bs
  apply ByteArray.ext
  rw [ByteArray.data_extract]
  simp

set_option maxRecDepth 4000 in
set_option maxHeartbeats 2000000 in
theorem leadD (l : List UInt8) (w : World) (hl : l.length ≤ 200) :
    Calls Tryz.prog 28 #[.string (bs l)] w fun e w' => e = .returned (.tuple #[.string (bs (l.takeWhile isD)), .string (bs (l.dropWhile isD))]) ∧ Ext w w' := by
  obtain ⟨n, hn⟩ : ∃ n, l.length = n := ⟨_, rfl⟩
  have HN : Hid (l.length = n) := hn
  obtain ⟨s, hs⟩ : ∃ s, bs l = s := ⟨_, rfl⟩
  have hsz : s.size = n := by rw [← hs, bs_size, hn]
  have HS : Hid (bs l = s) := hs
  rw [hn] at hl
  rw [hs]
  clear hn hs
  go_enter Tryz.func28, Tryz.ntmps28
  go_wp2_with fail
  go_loop [4] (fun i => ∃ k : Nat, k ≤ n ∧ i = .int .i64 k ∧ Hid ((l.take k).all isD = true)) (fun i => n + 1 - (intOf i).toNat)
  case atStart => exact ⟨0, by omega, rfl, by show _ = _; simp⟩
  case round =>
    obtain ⟨k, hk, rfl, HA⟩ := hrel
    by_cases hlt : k < n
    · have hlt' : (k : Int) < (n : Int) := by omega
      have hks : k < s.size := by omega
      obtain ⟨c, hc⟩ : ∃ c, l.getD k 0 = c := ⟨_, rfl⟩
      have hb : ((s[k]'hks).toNat : Int) = (c.toNat : Int) := by
        have h1 : k < (bs l).size := by rw [HS.out]; exact hks
        have h2 := bs_at l h1
        rw [hc] at h2
        rw [← h2]
        congr 2
        simp only [HS.out]
      have HC : Hid (l.getD k 0 = c) := hc
      obtain ⟨z, hz⟩ : ∃ z : Int, (c.toNat : Int) = z := ⟨_, rfl⟩
      rw [hz] at hb
      have HZ : Hid (isD c = decide (48 ≤ z ∧ z ≤ 57)) := by
        show _ = _
        unfold isD
        rw [decide_eq_decide]
        omega
      clear hc hz
      by_cases h1 : 48 ≤ z
      · by_cases h2 : z ≤ 57
        · have HA2 : Hid ((l.take (k + 1)).all isD = true) := by
            show _ = _
            rw [take_atD (by rw [HN.out]; exact hlt), List.all_append, HA.out, List.all_cons, HC.out, HZ.out, decide_eq_true ⟨h1, h2⟩]
            rfl
          clear HA HC HZ
          go_wp2_with fail
          go_round
          case rel => exact ⟨k + 1, by omega, by go_num, HA2⟩
          case measure => simp [intOf]; omega
        · have hr := takeWhile_atD isD l k HA.out (by rw [HN.out]; exact hk) (.inr (by rw [HC.out, HZ.out]; exact decide_eq_false (fun h => h2 h.2)))
          have HR : Hid (l.takeWhile isD = l.take k ∧ l.dropWhile isD = l.drop k) := hr
          have f2 : decide (z ≤ 57) = false := decide_eq_false h2
          clear hr HA HC HZ
          have X1 : s.extract 0 k = bs (l.take k) := by rw [← HS.out, ext_bs]; simp
          have X2 : s.extract k n = bs (l.drop k) := by
            rw [← HS.out, ext_bs, List.take_of_length_le]
            rw [List.length_drop, HN.out]
            exact Nat.le_refl _
          have RR : Hid ((.tuple #[.string (bs (l.take k)), .string (bs (l.drop k))] : Value) = .tuple #[.string (bs (l.takeWhile isD)), .string (bs (l.dropWhile isD))]) := by show _ = _; rw [HR.out.1, HR.out.2]
          have k1 : (k : Int) ≤ (n : Int) := by omega
          have k0 : (0 : Int) ≤ (k : Int) := by omega
          obtain ⟨b1, hb1⟩ : ∃ b, bs (l.take k) = b := ⟨_, rfl⟩
          obtain ⟨b2, hb2⟩ : ∃ b, bs (l.drop k) = b := ⟨_, rfl⟩
          rw [hb1] at X1 RR
          rw [hb2] at X2 RR
          clear HR hb1 hb2
          go_upto_region 4 with fail
          go_quiet (fail)
          go_wp2
          exact bodyPost_ret (v := .tuple #[.string b1, .string b2]) (by simp [results, Tryz.results28, go_sem]) rfl ⟨congrArg Ending.returned RR.out, xdNq (xr _) _⟩
      · have hr := takeWhile_atD isD l k HA.out (by rw [HN.out]; exact hk) (.inr (by rw [HC.out, HZ.out]; exact decide_eq_false (fun h => h1 h.1)))
        have HR : Hid (l.takeWhile isD = l.take k ∧ l.dropWhile isD = l.drop k) := hr
        have f1 : decide (48 ≤ z) = false := decide_eq_false h1
        clear hr HA HC HZ
        have X1 : s.extract 0 k = bs (l.take k) := by rw [← HS.out, ext_bs]; simp
        have X2 : s.extract k n = bs (l.drop k) := by
          rw [← HS.out, ext_bs, List.take_of_length_le]
          rw [List.length_drop, HN.out]
          exact Nat.le_refl _
        have RR : Hid ((.tuple #[.string (bs (l.take k)), .string (bs (l.drop k))] : Value) = .tuple #[.string (bs (l.takeWhile isD)), .string (bs (l.dropWhile isD))]) := by show _ = _; rw [HR.out.1, HR.out.2]
        have k1 : (k : Int) ≤ (n : Int) := by omega
        have k0 : (0 : Int) ≤ (k : Int) := by omega
        obtain ⟨b1, hb1⟩ : ∃ b, bs (l.take k) = b := ⟨_, rfl⟩
        obtain ⟨b2, hb2⟩ : ∃ b, bs (l.drop k) = b := ⟨_, rfl⟩
        rw [hb1] at X1 RR
        rw [hb2] at X2 RR
        clear HR hb1 hb2
        go_upto_region 4 with fail
        go_quiet (fail)
        go_wp2
        exact bodyPost_ret (v := .tuple #[.string b1, .string b2]) (by simp [results, Tryz.results28, go_sem]) rfl ⟨congrArg Ending.returned RR.out, xdNq (xr _) _⟩
    · obtain rfl : k = n := by omega
      have hr := takeWhile_atD isD l k HA.out (by rw [HN.out]; exact hk) (.inl HN.out.symm)
      have HR : Hid (l.takeWhile isD = l.take k ∧ l.dropWhile isD = l.drop k) := hr
      clear hr HA hlt
      have X1 : s.extract 0 k = bs (l.take k) := by rw [← HS.out, ext_bs]; simp
      have hE : bs (l.drop k) = ByteArray.empty := by
        rw [List.drop_of_length_le (by rw [HN.out]; exact Nat.le_refl _)]
        rfl
      have RR : Hid ((.tuple #[.string (bs (l.take k)), .string (bs (l.drop k))] : Value) = .tuple #[.string (bs (l.takeWhile isD)), .string (bs (l.dropWhile isD))]) := by show _ = _; rw [HR.out.1, HR.out.2]
      have k1 : (k : Int) ≤ (k : Int) := by omega
      have k0 : (0 : Int) ≤ (k : Int) := by omega
      obtain ⟨b1, hb1⟩ : ∃ b, bs (l.take k) = b := ⟨_, rfl⟩
      rw [hb1] at X1 RR
      rw [hE] at RR
      clear HR hb1 hE
      go_upto_region 4 with fail
      go_quiet (fail)
      go_wp2
      exact bodyPost_ret (v := .tuple #[.string b1, .string ByteArray.empty]) (by simp [results, Tryz.results28, go_sem]) rfl ⟨congrArg Ending.returned RR.out, xdNq (xr _) _⟩

theorem fCutPrefixD : layCutPrefix_ren.f 103 = 27 := by kernel_rfl
theorem fTrimLeftD : layTrimLeft_ren.f 161 = 67 := by kernel_rfl
theorem fTrimPrefixD : layTrimPrefix_ren.f 101 = 66 := by kernel_rfl
theorem fTrimD : layTrim_ren.f 160 = 69 := by kernel_rfl
theorem cutPrefixD (l : List UInt8) (b : UInt8) (w : World) :
    Calls Tryz.prog 27 #[.string (bs l), .string ⟨#[b]⟩] w fun e w' => e = .returned (.tuple #[.string (bs (Lib.trimPrefix l [b])), .bool (Lib.hasPrefix l [b])]) ∧ w' = w := by
  have h := Any.strings_CutPrefix layCutPrefix (bs l) ⟨#[b]⟩ w
  rw [fCutPrefixD] at h
  exact h
theorem trimPrefixD (l : List UInt8) (b : UInt8) (w : World) :
    Calls Tryz.prog 66 #[.string (bs l), .string ⟨#[b]⟩] w fun e w' => e = .returned (.string (bs (Lib.trimPrefix l [b]))) ∧ w' = w := by
  have h := Any.strings_TrimPrefix layTrimPrefix (bs l) ⟨#[b]⟩ w
  rw [fTrimPrefixD] at h
  exact h
def isZ (c : UInt8) : Bool := decide (c = 48)
def zD (l : List UInt8) : List UInt8 := l.dropWhile isZ
theorem contains48 : (fun c => [(48 : UInt8)].contains c) = isZ := by
  funext c
  unfold isZ
  simp
theorem trimLeftD (l : List UInt8) (w : World) :
    Calls Tryz.prog 67 #[.string (bs l), .string ⟨#[48]⟩] w fun e w' => e = .returned (.string (bs (zD l))) ∧ Ext w w' := by
  have h := Any.strings_TrimLeft_laid layTrimLeft (by kernel_rfl) (bs l) ⟨#[48]⟩ w (by decide) (ascii_of_all (by decide))
  rw [fTrimLeftD] at h
  unfold zD
  rw [← contains48]
  exact h
theorem dropW_nil (P : UInt8 → Bool) (m : List UInt8) : m.dropWhile P = [] ↔ m.all P = true := by
  induction m with
  | nil => simp
  | cons c m ih =>
    cases h : P c
    · simp [List.dropWhile, h]
    · simp only [List.dropWhile, h, List.all_cons, Bool.true_and]; exact ih
theorem dropW_head (P : UInt8 → Bool) (m : List UInt8) {c : UInt8} {t : List UInt8} (h : m.dropWhile P = c :: t) : P c = false := by
  induction m with
  | nil => cases h
  | cons d m ih =>
    cases hd : P d
    · simp only [List.dropWhile, hd] at h
      cases h
      exact hd
    · simp only [List.dropWhile, hd] at h
      exact ih h
theorem trimS_nil (l : List UInt8) : (Lib.trimS l [48] = []) ↔ l.all isZ = true := by
  unfold Lib.trimS Lib.trimLeftS Lib.trimRightS
  rw [contains48, dropW_nil, List.all_reverse]
  cases h : l.reverse.dropWhile isZ with
  | nil =>
    have := (dropW_nil isZ l.reverse).1 h
    rw [List.all_reverse] at this
    simp [this]
  | cons c t =>
    have hc := dropW_head isZ _ h
    constructor
    · intro h2
      simp [hc] at h2
    · intro h2
      have := (dropW_nil isZ l.reverse).2 (by rw [List.all_reverse]; exact h2)
      rw [this] at h
      cases h
theorem trimD (l : List UInt8) (w : World) (hl : l.length ≤ 1000) :
    Calls Tryz.prog 69 #[.string (bs l), .string ⟨#[48]⟩] w fun e w' => (∃ s : ByteArray, e = .returned (.string s) ∧ (s.size = 0 ↔ l.all isZ = true)) ∧ Ext w w' := by
  have h := Any.strings_Trim_laid layTrim (by kernel_rfl) (bs l) ⟨#[48]⟩ w (by rw [bs_size]; omega) (by decide) (ascii_of_all (by decide))
  rw [fTrimD] at h
  refine h.mono fun e w' ⟨he, hw⟩ => ⟨⟨_, he, ?_⟩, hw⟩
  rw [← trimS_nil]
  show (Lib.trimS l [48]).length = 0 ↔ _
  rw [List.length_eq_zero_iff]

theorem trimD' (l : List UInt8) (w : World) (hl : l.length ≤ 1000) :
    Calls Tryz.prog 69 #[.string (bs l), .string ⟨#[48]⟩] w fun e w' => e = .returned (.string (bs (Lib.trimS l [48]))) ∧ Ext w w' := by
  have h := Any.strings_Trim_laid layTrim (by kernel_rfl) (bs l) ⟨#[48]⟩ w (by rw [bs_size]; omega) (by decide) (ascii_of_all (by decide))
  rw [fTrimD] at h
  exact h
/-- What digits say. -/
def dvN (l : List UInt8) : Nat := l.foldl (fun a c => a * 10 + (c.toNat - 48)) 0
theorem dvN_snoc (l : List UInt8) (c : UInt8) : dvN (l ++ [c]) = dvN l * 10 + (c.toNat - 48) := by unfold dvN; rw [List.foldl_append]; rfl
theorem isD_bd {c : UInt8} (h : isD c = true) : 48 ≤ c.toNat ∧ c.toNat ≤ 57 := of_decide_eq_true h
theorem dvN_lt : ∀ (n : Nat) (l : List UInt8), l.length = n → l.all isD = true → dvN l < 10 ^ n := by
  intro n
  induction n with
  | zero => intro l h _; rw [List.length_eq_zero_iff] at h; subst h; decide
  | succ n ih =>
    intro l h ha
    have hne : l ≠ [] := fun e => by rw [e] at h; cases h
    rw [← List.dropLast_concat_getLast hne] at ha ⊢
    rw [List.all_append, Bool.and_eq_true] at ha
    have h1 := ih l.dropLast (by rw [List.length_dropLast, h]; rfl) ha.1
    have h2 : isD (l.getLast hne) = true := by simpa using ha.2
    have := isD_bd h2
    rw [dvN_snoc, Nat.pow_succ]
    omega
def encD (l : List UInt8) : List Value := l.map fun c => Value.int .u8 (c.toNat : Int)
def VecD (w : World) (b : Nat) (l : List UInt8) : Prop := ∀ i, i < l.length → w.cell? ⟨b, i, none⟩ = some (.int .u8 ((l.getD i 0).toNat : Int))
theorem VecD.later {w w1 : World} {b : Nat} {l : List UInt8} (h : VecD w b l) (hb : Ext w w1) : VecD w1 b l := fun i hi => cell_later hb (h i hi)
/-- A text made a row of bytes. -/
theorem bytesD (l : List UInt8) (w : World) : ∃ cap w', (convert 9 22 (.string (bs l))).run Tryz.prog w = .ok (.slice (some ⟨w.heap.size, 0, none⟩) l.length cap) w' ∧ l.length ≤ cap ∧ Ext w w' ∧ VecD w' w.heap.size l := by
  have hcv := run_bytes_of_string (P := Tryz.prog) w 9 22 5 ⟨l.toArray⟩ Tryz.underlying9 Tryz.underlying22 Tryz.underlying5
  refine ⟨_, _, hcv, grownCap_ge _ _ _ _, xa (xd (xr _)) _, fun j hjl => ?_⟩
  obtain ⟨C, hC⟩ : ∃ C, grownCap w (⟨l.toArray⟩ : ByteArray).size 0 5 = C := ⟨_, rfl⟩
  rw [hC]
  have hb : (w.drew.alloc (.cells (bytesRow ⟨l.toArray⟩ C) 5 ((bytesRow ⟨l.toArray⟩ C).size, (bytesRow ⟨l.toArray⟩ C).size + 1))).heap[w.heap.size]? = some (.cells (bytesRow ⟨l.toArray⟩ C) 5 ((bytesRow ⟨l.toArray⟩ C).size, (bytesRow ⟨l.toArray⟩ C).size + 1)) := heap_alloc_new w.drew _
  unfold World.cell?
  simp only [hb]
  unfold bytesRow
  rw [Array.getElem?_append_left (by simp; exact hjl)]
  simp [List.getD_eq_getElem?_getD, List.getElem?_eq_getElem hjl]

theorem all_drop {l : List UInt8} {P : UInt8 → Bool} (h : l.all P = true) (Q : UInt8 → Bool) : (l.dropWhile Q).all P = true := by
  rw [List.all_eq_true] at h ⊢
  exact fun c hc => h c ((List.dropWhile_sublist Q).subset hc)
theorem VecD.far {w : World} {b : Nat} {l : List UInt8} (h : VecD w b l) {p : Addr} (hp : p.block ≠ b) (u : Value) : VecD (w.setCell p u) b l := fun i hi => by
  rw [World.cell?_setCell_other _ _ _ _ (fun e => hp (by rw [e]))]
  exact h i hi
theorem Box2.put2 {w : World} {b : Nat} {v0 v1 : Value} (h : Box2 w b v0 v1) (u0 u1 : Value) : Box2 ((w.setCell ⟨b, 0, none⟩ u0).setCell ⟨b, 1, none⟩ u1) b u0 u1 := by
  obtain ⟨⟨h0, h1⟩, f0, f1⟩ := h
  refine ⟨⟨?_, ?_⟩, ?_, ?_⟩ <;> simp [go_sem, h0, h1, f0, f1]
set_option maxRecDepth 4000 in
set_option maxHeartbeats 4000000 in
theorem gathI (l : List UInt8) (w : World) (hD : l.all isD = true) (hl : l.length ≤ 200) :
    Calls Tryz.prog 30 #[.string (bs l)] w fun e w' => (∃ h k : Nat, e = .returned (.tuple #[.agg #[.int .u64 h, .int .u64 k], .int .i64 (((zD l).length - 38 : Nat) : Int), .bool (!((zD l).drop 38).all isZ)]) ∧ WV (.agg #[.int .u64 h, .int .u64 k]) (dvN ((zD l).take 38))) ∧ Ext w w' := by
  have TL := fun w => trimLeftD l w
  obtain ⟨m, hm⟩ : ∃ m, zD l = m := ⟨_, rfl⟩
  have mD : m.all isD = true := by rw [← hm]; exact all_drop hD _
  have ml : m.length ≤ 200 := by rw [← hm]; exact Nat.le_trans (List.Sublist.length_le (List.dropWhile_sublist _)) hl
  rw [hm] at TL ⊢
  obtain ⟨n, hn⟩ : ∃ n, m.length = n := ⟨_, rfl⟩
  have HN : Hid (m.length = n) := hn
  have hsz : (bs m).size = n := hn
  obtain ⟨f, hf⟩ : ∃ f, min n 38 = f := ⟨_, rfl⟩
  have hf' : min (n : Int) 38 = (f : Int) := by omega
  have f38 : f ≤ 38 ∧ f ≤ n := by omega
  have X1 : (bs m).extract 0 f = bs (m.take f) := by rw [ext_bs]; simp
  have X2 : (bs m).extract f n = bs (m.drop f) := by
    rw [ext_bs, List.take_of_length_le]
    rw [List.length_drop, hn]
    exact Nat.le_refl _
  have ef : m.take 38 = m.take f ∧ m.drop 38 = m.drop f ∧ n - 38 = n - f := by
    rcases Nat.lt_or_ge n 38 with h | h
    · have e : f = n := by omega
      rw [e, List.take_of_length_le (by omega), List.take_of_length_le (by omega), List.drop_of_length_le (by omega), List.drop_of_length_le (by omega)]
      exact ⟨rfl, rfl, by omega⟩
    · have e : f = 38 := by omega
      rw [e]
      exact ⟨rfl, rfl, rfl⟩
  rw [hn, ef.1, ef.2.1, ef.2.2]
  obtain ⟨t, ht⟩ : ∃ t, m.take f = t := ⟨_, rfl⟩
  have tl : t.length = f := by rw [← ht, List.length_take]; omega
  have tD : t.all isD = true := by
    rw [List.all_eq_true] at mD ⊢
    intro c hc
    rw [← ht] at hc
    exact mD c (List.mem_of_mem_take hc)
  obtain ⟨d, hd⟩ : ∃ d, m.drop f = d := ⟨_, rfl⟩
  have dl : d.length = n - f := by rw [← hd, List.length_drop, hn]
  rw [ht] at X1
  rw [hd] at X2
  rw [ht, hd]
  have TR := fun w => trimD' d w (by omega)
  have HTD : Hid (t.all isD = true ∧ t.length = f) := ⟨tD, tl⟩
  have HDL : Hid (d.length = n - f) := dl
  have X0 := x1 w (.cells #[.int .u64 0, .int .u64 0] 40)
  have B2 := Box2.made w (.int .u64 0) (.int .u64 0) 40
  obtain ⟨sm, hsm⟩ : ∃ s, bs m = s := ⟨_, rfl⟩
  rw [hsm] at TL hsz X1 X2
  have n200 : (n : Int) ≤ 200 := by omega
  have fn : (f : Int) ≤ (n : Int) := by omega
  clear hm mD ml hn hf ht hd ef tl tD dl hD hl hsm
  go_enter Tryz.func30, Tryz.ntmps30
  go_upto_region 1 with fail
  obtain ⟨w0, hw0⟩ : ∃ u, w.alloc (.cells #[.int .u64 0, .int .u64 0] 40) = u := ⟨_, rfl⟩
  rw [hw0] at X0 B2 ⊢
  clear hw0
  go_wp2_with fail
  refine (TL _).mono ?_
  rintro rr w1 ⟨rfl, e1⟩
  replace B2 := B2.later e1
  replace X0 := xt X0 e1
  clear e1 TL
  obtain ⟨cap, wb, hcv, hcap, xb, V0⟩ := bytesD t w1
  rw [HTD.out.2] at hcv hcap
  go_wp2_with fail
  clear hcv
  obtain ⟨g, hg⟩ : ∃ g, w1.heap.size = g := ⟨_, rfl⟩
  have lg : w.heap.size < g := by rw [← hg]; exact World.block_lt_of_cell? _ _ B2.1.1
  rw [hg] at V0 ⊢
  replace B2 := B2.later xb
  replace X0 := xt X0 xb
  clear xb hg X1
  have f0 : (f : Int) ≤ 38 := by omega
  go_loopw [19] (fun i wr => ∃ k h q : Nat, k ≤ f ∧ i = .int .i64 k ∧ Hid (WV (.agg #[.int .u64 h, .int .u64 q]) (dvN (t.take k))) ∧ Box2 wr w.heap.size (.int .u64 h) (.int .u64 q) ∧ VecD wr g t ∧ Ext w wr) (fun i _ => f - (intOf i).toNat)
  case atStart => exact ⟨0, 0, 0, by omega, rfl, ⟨0, 0, rfl, by decide, by decide, by simp [dvN]⟩, B2, V0, X0⟩
  case round =>
    clear B2 V0 X0
    obtain ⟨k, h, q, hk, rfl, HW, B2, V, XR⟩ := hrel
    rename World => wr
    obtain ⟨⟨p0, p1⟩, p2, p3⟩ := id B2
    by_cases hlt : k < f
    · have a0 := V k (by rw [HTD.out.2]; exact hlt)
      obtain ⟨c, hc⟩ : ∃ c, t.getD k 0 = c := ⟨_, rfl⟩
      rw [hc] at a0
      have hkl : k < t.length := by rw [HTD.out.2]; exact hlt
      have htk := take_atD hkl
      rw [hc] at htk
      have cD : isD c = true := by
        have := List.all_eq_true.1 HTD.out.1 c (by rw [← hc, List.getD_eq_getElem?_getD, List.getElem?_eq_getElem hkl]; exact List.getElem_mem _)
        exact this
      have cb := isD_bd cD
      have tkD : (t.take k).all isD = true := by
        have h1 := List.all_eq_true.1 HTD.out.1
        rw [List.all_eq_true]
        exact fun c hc => h1 c (List.mem_of_mem_take hc)
      have vlt := dvN_lt k (t.take k) (by rw [List.length_take]; omega) tkD
      have p38 : 10 ^ k ≤ 10 ^ 37 := Nat.pow_le_pow_right (by decide) (by omega)
      have e37 : (10 : Nat) ^ 37 = 10000000000000000000000000000000000000 := by decide
      rw [e37] at p38
      obtain ⟨D, hDv⟩ : ∃ D, dvN (t.take k) = D := ⟨_, rfl⟩
      have HD2 : Hid (dvN (t.take (k + 1)) = D * 10 + (c.toNat - 48)) := by show _ = _; rw [htk, dvN_snoc, hDv]
      rw [hDv] at vlt
      have HW' : Hid (WV (.agg #[.int .u64 h, .int .u64 q]) D) := by rw [← hDv]; exact HW
      obtain ⟨z, hz⟩ : ∃ z : Nat, c.toNat - 48 = z := ⟨_, rfl⟩
      rw [hz] at HD2
      have z9 : z ≤ 9 := by omega
      have cz : (c.toNat : Int) = (z : Int) + 48 := by omega
      rw [cz] at a0
      have wz : IntKind.u8.wrap ((z : Int) + 48 - 48) = (z : Int) := by rw [IntKind.wrap_u8]; omega
      have wz' : (z : Int) + 48 - 48 = (z : Int) := by omega
      have wz2 : IntKind.u8.wrap (z : Int) = (z : Int) := by rw [IntKind.wrap_u8]; omega
      have wz3 : IntKind.u64.wrap (z : Int) = (z : Int) := by rw [IntKind.wrap_u64]; omega
      have TI := fun w2 => times_any 10 w2 HW'.out (by decide) (by omega)
      have PL := fun w2 v (hv : WV v (D * 10)) => plus_any (b := z) (u := .agg #[.int .u64 0, .int .u64 z]) w2 hv ⟨0, z, rfl, by decide, by omega, by omega⟩ (by omega)
      have TI' : Hid (∀ w2, Calls Tryz.prog 68 #[.agg #[.int .u64 h, .int .u64 q], .int .u64 10] w2 fun e w' => ∃ v', e = .returned v' ∧ WV v' (D * 10) ∧ Ext w2 w') := TI
      have PL' : Hid (∀ w2 v, WV v (D * 10) → Calls Tryz.prog 48 #[v, .agg #[.int .u64 0, .int .u64 z]] w2 fun e w' => ∃ v', e = .returned v' ∧ WV v' (D * 10 + z) ∧ Ext w2 w') := PL
      have i1 : (0 : Int) ≤ (k : Int) := by omega
      have i2 : (k : Int) < (f : Int) := by omega
      clear hc htk cD cb tkD vlt p38 e37 hDv HW HW' hz cz TI PL hkl
      go_wp2_with fail
      refine (TI'.out _).mono ?_
      rintro rr w2 ⟨v2, rfl, h2, e2⟩
      go_wp2_with fail
      refine (PL'.out _ _ h2).mono ?_
      rintro rr w3 ⟨v3, rfl, h3, e3⟩
      obtain ⟨h', q', rfl, _⟩ := id h3
      have e23 := xt e2 e3
      replace B2 := B2.later e23
      replace V := V.later e23
      replace XR := xt XR e23
      clear e2 e3 e23 p0 p1 p2 p3 h2 a0
      obtain ⟨⟨p0, p1⟩, p2, p3⟩ := id B2
      have N2 := B2.put2 (.int .u64 h') (.int .u64 q')
      have NV := (V.far (p := ⟨w.heap.size, 0, none⟩) (by simp only; omega) (.int .u64 h')).far (p := ⟨w.heap.size, 1, none⟩) (by simp only; omega) (.int .u64 q')
      have NX := xset (p := ⟨w.heap.size, 1, none⟩) (xset (p := ⟨w.heap.size, 0, none⟩) XR (Nat.le_refl _) (.int .u64 h')) (Nat.le_refl _) (.int .u64 q')
      have HW2 : Hid (WV (.agg #[.int .u64 h', .int .u64 q']) (dvN (t.take (k + 1)))) := by rw [HD2.out]; exact h3
      clear h3 TI' PL'
      go_wp2_with fail
      go_roundw
      case rel => exact ⟨k + 1, h', q', by omega, by go_num, HW2, N2, NV, NX⟩
      case measure => simp [intOf]; omega
    · obtain rfl : k = f := by omega
      have HW2 : Hid (WV (.agg #[.int .u64 h, .int .u64 q]) (dvN t)) := by
        have := HW.out
        rw [List.take_of_length_le (by rw [HTD.out.2]; exact Nat.le_refl _)] at this
        exact this
      clear HW V hlt
      go_upto_region 9 with fail
      have dsz : (bs d).size = n - k := HDL.out
      have dsz' : ((n - k : Nat) : Int) = (n : Int) - (k : Int) := by omega
      have HDs : Hid (((n - k : Nat) : Int) = (n : Int) - (k : Int)) := dsz'
      obtain ⟨sx, hsx⟩ : ∃ sx, bs (Lib.trimS d [48]) = sx := ⟨_, rfl⟩
      have TR' : Hid (∀ w, Calls Tryz.prog 69 #[.string (bs d), .string ⟨#[48]⟩] w fun e w' => e = .returned (.string sx) ∧ Ext w w') := fun w => by
        rw [← hsx]
        exact TR w
      have HB : Hid ((!sx.toList.isEmpty) = !d.all isZ) := by
        show _ = _
        rw [Lib.toList_data, ← hsx]
        show (!(Lib.trimS d [48]).isEmpty) = _
        congr 1
        rw [Bool.eq_iff_iff, List.isEmpty_iff]
        exact trimS_nil d
      clear TR hsx
      obtain ⟨bd, hbd⟩ : ∃ b, bs d = b := ⟨_, rfl⟩
      rw [hbd] at TR' dsz ⊢
      clear hbd
      go_region_held3 (fun w' => w'.cell? ⟨w.heap.size, 0, none⟩ = some (.int .u64 h) ∧ w'.cell? ⟨w.heap.size, 1, none⟩ = some (.int .u64 q)) (first | go_keep | simp [go_sem, *]) (first
        | (go_at_call 69; refine (TR'.out _).mono ?_; rintro rx wD ⟨rfl, eD⟩; have eD' : Ext wr wD := xt (xd (xr _)) eD; clear p0 p1 p2 p3; obtain ⟨⟨p0, p1⟩, p2, p3⟩ := B2.later eD'))
      all_goals go_wp2_with fail
      all_goals exact bodyPost_ret (v := .tuple #[.agg #[.int .u64 h, .int .u64 q], .int .i64 ((n : Int) - (k : Int)), .bool (!sx.toList.isEmpty)]) (by simp [results, Tryz.results30, go_sem, p0, p1]) rfl ⟨⟨h, q, by rw [HB.out, HDs.out], HW2.out⟩, xset (p := ⟨w.heap.size, 1, none⟩) (xset (p := ⟨w.heap.size, 0, none⟩) (xt XR eD') (Nat.le_refl _) (.int .u64 h)) (Nat.le_refl _) (.int .u64 q)⟩

theorem dvN_zero (c : UInt8) (l : List UInt8) (h : isZ c = true) : dvN (c :: l) = dvN l := by
  have : c = 48 := of_decide_eq_true h
  subst this
  rfl
theorem dvN_zD (l : List UInt8) : dvN (zD l) = dvN l := by
  unfold zD
  induction l with
  | nil => rfl
  | cons c l ih =>
    cases h : isZ c
    · rw [List.dropWhile_cons_of_neg (by rw [h]; decide)]
    · rw [List.dropWhile_cons_of_pos h, ih, dvN_zero c l h]
/-- What stands behind the digits: nothing, or a power of ten. -/
def expT (neg : Bool) (r : List UInt8) : Option Int :=
  if r.takeWhile isD = [] ∨ 4 < (r.takeWhile isD).length ∨ r.dropWhile isD ≠ [] then none else some (if neg = true then -(dvN (r.takeWhile isD) : Int) else dvN (r.takeWhile isD))
def expR : List UInt8 → Option Int
  | [] => some 0
  | c :: r => if c = 69 ∨ c = 101 then (if Lib.hasPrefix r [45] = true then expT true (Lib.trimPrefix r [45]) else expT false (Lib.trimPrefix r [43])) else none
def expV : Option Int → Value
  | some v => .tuple #[.int .i64 v, .bool true]
  | none => .tuple #[.int .i64 0, .bool false]
theorem trimPrefix_le (l p : List UInt8) : (Lib.trimPrefix l p).length ≤ l.length := by
  unfold Lib.trimPrefix
  split
  · rw [List.length_drop]; omega
  · exact Nat.le_refl _
theorem wv_small {h q n : Nat} (hv : WV (.agg #[.int .u64 h, .int .u64 q]) n) (hn : n < 100000) : h = 0 ∧ q = n := by
  obtain ⟨h', q', e, h1, h2, h3⟩ := hv
  simp only [Value.agg.injEq, Array.mk.injEq, List.cons.injEq, Value.int.injEq, true_and, and_true] at e
  omega
theorem all_take (l : List UInt8) (P : UInt8 → Bool) : (l.takeWhile P).all P = true := by
  rw [List.all_eq_true]
  intro c hc
  induction l with
  | nil => cases hc
  | cons d l ih =>
    cases h : P d
    · rw [List.takeWhile_cons_of_neg (by rw [h]; decide)] at hc; cases hc
    · rw [List.takeWhile_cons_of_pos h] at hc
      rcases List.mem_cons.1 hc with rfl | hc
      · exact h
      · exact ih hc

set_option maxRecDepth 4000 in
set_option maxHeartbeats 4000000 in
theorem expI (l : List UInt8) (w : World) (hl : l.length ≤ 200) :
    Calls Tryz.prog 29 #[.string (bs l)] w fun e w' => e = .returned (expV (expR l)) ∧ Ext w w' := by
  cases l with
  | nil =>
    show Calls _ _ #[.string ⟨#[]⟩] _ fun e w' => e = .returned (.tuple #[.int .i64 0, .bool true]) ∧ _
    go_enter Tryz.func29, Tryz.ntmps29
    go_wp2
    exact bodyPost_ret (v := .tuple #[.int .i64 0, .bool true]) (by simp [results, Tryz.results29, go_sem]) rfl ⟨rfl, xr _⟩
  | cons c r =>
    have hr : r.length ≤ 199 := by simp at hl; omega
    obtain ⟨s, hs⟩ : ∃ s, bs (c :: r) = s := ⟨_, rfl⟩
    have hsz : s.size = r.length + 1 := by rw [← hs]; rfl
    have h0 : 0 < s.size := by omega
    have hb : ((s[0]'h0).toNat : Int) = (c.toNat : Int) := by
      subst hs
      rfl
    have hne : s.toList.isEmpty = false := by
      rw [Lib.toList_data, ← hs]
      rfl
    have X1 : s.extract 1 (r.length + 1) = bs r := by
      rw [← hs, ext_bs]
      simp
    obtain ⟨n, hn⟩ : ∃ n, r.length = n := ⟨_, rfl⟩
    rw [hn] at hr hsz X1
    obtain ⟨z, hz⟩ : ∃ z : Int, (c.toNat : Int) = z := ⟨_, rfl⟩
    rw [hz] at hb
    have hE : (c = 69 ∨ c = 101) ↔ (z = 69 ∨ z = 101) := by
      rw [← hz]
      constructor
      · rintro (rfl | rfl) <;> decide
      · rintro (h | h)
        · exact .inl (UInt8.toNat_inj.1 (by show c.toNat = 69; omega))
        · exact .inr (UInt8.toNat_inj.1 (by show c.toNat = 101; omega))
    obtain ⟨V, hV⟩ : ∃ V, expV (expR (c :: r)) = V := ⟨_, rfl⟩
    rw [hs, hV]
    simp only [expR] at hV
    clear hs hz
    by_cases hc : z = 69 ∨ z = 101
    · rw [if_pos (hE.2 hc)] at hV
      have CP := fun w => cutPrefixD r 45 w
      have TP := fun w => trimPrefixD r 43 w
      have hz2 : z = 69 ∨ z = 101 := hc
      cases hp : Lib.hasPrefix r [45]
      · rw [hp, if_neg (by decide)] at hV
        rw [hp] at CP
        obtain ⟨r0, hr0⟩ : ∃ m, bs (Lib.trimPrefix r [45]) = m := ⟨_, rfl⟩
        have h45 : Lib.trimPrefix r [45] = r := by unfold Lib.trimPrefix; rw [hp]; rfl
        rw [h45] at CP
        obtain ⟨r1, hr1⟩ : ∃ m, Lib.trimPrefix r [43] = m := ⟨_, rfl⟩
        have r1l : r1.length ≤ 199 := by rw [← hr1]; exact Nat.le_trans (trimPrefix_le _ _) (by rw [hn]; exact hr)
        rw [hr1] at hV
        unfold expT at hV
        have LD0 := fun w => leadD r1 w (by omega)
        have dD := all_take r1 isD
        have dl : (r1.takeWhile isD).length ≤ 199 := Nat.le_trans (List.Sublist.length_le (List.takeWhile_sublist _)) r1l
        obtain ⟨ds, hds⟩ : ∃ m, r1.takeWhile isD = m := ⟨_, rfl⟩
        obtain ⟨rs, hrs⟩ : ∃ m, r1.dropWhile isD = m := ⟨_, rfl⟩
        rw [hds, hrs] at LD0 hV
        rw [hds] at dD dl
        have HDs : Hid (ds.all isD = true) := dD
        have HV : Hid (expV (if ds = [] ∨ 4 < ds.length ∨ rs ≠ [] then none else some (if false = true then -(dvN ds : Int) else dvN ds)) = V) := hV
        have LD : Hid (∀ w, Calls Tryz.prog 28 #[.string (bs r1)] w fun e w' => e = .returned (.tuple #[.string (bs ds), .string (bs rs)]) ∧ Ext w w') := LD0
        have GT : Hid (∀ w2, Calls Tryz.prog 30 #[.string (bs ds)] w2 fun e w' => (∃ h k : Nat, e = .returned (.tuple #[.agg #[.int .u64 h, .int .u64 k], .int .i64 (((zD ds).length - 38 : Nat) : Int), .bool (!((zD ds).drop 38).all isZ)]) ∧ WV (.agg #[.int .u64 h, .int .u64 k]) (dvN ((zD ds).take 38))) ∧ Ext w2 w') := fun w2 => gathI ds w2 dD (by omega)
        rw [hr1] at TP
        clear hV hE LD0 dD dl hr1 hds hrs r1l hp hr0 h45 hn
        obtain ⟨sr0, hsr0⟩ : ∃ b, bs r = b := ⟨_, rfl⟩
        rw [hsr0] at CP TP X1
        clear hsr0
        rcases hz2 with rfl | rfl
        all_goals
          go_enter Tryz.func29, Tryz.ntmps29
          go_wp2_with fail
          refine (CP _).mono ?_
          rintro rr w1 ⟨rfl, rfl⟩
          go_wp2_with fail
          refine (TP _).mono ?_
          rintro rr w1' ⟨rfl, rfl⟩
          go_wp2_with fail
          refine (LD.out _).mono ?_
          rintro rr w2 ⟨rfl, e2⟩
          by_cases c1 : ds = []
          · have HZ : Hid (Value.tuple #[.int .i64 0, .bool false] = V) := by
              show _ = _
              rw [← HV.out, if_pos (.inl c1)]
              rfl
            have b1 : (bs ds).toList.isEmpty = true := by rw [c1, Lib.toList_data]; rfl
            obtain ⟨sd, hsd⟩ : ∃ b, bs ds = b := ⟨_, rfl⟩
            obtain ⟨sr, hsr⟩ : ∃ b, bs rs = b := ⟨_, rfl⟩
            rw [hsd] at b1 ⊢
            rw [hsr]
            clear HV c1 hsd hsr GT
            go_wp2
            exact bodyPost_ret (v := .tuple #[.int .i64 0, .bool false]) (by simp [results, Tryz.results29, go_sem]) rfl ⟨congrArg Ending.returned HZ.out, e2⟩
          have b1 : (bs ds).toList.isEmpty = false := by
            rw [Lib.toList_data]
            show ds.isEmpty = false
            cases ds with
            | nil => exact absurd rfl c1
            | cons a b => rfl
          by_cases c2 : 4 < ds.length
          · have HZ : Hid (Value.tuple #[.int .i64 0, .bool false] = V) := by
              show _ = _
              rw [← HV.out, if_pos (.inr (.inl c2))]
              rfl
            have b2 : (bs ds).size = ds.length := rfl
            have b3 : (4 : Int) < (ds.length : Int) := by omega
            obtain ⟨nd', hnd⟩ : ∃ n, ds.length = n := ⟨_, rfl⟩
            rw [hnd] at b2 b3
            obtain ⟨sd, hsd⟩ : ∃ b, bs ds = b := ⟨_, rfl⟩
            obtain ⟨sr, hsr⟩ : ∃ b, bs rs = b := ⟨_, rfl⟩
            rw [hsd] at b1 b2 ⊢
            rw [hsr]
            clear HV c1 c2 hsd hsr GT hnd
            go_wp2
            exact bodyPost_ret (v := .tuple #[.int .i64 0, .bool false]) (by simp [results, Tryz.results29, go_sem]) rfl ⟨congrArg Ending.returned HZ.out, e2⟩
          have b2 : (bs ds).size = ds.length := rfl
          have b3 : ¬ (4 : Int) < (ds.length : Int) := by omega
          have b3' : decide ((4 : Int) < (ds.length : Int)) = false := decide_eq_false b3
          by_cases c3 : rs = []
          · have HZ : Hid (Value.tuple #[.int .i64 (dvN ds : Int), .bool true] = V) := by
              show _ = _
              rw [← HV.out, if_neg (fun h => by rcases h with h | h | h; exact c1 h; exact c2 h; exact h c3)]
              rfl
            have d4 := dvN_lt ds.length ds rfl HDs.out
            have p4 : 10 ^ ds.length ≤ 10 ^ 4 := Nat.pow_le_pow_right (by decide) (by omega)
            have z38 : (zD ds).take 38 = zD ds := List.take_of_length_le (by have : (zD ds).length ≤ ds.length := List.Sublist.length_le (List.dropWhile_sublist _); omega)
            have GT' : Hid (∀ w2, Calls Tryz.prog 30 #[.string (bs ds)] w2 fun e w' => (∃ (l' : Int) (m' : Bool), e = .returned (.tuple #[.agg #[.int .u64 0, .int .u64 (dvN ds)], .int .i64 l', .bool m'])) ∧ Ext w2 w') := fun w2 => by
              refine (GT.out w2).mono ?_
              rintro e w' ⟨⟨h, q, he, hw⟩, hx⟩
              rw [z38, dvN_zD] at hw
              obtain ⟨e1, e2⟩ := wv_small hw (by omega)
              rw [e1, e2] at he
              exact ⟨⟨_, _, he⟩, hx⟩
            obtain ⟨v, hv⟩ : ∃ v, dvN ds = v := ⟨_, rfl⟩
            rw [hv] at HZ GT' d4
            have v4 : v < 10000 := by omega
            have wv : IntKind.i64.wrap (v : Int) = (v : Int) := by rw [IntKind.wrap_i64]; omega
            have wv' : IntKind.i64.wrap (-(v : Int)) = -(v : Int) := by rw [IntKind.wrap_i64]; omega
            have b4 : (bs rs).toList.isEmpty = true := by rw [c3, Lib.toList_data]; rfl
            obtain ⟨nd', hnd⟩ : ∃ n, ds.length = n := ⟨_, rfl⟩
            rw [hnd] at b2 b3 b3'
            obtain ⟨sd, hsd⟩ : ∃ b, bs ds = b := ⟨_, rfl⟩
            obtain ⟨sr, hsr⟩ : ∃ b, bs rs = b := ⟨_, rfl⟩
            rw [hsd] at b1 b2 GT' ⊢
            rw [hsr] at b4 ⊢
            clear HV c1 c2 c3 hsd hsr GT d4 p4 z38 hv HDs hnd
            go_wp2_with fail
            refine (GT'.out _).mono ?_
            rintro rr w3 ⟨⟨l', m', rfl⟩, e3⟩
            go_wp2_with fail
            exact bodyPost_ret (v := .tuple #[.int .i64 (v : Int), .bool true]) (by simp [results, Tryz.results29, go_sem]) rfl ⟨congrArg Ending.returned HZ.out, xa (xt e2 e3) _⟩
          · have HZ : Hid (Value.tuple #[.int .i64 0, .bool false] = V) := by
              show _ = _
              rw [← HV.out, if_pos (.inr (.inr c3))]
              rfl
            have b4 : (bs rs).toList.isEmpty = false := by
              rw [Lib.toList_data]
              show rs.isEmpty = false
              cases rs with
              | nil => exact absurd rfl c3
              | cons a b => rfl
            obtain ⟨nd', hnd⟩ : ∃ n, ds.length = n := ⟨_, rfl⟩
            rw [hnd] at b2 b3 b3'
            obtain ⟨sd, hsd⟩ : ∃ b, bs ds = b := ⟨_, rfl⟩
            obtain ⟨sr, hsr⟩ : ∃ b, bs rs = b := ⟨_, rfl⟩
            rw [hsd] at b1 b2 ⊢
            rw [hsr] at b4 ⊢
            clear HV c1 c2 c3 hsd hsr GT hnd
            go_wp2
            exact bodyPost_ret (v := .tuple #[.int .i64 0, .bool false]) (by simp [results, Tryz.results29, go_sem]) rfl ⟨congrArg Ending.returned HZ.out, e2⟩
      · rw [hp, if_pos rfl] at hV
        rw [hp] at CP
        obtain ⟨r1, hr1⟩ : ∃ m, Lib.trimPrefix r [45] = m := ⟨_, rfl⟩
        have r1l : r1.length ≤ 199 := by rw [← hr1]; exact Nat.le_trans (trimPrefix_le _ _) (by rw [hn]; exact hr)
        rw [hr1] at hV
        unfold expT at hV
        have LD0 := fun w => leadD r1 w (by omega)
        have dD := all_take r1 isD
        have dl : (r1.takeWhile isD).length ≤ 199 := Nat.le_trans (List.Sublist.length_le (List.takeWhile_sublist _)) r1l
        obtain ⟨ds, hds⟩ : ∃ m, r1.takeWhile isD = m := ⟨_, rfl⟩
        obtain ⟨rs, hrs⟩ : ∃ m, r1.dropWhile isD = m := ⟨_, rfl⟩
        rw [hds, hrs] at LD0 hV
        rw [hds] at dD dl
        have HDs : Hid (ds.all isD = true) := dD
        have HV : Hid (expV (if ds = [] ∨ 4 < ds.length ∨ rs ≠ [] then none else some (if true = true then -(dvN ds : Int) else dvN ds)) = V) := hV
        have LD : Hid (∀ w, Calls Tryz.prog 28 #[.string (bs r1)] w fun e w' => e = .returned (.tuple #[.string (bs ds), .string (bs rs)]) ∧ Ext w w') := LD0
        have GT : Hid (∀ w2, Calls Tryz.prog 30 #[.string (bs ds)] w2 fun e w' => (∃ h k : Nat, e = .returned (.tuple #[.agg #[.int .u64 h, .int .u64 k], .int .i64 (((zD ds).length - 38 : Nat) : Int), .bool (!((zD ds).drop 38).all isZ)]) ∧ WV (.agg #[.int .u64 h, .int .u64 k]) (dvN ((zD ds).take 38))) ∧ Ext w2 w') := fun w2 => gathI ds w2 dD (by omega)
        rw [hr1] at CP
        clear hV hE LD0 dD dl hr1 hds hrs r1l hp TP hn
        obtain ⟨sr0, hsr0⟩ : ∃ b, bs r = b := ⟨_, rfl⟩
        rw [hsr0] at CP X1
        clear hsr0
        rcases hz2 with rfl | rfl
        all_goals
          go_enter Tryz.func29, Tryz.ntmps29
          go_wp2_with fail
          refine (CP _).mono ?_
          rintro rr w1 ⟨rfl, rfl⟩
          go_wp2_with fail
          refine (LD.out _).mono ?_
          rintro rr w2 ⟨rfl, e2⟩
          by_cases c1 : ds = []
          · have HZ : Hid (Value.tuple #[.int .i64 0, .bool false] = V) := by
              show _ = _
              rw [← HV.out, if_pos (.inl c1)]
              rfl
            have b1 : (bs ds).toList.isEmpty = true := by rw [c1, Lib.toList_data]; rfl
            obtain ⟨sd, hsd⟩ : ∃ b, bs ds = b := ⟨_, rfl⟩
            obtain ⟨sr, hsr⟩ : ∃ b, bs rs = b := ⟨_, rfl⟩
            rw [hsd] at b1 ⊢
            rw [hsr]
            clear HV c1 hsd hsr GT
            go_wp2
            exact bodyPost_ret (v := .tuple #[.int .i64 0, .bool false]) (by simp [results, Tryz.results29, go_sem]) rfl ⟨congrArg Ending.returned HZ.out, e2⟩
          have b1 : (bs ds).toList.isEmpty = false := by
            rw [Lib.toList_data]
            show ds.isEmpty = false
            cases ds with
            | nil => exact absurd rfl c1
            | cons a b => rfl
          by_cases c2 : 4 < ds.length
          · have HZ : Hid (Value.tuple #[.int .i64 0, .bool false] = V) := by
              show _ = _
              rw [← HV.out, if_pos (.inr (.inl c2))]
              rfl
            have b2 : (bs ds).size = ds.length := rfl
            have b3 : (4 : Int) < (ds.length : Int) := by omega
            obtain ⟨nd', hnd⟩ : ∃ n, ds.length = n := ⟨_, rfl⟩
            rw [hnd] at b2 b3
            obtain ⟨sd, hsd⟩ : ∃ b, bs ds = b := ⟨_, rfl⟩
            obtain ⟨sr, hsr⟩ : ∃ b, bs rs = b := ⟨_, rfl⟩
            rw [hsd] at b1 b2 ⊢
            rw [hsr]
            clear HV c1 c2 hsd hsr GT hnd
            go_wp2
            exact bodyPost_ret (v := .tuple #[.int .i64 0, .bool false]) (by simp [results, Tryz.results29, go_sem]) rfl ⟨congrArg Ending.returned HZ.out, e2⟩
          have b2 : (bs ds).size = ds.length := rfl
          have b3 : ¬ (4 : Int) < (ds.length : Int) := by omega
          have b3' : decide ((4 : Int) < (ds.length : Int)) = false := decide_eq_false b3
          by_cases c3 : rs = []
          · have HZ : Hid (Value.tuple #[.int .i64 (-(dvN ds : Int)), .bool true] = V) := by
              show _ = _
              rw [← HV.out, if_neg (fun h => by rcases h with h | h | h; exact c1 h; exact c2 h; exact h c3)]
              rfl
            have d4 := dvN_lt ds.length ds rfl HDs.out
            have p4 : 10 ^ ds.length ≤ 10 ^ 4 := Nat.pow_le_pow_right (by decide) (by omega)
            have z38 : (zD ds).take 38 = zD ds := List.take_of_length_le (by have : (zD ds).length ≤ ds.length := List.Sublist.length_le (List.dropWhile_sublist _); omega)
            have GT' : Hid (∀ w2, Calls Tryz.prog 30 #[.string (bs ds)] w2 fun e w' => (∃ (l' : Int) (m' : Bool), e = .returned (.tuple #[.agg #[.int .u64 0, .int .u64 (dvN ds)], .int .i64 l', .bool m'])) ∧ Ext w2 w') := fun w2 => by
              refine (GT.out w2).mono ?_
              rintro e w' ⟨⟨h, q, he, hw⟩, hx⟩
              rw [z38, dvN_zD] at hw
              obtain ⟨e1, e2⟩ := wv_small hw (by omega)
              rw [e1, e2] at he
              exact ⟨⟨_, _, he⟩, hx⟩
            obtain ⟨v, hv⟩ : ∃ v, dvN ds = v := ⟨_, rfl⟩
            rw [hv] at HZ GT' d4
            have v4 : v < 10000 := by omega
            have wv : IntKind.i64.wrap (v : Int) = (v : Int) := by rw [IntKind.wrap_i64]; omega
            have wv' : IntKind.i64.wrap (-(v : Int)) = -(v : Int) := by rw [IntKind.wrap_i64]; omega
            have b4 : (bs rs).toList.isEmpty = true := by rw [c3, Lib.toList_data]; rfl
            obtain ⟨nd', hnd⟩ : ∃ n, ds.length = n := ⟨_, rfl⟩
            rw [hnd] at b2 b3 b3'
            obtain ⟨sd, hsd⟩ : ∃ b, bs ds = b := ⟨_, rfl⟩
            obtain ⟨sr, hsr⟩ : ∃ b, bs rs = b := ⟨_, rfl⟩
            rw [hsd] at b1 b2 GT' ⊢
            rw [hsr] at b4 ⊢
            clear HV c1 c2 c3 hsd hsr GT d4 p4 z38 hv HDs hnd
            go_wp2_with fail
            refine (GT'.out _).mono ?_
            rintro rr w3 ⟨⟨l', m', rfl⟩, e3⟩
            go_wp2_with fail
            exact bodyPost_ret (v := .tuple #[.int .i64 (-(v : Int)), .bool true]) (by simp [results, Tryz.results29, go_sem]) rfl ⟨congrArg Ending.returned HZ.out, xa (xt e2 e3) _⟩
          · have HZ : Hid (Value.tuple #[.int .i64 0, .bool false] = V) := by
              show _ = _
              rw [← HV.out, if_pos (.inr (.inr c3))]
              rfl
            have b4 : (bs rs).toList.isEmpty = false := by
              rw [Lib.toList_data]
              show rs.isEmpty = false
              cases rs with
              | nil => exact absurd rfl c3
              | cons a b => rfl
            obtain ⟨nd', hnd⟩ : ∃ n, ds.length = n := ⟨_, rfl⟩
            rw [hnd] at b2 b3 b3'
            obtain ⟨sd, hsd⟩ : ∃ b, bs ds = b := ⟨_, rfl⟩
            obtain ⟨sr, hsr⟩ : ∃ b, bs rs = b := ⟨_, rfl⟩
            rw [hsd] at b1 b2 ⊢
            rw [hsr] at b4 ⊢
            clear HV c1 c2 c3 hsd hsr GT hnd
            go_wp2
            exact bodyPost_ret (v := .tuple #[.int .i64 0, .bool false]) (by simp [results, Tryz.results29, go_sem]) rfl ⟨congrArg Ending.returned HZ.out, e2⟩
    · rw [if_neg (fun h => hc (hE.1 h))] at hV
      have HV : Hid (Value.tuple #[.int .i64 0, .bool false] = V) := hV
      have c1 : ¬ z = 69 := fun h => hc (.inl h)
      have c2 : ¬ z = 101 := fun h => hc (.inr h)
      have d1 : (z == 69) = false := beq_eq_false_iff_ne.2 c1
      have d2 : (z == 101) = false := beq_eq_false_iff_ne.2 c2
      have d3 : (z != 69) = true := by simp [c1]
      have d4 : (z != 101) = true := by simp [c2]
      clear hV hE hc c1 c2
      go_enter Tryz.func29, Tryz.ntmps29
      go_wp2_with fail
      exact bodyPost_ret (v := .tuple #[.int .i64 0, .bool false]) (by simp [results, Tryz.results29, go_sem]) rfl ⟨congrArg Ending.returned HV.out, xr _⟩

/-- What ReadDec answers behind the sign. -/
def mantR (neg : Bool) (l : List UInt8) : DR :=
  match expR (if Lib.hasPrefix (l.dropWhile isD) [46] = true then (Lib.trimPrefix (l.dropWhile isD) [46]).dropWhile isD else l.dropWhile isD) with
  | none => badR
  | some x =>
    if l.takeWhile isD = [] ∨ (Lib.hasPrefix (l.dropWhile isD) [46] = true ∧ (Lib.trimPrefix (l.dropWhile isD) [46]).takeWhile isD = []) then badR
    else if Lib.hasPrefix (l.dropWhile isD) [46] = true then putR neg (dvN (l.takeWhile isD ++ (Lib.trimPrefix (l.dropWhile isD) [46]).takeWhile isD)) (x - ((Lib.trimPrefix (l.dropWhile isD) [46]).takeWhile isD).length) false
    else putR neg (dvN (l.takeWhile isD)) x false
def readR (l : List UInt8) : DR := if 100 < l.length then badR else mantR (Lib.hasPrefix l [45]) (Lib.trimPrefix l [45])

theorem foldl_dv (b : List UInt8) : ∀ x : Nat, b.foldl (fun a c => a * 10 + (c.toNat - 48)) x = x * 10 ^ b.length + dvN b := by
  induction b with
  | nil => intro x; simp [dvN]
  | cons c b ih =>
    intro x
    unfold dvN
    simp only [List.foldl_cons, List.length_cons]
    rw [ih, ih (0 * 10 + (c.toNat - 48)), Nat.pow_succ]
    have e1 : (x * 10 + (c.toNat - 48)) * 10 ^ b.length = x * 10 * 10 ^ b.length + (c.toNat - 48) * 10 ^ b.length := Nat.add_mul _ _ _
    have e2 : x * (10 ^ b.length * 10) = x * 10 * 10 ^ b.length := by rw [Nat.mul_comm (10 ^ b.length) 10, ← Nat.mul_assoc]
    rw [e1, e2]
    simp only [Nat.zero_mul, Nat.zero_add]
    omega
theorem dvN_app (a b : List UInt8) : dvN (a ++ b) = dvN a * 10 ^ b.length + dvN b := by
  unfold dvN
  rw [List.foldl_append, foldl_dv]
  rfl
theorem dvN_nought {l : List UInt8} (h : l.all isD = true) : (dvN l = 0) ↔ l.all isZ = true := by
  induction l with
  | nil => simp [dvN]
  | cons c l ih =>
    rw [List.all_cons, Bool.and_eq_true] at h
    have e : dvN (c :: l) = (c.toNat - 48) * 10 ^ l.length + dvN l := by
      have := dvN_app [c] l
      rw [show [c] ++ l = c :: l from rfl] at this
      rw [this]
      congr 1
      simp [dvN]
    have hp : 0 < 10 ^ l.length := Nat.pow_pos (by decide)
    have cb := isD_bd h.1
    rw [e, List.all_cons, Bool.and_eq_true, ← ih h.2]
    unfold isZ
    rw [decide_eq_true_eq]
    constructor
    · intro h0
      have h1 : (c.toNat - 48) * 10 ^ l.length = 0 := by omega
      have h2 : c.toNat - 48 = 0 := by
        rcases Nat.mul_eq_zero.1 h1 with h | h
        · exact h
        · omega
      exact ⟨UInt8.toNat_inj.1 (by show c.toNat = 48; omega), by omega⟩
    · rintro ⟨rfl, h0⟩
      rw [h0, show UInt8.toNat 48 - 48 = 0 from rfl, Nat.zero_mul]
theorem dvN_ge {c : UInt8} {l : List UInt8} (hc : isD c = true) (hz : isZ c = false) : 10 ^ l.length ≤ dvN (c :: l) := by
  have e : dvN (c :: l) = (c.toNat - 48) * 10 ^ l.length + dvN l := by
    have := dvN_app [c] l
    rw [show [c] ++ l = c :: l from rfl] at this
    rw [this]
    congr 1
    simp [dvN]
  have cb := isD_bd hc
  have hne : c.toNat ≠ 48 := fun h => by
    have : c = 48 := UInt8.toNat_inj.1 (by show c.toNat = 48; exact h)
    rw [this] at hz
    cases hz
  rw [e]
  have : 1 * 10 ^ l.length ≤ (c.toNat - 48) * 10 ^ l.length := Nat.mul_le_mul_right _ (by omega)
  omega
theorem gath_put (neg : Bool) (l : List UInt8) (e : Int) (h : l.all isD = true) :
    putR neg (dvN ((zD l).take 38)) (e + (((zD l).length - 38 : Nat) : Int)) (!((zD l).drop 38).all isZ) = putR neg (dvN l) e false := by
  rw [← dvN_zD l]
  have mD : (zD l).all isD = true := all_drop h _
  obtain ⟨m, hm⟩ : ∃ m, zD l = m := ⟨_, rfl⟩
  have hhead : ∀ c t, m = c :: t → isZ c = false := fun c t e => dropW_head isZ l (by rw [← e, ← hm]; rfl)
  rw [hm] at mD ⊢
  rcases Nat.lt_or_ge 38 m.length with hlt | hge
  · obtain ⟨j, hj⟩ : ∃ j, m.length - 38 = j := ⟨_, rfl⟩
    have hdl : (m.drop 38).length = j := by rw [List.length_drop, hj]
    have hD : (m.drop 38).all isD = true := by
      rw [List.all_eq_true] at mD ⊢
      exact fun c hc => mD c (List.mem_of_mem_drop hc)
    have hlt2 := dvN_lt j (m.drop 38) hdl hD
    have happ : dvN m = dvN (m.take 38) * 10 ^ j + dvN (m.drop 38) := by
      rw [← hdl, ← dvN_app, List.take_append_drop]
    have hp : 0 < 10 ^ j := Nat.pow_pos (by decide)
    have hdiv : dvN m / 10 ^ j = dvN (m.take 38) := by
      rw [happ, Nat.mul_comm, Nat.mul_add_div hp, Nat.div_eq_of_lt hlt2, Nat.add_zero]
    have hmod : dvN m % 10 ^ j = dvN (m.drop 38) := by
      rw [happ, Nat.mul_comm, Nat.mul_add_mod, Nat.mod_eq_of_lt hlt2]
    have h15 : 15 < nd (dvN m / 10 ^ j) := by
      rw [hdiv]
      cases hm' : m with
      | nil => rw [hm'] at hlt; cases hlt
      | cons c t =>
        have h1 : isD c = true := by rw [hm', List.all_cons, Bool.and_eq_true] at mD; exact mD.1
        have h2 := hhead c t hm'
        have h3 : (c :: t).take 38 = c :: t.take 37 := rfl
        rw [h3]
        have h4 := dvN_ge (l := t.take 37) h1 h2
        have h5 : (t.take 37).length = 37 := by rw [List.length_take]; rw [hm'] at hlt; simp at hlt; omega
        rw [h5] at h4
        exact nd_ge (Nat.le_trans (Nat.pow_le_pow_right (by decide) (by decide)) h4)
    have := put_refine neg (dvN m) j e false h15
    rw [this, hdiv, hmod, hj]
    congr 1
    rw [Bool.false_or, Bool.eq_iff_iff]
    have hn := dvN_nought hD
    rw [decide_eq_true_eq, Ne, hn]
    simp
  · rw [List.take_of_length_le hge, List.drop_of_length_le hge, show m.length - 38 = 0 by omega]
    simp

theorem exp_bd {l : List UInt8} {x : Int} (h : expR l = some x) : -9999 ≤ x ∧ x ≤ 9999 := by
  have key : ∀ neg r, expT neg r = some x → -9999 ≤ x ∧ x ≤ 9999 := by
    intro neg r h
    unfold expT at h
    split at h
    · cases h
    · rename_i hc
      have hl : (r.takeWhile isD).length ≤ 4 := by
        rcases Nat.lt_or_ge 4 (r.takeWhile isD).length with h4 | h4
        · exact absurd (.inr (.inl h4)) hc
        · exact h4
      have h1 := dvN_lt _ _ rfl (all_take r isD)
      have h2 : 10 ^ (r.takeWhile isD).length ≤ 10 ^ 4 := Nat.pow_le_pow_right (by decide) hl
      cases neg <;> simp at h <;> omega
  cases l with
  | nil => simp only [expR, Option.some.injEq] at h; omega
  | cons c r =>
    simp only [expR] at h
    split at h
    · split at h
      · exact key _ _ h
      · exact key _ _ h
    · cases h
set_option maxRecDepth 4000 in
set_option maxHeartbeats 8000000 in
theorem readI (l : List UInt8) (w : World) (hl : l.length ≤ 1048576) (hT : Tens w) :
    Calls Tryz.prog 12 #[.string (bs l)] w fun r w' => r = .returned (resV (readR l)) ∧ Ext w w' := by
  obtain ⟨R, hR⟩ : ∃ R, readR l = R := ⟨_, rfl⟩
  rw [hR]
  show Calls _ _ _ _ fun r w' => r = .returned (.agg #[.bool R.ok, .bool R.neg, .int .i64 R.d, .int .i64 R.e]) ∧ Ext w w'
  unfold readR at hR
  have X0 := x1 w (.cells #[.bool false, .bool false, .int .i64 0, .int .i64 0] 28)
  have Br := Box4.made w (.bool false) (.bool false) (.int .i64 0) (.int .i64 0) 28
  have sz : (bs l).size = l.length := rfl
  by_cases hlen : 100 < l.length
  · rw [if_pos hlen] at hR
    have HZ : Hid (badR = R) := hR
    have hb : (100 : Int) < (l.length : Int) := by omega
    obtain ⟨n, hn⟩ : ∃ n, l.length = n := ⟨_, rfl⟩
    rw [hn] at sz hb hl
    obtain ⟨s, hs⟩ : ∃ s, bs l = s := ⟨_, rfl⟩
    rw [hs] at sz
    rw [hs]
    clear hR hlen hn hs
    obtain ⟨⟨m0, m1, m2, m3⟩, m4, m5, m6, m7⟩ := id Br
    go_enter Tryz.func12, Tryz.ntmps12
    go_wp2_with fail
    exact bodyPost_ret (v := .agg #[.bool false, .bool false, .int .i64 0, .int .i64 0]) (by simp [results, Tryz.results12, go_sem]) rfl ⟨by rw [← HZ.out]; rfl, by first | exact xset (xset (xset (xset X0 (by simp only; omega) _) (by simp only; omega) _) (by simp only; omega) _) (by simp only; omega) _ | exact x1 _ _⟩
  rw [if_neg hlen] at hR
  have hb : ¬ (100 : Int) < (l.length : Int) := by omega
  have hb' : decide ((100 : Int) < (l.length : Int)) = false := decide_eq_false hb
  have CP := fun w => cutPrefixD l 45 w
  obtain ⟨neg, hneg⟩ : ∃ n, Lib.hasPrefix l [45] = n := ⟨_, rfl⟩
  obtain ⟨l1, hl1⟩ : ∃ n, Lib.trimPrefix l [45] = n := ⟨_, rfl⟩
  have l1l : l1.length ≤ 100 := by rw [← hl1]; exact Nat.le_trans (trimPrefix_le _ _) (by omega)
  rw [hneg, hl1] at CP hR
  unfold mantR at hR
  have LD1 := fun w => leadD l1 w (by omega)
  have dD := all_take l1 isD
  have dl : (l1.takeWhile isD).length ≤ 100 := Nat.le_trans (List.Sublist.length_le (List.takeWhile_sublist _)) l1l
  have d2 : (l1.dropWhile isD).length ≤ 100 := Nat.le_trans (List.Sublist.length_le (List.dropWhile_sublist _)) l1l
  obtain ⟨ds, hds⟩ : ∃ n, l1.takeWhile isD = n := ⟨_, rfl⟩
  obtain ⟨l2, hl2⟩ : ∃ n, l1.dropWhile isD = n := ⟨_, rfl⟩
  rw [hds, hl2] at LD1
  rw [hl2, hds] at hR
  rw [hds] at dD dl
  rw [hl2] at d2
  have CP2 := fun w => cutPrefixD l2 46 w
  obtain ⟨n, hn⟩ : ∃ n, l.length = n := ⟨_, rfl⟩
  rw [hn] at sz hb hb' hl
  obtain ⟨s, hs⟩ : ∃ s, bs l = s := ⟨_, rfl⟩
  rw [hs] at sz CP
  rw [hs]
  clear hneg hl1 hds hl2 hlen hn hs l1l
  cases hpt : Lib.hasPrefix l2 [46]
  · rw [hpt] at hR CP2
    rw [if_neg (by decide)] at hR
    have h46 : Lib.trimPrefix l2 [46] = l2 := by unfold Lib.trimPrefix; rw [hpt]; rfl
    rw [h46] at CP2
    have HR : Hid ((match expR l2 with | none => badR | some x => if ds = [] ∨ (false = true ∧ (Lib.trimPrefix l2 [46]).takeWhile isD = []) then badR else if false = true then putR neg (dvN (ds ++ (Lib.trimPrefix l2 [46]).takeWhile isD)) (x - ((Lib.trimPrefix l2 [46]).takeWhile isD).length) false else putR neg (dvN ds) x false) = R) := hR
    have HAD : Hid (ds.all isD = true) := dD
    have HLD : Hid (ds.length ≤ 200) := by show _ ≤ _; omega
    obtain ⟨l4, hl4⟩ : ∃ m, l2 = m := ⟨_, rfl⟩
    rw [hl4] at HR CP2 LD1 d2
    have EX : Hid (∀ w, Calls Tryz.prog 29 #[.string (bs l4)] w fun e w' => e = .returned (expV (expR l4)) ∧ Ext w w') := fun w => expI l4 w (by omega)
    clear hR h46 hpt dD dl d2 hl4
    obtain ⟨s4, hs4⟩ : ∃ s, bs l4 = s := ⟨_, rfl⟩
    rw [hs4] at EX CP2 LD1
    obtain ⟨s1, hs1⟩ : ∃ s, bs l1 = s := ⟨_, rfl⟩
    rw [hs1] at CP LD1
    clear hs4 hs1
    go_enter Tryz.func12, Tryz.ntmps12
    go_upto_region 1 with fail
    obtain ⟨w0, hw0⟩ : ∃ u, w.alloc (.cells #[.bool false, .bool false, .int .i64 0, .int .i64 0] 28) = u := ⟨_, rfl⟩
    rw [hw0] at X0 Br ⊢
    clear hw0
    go_wp2_with fail
    refine (CP _).mono ?_
    rintro rr w1 ⟨rfl, rfl⟩
    go_wp2_with fail
    refine (LD1 _).mono ?_
    rintro rr w2 ⟨rfl, ed⟩
    go_wp2_with fail
    refine (CP2 _).mono ?_
    rintro rr w3 ⟨rfl, rfl⟩
    clear CP CP2 LD1
    go_wp2_with fail
    refine (EX.out _).mono ?_
    rintro rr we ⟨rfl, ee⟩
    have ex := xt ed ee
    cases hx : expR l4 with
    | none =>
      have b0 : expV (none : Option Int) = .tuple #[.int .i64 0, .bool false] := rfl
      rw [b0]
      clear b0
      have HZ : Hid (badR = R) := by show _ = _; rw [← HR.out, hx]
      obtain ⟨⟨m0, m1, m2, m3⟩, m4, m5, m6, m7⟩ := Br.later ex
      go_wp2
      exact bodyPost_ret (v := .agg #[.bool false, .bool false, .int .i64 0, .int .i64 0]) (by simp [results, Tryz.results12, go_sem, m0, m1, m2, m3]) rfl ⟨by rw [← HZ.out]; rfl, xset (xset (xset (xset (xt X0 ex) (by simp only; omega) _) (by simp only; omega) _) (by simp only; omega) _) (by simp only; omega) _⟩
    | some x =>
      have b0 : expV (some x) = .tuple #[.int .i64 x, .bool true] := rfl
      rw [b0]
      clear b0
      have xb := exp_bd hx
      by_cases c1 : ds = []
      · have b1 : (bs ds).toList.isEmpty = true := by rw [c1, Lib.toList_data]; rfl
        obtain ⟨sd, hsd⟩ : ∃ b, bs ds = b := ⟨_, rfl⟩
        rw [hsd] at b1
        rw [hsd]
        have HZ : Hid (badR = R) := by show _ = _; rw [← HR.out, hx]; simp only; rw [if_pos (.inl c1)]
        obtain ⟨⟨m0, m1, m2, m3⟩, m4, m5, m6, m7⟩ := Br.later ex
        go_wp2
        exact bodyPost_ret (v := .agg #[.bool false, .bool false, .int .i64 0, .int .i64 0]) (by simp [results, Tryz.results12, go_sem, m0, m1, m2, m3]) rfl ⟨by rw [← HZ.out]; rfl, xset (xset (xset (xset (xt X0 ex) (by simp only; omega) _) (by simp only; omega) _) (by simp only; omega) _) (by simp only; omega) _⟩
      have b1 : (bs ds).toList.isEmpty = false := by
        rw [Lib.toList_data]
        show ds.isEmpty = false
        cases ds with
        | nil => exact absurd rfl c1
        | cons a b => rfl
      obtain ⟨DD, hDD⟩ : ∃ D, ds = D := ⟨_, rfl⟩
      have DDD : DD.all isD = true := by rw [← hDD]; exact HAD.out
      have DDl : DD.length ≤ 200 := by rw [← hDD]; exact HLD.out
      have hcat : bs ds ++ ⟨#[]⟩ = bs DD := by
        rw [← hDD]
        apply ByteArray.ext
        simp [bs]
      have GT' := fun w2 => gathI DD w2 DDD DDl
      obtain ⟨left, hleft⟩ : ∃ n, (zD DD).length - 38 = n := ⟨_, rfl⟩
      have left200 : left ≤ 200 := by
        have : (zD DD).length ≤ DD.length := List.Sublist.length_le (List.dropWhile_sublist _)
        omega
      obtain ⟨more, hmore⟩ : ∃ n, (!((zD DD).drop 38).all isZ) = n := ⟨_, rfl⟩
      obtain ⟨PW, hPW⟩ : ∃ n, dvN ((zD DD).take 38) = n := ⟨_, rfl⟩
      have hput := gath_put neg DD (x - 0) DDD
      rw [hleft, hmore, hPW] at hput
      rw [hleft, hmore, hPW] at GT'
      have HRR : Hid (putR neg PW (x - 0 + (left : Int)) more = R) := by
        have := HR.out
        rw [hx] at this
        simp only at this
        rw [if_neg (fun h => by rcases h with h | h; exact c1 h; exact absurd h.1 (by decide))] at this
        simp only [Bool.false_eq_true, if_false] at this
        show _ = _
        rw [hput, ← this, ← hDD]
        rw [Int.sub_zero]
      have GTH : Hid (∀ w2, Calls Tryz.prog 30 #[.string (bs DD)] w2 fun e w' => (∃ h k : Nat, e = .returned (.tuple #[.agg #[.int .u64 h, .int .u64 k], .int .i64 (left : Int), .bool more]) ∧ WV (.agg #[.int .u64 h, .int .u64 k]) PW) ∧ Ext w2 w') := GT'
      have PUH : Hid (∀ w2 h k, Tens w2 → WV (.agg #[.int .u64 h, .int .u64 k]) PW → Calls Tryz.prog 19 #[.bool neg, .agg #[.int .u64 h, .int .u64 k], .int .i64 (x - 0 + (left : Int)), .bool more] w2 fun r w' => r = .returned (.agg #[.bool R.ok, .bool R.neg, .int .i64 R.d, .int .i64 R.e]) ∧ Ext w2 w') := fun w2 h k hT hv => by
        rw [← HRR.out]
        exact put_any neg _ more w2 hv (by omega) (by omega) hT
      have wx : IntKind.i64.wrap (x - 0) = x := by rw [IntKind.wrap_i64]; omega
      have wx' : IntKind.i64.wrap x = x := by rw [IntKind.wrap_i64]; omega
      have wy : IntKind.i64.wrap (x + (left : Int)) = x + (left : Int) := by rw [IntKind.wrap_i64]; omega
      rw [Int.sub_zero] at PUH
      have szq : (bs ds).size ≤ 9223372036854775807 := by have := HLD.out; have : (bs ds).size = ds.length := rfl; omega
      obtain ⟨sd, hsd⟩ : ∃ b, bs ds = b := ⟨_, rfl⟩
      rw [hsd] at hcat b1 szq
      rw [hsd]
      obtain ⟨sD, hsD⟩ : ∃ b, bs DD = b := ⟨_, rfl⟩
      rw [hsD] at hcat GTH
      clear HR HRR GT' hput hDD DDD DDl hleft hmore hPW hsd hsD c1 xb hx
      go_wp2_with fail
      refine (GTH.out _).mono ?_
      rintro rr wg ⟨⟨h, k, rfl, hw⟩, eg⟩
      have exg := xt ex eg
      go_wp2_with fail
      refine (PUH.out _ _ _ (hT.later (xa (xt X0 exg) _)) hw).mono ?_
      rintro rr wp ⟨rfl, ep⟩
      have exp := xt (xa exg _) ep
      obtain ⟨⟨m0, m1, m2, m3⟩, m4, m5, m6, m7⟩ := Br.later exp
      go_wp2
      exact bodyPost_ret (v := .agg #[.bool R.ok, .bool R.neg, .int .i64 R.d, .int .i64 R.e]) (by simp [results, Tryz.results12, go_sem, m0, m1, m2, m3]) rfl ⟨rfl, xset (xset (xset (xset (xt X0 exp) (by simp only; omega) _) (by simp only; omega) _) (by simp only; omega) _) (by simp only; omega) _⟩
  · rw [hpt] at hR CP2
    rw [if_pos rfl] at hR
    obtain ⟨l3, hl3⟩ : ∃ m, Lib.trimPrefix l2 [46] = m := ⟨_, rfl⟩
    have l3l : l3.length ≤ 100 := by rw [← hl3]; exact Nat.le_trans (trimPrefix_le _ _) d2
    rw [hl3] at hR CP2
    have LD3 := fun w => leadD l3 w (by omega)
    have pD := all_take l3 isD
    have pl : (l3.takeWhile isD).length ≤ 100 := Nat.le_trans (List.Sublist.length_le (List.takeWhile_sublist _)) l3l
    have d4 : (l3.dropWhile isD).length ≤ 100 := Nat.le_trans (List.Sublist.length_le (List.dropWhile_sublist _)) l3l
    obtain ⟨pa, hpa⟩ : ∃ n, l3.takeWhile isD = n := ⟨_, rfl⟩
    obtain ⟨l4, hl4⟩ : ∃ n, l3.dropWhile isD = n := ⟨_, rfl⟩
    rw [hpa, hl4] at LD3 hR
    rw [hpa] at pD pl
    rw [hl4] at d4
    have HR : Hid ((match expR l4 with | none => badR | some x => if ds = [] ∨ (true = true ∧ pa = []) then badR else if true = true then putR neg (dvN (ds ++ pa)) (x - pa.length) false else putR neg (dvN ds) x false) = R) := hR
    have HAD : Hid ((ds ++ pa).all isD = true) := by show _ = _; rw [List.all_append, dD, pD]; rfl
    have HLD : Hid ((ds ++ pa).length ≤ 200) := by show _ ≤ _; rw [List.length_append]; omega
    have HLP : Hid (pa.length ≤ 100) := pl
    have EX : Hid (∀ w, Calls Tryz.prog 29 #[.string (bs l4)] w fun e w' => e = .returned (expV (expR l4)) ∧ Ext w w') := fun w => expI l4 w (by omega)
    clear hR hl3 hpt dD dl d2 pD pl d4 hpa hl4 l3l
    obtain ⟨s4, hs4⟩ : ∃ s, bs l4 = s := ⟨_, rfl⟩
    rw [hs4] at EX LD3
    obtain ⟨s3, hs3⟩ : ∃ s, bs l3 = s := ⟨_, rfl⟩
    rw [hs3] at CP2 LD3
    obtain ⟨s2, hs2⟩ : ∃ s, bs l2 = s := ⟨_, rfl⟩
    rw [hs2] at CP2 LD1
    obtain ⟨s1, hs1⟩ : ∃ s, bs l1 = s := ⟨_, rfl⟩
    rw [hs1] at CP LD1
    clear hs4 hs3 hs2 hs1
    go_enter Tryz.func12, Tryz.ntmps12
    go_upto_region 1 with fail
    obtain ⟨w0, hw0⟩ : ∃ u, w.alloc (.cells #[.bool false, .bool false, .int .i64 0, .int .i64 0] 28) = u := ⟨_, rfl⟩
    rw [hw0] at X0 Br ⊢
    clear hw0
    go_wp2_with fail
    refine (CP _).mono ?_
    rintro rr w1 ⟨rfl, rfl⟩
    go_wp2_with fail
    refine (LD1 _).mono ?_
    rintro rr w2 ⟨rfl, ed1⟩
    go_wp2_with fail
    refine (CP2 _).mono ?_
    rintro rr w3 ⟨rfl, rfl⟩
    go_wp2_with fail
    refine (LD3 _).mono ?_
    rintro rr w3' ⟨rfl, ed3⟩
    have ed := xt ed1 ed3
    clear CP CP2 LD1 LD3
    go_wp2_with fail
    refine (EX.out _).mono ?_
    rintro rr we ⟨rfl, ee⟩
    have ex := xt ed ee
    cases hx : expR l4 with
    | none =>
      have b0 : expV (none : Option Int) = .tuple #[.int .i64 0, .bool false] := rfl
      rw [b0]
      clear b0
      have HZ : Hid (badR = R) := by show _ = _; rw [← HR.out, hx]
      obtain ⟨⟨m0, m1, m2, m3⟩, m4, m5, m6, m7⟩ := Br.later ex
      go_wp2
      exact bodyPost_ret (v := .agg #[.bool false, .bool false, .int .i64 0, .int .i64 0]) (by simp [results, Tryz.results12, go_sem, m0, m1, m2, m3]) rfl ⟨by rw [← HZ.out]; rfl, xset (xset (xset (xset (xt X0 ex) (by simp only; omega) _) (by simp only; omega) _) (by simp only; omega) _) (by simp only; omega) _⟩
    | some x =>
      have b0 : expV (some x) = .tuple #[.int .i64 x, .bool true] := rfl
      rw [b0]
      clear b0
      have xb := exp_bd hx
      by_cases c1 : ds = []
      · have b1 : (bs ds).toList.isEmpty = true := by rw [c1, Lib.toList_data]; rfl
        obtain ⟨sd, hsd⟩ : ∃ b, bs ds = b := ⟨_, rfl⟩
        rw [hsd] at b1
        rw [hsd]
        have HZ : Hid (badR = R) := by show _ = _; rw [← HR.out, hx]; simp only; rw [if_pos (.inl c1)]
        obtain ⟨⟨m0, m1, m2, m3⟩, m4, m5, m6, m7⟩ := Br.later ex
        go_wp2
        exact bodyPost_ret (v := .agg #[.bool false, .bool false, .int .i64 0, .int .i64 0]) (by simp [results, Tryz.results12, go_sem, m0, m1, m2, m3]) rfl ⟨by rw [← HZ.out]; rfl, xset (xset (xset (xset (xt X0 ex) (by simp only; omega) _) (by simp only; omega) _) (by simp only; omega) _) (by simp only; omega) _⟩
      have b1 : (bs ds).toList.isEmpty = false := by
        rw [Lib.toList_data]
        show ds.isEmpty = false
        cases ds with
        | nil => exact absurd rfl c1
        | cons a b => rfl
      by_cases c2 : pa = []
      · have b2 : (bs pa).toList.isEmpty = true := by rw [c2, Lib.toList_data]; rfl
        obtain ⟨sd, hsd⟩ : ∃ b, bs ds = b := ⟨_, rfl⟩
        rw [hsd] at b1
        rw [hsd]
        obtain ⟨sp, hsp⟩ : ∃ b, bs pa = b := ⟨_, rfl⟩
        rw [hsp] at b2
        rw [hsp]
        have HZ : Hid (badR = R) := by show _ = _; rw [← HR.out, hx]; simp only; rw [if_pos (.inr ⟨by first | rfl | trivial, c2⟩)]
        obtain ⟨⟨m0, m1, m2, m3⟩, m4, m5, m6, m7⟩ := Br.later ex
        go_wp2
        exact bodyPost_ret (v := .agg #[.bool false, .bool false, .int .i64 0, .int .i64 0]) (by simp [results, Tryz.results12, go_sem, m0, m1, m2, m3]) rfl ⟨by rw [← HZ.out]; rfl, xset (xset (xset (xset (xt X0 ex) (by simp only; omega) _) (by simp only; omega) _) (by simp only; omega) _) (by simp only; omega) _⟩
      have b2 : (bs pa).toList.isEmpty = false := by
        rw [Lib.toList_data]
        show pa.isEmpty = false
        cases pa with
        | nil => exact absurd rfl c2
        | cons a b => rfl
      obtain ⟨DD, hDD⟩ : ∃ D, ds ++ pa = D := ⟨_, rfl⟩
      have DDD : DD.all isD = true := by rw [← hDD]; exact HAD.out
      have DDl : DD.length ≤ 200 := by rw [← hDD]; exact HLD.out
      have hcat : bs ds ++ bs pa = bs DD := by
        rw [← hDD]
        apply ByteArray.ext
        simp [bs]
      have GT' := fun w2 => gathI DD w2 DDD DDl
      obtain ⟨left, hleft⟩ : ∃ n, (zD DD).length - 38 = n := ⟨_, rfl⟩
      have left200 : left ≤ 200 := by
        have : (zD DD).length ≤ DD.length := List.Sublist.length_le (List.dropWhile_sublist _)
        omega
      obtain ⟨more, hmore⟩ : ∃ n, (!((zD DD).drop 38).all isZ) = n := ⟨_, rfl⟩
      obtain ⟨PW, hPW⟩ : ∃ n, dvN ((zD DD).take 38) = n := ⟨_, rfl⟩
      have hput := gath_put neg DD (x - (pa.length : Int)) DDD
      rw [hleft, hmore, hPW] at hput
      rw [hleft, hmore, hPW] at GT'
      have HRR : Hid (putR neg PW (x - (pa.length : Int) + (left : Int)) more = R) := by
        have := HR.out
        rw [hx] at this
        simp only at this
        rw [if_neg (fun h => by rcases h with h | h; exact c1 h; exact c2 h.2)] at this
        simp only [if_true] at this
        show _ = _
        rw [hput, ← this, ← hDD]
        skip
      have GTH : Hid (∀ w2, Calls Tryz.prog 30 #[.string (bs DD)] w2 fun e w' => (∃ h k : Nat, e = .returned (.tuple #[.agg #[.int .u64 h, .int .u64 k], .int .i64 (left : Int), .bool more]) ∧ WV (.agg #[.int .u64 h, .int .u64 k]) PW) ∧ Ext w2 w') := GT'
      have hlp := HLP.out
      have PUH : Hid (∀ w2 h k, Tens w2 → WV (.agg #[.int .u64 h, .int .u64 k]) PW → Calls Tryz.prog 19 #[.bool neg, .agg #[.int .u64 h, .int .u64 k], .int .i64 (x - (pa.length : Int) + (left : Int)), .bool more] w2 fun r w' => r = .returned (.agg #[.bool R.ok, .bool R.neg, .int .i64 R.d, .int .i64 R.e]) ∧ Ext w2 w') := fun w2 h k hT hv => by
        rw [← HRR.out]
        exact put_any neg _ more w2 hv (by omega) (by omega) hT
      clear hlp
      have szp : (bs pa).size = pa.length := rfl
      obtain ⟨pl, hpl⟩ : ∃ n, pa.length = n := ⟨_, rfl⟩
      have pl200 : pl ≤ 200 := by have := HLP.out; omega
      rw [hpl] at szp PUH
      have wx : IntKind.i64.wrap (x - (pl : Int)) = x - (pl : Int) := by rw [IntKind.wrap_i64]; omega
      have wy : IntKind.i64.wrap (x - (pl : Int) + (left : Int)) = x - (pl : Int) + (left : Int) := by rw [IntKind.wrap_i64]; omega
      obtain ⟨sp, hsp⟩ : ∃ b, bs pa = b := ⟨_, rfl⟩
      rw [hsp] at hcat b2 szp
      rw [hsp]
      have szq : (bs ds).size + sp.size ≤ 9223372036854775807 := by have := HLD.out; rw [List.length_append] at this; have : (bs ds).size = ds.length := rfl; omega
      obtain ⟨sd, hsd⟩ : ∃ b, bs ds = b := ⟨_, rfl⟩
      rw [hsd] at hcat b1 szq
      rw [hsd]
      obtain ⟨sD, hsD⟩ : ∃ b, bs DD = b := ⟨_, rfl⟩
      rw [hsD] at hcat GTH
      clear HR HRR GT' hput hDD DDD DDl hleft hmore hPW hsd hsD c1 xb hx
      go_wp2_with fail
      refine (GTH.out _).mono ?_
      rintro rr wg ⟨⟨h, k, rfl, hw⟩, eg⟩
      have exg := xt ex eg
      go_wp2_with fail
      refine (PUH.out _ _ _ (hT.later (xa (xt X0 exg) _)) hw).mono ?_
      rintro rr wp ⟨rfl, ep⟩
      have exp := xt (xa exg _) ep
      obtain ⟨⟨m0, m1, m2, m3⟩, m4, m5, m6, m7⟩ := Br.later exp
      go_wp2
      exact bodyPost_ret (v := .agg #[.bool R.ok, .bool R.neg, .int .i64 R.d, .int .i64 R.e]) (by simp [results, Tryz.results12, go_sem, m0, m1, m2, m3]) rfl ⟨rfl, xset (xset (xset (xset (xt X0 exp) (by simp only; omega) _) (by simp only; omega) _) (by simp only; omega) _) (by simp only; omega) _⟩

end Go.Proofs.YtfkihaihbaobeaaGreatDoor

