/-
  Chapter 14: whether a field has one of four bytes, by the library.
-/
import Derived.Test.YtpdfalpoidlegaaDoorSt3
import Derived.Deep.DeepCutAuto
import Derived.Lib.OthersKept
namespace Go.Proofs.YtpdfalpoidlegaaDoor
open Go.RowKit

def chL (m : UInt8) : List UInt8 := [m, 34, 13, 10]
theorem chL_has (m b : UInt8) : (chL m).contains b = (b == m || b == 34 || b == 10 || b == 13) := by
  unfold chL
  simp only [List.contains_cons, List.contains_nil, Bool.or_false, Bool.or_assoc]
  cases (b == m) <;> cases (b == 34) <;> cases (b == 13) <;> cases (b == 10) <;> rfl
theorem needB_any (m : UInt8) (f : List UInt8) : needB m f = f.any fun b => (chL m).contains b := by
  unfold needB
  congr 1
  funext b
  rw [chL_has]
theorem fIndexAny14 : layIndexAny_ren.f 153 = 23 := by kernel_rfl
theorem fIndexRune14 : layIndexAny_ren.f 152 = 25 := by kernel_rfl
theorem fUse14 : layIndexAny_ren.f 226 = 26 := by kernel_rfl
theorem useI (n : Nat) (w : World) (h : n ≤ 8) : Calls Tryd.prog 26 #[.int .i64 n] w fun e w' => e = .returned (.bool false) ∧ w' = w := by
  have g : decide ((n : Int) > 8) = false := by simp; omega
  go_enter Tryd.func26, Tryd.ntmps26
  go_wp2_with fail
  go_ret
  exact ⟨rfl, rfl⟩
theorem any_nat {f : List UInt8} {g : UInt8 → Bool} {i : Nat} (h1 : (f.take i).any g = false) (j : Nat) (hij : i ≤ j) (hp : ∀ k b, i ≤ k → k < j → f[k]? = some b → g b = false) : (f.take j).any g = false := by
  induction j with
  | zero =>
    obtain rfl : i = 0 := by omega
    exact h1
  | succ j ih =>
    by_cases e : i = j + 1
    · subst e; exact h1
    · have := ih (by omega) (fun k b h2 h3 => hp k b h2 (by omega))
      rw [List.take_add_one, List.any_append, this]
      cases hj : f[j]? with
      | none => rfl
      | some b => simp [hp j b (by omega) (by omega) hj]
theorem iterAt_ext {w wr : World} {k : Nat} (s : ByteArray) (p : Nat) (h : Ext w wr) (hk : w.heap.size ≤ k) : Ext w (wr.iterAt k s p) :=
  ⟨h.os, h.tape, h.output, by have := h.size; simp [World.iterAt]; omega, fun j hj => by
    have := h.block j hj
    unfold World.iterAt
    simp only
    rw [Array.getElem?_setIfInBounds_ne (by omega)]
    exact this⟩
set_option maxRecDepth 8000 in
set_option maxHeartbeats 2000000 in
theorem anyShort (f : List UInt8) (m : UInt8) (w : World) (hm : m.toNat < 128) (h8 : f.length ≤ 8) :
    Calls Tryd.prog 23 #[sV f, sV (chL m)] w fun e w' => ∃ k : Int, e = .returned (.int .i64 k) ∧ decide (0 ≤ k) = needB m f ∧ Ext w w' := by
  obtain ⟨s, hs⟩ : ∃ s : ByteArray, (⟨f.toArray⟩ : ByteArray) = s := ⟨_, rfl⟩
  obtain ⟨ch, hch⟩ : ∃ s : ByteArray, (⟨(chL m).toArray⟩ : ByteArray) = s := ⟨_, rfl⟩
  have HF : Hid (s.data.toList = f) := by show _ = _; rw [← hs]
  have HC : Hid (ch.data.toList = chL m) := by show _ = _; rw [← hch]
  have hsz : s.size = f.length := by rw [← hs]; rfl
  have hcz : ch.size = 4 := by rw [← hch]; rfl
  have HA : Hid (∀ j (h : j < ch.size), (ch[j]'h).toNat < 128) := fun j h => by
    have h1 := byte_atA HC.out h
    rw [h1]
    have h4 : j < 4 := by omega
    match j, h4 with
    | 0, _ => exact hm
    | 1, _ => exact (by decide : (34 : UInt8).toNat < 128)
    | 2, _ => exact (by decide : (13 : UInt8).toNat < 128)
    | 3, _ => exact (by decide : (10 : UInt8).toNat < 128)
  have hemp : ch.toList.isEmpty = false := by rw [ByteArray.toList_eq, HC.out]; rfl
  show Calls Tryd.prog 23 #[.string ⟨f.toArray⟩, .string ⟨(chL m).toArray⟩] w _
  rw [hs, hch]
  obtain ⟨n, hn⟩ : ∃ n, f.length = n := ⟨_, rfl⟩
  have HN : Hid (f.length = n) := hn
  rw [hn] at hsz h8
  clear hs hch hn
  have CU := fun W => useI n W h8
  have HX : Hid (∀ (r : Int) (W : World), 128 ≤ r → Calls Tryd.prog 25 #[.string ch, .int .i32 r] W fun e w' => e = .returned (.int .i64 (-1)) ∧ Ext W w') := fun r W h => runeHigh ch r W hcz HA.out h
  have HL : Hid (∀ (x : UInt8) (W : World), x.toNat < 128 → Calls Tryd.prog 25 #[.string ch, .int .i32 (x.toNat : Int)] W fun e w' => e = .returned (.int .i64 (Lib.indexByte (chL m) x)) ∧ w' = W) := fun x W h => by
    have q := Any.strings_IndexRune_ascii (P := Tryd.prog) (ρ := layIndexAny_ren) { layIndexAny with } ch (x.toNat : Int) W (by omega) (by omega)
    rw [fIndexRune14, HC.out] at q
    simpa using q
  go_enter Tryd.func23, Tryd.ntmps23
  go_wp2_with fail
  refine (CU _).mono ?_
  rintro _ w1 ⟨rfl, rfl⟩
  clear CU
  have HK0 : Hid ((w1.iter s 0).heap[w1.heap.size]? = some (.stringIter s 0) ∧ Ext w1 (w1.iter s 0) ∧ needB m (f.take 0) = false) := ⟨World.iter_heap _ _ _, iter_ext _ _ _, by simp [needB]⟩
  go_wp2_with fail
  go_loopg [9, 10] n (fun g _ _ wx => ∃ i : Nat, i ≤ n ∧ n ≤ i + g ∧ Hid (wx.heap[w1.heap.size]? = some (.stringIter s i) ∧ Ext w1 wx ∧ needB m (f.take i) = false))
  case atStart => exact ⟨0, by omega, by omega, HK0⟩
  case round =>
    clear HK0
    obtain ⟨i, hin, hig, HI⟩ := hrel
    by_cases hlt : i < n
    · obtain ⟨g, rfl⟩ : ∃ g, gk = g + 1 := ⟨gk - 1, by omega⟩
      have hi : i < s.size := by omega
      have hnx := fun ty => Lib.run_next_any_at (P := Tryd.prog) wr w1.heap.size s i ty HI.out.1 hi
      obtain ⟨x, hx⟩ : ∃ x : UInt8, s[i]'hi = x := ⟨_, rfl⟩
      have hxf : f[i]? = some x := by
        have h1 := byte_atA HF.out hi
        rw [hx] at h1
        rw [List.getElem?_eq_getElem (by rw [HN.out]; exact hlt)]
        congr 1
        rw [h1, List.getD, List.getElem?_eq_getElem (by rw [HN.out]; exact hlt)]
        rfl
      by_cases h128 : x.toNat < 128
      · have hd := decode_ascii s i hi (by rw [hx]; exact h128)
        rw [hx] at hd
        rw [hd] at hnx
        have CR := fun W => HL.out x W h128
        have HCT := Lib.contains_iff_indexByte (chL m) x
        obtain ⟨K, hK⟩ : ∃ K, Lib.indexByte (chL m) x = K := ⟨_, rfl⟩
        rw [hK] at CR HCT
        have HIT := Lib.iterAt_heap wr w1.heap.size s i (i + 1) HI.out.1
        have HXT := iterAt_ext s (i + 1) HI.out.2.1 (Nat.le_refl _)
        obtain ⟨w2, hw2⟩ : ∃ q, wr.iterAt w1.heap.size s (i + 1) = q := ⟨_, rfl⟩
        rw [hw2] at HIT HXT
        cases hK2 : decide (0 ≤ K)
        · have HK : Hid (w2.heap[w1.heap.size]? = some (.stringIter s (i + 1)) ∧ Ext w1 w2 ∧ needB m (f.take (i + 1)) = false) := by
            refine ⟨HIT, HXT, ?_⟩
            rw [needB_take hxf, HI.out.2.2, ← chL_has, HCT, hK2]
            rfl
          clear HCT hK HIT HXT HI hxf hd hx
          go_wp2_with (go_at_call 25; refine (CR _).mono ?_; rintro _ w3 ⟨rfl, hw⟩; rw [hw])
          go_roundg g
          case measure => omega
          case rel => exact ⟨i + 1, by omega, by omega, HK⟩
        · have HK : Hid (decide (0 ≤ (i : Int)) = needB m f ∧ Ext w1 w2) := by
            refine ⟨?_, HXT⟩
            have : needB m f = true := by
              rw [needB_any]
              exact List.any_eq_true.2 ⟨x, List.mem_of_getElem? hxf, by rw [HCT, hK2]⟩
            rw [this]
            simp
          clear HCT hK HIT HXT HI hxf hd hx
          go_wp2_with (go_at_call 25; refine (CR _).mono ?_; rintro _ w3 ⟨rfl, hw⟩; rw [hw])
          go_ret
          exact ⟨_, rfl, HK.out.1, HK.out.2⟩
      · have hh : 128 ≤ (s[i]'hi).toNat := by rw [hx]; omega
        have hd := decode_high s i hi hh
        have hp := decode_pass s i hi hh
        obtain ⟨⟨R, Z⟩, hRZ⟩ : ∃ q : Nat × Nat, Utf8.decode s i = q := ⟨_, rfl⟩
        rw [hRZ] at hnx hd hp
        dsimp only at hnx hd hp
        have CR := fun W => HX.out (R : Int) W (by omega)
        have HIT := Lib.iterAt_heap wr w1.heap.size s i (i + Z) HI.out.1
        have HXT := iterAt_ext s (i + Z) HI.out.2.1 (Nat.le_refl _)
        obtain ⟨w2, hw2⟩ : ∃ q, wr.iterAt w1.heap.size s (i + Z) = q := ⟨_, rfl⟩
        rw [hw2] at HIT HXT
        have HK : Hid (w2.heap[w1.heap.size]? = some (.stringIter s (i + Z)) ∧ Ext w1 w2 ∧ needB m (f.take (i + Z)) = false) := by
          refine ⟨HIT, HXT, ?_⟩
          have h1 := HI.out.2.2
          rw [needB_any] at h1 ⊢
          refine any_nat h1 (i + Z) (by omega) (fun k b h2 h3 hb => ?_)
          have hk : k < s.size := by omega
          have h4 := hp.2 k hk h2 h3
          have h5 := byte_atA HF.out hk
          rw [h5, List.getD, hb] at h4
          have h6 : 128 ≤ b.toNat := h4
          rw [chL_has]
          have ne : ∀ y : UInt8, y.toNat < 128 → (b == y) = false := fun y hy => by
            rw [beq_eq_false_iff_ne]
            intro e
            subst e
            omega
          rw [ne m hm, ne 34 (by decide), ne 10 (by decide), ne 13 (by decide)]
          rfl
        have hz1 : 1 ≤ Z := hd.2
        have hz2 : i + Z ≤ n := by have := hp.1; omega
        have hlt2 : w1.heap.size < w2.heap.size := (Array.getElem?_eq_some_iff.1 HIT).1
        clear HIT HXT HI hxf hd hx hp hRZ hh
        go_wp2_with fail
        refine (CR _).mono ?_
        rintro _ w3 ⟨rfl, e3⟩
        have HK3 : Hid (w3.heap[w1.heap.size]? = some (.stringIter s (i + Z)) ∧ Ext w1 w3 ∧ needB m (f.take (i + Z)) = false) := ⟨by rw [e3.block _ hlt2]; exact HK.out.1, xt HK.out.2.1 e3, HK.out.2.2⟩
        go_wp2_with fail
        go_roundg g
        case measure => omega
        case rel => exact ⟨i + Z, by omega, by omega, HK3⟩
    · obtain rfl : i = n := by omega
      have hnx := fun ty => Lib.run_next_end_at (P := Tryd.prog) wr w1.heap.size s i ty HI.out.1 (by omega)
      have HE : Hid (needB m f = false ∧ Ext w1 wr) := by
        have := HI.out.2.2
        rw [List.take_of_length_le (by rw [HN.out]; omega)] at this
        exact ⟨this, HI.out.2.1⟩
      clear HI
      go_wp2_with fail
      go_ret
      exact ⟨_, rfl, by rw [HE.out.1]; rfl, HE.out.2⟩

theorem indexAny_any (f ch : List UInt8) : decide (0 ≤ Lib.indexAny f ch) = f.any fun b => ch.contains b := by
  induction f with
  | nil => rfl
  | cons b f ih =>
    have hg := Lib.indexAny_ge ch f
    rw [Lib.indexAny, List.any_cons, ← ih]
    cases hc : ch.contains b
    · rw [if_neg (by simp)]
      by_cases h : Lib.indexAny f ch = -1
      · rw [if_pos (by simpa using h), h]
        rfl
      · rw [if_neg (by simpa using h)]
        have h1 : decide (0 ≤ Lib.indexAny f ch + 1) = true := by simp; omega
        have h2 : decide (0 ≤ Lib.indexAny f ch) = true := by simp; omega
        rw [h1, h2]
        rfl
    · rw [if_pos rfl]
      rfl
theorem info116 : (Tryd.prog.info? (layIndexAny_ren.t 116)).map (fun i => (i.zero, i.size)) = some (some (.agg (Array.replicate 256 (.bool false))), 256) := by kernel_rfl
theorem anyLong (f : List UInt8) (m : UInt8) (w : World) (hm : m.toNat < 128) (h8 : 8 < f.length) (hl : f.length ≤ 1048576) :
    Calls Tryd.prog 23 #[sV f, sV (chL m)] w fun e w' => ∃ k : Int, e = .returned (.int .i64 k) ∧ decide (0 ≤ k) = needB m f ∧ Ext w w' := by
  have h := Any.strings_IndexAny_long layIndexAny (zero_of_info info116).1 (zero_of_info info116).2 ⟨f.toArray⟩ ⟨(chL m).toArray⟩ w (by show 2 ≤ 4; omega) h8 (by show f.length < _; omega) (by show 4 < _; omega) (fun j b hb => by
    have hb' : (chL m)[j]? = some b := hb
    have hj : j < 4 := (List.getElem?_eq_some_iff.1 hb').1
    match j, hj with
    | 0, _ => cases hb'; exact hm
    | 1, _ => cases hb'; decide
    | 2, _ => cases hb'; decide
    | 3, _ => cases hb'; decide)
  rw [fIndexAny14] at h
  refine h.mono fun e w' ⟨he, hw⟩ => ⟨_, he, ?_, by rw [hw]; exact xa (x1 w _) _⟩
  rw [indexAny_any, needB_any]
theorem anyI (f : List UInt8) (m : UInt8) (w : World) (hm : m.toNat < 128) (hl : f.length ≤ 1048576) :
    Calls Tryd.prog 23 #[sV f, sV (chL m)] w fun e w' => ∃ k : Int, e = .returned (.int .i64 k) ∧ decide (0 ≤ k) = needB m f ∧ Ext w w' := by
  by_cases h8 : f.length ≤ 8
  · exact anyShort f m w hm h8
  · exact anyLong f m w hm (by omega) hl
set_option maxHeartbeats 1000000 in
theorem containsI (f : List UInt8) (m : UInt8) (w : World) (hm : m.toNat < 128) (hl : f.length ≤ 1048576) :
    Calls Tryd.prog 20 #[sV f, sV (chL m)] w fun e w' => e = .returned (.bool (needB m f)) ∧ Ext w w' := by
  have C := anyI f m w hm hl
  obtain ⟨q, hq⟩ : ∃ q, needB m f = q := ⟨_, rfl⟩
  rw [hq] at C ⊢
  clear hq hl hm
  go_enter Tryd.func20, Tryd.ntmps20
  go_wp2_with fail
  refine C.mono ?_
  rintro _ w1 ⟨k, rfl, hk, e1⟩
  go_wp2_with fail
  go_ret
  exact ⟨ret_bool (by rw [← hk]), e1⟩

end Go.Proofs.YtpdfalpoidlegaaDoor
