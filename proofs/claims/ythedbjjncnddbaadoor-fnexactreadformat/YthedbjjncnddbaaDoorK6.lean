/-
  The laws' marks: the text of a mark; rows of formats marked, and held against their marks.
-/
import Derived.Test.YthedbjjncnddbaaDoorKw
import Derived.Laws.IdiomStrings
import Derived.Deep.RegionHeld3
namespace Go.Proofs.YthedbjjncnddbaaDoor
open Go.RowKit

def mtF : Nat → Nat → List UInt8 → List UInt8
  | 0, _, s => s
  | f + 1, k, s => if k = 0 then s else mtF f (k / 10) (UInt8.ofNat (48 + k % 10) :: s)
theorem mtF_zero (f : Nat) (s : List UInt8) : mtF f 0 s = s := by cases f <;> rfl
def markT (k : Nat) : List UInt8 := 109 :: mtF k k []
set_option maxRecDepth 8000 in
set_option maxHeartbeats 2000000 in
theorem markTextL (k : Nat) (w : World) (h1 : 1 ≤ k) (h2 : k ≤ 100000000) :
    Calls Tryd.prog 18 #[.int .i64 k] w fun e w' => e = .returned (sV (markT k)) ∧ Ext w w' := by
  have f1 : decide ((k : Int) ≤ 0) = false := by simp; omega
  obtain ⟨T, hT⟩ : ∃ T, mtF k k [] = T := ⟨_, rfl⟩
  have HT : Hid (mtF k k [] = T) := hT
  have HM : Hid (markT k = 109 :: T) := by show _ = _; unfold markT; rw [hT]
  clear hT
  go_enter Tryd.func18, Tryd.ntmps18
  go_wp2_with fail
  go_loopw [0, 3] (fun a b wr => ∃ (m f : Nat) (s : ByteArray), a = .int .i64 m ∧ b = .string s ∧ m ≤ f ∧ f ≤ 100000000 ∧ Hid (mtF f m s.data.toList = T) ∧ s.size + f ≤ k ∧ Ext w wr) (fun a _ _ => (intOf a).toNat)
  case atStart => exact ⟨k, k, _, rfl, rfl, by omega, h2, HT, by show 0 + k ≤ k; omega, xr _⟩
  case round =>
    obtain ⟨m, f, s, rfl, rfl, hmf, hf, HN, hsz, X⟩ := hrel
    by_cases hm0 : m = 0
    · subst hm0
      have HE : Hid (s.data.toList = T) := by have := HN.out; rw [mtF_zero] at this; exact this
      have hss : (⟨#[109]⟩ : ByteArray).size + s.size ≤ 9223372036854775807 := by show 1 + _ ≤ _; omega
      have HZ : Hid ((⟨#[109]⟩ ++ s : ByteArray) = ⟨(markT k).toArray⟩) := by
        show _ = _
        rw [HM.out, ← HE.out]
        apply ByteArray.ext
        rw [ByteArray.data_append]
        apply Array.ext'
        simp
      go_wp2_with fail
      go_ret
      exact ⟨congrArg (fun z => Ending.returned (Value.string z)) HZ.out, X⟩
    · obtain ⟨f, rfl⟩ : ∃ g, f = g + 1 := ⟨f - 1, by omega⟩
      have hm1 : decide ((m : Int) > 0) = true := by simp; omega
      obtain ⟨a, ha⟩ : ∃ a : Nat, m % 10 = a := ⟨_, rfl⟩
      obtain ⟨q, hq⟩ : ∃ q : Nat, m / 10 = q := ⟨_, rfl⟩
      have ha' : (m : Int).tmod 10 = (a : Int) := by rw [Int.tmod_eq_emod_of_nonneg (by omega)]; omega
      have hq' : (m : Int).tdiv 10 = (q : Int) := by rw [Int.tdiv_eq_ediv_of_nonneg (by omega)]; omega
      have a10 : a < 10 := by omega
      have q200 : q < m := by omega
      have hcv := run_convert_bytes_back (P := Tryd.prog) (wr.alloc (.cells #[.int .u8 (48 + (a : Int))] 5)) 59 9 5 ⟨wr.heap.size, 0, none⟩ 1 [UInt8.ofNat (48 + a)] Tryd.underlying59 Tryd.underlying5 Tryd.underlying9 (fun j hj => by
        have hj' : j = 0 := by simpa using hj
        subst hj'
        simp [go_sem]
        omega)
      rw [List.length_singleton] at hcv
      obtain ⟨t, ht⟩ : ∃ t : ByteArray, (⟨[UInt8.ofNat (48 + a)].toArray⟩ : ByteArray) = t := ⟨_, rfl⟩
      rw [ht] at hcv
      have hts : t.data.toList = [UInt8.ofNat (48 + a)] := by rw [← ht]
      have htz := size_ofL' hts
      have HN2 : Hid (mtF f q (t ++ s).data.toList = T) := by
        have h := HN.out
        unfold mtF at h
        rw [if_neg hm0, ha, hq] at h
        show _ = _
        rw [ByteArray.data_append, Array.toList_append, hts]
        exact h
      simp only [List.length_singleton] at htz
      have hw8 : IntKind.u8.wrap (48 + (a : Int)) = 48 + (a : Int) := by rw [IntKind.wrap_u8]; omega
      clear ha hq hts ht HN HT HM
      go_wp2_with fail
      go_roundw
      case rel => exact ⟨q, f, _, rfl, rfl, by omega, by omega, HN2, by rw [ByteArray.size_append]; omega, xa X _⟩
      case measure => simp [intOf]; omega
/-- The marks of one, from a number on. -/
def markK (m : Nat) : KT := ⟨(m : Int) % 3 == 0, markT (m + 1), markT (m + 2), (m : Int) + 1 + 1 + 1, (m : Int) + 1 + 1 + 1 + 1, (m : Int) + 1 + 1 + 1 + 1 + 1, ((m : Int) + 1 + 1 + 1 + 1 + 1 + 1) % 3 == 0, (m : Int) + 1 + 1 + 1 + 1 + 1 + 1 + 1, markT (m + 8)⟩
def MarkedK (M : List Value) (k0 n : Nat) : Prop := ∀ i, i < n → ∀ j, j < 9 → M[i * 9 + j]? = (markK (k0 + i * 9)).cells[j]?
def setsL (M : List Value) : Nat → List Value → List Value
  | _, [] => M
  | o, u :: us => setsL (M.set o u) (o + 1) us
theorem setsL_length (us : List Value) : ∀ (M : List Value) (o : Nat), (setsL M o us).length = M.length := by
  induction us with
  | nil => intro M o; rfl
  | cons u us ih => intro M o; unfold setsL; rw [ih]; simp
theorem setsL_far (us : List Value) : ∀ (M : List Value) (o i : Nat), i < o → (setsL M o us)[i]? = M[i]? := by
  induction us with
  | nil => intro M o i _; rfl
  | cons u us ih => intro M o i h; unfold setsL; rw [ih _ _ _ (by omega), List.getElem?_set_ne (by omega)]
theorem setsL_at (us : List Value) : ∀ (M : List Value) (o j : Nat), o + us.length ≤ M.length → j < us.length → (setsL M o us)[o + j]? = us[j]? := by
  induction us with
  | nil => intro M o j _ h; cases h
  | cons u us ih =>
    intro M o j h hj
    simp at h hj
    unfold setsL
    cases j with
    | zero => rw [setsL_far _ _ _ _ (by omega), Nat.add_zero, List.getElem?_set_self (by omega)]; rfl
    | succ j =>
      rw [show o + (j + 1) = (o + 1) + j by omega, ih _ _ _ (by simp; omega) (by omega)]
      rfl
theorem MarkedK.next {M : List Value} {k0 k n : Nat} (h : MarkedK M k0 k) (hM : M.length = n * 9) (hk : k < n) (m : Nat) (hm : k0 + k * 9 = m) : MarkedK (setsL M (k * 9) (markK m).cells) k0 (k + 1) := by
  intro i hi j hj
  by_cases e : i = k
  · subst e
    rw [setsL_at _ _ _ _ (by show i * 9 + 9 ≤ _; omega) hj, hm]
  · rw [setsL_far _ _ _ _ (by omega)]
    exact h i (by omega) j hj
theorem flatK_length (l : List KT) : (flatK l).length = l.length * 9 := by
  induction l with
  | nil => rfl
  | cons x l ih => simp [flatK, KT.cells, ih]; omega
/-- A slice of formats, by its cells. -/
def RowY (w : World) (v : Value) (n : Nat) (M : List Value) : Prop :=
  M.length = n * 9 ∧ ∃ p cap, v = .slice p n cap ∧ n ≤ cap ∧ (0 < n → ∃ g, p = some ⟨g, 0, none⟩ ∧ Vec w g M)
theorem RowY.later {w w' : World} {v : Value} {n : Nat} {M : List Value} (h : RowY w v n M) (e : Ext w w') : RowY w' v n M := by
  obtain ⟨h1, p, cap, hv, hc, hg⟩ := h
  refine ⟨h1, p, cap, hv, hc, fun h0 => ?_⟩
  obtain ⟨g, hp, hV⟩ := hg h0
  exact ⟨g, hp, hV.later e⟩
theorem RowY.of_row {w : World} {base : Nat} {v : Value} {l : List KT} (h : OwnF w base v l) : RowY w v l.length (flatK l) := by
  refine ⟨flatK_length l, ?_⟩
  rcases h.2 with ⟨rfl, h0⟩ | ⟨g, cap, cur, rfl, hb, hg, hc, _, hcs, htake⟩
  · exact ⟨none, 0, by rw [h0], by omega, fun h => absurd h0 (by omega)⟩
  · refine ⟨_, cap, rfl, hc, fun _ => ⟨g, rfl, fun i u hi => ⟨?_, ?_⟩⟩⟩
    · have := h.cells (g := g) rfl i u hi
      rw [show (⟨g, 0, none⟩ : Addr).add i = ⟨g, i, none⟩ by unfold Addr.add; split <;> simp_all] at this
      exact this
    · simp [World.frozen?, hg]
theorem grownK_set {w w' : World} {g o : Nat} (h : w.grownBy w' (some g)) (u : Value) : w.grownBy (w'.setCell ⟨g, o, none⟩ u) (some g) :=
  ⟨h.os, h.tape, h.output, by rw [World.size_setCell]; exact h.size, fun k hk hne => by rw [heap_setCell_other _ _ _ _ (fun e => hne (congrArg some e))]; exact h.block k hk hne⟩
theorem grownK_ext {w w' w'' : World} {r : Option Nat} (h : w.grownBy w' r) (e : Ext w' w'') : w.grownBy w'' r :=
  ⟨e.os.trans h.os, e.tape.trans h.tape, e.output.trans h.output, Nat.le_trans h.size e.size, fun k hk hne => (e.block k (Nat.lt_of_lt_of_le hk h.size)).trans (h.block k hk hne)⟩
theorem grownK_refl (w : World) (r : Option Nat) : w.grownBy w r := ⟨rfl, rfl, rfl, Nat.le_refl _, fun _ _ _ => rfl⟩
set_option maxRecDepth 8000 in
set_option maxHeartbeats 4000000 in
theorem markFormats (v : Value) (n : Nat) (L : List Value) (k0 : Nat) (w : World) (h : RowY w v n L) (hn : n ≤ 1000) (k1 : 1 ≤ k0) (k2 : k0 ≤ 20000) :
    Calls Tryd.prog 8 #[v, .int .i64 k0] w fun e w' => e = .returned (.int .i64 ((k0 + n * 9 : Nat) : Int)) ∧ (∃ M, RowY w' v n M ∧ MarkedK M k0 n) ∧ w.grownBy w' (if n = 0 then none else v.ownBlock) := by
  obtain ⟨hL, p, cap, rfl, hcap, hp⟩ := h
  have H1 : Hid (L.length = n * 9) := hL
  have H2 : Hid (0 < n → ∃ g, p = some ⟨g, 0, none⟩ ∧ Vec w g L) := hp
  obtain ⟨row, hrow⟩ : ∃ q, (if n = 0 then none else (Value.slice p n cap).ownBlock) = q := ⟨_, rfl⟩
  have HRow : Hid ((if n = 0 then none else (Value.slice p n cap).ownBlock) = row) := hrow
  rw [hrow]
  clear hL hp hrow
  go_enter Tryd.func8, Tryd.ntmps8
  go_wp2_with fail
  go_loopw [1, 5] (fun q i wr => ∃ k : Nat, k ≤ n ∧ i = .int .i64 k ∧ q = .int .i64 ((k0 + k * 9 : Nat) : Int) ∧ Hid (0 < n → ∃ (g : Nat) (M : List Value), p = some ⟨g, 0, none⟩ ∧ M.length = n * 9 ∧ MarkedK M k0 k ∧ Vec wr g M) ∧ Hid (w.grownBy wr row)) (fun _ i _ => n - (intOf i).toNat)
  case atStart => exact ⟨0, by omega, rfl, rfl, fun h0 => by obtain ⟨g, hg, V⟩ := H2.out h0; exact ⟨g, L, hg, H1.out, fun i hi => absurd hi (by omega), V⟩, grownK_refl _ _⟩
  case round =>
    obtain ⟨k, hk, rfl, rfl, H, HX⟩ := hrel
    by_cases hlt : k < n
    · obtain ⟨g, M, rfl, hM, hK, V⟩ := H.out (by omega)
      have HK : Hid (MarkedK M k0 k) := hK
      have HMl : Hid (M.length = n * 9) := hM
      have hrg : some g = row := by have := HRow.out; rw [if_neg (by omega)] at this; exact this
      have G0 : w.grownBy wr (some g) := by rw [hrg]; exact HX.out
      have HRg : Hid (some g = row) := hrg
      clear hrg HRow H1 H2 H hK HX
      obtain ⟨m, hm⟩ : ∃ m : Nat, k0 + k * 9 = m := ⟨_, rfl⟩
      have hm' : m ≤ 50000000 := by omega
      have hmk : Hid (k0 + (k + 1) * 9 = m + 9) := by show _ = _; omega
      have hmm : Hid (k0 + k * 9 = m) := hm
      rw [hm]
      have i1 : (0 : Int) ≤ (k : Int) := by omega
      have i2 : (k : Int) < (n : Int) := by omega
      clear hm
      obtain ⟨a0, f0⟩ := V (k * 9) _ (List.getElem?_eq_getElem (by omega))
      have V1 := V.put (k * 9) (by omega) (.bool ((m : Int) % 3 == 0))
      have G1 := grownK_set (o := k * 9) G0 (.bool ((m : Int) % 3 == 0))
      have T1 := fun W => markTextL (m + 1) W (by omega) (by omega)
      have T2 := fun W => markTextL (m + 2) W (by omega) (by omega)
      have T8 := fun W => markTextL (m + 8) W (by omega) (by omega)
      rw [show ((m + 1 : Nat) : Int) = (m : Int) + 1 by omega] at T1
      rw [show ((m + 2 : Nat) : Int) = (m : Int) + 1 + 1 by omega] at T2
      rw [show ((m + 8 : Nat) : Int) = (m : Int) + 1 + 1 + 1 + 1 + 1 + 1 + 1 + 1 by omega] at T8
      clear V G0
      go_wp2_with fail
      clear a0 f0
      refine (T1 _).mono ?_
      rintro e w1 ⟨rfl, e1⟩
      have V1 := V1.later e1
      have G1 := grownK_ext G1 e1
      clear e1 T1
      obtain ⟨a1, f1⟩ := V1 (k * 9 + 1) _ (List.getElem?_eq_getElem (by simp only [List.length_set]; omega))
      have V2 := V1.put (k * 9 + 1) (by simp only [List.length_set]; omega) (sV (markT (m + 1)))
      have G2 := grownK_set (o := k * 9 + 1) G1 (sV (markT (m + 1)))
      clear V1 G1
      go_wp2_with fail
      clear a1 f1
      refine (T2 _).mono ?_
      rintro e w2 ⟨rfl, e2⟩
      have V2 := V2.later e2
      have G2 := grownK_ext G2 e2
      clear e2 T2
      obtain ⟨a2, f2⟩ := V2 (k * 9 + 2) _ (List.getElem?_eq_getElem (by simp only [List.length_set]; omega))
      obtain ⟨a3, f3⟩ := V2 (k * 9 + 3) _ (List.getElem?_eq_getElem (by simp only [List.length_set]; omega))
      obtain ⟨a4, f4⟩ := V2 (k * 9 + 4) _ (List.getElem?_eq_getElem (by simp only [List.length_set]; omega))
      obtain ⟨a5, f5⟩ := V2 (k * 9 + 5) _ (List.getElem?_eq_getElem (by simp only [List.length_set]; omega))
      obtain ⟨a6, f6⟩ := V2 (k * 9 + 6) _ (List.getElem?_eq_getElem (by simp only [List.length_set]; omega))
      obtain ⟨a7, f7⟩ := V2 (k * 9 + 7) _ (List.getElem?_eq_getElem (by simp only [List.length_set]; omega))
      have V3 := V2.put (k * 9 + 2) (by simp only [List.length_set]; omega) (sV (markT (m + 2)))
      have G3 := grownK_set (o := k * 9 + 2) G2 (sV (markT (m + 2)))
      have V4 := V3.put (k * 9 + 3) (by simp only [List.length_set]; omega) (.int .i64 ((m : Int) + 1 + 1 + 1))
      have G4 := grownK_set (o := k * 9 + 3) G3 (.int .i64 ((m : Int) + 1 + 1 + 1))
      have V5 := V4.put (k * 9 + 4) (by simp only [List.length_set]; omega) (.int .i64 ((m : Int) + 1 + 1 + 1 + 1))
      have G5 := grownK_set (o := k * 9 + 4) G4 (.int .i64 ((m : Int) + 1 + 1 + 1 + 1))
      have V6 := V5.put (k * 9 + 5) (by simp only [List.length_set]; omega) (.int .i64 ((m : Int) + 1 + 1 + 1 + 1 + 1))
      have G6 := grownK_set (o := k * 9 + 5) G5 (.int .i64 ((m : Int) + 1 + 1 + 1 + 1 + 1))
      have V7 := V6.put (k * 9 + 6) (by simp only [List.length_set]; omega) (.bool (((m : Int) + 1 + 1 + 1 + 1 + 1 + 1) % 3 == 0))
      have G7 := grownK_set (o := k * 9 + 6) G6 (.bool (((m : Int) + 1 + 1 + 1 + 1 + 1 + 1) % 3 == 0))
      have V8 := V7.put (k * 9 + 7) (by simp only [List.length_set]; omega) (.int .i64 ((m : Int) + 1 + 1 + 1 + 1 + 1 + 1 + 1))
      have G8 := grownK_set (o := k * 9 + 7) G7 (.int .i64 ((m : Int) + 1 + 1 + 1 + 1 + 1 + 1 + 1))
      clear V2 V3 V4 V5 V6 V7 G2 G3 G4 G5 G6 G7
      go_wp2_with fail
      clear a2 f2 a3 f3 a4 f4 a5 f5 a6 f6 a7 f7
      refine (T8 _).mono ?_
      rintro e w8 ⟨rfl, e8⟩
      have V8 := V8.later e8
      have G8 := grownK_ext G8 e8
      clear e8 T8
      obtain ⟨a8, f8⟩ := V8 (k * 9 + 8) _ (List.getElem?_eq_getElem (by simp only [List.length_set]; omega))
      have VF : Vec (w8.setCell ⟨g, k * 9 + 8, none⟩ (sV (markT (m + 8)))) g (setsL M (k * 9) (markK m).cells) := V8.put (k * 9 + 8) (by simp only [List.length_set]; omega) (sV (markT (m + 8)))
      have GF := grownK_set (o := k * 9 + 8) G8 (sV (markT (m + 8)))
      obtain ⟨wf, hwf⟩ : ∃ wf, w8.setCell ⟨g, k * 9 + 8, none⟩ (sV (markT (m + 8))) = wf := ⟨_, rfl⟩
      rw [hwf] at VF GF
      have HF : Hid (0 < n → ∃ (g' : Nat) (M' : List Value), (some ⟨g, 0, none⟩ : Option Addr) = some ⟨g', 0, none⟩ ∧ M'.length = n * 9 ∧ MarkedK M' k0 (k + 1) ∧ Vec wf g' M') := fun _ => ⟨g, _, rfl, (setsL_length _ _ _).trans HMl.out, HK.out.next HMl.out hlt m hmm.out, VF⟩
      have HGF : Hid (w.grownBy wf row) := by show World.grownBy _ _ _; rw [← HRg.out]; exact GF
      clear V8 G8 VF GF
      go_wp2_with fail
      go_roundw
      case rel => exact ⟨k + 1, by omega, by go_num, by rw [hmk.out]; go_num, HF, HGF⟩
      case measure => simp [intOf]; omega
    · obtain rfl : k = n := by omega
      go_wp2_with fail
      go_ret
      refine ⟨rfl, ?_, HX.out⟩
      by_cases h0 : 0 < k
      · obtain ⟨g, M, rfl, hM, hK, V⟩ := H.out h0
        exact ⟨M, ⟨hM, _, cap, rfl, hcap, fun _ => ⟨g, rfl, V⟩⟩, hK⟩
      · exact ⟨L, ⟨H1.out, _, cap, rfl, hcap, fun h => absurd h h0⟩, fun i hi => absurd hi (by omega)⟩
set_option maxRecDepth 8000 in
set_option maxHeartbeats 4000000 in
theorem heldFormats (v : Value) (n : Nat) (M : List Value) (k0 : Nat) (w : World) (h : RowY w v n M) (hM : MarkedK M k0 n) (hn : n ≤ 1000) (k1 : 1 ≤ k0) (k2 : k0 ≤ 20000) :
    Calls Tryd.prog 9 #[v, .int .i64 k0] w fun e w' => e = .returned (.int .i64 ((k0 + n * 9 : Nat) : Int)) ∧ Ext w w' := by
  obtain ⟨hL, p, cap, rfl, hcap, hp⟩ := h
  have H1 : Hid (MarkedK M k0 n) := hM
  have H2 : Hid (0 < n → ∃ g, p = some ⟨g, 0, none⟩ ∧ Vec w g M) := hp
  clear hL hp hM
  go_enter Tryd.func9, Tryd.ntmps9
  go_wp2_with fail
  go_loopw [1, 5] (fun q i wr => ∃ k : Nat, k ≤ n ∧ i = .int .i64 k ∧ q = .int .i64 ((k0 + k * 9 : Nat) : Int) ∧ Ext w wr) (fun _ i _ => n - (intOf i).toNat)
  case atStart => exact ⟨0, by omega, rfl, rfl, xr _⟩
  case round =>
    obtain ⟨k, hk, rfl, rfl, X0⟩ := hrel
    by_cases hlt : k < n
    · obtain ⟨g, rfl, V0⟩ := H2.out (by omega)
      have F := H1.out k hlt
      obtain ⟨m, hm⟩ : ∃ m : Nat, k0 + k * 9 = m := ⟨_, rfl⟩
      have hm' : m ≤ 50000000 := by omega
      have hmk : Hid (k0 + (k + 1) * 9 = m + 9) := by show _ = _; omega
      rw [hm] at F ⊢
      have T1 := fun W => markTextL (m + 1) W (by omega) (by omega)
      rw [show ((m + 1 : Nat) : Int) = (m : Int) + 1 by omega] at T1
      have T2 := fun W => markTextL (m + 2) W (by omega) (by omega)
      rw [show ((m + 2 : Nat) : Int) = (m : Int) + 1 + 1 by omega] at T2
      have T8 := fun W => markTextL (m + 8) W (by omega) (by omega)
      rw [show ((m + 8 : Nat) : Int) = (m : Int) + 1 + 1 + 1 + 1 + 1 + 1 + 1 + 1 by omega] at T8
      obtain ⟨tx1, htx1⟩ : ∃ tx, markT (m + 1) = tx := ⟨_, rfl⟩
      simp only [htx1] at T1
      have hp1 : (tx1 == tx1) = true := by simp
      obtain ⟨tx2, htx2⟩ : ∃ tx, markT (m + 2) = tx := ⟨_, rfl⟩
      simp only [htx2] at T2
      have hp2 : (tx2 == tx2) = true := by simp
      obtain ⟨tx8, htx8⟩ : ∃ tx, markT (m + 8) = tx := ⟨_, rfl⟩
      simp only [htx8] at T8
      have hp8 : (tx8 == tx8) = true := by simp
      have HA : Hid (∀ W, Ext wr W → W.cell? ⟨g, k * 9, none⟩ = some (.bool ((m : Int) % 3 == 0)) ∧ W.cell? ⟨g, k * 9 + 1, none⟩ = some (sV tx1) ∧ W.cell? ⟨g, k * 9 + 2, none⟩ = some (sV tx2) ∧ W.cell? ⟨g, k * 9 + 3, none⟩ = some (.int .i64 ((m : Int) + 1 + 1 + 1)) ∧ W.cell? ⟨g, k * 9 + 4, none⟩ = some (.int .i64 ((m : Int) + 1 + 1 + 1 + 1)) ∧ W.cell? ⟨g, k * 9 + 5, none⟩ = some (.int .i64 ((m : Int) + 1 + 1 + 1 + 1 + 1)) ∧ W.cell? ⟨g, k * 9 + 6, none⟩ = some (.bool (((m : Int) + 1 + 1 + 1 + 1 + 1 + 1) % 3 == 0)) ∧ W.cell? ⟨g, k * 9 + 7, none⟩ = some (.int .i64 ((m : Int) + 1 + 1 + 1 + 1 + 1 + 1 + 1)) ∧ W.cell? ⟨g, k * 9 + 8, none⟩ = some (sV tx8)) := fun W e => by
        have V := (V0.later X0).later e
        have q1 := (V (k * 9 + 1) _ (F 1 (by omega))).1
        have q2 := (V (k * 9 + 2) _ (F 2 (by omega))).1
        have q8 := (V (k * 9 + 8) _ (F 8 (by omega))).1
        exact ⟨(V (k * 9 + 0) _ (F 0 (by omega))).1, by rw [← htx1]; exact q1, by rw [← htx2]; exact q2, (V (k * 9 + 3) _ (F 3 (by omega))).1, (V (k * 9 + 4) _ (F 4 (by omega))).1, (V (k * 9 + 5) _ (F 5 (by omega))).1, (V (k * 9 + 6) _ (F 6 (by omega))).1, (V (k * 9 + 7) _ (F 7 (by omega))).1, by rw [← htx8]; exact q8⟩
      have i1 : (0 : Int) ≤ (k : Int) := by omega
      have i2 : (k : Int) < (n : Int) := by omega
      clear V0 F htx1 htx2 htx8 hm
      obtain ⟨a0, a1, a2, a3, a4, a5, a6, a7, a8⟩ := HA.out wr (xr _)
      clear a2 a3 a4 a5 a6 a7 a8
      go_wp2_with fail
      clear a0
      go_region_held3 (fun w' => w'.cell? ⟨g, k * 9 + 1, none⟩ = some (sV tx1)) (go_keep)
        (first
          | (go_at_call 18; refine (T1 _).mono ?_; rintro e v1 ⟨rfl, E1⟩; have Y1 := xt (xd (xr _)) E1; have r1 := cell_later Y1 a1))
      obtain ⟨_, _, a2, _⟩ := HA.out v1 Y1
      clear a1 r1
      go_wp2_with fail
      go_region_held3 (fun w' => w'.cell? ⟨g, k * 9 + 2, none⟩ = some (sV tx2)) (go_keep)
        (first
          | (go_at_call 18; refine (T2 _).mono ?_; rintro e v2 ⟨rfl, E2⟩; have Y2 := xt (xd (xr _)) E2; have r2 := cell_later Y2 a2))
      obtain ⟨_, _, _, a3, a4, a5, a6, a7, a8⟩ := HA.out v2 (xt Y1 Y2)
      clear a2 r2
      go_wp2_with fail
      clear a3 a4 a5 a6 a7
      go_region_held3 (fun w' => w'.cell? ⟨g, k * 9 + 8, none⟩ = some (sV tx8)) (go_keep)
        (first
          | (go_at_call 18; refine (T8 _).mono ?_; rintro e v8 ⟨rfl, E8⟩; have Y8 := xt (xd (xr _)) E8; have r8 := cell_later Y8 a8))
      clear a8 r8
      go_wp2_with fail
      go_roundw
      case rel => exact ⟨k + 1, by omega, by go_num, by rw [hmk.out]; go_num, xt X0 (xt (xt Y1 Y2) Y8)⟩
      case measure => simp [intOf]; omega
    · obtain rfl : k = n := by omega
      go_wp2_with fail
      go_ret
      exact ⟨rfl, X0⟩

end Go.Proofs.YthedbjjncnddbaaDoor
