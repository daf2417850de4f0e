/-
  The laws' marks: the text of a mark; rows of what is shown marked, and held against their marks.
-/
import Derived.Test.YtbipmeldmgpknaaD9g
import Derived.Laws.IdiomStrings
namespace Go.Proofs.Ytbipmeldmgpknaa
open Go.RowKit

def mtF : Nat → Nat → List UInt8 → List UInt8
  | 0, _, s => s
  | f + 1, k, s => if k = 0 then s else mtF f (k / 10) (UInt8.ofNat (48 + k % 10) :: s)
theorem mtF_zero (f : Nat) (s : List UInt8) : mtF f 0 s = s := by cases f <;> rfl
def markT (k : Nat) : List UInt8 := 109 :: mtF k k []
set_option maxRecDepth 8000 in
set_option maxHeartbeats 2000000 in
theorem markTextL (k : Nat) (w : World) (h1 : 1 ≤ k) (h2 : k ≤ 100000000) :
    Calls Try.prog 21 #[.int .i64 k] w fun e w' => e = .returned (sV (markT k)) ∧ Gro w w' := by
  have f1 : decide ((k : Int) ≤ 0) = false := by simp; omega
  obtain ⟨T, hT⟩ : ∃ T, mtF k k [] = T := ⟨_, rfl⟩
  have HT : Hid (mtF k k [] = T) := hT
  have HM : Hid (markT k = 109 :: T) := by show _ = _; unfold markT; rw [hT]
  clear hT
  go_enter Try.func21, Try.ntmps21
  go_wp2_with fail
  go_loopw [0, 3] (fun a b wr => ∃ (m f : Nat) (s : ByteArray), a = .int .i64 m ∧ b = .string s ∧ m ≤ f ∧ f ≤ 100000000 ∧ Hid (mtF f m s.data.toList = T) ∧ s.size + f ≤ k ∧ Gro w wr) (fun a _ _ => (intOf a).toNat)
  case atStart => exact ⟨k, k, _, rfl, rfl, by omega, h2, HT, by show 0 + k ≤ k; omega, gr _⟩
  case round =>
    obtain ⟨m, f, s, rfl, rfl, hmf, hf, HN, hsz, X⟩ := hrel
    by_cases hm0 : m = 0
    · subst hm0
      have HE : Hid (s.data.toList = T) := by have := HN.out; rw [mtF_zero] at this; exact this
      have hss : (⟨#[109]⟩ : ByteArray).size + s.size ≤ 9223372036854775807 := by show 1 + _ ≤ _; omega
      have HZ : Hid ((⟨#[109]⟩ ++ s : ByteArray) = ⟨(markT k).toArray⟩) := by
        show _ = _
        rw [HM.out, ← HE.out]
        apply ByteArray.ext
        rw [ByteArray.data_append]
        apply Array.ext'
        simp
      go_wp2_with fail
      go_ret
      exact ⟨congrArg (fun z => Ending.returned (Value.string z)) HZ.out, X⟩
    · obtain ⟨f, rfl⟩ : ∃ g, f = g + 1 := ⟨f - 1, by omega⟩
      have hm1 : decide ((m : Int) > 0) = true := by simp; omega
      obtain ⟨a, ha⟩ : ∃ a : Nat, m % 10 = a := ⟨_, rfl⟩
      obtain ⟨q, hq⟩ : ∃ q : Nat, m / 10 = q := ⟨_, rfl⟩
      have ha' : (m : Int).tmod 10 = (a : Int) := by rw [Int.tmod_eq_emod_of_nonneg (by omega)]; omega
      have hq' : (m : Int).tdiv 10 = (q : Int) := by rw [Int.tdiv_eq_ediv_of_nonneg (by omega)]; omega
      have a10 : a < 10 := by omega
      have q200 : q < m := by omega
      have hcv := run_convert_bytes_back (P := Try.prog) (wr.alloc (.cells #[.int .u8 (48 + (a : Int))] 5)) 62 9 5 ⟨wr.heap.size, 0, none⟩ 1 [UInt8.ofNat (48 + a)] Try.underlying62 Try.underlying5 Try.underlying9 (fun j hj => by
        have hj' : j = 0 := by simpa using hj
        subst hj'
        simp [go_sem]
        omega)
      rw [List.length_singleton] at hcv
      obtain ⟨t, ht⟩ : ∃ t : ByteArray, (⟨[UInt8.ofNat (48 + a)].toArray⟩ : ByteArray) = t := ⟨_, rfl⟩
      rw [ht] at hcv
      have hts : t.data.toList = [UInt8.ofNat (48 + a)] := by rw [← ht]
      have htz := size_ofL' hts
      have HN2 : Hid (mtF f q (t ++ s).data.toList = T) := by
        have h := HN.out
        unfold mtF at h
        rw [if_neg hm0, ha, hq] at h
        show _ = _
        rw [ByteArray.data_append, Array.toList_append, hts]
        exact h
      simp only [List.length_singleton] at htz
      have hw8 : IntKind.u8.wrap (48 + (a : Int)) = 48 + (a : Int) := by rw [IntKind.wrap_u8]; omega
      clear ha hq hts ht HN HT HM
      go_wp2_with fail
      go_roundw
      case rel => exact ⟨q, f, _, rfl, rfl, by omega, by omega, HN2, by rw [ByteArray.size_append]; omega, ga X _⟩
      case measure => simp [intOf]; omega
/-- The marks of one, from a number on. -/
def markS (m : Nat) : ST := ⟨m, (m : Int) + 1, (m : Int) + 1 + 1, ((m : Int) + 1 + 1 + 1) % 3 == 0, (m : Int) + 1 + 1 + 1 + 1, (m : Int) + 1 + 1 + 1 + 1 + 1, markT (m + 6), ((m : Int) + 1 + 1 + 1 + 1 + 1 + 1 + 1) % 3 == 0⟩
def MarkedS (M : List Value) (k0 n : Nat) : Prop := ∀ i, i < n → ∀ j, j < 8 → M[i * 8 + j]? = (markS (k0 + i * 8)).cells[j]?
def setsL (M : List Value) : Nat → List Value → List Value
  | _, [] => M
  | o, u :: us => setsL (M.set o u) (o + 1) us
theorem setsL_length (us : List Value) : ∀ (M : List Value) (o : Nat), (setsL M o us).length = M.length := by
  induction us with
  | nil => intro M o; rfl
  | cons u us ih => intro M o; unfold setsL; rw [ih]; simp
theorem setsL_far (us : List Value) : ∀ (M : List Value) (o i : Nat), i < o → (setsL M o us)[i]? = M[i]? := by
  induction us with
  | nil => intro M o i _; rfl
  | cons u us ih => intro M o i h; unfold setsL; rw [ih _ _ _ (by omega), List.getElem?_set_ne (by omega)]
theorem setsL_at (us : List Value) : ∀ (M : List Value) (o j : Nat), o + us.length ≤ M.length → j < us.length → (setsL M o us)[o + j]? = us[j]? := by
  induction us with
  | nil => intro M o j _ h; cases h
  | cons u us ih =>
    intro M o j h hj
    simp at h hj
    unfold setsL
    cases j with
    | zero => rw [setsL_far _ _ _ _ (by omega), Nat.add_zero, List.getElem?_set_self (by omega)]; rfl
    | succ j =>
      rw [show o + (j + 1) = (o + 1) + j by omega, ih _ _ _ (by simp; omega) (by omega)]
      rfl
theorem Vec.putL (us : List Value) : ∀ {w : World} {g o : Nat} {M : List Value}, Vec w g M → o + us.length ≤ M.length → Vec (setL w g o us) g (setsL M o us) := by
  induction us with
  | nil => intro w g o M h _; exact h
  | cons u us ih => intro w g o M h hl; simp at hl; exact ih (h.put o (by omega) u) (by simp; omega)
theorem MarkedS.next {M : List Value} {k0 k n : Nat} (h : MarkedS M k0 k) (hM : M.length = n * 8) (hk : k < n) (m : Nat) (hm : k0 + k * 8 = m) : MarkedS (setsL M (k * 8) (markS m).cells) k0 (k + 1) := by
  intro i hi j hj
  by_cases e : i = k
  · subst e
    rw [setsL_at _ _ _ _ (by show i * 8 + 8 ≤ _; omega) hj, hm]
  · rw [setsL_far _ _ _ _ (by omega)]
    exact h i (by omega) j hj
/-- A slice of what is shown, by its cells. -/
def RowX (w : World) (v : Value) (n : Nat) (M : List Value) : Prop :=
  M.length = n * 8 ∧ ∃ p cap, v = .slice p n cap ∧ n ≤ cap ∧ (0 < n → ∃ g, p = some ⟨g, 0, none⟩ ∧ Vec w g M)
theorem RowX.later {w w' : World} {v : Value} {n : Nat} {M : List Value} (h : RowX w v n M) (e : Ext w w') : RowX w' v n M := by
  obtain ⟨h1, p, cap, hv, hc, hg⟩ := h
  refine ⟨h1, p, cap, hv, hc, fun h0 => ?_⟩
  obtain ⟨g, hp, hV⟩ := hg h0
  exact ⟨g, hp, hV.later e⟩
theorem RowX.of_own {w : World} {g : Nat} {l : List ST} {n : Nat} (h : OwnS w g l) (hn : l.length = n) : RowX w (.slice (some ⟨g, 0, none⟩) n n) n (flatS l) := by
  refine ⟨by rw [flatS_length, hn], _, n, rfl, Nat.le_refl _, fun _ => ⟨g, rfl, fun i u hi => ?_⟩⟩
  have hlt : i < l.length * 8 := by rw [← flatS_length]; exact (List.getElem?_eq_some_iff.1 hi).1
  obtain ⟨e, he⟩ : ∃ e, l[i / 8]? = some e := ⟨_, List.getElem?_eq_getElem (by omega)⟩
  have hj : i % 8 < 8 := Nat.mod_lt _ (by omega)
  have hi' : i / 8 * 8 + i % 8 = i := by omega
  have := flatS_at he (i % 8) hj
  rw [hi', hi] at this
  have q := h _ e he (i % 8) u this.symm
  rw [hi'] at q
  exact q
theorem RowX.of_row {w : World} {base : Nat} {v : Value} {l : List ST} (h : OwnR w base v l) : RowX w v l.length (flatS l) := by
  refine ⟨flatS_length l, ?_⟩
  rcases h.2 with ⟨rfl, h0⟩ | ⟨g, cap, cur, rfl, hb, hg, hc, _, hcs, htake⟩
  · exact ⟨none, 0, by rw [h0], by omega, fun h => absurd h0 (by omega)⟩
  · refine ⟨_, cap, rfl, hc, fun _ => ⟨g, rfl, fun i u hi => ⟨?_, ?_⟩⟩⟩
    · have := h.cells (g := g) rfl i u hi
      rw [show (⟨g, 0, none⟩ : Addr).add i = ⟨g, i, none⟩ by unfold Addr.add; split <;> simp_all] at this
      exact this
    · simp [World.frozen?, hg]
theorem RowX.showns {w : World} {v : Value} {l : List ST} (h : RowX w v l.length (flatS l)) : ShownsIn w v l := by
  obtain ⟨_, p, cap, rfl, hc, hg⟩ := h
  refine ⟨p, cap, rfl, hc, fun h0 => ?_⟩
  obtain ⟨g, hp, V⟩ := hg h0
  refine ⟨g, 0, hp, fun i e hi c u hu => ?_⟩
  rw [Nat.zero_add]
  exact (V _ u ((flatS_at hi c (ST.cells_lt hu)).trans hu)).1
theorem RowX.keep {w w' : World} {v : Value} {n : Nat} {M : List Value} {row : Option Nat} (h : RowX w v n M) (hg : w.grownBy w' row) (hr : ∀ g, 0 < n → v.ownBlock = some g → some g ≠ row) : RowX w' v n M := by
  obtain ⟨h1, p, cap, rfl, hc, hp⟩ := h
  refine ⟨h1, p, cap, rfl, hc, fun h0 => ?_⟩
  obtain ⟨g, rfl, V⟩ := hp h0
  have hlt : g < w.heap.size := World.block_lt_of_cell? w ⟨g, 0, none⟩ (V 0 _ (List.getElem?_eq_getElem (by omega))).1
  exact ⟨g, rfl, V.keptR hg (hr g h0 rfl)⟩
theorem RowX.lt {w : World} {v : Value} {n : Nat} {M : List Value} (h : RowX w v n M) (h0 : 0 < n) : ∀ g, v.ownBlock = some g → g < w.heap.size := by
  intro r hr
  obtain ⟨h1, p, cap, rfl, hc, hp⟩ := h
  obtain ⟨g, rfl, V⟩ := hp h0
  have : g = r := by simpa [Value.ownBlock] using hr
  subst this
  exact World.block_lt_of_cell? w ⟨g, 0, none⟩ (V 0 _ (List.getElem?_eq_getElem (by omega))).1
theorem row_is {n g k : Nat} (h : (if n = 0 then none else some g) = some k) : 0 < n ∧ g = k := by
  split at h
  · cases h
  · cases h; exact ⟨by omega, rfl⟩
theorem row_own {n k : Nat} {v : Value} (h : (if n = 0 then none else v.ownBlock) = some k) : 0 < n ∧ v.ownBlock = some k := by
  split at h
  · cases h
  · exact ⟨by omega, h⟩
theorem grown_set {w w' : World} {g o : Nat} (h : w.grownBy w' (some g)) (u : Value) : w.grownBy (w'.setCell ⟨g, o, none⟩ u) (some g) :=
  ⟨h.os, h.tape, h.output, by rw [World.size_setCell]; exact h.size, fun k hk hne => by rw [heap_setCell_other _ _ _ _ (fun e => hne (congrArg some e))]; exact h.block k hk hne⟩
theorem grown_ext {w w' w'' : World} {r : Option Nat} (h : w.grownBy w' r) (e : Ext w' w'') : w.grownBy w'' r :=
  ⟨e.os.trans h.os, e.tape.trans h.tape, e.output.trans h.output, Nat.le_trans h.size e.size, fun k hk hne => (e.block k (Nat.lt_of_lt_of_le hk h.size)).trans (h.block k hk hne)⟩
theorem grown_refl (w : World) (r : Option Nat) : w.grownBy w r := ⟨rfl, rfl, rfl, Nat.le_refl _, fun _ _ _ => rfl⟩
set_option maxRecDepth 8000 in
set_option maxHeartbeats 4000000 in
theorem markShowns (v : Value) (n : Nat) (L : List Value) (k0 : Nat) (w : World) (h : RowX w v n L) (hn : n ≤ 3000000) (k1 : 1 ≤ k0) (k2 : k0 ≤ 20000000) :
    Calls Try.prog 9 #[v, .int .i64 k0] w fun e w' => e = .returned (.int .i64 ((k0 + n * 8 : Nat) : Int)) ∧ (∃ M, RowX w' v n M ∧ MarkedS M k0 n) ∧ w.grownBy w' (if n = 0 then none else v.ownBlock) := by
  obtain ⟨hL, p, cap, rfl, hcap, hp⟩ := h
  have H1 : Hid (L.length = n * 8) := hL
  have H2 : Hid (0 < n → ∃ g, p = some ⟨g, 0, none⟩ ∧ Vec w g L) := hp
  obtain ⟨row, hrow⟩ : ∃ q, (if n = 0 then none else (Value.slice p n cap).ownBlock) = q := ⟨_, rfl⟩
  have HRow : Hid ((if n = 0 then none else (Value.slice p n cap).ownBlock) = row) := hrow
  rw [hrow]
  clear hL hp hrow
  go_enter Try.func9, Try.ntmps9
  go_wp2_with fail
  go_loopw [1, 5] (fun q i wr => ∃ k : Nat, k ≤ n ∧ i = .int .i64 k ∧ q = .int .i64 ((k0 + k * 8 : Nat) : Int) ∧ Hid (0 < n → ∃ (g : Nat) (M : List Value), p = some ⟨g, 0, none⟩ ∧ M.length = n * 8 ∧ MarkedS M k0 k ∧ Vec wr g M) ∧ Hid (w.grownBy wr row)) (fun _ i _ => n - (intOf i).toNat)
  case atStart => exact ⟨0, by omega, rfl, rfl, fun h0 => by obtain ⟨g, hg, V⟩ := H2.out h0; exact ⟨g, L, hg, H1.out, fun i hi => absurd hi (by omega), V⟩, grown_refl _ _⟩
  case round =>
    obtain ⟨k, hk, rfl, rfl, H, HX⟩ := hrel
    by_cases hlt : k < n
    · obtain ⟨g, M, rfl, hM, hK, V⟩ := H.out (by omega)
      have HK : Hid (MarkedS M k0 k) := hK
      have HMl : Hid (M.length = n * 8) := hM
      have hrg : some g = row := by have := HRow.out; rw [if_neg (by omega)] at this; exact this
      have HX' : Hid (w.grownBy wr (some g)) := by show World.grownBy _ _ _; rw [hrg]; exact HX.out
      have HRg : Hid (some g = row) := hrg
      clear hrg HRow
      clear H1 H2 H hK HX
      obtain ⟨m, hm⟩ : ∃ m : Nat, k0 + k * 8 = m := ⟨_, rfl⟩
      have hm' : m ≤ 50000000 := by omega
      have hmk : Hid (k0 + (k + 1) * 8 = m + 8) := by show _ = _; omega
      have hmm : Hid (k0 + k * 8 = m) := hm
      rw [hm]
      obtain ⟨a0, f0⟩ := V (k * 8) _ (List.getElem?_eq_getElem (by omega))
      obtain ⟨a1, f1⟩ := V (k * 8 + 1) _ (List.getElem?_eq_getElem (by omega))
      obtain ⟨a2, f2⟩ := V (k * 8 + 2) _ (List.getElem?_eq_getElem (by omega))
      obtain ⟨a3, f3⟩ := V (k * 8 + 2 + 1) _ (List.getElem?_eq_getElem (by omega))
      obtain ⟨a4, f4⟩ := V (k * 8 + 2 + 1 + 1) _ (List.getElem?_eq_getElem (by omega))
      obtain ⟨a5, f5⟩ := V (k * 8 + 2 + 1 + 2) _ (List.getElem?_eq_getElem (by omega))
      have i1 : (0 : Int) ≤ (k : Int) := by omega
      have i2 : (k : Int) < (n : Int) := by omega
      have V' : Hid (Vec wr g M) := V
      have MT := fun W => markTextL (m + 6) W (by omega) (by omega)
      rw [show ((m + 6 : Nat) : Int) = (m : Int) + 1 + 1 + 1 + 1 + 1 + 1 by omega] at MT
      clear V hm
      go_wp2_with fail
      clear a0 a1 a2 a3 a4 a5 f0 f1 f2 f3 f4 f5
      obtain ⟨w4, hw4⟩ : ∃ w4, (((((wr.setCell ⟨g, k * 8, none⟩ (.int .i64 (m : Int))).setCell ⟨g, k * 8 + 1, none⟩ (.int .i64 ((m : Int) + 1))).setCell ⟨g, k * 8 + 2, none⟩ (.int .i64 ((m : Int) + 1 + 1))).setCell ⟨g, k * 8 + 2 + 1, none⟩ (.bool (((m : Int) + 1 + 1 + 1) % 3 == 0))).setCell ⟨g, k * 8 + 2 + 1 + 1, none⟩ (.int .i64 ((m : Int) + 1 + 1 + 1 + 1))).setCell ⟨g, k * 8 + 2 + 1 + 2, none⟩ (.int .i64 ((m : Int) + 1 + 1 + 1 + 1 + 1)) = w4 := ⟨_, rfl⟩
      have VP : Vec w4 g (setsL M (k * 8) [.int .i64 (m : Int), .int .i64 ((m : Int) + 1), .int .i64 ((m : Int) + 1 + 1), .bool (((m : Int) + 1 + 1 + 1) % 3 == 0), .int .i64 ((m : Int) + 1 + 1 + 1 + 1), .int .i64 ((m : Int) + 1 + 1 + 1 + 1 + 1)]) := by
        rw [← hw4]
        exact V'.out.putL [.int .i64 (m : Int), .int .i64 ((m : Int) + 1), .int .i64 ((m : Int) + 1 + 1), .bool (((m : Int) + 1 + 1 + 1) % 3 == 0), .int .i64 ((m : Int) + 1 + 1 + 1 + 1), .int .i64 ((m : Int) + 1 + 1 + 1 + 1 + 1)] (by show k * 8 + 6 ≤ _; omega)
      have GP : w.grownBy w4 (some g) := by
        rw [← hw4]
        exact grown_set (grown_set (grown_set (grown_set (grown_set (grown_set (HX'.out) _) _) _) _) _) _
      rw [hw4]
      clear hw4 V' HX'
      refine (MT w4).mono ?_
      rintro e w5 ⟨rfl, e5⟩
      have VQ := VP.later e5.1
      have GQ := grown_ext GP e5.1
      have hl4 := setsL_length [.int .i64 (m : Int), .int .i64 ((m : Int) + 1), .int .i64 ((m : Int) + 1 + 1), .bool (((m : Int) + 1 + 1 + 1) % 3 == 0), .int .i64 ((m : Int) + 1 + 1 + 1 + 1), .int .i64 ((m : Int) + 1 + 1 + 1 + 1 + 1)] M (k * 8)
      obtain ⟨a6, f6⟩ := VQ (k * 8 + 2 + 4) _ (List.getElem?_eq_getElem (by rw [hl4]; omega))
      obtain ⟨wg, hwg⟩ : ∃ wg, w5.setCell ⟨g, k * 8 + 2 + 4, none⟩ (sV (markT (m + 6))) = wg := ⟨_, rfl⟩
      have VG := VQ.put (k * 8 + 2 + 4) (by rw [hl4]; omega) (sV (markT (m + 6)))
      have GG := grown_set (o := k * 8 + 2 + 4) GQ (sV (markT (m + 6)))
      rw [hwg] at VG GG
      obtain ⟨a7, f7⟩ := VG (k * 8 + 7) _ (List.getElem?_eq_getElem (by rw [List.length_set, hl4]; omega))
      have VF : Vec (wg.setCell ⟨g, k * 8 + 7, none⟩ (.bool (((m : Int) + 1 + 1 + 1 + 1 + 1 + 1 + 1) % 3 == 0))) g (setsL M (k * 8) (markS m).cells) := VG.put (k * 8 + 7) (by rw [List.length_set, hl4]; omega) _
      have GF := grown_set (o := k * 8 + 7) GG (.bool (((m : Int) + 1 + 1 + 1 + 1 + 1 + 1 + 1) % 3 == 0))
      obtain ⟨wf, hwf⟩ : ∃ wf, wg.setCell ⟨g, k * 8 + 7, none⟩ (.bool (((m : Int) + 1 + 1 + 1 + 1 + 1 + 1 + 1) % 3 == 0)) = wf := ⟨_, rfl⟩
      rw [hwf] at VF GF
      have HF : Hid (0 < n → ∃ (g' : Nat) (M' : List Value), (some ⟨g, 0, none⟩ : Option Addr) = some ⟨g', 0, none⟩ ∧ M'.length = n * 8 ∧ MarkedS M' k0 (k + 1) ∧ Vec wf g' M') := fun _ => ⟨g, _, rfl, (setsL_length _ _ _).trans HMl.out, HK.out.next HMl.out hlt m hmm.out, VF⟩
      have HGF : Hid (w.grownBy wf row) := by show World.grownBy _ _ _; rw [← HRg.out]; exact GF
      clear VP GP VQ GQ VF e5 MT GF VG GG
      go_wp2_with fail
      go_roundw
      case rel => exact ⟨k + 1, by omega, by go_num, by rw [hmk.out]; go_num, HF, HGF⟩
      case measure => simp [intOf]; omega
    · obtain rfl : k = n := by omega
      go_wp2_with fail
      go_ret
      refine ⟨rfl, ?_, HX.out⟩
      by_cases h0 : 0 < k
      · obtain ⟨g, M, rfl, hM, hK, V⟩ := H.out h0
        exact ⟨M, ⟨hM, _, cap, rfl, hcap, fun _ => ⟨g, rfl, V⟩⟩, hK⟩
      · exact ⟨L, ⟨H1.out, _, cap, rfl, hcap, fun h => absurd h h0⟩, fun i hi => absurd hi (by omega)⟩
set_option maxRecDepth 8000 in
set_option maxHeartbeats 4000000 in
theorem heldShowns (v : Value) (n : Nat) (M : List Value) (k0 : Nat) (w : World) (h : RowX w v n M) (hM : MarkedS M k0 n) (hn : n ≤ 3000000) (k1 : 1 ≤ k0) (k2 : k0 ≤ 20000000) :
    Calls Try.prog 10 #[v, .int .i64 k0] w fun e w' => e = .returned (.int .i64 ((k0 + n * 8 : Nat) : Int)) ∧ Ext w w' := by
  obtain ⟨hL, p, cap, rfl, hcap, hp⟩ := h
  have H1 : Hid (MarkedS M k0 n) := hM
  have H2 : Hid (0 < n → ∃ g, p = some ⟨g, 0, none⟩ ∧ Vec w g M) := hp
  clear hL hp hM
  go_enter Try.func10, Try.ntmps10
  go_wp2_with fail
  go_loopw [1, 5] (fun q i wr => ∃ k : Nat, k ≤ n ∧ i = .int .i64 k ∧ q = .int .i64 ((k0 + k * 8 : Nat) : Int) ∧ Ext w wr) (fun _ i _ => n - (intOf i).toNat)
  case atStart => exact ⟨0, by omega, rfl, rfl, xr _⟩
  case round =>
    obtain ⟨k, hk, rfl, rfl, X0⟩ := hrel
    by_cases hlt : k < n
    · obtain ⟨g, rfl, V0⟩ := H2.out (by omega)
      have V := V0.later X0
      have F := H1.out k hlt
      clear V0
      obtain ⟨m, hm⟩ : ∃ m : Nat, k0 + k * 8 = m := ⟨_, rfl⟩
      have hm' : m ≤ 50000000 := by omega
      have hmk : Hid (k0 + (k + 1) * 8 = m + 8) := by show _ = _; omega
      rw [hm] at F ⊢
      have a0 : wr.cell? ⟨g, k * 8, none⟩ = some (.int .i64 (m : Int)) := (V (k * 8 + 0) _ (F 0 (by omega))).1
      have a1 : wr.cell? ⟨g, k * 8 + 1, none⟩ = some (.int .i64 ((m : Int) + 1)) := (V (k * 8 + 1) _ (F 1 (by omega))).1
      have a2 : wr.cell? ⟨g, k * 8 + 2, none⟩ = some (.int .i64 ((m : Int) + 1 + 1)) := (V (k * 8 + 2) _ (F 2 (by omega))).1
      have a3 : wr.cell? ⟨g, k * 8 + 2 + 1, none⟩ = some (.bool (((m : Int) + 1 + 1 + 1) % 3 == 0)) := (V (k * 8 + 3) _ (F 3 (by omega))).1
      have a4 : wr.cell? ⟨g, k * 8 + 2 + 1 + 1, none⟩ = some (.int .i64 ((m : Int) + 1 + 1 + 1 + 1)) := (V (k * 8 + 4) _ (F 4 (by omega))).1
      have a5 : wr.cell? ⟨g, k * 8 + 2 + 1 + 2, none⟩ = some (.int .i64 ((m : Int) + 1 + 1 + 1 + 1 + 1)) := (V (k * 8 + 5) _ (F 5 (by omega))).1
      have a6 : wr.cell? ⟨g, k * 8 + 2 + 4, none⟩ = some (sV (markT (m + 6))) := (V (k * 8 + 6) _ (F 6 (by omega))).1
      have a7 : wr.cell? ⟨g, k * 8 + 7, none⟩ = some (.bool (((m : Int) + 1 + 1 + 1 + 1 + 1 + 1 + 1) % 3 == 0)) := (V (k * 8 + 7) _ (F 7 (by omega))).1
      obtain ⟨tx, htx⟩ : ∃ tx, markT (m + 6) = tx := ⟨_, rfl⟩
      have hb : g < wr.heap.size := World.block_lt_of_cell? _ _ a0
      rw [htx] at a6
      have A6 := cell_grown hb a6
      have A7 : Hid (wr.cell? ⟨g, k * 8 + 7, none⟩ = some (.bool (((m : Int) + 1 + 1 + 1 + 1 + 1 + 1 + 1) % 3 == 0))) := a7
      have MT := fun n os => Calls.grown_of ((markTextL (m + 6) (Go.Sort.grow (wr.drewN n) os) (by omega) (by omega)).mono (fun _ _ q => ⟨q.1, q.2.grown⟩))
      rw [show ((m + 6 : Nat) : Int) = (m : Int) + 1 + 1 + 1 + 1 + 1 + 1 by omega, htx] at MT
      have i1 : (0 : Int) ≤ (k : Int) := by omega
      have i2 : (k : Int) < (n : Int) := by omega
      have hmix : Try.prog.follows .mixedOrders = true := by kernel_rfl
      clear F V htx hm a6 a7
      go_wp2_with fail
      clear a0 a1 a2 a3 a4 a5
      go_quiet_grown (first | (go_at_call 21; exact MT _ _))
      have E2 := ext_grow wr nq osq
      generalize Go.Sort.grow (wr.drewN nq) osq = wq at E2
      have a7 := cell_later E2 A7.out
      have X1 := xt X0 E2
      clear A6 A7 MT E2 X0 hb
      go_wp2_with fail
      go_roundw
      case rel => exact ⟨k + 1, by omega, by go_num, by rw [hmk.out]; go_num, X1⟩
      case measure => simp [intOf]; omega
    · obtain rfl : k = n := by omega
      go_wp2_with fail
      go_ret
      exact ⟨rfl, X0⟩

end Go.Proofs.Ytbipmeldmgpknaa
