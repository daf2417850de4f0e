/-
  Several texts in one: W9t, Qa.
-/
import Derived.Test.YtjlephnmofhjaaaDoorMg5
import Derived.Test.YtjlephnmofhjaaaDoorV7f
import Derived.Laws.IdiomStrings
import Derived.BigQuiet
import Derived.Deep.RegionHeld3
import Derived.Deep.QuietTactic
namespace Go.Proofs.YtjlephnmofhjaaaDoor
open Go.RowKit

def mtF : Nat → Nat → List UInt8 → List UInt8
 | 0, _, s => s
 | f + 1, k, s => if k = 0 then s else mtF f (k / 10) (UInt8.ofNat (48 + k % 10) :: s)
theorem mtF_zero (f : Nat) (s : List UInt8) : mtF f 0 s = s := by cases f <;> rfl
def markT (k : Nat) : List UInt8 := 109 :: mtF k k []
set_option maxRecDepth 8000 in
set_option maxHeartbeats 2000000 in
theorem markTextL (k : Nat) (w : World) (h1 : 1 ≤ k) (h2 : k ≤ 100000000) :
  Calls Tryd.prog 36 #[.int .i64 k] w fun e w' => e = .returned (sV (markT k)) ∧ Ext w w' := by
 have f1 : decide ((k : Int) ≤ 0) = false := by simp; omega
 obtain ⟨T, hT⟩ : ∃ T, mtF k k [] = T := ⟨_, rfl⟩
 have HT : Hid (mtF k k [] = T) := hT
 have HM : Hid (markT k = 109 :: T) := by show _ = _; unfold markT; rw [hT]
 clear hT
 go_enter Tryd.func36, Tryd.ntmps36
 go_wp2_with fail
 go_loopw [0, 3] (fun a b wr => ∃ (m f : Nat) (s : ByteArray), a = .int .i64 m ∧ b = .string s ∧ m ≤ f ∧ f ≤ 100000000 ∧ Hid (mtF f m s.data.toList = T) ∧ s.size + f ≤ k ∧ Ext w wr) (fun a _ _ => (intOf a).toNat)
 case atStart => exact ⟨k, k, _, rfl, rfl, by omega, h2, HT, by show 0 + k ≤ k; omega, xr _⟩
 case round =>
  obtain ⟨m, f, s, rfl, rfl, hmf, hf, HN, hsz, X⟩ := hrel
  by_cases hm0 : m = 0
  ·
   subst hm0
   have HE : Hid (s.data.toList = T) := by have := HN.out; rw [mtF_zero] at this; exact this
   have hss : (⟨#[109]⟩ : ByteArray).size + s.size ≤ 9223372036854775807 := by show 1 + _ ≤ _; omega
   have HZ : Hid ((⟨#[109]⟩ ++ s : ByteArray) = ⟨(markT k).toArray⟩) := by
    show _ = _
    rw [HM.out, ← HE.out]
    apply ByteArray.ext
    rw [ByteArray.data_append]
    apply Array.ext'
    simp
   go_wp2_with fail
   go_ret
   exact ⟨congrArg (fun z => Ending.returned (Value.string z)) HZ.out, X⟩
  ·
   obtain ⟨f, rfl⟩ : ∃ g, f = g + 1 := ⟨f - 1, by omega⟩
   have hm1 : decide ((m : Int) > 0) = true := by simp; omega
   obtain ⟨a, ha⟩ : ∃ a : Nat, m % 10 = a := ⟨_, rfl⟩
   obtain ⟨q, hq⟩ : ∃ q : Nat, m / 10 = q := ⟨_, rfl⟩
   have ha' : (m : Int).tmod 10 = (a : Int) := by rw [Int.tmod_eq_emod_of_nonneg (by omega)]; omega
   have hq' : (m : Int).tdiv 10 = (q : Int) := by rw [Int.tdiv_eq_ediv_of_nonneg (by omega)]; omega
   have a10 : a < 10 := by omega
   have q200 : q < m := by omega
   have hcv := run_convert_bytes_back (P := Tryd.prog) (wr.alloc (.cells #[.int .u8 (48 + (a : Int))] 5)) 78 9 5 ⟨wr.heap.size, 0, none⟩ 1 [UInt8.ofNat (48 + a)] Tryd.underlying78 Tryd.underlying5 Tryd.underlying9 (fun j hj => by
    have hj' : j = 0 := by simpa using hj
    subst hj'
    simp [go_sem]
    omega)
   rw [List.length_singleton] at hcv
   obtain ⟨t, ht⟩ : ∃ t : ByteArray, (⟨[UInt8.ofNat (48 + a)].toArray⟩ : ByteArray) = t := ⟨_, rfl⟩
   rw [ht] at hcv
   have hts : t.data.toList = [UInt8.ofNat (48 + a)] := by rw [← ht]
   have htz := size_ofL' hts
   have HN2 : Hid (mtF f q (t ++ s).data.toList = T) := by
    have h := HN.out
    unfold mtF at h
    rw [if_neg hm0, ha, hq] at h
    show _ = _
    rw [ByteArray.data_append, Array.toList_append, hts]
    exact h
   simp only [List.length_singleton] at htz
   have hw8 : IntKind.u8.wrap (48 + (a : Int)) = 48 + (a : Int) := by rw [IntKind.wrap_u8]; omega
   clear ha hq hts ht HN HT HM
   go_wp2_with fail
   go_roundw
   case rel => exact ⟨q, f, _, rfl, rfl, by omega, by omega, HN2, by rw [ByteArray.size_append]; omega, xa X _⟩
   case measure => simp [intOf]; omega
/-- The marks of one value, from a number on. -/
def markE (m : Nat) : VT := ⟨m, ((m : Int) + 1) % 3 == 0, (m : Int) + 1 + 1, (m : Int) + 1 + 1 + 1, markT (m + 4)⟩
def MarkedV (M : List Value) (k0 n : Nat) : Prop := ∀ i, i < n → ∀ j, j < 5 → M[i * 5 + j]? = (markE (k0 + i * 5)).cells[j]?
def put5L (M : List Value) (o : Nat) (u0 u1 u2 u3 u4 : Value) : List Value := ((((M.set o u0).set (o + 1) u1).set (o + 1 + 1) u2).set (o + 1 + 2) u3).set (o + 4) u4
theorem put5L_length (M : List Value) (o : Nat) (u0 u1 u2 u3 u4 : Value) : (put5L M o u0 u1 u2 u3 u4).length = M.length := by simp [put5L]
theorem put5L_far (M : List Value) (o : Nat) (u0 u1 u2 u3 u4 : Value) {i : Nat} (h : i < o) : (put5L M o u0 u1 u2 u3 u4)[i]? = M[i]? := by
 unfold put5L
 rw [List.getElem?_set_ne (by omega), List.getElem?_set_ne (by omega), List.getElem?_set_ne (by omega), List.getElem?_set_ne (by omega), List.getElem?_set_ne (by omega)]
theorem put5L_at (M : List Value) (o : Nat) (u0 u1 u2 u3 u4 : Value) (hM : o + 5 ≤ M.length) (j : Nat) (hj : j < 5) : (put5L M o u0 u1 u2 u3 u4)[o + j]? = [u0, u1, u2, u3, u4][j]? := by
 unfold put5L
 match j, hj with
 | 0, _ => rw [List.getElem?_set_ne (by omega), List.getElem?_set_ne (by omega), List.getElem?_set_ne (by omega), List.getElem?_set_ne (by omega)]; exact List.getElem?_set_self (by omega)
 | 1, _ => rw [List.getElem?_set_ne (by omega), List.getElem?_set_ne (by omega), List.getElem?_set_ne (by omega)]; exact List.getElem?_set_self (by simp; omega)
 | 2, _ => rw [List.getElem?_set_ne (by omega), List.getElem?_set_ne (by omega)]; exact List.getElem?_set_self (by simp; omega)
 | 3, _ => rw [List.getElem?_set_ne (by omega)]; exact List.getElem?_set_self (by simp; omega)
 | 4, _ => exact List.getElem?_set_self (by simp; omega)
theorem MarkedV.next {M : List Value} {k0 k n : Nat} (h : MarkedV M k0 k) (hM : M.length = n * 5) (hk : k < n) (m : Nat) (hm : k0 + k * 5 = m) :
  MarkedV (put5L M (k * 5) (.int .i64 m) (.bool (((m : Int) + 1) % 3 == 0)) (.int .i64 ((m : Int) + 1 + 1)) (.int .i64 ((m : Int) + 1 + 1 + 1)) (sV (markT (m + 4)))) k0 (k + 1) := by
 intro i hi j hj
 by_cases e : i = k
 ·
  subst e
  rw [put5L_at _ _ _ _ _ _ _ (by omega) j hj, hm]
  rfl
 ·
  rw [put5L_far _ _ _ _ _ _ _ (by omega)]
  exact h i (by omega) j hj
/-- A slice of values, by its cells. -/
def RowAt (w : World) (v : Value) (n : Nat) (M : List Value) : Prop :=
 M.length = n * 5 ∧ ∃ p cap, v = .slice p n cap ∧ n ≤ cap ∧ (0 < n → ∃ g, p = some ⟨g, 0, none⟩ ∧ Vec w g M)
theorem RowAt.later {w w' : World} {v : Value} {n : Nat} {M : List Value} (h : RowAt w v n M) (e : Ext w w') : RowAt w' v n M := by
 obtain ⟨h1, p, cap, hv, hc, hg⟩ := h
 refine ⟨h1, p, cap, hv, hc, fun h0 => ?_⟩
 obtain ⟨g, hp, hV⟩ := hg h0
 exact ⟨g, hp, hV.later e⟩
theorem RowAt.of_own {w : World} {g : Nat} {l : List VT} {n : Nat} (h : OwnV w g l) (hn : l.length = n) : RowAt w (.slice (some ⟨g, 0, none⟩) n n) n (flatV l) := by
 refine ⟨by rw [flatV_length, hn], _, n, rfl, Nat.le_refl _, fun _ => ⟨g, rfl, fun i u hi => ?_⟩⟩
 have hlt : i < l.length * 5 := by rw [← flatV_length]; exact (List.getElem?_eq_some_iff.1 hi).1
 obtain ⟨e, he⟩ : ∃ e, l[i / 5]? = some e := ⟨_, List.getElem?_eq_getElem (by omega)⟩
 have hj : i % 5 < 5 := Nat.mod_lt _ (by omega)
 have hi' : i / 5 * 5 + i % 5 = i := by omega
 have := flatV_at he (i % 5) hj
 rw [hi', hi] at this
 have q := h _ e he (i % 5) u this.symm
 rw [hi'] at q
 exact q
theorem RowAt.of_row {w : World} {base : Nat} {v : Value} {l : List VT} (h : OwnW w base v l) : RowAt w v l.length (flatV l) := by
 refine ⟨flatV_length l, ?_⟩
 rcases h.2 with ⟨rfl, h0⟩ | ⟨g, cap, cur, rfl, hb, hg, hc, _, hcs, htake⟩
 ·
  exact ⟨none, 0, by rw [h0], by omega, fun h => absurd h0 (by omega)⟩
 ·
  refine ⟨_, cap, rfl, hc, fun _ => ⟨g, rfl, fun i u hi => ⟨?_, ?_⟩⟩⟩
  ·
   have := h.cells (g := g) rfl i u hi
   rw [show (⟨g, 0, none⟩ : Addr).add i = ⟨g, i, none⟩ by unfold Addr.add; split <;> simp_all] at this
   exact this
  ·
   simp [World.frozen?, hg]
theorem RowAt.vals {w : World} {v : Value} {l : List VT} (h : RowAt w v l.length (flatV l)) : ValsIn w v l := by
 obtain ⟨_, p, cap, rfl, hc, hg⟩ := h
 refine ⟨p, cap, rfl, hc, fun h0 => ?_⟩
 obtain ⟨g, hp, V⟩ := hg h0
 refine ⟨g, 0, hp, fun i e hi c u hu => ?_⟩
 rw [Nat.zero_add]
 exact (V _ u ((flatV_at hi c (cells_lt hu)).trans hu)).1
/-- Values do not lie in a grid's box. -/
theorem RowAt.far {w : World} {v : Value} {l : List VT} (h : RowAt w v l.length (flatV l)) {b : Nat} {i0 i1 : Int} {s : Value} (B : Vec w b [.int .i64 i0, .int .i64 i1, s]) (us : List Value) : RowAt (setL w b 0 us) v l.length (flatV l) := by
 obtain ⟨h1, p, cap, rfl, hc, hg⟩ := h
 refine ⟨h1, p, cap, rfl, hc, fun h0 => ?_⟩
 obtain ⟨g, hp, V⟩ := hg h0
 refine ⟨g, hp, Vec.farL (fun e => ?_) us 0 V⟩
 subst e
 obtain ⟨e0, he⟩ : ∃ e, l[0]? = some e := ⟨_, List.getElem?_eq_getElem h0⟩
 have q1 := (V (0 * 5 + 1) _ ((flatV_at he 1 (by omega)).trans rfl)).1
 have q2 := (B 1 _ rfl).1
 rw [show 0 * 5 + 1 = 1 from rfl, q2] at q1
 cases q1
theorem RowAt.keep {w w' : World} {v : Value} {n : Nat} {M : List Value} {row : Option Nat} (h : RowAt w v n M) (hg : w.grownBy w' row) (hr : ∀ g, 0 < n → v.ownBlock = some g → some g ≠ row) : RowAt w' v n M := by
 obtain ⟨h1, p, cap, rfl, hc, hp⟩ := h
 refine ⟨h1, p, cap, rfl, hc, fun h0 => ?_⟩
 obtain ⟨g, rfl, V⟩ := hp h0
 have hlt : g < w.heap.size := World.block_lt_of_cell? w ⟨g, 0, none⟩ (V 0 _ (List.getElem?_eq_getElem (by omega))).1
 exact ⟨g, rfl, vec_same V (hg.block g hlt (hr g h0 rfl))⟩
theorem RowAt.lt {w : World} {v : Value} {n : Nat} {M : List Value} (h : RowAt w v n M) (h0 : 0 < n) : ∀ g, v.ownBlock = some g → g < w.heap.size := by
 intro r hr
 obtain ⟨h1, p, cap, rfl, hc, hp⟩ := h
 obtain ⟨g, rfl, V⟩ := hp h0
 have : g = r := by simpa [Value.ownBlock] using hr
 subst this
 exact World.block_lt_of_cell? w ⟨g, 0, none⟩ (V 0 _ (List.getElem?_eq_getElem (by omega))).1
theorem row_is {n g k : Nat} (h : (if n = 0 then none else some g) = some k) : 0 < n ∧ g = k := by
 split at h
 ·
  cases h
 ·
  cases h; exact ⟨by omega, rfl⟩
theorem row_own {n k : Nat} {v : Value} (h : (if n = 0 then none else v.ownBlock) = some k) : 0 < n ∧ v.ownBlock = some k := by
 split at h
 ·
  cases h
 ·
  exact ⟨by omega, h⟩
theorem grown_set {w w' : World} {g o : Nat} (h : w.grownBy w' (some g)) (u : Value) : w.grownBy (w'.setCell ⟨g, o, none⟩ u) (some g) :=
 ⟨h.os, h.tape, h.output, by rw [World.size_setCell]; exact h.size, fun k hk hne => by rw [heap_setCell_other _ _ _ _ (fun e => hne (congrArg some e))]; exact h.block k hk hne⟩
theorem grown_ext {w w' w'' : World} {r : Option Nat} (h : w.grownBy w' r) (e : Ext w' w'') : w.grownBy w'' r :=
 ⟨e.os.trans h.os, e.tape.trans h.tape, e.output.trans h.output, Nat.le_trans h.size e.size, fun k hk hne => (e.block k (Nat.lt_of_lt_of_le hk h.size)).trans (h.block k hk hne)⟩
theorem grown_refl (w : World) (r : Option Nat) : w.grownBy w r := ⟨rfl, rfl, rfl, Nat.le_refl _, fun _ _ _ => rfl⟩
set_option maxRecDepth 8000 in
set_option maxHeartbeats 2000000 in
theorem markVals (v : Value) (n : Nat) (L : List Value) (k0 : Nat) (w : World) (h : RowAt w v n L) (hn : n ≤ 1048576) (k1 : 1 ≤ k0) (k2 : k0 ≤ 10000000) :
  Calls Tryd.prog 23 #[v, .int .i64 k0] w fun e w' => e = .returned (.int .i64 ((k0 + n * 5 : Nat) : Int)) ∧ (∃ M, RowAt w' v n M ∧ MarkedV M k0 n) ∧ w.grownBy w' (if n = 0 then none else v.ownBlock) := by
 obtain ⟨hL, p, cap, rfl, hcap, hp⟩ := h
 have H1 : Hid (L.length = n * 5) := hL
 have H2 : Hid (0 < n → ∃ g, p = some ⟨g, 0, none⟩ ∧ Vec w g L) := hp
 obtain ⟨row, hrow⟩ : ∃ q, (if n = 0 then none else (Value.slice p n cap).ownBlock) = q := ⟨_, rfl⟩
 have HRow : Hid ((if n = 0 then none else (Value.slice p n cap).ownBlock) = row) := hrow
 rw [hrow]
 clear hL hp hrow
 go_enter Tryd.func23, Tryd.ntmps23
 go_wp2_with fail
 go_loopw [1, 5] (fun q i wr => ∃ k : Nat, k ≤ n ∧ i = .int .i64 k ∧ q = .int .i64 ((k0 + k * 5 : Nat) : Int) ∧ Hid (0 < n → ∃ (g : Nat) (M : List Value), p = some ⟨g, 0, none⟩ ∧ M.length = n * 5 ∧ MarkedV M k0 k ∧ Vec wr g M) ∧ Hid (w.grownBy wr row)) (fun _ i _ => n - (intOf i).toNat)
 case atStart => exact ⟨0, by omega, rfl, rfl, fun h0 => by obtain ⟨g, hg, V⟩ := H2.out h0; exact ⟨g, L, hg, H1.out, fun i hi => absurd hi (by omega), V⟩, grown_refl _ _⟩
 case round =>
  obtain ⟨k, hk, rfl, rfl, H, HX⟩ := hrel
  by_cases hlt : k < n
  ·
   obtain ⟨g, M, rfl, hM, hK, V⟩ := H.out (by omega)
   have HK : Hid (MarkedV M k0 k) := hK
   have HMl : Hid (M.length = n * 5) := hM
   have hrg : some g = row := by have := HRow.out; rw [if_neg (by omega)] at this; exact this
   have HX' : Hid (w.grownBy wr (some g)) := by show World.grownBy _ _ _; rw [hrg]; exact HX.out
   have HRg : Hid (some g = row) := hrg
   clear hrg HRow
   clear H1 H2 H hK HX
   obtain ⟨m, hm⟩ : ∃ m : Nat, k0 + k * 5 = m := ⟨_, rfl⟩
   have hm' : m ≤ 20000000 := by omega
   have hmk : Hid (k0 + (k + 1) * 5 = m + 5) := by show _ = _; omega
   have hmm : Hid (k0 + k * 5 = m) := hm
   rw [hm]
   have v0 := V (k * 5) _ (List.getElem?_eq_getElem (by omega))
   have v1 := V (k * 5 + 1) _ (List.getElem?_eq_getElem (by omega))
   have v2 := V (k * 5 + 1 + 1) _ (List.getElem?_eq_getElem (by omega))
   have v3 := V (k * 5 + 1 + 2) _ (List.getElem?_eq_getElem (by omega))
   obtain ⟨a0, f0⟩ := v0
   obtain ⟨a1, f1⟩ := v1
   obtain ⟨a2, f2⟩ := v2
   obtain ⟨a3, f3⟩ := v3
   have i1 : (0 : Int) ≤ (k : Int) := by omega
   have i2 : (k : Int) < (n : Int) := by omega
   have V' : Hid (Vec wr g M) := V
   have MT := fun W => markTextL (m + 4) W (by omega) (by omega)
   rw [show ((m + 4 : Nat) : Int) = (m : Int) + 1 + 1 + 1 + 1 by omega] at MT
   clear V hm
   go_wp2_with fail
   clear a0 a1 a2 a3 f0 f1 f2 f3
   obtain ⟨w4, hw4⟩ : ∃ w4, (((wr.setCell ⟨g, k * 5, none⟩ (.int .i64 (m : Int))).setCell ⟨g, k * 5 + 1, none⟩ (.bool (((m : Int) + 1) % 3 == 0))).setCell ⟨g, k * 5 + 1 + 1, none⟩ (.int .i64 ((m : Int) + 1 + 1))).setCell ⟨g, k * 5 + 1 + 2, none⟩ (.int .i64 ((m : Int) + 1 + 1 + 1)) = w4 := ⟨_, rfl⟩
   have VP : Vec w4 g ((((M.set (k * 5) (.int .i64 (m : Int))).set (k * 5 + 1) (.bool (((m : Int) + 1) % 3 == 0))).set (k * 5 + 1 + 1) (.int .i64 ((m : Int) + 1 + 1))).set (k * 5 + 1 + 2) (.int .i64 ((m : Int) + 1 + 1 + 1))) := by
    rw [← hw4]
    exact (((V'.out.put (k * 5) (by omega) _).put (k * 5 + 1) (by simp; omega) _).put (k * 5 + 1 + 1) (by simp; omega) _).put (k * 5 + 1 + 2) (by simp; omega) _
   have GP : w.grownBy w4 (some g) := by
    rw [← hw4]
    exact grown_set (grown_set (grown_set (grown_set HX'.out _) _) _) _
   rw [hw4]
   clear hw4 V' HX'
   refine (MT w4).mono ?_
   rintro e w5 ⟨rfl, e5⟩
   have VQ := VP.later e5
   have GQ := grown_ext GP e5
   have hl4 := List.getElem?_eq_getElem (l := (((M.set (k * 5) (.int .i64 (m : Int))).set (k * 5 + 1) (.bool (((m : Int) + 1) % 3 == 0))).set (k * 5 + 1 + 1) (.int .i64 ((m : Int) + 1 + 1))).set (k * 5 + 1 + 2) (.int .i64 ((m : Int) + 1 + 1 + 1))) (i := k * 5 + 4) (by simp; omega)
   obtain ⟨a4, f4⟩ := VQ (k * 5 + 4) _ hl4
   have VF : Vec (w5.setCell ⟨g, k * 5 + 4, none⟩ (sV (markT (m + 4)))) g (put5L M (k * 5) (.int .i64 m) (.bool (((m : Int) + 1) % 3 == 0)) (.int .i64 ((m : Int) + 1 + 1)) (.int .i64 ((m : Int) + 1 + 1 + 1)) (sV (markT (m + 4)))) := VQ.put (k * 5 + 4) (by simp; omega) _
   have GF := grown_set (o := k * 5 + 4) GQ (sV (markT (m + 4)))
   obtain ⟨wf, hwf⟩ : ∃ wf, w5.setCell ⟨g, k * 5 + 4, none⟩ (sV (markT (m + 4))) = wf := ⟨_, rfl⟩
   rw [hwf] at VF GF
   have HF : Hid (0 < n → ∃ (g' : Nat) (M' : List Value), (some ⟨g, 0, none⟩ : Option Addr) = some ⟨g', 0, none⟩ ∧ M'.length = n * 5 ∧ MarkedV M' k0 (k + 1) ∧ Vec wf g' M') := fun _ => ⟨g, _, rfl, (put5L_length _ _ _ _ _ _ _).trans HMl.out, HK.out.next HMl.out hlt m hmm.out, VF⟩
   have HGF : Hid (w.grownBy wf row) := by show World.grownBy _ _ _; rw [← HRg.out]; exact GF
   clear VP GP VQ GQ hl4 VF e5 MT GF
   go_wp2_with fail
   go_roundw
   case rel => exact ⟨k + 1, by omega, by go_num, by rw [hmk.out]; go_num, HF, HGF⟩
   case measure => simp [intOf]; omega
  ·
   obtain rfl : k = n := by omega
   go_wp2_with fail
   go_ret
   refine ⟨rfl, ?_, HX.out⟩
   by_cases h0 : 0 < k
   ·
    obtain ⟨g, M, rfl, hM, hK, V⟩ := H.out h0
    exact ⟨M, ⟨hM, _, cap, rfl, hcap, fun _ => ⟨g, rfl, V⟩⟩, hK⟩
   ·
    exact ⟨L, ⟨H1.out, _, cap, rfl, hcap, fun h => absurd h h0⟩, fun i hi => absurd hi (by omega)⟩

abbrev numV (x : Nat) : Value := .int .i64 (x : Int)
/-- A row of numbers, written by nobody else. -/
def NumsAt (w : World) (v : Value) (l : List Nat) : Prop := ∃ p cap, v = .slice p l.length cap ∧ l.length ≤ cap ∧ (0 < l.length → ∃ g, p = some ⟨g, 0, none⟩ ∧ Vec w g (l.map numV))
theorem vec_lt {w : World} {g : Nat} {l : List Value} (h : Vec w g l) (hl : 0 < l.length) : g < w.heap.size := by
 cases l with
 | nil => simp at hl
 | cons u l => exact World.block_lt_of_cell? _ _ (h 0 u rfl).1
theorem vec_keep {w w' : World} {g : Nat} {l : List Value} {row : Option Nat} (h : Vec w g l) (hg : w.grownBy w' row) (hr : some g ≠ row) : Vec w' g l := by
 intro i v hi
 have hlt := vec_lt h (by have := (List.getElem?_eq_some_iff.1 hi).1; omega)
 have hb := hg.block g hlt hr
 obtain ⟨a, f⟩ := h i v hi
 refine ⟨?_, ?_⟩
 ·
  unfold World.cell? at a ⊢
  rw [hb]; exact a
 ·
  unfold World.frozen? at f ⊢
  rw [hb]; exact f
/-- A row of numbers of one's own, that may grow. -/
abbrev OwnI (w : World) (base : Nat) (v : Value) (l : List Nat) : Prop := w.ownsRow base 3 1 v l.length (l.map numV)
theorem ownI_later {w w' : World} {base : Nat} {v : Value} {l : List Nat} (h : OwnI w base v l) (hx : Ext w w') : OwnI w' base v l := by
 refine ⟨h.1, h.2.imp id ?_⟩
 rintro ⟨g, cap, cur, h1, h2, h3, h4⟩
 have hlt : g < w.heap.size := by
  rcases Nat.lt_or_ge g w.heap.size with h' | h'
  ·
   exact h'
  ·
   rw [Array.getElem?_eq_none h'] at h3; cases h3
 exact ⟨g, cap, cur, h1, h2, by rw [hx.block g hlt]; exact h3, h4⟩
theorem ownI_slice {w : World} {base : Nat} {v : Value} {l : List Nat} (h : OwnI w base v l) : ∃ p c, v = .slice p l.length c ∧ l.length ≤ c := by
 rcases h.2 with ⟨rfl, h0⟩ | ⟨g, cap, cur, rfl, _, _, h3, _⟩
 ·
  exact ⟨none, 0, by rw [h0], by omega⟩
 ·
  exact ⟨_, _, rfl, h3⟩
theorem ownI_block {w : World} {base : Nat} {v : Value} {l : List Nat} (h : OwnI w base v l) : ∀ r, v.ownBlock = some r → base ≤ r := by
 intro r hr
 rcases h.2 with ⟨rfl, _⟩ | ⟨g, cap, cur, rfl, h2, _⟩
 ·
  cases hr
 ·
  have : g = r := by simpa [Value.ownBlock] using hr
  omega
theorem ownI_nil (w : World) (base : Nat) : OwnI w base (.slice none 0 0) [] := World.ownsRow_nil _ _ _ _
theorem ownI_nums {w : World} {base : Nat} {v : Value} {l : List Nat} (h : OwnI w base v l) : NumsAt w v l := by
 rcases h.2 with ⟨rfl, h0⟩ | ⟨g, cap, cur, rfl, hb, hg, hc, hz, hcs, htake⟩
 ·
  exact ⟨none, 0, by rw [h0], by omega, fun h => absurd h0 (by omega)⟩
 ·
  refine ⟨_, cap, rfl, hc, fun _ => ⟨g, rfl, fun i u hi => ?_⟩⟩
  have hcell := h.cells (g := g) rfl i u hi
  rw [show (⟨g, 0, none⟩ : Addr).add i = ⟨g, i, none⟩ by unfold Addr.add; split <;> simp_all] at hcell
  refine ⟨hcell, ?_⟩
  unfold World.frozen?
  rw [hg]
  simp
theorem infoI : ∃ inf, Tryd.prog.info? 3 = some inf ∧ inf.zero = some (.int .i64 0) ∧ inf.size = 1 ∧ inf.bytes = 8 := by
 have h : (Tryd.prog.info? 3).map (fun i => (i.zero, i.size, i.bytes)) = some (some (.int .i64 0), 1, 8) := by kernel_rfl
 cases h' : Tryd.prog.info? 3 with
 | none => rw [h'] at h; cases h
 | some inf =>
  rw [h'] at h
  simp at h
  exact ⟨inf, rfl, h.1, h.2.1, h.2.2⟩

end Go.Proofs.YtjlephnmofhjaaaDoor

