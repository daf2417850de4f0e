/-
  Several texts in one: V7f, W9t.
-/
import Derived.Test.YtgpfddneablcpaaGreatDoorMg5
import Derived.Deep.RegionHeld3
import Derived.Laws.IdiomStrings
namespace Go.Proofs.YtgpfddneablcpaaGreatDoor
open Go.RowKit

theorem OwnV.far {w : World} {g : Nat} {l : List VT} (h : OwnV w g l) {p : Addr} (hp : p.block ≠ g) (u : Value) : OwnV (w.setCell p u) g l := fun i e hi c v hc => by
 refine ⟨?_, by rw [World.frozen?_setCell]; exact (h i e hi c v hc).2⟩
 rw [World.cell?_setCell_other _ _ _ _ (fun e => hp (congrArg Addr.block e))]
 exact (h i e hi c v hc).1
theorem Vec.put3 {w : World} {b : Nat} {v0 v1 v2 : Value} (h : Vec w b [v0, v1, v2]) (u0 u1 u2 : Value) : Vec (((w.setCell ⟨b, 0, none⟩ u0).setCell ⟨b, 1, none⟩ u1).setCell ⟨b, 2, none⟩ u2) b [u0, u1, u2] :=
 ((h.put 0 (by simp) u0).put 1 (by simp) u1).put 2 (by simp) u2
theorem OwnV.vals {w : World} {g : Nat} {l : List VT} (h : OwnV w g l) : ValsIn w (.slice (some ⟨g, 0, none⟩) l.length l.length) l :=
 ⟨_, _, rfl, Nat.le_refl _, fun _ => ⟨g, 0, rfl, h.row⟩⟩

set_option maxRecDepth 8000 in
set_option maxHeartbeats 2000000 in
theorem toGridL (r c : Int) (v : Value) (l : List VT) (w : World) (h : ValsIn w v l) (hl : l.length ≤ 2000000) :
  Calls Tryz.prog 6 #[grV r c v] w fun e w' => (∃ g, e = .returned (grV r c (.slice (some ⟨g, 0, none⟩) l.length l.length)) ∧ w.heap.size ≤ g ∧ OwnV w' g l) ∧ Ext w w' := by
 have X1 := x1 w (.cells #[.int .i64 r, .int .i64 c, v] 24)
 have B1 := vec_made w [.int .i64 r, .int .i64 c, v] 24
 obtain ⟨wa, ha⟩ : ∃ wa, w.alloc (.cells #[.int .i64 r, .int .i64 c, v] 24) = wa := ⟨_, rfl⟩
 have B2 := vec_made wa [.int .i64 0, .int .i64 0, .slice none 0 0] 31
 have X2 := x1 wa (.cells #[.int .i64 0, .int .i64 0, .slice none 0 0] 31)
 obtain ⟨wb, hb⟩ : ∃ wb, wa.alloc (.cells #[.int .i64 0, .int .i64 0, .slice none 0 0] 31) = wb := ⟨_, rfl⟩
 have B3 := vec_made wb [.int .i64 0, .int .i64 0, .slice none 0 0] 31
 have X3 := x1 wb (.cells #[.int .i64 0, .int .i64 0, .slice none 0 0] 31)
 have sa : wa.heap.size = w.heap.size + 1 := by rw [← ha, World.size_alloc]
 have sb : wb.heap.size = w.heap.size + 1 + 1 := by rw [← hb, World.size_alloc, sa]
 change Vec (w.alloc (.cells #[.int .i64 r, .int .i64 c, v] 24)) _ _ at B1
 change Vec (wa.alloc (.cells #[.int .i64 0, .int .i64 0, .slice none 0 0] 31)) _ _ at B2
 change Vec (wb.alloc (.cells #[.int .i64 0, .int .i64 0, .slice none 0 0] 31)) _ _ at B3
 rw [ha] at X1 B1
 rw [hb] at X2 B2
 rw [sa] at B2
 rw [sb] at B3
 have X := xt (xt X1 X2) X3
 have B1 := (B1.later X2).later X3
 have B2 := B2.later X3
 clear X1 X2 X3
 obtain ⟨wc, hc⟩ : ∃ wc, wb.alloc (.cells #[.int .i64 0, .int .i64 0, .slice none 0 0] 31) = wc := ⟨_, rfl⟩
 have sc : wc.heap.size = w.heap.size + 1 + 1 + 1 := by rw [← hc, World.size_alloc, sb]
 rw [hc] at B1 B2 B3 X
 have a0 := (B1 0 _ rfl).1
 have a1 := (B1 1 _ rfl).1
 have a2 := (B1 2 _ rfl).1
 have k0 := (B3 0 _ rfl).1
 have k1 := (B3 1 _ rfl).1
 have f0 := (B3 0 _ rfl).2
 have f1 := (B3 1 _ rfl).2
 obtain ⟨wd, hd⟩ : ∃ wd, (wc.setCell ⟨w.heap.size + 1 + 1, 0, none⟩ (.int .i64 r)).setCell ⟨w.heap.size + 1 + 1, 1, none⟩ (.int .i64 c) = wd := ⟨_, rfl⟩
 have D1 := (B1.far (p := ⟨w.heap.size + 1 + 1, 0, none⟩) (by show w.heap.size + 1 + 1 ≠ _; omega) (.int .i64 r)).far (p := ⟨w.heap.size + 1 + 1, 1, none⟩) (by show w.heap.size + 1 + 1 ≠ _; omega) (.int .i64 c)
 have D2 := (B2.far (p := ⟨w.heap.size + 1 + 1, 0, none⟩) (by show w.heap.size + 1 + 1 ≠ _; omega) (.int .i64 r)).far (p := ⟨w.heap.size + 1 + 1, 1, none⟩) (by show w.heap.size + 1 + 1 ≠ _; omega) (.int .i64 c)
 have D3 : Vec _ (w.heap.size + 1 + 1) [.int .i64 r, .int .i64 c, .slice none 0 0] := (B3.put 0 (by simp) (.int .i64 r)).put 1 (by simp) (.int .i64 c)
 have XD := xset (xset X (p := ⟨w.heap.size + 1 + 1, 0, none⟩) (by show _ ≤ w.heap.size + 1 + 1; omega) (.int .i64 r)) (p := ⟨w.heap.size + 1 + 1, 1, none⟩) (by show _ ≤ w.heap.size + 1 + 1; omega) (.int .i64 c)
 have sd : wd.heap.size = w.heap.size + 1 + 1 + 1 := by rw [← hd, World.size_setCell, World.size_setCell, sc]
 rw [hd] at D1 D2 D3 XD
 have d2 := (D1 2 _ rfl).1
 clear B1 B2 B3 X sc
 go_enter Tryz.func6, Tryz.ntmps6
 go_wp2_with fail
 clear ha hb hc sa sb a0 a1 a2 k0 k1 f0 f1 hd d2
 refine (toVals v l wd (h.later XD) hl).mono ?_
 rintro e w1 ⟨⟨g, rfl, hg, O⟩, e1⟩
 rw [sd] at hg
 obtain ⟨n, hn⟩ : ∃ n, l.length = n := ⟨_, rfl⟩
 have HN : Hid (l.length = n) := hn
 rw [hn]
 clear hn
 have C2 := D2.later e1
 have C3 := D3.later e1
 have Y := xt XD e1
 clear D1 D2 D3 XD e1 sd h hl
 have q2 := (C3 2 _ rfl).1
 have p2 := (C3 2 _ rfl).2
 have E3 : Vec (w1.setCell ⟨w.heap.size + 1 + 1, 2, none⟩ (.slice (some ⟨g, 0, none⟩) n n)) (w.heap.size + 1 + 1) [.int .i64 r, .int .i64 c, .slice (some ⟨g, 0, none⟩) n n] := C3.put 2 (by simp) _
 have E2 := C2.far (p := ⟨w.heap.size + 1 + 1, 2, none⟩) (by show w.heap.size + 1 + 1 ≠ _; omega) (.slice (some ⟨g, 0, none⟩) n n)
 have EO := O.far (p := ⟨w.heap.size + 1 + 1, 2, none⟩) (by show w.heap.size + 1 + 1 ≠ _; omega) (.slice (some ⟨g, 0, none⟩) n n)
 have XE := xset Y (p := ⟨w.heap.size + 1 + 1, 2, none⟩) (by show _ ≤ w.heap.size + 1 + 1; omega) (.slice (some ⟨g, 0, none⟩) n n)
 obtain ⟨we, he⟩ : ∃ we, w1.setCell ⟨w.heap.size + 1 + 1, 2, none⟩ (.slice (some ⟨g, 0, none⟩) n n) = we := ⟨_, rfl⟩
 rw [he] at E3 E2 EO XE
 clear C2 C3 O Y
 have m0 := (E3 0 _ rfl).1
 have m1 := (E3 1 _ rfl).1
 have m2 := (E3 2 _ rfl).1
 have b0 := (E2 0 _ rfl).1
 have b1 := (E2 1 _ rfl).1
 have b2 := (E2 2 _ rfl).1
 have g0 := (E2 0 _ rfl).2
 have g1 := (E2 1 _ rfl).2
 have g2 := (E2 2 _ rfl).2
 have F2 := E2.put3 (.int .i64 r) (.int .i64 c) (.slice (some ⟨g, 0, none⟩) n n)
 have FO := ((EO.far (p := ⟨w.heap.size + 1, 0, none⟩) (by show w.heap.size + 1 ≠ _; omega) (.int .i64 r)).far (p := ⟨w.heap.size + 1, 1, none⟩) (by show w.heap.size + 1 ≠ _; omega) (.int .i64 c)).far (p := ⟨w.heap.size + 1, 2, none⟩) (by show w.heap.size + 1 ≠ _; omega) (.slice (some ⟨g, 0, none⟩) n n)
 have FX := xset (xset (xset XE (p := ⟨w.heap.size + 1, 0, none⟩) (by show _ ≤ w.heap.size + 1; omega) (.int .i64 r)) (p := ⟨w.heap.size + 1, 1, none⟩) (by show _ ≤ w.heap.size + 1; omega) (.int .i64 c)) (p := ⟨w.heap.size + 1, 2, none⟩) (by show _ ≤ w.heap.size + 1; omega) (.slice (some ⟨g, 0, none⟩) n n)
 obtain ⟨wy, hy⟩ : ∃ wy, ((we.setCell ⟨w.heap.size + 1, 0, none⟩ (.int .i64 r)).setCell ⟨w.heap.size + 1, 1, none⟩ (.int .i64 c)).setCell ⟨w.heap.size + 1, 2, none⟩ (.slice (some ⟨g, 0, none⟩) n n) = wy := ⟨_, rfl⟩
 rw [hy] at F2 FO FX
 have fd0 := (F2 0 _ rfl).1
 have fd1 := (F2 1 _ rfl).1
 have fd2 := (F2 2 _ rfl).1
 clear E2 E3 EO XE F2
 go_wp2_with fail
 exact bodyPost_ret (v := grV r c (.slice (some ⟨g, 0, none⟩) n n)) (by simp [results, Tryz.results6, go_sem, fd0, fd1, fd2]) rfl ⟨⟨g, by rw [HN.out], by omega, FO⟩, FX⟩
set_option maxRecDepth 8000 in
set_option maxHeartbeats 2000000 in
theorem eqGridL (r c : Int) (v v' : Value) (l : List VT) (w : World) (h : ValsIn w v l) (h' : ValsIn w v' l) (hl : l.length ≤ 2000000) :
  Calls Tryz.prog 10 #[grV r c v, grV r c v'] w fun e w' => e = .returned (.bool true) ∧ Ext w w' := by
 have X := xa (x1 w (.cells #[.int .i64 r, .int .i64 c, v] 31)) (.cells #[.int .i64 r, .int .i64 c, v'] 31)
 have C := eqVals v v' l _ (h.later X) (h'.later X) hl
 clear h h' hl
 go_enter Tryz.func10, Tryz.ntmps10
 go_wp2_with fail
 refine C.mono ?_
 rintro e w1 ⟨rfl, e1⟩
 go_wp2_with fail
 go_ret
 exact ⟨rfl, xt X e1⟩
set_option maxRecDepth 8000 in
set_option maxHeartbeats 2000000 in
theorem szGridL (r c : Int) (v : Value) (l : List VT) (m : Int) (w : World) (h : ValsIn w v l) (m0 : 0 ≤ m) (m1 : m ≤ 1048576) (hl : l.length ≤ 9223372036854775807) (ht : ∀ e ∈ l, e.t.length ≤ 9223372036854775807) :
  Calls Tryz.prog 4 #[grV r c v, .int .i64 m] w fun e w' => (∃ r : Int, e = .returned (.int .i64 r) ∧ -1 ≤ r ∧ r ≤ m ∧ (0 ≤ r → (l.length : Int) ≤ m ∧ ∀ q ∈ l, (q.t.length : Int) ≤ m)) ∧ Ext w w' := by
 have X := x1 w (.cells #[.int .i64 r, .int .i64 c, v] 24)
 have C := szVals v l m _ (h.later X) m0 m1 hl ht
 clear h hl ht
 go_enter Tryz.func4, Tryz.ntmps4
 go_wp2_with fail
 refine C.mono ?_
 rintro e w1 ⟨⟨z, rfl, z0, z1, hz⟩, e1⟩
 have HZ : Hid (0 ≤ z → (l.length : Int) ≤ m ∧ ∀ q ∈ l, (q.t.length : Int) ≤ m) := hz
 clear hz
 by_cases hn : z < 0
 ·
  go_wp2_with fail
  go_ret
  exact ⟨⟨-1, rfl, by omega, by omega, fun h => by omega⟩, xt X e1⟩
 ·
  go_wp2_with fail
  go_ret
  exact ⟨⟨z, rfl, by omega, by omega, HZ.out⟩, xt X e1⟩

def mtF : Nat → Nat → List UInt8 → List UInt8
 | 0, _, s => s
 | f + 1, k, s => if k = 0 then s else mtF f (k / 10) (UInt8.ofNat (48 + k % 10) :: s)
theorem mtF_zero (f : Nat) (s : List UInt8) : mtF f 0 s = s := by cases f <;> rfl
def markT (k : Nat) : List UInt8 := 109 :: mtF k k []
set_option maxRecDepth 8000 in
set_option maxHeartbeats 2000000 in
theorem markTextL (k : Nat) (w : World) (h1 : 1 ≤ k) (h2 : k ≤ 100000000) :
  Calls Tryz.prog 49 #[.int .i64 k] w fun e w' => e = .returned (sV (markT k)) ∧ Ext w w' := by
 have f1 : decide ((k : Int) ≤ 0) = false := by simp; omega
 obtain ⟨T, hT⟩ : ∃ T, mtF k k [] = T := ⟨_, rfl⟩
 have HT : Hid (mtF k k [] = T) := hT
 have HM : Hid (markT k = 109 :: T) := by show _ = _; unfold markT; rw [hT]
 clear hT
 go_enter Tryz.func49, Tryz.ntmps49
 go_wp2_with fail
 go_loopw [0, 3] (fun a b wr => ∃ (m f : Nat) (s : ByteArray), a = .int .i64 m ∧ b = .string s ∧ m ≤ f ∧ f ≤ 100000000 ∧ Hid (mtF f m s.data.toList = T) ∧ s.size + f ≤ k ∧ Ext w wr) (fun a _ _ => (intOf a).toNat)
 case atStart => exact ⟨k, k, _, rfl, rfl, by omega, h2, HT, by show 0 + k ≤ k; omega, xr _⟩
 case round =>
  obtain ⟨m, f, s, rfl, rfl, hmf, hf, HN, hsz, X⟩ := hrel
  by_cases hm0 : m = 0
  ·
   subst hm0
   have HE : Hid (s.data.toList = T) := by have := HN.out; rw [mtF_zero] at this; exact this
   have hss : (⟨#[109]⟩ : ByteArray).size + s.size ≤ 9223372036854775807 := by show 1 + _ ≤ _; omega
   have HZ : Hid ((⟨#[109]⟩ ++ s : ByteArray) = ⟨(markT k).toArray⟩) := by
    show _ = _
    rw [HM.out, ← HE.out]
    apply ByteArray.ext
    rw [ByteArray.data_append]
    apply Array.ext'
    simp
   go_wp2_with fail
   go_ret
   exact ⟨congrArg (fun z => Ending.returned (Value.string z)) HZ.out, X⟩
  ·
   obtain ⟨f, rfl⟩ : ∃ g, f = g + 1 := ⟨f - 1, by omega⟩
   have hm1 : decide ((m : Int) > 0) = true := by simp; omega
   obtain ⟨a, ha⟩ : ∃ a : Nat, m % 10 = a := ⟨_, rfl⟩
   obtain ⟨q, hq⟩ : ∃ q : Nat, m / 10 = q := ⟨_, rfl⟩
   have ha' : (m : Int).tmod 10 = (a : Int) := by rw [Int.tmod_eq_emod_of_nonneg (by omega)]; omega
   have hq' : (m : Int).tdiv 10 = (q : Int) := by rw [Int.tdiv_eq_ediv_of_nonneg (by omega)]; omega
   have a10 : a < 10 := by omega
   have q200 : q < m := by omega
   have hcv := run_convert_bytes_back (P := Tryz.prog) (wr.alloc (.cells #[.int .u8 (48 + (a : Int))] 5)) 91 9 5 ⟨wr.heap.size, 0, none⟩ 1 [UInt8.ofNat (48 + a)] Tryz.underlying91 Tryz.underlying5 Tryz.underlying9 (fun j hj => by
    have hj' : j = 0 := by simpa using hj
    subst hj'
    simp [go_sem]
    omega)
   rw [List.length_singleton] at hcv
   obtain ⟨t, ht⟩ : ∃ t : ByteArray, (⟨[UInt8.ofNat (48 + a)].toArray⟩ : ByteArray) = t := ⟨_, rfl⟩
   rw [ht] at hcv
   have hts : t.data.toList = [UInt8.ofNat (48 + a)] := by rw [← ht]
   have htz := size_ofL' hts
   have HN2 : Hid (mtF f q (t ++ s).data.toList = T) := by
    have h := HN.out
    unfold mtF at h
    rw [if_neg hm0, ha, hq] at h
    show _ = _
    rw [ByteArray.data_append, Array.toList_append, hts]
    exact h
   simp only [List.length_singleton] at htz
   have hw8 : IntKind.u8.wrap (48 + (a : Int)) = 48 + (a : Int) := by rw [IntKind.wrap_u8]; omega
   clear ha hq hts ht HN HT HM
   go_wp2_with fail
   go_roundw
   case rel => exact ⟨q, f, _, rfl, rfl, by omega, by omega, HN2, by rw [ByteArray.size_append]; omega, xa X _⟩
   case measure => simp [intOf]; omega
/-- The marks of one value, from a number on. -/
def markE (m : Nat) : VT := ⟨m, ((m : Int) + 1) % 3 == 0, (m : Int) + 1 + 1, (m : Int) + 1 + 1 + 1, markT (m + 4)⟩
def MarkedV (M : List Value) (k0 n : Nat) : Prop := ∀ i, i < n → ∀ j, j < 5 → M[i * 5 + j]? = (markE (k0 + i * 5)).cells[j]?
def put5L (M : List Value) (o : Nat) (u0 u1 u2 u3 u4 : Value) : List Value := ((((M.set o u0).set (o + 1) u1).set (o + 1 + 1) u2).set (o + 1 + 2) u3).set (o + 4) u4
theorem put5L_length (M : List Value) (o : Nat) (u0 u1 u2 u3 u4 : Value) : (put5L M o u0 u1 u2 u3 u4).length = M.length := by simp [put5L]
theorem put5L_far (M : List Value) (o : Nat) (u0 u1 u2 u3 u4 : Value) {i : Nat} (h : i < o) : (put5L M o u0 u1 u2 u3 u4)[i]? = M[i]? := by
 unfold put5L
 rw [List.getElem?_set_ne (by omega), List.getElem?_set_ne (by omega), List.getElem?_set_ne (by omega), List.getElem?_set_ne (by omega), List.getElem?_set_ne (by omega)]
theorem put5L_at (M : List Value) (o : Nat) (u0 u1 u2 u3 u4 : Value) (hM : o + 5 ≤ M.length) (j : Nat) (hj : j < 5) : (put5L M o u0 u1 u2 u3 u4)[o + j]? = [u0, u1, u2, u3, u4][j]? := by
 unfold put5L
 match j, hj with
 | 0, _ => rw [List.getElem?_set_ne (by omega), List.getElem?_set_ne (by omega), List.getElem?_set_ne (by omega), List.getElem?_set_ne (by omega)]; exact List.getElem?_set_self (by omega)
 | 1, _ => rw [List.getElem?_set_ne (by omega), List.getElem?_set_ne (by omega), List.getElem?_set_ne (by omega)]; exact List.getElem?_set_self (by simp; omega)
 | 2, _ => rw [List.getElem?_set_ne (by omega), List.getElem?_set_ne (by omega)]; exact List.getElem?_set_self (by simp; omega)
 | 3, _ => rw [List.getElem?_set_ne (by omega)]; exact List.getElem?_set_self (by simp; omega)
 | 4, _ => exact List.getElem?_set_self (by simp; omega)
theorem MarkedV.next {M : List Value} {k0 k n : Nat} (h : MarkedV M k0 k) (hM : M.length = n * 5) (hk : k < n) (m : Nat) (hm : k0 + k * 5 = m) :
  MarkedV (put5L M (k * 5) (.int .i64 m) (.bool (((m : Int) + 1) % 3 == 0)) (.int .i64 ((m : Int) + 1 + 1)) (.int .i64 ((m : Int) + 1 + 1 + 1)) (sV (markT (m + 4)))) k0 (k + 1) := by
 intro i hi j hj
 by_cases e : i = k
 ·
  subst e
  rw [put5L_at _ _ _ _ _ _ _ (by omega) j hj, hm]
  rfl
 ·
  rw [put5L_far _ _ _ _ _ _ _ (by omega)]
  exact h i (by omega) j hj
/-- A slice of values, by its cells. -/
def RowAt (w : World) (v : Value) (n : Nat) (M : List Value) : Prop :=
 M.length = n * 5 ∧ ∃ p cap, v = .slice p n cap ∧ n ≤ cap ∧ (0 < n → ∃ g, p = some ⟨g, 0, none⟩ ∧ Vec w g M)
theorem RowAt.later {w w' : World} {v : Value} {n : Nat} {M : List Value} (h : RowAt w v n M) (e : Ext w w') : RowAt w' v n M := by
 obtain ⟨h1, p, cap, hv, hc, hg⟩ := h
 refine ⟨h1, p, cap, hv, hc, fun h0 => ?_⟩
 obtain ⟨g, hp, hV⟩ := hg h0
 exact ⟨g, hp, hV.later e⟩
theorem RowAt.of_own {w : World} {g : Nat} {l : List VT} {n : Nat} (h : OwnV w g l) (hn : l.length = n) : RowAt w (.slice (some ⟨g, 0, none⟩) n n) n (flatV l) := by
 refine ⟨by rw [flatV_length, hn], _, n, rfl, Nat.le_refl _, fun _ => ⟨g, rfl, fun i u hi => ?_⟩⟩
 have hlt : i < l.length * 5 := by rw [← flatV_length]; exact (List.getElem?_eq_some_iff.1 hi).1
 obtain ⟨e, he⟩ : ∃ e, l[i / 5]? = some e := ⟨_, List.getElem?_eq_getElem (by omega)⟩
 have hj : i % 5 < 5 := Nat.mod_lt _ (by omega)
 have hi' : i / 5 * 5 + i % 5 = i := by omega
 have := flatV_at he (i % 5) hj
 rw [hi', hi] at this
 have q := h _ e he (i % 5) u this.symm
 rw [hi'] at q
 exact q
theorem RowAt.of_row {w : World} {base : Nat} {v : Value} {l : List VT} (h : OwnW w base v l) : RowAt w v l.length (flatV l) := by
 refine ⟨flatV_length l, ?_⟩
 rcases h.2 with ⟨rfl, h0⟩ | ⟨g, cap, cur, rfl, hb, hg, hc, _, hcs, htake⟩
 ·
  exact ⟨none, 0, by rw [h0], by omega, fun h => absurd h0 (by omega)⟩
 ·
  refine ⟨_, cap, rfl, hc, fun _ => ⟨g, rfl, fun i u hi => ⟨?_, ?_⟩⟩⟩
  ·
   have := h.cells (g := g) rfl i u hi
   rw [show (⟨g, 0, none⟩ : Addr).add i = ⟨g, i, none⟩ by unfold Addr.add; split <;> simp_all] at this
   exact this
  ·
   simp [World.frozen?, hg]
theorem RowAt.keep {w w' : World} {v : Value} {n : Nat} {M : List Value} {row : Option Nat} (h : RowAt w v n M) (hg : w.grownBy w' row) (hr : ∀ g, 0 < n → v.ownBlock = some g → some g ≠ row) : RowAt w' v n M := by
 obtain ⟨h1, p, cap, rfl, hc, hp⟩ := h
 refine ⟨h1, p, cap, rfl, hc, fun h0 => ?_⟩
 obtain ⟨g, rfl, V⟩ := hp h0
 have hlt : g < w.heap.size := World.block_lt_of_cell? w ⟨g, 0, none⟩ (V 0 _ (List.getElem?_eq_getElem (by omega))).1
 exact ⟨g, rfl, vec_same V (hg.block g hlt (hr g h0 rfl))⟩
theorem grown_set {w w' : World} {g o : Nat} (h : w.grownBy w' (some g)) (u : Value) : w.grownBy (w'.setCell ⟨g, o, none⟩ u) (some g) :=
 ⟨h.os, h.tape, h.output, by rw [World.size_setCell]; exact h.size, fun k hk hne => by rw [heap_setCell_other _ _ _ _ (fun e => hne (congrArg some e))]; exact h.block k hk hne⟩
theorem grown_ext {w w' w'' : World} {r : Option Nat} (h : w.grownBy w' r) (e : Ext w' w'') : w.grownBy w'' r :=
 ⟨e.os.trans h.os, e.tape.trans h.tape, e.output.trans h.output, Nat.le_trans h.size e.size, fun k hk hne => (e.block k (Nat.lt_of_lt_of_le hk h.size)).trans (h.block k hk hne)⟩
theorem grown_refl (w : World) (r : Option Nat) : w.grownBy w r := ⟨rfl, rfl, rfl, Nat.le_refl _, fun _ _ _ => rfl⟩
set_option maxRecDepth 8000 in
set_option maxHeartbeats 2000000 in
theorem markVals (v : Value) (n : Nat) (L : List Value) (k0 : Nat) (w : World) (h : RowAt w v n L) (hn : n ≤ 1048576) (k1 : 1 ≤ k0) (k2 : k0 ≤ 10000000) :
  Calls Tryz.prog 30 #[v, .int .i64 k0] w fun e w' => e = .returned (.int .i64 ((k0 + n * 5 : Nat) : Int)) ∧ (∃ M, RowAt w' v n M ∧ MarkedV M k0 n) ∧ w.grownBy w' (if n = 0 then none else v.ownBlock) := by
 obtain ⟨hL, p, cap, rfl, hcap, hp⟩ := h
 have H1 : Hid (L.length = n * 5) := hL
 have H2 : Hid (0 < n → ∃ g, p = some ⟨g, 0, none⟩ ∧ Vec w g L) := hp
 obtain ⟨row, hrow⟩ : ∃ q, (if n = 0 then none else (Value.slice p n cap).ownBlock) = q := ⟨_, rfl⟩
 have HRow : Hid ((if n = 0 then none else (Value.slice p n cap).ownBlock) = row) := hrow
 rw [hrow]
 clear hL hp hrow
 go_enter Tryz.func30, Tryz.ntmps30
 go_wp2_with fail
 go_loopw [1, 5] (fun q i wr => ∃ k : Nat, k ≤ n ∧ i = .int .i64 k ∧ q = .int .i64 ((k0 + k * 5 : Nat) : Int) ∧ Hid (0 < n → ∃ (g : Nat) (M : List Value), p = some ⟨g, 0, none⟩ ∧ M.length = n * 5 ∧ MarkedV M k0 k ∧ Vec wr g M) ∧ Hid (w.grownBy wr row)) (fun _ i _ => n - (intOf i).toNat)
 case atStart => exact ⟨0, by omega, rfl, rfl, fun h0 => by obtain ⟨g, hg, V⟩ := H2.out h0; exact ⟨g, L, hg, H1.out, fun i hi => absurd hi (by omega), V⟩, grown_refl _ _⟩
 case round =>
  obtain ⟨k, hk, rfl, rfl, H, HX⟩ := hrel
  by_cases hlt : k < n
  ·
   obtain ⟨g, M, rfl, hM, hK, V⟩ := H.out (by omega)
   have HK : Hid (MarkedV M k0 k) := hK
   have HMl : Hid (M.length = n * 5) := hM
   have hrg : some g = row := by have := HRow.out; rw [if_neg (by omega)] at this; exact this
   have HX' : Hid (w.grownBy wr (some g)) := by show World.grownBy _ _ _; rw [hrg]; exact HX.out
   have HRg : Hid (some g = row) := hrg
   clear hrg HRow
   clear H1 H2 H hK HX
   obtain ⟨m, hm⟩ : ∃ m : Nat, k0 + k * 5 = m := ⟨_, rfl⟩
   have hm' : m ≤ 20000000 := by omega
   have hmk : Hid (k0 + (k + 1) * 5 = m + 5) := by show _ = _; omega
   have hmm : Hid (k0 + k * 5 = m) := hm
   rw [hm]
   have v0 := V (k * 5) _ (List.getElem?_eq_getElem (by omega))
   have v1 := V (k * 5 + 1) _ (List.getElem?_eq_getElem (by omega))
   have v2 := V (k * 5 + 1 + 1) _ (List.getElem?_eq_getElem (by omega))
   have v3 := V (k * 5 + 1 + 2) _ (List.getElem?_eq_getElem (by omega))
   obtain ⟨a0, f0⟩ := v0
   obtain ⟨a1, f1⟩ := v1
   obtain ⟨a2, f2⟩ := v2
   obtain ⟨a3, f3⟩ := v3
   have i1 : (0 : Int) ≤ (k : Int) := by omega
   have i2 : (k : Int) < (n : Int) := by omega
   have V' : Hid (Vec wr g M) := V
   have MT := fun W => markTextL (m + 4) W (by omega) (by omega)
   rw [show ((m + 4 : Nat) : Int) = (m : Int) + 1 + 1 + 1 + 1 by omega] at MT
   clear V hm
   go_wp2_with fail
   clear a0 a1 a2 a3 f0 f1 f2 f3
   obtain ⟨w4, hw4⟩ : ∃ w4, (((wr.setCell ⟨g, k * 5, none⟩ (.int .i64 (m : Int))).setCell ⟨g, k * 5 + 1, none⟩ (.bool (((m : Int) + 1) % 3 == 0))).setCell ⟨g, k * 5 + 1 + 1, none⟩ (.int .i64 ((m : Int) + 1 + 1))).setCell ⟨g, k * 5 + 1 + 2, none⟩ (.int .i64 ((m : Int) + 1 + 1 + 1)) = w4 := ⟨_, rfl⟩
   have VP : Vec w4 g ((((M.set (k * 5) (.int .i64 (m : Int))).set (k * 5 + 1) (.bool (((m : Int) + 1) % 3 == 0))).set (k * 5 + 1 + 1) (.int .i64 ((m : Int) + 1 + 1))).set (k * 5 + 1 + 2) (.int .i64 ((m : Int) + 1 + 1 + 1))) := by
    rw [← hw4]
    exact (((V'.out.put (k * 5) (by omega) _).put (k * 5 + 1) (by simp; omega) _).put (k * 5 + 1 + 1) (by simp; omega) _).put (k * 5 + 1 + 2) (by simp; omega) _
   have GP : w.grownBy w4 (some g) := by
    rw [← hw4]
    exact grown_set (grown_set (grown_set (grown_set HX'.out _) _) _) _
   rw [hw4]
   clear hw4 V' HX'
   refine (MT w4).mono ?_
   rintro e w5 ⟨rfl, e5⟩
   have VQ := VP.later e5
   have GQ := grown_ext GP e5
   have hl4 := List.getElem?_eq_getElem (l := (((M.set (k * 5) (.int .i64 (m : Int))).set (k * 5 + 1) (.bool (((m : Int) + 1) % 3 == 0))).set (k * 5 + 1 + 1) (.int .i64 ((m : Int) + 1 + 1))).set (k * 5 + 1 + 2) (.int .i64 ((m : Int) + 1 + 1 + 1))) (i := k * 5 + 4) (by simp; omega)
   obtain ⟨a4, f4⟩ := VQ (k * 5 + 4) _ hl4
   have VF : Vec (w5.setCell ⟨g, k * 5 + 4, none⟩ (sV (markT (m + 4)))) g (put5L M (k * 5) (.int .i64 m) (.bool (((m : Int) + 1) % 3 == 0)) (.int .i64 ((m : Int) + 1 + 1)) (.int .i64 ((m : Int) + 1 + 1 + 1)) (sV (markT (m + 4)))) := VQ.put (k * 5 + 4) (by simp; omega) _
   have GF := grown_set (o := k * 5 + 4) GQ (sV (markT (m + 4)))
   obtain ⟨wf, hwf⟩ : ∃ wf, w5.setCell ⟨g, k * 5 + 4, none⟩ (sV (markT (m + 4))) = wf := ⟨_, rfl⟩
   rw [hwf] at VF GF
   have HF : Hid (0 < n → ∃ (g' : Nat) (M' : List Value), (some ⟨g, 0, none⟩ : Option Addr) = some ⟨g', 0, none⟩ ∧ M'.length = n * 5 ∧ MarkedV M' k0 (k + 1) ∧ Vec wf g' M') := fun _ => ⟨g, _, rfl, (put5L_length _ _ _ _ _ _ _).trans HMl.out, HK.out.next HMl.out hlt m hmm.out, VF⟩
   have HGF : Hid (w.grownBy wf row) := by show World.grownBy _ _ _; rw [← HRg.out]; exact GF
   clear VP GP VQ GQ hl4 VF e5 MT GF
   go_wp2_with fail
   go_roundw
   case rel => exact ⟨k + 1, by omega, by go_num, by rw [hmk.out]; go_num, HF, HGF⟩
   case measure => simp [intOf]; omega
  ·
   obtain rfl : k = n := by omega
   go_wp2_with fail
   go_ret
   refine ⟨rfl, ?_, HX.out⟩
   by_cases h0 : 0 < k
   ·
    obtain ⟨g, M, rfl, hM, hK, V⟩ := H.out h0
    exact ⟨M, ⟨hM, _, cap, rfl, hcap, fun _ => ⟨g, rfl, V⟩⟩, hK⟩
   ·
    exact ⟨L, ⟨H1.out, _, cap, rfl, hcap, fun h => absurd h h0⟩, fun i hi => absurd hi (by omega)⟩

end Go.Proofs.YtgpfddneablcpaaGreatDoor

