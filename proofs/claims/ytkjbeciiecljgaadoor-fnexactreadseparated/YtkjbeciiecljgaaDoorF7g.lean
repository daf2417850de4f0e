/-
  Chapter 7: rows of texts: compared, marked, held against their marks.
-/
import Derived.Test.YtkjbeciiecljgaaDoorSv1
import Derived.Laws.IdiomStrings
import Derived.BigQuiet
import Derived.Deep.RegionHeld3
import Derived.Deep.QuietTactic
namespace Go.Proofs.YtkjbeciiecljgaaDoor
open Go.RowKit

def mtF : Nat → Nat → List UInt8 → List UInt8
  | 0, _, s => s
  | f + 1, k, s => if k = 0 then s else mtF f (k / 10) (UInt8.ofNat (48 + k % 10) :: s)
theorem mtF_zero (f : Nat) (s : List UInt8) : mtF f 0 s = s := by cases f <;> rfl
def markT (k : Nat) : List UInt8 := 109 :: mtF k k []
set_option maxRecDepth 8000 in
set_option maxHeartbeats 2000000 in
theorem markTextL (k : Nat) (w : World) (h1 : 1 ≤ k) (h2 : k ≤ 100000000) :
    Calls Tryd.prog 33 #[.int .i64 k] w fun e w' => e = .returned (sV (markT k)) ∧ Ext w w' := by
  have f1 : decide ((k : Int) ≤ 0) = false := by simp; omega
  obtain ⟨T, hT⟩ : ∃ T, mtF k k [] = T := ⟨_, rfl⟩
  have HT : Hid (mtF k k [] = T) := hT
  have HM : Hid (markT k = 109 :: T) := by show _ = _; unfold markT; rw [hT]
  clear hT
  go_enter Tryd.func33, Tryd.ntmps33
  go_wp2_with fail
  go_loopw [0, 3] (fun a b wr => ∃ (m f : Nat) (s : ByteArray), a = .int .i64 m ∧ b = .string s ∧ m ≤ f ∧ f ≤ 100000000 ∧ Hid (mtF f m s.data.toList = T) ∧ s.size + f ≤ k ∧ Ext w wr) (fun a _ _ => (intOf a).toNat)
  case atStart => exact ⟨k, k, _, rfl, rfl, by omega, h2, HT, by show 0 + k ≤ k; omega, xr _⟩
  case round =>
    obtain ⟨m, f, s, rfl, rfl, hmf, hf, HN, hsz, X⟩ := hrel
    by_cases hm0 : m = 0
    · subst hm0
      have HE : Hid (s.data.toList = T) := by have := HN.out; rw [mtF_zero] at this; exact this
      have hss : (⟨#[109]⟩ : ByteArray).size + s.size ≤ 9223372036854775807 := by show 1 + _ ≤ _; omega
      have HZ : Hid ((⟨#[109]⟩ ++ s : ByteArray) = ⟨(markT k).toArray⟩) := by
        show _ = _
        rw [HM.out, ← HE.out]
        apply ByteArray.ext
        rw [ByteArray.data_append]
        apply Array.ext'
        simp
      go_wp2_with fail
      go_ret
      exact ⟨congrArg (fun z => Ending.returned (Value.string z)) HZ.out, X⟩
    · obtain ⟨f, rfl⟩ : ∃ g, f = g + 1 := ⟨f - 1, by omega⟩
      have hm1 : decide ((m : Int) > 0) = true := by simp; omega
      obtain ⟨a, ha⟩ : ∃ a : Nat, m % 10 = a := ⟨_, rfl⟩
      obtain ⟨q, hq⟩ : ∃ q : Nat, m / 10 = q := ⟨_, rfl⟩
      have ha' : (m : Int).tmod 10 = (a : Int) := by rw [Int.tmod_eq_emod_of_nonneg (by omega)]; omega
      have hq' : (m : Int).tdiv 10 = (q : Int) := by rw [Int.tdiv_eq_ediv_of_nonneg (by omega)]; omega
      have a10 : a < 10 := by omega
      have q200 : q < m := by omega
      have hcv := run_convert_bytes_back (P := Tryd.prog) (wr.alloc (.cells #[.int .u8 (48 + (a : Int))] 5)) 31 9 5 ⟨wr.heap.size, 0, none⟩ 1 [UInt8.ofNat (48 + a)] Tryd.underlying31 Tryd.underlying5 Tryd.underlying9 (fun j hj => by
        have hj' : j = 0 := by simpa using hj
        subst hj'
        simp [go_sem]
        omega)
      rw [List.length_singleton] at hcv
      obtain ⟨t, ht⟩ : ∃ t : ByteArray, (⟨[UInt8.ofNat (48 + a)].toArray⟩ : ByteArray) = t := ⟨_, rfl⟩
      rw [ht] at hcv
      have hts : t.data.toList = [UInt8.ofNat (48 + a)] := by rw [← ht]
      have htz := size_ofL' hts
      have HN2 : Hid (mtF f q (t ++ s).data.toList = T) := by
        have h := HN.out
        unfold mtF at h
        rw [if_neg hm0, ha, hq] at h
        show _ = _
        rw [ByteArray.data_append, Array.toList_append, hts]
        exact h
      simp only [List.length_singleton] at htz
      have hw8 : IntKind.u8.wrap (48 + (a : Int)) = 48 + (a : Int) := by rw [IntKind.wrap_u8]; omega
      clear ha hq hts ht HN HT HM
      go_wp2_with fail
      go_roundw
      case rel => exact ⟨q, f, _, rfl, rfl, by omega, by omega, HN2, by rw [ByteArray.size_append]; omega, xa X _⟩
      case measure => simp [intOf]; omega

/-- The marks from k on. -/
def marksT (k : Nat) : Nat → List (List UInt8)
  | 0 => []
  | n + 1 => markT k :: marksT (k + 1) n
theorem marksT_length (n : Nat) : ∀ k, (marksT k n).length = n := by
  induction n with
  | zero => intro k; rfl
  | succ n ih => intro k; simp [marksT, ih]
theorem marksT_at (n : Nat) : ∀ k j, j < n → (marksT k n)[j]? = some (markT (k + j)) := by
  induction n with
  | zero => intro k j h; omega
  | succ n ih =>
    intro k j h
    cases j with
    | zero => rfl
    | succ j =>
      show (marksT (k + 1) n)[j]? = _
      rw [ih (k + 1) j (by omega)]
      congr 2
      omega
set_option maxRecDepth 8000 in
set_option maxHeartbeats 2000000 in
theorem eqStrs (g g' : Nat) (c c' : Nat) (l : List (List UInt8)) (w : World) (h : Vec w g (l.map sV)) (h' : Vec w g' (l.map sV)) (hc : l.length ≤ c) (hc' : l.length ≤ c') (hl : l.length ≤ 1000) :
    Calls Tryd.prog 22 #[.slice (some ⟨g, 0, none⟩) l.length c, .slice (some ⟨g', 0, none⟩) l.length c'] w fun e w' => e = .returned (.bool true) ∧ Ext w w' := by
  obtain ⟨n, hn⟩ : ∃ n, l.length = n := ⟨_, rfl⟩
  have HN : Hid (l.length = n) := hn
  have HV : Hid (Vec w g (l.map sV) ∧ Vec w g' (l.map sV)) := ⟨h, h'⟩
  rw [hn] at hc hc' hl ⊢
  clear hn h h'
  go_enter Tryd.func22, Tryd.ntmps22
  go_wp2_with fail
  go_loopw [5] (fun i wr => ∃ k : Nat, k ≤ n ∧ i = .int .i64 k ∧ Ext w wr) (fun i _ => n - (intOf i).toNat)
  case atStart => exact ⟨0, by omega, rfl, xr _⟩
  case round =>
    obtain ⟨k, hk, rfl, X⟩ := hrel
    by_cases hlt : k < n
    · obtain ⟨e, he⟩ : ∃ e, l[k]? = some e := ⟨_, List.getElem?_eq_getElem (by rw [HN.out]; exact hlt)⟩
      have a0 := ((HV.out.1.later X) k (sV e) (by rw [List.getElem?_map, he]; rfl)).1
      have c0 := ((HV.out.2.later X) k (sV e) (by rw [List.getElem?_map, he]; rfl)).1
      have i2 : (k : Int) < (n : Int) := by omega
      have hp : (e == e) = true := by simp
      clear he
      go_wp2_with fail
      go_quiet (fail)
      go_wp2_with fail
      go_roundw
      case rel => exact ⟨k + 1, by omega, by go_num, ⟨X.os, X.tape, X.output, X.size, X.block⟩⟩
      case measure => simp [intOf]; omega
    · obtain rfl : k = n := by omega
      go_wp2_with fail
      go_ret
      exact ⟨rfl, X⟩

/-- Only the row at g has turned. -/
def Turned (g : Nat) (w w' : World) : Prop := (∀ a, Ext a w → a.heap.size ≤ g → Ext a w') ∧ ∀ b L, b ≠ g → Vec w b L → Vec w' b L
theorem Turned.refl (g : Nat) (w : World) : Turned g w w := ⟨fun _ h _ => h, fun _ _ _ h => h⟩
theorem Turned.step {g : Nat} {w w1 w2 : World} (h : Turned g w w1) (x : Ext w1 w2) : Turned g w w2 := ⟨fun a ha hg => xt (h.1 a ha hg) x, fun b L hb hL => (h.2 b L hb hL).later x⟩
theorem Turned.put {g : Nat} {w w1 : World} (h : Turned g w w1) (j : Nat) (u : Value) : Turned g w (w1.setCell ⟨g, j, none⟩ u) :=
  ⟨fun a ha hg => xset (h.1 a ha hg) (p := ⟨g, j, none⟩) hg u, fun b L hb hL => (h.2 b L hb hL).far (p := ⟨g, j, none⟩) (fun e => hb e.symm) u⟩
set_option maxRecDepth 8000 in
set_option maxHeartbeats 2000000 in
theorem markStrs (g c n k0 : Nat) (L : List Value) (w : World) (h : Vec w g L) (hL : L.length = n) (hc : n ≤ c) (hn : n ≤ 3000000) (h1 : 1 ≤ k0) (h2 : k0 ≤ 3000000) :
    Calls Tryd.prog 23 #[.slice (some ⟨g, 0, none⟩) n c, .int .i64 k0] w fun e w' => e = .returned (.int .i64 ((k0 + n : Nat) : Int)) ∧ Vec w' g ((marksT k0 n).map sV) ∧ Turned g w w' := by
  have H0 : Hid (∃ M : List Value, M.length = n ∧ Vec w g M ∧ ∀ i, i < 0 → M[i]? = some (sV (markT (k0 + i)))) := ⟨L, hL, h, fun i hi => by omega⟩
  clear h hL
  go_enter Tryd.func23, Tryd.ntmps23
  go_wp2_with fail
  go_loopw [1, 5] (fun a i wr => ∃ k : Nat, k ≤ n ∧ i = .int .i64 k ∧ a = .int .i64 ((k0 + k : Nat) : Int) ∧ Hid (∃ M : List Value, M.length = n ∧ Vec wr g M ∧ ∀ i, i < k → M[i]? = some (sV (markT (k0 + i)))) ∧ Hid (Turned g w wr)) (fun _ i _ => n - (intOf i).toNat)
  case atStart => exact ⟨0, by omega, rfl, rfl, H0, Turned.refl g w⟩
  case round =>
    clear H0
    obtain ⟨k, hk, rfl, rfl, HM, HT⟩ := hrel
    by_cases hlt : k < n
    · have i2 : (k : Int) < (n : Int) := by omega
      obtain ⟨m, hm⟩ : ∃ m, k0 + k = m := ⟨_, rfl⟩
      have m1 : m ≤ 6000000 := by omega
      rw [hm]
      have CM := markTextL m wr (by omega) (by omega)
      go_wp2_with fail
      refine CM.mono ?_
      rintro e w1 ⟨rfl, e1⟩
      obtain ⟨M, q1, q2, q3⟩ := HM.out
      obtain ⟨v0, hv0⟩ : ∃ v, M[k]? = some v := ⟨_, List.getElem?_eq_getElem (by omega)⟩
      have q2 := q2.later e1
      have c0 := (q2 k v0 hv0).1
      have f0 := (q2 k v0 hv0).2
      have HQ : Hid (∃ M : List Value, M.length = n ∧ Vec (w1.setCell ⟨g, k, none⟩ (sV (markT m))) g M ∧ ∀ i, i < k + 1 → M[i]? = some (sV (markT (k0 + i)))) := by
        refine ⟨M.set k (sV (markT m)), by simp [q1], q2.put k (by omega) _, fun i hi => ?_⟩
        by_cases e : i = k
        · subst e
          rw [List.getElem?_set_self (by omega), hm]
        · rw [List.getElem?_set_ne (fun q => e q.symm)]
          exact q3 i (by omega)
      have HU : Hid (Turned g w (w1.setCell ⟨g, k, none⟩ (sV (markT m)))) := (HT.out.step e1).put k _
      obtain ⟨w2, hw2⟩ : ∃ q, w1.setCell ⟨g, k, none⟩ (sV (markT m)) = q := ⟨_, rfl⟩
      rw [hw2] at HQ HU
      have hnx : ((m : Nat) : Int) + 1 = ((k0 + (k + 1) : Nat) : Int) := by omega
      clear HM HT CM q2 q3 hv0 e1
      go_wp2_with fail
      go_roundw
      case rel => exact ⟨k + 1, by omega, by go_num, by first | (rw [hnx]) | (congr 1), HQ, HU⟩
      case measure => simp [intOf]; omega
    · obtain rfl : k = n := by omega
      have HF : Hid (Vec wr g ((marksT k0 k).map sV)) := by
        obtain ⟨M, q1, q2, q3⟩ := HM.out
        intro i v hi
        rw [List.getElem?_map] at hi
        have hik : i < k := by
          rcases Nat.lt_or_ge i k with h' | h'
          · exact h'
          · rw [List.getElem?_eq_none (by rw [marksT_length]; exact h')] at hi; cases hi
        rw [marksT_at _ _ _ hik] at hi
        exact q2 i v ((q3 i hik).trans hi)
      clear HM
      go_wp2_with fail
      go_ret
      exact ⟨rfl, HF.out, HT.out⟩
set_option maxRecDepth 8000 in
set_option maxHeartbeats 2000000 in
theorem heldStrs (g c n k0 : Nat) (w : World) (h : Vec w g ((marksT k0 n).map sV)) (hc : n ≤ c) (hn : n ≤ 3000000) (h1 : 1 ≤ k0) (h2 : k0 ≤ 3000000) :
    Calls Tryd.prog 24 #[.slice (some ⟨g, 0, none⟩) n c, .int .i64 k0] w fun e w' => e = .returned (.int .i64 ((k0 + n : Nat) : Int)) ∧ Ext w w' := by
  have HV : Hid (Vec w g ((marksT k0 n).map sV)) := h
  clear h
  go_enter Tryd.func24, Tryd.ntmps24
  go_wp2_with fail
  go_loopw [1, 5] (fun a i wr => ∃ k : Nat, k ≤ n ∧ i = .int .i64 k ∧ a = .int .i64 ((k0 + k : Nat) : Int) ∧ Ext w wr) (fun _ i _ => n - (intOf i).toNat)
  case atStart => exact ⟨0, by omega, rfl, rfl, xr _⟩
  case round =>
    obtain ⟨k, hk, rfl, rfl, X⟩ := hrel
    by_cases hlt : k < n
    · have i2 : (k : Int) < (n : Int) := by omega
      obtain ⟨m, hm⟩ : ∃ m, k0 + k = m := ⟨_, rfl⟩
      have m1 : m ≤ 6000000 := by omega
      have a0 := ((HV.out.later X) k (sV (markT m)) (by rw [List.getElem?_map, marksT_at _ _ _ hlt, hm]; rfl)).1
      rw [hm]
      obtain ⟨T, hT⟩ : ∃ T, markT m = T := ⟨_, rfl⟩
      have CM : Hid (∀ W, Calls Tryd.prog 33 #[.int .i64 m] W fun e w' => e = .returned (sV T) ∧ Ext W w') := fun W => by rw [← hT]; exact markTextL m W (by omega) (by omega)
      have hp : (T == T) = true := by simp
      have hnx : ((m : Nat) : Int) + 1 = ((k0 + (k + 1) : Nat) : Int) := by omega
      rw [hT] at a0
      clear hT
      go_wp2_with fail
      go_region_held3 (fun w' => w'.cell? ⟨g, k, none⟩ = some (sV T)) (go_keep)
        (first
          | (go_at_call 33; refine (CM.out _).mono ?_; rintro e w' ⟨rfl, E⟩; have Y := xt (xd (xr _)) E; have r0 := cell_later Y a0))
      all_goals
        go_wp2_with fail
        go_roundw
        case rel => exact ⟨k + 1, by omega, by go_num, by first | (rw [hnx]) | (congr 1), xt X Y⟩
        case measure => simp [intOf]; omega
    · obtain rfl : k = n := by omega
      go_wp2_with fail
      go_ret
      exact ⟨rfl, X⟩

end Go.Proofs.YtkjbeciiecljgaaDoor
