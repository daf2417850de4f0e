/-
  Chapter 10: the specification's reader of codes (l10P).
-/
import Derived.Test.YthedbjjncnddbaaDoorKp
import Derived.Deep.QuietTactic
import Derived.BigQuiet
import Derived.Deep.RegionWith
namespace Go.Proofs.YthedbjjncnddbaaDoor
open Go.RowKit

theorem prefK_iff (l p : List UInt8) : Lib.hasPrefix l p = (decide (p.length ≤ l.length) && (l.take p.length == p)) := by
  unfold Lib.hasPrefix
  by_cases h : p <+: l
  · have h1 : p.isPrefixOf l = true := List.isPrefixOf_iff_prefix.2 h
    have h2 : l.take p.length = p := (List.prefix_iff_eq_take.1 h).symm
    rw [h1, h2, decide_eq_true h.length_le]
    simp
  · have h1 : p.isPrefixOf l = false := by
      cases hq : p.isPrefixOf l with
      | false => rfl
      | true => exact absurd (List.isPrefixOf_iff_prefix.1 hq) h
    rw [h1]
    symm
    rw [Bool.and_eq_false_iff]
    by_cases hl : p.length ≤ l.length
    · right
      rw [beq_eq_false_iff_ne]
      exact fun e => h (List.prefix_iff_eq_take.2 e.symm)
    · left; exact decide_eq_false hl
theorem ext_sub (l : BL) (a b : Nat) : (⟨l.toArray⟩ : ByteArray).extract a b = ⟨((l.drop a).take (b - a)).toArray⟩ := by
  apply ByteArray.ext
  apply Array.ext'
  simp [ByteArray.data_extract, List.extract_eq_take_drop]

/-- Nothing but one block has turned; the world may have grown. -/
structure OnlyK (b : Nat) (w w' : World) : Prop where
  os : w'.os = w.os
  tape : w'.tape = w.tape
  output : w'.output = w.output
  size : w.heap.size ≤ w'.heap.size
  block : ∀ k, k ≠ b → k < w.heap.size → w'.heap[k]? = w.heap[k]?
theorem OnlyK.refl (b : Nat) (w : World) : OnlyK b w w := ⟨rfl, rfl, rfl, Nat.le_refl _, fun _ _ _ => rfl⟩
theorem OnlyK.trans {b : Nat} {u v w : World} (h : OnlyK b u v) (k : OnlyK b v w) : OnlyK b u w :=
  ⟨k.os.trans h.os, k.tape.trans h.tape, k.output.trans h.output, Nat.le_trans h.size k.size, fun i hi hl => (k.block i hi (Nat.lt_of_lt_of_le hl h.size)).trans (h.block i hi hl)⟩
theorem OnlyK.of_ext {b : Nat} {w w' : World} (h : Ext w w') : OnlyK b w w' := ⟨h.os, h.tape, h.output, h.size, fun k _ hl => h.block k hl⟩
theorem OnlyK.ext {b : Nat} {w0 w w' : World} (x : Ext w0 w) (h : OnlyK b w w') (hb : w0.heap.size ≤ b) : Ext w0 w' :=
  ⟨h.os.trans x.os, h.tape.trans x.tape, h.output.trans x.output, Nat.le_trans x.size h.size, fun k hk => (h.block k (by omega) (Nat.lt_of_lt_of_le hk x.size)).trans (x.block k hk)⟩
theorem OnlyK.drewN {b : Nat} {w w' : World} (h : OnlyK b w w') (n : Nat) : OnlyK b w (w'.drewN n) := ⟨h.os, h.tape, h.output, h.size, h.block⟩
theorem OnlyK.set {b i : Nat} {w w' : World} (h : OnlyK b w w') (u : Value) : OnlyK b w (w'.setCell ⟨b, i, none⟩ u) :=
  h.trans ⟨rfl, rfl, rfl, by simp [World.setCell], fun k hk _ => Below.heap_setCell _ _ _ _ hk⟩
theorem OnlyK.cell {b k o : Nat} {w w' : World} (h : OnlyK b w w') (hk : k ≠ b) {v : Value} (hc : w.cell? ⟨k, o, none⟩ = some v) : w'.cell? ⟨k, o, none⟩ = some v := by
  have hl : k < w.heap.size := World.block_lt_of_cell? _ _ hc
  unfold World.cell? at hc ⊢
  rw [h.block k hk hl]
  exact hc
theorem OnlyK.frozen {b k o : Nat} {w w' : World} (h : OnlyK b w w') (hk : k ≠ b) {v : Value} (hc : w.cell? ⟨k, o, none⟩ = some v) (hf : w.frozen? ⟨k, o, none⟩ = false) : w'.frozen? ⟨k, o, none⟩ = false := by
  have hl : k < w.heap.size := World.block_lt_of_cell? _ _ hc
  unfold World.frozen? at hf ⊢
  rw [h.block k hk hl]
  exact hf
theorem OnlyK.vec {b k : Nat} {w w' : World} {l : List Value} (h : OnlyK b w w') (hk : k ≠ b) (v : Vec w k l) : Vec w' k l := fun i u hi => ⟨h.cell hk (v i u hi).1, h.frozen hk (v i u hi).1 (v i u hi).2⟩
theorem xdNk {a b : World} (h : Ext a b) (n : Nat) : Ext a (b.drewN n) := ⟨h.os, h.tape, h.output, h.size, h.block⟩

/-- The reader stands at a place of a text. -/
def AtK (w : World) (b : Nat) (l : BL) (k : Nat) : Prop := Vec w b [sV l, .int .i64 (k : Int)] ∧ k ≤ l.length ∧ l.length ≤ 1000
theorem AtK.later {w w' : World} {b : Nat} {l : BL} {k : Nat} (h : AtK w b l k) (x : Ext w w') : AtK w' b l k := ⟨h.1.later x, h.2⟩
theorem AtK.drewN {w : World} {b : Nat} {l : BL} {k : Nat} (h : AtK w b l k) (n : Nat) : AtK (w.drewN n) b l k := h.later (xdNk (xr _) n)
theorem AtK.put {w : World} {b : Nat} {l : BL} {k : Nat} (h : AtK w b l k) (j : Nat) (hj : j ≤ l.length) : AtK (w.setCell ⟨b, 1, none⟩ (.int .i64 (j : Int))) b l j := ⟨h.1.put 1 (by simp) _, hj, h.2.2⟩

set_option maxRecDepth 8000 in
set_option maxHeartbeats 1000000 in
theorem isK (b : Nat) (l s : BL) (k : Nat) (w : World) (h : AtK w b l k) (hs : s.length ≤ 1000) :
    Calls Tryd.prog 40 #[.pointer (some ⟨b, 0, none⟩), sV s] w fun e w' => e = .returned (.bool (Lib.hasPrefix (l.drop k) s)) ∧ ∃ n, w' = w.drewN n := by
  obtain ⟨hv, hk, hl⟩ := h
  have c0 : w.cell? ⟨b, 0, none⟩ = some (.string ⟨l.toArray⟩) := (hv 0 _ rfl).1
  have c1 := (hv 1 _ rfl).1
  rw [prefK_iff, List.length_drop]
  have EX := ext_sub l k (k + s.length)
  rw [show k + s.length - k = s.length by omega] at EX
  have z1 : (⟨l.toArray⟩ : ByteArray).size = l.length := rfl
  have z2 : (⟨s.toArray⟩ : ByteArray).size = s.length := rfl
  obtain ⟨q, hq⟩ : ∃ q, ((l.drop k).take s.length == s) = q := ⟨_, rfl⟩
  have HB : ((⟨((l.drop k).take s.length).toArray⟩ : ByteArray).toList == (⟨s.toArray⟩ : ByteArray).toList) = q := by rw [ByteArray.toList_eq, ByteArray.toList_eq]; exact hq
  rw [hq]
  obtain ⟨S, hS⟩ : ∃ S, (⟨l.toArray⟩ : ByteArray) = S := ⟨_, rfl⟩
  obtain ⟨T, hT⟩ : ∃ T, (⟨s.toArray⟩ : ByteArray) = T := ⟨_, rfl⟩
  obtain ⟨X, hX⟩ : ∃ T, (⟨((l.drop k).take s.length).toArray⟩ : ByteArray) = T := ⟨_, rfl⟩
  obtain ⟨n, hn⟩ : ∃ n, l.length = n := ⟨_, rfl⟩
  obtain ⟨m, hm⟩ : ∃ n, s.length = n := ⟨_, rfl⟩
  show Calls Tryd.prog 40 #[.pointer (some ⟨b, 0, none⟩), .string ⟨s.toArray⟩] w _
  rw [hS] at EX z1 c0
  rw [hT] at z2 HB ⊢
  rw [hX] at EX HB
  rw [hn] at z1 hk hl ⊢
  rw [hm] at z2 EX hs ⊢
  clear hq hS hT hX hn hm hv
  by_cases hc : m ≤ n - k
  · have i1 : (m : Int) ≤ (n : Int) - (k : Int) := by omega
    have f1 : decide ((n : Int) - (k : Int) ≥ (m : Int)) = true := by simp; omega
    rw [decide_eq_true hc]
    cases q
    all_goals
      go_enter Tryd.func40, Tryd.ntmps40
      go_wp2_with fail
      go_quiet (fail)
      go_wp2_with fail
      go_ret
      first | exact ⟨rfl, ⟨_, rfl⟩⟩ | exact ⟨by simp [EX], ⟨_, rfl⟩⟩ | exact ⟨by simp [EX, HB], ⟨_, rfl⟩⟩
  · have i1 : (n : Int) - (k : Int) < (m : Int) := by omega
    have f1 : decide ((n : Int) - (k : Int) ≥ (m : Int)) = false := by simp; omega
    rw [decide_eq_false hc]
    go_enter Tryd.func40, Tryd.ntmps40
    go_wp2_with fail
    go_quiet (fail)
    go_wp2_with fail
    go_ret
    exact ⟨rfl, ⟨_, rfl⟩⟩

theorem drop_pre {l s : BL} {k : Nat} (h : Lib.hasPrefix (l.drop k) s = true) : k + s.length ≤ l.length ∨ s = [] := by
  rw [prefK_iff, List.length_drop] at h
  simp at h
  rcases Nat.eq_zero_or_pos s.length with h0 | h0
  · right; exact List.length_eq_zero_iff.1 h0
  · left; omega
set_option maxRecDepth 8000 in
set_option maxHeartbeats 1000000 in
theorem takeK (b : Nat) (l s : BL) (k : Nat) (w : World) (h : AtK w b l k) (hs : s.length ≤ 1000) :
    Calls Tryd.prog 27 #[.pointer (some ⟨b, 0, none⟩), sV s] w fun e w' => e = .returned (.bool (Lib.hasPrefix (l.drop k) s)) ∧ AtK w' b l (if Lib.hasPrefix (l.drop k) s then k + s.length else k) ∧ OnlyK b w w' := by
  have CI := isK b l s k w h hs
  have hk1 := h.2.1
  have hl1 := h.2.2
  have hd : Lib.hasPrefix (l.drop k) s = true → k + s.length ≤ l.length := fun q => by
    rcases drop_pre q with h1 | h1
    · exact h1
    · rw [h1]; simpa using hk1
  have HA : Hid (∀ n, AtK (w.drewN n) b l k) := fun n => h.drewN n
  have HP : Hid (k + s.length ≤ l.length → ∀ n, AtK ((w.drewN n).setCell ⟨b, 1, none⟩ (.int .i64 ((k : Int) + (s.length : Int)))) b l (k + s.length)) := fun hh n => by
    have := (h.drewN n).put (k + s.length) hh
    rw [Int.natCast_add] at this
    exact this
  have c1 : ∀ n, (w.drewN n).cell? ⟨b, 1, none⟩ = some (.int .i64 (k : Int)) := fun n => (h.1 1 _ rfl).1
  have f1 : ∀ n, (w.drewN n).frozen? ⟨b, 1, none⟩ = false := fun n => (h.1 1 _ rfl).2
  clear h
  have z2 : (⟨s.toArray⟩ : ByteArray).size = s.length := rfl
  obtain ⟨m, hm⟩ : ∃ n, s.length = n := ⟨_, rfl⟩
  rw [hm] at z2 hs hd HP ⊢
  obtain ⟨p, hp⟩ : ∃ p, Lib.hasPrefix (l.drop k) s = p := ⟨_, rfl⟩
  rw [hp] at CI hd ⊢
  clear hp hm
  cases p
  · clear hd HP
    go_enter Tryd.func27, Tryd.ntmps27
    go_wp2_with fail
    refine CI.mono ?_
    rintro e w1 ⟨rfl, n, rfl⟩
    go_wp2_with fail
    go_ret
    exact ⟨rfl, HA.out n, (OnlyK.refl b w).drewN n⟩
  · have hd := hd rfl
    have HP2 : Hid (∀ n, AtK ((w.drewN n).setCell ⟨b, 1, none⟩ (.int .i64 ((k : Int) + (m : Int)))) b l (k + m)) := HP.out hd
    clear HP
    go_enter Tryd.func27, Tryd.ntmps27
    go_wp2_with fail
    refine CI.mono ?_
    rintro e w1 ⟨rfl, n, rfl⟩
    have d1 := c1 n
    have d2 := f1 n
    go_wp2_with fail
    go_ret
    exact ⟨rfl, HP2.out n, ((OnlyK.refl b w).drewN n).set _⟩

theorem run_zero (c : UInt8) (r : BL) : runF c 0 r = 0 := by unfold runF; omega
theorem run_none {c : UInt8} {m : Nat} {r : BL} (h : Lib.hasPrefix r [c] = false) : runF c m r = 0 := by
  unfold runF
  cases r with
  | nil => simp
  | cons d r =>
    have : (d == c) = false := by
      unfold Lib.hasPrefix at h
      simp [List.isPrefixOf] at h
      rw [beq_eq_false_iff_ne]
      exact fun e => h e.symm
    simp [List.takeWhile, this]
theorem run_some {c : UInt8} {m : Nat} {r : BL} (h : Lib.hasPrefix r [c] = true) (hm : 0 < m) : runF c m r = 1 + runF c (m - 1) (r.drop 1) := by
  unfold runF
  cases r with
  | nil => simp [Lib.hasPrefix, List.isPrefixOf] at h
  | cons d r =>
    have : (d == c) = true := by
      unfold Lib.hasPrefix at h
      simp [List.isPrefixOf] at h
      rw [h]
      simp
    simp only [List.takeWhile, this, List.drop_succ_cons, List.drop_zero, List.length_cons]
    omega
theorem run_le (c : UInt8) (m : Nat) (r : BL) : runF c m r ≤ m := by unfold runF; omega
theorem run_len (c : UInt8) (m : Nat) (r : BL) : runF c m r ≤ r.length := by
  unfold runF
  have := (List.takeWhile_prefix (p := (· == c)) (l := r)).length_le
  omega
set_option maxRecDepth 8000 in
set_option maxHeartbeats 1000000 in
theorem manyK (b : Nat) (l : BL) (c : UInt8) (m k : Nat) (w : World) (h : AtK w b l k) (hm : m ≤ 100) :
    Calls Tryd.prog 41 #[.pointer (some ⟨b, 0, none⟩), sV [c], .int .i64 (m : Int)] w fun e w' => e = .returned (.int .i64 (runF c m (l.drop k) : Nat)) ∧ AtK w' b l (k + runF c m (l.drop k)) ∧ OnlyK b w w' := by
  obtain ⟨R, hR⟩ : ∃ R, runF c m (l.drop k) = R := ⟨_, rfl⟩
  have H0 : Hid (0 + runF c (m - 0) (l.drop (k + 0)) = R) := by show _ = _; rw [Nat.sub_zero, Nat.add_zero, Nat.zero_add]; exact hR
  have HW : Hid (AtK w b l (k + 0)) := h
  rw [hR]
  clear hR h
  go_enter Tryd.func41, Tryd.ntmps41
  go_wp2_with fail
  go_loopw [7] (fun i wr => ∃ j : Nat, j ≤ m ∧ i = .int .i64 j ∧ Hid (j + runF c (m - j) (l.drop (k + j)) = R) ∧ Hid (AtK wr b l (k + j)) ∧ OnlyK b w wr) (fun i _ => m - (intOf i).toNat)
  case atStart => exact ⟨0, by omega, rfl, H0, HW, OnlyK.refl _ _⟩
  case round =>
    obtain ⟨j, hj, rfl, HJ, HA, O⟩ := hrel
    by_cases hlt : j < m
    · have i2 : (j : Int) < (m : Int) := by omega
      have CT := takeK b l [c] (k + j) wr HA.out (by simp)
      obtain ⟨p, hp⟩ : ∃ p, Lib.hasPrefix (l.drop (k + j)) [c] = p := ⟨_, rfl⟩
      rw [hp] at CT
      have CT : Calls Tryd.prog 27 #[.pointer (some ⟨b, 0, none⟩), sV [c]] wr fun e w' => e = .returned (.bool p) ∧ AtK w' b l (if p = true then k + j + 1 else k + j) ∧ OnlyK b wr w' := CT
      cases p
      · have HE : Hid (j = R) := by
          show _ = _
          have := HJ.out
          rw [run_none hp] at this
          omega
        clear HA HJ hp
        go_wp2_with fail
        refine CT.mono ?_
        rintro e w1 ⟨rfl, hA, o1⟩
        go_wp2_with fail
        go_ret
        exact ⟨ret_int (by rw [← HE.out]), by rw [← HE.out]; exact hA, O.trans o1⟩
      · have HE : Hid ((j + 1) + runF c (m - (j + 1)) (l.drop (k + (j + 1))) = R) := by
          show _ = _
          have := HJ.out
          rw [run_some hp (by omega), List.drop_drop] at this
          rw [show k + (j + 1) = k + j + 1 by omega, show m - (j + 1) = m - j - 1 by omega]
          omega
        clear HA HJ hp
        go_wp2_with fail
        refine CT.mono ?_
        rintro e w1 ⟨rfl, hA, o1⟩
        have HA2 : Hid (AtK w1 b l (k + (j + 1))) := hA
        clear hA
        go_wp2_with fail
        go_roundw
        case rel => exact ⟨j + 1, by omega, by go_num, HE, HA2, O.trans o1⟩
        case measure => simp [intOf]; omega
    · obtain rfl : j = m := by omega
      have HE : Hid (j = R) := by
        show _ = _
        have := HJ.out
        rw [Nat.sub_self, run_zero] at this
        omega
      clear HJ
      go_wp2_with fail
      go_ret
      exact ⟨ret_int (by rw [← HE.out]), by rw [← HE.out]; exact HA.out, O⟩

end Go.Proofs.YthedbjjncnddbaaDoor
