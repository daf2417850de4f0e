/-
  Chapter 14: the reader of rows, by the program: what is left, what is passed, where a field may end.
-/
import Derived.Test.YtkjbeciiecljgaaDoorRd1
import Derived.Test.YtkjbeciiecljgaaDoorHpx
import Derived.Test.YtkjbeciiecljgaaDoorSs2
import Derived.BigQuiet
import Derived.Deep.QuietTactic
namespace Go.Proofs.YtkjbeciiecljgaaDoor
open Go.RowKit

theorem stopU_pfx (m : UInt8) (s : List UInt8) : stopU m s = ((((s == []) || pfxB s [m]) || pfxB s [10]) || pfxB s [13, 10]) := by
  rw [pfxB_one, pfxB_one]
  unfold stopU
  have h1 : s.isEmpty = (s == []) := by cases s <;> rfl
  have h2 : decide (endU s ≠ 0) = ((s.head? == some 10) || pfxB s [13, 10]) := by
    unfold endU pfxB
    match s with
    | [] => rfl
    | [b] =>
      by_cases h : b = 10
      · subst h; rfl
      · by_cases h3 : b = 13
        · subst h3; rfl
        · simp [h]
    | b :: c :: r =>
      by_cases h : b = 10
      · subst h; simp
      · by_cases h3 : b = 13
        · subst h3
          by_cases h4 : c = 10
          · subst h4; simp
          · simp [h4]
        · simp [h, h3]
  rw [h1, h2]
  simp only [Bool.or_assoc]

/-- The reader lies in a block: the text, the mark, where it stands. -/
def Rdr (w : World) (b : Nat) (t : List UInt8) (m : UInt8) (i : Nat) : Prop := Box3 w b (sV t) (sV [m]) (.int .i64 i)
theorem Rdr.later {w w' : World} {b : Nat} {t : List UInt8} {m : UInt8} {i : Nat} (h : Rdr w b t m i) (x : Ext w w') : Rdr w' b t m i := Box3.later h x
theorem Rdr.put {w : World} {b : Nat} {t : List UInt8} {m : UInt8} {i : Nat} (h : Rdr w b t m i) (j : Nat) : Rdr (w.setCell ⟨b, 2, none⟩ (.int .i64 j)) b t m j := by
  obtain ⟨⟨q0, q1, q2⟩, f0, f1, f2⟩ := h
  refine ⟨⟨?_, ?_, World.cell?_setCell_same _ _ _ q2⟩, ?_, ?_, ?_⟩
  · rw [World.cell?_setCell_other _ _ _ _ (fun e => by cases e)]; exact q0
  · rw [World.cell?_setCell_other _ _ _ _ (fun e => by cases e)]; exact q1
  · simp [World.frozen?_setCell, f0]
  · simp [World.frozen?_setCell, f1]
  · simp [World.frozen?_setCell, f2]
/-- Of what there was, one block alone has turned. -/
structure Sole (b : Nat) (w w' : World) : Prop where
  os : w'.os = w.os
  tape : w'.tape = w.tape
  output : w'.output = w.output
  size : w.heap.size ≤ w'.heap.size
  block : ∀ k, k ≠ b → k < w.heap.size → w'.heap[k]? = w.heap[k]?
theorem Sole.refl (b : Nat) (w : World) : Sole b w w := ⟨rfl, rfl, rfl, Nat.le_refl _, fun _ _ _ => rfl⟩
theorem Sole.trans {b : Nat} {u v w : World} (h : Sole b u v) (k : Sole b v w) : Sole b u w :=
  ⟨k.os.trans h.os, k.tape.trans h.tape, k.output.trans h.output, Nat.le_trans h.size k.size, fun i hi hl => (k.block i hi (Nat.lt_of_lt_of_le hl h.size)).trans (h.block i hi hl)⟩
theorem Sole.step {b : Nat} {u v w : World} (h : Sole b u v) (x : Ext v w) : Sole b u w := h.trans ⟨x.os, x.tape, x.output, x.size, fun k _ hl => x.block k hl⟩
theorem Sole.ext {b : Nat} {w0 w w' : World} (x : Ext w0 w) (h : Sole b w w') (hb : w0.heap.size ≤ b) : Ext w0 w' :=
  ⟨h.os.trans x.os, h.tape.trans x.tape, h.output.trans x.output, Nat.le_trans x.size h.size, fun k hk => (h.block k (by omega) (Nat.lt_of_lt_of_le hk x.size)).trans (x.block k hk)⟩
theorem Sole.put {b : Nat} {w w' : World} (h : Sole b w w') (j : Nat) (u : Value) : Sole b w (w'.setCell ⟨b, j, none⟩ u) :=
  ⟨h.os, h.tape, h.output, Nat.le_trans h.size (by simp [World.setCell]), fun k hk hl => (heap_setCell_other _ _ _ _ hk).trans (h.block k hk hl)⟩
theorem Sole.cell {b : Nat} {w w' : World} (h : Sole b w w') {a : Addr} (hk : a.block ≠ b) {v : Value} (hc : w.cell? a = some v) : w'.cell? a = some v := by
  have := h.block a.block hk (World.block_lt_of_cell? _ _ hc)
  unfold World.cell? at hc ⊢
  rw [this]
  exact hc
/-- Own rows may have grown beside it. -/
theorem Sole.grown {b : Nat} {u v w : World} (h : Sole b u v) {row : Option Nat} (g : v.grownBy w row) (hr : ∀ r, row = some r → u.heap.size ≤ r) : Sole b u w :=
  ⟨g.os.trans h.os, g.tape.trans h.tape, g.output.trans h.output, Nat.le_trans h.size g.size, fun k hk hl => (g.block k (Nat.lt_of_lt_of_le hl h.size) (fun e => by have := hr k e.symm; omega)).trans (h.block k hk hl)⟩
theorem xdNr {a b : World} (h : Ext a b) (n : Nat) : Ext a (b.drewN n) := ⟨h.os, h.tape, h.output, h.size, h.block⟩
set_option maxRecDepth 8000 in
set_option maxHeartbeats 1000000 in
theorem restI (b : Nat) (t : List UInt8) (m : UInt8) (i : Nat) (w : World) (h : Rdr w b t m i) (hi : i ≤ t.length) :
    Calls Tryd.prog 18 #[.pointer (some ⟨b, 0, none⟩)] w fun e w' => e = .returned (sV (t.drop i)) ∧ Ext w w' := by
  obtain ⟨⟨q0, _, q2⟩, _⟩ := h
  obtain ⟨s, hs⟩ : ∃ s : ByteArray, (⟨t.toArray⟩ : ByteArray) = s := ⟨_, rfl⟩
  have hsz : s.size = t.length := by rw [← hs]; rfl
  obtain ⟨n, hn⟩ : ∃ n, t.length = n := ⟨_, rfl⟩
  have HE : Hid ((.string (s.extract i n) : Value) = sV (t.drop i)) := by
    show _ = _
    rw [← hs, ext_subH, ← hn, List.take_of_length_le (by simp)]
  change w.cell? ⟨b, 0, none⟩ = some (.string ⟨t.toArray⟩) at q0
  rw [hs] at q0
  rw [hn] at hsz hi
  have i1 : (i : Int) ≤ (n : Int) := by omega
  have i0 : (0 : Int) ≤ (i : Int) := by omega
  clear hs hn
  go_enter Tryd.func18, Tryd.ntmps18
  go_wp2_with fail
  go_quiet (fail)
  go_wp2_with fail
  go_ret
  exact ⟨congrArg Ending.returned HE.out, xdNr (xr _) _⟩
set_option maxRecDepth 8000 in
set_option maxHeartbeats 1000000 in
theorem passesI (b : Nat) (t : List UInt8) (m : UInt8) (i : Nat) (p : List UInt8) (w : World) (h : Rdr w b t m i) (hi : i ≤ t.length) (ht : t.length ≤ 30000) (hp : p.length ≤ 2) :
    Calls Tryd.prog 25 #[.pointer (some ⟨b, 0, none⟩), sV p] w fun e w' => e = .returned (.bool (pfxB (t.drop i) p)) ∧ Rdr w' b t m (if pfxB (t.drop i) p = true then i + p.length else i) ∧ Sole b w w' := by
  have CR := restI b t m i w h hi
  have CH := fun W => hasPrefI (t.drop i) p W
  obtain ⟨q, hq⟩ : ∃ q, pfxB (t.drop i) p = q := ⟨_, rfl⟩
  obtain ⟨k, hk⟩ : ∃ k, p.length = k := ⟨_, rfl⟩
  have hps : (⟨p.toArray⟩ : ByteArray).size = k := hk
  have HR : Hid (Rdr w b t m i) := h
  rw [hq] at CH ⊢
  rw [hk] at hp ⊢
  clear hq hk h
  have hik : i ≤ 30000 := by omega
  go_enter Tryd.func25, Tryd.ntmps25
  go_wp2_with fail
  refine CR.mono ?_
  rintro _ w1 ⟨rfl, e1⟩
  clear CR
  have R1 := HR.out.later e1
  cases q
  · have HK : Hid (Rdr w1 b t m (if (false : Bool) = true then i + k else i) ∧ Sole b w w1) := ⟨R1, (Sole.refl _ w).step e1⟩
    go_wp2_with fail
    refine (CH _).mono ?_
    rintro _ w2 ⟨rfl, rfl⟩
    go_wp2_with fail
    go_ret
    exact ⟨rfl, HK.out.1, HK.out.2⟩
  · obtain ⟨⟨q0, q1, q2⟩, f0, f1, f2⟩ := id R1
    obtain ⟨j, hj⟩ : ∃ j : Nat, i + k = j := ⟨_, rfl⟩
    have hji : (i : Int) + (k : Int) = (j : Int) := by omega
    have HK : Hid (Rdr (w1.setCell ⟨b, 2, none⟩ (.int .i64 j)) b t m j ∧ Sole b w (w1.setCell ⟨b, 2, none⟩ (.int .i64 j))) := ⟨R1.put j, ((Sole.refl _ w).step e1).put 2 _⟩
    clear R1
    go_wp2_with fail
    refine (CH _).mono ?_
    rintro _ w2 ⟨rfl, rfl⟩
    go_wp2_with fail
    go_ret
    exact ⟨rfl, HK.out.1, HK.out.2⟩
set_option maxRecDepth 8000 in
set_option maxHeartbeats 1000000 in
theorem endsI (b : Nat) (t : List UInt8) (m : UInt8) (i : Nat) (s : List UInt8) (w : World) (h : Rdr w b t m i) :
    Calls Tryd.prog 42 #[.pointer (some ⟨b, 0, none⟩), sV s] w fun e w' => e = .returned (.bool (stopU m s)) ∧ w' = w := by
  obtain ⟨⟨q0, q1, q2⟩, _⟩ := h
  have C1 := fun W => hasPrefI s [m] W
  have C2 := fun W => hasPrefI s [10] W
  have C3 := fun W => hasPrefI s [13, 10] W
  have HS := stopU_pfx m s
  obtain ⟨E, hE⟩ : ∃ E, (s == []) = E := ⟨_, rfl⟩
  obtain ⟨A, hA⟩ : ∃ E, pfxB s [m] = E := ⟨_, rfl⟩
  obtain ⟨B, hB⟩ : ∃ E, pfxB s [10] = E := ⟨_, rfl⟩
  obtain ⟨C, hC⟩ : ∃ E, pfxB s [13, 10] = E := ⟨_, rfl⟩
  rw [hE, hA, hB, hC] at HS
  rw [hA] at C1
  rw [hB] at C2
  rw [hC] at C3
  rw [HS]
  obtain ⟨mk, hmk⟩ : ∃ v : Value, sV [m] = v := ⟨_, rfl⟩
  clear hA hB hC HS hmk
  cases E
  · cases A
    · cases B
      · go_enter Tryd.func42, Tryd.ntmps42
        go_wp2_with fail
        refine (C1 _).mono ?_
        rintro _ w1 ⟨rfl, rfl⟩
        go_wp2_with fail
        refine (C2 _).mono ?_
        rintro _ w2 ⟨rfl, rfl⟩
        go_wp2_with fail
        refine (C3 _).mono ?_
        rintro _ w3 ⟨rfl, rfl⟩
        go_wp2_with fail
        go_ret
        exact ⟨rfl, rfl⟩
      · go_enter Tryd.func42, Tryd.ntmps42
        go_wp2_with fail
        refine (C1 _).mono ?_
        rintro _ w1 ⟨rfl, rfl⟩
        go_wp2_with fail
        refine (C2 _).mono ?_
        rintro _ w2 ⟨rfl, rfl⟩
        go_wp2_with fail
        go_ret
        exact ⟨rfl, rfl⟩
    · go_enter Tryd.func42, Tryd.ntmps42
      go_wp2_with fail
      refine (C1 _).mono ?_
      rintro _ w1 ⟨rfl, rfl⟩
      go_wp2_with fail
      go_ret
      exact ⟨rfl, rfl⟩
  · go_enter Tryd.func42, Tryd.ntmps42
    go_wp2_with fail
    go_ret
    exact ⟨rfl, rfl⟩
/-- A fault, with where it was met. -/
abbrev faultV (ev : Value) (n : Nat) : Value := .iface 47 (.agg #[ev, .int .i64 n])
set_option maxHeartbeats 1000000 in
theorem faultI (b : Nat) (t : List UInt8) (m : UInt8) (i : Nat) (ty : TypeId) (pv : Value) (n : Nat) (w : World) (h : Rdr w b t m i) (hi : i ≤ 30000) (hn : n ≤ 30000) :
    Calls Tryd.prog 41 #[.pointer (some ⟨b, 0, none⟩), .iface ty pv, .int .i64 n] w fun e w' => e = .returned (faultV (.iface ty pv) (i + n)) ∧ w' = w := by
  obtain ⟨⟨q0, q1, q2⟩, _⟩ := h
  obtain ⟨j, hj⟩ : ∃ j : Nat, i + n = j := ⟨_, rfl⟩
  have hji : (i : Int) + (n : Int) = (j : Int) := by omega
  rw [hj]
  clear hj
  go_enter Tryd.func41, Tryd.ntmps41
  go_wp2_with fail
  go_ret
  exact ⟨rfl, rfl⟩

end Go.Proofs.YtkjbeciiecljgaaDoor
