/-
  A text bent.
-/
import Derived.Test.YtifangkifpnnpaaGreatDoorZd
import Derived.Test.YtifangkifpnnpaaGreatDoorZs
import Derived.Laws.IdiomStrings
namespace Go.Proofs.YtifangkifpnnpaaGreatDoor
open Go.RowKit

theorem Only.of_grown {w w' : World} {g : Nat} (h : w.grownBy w' (some g)) : Only g w w' := ⟨h.os, h.tape, h.output, h.size, fun k hk hl => h.block k hl (fun e => hk (by cases e; rfl))⟩
theorem ext_grown {w w' : World} (h : w.grownBy w' none) : Ext w w' := ⟨h.os, h.tape, h.output, h.size, fun k hk => h.block k hk (fun e => by cases e)⟩
theorem Only.to_grown {w w' : World} {g : Nat} (h : Only g w w') : w.grownBy w' (some g) := ⟨h.os, h.tape, h.output, h.size, fun k hk hne => h.block k (fun e => hne (by rw [e])) hk⟩
theorem Only.box3 {b k : Nat} {w w' : World} {v0 v1 v2 : Value} (h : Only b w w') (hk : k ≠ b) (B : Box3 w k v0 v1 v2) : Box3 w' k v0 v1 v2 := by
  have hlt := World.block_lt_of_cell? _ _ B.1.1
  have hf : ∀ j, w'.frozen? ⟨k, j, none⟩ = w.frozen? ⟨k, j, none⟩ := fun j => by
    unfold World.frozen?
    rw [h.block k hk hlt]
  exact ⟨⟨h.cell hk B.1.1, h.cell hk B.1.2.1, h.cell hk B.1.2.2⟩, (hf 0).trans B.2.1, (hf 1).trans B.2.2.1, (hf 2).trans B.2.2.2⟩
theorem Cur.grown {w w' : World} {b base K : Nat} {row : Option Nat} (h : Cur w b base K) (hg : w.grownBy w' row) (hr : ∀ r, row = some r → r ≠ b ∧ base ≤ r) : Cur w' b base K := by
  cases row with
  | none => exact h.ext (ext_grown hg)
  | some g =>
    obtain ⟨hgb, hbg⟩ := hr g rfl
    have o := Only.of_grown hg
    obtain ⟨v, k, a, s, B, hc, r⟩ := h
    exact ⟨v, k, a, s, o.box3 (fun e => hgb e.symm) B, hc.only o hbg, r⟩
theorem Only.grown {w w1 w' : World} {b : Nat} {row : Option Nat} (h : Only b w w1) (hg : w1.grownBy w' row) (hr : ∀ r, row = some r → w.heap.size ≤ r) : Only b w w' :=
  ⟨hg.os.trans h.os, hg.tape.trans h.tape, hg.output.trans h.output, Nat.le_trans h.size hg.size, fun k hk hl => (hg.block k (Nat.lt_of_lt_of_le hl h.size) (fun e => by have := hr k e.symm; omega)).trans (h.block k hk hl)⟩
theorem cell_grown {w w' : World} {row : Option Nat} {k j : Nat} {v : Value} (hg : w.grownBy w' row) (hr : ∀ r, row = some r → r ≠ k) (hc : w.cell? ⟨k, j, none⟩ = some v) : w'.cell? ⟨k, j, none⟩ = some v := by
  cases row with
  | none => exact cell_later (ext_grown hg) hc
  | some g => exact (Only.of_grown hg).cell (fun e => hr g rfl e.symm) hc

theorem own_conv {w : World} {base n : Nat} {v : Value} (l : List UInt8) (h : w.ownsRow base 5 1 v n (l.map fun c => Value.int .u8 c.toNat)) (hn : 0 < n) : (convert 22 9 v).run Tryz.prog w = .ok (.string (bs l)) w := by
  have hl : l.length = n := by simpa using h.1
  rcases h.2 with ⟨_, h0⟩ | ⟨g, cap, cur, rfl, _⟩
  · omega
  · have := run_convert_bytes_back (P := Tryz.prog) w 22 9 5 ⟨g, 0, none⟩ cap l Tryz.underlying22 Tryz.underlying5 Tryz.underlying9 (fun j hj => h.cells (g := g) rfl j _ (by simp [hj]))
    rw [hl] at this
    exact this

set_option maxRecDepth 8000 in
set_option maxHeartbeats 4000000 in
theorem bentC (b base K : Nat) (l : List UInt8) (g : Nat) (w : World) (h : Cur w b base K) (hK : K ≤ 1000000) (l2 : 2 ≤ l.length) (l9 : l.length ≤ 100) (hgb : g ≠ b)
    (T : Nat → ByteArray) (VB : ∀ j, j < 7 → w.cell? ⟨g, j, none⟩ = some (.string (T j))) (ts : ∀ j, (T j).size ≤ 10) :
    Calls Tryz.prog 37 #[.pointer (some ⟨b, 0, none⟩), .string (bs l), .slice (some ⟨g, 0, none⟩) 7 7] w fun e w' => ∃ (l' : List UInt8), e = .returned (.string (bs l')) ∧ l'.length ≤ 1000 ∧ Only b w w' := by
  obtain ⟨L, hL⟩ : ∃ k, l.length = k := ⟨_, rfl⟩
  have zL : (bs l).size = L := by rw [bs_size, hL]
  have bl := h.lt
  have bb := h.base_le
  have hcv := run_bytes_of_string (P := Tryz.prog) w 9 22 5 (bs l) Tryz.underlying9 Tryz.underlying22 Tryz.underlying5
  obtain ⟨C, hC⟩ : ∃ C, grownCap w (bs l).size 0 5 = C := ⟨_, rfl⟩
  have hCL : L ≤ C := by rw [← hC, ← zL]; exact grownCap_ge _ _ _ _
  obtain ⟨wb, hwb⟩ : ∃ wb, w.drew.alloc (.cells (bytesRow (bs l) (grownCap w (bs l).size 0 5)) 5 ((bytesRow (bs l) (grownCap w (bs l).size 0 5)).size, (bytesRow (bs l) (grownCap w (bs l).size 0 5)).size + 1)) = wb := ⟨_, rfl⟩
  have XB : Ext w wb := by rw [← hwb]; exact xa (xd (xr _)) _
  have CB : ∀ j u, ((l.map fun c => Value.int .u8 c.toNat)[j]? = some u) → wb.cell? ⟨w.heap.size, j, none⟩ = some u := fun j u hj => by
    have hjl : j < l.length := by
      have := (List.getElem?_eq_some_iff.1 hj).1
      simpa using this
    rw [← hwb]
    have : (w.drew.alloc (.cells (bytesRow (bs l) (grownCap w (bs l).size 0 5)) 5 ((bytesRow (bs l) (grownCap w (bs l).size 0 5)).size, (bytesRow (bs l) (grownCap w (bs l).size 0 5)).size + 1))).heap[w.heap.size]? = some (.cells (bytesRow (bs l) (grownCap w (bs l).size 0 5)) 5 ((bytesRow (bs l) (grownCap w (bs l).size 0 5)).size, (bytesRow (bs l) (grownCap w (bs l).size 0 5)).size + 1)) := heap_alloc_new w.drew _
    unfold World.cell?
    simp only [this]
    rw [← hj]
    unfold bytesRow
    rw [Array.getElem?_append_left (by simp [bs]; exact hjl)]
    simp [bs]
  rw [hwb, hC, zL] at hcv
  have sb : wb.heap.size = w.heap.size + 1 := by rw [← hwb]; simp
  have CC := h.ext XB
  have VC : ∀ j, j < 7 → wb.cell? ⟨g, j, none⟩ = some (.string (T j)) := fun j hj => cell_later XB (VB j hj)
  have gl : g < w.heap.size := World.block_lt_of_cell? _ _ (VB 0 (by omega))
  have OB : Only b w wb := Only.of_ext XB
  have f1 : ((L : Int) == 0) = false := by rw [beq_eq_false_iff_ne]; omega
  have HCB : Hid (∀ j u, ((l.map fun c => Value.int .u8 c.toNat)[j]? = some u) → wb.cell? ⟨w.heap.size, j, none⟩ = some u) := CB
  clear hC hwb XB VB h CB
  go_enter Tryz.func37, Tryz.ntmps37
  go_wp2_with fail
  refine (oneC b base _ 2 wb CC (by omega) (by omega) (by omega)).mono ?_
  rintro e w1 ⟨q, rfl, c1, o1⟩
  cases q
  · have O1 := OB.trans o1
    clear hcv c1 o1 CC VC HCB
    go_wp2_with fail
    go_ret
    exact ⟨l, rfl, by omega, O1⟩
  · go_wp2_with fail
    refine (pickC b base _ L w1 c1 (by omega) (by omega) (by omega)).mono ?_
    rintro e w2 ⟨i', rfl, ⟨i0, i1⟩, c2, o2⟩
    obtain ⟨i, rfl⟩ : ∃ i : Nat, i' = (i : Int) := ⟨i'.toNat, by omega⟩
    have O2 := OB.trans (o1.trans o2)
    have HC2 : Hid (∀ j u, ((l.map fun c => Value.int .u8 c.toNat)[j]? = some u) → w2.cell? ⟨w.heap.size, j, none⟩ = some u) := fun j u hj => (o1.trans o2).cell (by omega) (HCB.out j u hj)
    have VC2 : Hid (∀ j, j < 7 → w2.cell? ⟨g, j, none⟩ = some (.string (T j))) := fun j hj => (o1.trans o2).cell hgb (VC j hj)
    have s2 : w.heap.size + 1 ≤ w2.heap.size := by have := (o1.trans o2).size; omega
    clear hcv c1 o1 o2 CC VC HCB OB
    obtain ⟨inf, hi, hz, hz1, hz2⟩ : ∃ inf, Tryz.prog.info? 5 = some inf ∧ inf.zero = some (.int .u8 0) ∧ inf.size = 1 ∧ inf.bytes = 1 := by
      have h0 : (Tryz.prog.info? 5).map (fun i => (i.zero, i.size, i.bytes)) = some (some (.int .u8 0), 1, 1) := by kernel_rfl
      obtain ⟨inf, e1, e2⟩ := Option.map_eq_some_iff.1 h0
      simp only [Prod.mk.injEq] at e2
      exact ⟨inf, e1, e2.1, e2.2.1, e2.2.2⟩
    have iC : (i : Int) ≤ (C : Int) := by omega
    go_wp2_with (at_builtin; refine wpList_app_src _ rfl _ _ 22 22 rfl (w.heap.size + 1) 5 inf (.int .u8 0) Tryz.underlying22 hi hz hz1 hz2 rfl _ 0 [] rfl (World.ownsRow_nil _ _ _ _) _ i ((l.take i).map fun c => Value.int .u8 c.toNat) rfl ?_ (by omega) (by omega) ?_)
    · exact Src.ofSlice _ Tryz.underlying22 ⟨w.heap.size, 0, none⟩ i C _ (by simp; omega) (fun j u hj => by
        rw [Addr.add_lit, Nat.zero_add]
        refine HC2.out j u ?_
        have hji : j < i := by
          have := (List.getElem?_eq_some_iff.1 hj).1
          simp at this
          omega
        rw [← hj]
        simp [hji]) (fun u hu => by
        simp only [List.mem_map] at hu
        obtain ⟨_, _, rfl⟩ := hu
        rfl)
    intro v1 w3 own1 gr1
    have c3 := c2.grown gr1 (fun r e => by cases e)
    have O3 := O2.grown gr1 (fun r e => by cases e)
    have HC3 : Hid (∀ j u, ((l.map fun c => Value.int .u8 c.toNat)[j]? = some u) → w3.cell? ⟨w.heap.size, j, none⟩ = some u) := fun j u hj => cell_grown gr1 (fun r e => by cases e) (HC2.out j u hj)
    have VC3 : Hid (∀ j, j < 7 → w3.cell? ⟨g, j, none⟩ = some (.string (T j))) := fun j hj => cell_grown gr1 (fun r e => by cases e) (VC2.out j hj)
    have s3 : w.heap.size + 1 ≤ w3.heap.size := Nat.le_trans s2 gr1.size
    clear HC2 VC2 O2 c2 gr1
    go_wp2_with fail
    refine (pickC b base _ 7 w3 c3 (by omega) (by omega) (by omega)).mono ?_
    rintro e w4 ⟨q', rfl, ⟨q0, q1⟩, c4, o4⟩
    obtain ⟨q, rfl⟩ : ∃ q : Nat, q' = (q : Int) := ⟨q'.toNat, by omega⟩
    have own2 := own1.kept (Only.to_grown o4) (.inr (fun e => by have := (own1.lt _ e).1; omega))
    have O4 := O3.trans o4
    have HC4 : Hid (∀ j u, ((l.map fun c => Value.int .u8 c.toNat)[j]? = some u) → w4.cell? ⟨w.heap.size, j, none⟩ = some u) := fun j u hj => o4.cell (by omega) (HC3.out j u hj)
    have hq := o4.cell hgb (VC3.out q (by omega))
    have s4 : w.heap.size + 1 ≤ w4.heap.size := Nat.le_trans s3 o4.size
    have tq := ts q
    clear HC3 VC3 O3 c3 own1 o4
    go_wp2_with (at_builtin; refine wpList_app_src _ rfl _ _ 22 9 rfl (w.heap.size + 1) 5 inf (.int .u8 0) Tryz.underlying22 hi hz hz1 hz2 rfl _ _ _ rfl own2 _ (T q).size (byteCells (T q)) rfl (Src.ofString _ Tryz.underlying9 (T q)) (by omega) (by omega) ?_)
    intro v2 w5 own3 gr2
    have lt2 := fun r e => (own2.lt r e).1
    have c5 := c4.grown gr2 (fun r e => by have := lt2 r e; constructor <;> omega)
    have O5 := O4.grown gr2 (fun r e => by have := lt2 r e; omega)
    have HC5 : Hid (∀ j u, ((l.map fun c => Value.int .u8 c.toNat)[j]? = some u) → w5.cell? ⟨w.heap.size, j, none⟩ = some u) := fun j u hj => cell_grown gr2 (fun r e => by have := lt2 r e; omega) (HC4.out j u hj)
    have s5 : w.heap.size + 1 ≤ w5.heap.size := Nat.le_trans s4 gr2.size
    clear HC4 O4 c4 gr2 own2 hq lt2
    go_wp2_with fail
    refine (pickC b base _ 2 w5 c5 (by omega) (by omega) (by omega)).mono ?_
    rintro e w6 ⟨k', rfl, ⟨k0, k1⟩, c6, o6⟩
    obtain ⟨k, rfl⟩ : ∃ k : Nat, k' = (k : Int) := ⟨k'.toNat, by omega⟩
    have own4 := own3.kept (Only.to_grown o6) (.inr (fun e => by have := (own3.lt _ e).1; omega))
    have O6 := O5.trans o6
    have HC6 : Hid (∀ j u, ((l.map fun c => Value.int .u8 c.toNat)[j]? = some u) → w6.cell? ⟨w.heap.size, j, none⟩ = some u) := fun j u hj => o6.cell (by omega) (HC5.out j u hj)
    have s6 : w.heap.size + 1 ≤ w6.heap.size := Nat.le_trans s5 o6.size
    clear HC5 O5 c5 own3 o6 c6
    obtain ⟨ik, e1, i2, i3⟩ : ∃ ik : Nat, (i : Int) + (k : Int) = (ik : Int) ∧ i ≤ ik ∧ ik ≤ i + 1 := ⟨i + k, by omega, by omega, by omega⟩
    have e2 : (ik : Int) ≤ (L : Int) := by omega
    have e3 : (L : Int) ≤ (C : Int) := by omega
    go_wp2_with (at_builtin; refine wpList_app_src _ rfl _ _ 22 22 rfl (w.heap.size + 1) 5 inf (.int .u8 0) Tryz.underlying22 hi hz hz1 hz2 rfl _ _ _ rfl own4 _ (L - ik) ((l.drop ik).map fun c => Value.int .u8 c.toNat) rfl ?_ (by omega) (by omega) ?_)
    case refine_1.inl =>
      have : L - ik = 0 := by omega
      rw [this, List.drop_eq_nil_of_le (by simp; omega)]
      exact Src.ofSlice _ Tryz.underlying22 ⟨w.heap.size, 0, none⟩ 0 0 [] (by simp) (fun j u hj => by simp at hj) (fun u hu => by simp at hu)
    case refine_1.inr =>
      exact Src.ofSlice _ Tryz.underlying22 ⟨w.heap.size, ik, none⟩ (L - ik) _ _ (by simp; omega) (fun j u hj => by
        rw [Addr.add_lit]
        refine HC6.out _ u ?_
        rw [List.getElem?_drop] at hj
        exact hj) (fun u hu => by
        have := List.mem_of_mem_drop hu
        simp only [List.mem_map] at this
        obtain ⟨_, _, rfl⟩ := this
        rfl)
    all_goals
      intro v3 w7 own5 gr3
      have O7 := O6.grown gr3 (fun r e => by have := (own4.lt r e).1; omega)
      have hcv := own_conv (l.take i ++ (T q).data.toList ++ l.drop ik) (by
        simp only [List.map_append, List.map_take, List.map_drop, List.append_assoc]
        exact own5) (by omega)
      have hlen : (l.take i ++ (T q).data.toList ++ l.drop ik).length ≤ 1000 := by
        have : (T q).data.toList.length = (T q).size := by rw [Array.length_toList]; rfl
        simp only [List.length_append, List.length_take, List.length_drop, this]
        omega
      obtain ⟨l', hl'⟩ : ∃ l', l.take i ++ (T q).data.toList ++ l.drop ik = l' := ⟨_, rfl⟩
      rw [hl'] at hcv hlen
      clear hl' own5 gr3 own4 O6 HC6
      go_wp2_with fail
      go_ret
      exact ⟨l', rfl, hlen, O7⟩

end Go.Proofs.YtifangkifpnnpaaGreatDoor
