/-
  slices.Sorted of slices.Values, slices.Compact.
-/
import Derived.Test.YthmdfephafpdnaaWa
import Derived.Test.YthmdfephafpdnaaShelf
import Derived.Shelf.SortM.SortNone
import Derived.Sort.OwnSorted
import Derived.Lib.SlKeysI
import Derived.Test.YthmdfephafpdnaaWs
namespace Go.Proofs.Ythmdfephafpdnaa
open Go.RowKit Go.Shelf Go.Sort Go.Maps

theorem fSort : laySort_ren.f 5 = 29 := by kernel_rfl
theorem fCompact : layCompact_ren.f 20 = 23 := by kernel_rfl

theorem valuesC (a : Option Addr) (len cap : Nat) (w : World) :
    Calls Try.prog 25 #[.slice a len cap] w fun e w' => e = .returned (.func (.func 30) #[] #[.pointer (some ⟨w.heap.size, 0, none⟩)]) ∧ w' = w.alloc (.cells #[.slice a len cap] 23) :=
  (callsIn_wide (n := 1)).1 (values_in Fence.wide 1 trivial rfl a len cap w)

theorem appSeqC (Bs : Nat) (sv : Value) (zs : List Int) (hreach : zs.length ≤ 1000) (w : World) (hBs : Bs < w.heap.size) (hc : w.cell? ⟨Bs, 0, none⟩ = some sv) (hI : IntsBelow w.heap.size w sv zs) :
    Calls Try.prog 31 #[.slice none 0 0, .func (.func 30) #[] #[.pointer (some ⟨Bs, 0, none⟩)]] w fun e W' => ∃ v, e = .returned v ∧ W'.ownsRow w.heap.size 3 1 v zs.length (zs.map (Value.int .i64)) ∧ Below w.heap.size w W' :=
  (callsIn_wide (n := 3)).1 (appSeq_in Fence.wide 3 trivial trivial rfl (by omega) Bs sv zs hreach w hBs hc hI)

set_option maxHeartbeats 1000000 in
theorem sortedC (Bs : Nat) (sv : Value) (zs : List Int) (hreach : zs.length ≤ 1000) (w : World) (hBs : Bs < w.heap.size) (hc : w.cell? ⟨Bs, 0, none⟩ = some sv) (hI : IntsBelow w.heap.size w sv zs) :
    Calls Try.prog 24 #[.func (.func 30) #[] #[.pointer (some ⟨Bs, 0, none⟩)]] w fun e W' => ∃ v, e = .returned v ∧ W'.ownsRow w.heap.size 3 1 v zs.length ((zs.mergeSort fun x y => decide (x ≤ y)).map (Value.int .i64)) ∧ Below w.heap.size w W' := by
  have CO : Calls Try.prog 28 #[.func (.func 30) #[] #[.pointer (some ⟨Bs, 0, none⟩)]] w fun e W' => ∃ v, e = .returned v ∧ W'.ownsRow w.heap.size 3 1 v zs.length (zs.map (Value.int .i64)) ∧ Below w.heap.size w W' := by
    have AS := appSeqC Bs sv zs hreach w hBs hc hI
    clear hc hI
    go_enter Try.func28, Try.ntmps28
    go_wp2_with fail
    refine AS.mono ?_
    rintro e W ⟨v, rfl, h1, h2⟩
    go_wp2_with fail
    go_ret
    exact ⟨v, rfl, h1, h2⟩
  clear hc hI
  go_enter Try.func24, Try.ntmps24
  go_wp2_with fail
  refine CO.mono ?_
  rintro e W ⟨v, rfl, hrow, hb⟩
  rcases hrow.2 with ⟨rfl, hz⟩ | ⟨gb, cap, cur, rfl, hbase, hgb, r1, r2, r3, r4⟩
  · have hss : zs = [] := List.eq_nil_of_length_eq_zero hz
    subst hss
    have SN := AnyM.slices_Sort_int_none laySort none 0 W
    rw [fSort] at SN
    go_wp2_with fail
    refine SN.mono ?_
    rintro e w' ⟨rfl, rfl⟩
    go_wp2_with fail
    go_ret
    exact ⟨_, rfl, by simpa using hrow, hb⟩
  · have hH : Go.Sort.Holds (Value.int .i64) W gb 0 zs.toArray := holds_of_block_i hgb (by simpa using r4)
    have hgl : gb < W.heap.size := (Array.getElem?_eq_some_iff.1 hgb).1
    have cS := AnyM.slices_Sort_int laySort gb 0 cap zs W hH hgl (by omega)
    rw [fSort] at cS
    go_wp2_with fail
    refine cS.mono ?_
    rintro e w' ⟨rfl, nn, os, rfl⟩
    go_wp2_with fail
    go_ret
    exact ⟨_, rfl, ownsRow_sorted_i (by simp) hbase hgb r1 r2 r3, hb.grown (grownBy_sorted_i _) hb.size (fun j hj => by cases hj; exact hbase)⟩

set_option maxHeartbeats 1000000 in
theorem compactC (base : Nat) (v : Value) (ss : List Int) (W : World) (hrow : W.ownsRow base 3 1 v ss.length (ss.map (Value.int .i64))) (hs : ss.length ≤ 1000) (hb : base ≤ W.heap.size) :
    Calls Try.prog 23 #[v] W fun e W' => ∃ u, e = .returned u ∧ IntsIn W' u (Lib.compact ss) ∧ Below base W W' := by
  rcases hrow.2 with ⟨rfl, hz⟩ | ⟨gb, cap, cur, rfl, hbase, hgb, r1, r2, r3, r4⟩
  · have hss : ss = [] := List.eq_nil_of_length_eq_zero hz
    subst hss
    have CE := Any.slices_Compact_int_empty layCompact none 0 W
    rw [fCompact] at CE
    refine CE.mono ?_
    rintro e w' ⟨rfl, rfl⟩
    exact ⟨_, rfl, ⟨none, 0, rfl, by simp [Lib.compact, Lib.compactUpTo], fun h => by simp [Lib.compact, Lib.compactUpTo] at h⟩, Below.refl _ _⟩
  · have hH : Go.Sort.Holds (Value.int .i64) W gb 0 ss.toArray := holds_of_block_i hgb (by simpa using r4)
    have CC := Any.slices_Compact_int layCompact gb 0 cap ss W hH (by omega) r1
    rw [fCompact] at CC
    have hcl : (Lib.compact ss).length ≤ ss.length := by
      unfold Lib.compact Lib.compactUpTo
      rw [List.length_map]
      exact Nat.le_trans (List.length_filter_le _ _) (by simp)
    refine CC.mono ?_
    rintro e w' ⟨rfl, q, rfl⟩
    obtain ⟨c, hc⟩ : ∃ c, Lib.compact ss = c := ⟨_, rfl⟩
    rw [hc] at hcl ⊢
    have eg : ∀ w : World, grow w #[] = w := fun w => by simp [grow]
    have own := ownsRow_sorted_i (n := q) (os := #[]) (ts := c ++ List.replicate (ss.length - c.length) 0) (ss := ss) (by simp; omega) hbase hgb r1 r2 r3
    have gr := grownBy_sorted_i (w := W) (g := gb) (n := q) (os := #[]) (c ++ List.replicate (ss.length - c.length) 0).toArray
    rw [eg] at own gr
    refine ⟨_, rfl, ⟨_, cap, rfl, by omega, fun h0 => ⟨gb, 0, rfl, fun i hi => ?_⟩⟩, (Below.refl base W).grown gr hb (fun j hj => by cases hj; exact hbase)⟩
    have := own.cells (g := gb) rfl i (.int .i64 (c.getD i 0)) (by
      rw [List.map_append, List.getElem?_append_left (by simpa using hi)]
      simp [hi, encZ])
    rw [Addr.add_lit] at this
    exact this

end Go.Proofs.Ythmdfephafpdnaa
