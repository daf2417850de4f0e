/-
  Several texts in one: FrameB, Frame, Vek, Sv1, Fa, Fe, Fk, FrameX, V6a, V6b, V6c.
-/
import Derived.Test.YtbomplppgobkdaaGreatDoorRows
import Derived.Test.YtbomplppgobkdaaGreatDoorMg0
import Derived.WalkKit
import Derived.ProofKit
import Derived.OpenShut
import Derived.WalkSmall
import Derived.Lib.SmallJoins
import Derived.Deep.DeepHandedRow
import Derived.Lib.LaidTab
import Derived.Laws.IdiomStrings
import Derived.Deep.Strs
import Derived.Stop.LaidErr
import Derived.Deep.RegionWith
namespace Go.Proofs.YtbomplppgobkdaaGreatDoor
open Go.ChangeShapes Go.WideShapes Go.ChangeAt Go.RowKit

theorem own : ownKnob Tryz.prog.godebug = none := by kernel_rfl
theorem laidOut : laidOutB Tryz.prog = true := by kernel_rfl

/-- The named variables read again behind a call below which nothing has turned. -/
theorem vars_below {H : Type} {enc : TypeId × Value → H} {P : Program} (hl : laidOutB P = true) {W W' : World} (bel : Below W.heap.size W W') :
    ∀ {ns : List String} {gs : List (DataW H)} {q : List MemPlace}, (∀ n ∈ ns, ∀ g t, P.globalNamed n = some g → (P.globals[g]?).map (·.type) = some t → P.readableRec t = true ∧ t < P.types.size) →
      (∀ x ∈ q, x.block < W.heap.size) → DataW.TrodVars enc P W (fun _ => true) ns gs q → DataW.TrodVars enc P W' (fun b => decide (b < W.heap.size)) ns gs q
  | [], [], _, _, _, h => h
  | [], _ :: _, _, _, _, h => h.elim
  | _ :: _, [], _, _, _, h => h.elim
  | n :: ns, d :: ds, q, hr, hlt, h => by
    obtain ⟨g, t, cs, fuel, p, r, h1, h2, h3, h4, h5, rfl⟩ := h
    obtain ⟨r1, r2⟩ := hr n (by simp) g t h1 h2
    have hg : g < W.heap.size := by
      unfold World.var? at h3
      simp only [h1, Option.bind_some] at h3
      by_cases hk : g < W.heap.size
      · exact hk
      · rw [Array.getElem?_eq_none (by omega)] at h3
        cases h3
    refine ⟨g, t, cs, fuel, p, r, h1, h2, var?_below bel h1 hg h3, ?_, ?_, rfl⟩
    · exact DataW.trod_stays (kids_book hl r1) (book_sized r1) (fun h => by cases h) ⟨r2, book_self t⟩ h4 (fun x hx => bel.same (hlt x (by simp [hx]))) (fun x hx => by simpa using hlt x (by simp [hx]))
    · exact vars_below hl bel (fun m hm => hr m (by simp [hm])) (fun x hx => hlt x (by simp [hx])) h5

/-- An element of an array that reads as told. -/
theorem trod_elem {H : Type} {enc : TypeId × Value → H} {P : Program} {w : World} {base : Nat} {sp : Nat → Bool} {held : Bool} {fuel : Nat} {t e : TypeId} {n : Nat} {cs : List Value} {ds : List (DataW H)} {p : List MemPlace}
    (ht : P.underlying t = some (.array n e)) (h : DataW.trod enc P w base sp held fuel t cs = some (.agg ds, p)) (i : Nat) (hi : i < n) (d : DataW H) (hd : ds[i]? = some d) :
    ∃ fuel' p', DataW.trod enc P w base sp held fuel' e ((cs.drop (i * P.cellsOf e)).take (P.cellsOf e)) = some (d, p') := by
  cases fuel with
  | zero => simp [DataW.trod] at h
  | succ fuel =>
    simp only [DataW.trod, ht] at h
    split at h
    · obtain ⟨xs, hm, hx⟩ := Option.map_eq_some_iff.1 h
      obtain ⟨b, hb, hf⟩ := Lib.mapM_at hm i i (by simp [hi])
      have e1 : xs.map (·.1) = ds := by
        have := congrArg Prod.fst hx
        simpa using this
      rw [← e1, List.getElem?_map, hb] at hd
      simp only [Option.map_some, Option.some.injEq] at hd
      subst hd
      exact ⟨fuel, b.2, hf⟩
    · cases h
end Go.Proofs.YtbomplppgobkdaaGreatDoor

namespace Go.Proofs.YtbomplppgobkdaaGreatDoor
open Go.ChangeShapes Go.WideShapes Go.ChangeAt Go.RowKit

theorem gTens : Tryz.prog.globalNamed "loop.example/g00025/impl.tens" = some 0 := by kernel_rfl
theorem gTensType : (Tryz.prog.globals[0]?).map (·.type) = some 146 := by kernel_rfl

/-- The table's cells, out of a row that lists it first. -/
theorem tens_of {rest : List (String × DataW Unit)} {W : World} (h : laidMet Tryz.prog (("loop.example/g00025/impl.tens", Rows.laid_loop_example_g00025_impl_tens) :: rest) W) : Tens W := by
  have t : Lib.TabIs Tryz.prog W "loop.example/g00025/impl.tens" .u64 [1, 10, 100, 1000, 10000, 100000, 1000000, 10000000, 100000000, 1000000000, 10000000000, 100000000000, 1000000000000, 10000000000000, 100000000000000, 1000000000000000, 10000000000000000, 100000000000000000, 1000000000000000000, 10000000000000000000] :=
    Lib.tabIs_of_head (rest := rest) gTens gTensType Tryz.underlying146 Tryz.underlying41 (by kernel_rfl) (by kernel_rfl) h
  intro i hi
  have e : ∀ i : Nat, i < 20 → ([1, 10, 100, 1000, 10000, 100000, 1000000, 10000000, 100000000, 1000000000, 10000000000, 100000000000, 1000000000000, 10000000000000, 100000000000000, 1000000000000000, 10000000000000000, 100000000000000000, 1000000000000000000, 10000000000000000000] : List Int).getD i 0 = ((10 ^ i : Nat) : Int) := by decide +kernel
  rw [← e i hi]
  exact t.cell gTens i hi

theorem tens_readable1 : ∀ g t, Tryz.prog.globalNamed "loop.example/g00025/impl.tens" = some g → (Tryz.prog.globals[g]?).map (·.type) = some t → Tryz.prog.readableRec t = true ∧ t < Tryz.prog.types.size := by
  intro g t hg ht
  obtain rfl := Option.some.inj (gTens.symm.trans hg)
  obtain rfl := Option.some.inj (gTensType.symm.trans ht)
  exact ⟨by kernel_rfl, of_decide_eq_true (by kernel_rfl)⟩
end Go.Proofs.YtbomplppgobkdaaGreatDoor

namespace Go.Proofs.YtbomplppgobkdaaGreatDoor
open Go.RowKit

/-- A row of cells of one block, none frozen. -/
def Vec (w : World) (b : Nat) (l : List Value) : Prop := ∀ i v, l[i]? = some v → w.cell? ⟨b, i, none⟩ = some v ∧ w.frozen? ⟨b, i, none⟩ = false
theorem Vec.later {w w1 : World} {b : Nat} {l : List Value} (h : Vec w b l) (hb : Ext w w1) : Vec w1 b l := fun i v hi => ⟨cell_later hb (h i v hi).1, frozen_later hb (h i v hi).1 (h i v hi).2⟩
theorem Vec.far {w : World} {b : Nat} {l : List Value} (h : Vec w b l) {p : Addr} (hp : p.block ≠ b) (u : Value) : Vec (w.setCell p u) b l := fun i v hi => by
  refine ⟨?_, by rw [World.frozen?_setCell]; exact (h i v hi).2⟩
  rw [World.cell?_setCell_other _ _ _ _ (fun e => hp (congrArg Addr.block e))]
  exact (h i v hi).1
theorem Vec.put {w : World} {b : Nat} {l : List Value} (h : Vec w b l) (i : Nat) (hi : i < l.length) (u : Value) : Vec (w.setCell ⟨b, i, none⟩ u) b (l.set i u) := fun j v hj => by
  refine ⟨?_, ?_⟩
  · by_cases e : j = i
    · subst e
      rw [List.getElem?_set_self hi] at hj
      cases hj
      exact World.cell?_setCell_same' _ _ _ (by rw [(h j l[j] (List.getElem?_eq_getElem hi)).1]; rfl)
    · rw [List.getElem?_set_ne (fun q => e q.symm)] at hj
      rw [World.cell?_setCell_other _ _ _ _ (fun q => e (congrArg Addr.off q).symm)]
      exact (h j v hj).1
  · rw [World.frozen?_setCell]
    by_cases e : j = i
    · subst e
      exact (h j l[j] (List.getElem?_eq_getElem hi)).2
    · rw [List.getElem?_set_ne (fun q => e q.symm)] at hj
      exact (h j v hj).2
theorem size_ofL' {s : ByteArray} {l : List UInt8} (h : s.data.toList = l) : s.size = l.length := by
  rw [← h, Array.length_toList]
  rfl
theorem byte_atA {s : ByteArray} {l : List UInt8} (h : s.data.toList = l) {p : Nat} (hp : p < s.size) : (s[p]'hp) = l.getD p 0 := by
  subst h
  simp only [ByteArray.getElem_eq_getElem_data]
  have hp' : p < s.data.size := hp
  simp only [List.getD, Array.getElem?_toList]
  rw [Array.getElem?_eq_getElem hp']
  rfl
theorem take_at {l : List UInt8} {i : Nat} (h : i < l.length) : l.take (i + 1) = l.take i ++ [l.getD i 0] := by
  rw [List.take_add_one]
  simp [h]

abbrev sV (l : List UInt8) : Value := .string ⟨l.toArray⟩
theorem vec_made (w : World) (l : List Value) (t : TypeId) : Vec (w.alloc (.cells l.toArray t)) w.heap.size l := by
  intro i v hi
  have hb := heap_alloc_new w (.cells l.toArray t)
  refine ⟨?_, ?_⟩
  · unfold World.cell?
    simp only [hb]
    simpa using hi
  · unfold World.frozen?
    simp only [hb]
    simp

/-- A small letter made great. -/
def upC (c : UInt8) : UInt8 := if 97 ≤ c.toNat ∧ c.toNat ≤ 122 then UInt8.ofNat (c.toNat - 32) else c
theorem upC_small {c : UInt8} (h : 97 ≤ c.toNat ∧ c.toNat ≤ 122) : ((upC c).toNat : Int) = (c.toNat : Int) - 32 := by
  unfold upC
  rw [if_pos h, UInt8.toNat_ofNat']
  omega
theorem upC_other {c : UInt8} (h : ¬ (97 ≤ c.toNat ∧ c.toNat ≤ 122)) : upC c = c := by unfold upC; rw [if_neg h]
def encB (l : List UInt8) : List Value := l.map fun c => Value.int .u8 (c.toNat : Int)
theorem encB_length (l : List UInt8) : (encB l).length = l.length := by simp [encB]
theorem encB_at {l : List UInt8} {i : Nat} {c : UInt8} (h : l[i]? = some c) : (encB l)[i]? = some (.int .u8 (c.toNat : Int)) := by simp [encB, h]
/-- The first k made great. -/
def upK (l : List UInt8) (k : Nat) : List UInt8 := (l.take k).map upC ++ l.drop k
theorem upK_length (l : List UInt8) (k : Nat) : (upK l k).length = l.length := by simp [upK]; omega
theorem upK_zero (l : List UInt8) : upK l 0 = l := by simp [upK]
theorem upK_all (l : List UInt8) : upK l l.length = l.map upC := by simp [upK]
theorem upK_at {l : List UInt8} {k : Nat} {c : UInt8} (h : l[k]? = some c) : (upK l k)[k]? = some c := by
  have hk : k < l.length := (List.getElem?_eq_some_iff.1 h).1
  unfold upK
  rw [List.getElem?_append_right (by simp; omega)]
  simp only [List.length_map, List.length_take, List.getElem?_drop]
  rw [show k + (k - min k l.length) = k by omega]
  exact h
theorem upK_succ {l : List UInt8} {k : Nat} {c : UInt8} (h : l[k]? = some c) : upK l (k + 1) = (upK l k).set k (upC c) := by
  have hk : k < l.length := (List.getElem?_eq_some_iff.1 h).1
  apply List.ext_getElem?
  intro i
  rw [List.getElem?_set]
  unfold upK
  by_cases e : k = i
  · subst e
    rw [if_pos rfl, List.getElem?_append_left (by simp; omega)]
    rw [if_pos (by simp; omega)]
    simp [h]
  · rw [if_neg e]
    rcases Nat.lt_or_ge i k with hi | hi
    · rw [List.getElem?_append_left (by simp; omega), List.getElem?_append_left (by simp; omega)]
      simp [hi, Nat.lt_succ_of_lt hi]
    · rw [List.getElem?_append_right (by simp; omega), List.getElem?_append_right (by simp; omega)]
      simp only [List.length_map, List.length_take, List.getElem?_drop]
      congr 1
      omega
/-- A text made a row of bytes. -/
theorem bytes_made (l : List UInt8) (w : World) : ∃ cap w', (convert 9 22 (sV l)).run Tryz.prog w = .ok (.slice (some ⟨w.heap.size, 0, none⟩) l.length cap) w' ∧ l.length ≤ cap ∧ Ext w w' ∧ Vec w' w.heap.size (encB l) := by
  have hcv := run_bytes_of_string (P := Tryz.prog) w 9 22 5 ⟨l.toArray⟩ Tryz.underlying9 Tryz.underlying22 Tryz.underlying5
  refine ⟨_, _, hcv, grownCap_ge _ _ _ _, xa (xd (xr _)) _, fun j u hj => ?_⟩
  have hjl : j < l.length := by
    have := (List.getElem?_eq_some_iff.1 hj).1
    simpa [encB] using this
  obtain ⟨C, hC⟩ : ∃ C, grownCap w (⟨l.toArray⟩ : ByteArray).size 0 5 = C := ⟨_, rfl⟩
  rw [hC]
  have hb : (w.drew.alloc (.cells (bytesRow ⟨l.toArray⟩ C) 5 ((bytesRow ⟨l.toArray⟩ C).size, (bytesRow ⟨l.toArray⟩ C).size + 1))).heap[w.heap.size]? = some (.cells (bytesRow ⟨l.toArray⟩ C) 5 ((bytesRow ⟨l.toArray⟩ C).size, (bytesRow ⟨l.toArray⟩ C).size + 1)) := heap_alloc_new w.drew _
  refine ⟨?_, ?_⟩
  · unfold World.cell?
    simp only [hb]
    rw [← hj]
    unfold bytesRow encB
    rw [Array.getElem?_append_left (by simp; exact hjl)]
    simp
  · unfold World.frozen?
    simp only [hb]
    have : j < (bytesRow ⟨l.toArray⟩ C).size := by unfold bytesRow; simp; omega
    simp
    omega
theorem bytes_back (l : List UInt8) (g cap : Nat) (w : World) (h : Vec w g (encB l)) : (convert 22 9 (.slice (some ⟨g, 0, none⟩) l.length cap)).run Tryz.prog w = .ok (sV l) w := by
  refine run_convert_bytes_back (P := Tryz.prog) w 22 9 5 ⟨g, 0, none⟩ cap l Tryz.underlying22 Tryz.underlying5 Tryz.underlying9 (fun j hj => ?_)
  have := (h j _ (encB_at (List.getElem?_eq_getElem hj))).1
  rw [show (⟨g, 0, none⟩ : Addr).add j = ⟨g, j, none⟩ by unfold Addr.add; split <;> simp_all]
  exact this

def shownC (c : UInt8) : Bool := decide (32 ≤ c.toNat ∧ c.toNat ≤ 126)
def plainB (l : List UInt8) : Bool := l.all shownC
def printN (m : Nat) (l : List UInt8) : Bool := l.all shownC && decide (l.length ≤ m)
set_option maxHeartbeats 1000000 in
theorem plainByteI (N : Int) (q : Bool) (w : World) (h : (decide (32 ≤ N) && decide (N ≤ 126)) = q) : Calls Tryz.prog 121 #[.int .u8 N] w fun e w' => e = .returned (.bool q) ∧ w' = w := by
  subst h
  by_cases h1 : 32 ≤ N
  · by_cases h2 : N ≤ 126
    · go_enter Tryz.func121, Tryz.ntmps121
      go_wp2_with fail
      go_ret
      exact ⟨ret_bool (by simp [h1, h2]), rfl⟩
    · go_enter Tryz.func121, Tryz.ntmps121
      go_wp2_with fail
      go_ret
      exact ⟨ret_bool (by simp; omega), rfl⟩
  · go_enter Tryz.func121, Tryz.ntmps121
    go_wp2_with fail
    go_ret
    exact ⟨ret_bool (by simp; omega), rfl⟩
set_option maxRecDepth 8000 in
set_option maxHeartbeats 1000000 in
theorem plainI (l : List UInt8) (w : World) (hl : l.length ≤ 2000000) : Calls Tryz.prog 87 #[sV l] w fun e w' => e = .returned (.bool (plainB l)) ∧ w' = w := by
  obtain ⟨s, hs⟩ : ∃ s : ByteArray, (⟨l.toArray⟩ : ByteArray) = s := ⟨_, rfl⟩
  have hsl : s.data.toList = l := by rw [← hs]
  have hsz := size_ofL' hsl
  show Calls Tryz.prog 87 #[.string ⟨l.toArray⟩] w _
  rw [hs]
  clear hs
  obtain ⟨n, hn⟩ : ∃ n, l.length = n := ⟨_, rfl⟩
  have HN : Hid (l.length = n) := hn
  have HS : Hid (s.data.toList = l) := hsl
  rw [hn] at hl hsz
  clear hn hsl
  go_enter Tryz.func87, Tryz.ntmps87
  go_wp2_with fail
  go_loop [6] (fun i => ∃ k : Nat, k ≤ n ∧ i = .int .i64 k ∧ Hid ((l.take k).all shownC = true)) (fun i => n - (intOf i).toNat)
  case atStart => exact ⟨0, by omega, rfl, by show _ = _; simp⟩
  case round =>
    obtain ⟨k, hk, rfl, HA⟩ := hrel
    by_cases hlt : k < n
    · have hks : k < s.size := by omega
      have hb0 := byte_atA HS.out hks
      have htk := take_at (l := l) (i := k) (by rw [HN.out]; exact hlt)
      obtain ⟨c, hcc⟩ : ∃ c, l.getD k 0 = c := ⟨_, rfl⟩
      rw [hcc] at hb0 htk
      have hb : ((s[k]'hks).toNat : Int) = (c.toNat : Int) := by rw [hb0]
      have i2 : (k : Int) < (n : Int) := by omega
      by_cases hc : shownC c = true
      · have hc' : 32 ≤ c.toNat ∧ c.toNat ≤ 126 := by simpa [shownC] using hc
        have HA2 : Hid ((l.take (k + 1)).all shownC = true) := by
          show _ = _
          rw [htk, List.all_append, HA.out, List.all_cons, hc]
          rfl
        obtain ⟨N, hN⟩ : ∃ N : Int, (c.toNat : Int) = N := ⟨_, rfl⟩
        rw [hN] at hb
        have n1 : 32 ≤ N := by omega
        have n2 : N ≤ 126 := by omega
        have PB : (decide (32 ≤ N) && decide (N ≤ 126)) = true := by simp; omega
        clear hN hc hc' hb0 htk hcc HA
        go_wp2_with (go_at_call 121; refine (plainByteI N _ _ PB).mono ?_; rintro e w' ⟨rfl, rfl⟩)
        go_round
        case rel => exact ⟨k + 1, by omega, by go_num, HA2⟩
        case measure => simp [intOf]; omega
      · have HF : Hid (plainB l = false) := by
          show _ = _
          have hm : c ∈ l := by
            have : c ∈ l.take (k + 1) := by rw [htk]; simp
            exact List.mem_of_mem_take this
          have hf : l.all shownC = false := by
            cases hq : l.all shownC with
            | false => rfl
            | true => exact absurd ((List.all_eq_true.1 hq) c hm) hc
          unfold plainB
          rw [hf]
        have hc' : c.toNat < 32 ∨ 126 < c.toNat := by
          have : ¬ (32 ≤ c.toNat ∧ c.toNat ≤ 126) := by simpa [shownC] using hc
          omega
        obtain ⟨N, hN⟩ : ∃ N : Int, (c.toNat : Int) = N := ⟨_, rfl⟩
        rw [hN] at hb
        have n1 : N < 32 ∨ 126 < N := by omega
        have PB : (decide (32 ≤ N) && decide (N ≤ 126)) = false := by simp; omega
        clear hN hc hc' hb0 htk hcc HA
        go_wp2_with (go_at_call 121; refine (plainByteI N _ _ PB).mono ?_; rintro e w' ⟨rfl, rfl⟩)
        go_ret
        exact ⟨ret_bool (by rw [HF.out]), rfl⟩
    · obtain rfl : k = n := by omega
      have HT : Hid (plainB l = true) := by
        show _ = _
        have h1 := HA.out
        rw [List.take_of_length_le (by rw [HN.out]; omega)] at h1
        exact h1
      clear HA
      go_wp2_with fail
      go_ret
      exact ⟨ret_bool (by rw [HT.out]), rfl⟩

set_option maxRecDepth 8000 in
set_option maxHeartbeats 1000000 in
theorem printS (m : Nat) (l : List UInt8) (w : World) (hl : l.length ≤ 2000000) : Calls Tryz.prog 80 #[sV l, .int .i64 (m : Int)] w fun e w' => e = .returned (.bool (printN m l)) ∧ w' = w := by
  obtain ⟨s, hs⟩ : ∃ s : ByteArray, (⟨l.toArray⟩ : ByteArray) = s := ⟨_, rfl⟩
  have hsl : s.data.toList = l := by rw [← hs]
  have hsz := size_ofL' hsl
  show Calls Tryz.prog 80 #[.string ⟨l.toArray⟩, .int .i64 (m : Int)] w _
  rw [hs]
  clear hs
  obtain ⟨n, hn⟩ : ∃ n, l.length = n := ⟨_, rfl⟩
  have HN : Hid (l.length = n) := hn
  have HS : Hid (s.data.toList = l) := hsl
  rw [hn] at hl hsz
  clear hn hsl
  go_enter Tryz.func80, Tryz.ntmps80
  go_wp2_with fail
  go_loop [5] (fun i => ∃ k : Nat, k ≤ n ∧ i = .int .i64 k ∧ Hid ((l.take k).all shownC = true)) (fun i => n - (intOf i).toNat)
  case atStart => exact ⟨0, by omega, rfl, by show _ = _; simp⟩
  case round =>
    obtain ⟨k, hk, rfl, HA⟩ := hrel
    by_cases hlt : k < n
    · have hks : k < s.size := by omega
      have hb0 := byte_atA HS.out hks
      have htk := take_at (l := l) (i := k) (by rw [HN.out]; exact hlt)
      obtain ⟨c, hcc⟩ : ∃ c, l.getD k 0 = c := ⟨_, rfl⟩
      rw [hcc] at hb0 htk
      have hb : ((s[k]'hks).toNat : Int) = (c.toNat : Int) := by rw [hb0]
      have i2 : (k : Int) < (n : Int) := by omega
      by_cases hc : shownC c = true
      · have hc' : 32 ≤ c.toNat ∧ c.toNat ≤ 126 := by simpa [shownC] using hc
        have HA2 : Hid ((l.take (k + 1)).all shownC = true) := by
          show _ = _
          rw [htk, List.all_append, HA.out, List.all_cons, hc]
          rfl
        obtain ⟨N, hN⟩ : ∃ N : Int, (c.toNat : Int) = N := ⟨_, rfl⟩
        rw [hN] at hb
        have n1 : 32 ≤ N := by omega
        have n2 : N ≤ 126 := by omega
        clear hN hc hc' hb0 htk hcc HA
        go_wp2_with fail
        go_round
        case rel => exact ⟨k + 1, by omega, by go_num, HA2⟩
        case measure => simp [intOf]; omega
      · have HF : Hid (printN m l = false) := by
          show _ = _
          have hm : c ∈ l := by
            have : c ∈ l.take (k + 1) := by rw [htk]; simp
            exact List.mem_of_mem_take this
          have hf : l.all shownC = false := by
            cases hq : l.all shownC with
            | false => rfl
            | true => exact absurd ((List.all_eq_true.1 hq) c hm) hc
          unfold printN
          rw [hf]
          rfl
        have hc' : c.toNat < 32 ∨ 126 < c.toNat := by
          have : ¬ (32 ≤ c.toNat ∧ c.toNat ≤ 126) := by simpa [shownC] using hc
          omega
        obtain ⟨N, hN⟩ : ∃ N : Int, (c.toNat : Int) = N := ⟨_, rfl⟩
        rw [hN] at hb
        have n1 : N < 32 ∨ 126 < N := by omega
        clear hN hc hc' hb0 htk hcc HA
        rcases n1 with n1 | n1
        · go_wp2_with fail
          go_ret
          exact ⟨ret_bool (by rw [HF.out]), rfl⟩
        · have n2 : 32 ≤ N := by omega
          go_wp2_with fail
          go_ret
          exact ⟨ret_bool (by rw [HF.out]), rfl⟩
    · obtain rfl : k = n := by omega
      have HT : Hid (printN m l = decide ((k : Int) ≤ (m : Int))) := by
        show _ = _
        have h1 := HA.out
        rw [List.take_of_length_le (by rw [HN.out]; omega)] at h1
        unfold printN
        rw [h1, HN.out]
        simp
      clear HA
      go_wp2_with fail
      go_ret
      exact ⟨ret_bool (by rw [HT.out]; simp), rfl⟩

/-- TRUE or FALSE. -/
def boolB (l : List UInt8) : Bool := (l == [84, 82, 85, 69]) || (l == [70, 65, 76, 83, 69])
set_option maxHeartbeats 1000000 in
theorem boolI (l : List UInt8) (w : World) : Calls Tryz.prog 88 #[sV l] w fun e w' => e = .returned (.bool (boolB l)) ∧ w' = w := by
  obtain ⟨p, hp⟩ : ∃ p, (l == [84, 82, 85, 69]) = p := ⟨_, rfl⟩
  obtain ⟨q, hq⟩ : ∃ q, (l == [70, 65, 76, 83, 69]) = q := ⟨_, rfl⟩
  have e : boolB l = (p || q) := by unfold boolB; rw [hp, hq]
  rw [e]
  clear e
  cases p <;> cases q
  all_goals
    go_enter Tryz.func88, Tryz.ntmps88
    go_wp2_with fail
    go_ret
    exact ⟨rfl, rfl⟩

/-- Whether a text stands in a list. -/
def memB (L : List (List UInt8)) (l : List UInt8) : Bool := L.any fun t => t == l
theorem memB_yes {L : List (List UInt8)} {l t : List UInt8} {k : Nat} (h : L[k]? = some t) (e : (t == l) = true) : memB L l = true := by
  unfold memB
  rw [List.any_eq_true]
  exact ⟨t, List.mem_of_getElem? h, e⟩
theorem memB_no {L : List (List UInt8)} {l : List UInt8} (h : ∀ (j : Nat) (t : List UInt8), L[j]? = some t → (t == l) = false) : memB L l = false := by
  unfold memB
  rw [List.any_eq_false]
  intro t ht
  obtain ⟨j, hj⟩ := List.getElem?_of_mem ht
  rw [h j t hj]
  decide
def errL : List (List UInt8) := [[35, 78, 85, 76, 76, 33], [35, 68, 73, 86, 47, 48, 33], [35, 86, 65, 76, 85, 69, 33], [35, 82, 69, 70, 33], [35, 78, 65, 77, 69, 63], [35, 78, 85, 77, 33], [35, 78, 47, 65], [35, 83, 80, 73, 76, 76, 33], [35, 67, 89, 67, 76, 69, 33]]
set_option maxRecDepth 8000 in
set_option maxHeartbeats 1000000 in
theorem inS (L : List (List UInt8)) (l : List UInt8) (g cap : Nat) (w : World) (hL : L.length ≤ 100) (V : Vec w g (L.map sV)) :
    Calls Tryz.prog 81 #[.slice (some ⟨g, 0, none⟩) L.length cap, sV l] w fun e w' => e = .returned (.bool (memB L l)) ∧ w' = w := by
  obtain ⟨n, hn⟩ : ∃ n, L.length = n := ⟨_, rfl⟩
  have HN : Hid (L.length = n) := hn
  have HV : Hid (Vec w g (L.map sV)) := V
  have HY : Hid (∀ t (k : Nat), L[k]? = some t → (t == l) = true → memB L l = true) := fun t k h e => memB_yes h e
  have HX : Hid ((∀ (j : Nat) t, L[j]? = some t → (t == l) = false) → memB L l = false) := fun h => memB_no h
  obtain ⟨R, hR⟩ : ∃ R, memB L l = R := ⟨_, rfl⟩
  rw [hR] at HY HX ⊢
  rw [hn] at hL ⊢
  clear hn V hR
  go_enter Tryz.func81, Tryz.ntmps81
  go_wp2_with fail
  go_loop [9] (fun i => ∃ k : Nat, k ≤ n ∧ i = .int .i64 k ∧ Hid (∀ (j : Nat) t, j < k → L[j]? = some t → (t == l) = false)) (fun i => n - (intOf i).toNat)
  case atStart => exact ⟨0, by omega, rfl, fun j t hj => by omega⟩
  case round =>
    obtain ⟨k, hk, rfl, HA⟩ := hrel
    by_cases hlt : k < n
    · obtain ⟨t, ht⟩ : ∃ t, L[k]? = some t := ⟨_, List.getElem?_eq_getElem (by rw [HN.out]; exact hlt)⟩
      have a0 := (HV.out k (sV t) (by rw [List.getElem?_map, ht]; rfl)).1
      have i2 : (k : Int) < (n : Int) := by omega
      obtain ⟨p, hp⟩ : ∃ p, (t == l) = p := ⟨_, rfl⟩
      cases p
      · have HA2 : Hid (∀ (j : Nat) t, j < k + 1 → L[j]? = some t → (t == l) = false) := fun j t' hj h => by
          rcases Nat.lt_or_ge j k with hjk | hjk
          · exact HA.out j t' hjk h
          · obtain rfl : j = k := by omega
            rw [ht] at h
            cases h
            exact hp
        clear HA ht
        go_wp2_with fail
        go_round
        case rel => exact ⟨k + 1, by omega, by go_num, HA2⟩
        case measure => simp [intOf]; omega
      · have hr := HY.out t k ht hp
        subst hr
        clear HA ht
        go_wp2_with fail
        go_ret
        exact ⟨rfl, rfl⟩
    · obtain rfl : k = n := by omega
      have hr := HX.out (fun j t h => HA.out j t (by have := (List.getElem?_eq_some_iff.1 h).1; rw [HN.out] at this; exact this) h)
      subst hr
      clear HA
      go_wp2_with fail
      go_ret
      exact ⟨rfl, rfl⟩

set_option maxRecDepth 8000 in
set_option maxHeartbeats 1000000 in
theorem errorsS (w : World) : Calls Tryz.prog 69 #[] w fun e w' => ∃ g, e = .returned (.slice (some ⟨g, 0, none⟩) 9 9) ∧ Vec w' g (errL.map sV) ∧ Ext w w' := by
  go_enter Tryz.func69, Tryz.ntmps69
  go_wp2_with fail
  go_ret
  exact ⟨_, rfl, vec_made w (errL.map sV) 9, x1 _ _⟩

/-- The errors as they are laid. -/
def ErrTab (w : World) : Prop := ∀ i t, errL[i]? = some t → w.cell? ⟨1, i, none⟩ = some (sV t)
theorem ErrTab.later {w w' : World} (h : ErrTab w) (e : Ext w w') : ErrTab w' := fun i t ht => cell_later e (h i t ht)
abbrev errV : Value := .agg #[sV [35, 78, 85, 76, 76, 33], sV [35, 68, 73, 86, 47, 48, 33], sV [35, 86, 65, 76, 85, 69, 33], sV [35, 82, 69, 70, 33], sV [35, 78, 65, 77, 69, 63], sV [35, 78, 85, 77, 33], sV [35, 78, 47, 65], sV [35, 83, 80, 73, 76, 76, 33], sV [35, 67, 89, 67, 76, 69, 33]]
theorem err_at0 (W : World) : (Instr.index 148 errV (.int .i64 0)).run Tryz.prog W = .ok (sV [35, 78, 85, 76, 76, 33]) W := by kernel_rfl
theorem err_at1 (W : World) : (Instr.index 148 errV (.int .i64 1)).run Tryz.prog W = .ok (sV [35, 68, 73, 86, 47, 48, 33]) W := by kernel_rfl
theorem err_at2 (W : World) : (Instr.index 148 errV (.int .i64 2)).run Tryz.prog W = .ok (sV [35, 86, 65, 76, 85, 69, 33]) W := by kernel_rfl
theorem err_at3 (W : World) : (Instr.index 148 errV (.int .i64 3)).run Tryz.prog W = .ok (sV [35, 82, 69, 70, 33]) W := by kernel_rfl
theorem err_at4 (W : World) : (Instr.index 148 errV (.int .i64 4)).run Tryz.prog W = .ok (sV [35, 78, 65, 77, 69, 63]) W := by kernel_rfl
theorem err_at5 (W : World) : (Instr.index 148 errV (.int .i64 5)).run Tryz.prog W = .ok (sV [35, 78, 85, 77, 33]) W := by kernel_rfl
theorem err_at6 (W : World) : (Instr.index 148 errV (.int .i64 6)).run Tryz.prog W = .ok (sV [35, 78, 47, 65]) W := by kernel_rfl
theorem err_at7 (W : World) : (Instr.index 148 errV (.int .i64 7)).run Tryz.prog W = .ok (sV [35, 83, 80, 73, 76, 76, 33]) W := by kernel_rfl
theorem err_at8 (W : World) : (Instr.index 148 errV (.int .i64 8)).run Tryz.prog W = .ok (sV [35, 67, 89, 67, 76, 69, 33]) W := by kernel_rfl
theorem err_at (k : Nat) (hk : k < 9) : ∃ t, errL[k]? = some t ∧ ∀ W : World, (Instr.index 148 errV (.int .i64 k)).run Tryz.prog W = .ok (sV t) W := by
  match k, hk with
  | 0, _ => exact ⟨_, rfl, err_at0⟩
  | 1, _ => exact ⟨_, rfl, err_at1⟩
  | 2, _ => exact ⟨_, rfl, err_at2⟩
  | 3, _ => exact ⟨_, rfl, err_at3⟩
  | 4, _ => exact ⟨_, rfl, err_at4⟩
  | 5, _ => exact ⟨_, rfl, err_at5⟩
  | 6, _ => exact ⟨_, rfl, err_at6⟩
  | 7, _ => exact ⟨_, rfl, err_at7⟩
  | 8, _ => exact ⟨_, rfl, err_at8⟩
set_option maxRecDepth 8000 in
set_option maxHeartbeats 1000000 in
theorem errI (l : List UInt8) (w : World) (hE : ErrTab w) : Calls Tryz.prog 89 #[sV l] w fun e w' => e = .returned (.bool (memB errL l)) ∧ w' = w := by
  have e0 := hE 0 _ rfl
  have e1 := hE 1 _ rfl
  have e2 := hE 2 _ rfl
  have e3 := hE 3 _ rfl
  have e4 := hE 4 _ rfl
  have e5 := hE 5 _ rfl
  have e6 := hE 6 _ rfl
  have e7 := hE 7 _ rfl
  have e8 := hE 8 _ rfl
  have HY : Hid (∀ t (k : Nat), errL[k]? = some t → (t == l) = true → memB errL l = true) := fun t k h e => memB_yes h e
  have HX : Hid ((∀ (j : Nat) t, errL[j]? = some t → (t == l) = false) → memB errL l = false) := fun h => memB_no h
  obtain ⟨R, hR⟩ : ∃ R, memB errL l = R := ⟨_, rfl⟩
  rw [hR] at HY HX ⊢
  clear hR hE
  go_enter Tryz.func89, Tryz.ntmps89
  go_wp2_with fail
  clear e0 e1 e2 e3 e4 e5 e6 e7 e8
  go_loop [6] (fun i => ∃ k : Nat, k ≤ 9 ∧ i = .int .i64 k ∧ Hid (∀ (j : Nat) t, j < k → errL[j]? = some t → (t == l) = false)) (fun i => 9 - (intOf i).toNat)
  case atStart => exact ⟨0, by omega, rfl, fun j t hj => by omega⟩
  case round =>
    obtain ⟨k, hk, rfl, HA⟩ := hrel
    by_cases hlt : k < 9
    · obtain ⟨t, ht, hix⟩ := err_at k hlt
      have i2 : (k : Int) < 9 := by omega
      obtain ⟨p, hp⟩ : ∃ p, (t == l) = p := ⟨_, rfl⟩
      cases p
      · have HA2 : Hid (∀ (j : Nat) t, j < k + 1 → errL[j]? = some t → (t == l) = false) := fun j t' hj h => by
          rcases Nat.lt_or_ge j k with hjk | hjk
          · exact HA.out j t' hjk h
          · obtain rfl : j = k := by omega
            rw [ht] at h
            cases h
            exact hp
        clear HA ht
        go_wp2_with fail
        go_round
        case rel => exact ⟨k + 1, by omega, by go_num, HA2⟩
        case measure => simp [intOf]; omega
      · have hr := HY.out t k ht hp
        subst hr
        clear HA ht
        go_wp2_with fail
        go_ret
        exact ⟨rfl, rfl⟩
    · obtain rfl : k = 9 := by omega
      have hr := HX.out (fun j t h => HA.out j t (by have := (List.getElem?_eq_some_iff.1 h).1; simpa [errL] using this) h)
      subst hr
      clear HA
      go_wp2_with fail
      go_ret
      exact ⟨rfl, rfl⟩

end Go.Proofs.YtbomplppgobkdaaGreatDoor

namespace Go.Proofs.YtbomplppgobkdaaGreatDoor
open Go.ChangeShapes Go.WideShapes Go.ChangeAt Go.RowKit

theorem gErrs : Tryz.prog.globalNamed "loop.example/g00025/impl.errorTexts" = some 1 := by kernel_rfl
theorem gErrsType : (Tryz.prog.globals[1]?).map (·.type) = some 148 := by kernel_rfl
theorem strCellsX : Tryz.prog.cellsOf 9 = 1 := by kernel_rfl
theorem str_cellX {H : Type} {enc : TypeId × Value → H} {w : World} {base : Nat} {sp : Nat → Bool} {held : Bool} {fuel : Nat} {cs : List Value} {l : List UInt8} {p : List MemPlace} (o : Nat)
    (h : DataW.trod enc Tryz.prog w base sp held fuel 9 ((cs.drop (o * Tryz.prog.cellsOf 9)).take (Tryz.prog.cellsOf 9)) = some (.lit (.string l), p)) : cs[o]? = some (sV l) := by
  rw [strCellsX, Nat.mul_one] at h
  obtain ⟨s, hc, hx, _⟩ := DataW.trod_string Tryz.underlying9 h
  simp only [Prod.mk.injEq, DataW.lit.injEq, Lit.string.injEq] at hx
  have := congrArg (·[0]?) hc
  simp only [List.getElem?_take, List.getElem?_drop, List.getElem?_cons_zero] at this
  have hs : s = ⟨l.toArray⟩ := by
    cases s
    rw [hx.1]
  rw [hs] at this
  simpa using this
set_option maxRecDepth 100000 in
theorem errs_of {rest : List (String × DataW Unit)} {W : World} (h : laidMet Tryz.prog (("loop.example/g00025/impl.errorTexts", Rows.laid_loop_example_g00025_impl_errorTexts) :: rest) W) : ErrTab W := by
  obtain ⟨ps, ⟨g', t', cs, fuel, p, q, hg', ht', hvar, hd, _, _⟩, _⟩ := h
  obtain rfl := Option.some.inj (gErrs.symm.trans hg')
  obtain rfl := Option.some.inj (gErrsType.symm.trans ht')
  have C := fun i v (h : cs.toList[i]? = some v) => (World.var?_cell gErrs hvar i).trans (by simpa using h)
  intro i t hi
  have h9 : i < 9 := (List.getElem?_eq_some_iff.1 hi).1
  match i, h9, hi with
  | 0, h9, hi => cases hi; obtain ⟨_, _, k⟩ := trod_elem Tryz.underlying148 hd 0 h9 _ rfl; exact C 0 _ (str_cellX 0 k)
  | 1, h9, hi => cases hi; obtain ⟨_, _, k⟩ := trod_elem Tryz.underlying148 hd 1 h9 _ rfl; exact C 1 _ (str_cellX 1 k)
  | 2, h9, hi => cases hi; obtain ⟨_, _, k⟩ := trod_elem Tryz.underlying148 hd 2 h9 _ rfl; exact C 2 _ (str_cellX 2 k)
  | 3, h9, hi => cases hi; obtain ⟨_, _, k⟩ := trod_elem Tryz.underlying148 hd 3 h9 _ rfl; exact C 3 _ (str_cellX 3 k)
  | 4, h9, hi => cases hi; obtain ⟨_, _, k⟩ := trod_elem Tryz.underlying148 hd 4 h9 _ rfl; exact C 4 _ (str_cellX 4 k)
  | 5, h9, hi => cases hi; obtain ⟨_, _, k⟩ := trod_elem Tryz.underlying148 hd 5 h9 _ rfl; exact C 5 _ (str_cellX 5 k)
  | 6, h9, hi => cases hi; obtain ⟨_, _, k⟩ := trod_elem Tryz.underlying148 hd 6 h9 _ rfl; exact C 6 _ (str_cellX 6 k)
  | 7, h9, hi => cases hi; obtain ⟨_, _, k⟩ := trod_elem Tryz.underlying148 hd 7 h9 _ rfl; exact C 7 _ (str_cellX 7 k)
  | 8, h9, hi => cases hi; obtain ⟨_, _, k⟩ := trod_elem Tryz.underlying148 hd 8 h9 _ rfl; exact C 8 _ (str_cellX 8 k)
theorem errs_readable : ∀ g t, Tryz.prog.globalNamed "loop.example/g00025/impl.errorTexts" = some g → (Tryz.prog.globals[g]?).map (·.type) = some t → Tryz.prog.readableRec t = true ∧ t < Tryz.prog.types.size := by
  intro g t hg ht
  obtain rfl := Option.some.inj (gErrs.symm.trans hg)
  obtain rfl := Option.some.inj (gErrsType.symm.trans ht)
  exact ⟨by kernel_rfl, of_decide_eq_true (by kernel_rfl)⟩

end Go.Proofs.YtbomplppgobkdaaGreatDoor

namespace Go.Proofs.YtbomplppgobkdaaGreatDoor
open Go.RowKit

abbrev valV (k : Int) (n : Bool) (d x : Int) (t : List UInt8) : Value := .agg #[.int .i64 k, .bool n, .int .i64 d, .int .i64 x, sV t]
abbrev valL (k : Int) (n : Bool) (d x : Int) (t : List UInt8) : List Value := [.int .i64 k, .bool n, .int .i64 d, .int .i64 x, sV t]
/-- The zero of decimals. -/
def zeroD (n : Bool) (d x : Int) : Bool := !n && decide (d = 0) && decide (x = 0)
/-- What a good value is. -/
def goodV (k : Int) (n : Bool) (d x : Int) (t : List UInt8) : Bool :=
  if k = 1 then goodB n d x && (t == []) else
  zeroD n d x && (if k = 0 then t == [] else if k = 2 then printN 1000 t else if k = 3 then boolB t else if k = 4 then memB errL t else false)

set_option maxRecDepth 8000 in
set_option maxHeartbeats 2000000 in
theorem goodVI (k : Int) (n : Bool) (d x : Int) (t : List UInt8) (w : World) (hl : t.length ≤ 2000000) (d1 : -9223372036854775808 ≤ d) (d2 : d ≤ 9223372036854775807) (hT : Tens w) (hE : ErrTab w) :
    Calls Tryz.prog 49 #[valV k n d x t] w fun e w' => e = .returned (.bool (goodV k n d x t)) ∧ Ext w w' := by
  have X0 := x1 w (.cells #[.int .i64 k, .bool n, .int .i64 d, .int .i64 x, sV t] 50)
  have B := vec_made w (valL k n d x t) 50
  have T1 := hT.later X0
  have E1 := hE.later X0
  obtain ⟨p, hp⟩ : ∃ p, (t == []) = p := ⟨_, rfl⟩
  clear hT hE
  by_cases h1 : k = 1
  · subst h1
    have C := fun W (X : Ext (w.alloc (.cells #[.int .i64 1, .bool n, .int .i64 d, .int .i64 x, sV t] 50)) W) => goodI n d x W d1 d2 (T1.later X)
    have e : goodV 1 n d x t = (goodB n d x && p) := by simp [goodV, hp]
    rw [e]
    obtain ⟨q, hq⟩ : ∃ q, goodB n d x = q := ⟨_, rfl⟩
    rw [hq] at C ⊢
    clear e hq d1 d2
    cases q
    · go_enter Tryz.func49, Tryz.ntmps49
      go_wp2_with (go_at_call 86; refine (C _ (xr _)).mono ?_; rintro e w1 ⟨rfl, e1⟩)
      go_ret
      exact ⟨rfl, xt X0 e1⟩
    · cases p
      all_goals
        go_enter Tryz.func49, Tryz.ntmps49
        go_wp2_with (go_at_call 86; refine (C _ (xr _)).mono ?_; rintro e w1 ⟨rfl, e1⟩; have a4 := ((B.later e1) 4 _ rfl).1)
        go_ret
        exact ⟨rfl, xt X0 e1⟩
  · by_cases hz : zeroD n d x = true
    · obtain ⟨rfl, rfl, rfl⟩ : n = false ∧ d = 0 ∧ x = 0 := by simpa [zeroD, and_assoc] using hz
      clear hz d1 d2 T1
      by_cases h0 : k = 0
      · subst h0
        have e : goodV 0 false 0 0 t = p := by simp [goodV, zeroD, hp]
        rw [e]
        clear e
        cases p
        all_goals
          go_enter Tryz.func49, Tryz.ntmps49
          go_wp2_with fail
          go_ret
          exact ⟨rfl, X0⟩
      · clear hp
        by_cases h2 : k = 2
        · subst h2
          have C := fun W => plainI t W hl
          have e : goodV 2 false 0 0 t = (plainB t && decide ((t.length : Int) ≤ 1000)) := by
            have e2 : decide (t.length ≤ 1000) = decide ((t.length : Int) ≤ 1000) := decide_eq_decide.2 (by omega)
            simp [goodV, zeroD, printN, plainB, e2]
          rw [e]
          obtain ⟨m, hm⟩ : ∃ m, t.length = m := ⟨_, rfl⟩
          have hs : (⟨t.toArray⟩ : ByteArray).size = m := hm
          rw [hm] at hl ⊢
          obtain ⟨q, hq⟩ : ∃ q, plainB t = q := ⟨_, rfl⟩
          rw [hq] at C ⊢
          clear e hq hm h0 h1
          cases q
          all_goals
            go_enter Tryz.func49, Tryz.ntmps49
            go_wp2_with (go_at_call 87; refine (C _).mono ?_; rintro e w1 ⟨rfl, rfl⟩)
            go_ret
            exact ⟨ret_bool (by simp), X0⟩
        · by_cases h3 : k = 3
          · subst h3
            have C := fun W => boolI t W
            have e : goodV 3 false 0 0 t = boolB t := by simp [goodV, zeroD]
            rw [e]
            clear e h0 h1 h2
            go_enter Tryz.func49, Tryz.ntmps49
            go_wp2_with (go_at_call 88; refine (C _).mono ?_; rintro e w1 ⟨rfl, rfl⟩)
            go_ret
            exact ⟨rfl, X0⟩
          · by_cases h4 : k = 4
            · subst h4
              have C := errI t _ E1
              have e : goodV 4 false 0 0 t = memB errL t := by simp [goodV, zeroD]
              rw [e]
              clear e h0 h1 h2 h3
              go_enter Tryz.func49, Tryz.ntmps49
              go_wp2_with (go_at_call 89; refine C.mono ?_; rintro e w1 ⟨rfl, rfl⟩)
              go_ret
              exact ⟨rfl, X0⟩
            · have e : goodV k false 0 0 t = false := by simp [goodV, zeroD, h0, h1, h2, h3, h4]
              rw [e]
              clear e
              go_enter Tryz.func49, Tryz.ntmps49
              go_wp2_with fail
              go_ret
              exact ⟨rfl, X0⟩
    · have e : goodV k n d x t = false := by simp only [Bool.not_eq_true] at hz; simp [goodV, hz, h1]
      rw [e]
      clear e hp B T1 E1 hl
      have hz' : n = true ∨ (n = false ∧ (d ≠ 0 ∨ (d = 0 ∧ x ≠ 0))) := by
        cases n
        · right
          refine ⟨rfl, ?_⟩
          by_cases hd : d = 0
          · right
            refine ⟨hd, fun hx => hz ?_⟩
            simp [zeroD, hd, hx]
          · exact Or.inl hd
        · exact Or.inl rfl
      clear hz
      rcases hz' with rfl | ⟨rfl, hd | ⟨rfl, hx⟩⟩
      all_goals
        go_enter Tryz.func49, Tryz.ntmps49
        go_wp2_with fail
        go_ret
        exact ⟨rfl, X0⟩

set_option maxRecDepth 8000 in
set_option maxHeartbeats 2000000 in
theorem goodVS (k : Int) (n : Bool) (d x : Int) (t : List UInt8) (w : World) (hl : t.length ≤ 2000000) :
    Calls Tryz.prog 47 #[valV k n d x t] w fun e w' => e = .returned (.bool (goodV k n d x t)) ∧ Ext w w' := by
  have X0 := x1 w (.cells #[.int .i64 k, .bool n, .int .i64 d, .int .i64 x, sV t] 50)
  have B := vec_made w (valL k n d x t) 50
  obtain ⟨p, hp⟩ : ∃ p, (t == []) = p := ⟨_, rfl⟩
  by_cases h1 : k = 1
  · subst h1
    have C := fun W => goodS n d x W
    have e : goodV 1 n d x t = (goodB n d x && p) := by simp [goodV, hp]
    rw [e]
    obtain ⟨q, hq⟩ : ∃ q, goodB n d x = q := ⟨_, rfl⟩
    rw [hq] at C ⊢
    clear e hq
    cases p
    · go_enter Tryz.func47, Tryz.ntmps47
      go_wp2_with fail
      go_ret
      exact ⟨ret_bool (by simp), X0⟩
    · go_enter Tryz.func47, Tryz.ntmps47
      go_wp2_with (go_at_call 79; refine (C _).mono ?_; rintro e w1 ⟨rfl, e1⟩)
      go_ret
      exact ⟨ret_bool (by simp), xt X0 e1⟩
  · by_cases hz : zeroD n d x = true
    · obtain ⟨rfl, rfl, rfl⟩ : n = false ∧ d = 0 ∧ x = 0 := by simpa [zeroD, and_assoc] using hz
      clear hz
      by_cases h0 : k = 0
      · subst h0
        have e : goodV 0 false 0 0 t = p := by simp [goodV, zeroD, hp]
        rw [e]
        clear e
        cases p
        all_goals
          go_enter Tryz.func47, Tryz.ntmps47
          go_wp2_with fail
          go_ret
          exact ⟨rfl, X0⟩
      · clear hp
        by_cases h2 : k = 2
        · subst h2
          have C := fun W => printS 1000 t W hl
          have e : goodV 2 false 0 0 t = printN 1000 t := by simp [goodV, zeroD]
          rw [e]
          clear e h0 h1
          go_enter Tryz.func47, Tryz.ntmps47
          go_wp2_with (go_at_call 80; refine (C _).mono ?_; rintro e w1 ⟨rfl, rfl⟩)
          go_ret
          exact ⟨rfl, X0⟩
        · by_cases h3 : k = 3
          · subst h3
            obtain ⟨p, hp⟩ : ∃ p, (t == [84, 82, 85, 69]) = p := ⟨_, rfl⟩
            obtain ⟨q, hq⟩ : ∃ q, (t == [70, 65, 76, 83, 69]) = q := ⟨_, rfl⟩
            have e : goodV 3 false 0 0 t = (p || q) := by simp only [goodV, zeroD, boolB, hp, hq]; rfl
            rw [e]
            clear e h0 h1 h2
            cases p <;> cases q
            all_goals
              go_enter Tryz.func47, Tryz.ntmps47
              go_wp2_with fail
              go_ret
              exact ⟨rfl, X0⟩
          · by_cases h4 : k = 4
            · subst h4
              have C := fun W => errorsS W
              have D := fun g W V => inS errL t g 9 W (by decide) V
              have e : goodV 4 false 0 0 t = memB errL t := by simp [goodV, zeroD]
              rw [e]
              clear e h0 h1 h2 h3
              go_enter Tryz.func47, Tryz.ntmps47
              go_wp2_with fail
              go_region_with (first
                | (go_at_call 69; refine (C _).mono ?_; rintro e w1 ⟨g, rfl, V, e1⟩; have a4 := ((B.later (xt (xd (xr _)) e1)) 4 _ rfl).1)
                | (go_at_call 81; refine (D g _ V).mono ?_; rintro e w2 ⟨rfl, rfl⟩))
              all_goals
                go_wp2_with fail
                go_ret
                exact ⟨rfl, xt (xd X0) e1⟩
            · have e : goodV k false 0 0 t = false := by simp [goodV, zeroD, h0, h1, h2, h3, h4]
              rw [e]
              clear e
              go_enter Tryz.func47, Tryz.ntmps47
              go_wp2_with fail
              go_ret
              exact ⟨rfl, X0⟩
    · have e : goodV k n d x t = false := by simp only [Bool.not_eq_true] at hz; simp [goodV, hz, h1]
      rw [e]
      clear e B hl
      have hz' : n = true ∨ (n = false ∧ (d ≠ 0 ∨ (d = 0 ∧ x ≠ 0))) := by
        cases n
        · right
          refine ⟨rfl, ?_⟩
          by_cases hd : d = 0
          · right
            refine ⟨hd, fun hx => hz ?_⟩
            simp [zeroD, hd, hx]
          · exact Or.inl hd
        · exact Or.inl rfl
      clear hz
      by_cases h0 : k = 0
      · subst h0
        cases p
        all_goals rcases hz' with rfl | ⟨rfl, hd | ⟨rfl, hx⟩⟩
        all_goals
          go_enter Tryz.func47, Tryz.ntmps47
          go_wp2_with fail
          go_ret
          exact ⟨rfl, X0⟩
      · clear hp
        rcases hz' with rfl | ⟨rfl, hd | ⟨rfl, hx⟩⟩
        all_goals
          go_enter Tryz.func47, Tryz.ntmps47
          go_wp2_with fail
          go_ret
          exact ⟨rfl, X0⟩

/-- Stores in a row, from an offset on. -/
def setL (w : World) (b : Nat) : Nat → List Value → World
  | _, [] => w
  | o, v :: vs => setL (w.setCell ⟨b, o, none⟩ v) b (o + 1) vs
theorem Vec.farL {b k : Nat} {l : List Value} (hk : k ≠ b) : ∀ (us : List Value) (o : Nat) {w : World}, Vec w b l → Vec (setL w k o us) b l
  | [], _, _, h => h
  | u :: us, o, _, h => Vec.farL hk us (o + 1) (h.far hk u)
theorem Ext.setL {a : World} {b : Nat} (hb : a.heap.size ≤ b) : ∀ (us : List Value) (o : Nat) {w : World}, Ext a w → Ext a (setL w b o us)
  | [], _, _, h => h
  | u :: us, o, _, h => Ext.setL hb us (o + 1) (xset h hb u)
theorem Vec.put5 {w : World} {b : Nat} {v0 v1 v2 v3 v4 : Value} (h : Vec w b [v0, v1, v2, v3, v4]) (u0 u1 u2 u3 u4 : Value) : Vec (setL w b 0 [u0, u1, u2, u3, u4]) b [u0, u1, u2, u3, u4] :=
  ((((h.put 0 (by simp) u0).put 1 (by simp) u1).put 2 (by simp) u2).put 3 (by simp) u3).put 4 (by simp) u4

end Go.Proofs.YtbomplppgobkdaaGreatDoor

