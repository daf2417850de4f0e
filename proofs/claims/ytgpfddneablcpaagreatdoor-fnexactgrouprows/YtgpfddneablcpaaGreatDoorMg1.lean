/-
  Several texts in one: FrameB, Frame, Vek, Sv1, Fa, Fe.
-/
import Derived.Test.YtgpfddneablcpaaGreatDoorRows
import Derived.Test.YtgpfddneablcpaaGreatDoorMg0
import Derived.WalkKit
import Derived.ProofKit
import Derived.OpenShut
import Derived.WalkSmall
import Derived.Lib.SmallJoins
import Derived.Deep.DeepHandedRow
import Derived.Lib.LaidTab
import Derived.Laws.IdiomStrings
namespace Go.Proofs.YtgpfddneablcpaaGreatDoor
open Go.ChangeShapes Go.WideShapes Go.ChangeAt Go.RowKit

theorem own : ownKnob Tryz.prog.godebug = none := by kernel_rfl
theorem laidOut : laidOutB Tryz.prog = true := by kernel_rfl

/-- The named variables read again behind a call below which nothing has turned. -/
theorem vars_below {H : Type} {enc : TypeId × Value → H} {P : Program} (hl : laidOutB P = true) {W W' : World} (bel : Below W.heap.size W W') :
  ∀ {ns : List String} {gs : List (DataW H)} {q : List MemPlace}, (∀ n ∈ ns, ∀ g t, P.globalNamed n = some g → (P.globals[g]?).map (·.type) = some t → P.readableRec t = true ∧ t < P.types.size) →
   (∀ x ∈ q, x.block < W.heap.size) → DataW.TrodVars enc P W (fun _ => true) ns gs q → DataW.TrodVars enc P W' (fun b => decide (b < W.heap.size)) ns gs q
 | [], [], _, _, _, h => h
 | [], _ :: _, _, _, _, h => h.elim
 | _ :: _, [], _, _, _, h => h.elim
 | n :: ns, d :: ds, q, hr, hlt, h => by
  obtain ⟨g, t, cs, fuel, p, r, h1, h2, h3, h4, h5, rfl⟩ := h
  obtain ⟨r1, r2⟩ := hr n (by simp) g t h1 h2
  have hg : g < W.heap.size := by
   unfold World.var? at h3
   simp only [h1, Option.bind_some] at h3
   by_cases hk : g < W.heap.size
   ·
    exact hk
   ·
    rw [Array.getElem?_eq_none (by omega)] at h3
    cases h3
  refine ⟨g, t, cs, fuel, p, r, h1, h2, var?_below bel h1 hg h3, ?_, ?_, rfl⟩
  ·
   exact DataW.trod_stays (kids_book hl r1) (book_sized r1) (fun h => by cases h) ⟨r2, book_self t⟩ h4 (fun x hx => bel.same (hlt x (by simp [hx]))) (fun x hx => by simpa using hlt x (by simp [hx]))
  ·
   exact vars_below hl bel (fun m hm => hr m (by simp [hm])) (fun x hx => hlt x (by simp [hx])) h5

/-- An element of an array that reads as told. -/
theorem trod_elem {H : Type} {enc : TypeId × Value → H} {P : Program} {w : World} {base : Nat} {sp : Nat → Bool} {held : Bool} {fuel : Nat} {t e : TypeId} {n : Nat} {cs : List Value} {ds : List (DataW H)} {p : List MemPlace}
  (ht : P.underlying t = some (.array n e)) (h : DataW.trod enc P w base sp held fuel t cs = some (.agg ds, p)) (i : Nat) (hi : i < n) (d : DataW H) (hd : ds[i]? = some d) :
  ∃ fuel' p', DataW.trod enc P w base sp held fuel' e ((cs.drop (i * P.cellsOf e)).take (P.cellsOf e)) = some (d, p') := by
 cases fuel with
 | zero => simp [DataW.trod] at h
 | succ fuel =>
  simp only [DataW.trod, ht] at h
  split at h
  ·
   obtain ⟨xs, hm, hx⟩ := Option.map_eq_some_iff.1 h
   obtain ⟨b, hb, hf⟩ := Lib.mapM_at hm i i (by simp [hi])
   have e1 : xs.map (·.1) = ds := by
    have := congrArg Prod.fst hx
    simpa using this
   rw [← e1, List.getElem?_map, hb] at hd
   simp only [Option.map_some, Option.some.injEq] at hd
   subst hd
   exact ⟨fuel, b.2, hf⟩
  ·
   cases h
end Go.Proofs.YtgpfddneablcpaaGreatDoor

namespace Go.Proofs.YtgpfddneablcpaaGreatDoor
open Go.ChangeShapes Go.WideShapes Go.ChangeAt Go.RowKit

theorem gTens : Tryz.prog.globalNamed "loop.example/g00025/impl.tens" = some 0 := by kernel_rfl
theorem gTensType : (Tryz.prog.globals[0]?).map (·.type) = some 108 := by kernel_rfl

/-- The table's cells, out of a row that lists it first. -/
theorem tens_of {rest : List (String × DataW Unit)} {W : World} (h : laidMet Tryz.prog (("loop.example/g00025/impl.tens", Rows.laid_loop_example_g00025_impl_tens) :: rest) W) : Tens W := by
 have t : Lib.TabIs Tryz.prog W "loop.example/g00025/impl.tens" .u64 [1, 10, 100, 1000, 10000, 100000, 1000000, 10000000, 100000000, 1000000000, 10000000000, 100000000000, 1000000000000, 10000000000000, 100000000000000, 1000000000000000, 10000000000000000, 100000000000000000, 1000000000000000000, 10000000000000000000] :=
  Lib.tabIs_of_head (rest := rest) gTens gTensType Tryz.underlying108 Tryz.underlying103 (by kernel_rfl) (by kernel_rfl) h
 intro i hi
 have e : ∀ i : Nat, i < 20 → ([1, 10, 100, 1000, 10000, 100000, 1000000, 10000000, 100000000, 1000000000, 10000000000, 100000000000, 1000000000000, 10000000000000, 100000000000000, 1000000000000000, 10000000000000000, 100000000000000000, 1000000000000000000, 10000000000000000000] : List Int).getD i 0 = ((10 ^ i : Nat) : Int) := by decide +kernel
 rw [← e i hi]
 exact t.cell gTens i hi

theorem tens_readable1 : ∀ g t, Tryz.prog.globalNamed "loop.example/g00025/impl.tens" = some g → (Tryz.prog.globals[g]?).map (·.type) = some t → Tryz.prog.readableRec t = true ∧ t < Tryz.prog.types.size := by
 intro g t hg ht
 obtain rfl := Option.some.inj (gTens.symm.trans hg)
 obtain rfl := Option.some.inj (gTensType.symm.trans ht)
 exact ⟨by kernel_rfl, of_decide_eq_true (by kernel_rfl)⟩
end Go.Proofs.YtgpfddneablcpaaGreatDoor

namespace Go.Proofs.YtgpfddneablcpaaGreatDoor
open Go.RowKit

/-- A row of cells of one block, none frozen. -/
def Vec (w : World) (b : Nat) (l : List Value) : Prop := ∀ i v, l[i]? = some v → w.cell? ⟨b, i, none⟩ = some v ∧ w.frozen? ⟨b, i, none⟩ = false
theorem Vec.later {w w1 : World} {b : Nat} {l : List Value} (h : Vec w b l) (hb : Ext w w1) : Vec w1 b l := fun i v hi => ⟨cell_later hb (h i v hi).1, frozen_later hb (h i v hi).1 (h i v hi).2⟩
theorem Vec.far {w : World} {b : Nat} {l : List Value} (h : Vec w b l) {p : Addr} (hp : p.block ≠ b) (u : Value) : Vec (w.setCell p u) b l := fun i v hi => by
 refine ⟨?_, by rw [World.frozen?_setCell]; exact (h i v hi).2⟩
 rw [World.cell?_setCell_other _ _ _ _ (fun e => hp (congrArg Addr.block e))]
 exact (h i v hi).1
theorem Vec.put {w : World} {b : Nat} {l : List Value} (h : Vec w b l) (i : Nat) (hi : i < l.length) (u : Value) : Vec (w.setCell ⟨b, i, none⟩ u) b (l.set i u) := fun j v hj => by
 refine ⟨?_, ?_⟩
 ·
  by_cases e : j = i
  ·
   subst e
   rw [List.getElem?_set_self hi] at hj
   cases hj
   exact World.cell?_setCell_same' _ _ _ (by rw [(h j l[j] (List.getElem?_eq_getElem hi)).1]; rfl)
  ·
   rw [List.getElem?_set_ne (fun q => e q.symm)] at hj
   rw [World.cell?_setCell_other _ _ _ _ (fun q => e (congrArg Addr.off q).symm)]
   exact (h j v hj).1
 ·
  rw [World.frozen?_setCell]
  by_cases e : j = i
  ·
   subst e
   exact (h j l[j] (List.getElem?_eq_getElem hi)).2
  ·
   rw [List.getElem?_set_ne (fun q => e q.symm)] at hj
   exact (h j v hj).2
theorem size_ofL' {s : ByteArray} {l : List UInt8} (h : s.data.toList = l) : s.size = l.length := by
 rw [← h, Array.length_toList]
 rfl
theorem byte_atA {s : ByteArray} {l : List UInt8} (h : s.data.toList = l) {p : Nat} (hp : p < s.size) : (s[p]'hp) = l.getD p 0 := by
 subst h
 simp only [ByteArray.getElem_eq_getElem_data]
 have hp' : p < s.data.size := hp
 simp only [List.getD, Array.getElem?_toList]
 rw [Array.getElem?_eq_getElem hp']
 rfl
theorem take_at {l : List UInt8} {i : Nat} (h : i < l.length) : l.take (i + 1) = l.take i ++ [l.getD i 0] := by
 rw [List.take_add_one]
 simp [h]

abbrev sV (l : List UInt8) : Value := .string ⟨l.toArray⟩
theorem vec_made (w : World) (l : List Value) (t : TypeId) : Vec (w.alloc (.cells l.toArray t)) w.heap.size l := by
 intro i v hi
 have hb := heap_alloc_new w (.cells l.toArray t)
 refine ⟨?_, ?_⟩
 ·
  unfold World.cell?
  simp only [hb]
  simpa using hi
 ·
  unfold World.frozen?
  simp only [hb]
  simp

/-- A small letter made great. -/
def upC (c : UInt8) : UInt8 := if 97 ≤ c.toNat ∧ c.toNat ≤ 122 then UInt8.ofNat (c.toNat - 32) else c
theorem upC_small {c : UInt8} (h : 97 ≤ c.toNat ∧ c.toNat ≤ 122) : ((upC c).toNat : Int) = (c.toNat : Int) - 32 := by
 unfold upC
 rw [if_pos h, UInt8.toNat_ofNat']
 omega
theorem upC_other {c : UInt8} (h : ¬ (97 ≤ c.toNat ∧ c.toNat ≤ 122)) : upC c = c := by unfold upC; rw [if_neg h]
def encB (l : List UInt8) : List Value := l.map fun c => Value.int .u8 (c.toNat : Int)
theorem encB_length (l : List UInt8) : (encB l).length = l.length := by simp [encB]
theorem encB_at {l : List UInt8} {i : Nat} {c : UInt8} (h : l[i]? = some c) : (encB l)[i]? = some (.int .u8 (c.toNat : Int)) := by simp [encB, h]
/-- The first k made great. -/
def upK (l : List UInt8) (k : Nat) : List UInt8 := (l.take k).map upC ++ l.drop k
theorem upK_length (l : List UInt8) (k : Nat) : (upK l k).length = l.length := by simp [upK]; omega
theorem upK_zero (l : List UInt8) : upK l 0 = l := by simp [upK]
theorem upK_all (l : List UInt8) : upK l l.length = l.map upC := by simp [upK]
theorem upK_at {l : List UInt8} {k : Nat} {c : UInt8} (h : l[k]? = some c) : (upK l k)[k]? = some c := by
 have hk : k < l.length := (List.getElem?_eq_some_iff.1 h).1
 unfold upK
 rw [List.getElem?_append_right (by simp; omega)]
 simp only [List.length_map, List.length_take, List.getElem?_drop]
 rw [show k + (k - min k l.length) = k by omega]
 exact h
theorem upK_succ {l : List UInt8} {k : Nat} {c : UInt8} (h : l[k]? = some c) : upK l (k + 1) = (upK l k).set k (upC c) := by
 have hk : k < l.length := (List.getElem?_eq_some_iff.1 h).1
 apply List.ext_getElem?
 intro i
 rw [List.getElem?_set]
 unfold upK
 by_cases e : k = i
 ·
  subst e
  rw [if_pos rfl, List.getElem?_append_left (by simp; omega)]
  rw [if_pos (by simp; omega)]
  simp [h]
 ·
  rw [if_neg e]
  rcases Nat.lt_or_ge i k with hi | hi
  ·
   rw [List.getElem?_append_left (by simp; omega), List.getElem?_append_left (by simp; omega)]
   simp [hi, Nat.lt_succ_of_lt hi]
  ·
   rw [List.getElem?_append_right (by simp; omega), List.getElem?_append_right (by simp; omega)]
   simp only [List.length_map, List.length_take, List.getElem?_drop]
   congr 1
   omega
/-- A text made a row of bytes. -/
theorem bytes_made (l : List UInt8) (w : World) : ∃ cap w', (convert 9 91 (sV l)).run Tryz.prog w = .ok (.slice (some ⟨w.heap.size, 0, none⟩) l.length cap) w' ∧ l.length ≤ cap ∧ Ext w w' ∧ Vec w' w.heap.size (encB l) := by
 have hcv := run_bytes_of_string (P := Tryz.prog) w 9 91 5 ⟨l.toArray⟩ Tryz.underlying9 Tryz.underlying91 Tryz.underlying5
 refine ⟨_, _, hcv, grownCap_ge _ _ _ _, xa (xd (xr _)) _, fun j u hj => ?_⟩
 have hjl : j < l.length := by
  have := (List.getElem?_eq_some_iff.1 hj).1
  simpa [encB] using this
 obtain ⟨C, hC⟩ : ∃ C, grownCap w (⟨l.toArray⟩ : ByteArray).size 0 5 = C := ⟨_, rfl⟩
 rw [hC]
 have hb : (w.drew.alloc (.cells (bytesRow ⟨l.toArray⟩ C) 5 ((bytesRow ⟨l.toArray⟩ C).size, (bytesRow ⟨l.toArray⟩ C).size + 1))).heap[w.heap.size]? = some (.cells (bytesRow ⟨l.toArray⟩ C) 5 ((bytesRow ⟨l.toArray⟩ C).size, (bytesRow ⟨l.toArray⟩ C).size + 1)) := heap_alloc_new w.drew _
 refine ⟨?_, ?_⟩
 ·
  unfold World.cell?
  simp only [hb]
  rw [← hj]
  unfold bytesRow encB
  rw [Array.getElem?_append_left (by simp; exact hjl)]
  simp
 ·
  unfold World.frozen?
  simp only [hb]
  have : j < (bytesRow ⟨l.toArray⟩ C).size := by unfold bytesRow; simp; omega
  simp
  omega
theorem bytes_back (l : List UInt8) (g cap : Nat) (w : World) (h : Vec w g (encB l)) : (convert 91 9 (.slice (some ⟨g, 0, none⟩) l.length cap)).run Tryz.prog w = .ok (sV l) w := by
 refine run_convert_bytes_back (P := Tryz.prog) w 91 9 5 ⟨g, 0, none⟩ cap l Tryz.underlying91 Tryz.underlying5 Tryz.underlying9 (fun j hj => ?_)
 have := (h j _ (encB_at (List.getElem?_eq_getElem hj))).1
 rw [show (⟨g, 0, none⟩ : Addr).add j = ⟨g, j, none⟩ by unfold Addr.add; split <;> simp_all]
 exact this

def shownC (c : UInt8) : Bool := decide (32 ≤ c.toNat ∧ c.toNat ≤ 126)
def plainB (l : List UInt8) : Bool := l.all shownC
def printN (m : Nat) (l : List UInt8) : Bool := l.all shownC && decide (l.length ≤ m)
set_option maxHeartbeats 1000000 in
theorem plainByteI (N : Int) (q : Bool) (w : World) (h : (decide (32 ≤ N) && decide (N ≤ 126)) = q) : Calls Tryz.prog 80 #[.int .u8 N] w fun e w' => e = .returned (.bool q) ∧ w' = w := by
 subst h
 by_cases h1 : 32 ≤ N
 ·
  by_cases h2 : N ≤ 126
  ·
   go_enter Tryz.func80, Tryz.ntmps80
   go_wp2_with fail
   go_ret
   exact ⟨ret_bool (by simp [h1, h2]), rfl⟩
  ·
   go_enter Tryz.func80, Tryz.ntmps80
   go_wp2_with fail
   go_ret
   exact ⟨ret_bool (by simp; omega), rfl⟩
 ·
  go_enter Tryz.func80, Tryz.ntmps80
  go_wp2_with fail
  go_ret
  exact ⟨ret_bool (by simp; omega), rfl⟩
set_option maxRecDepth 8000 in
set_option maxHeartbeats 1000000 in
theorem plainI (l : List UInt8) (w : World) (hl : l.length ≤ 2000000) : Calls Tryz.prog 59 #[sV l] w fun e w' => e = .returned (.bool (plainB l)) ∧ w' = w := by
 obtain ⟨s, hs⟩ : ∃ s : ByteArray, (⟨l.toArray⟩ : ByteArray) = s := ⟨_, rfl⟩
 have hsl : s.data.toList = l := by rw [← hs]
 have hsz := size_ofL' hsl
 show Calls Tryz.prog 59 #[.string ⟨l.toArray⟩] w _
 rw [hs]
 clear hs
 obtain ⟨n, hn⟩ : ∃ n, l.length = n := ⟨_, rfl⟩
 have HN : Hid (l.length = n) := hn
 have HS : Hid (s.data.toList = l) := hsl
 rw [hn] at hl hsz
 clear hn hsl
 go_enter Tryz.func59, Tryz.ntmps59
 go_wp2_with fail
 go_loop [6] (fun i => ∃ k : Nat, k ≤ n ∧ i = .int .i64 k ∧ Hid ((l.take k).all shownC = true)) (fun i => n - (intOf i).toNat)
 case atStart => exact ⟨0, by omega, rfl, by show _ = _; simp⟩
 case round =>
  obtain ⟨k, hk, rfl, HA⟩ := hrel
  by_cases hlt : k < n
  ·
   have hks : k < s.size := by omega
   have hb0 := byte_atA HS.out hks
   have htk := take_at (l := l) (i := k) (by rw [HN.out]; exact hlt)
   obtain ⟨c, hcc⟩ : ∃ c, l.getD k 0 = c := ⟨_, rfl⟩
   rw [hcc] at hb0 htk
   have hb : ((s[k]'hks).toNat : Int) = (c.toNat : Int) := by rw [hb0]
   have i2 : (k : Int) < (n : Int) := by omega
   by_cases hc : shownC c = true
   ·
    have hc' : 32 ≤ c.toNat ∧ c.toNat ≤ 126 := by simpa [shownC] using hc
    have HA2 : Hid ((l.take (k + 1)).all shownC = true) := by
     show _ = _
     rw [htk, List.all_append, HA.out, List.all_cons, hc]
     rfl
    obtain ⟨N, hN⟩ : ∃ N : Int, (c.toNat : Int) = N := ⟨_, rfl⟩
    rw [hN] at hb
    have n1 : 32 ≤ N := by omega
    have n2 : N ≤ 126 := by omega
    have PB : (decide (32 ≤ N) && decide (N ≤ 126)) = true := by simp; omega
    clear hN hc hc' hb0 htk hcc HA
    go_wp2_with (go_at_call 80; refine (plainByteI N _ _ PB).mono ?_; rintro e w' ⟨rfl, rfl⟩)
    go_round
    case rel => exact ⟨k + 1, by omega, by go_num, HA2⟩
    case measure => simp [intOf]; omega
   ·
    have HF : Hid (plainB l = false) := by
     show _ = _
     have hm : c ∈ l := by
      have : c ∈ l.take (k + 1) := by rw [htk]; simp
      exact List.mem_of_mem_take this
     have hf : l.all shownC = false := by
      cases hq : l.all shownC with
      | false => rfl
      | true => exact absurd ((List.all_eq_true.1 hq) c hm) hc
     unfold plainB
     rw [hf]
    have hc' : c.toNat < 32 ∨ 126 < c.toNat := by
     have : ¬ (32 ≤ c.toNat ∧ c.toNat ≤ 126) := by simpa [shownC] using hc
     omega
    obtain ⟨N, hN⟩ : ∃ N : Int, (c.toNat : Int) = N := ⟨_, rfl⟩
    rw [hN] at hb
    have n1 : N < 32 ∨ 126 < N := by omega
    have PB : (decide (32 ≤ N) && decide (N ≤ 126)) = false := by simp; omega
    clear hN hc hc' hb0 htk hcc HA
    go_wp2_with (go_at_call 80; refine (plainByteI N _ _ PB).mono ?_; rintro e w' ⟨rfl, rfl⟩)
    go_ret
    exact ⟨ret_bool (by rw [HF.out]), rfl⟩
  ·
   obtain rfl : k = n := by omega
   have HT : Hid (plainB l = true) := by
    show _ = _
    have h1 := HA.out
    rw [List.take_of_length_le (by rw [HN.out]; omega)] at h1
    exact h1
   clear HA
   go_wp2_with fail
   go_ret
   exact ⟨ret_bool (by rw [HT.out]), rfl⟩

set_option maxRecDepth 8000 in
set_option maxHeartbeats 1000000 in
theorem printS (m : Nat) (l : List UInt8) (w : World) (hl : l.length ≤ 2000000) : Calls Tryz.prog 51 #[sV l, .int .i64 (m : Int)] w fun e w' => e = .returned (.bool (printN m l)) ∧ w' = w := by
 obtain ⟨s, hs⟩ : ∃ s : ByteArray, (⟨l.toArray⟩ : ByteArray) = s := ⟨_, rfl⟩
 have hsl : s.data.toList = l := by rw [← hs]
 have hsz := size_ofL' hsl
 show Calls Tryz.prog 51 #[.string ⟨l.toArray⟩, .int .i64 (m : Int)] w _
 rw [hs]
 clear hs
 obtain ⟨n, hn⟩ : ∃ n, l.length = n := ⟨_, rfl⟩
 have HN : Hid (l.length = n) := hn
 have HS : Hid (s.data.toList = l) := hsl
 rw [hn] at hl hsz
 clear hn hsl
 go_enter Tryz.func51, Tryz.ntmps51
 go_wp2_with fail
 go_loop [5] (fun i => ∃ k : Nat, k ≤ n ∧ i = .int .i64 k ∧ Hid ((l.take k).all shownC = true)) (fun i => n - (intOf i).toNat)
 case atStart => exact ⟨0, by omega, rfl, by show _ = _; simp⟩
 case round =>
  obtain ⟨k, hk, rfl, HA⟩ := hrel
  by_cases hlt : k < n
  ·
   have hks : k < s.size := by omega
   have hb0 := byte_atA HS.out hks
   have htk := take_at (l := l) (i := k) (by rw [HN.out]; exact hlt)
   obtain ⟨c, hcc⟩ : ∃ c, l.getD k 0 = c := ⟨_, rfl⟩
   rw [hcc] at hb0 htk
   have hb : ((s[k]'hks).toNat : Int) = (c.toNat : Int) := by rw [hb0]
   have i2 : (k : Int) < (n : Int) := by omega
   by_cases hc : shownC c = true
   ·
    have hc' : 32 ≤ c.toNat ∧ c.toNat ≤ 126 := by simpa [shownC] using hc
    have HA2 : Hid ((l.take (k + 1)).all shownC = true) := by
     show _ = _
     rw [htk, List.all_append, HA.out, List.all_cons, hc]
     rfl
    obtain ⟨N, hN⟩ : ∃ N : Int, (c.toNat : Int) = N := ⟨_, rfl⟩
    rw [hN] at hb
    have n1 : 32 ≤ N := by omega
    have n2 : N ≤ 126 := by omega
    clear hN hc hc' hb0 htk hcc HA
    go_wp2_with fail
    go_round
    case rel => exact ⟨k + 1, by omega, by go_num, HA2⟩
    case measure => simp [intOf]; omega
   ·
    have HF : Hid (printN m l = false) := by
     show _ = _
     have hm : c ∈ l := by
      have : c ∈ l.take (k + 1) := by rw [htk]; simp
      exact List.mem_of_mem_take this
     have hf : l.all shownC = false := by
      cases hq : l.all shownC with
      | false => rfl
      | true => exact absurd ((List.all_eq_true.1 hq) c hm) hc
     unfold printN
     rw [hf]
     rfl
    have hc' : c.toNat < 32 ∨ 126 < c.toNat := by
     have : ¬ (32 ≤ c.toNat ∧ c.toNat ≤ 126) := by simpa [shownC] using hc
     omega
    obtain ⟨N, hN⟩ : ∃ N : Int, (c.toNat : Int) = N := ⟨_, rfl⟩
    rw [hN] at hb
    have n1 : N < 32 ∨ 126 < N := by omega
    clear hN hc hc' hb0 htk hcc HA
    rcases n1 with n1 | n1
    ·
     go_wp2_with fail
     go_ret
     exact ⟨ret_bool (by rw [HF.out]), rfl⟩
    ·
     have n2 : 32 ≤ N := by omega
     go_wp2_with fail
     go_ret
     exact ⟨ret_bool (by rw [HF.out]), rfl⟩
  ·
   obtain rfl : k = n := by omega
   have HT : Hid (printN m l = decide ((k : Int) ≤ (m : Int))) := by
    show _ = _
    have h1 := HA.out
    rw [List.take_of_length_le (by rw [HN.out]; omega)] at h1
    unfold printN
    rw [h1, HN.out]
    simp
   clear HA
   go_wp2_with fail
   go_ret
   exact ⟨ret_bool (by rw [HT.out]; simp), rfl⟩

/-- TRUE or FALSE. -/
def boolB (l : List UInt8) : Bool := (l == [84, 82, 85, 69]) || (l == [70, 65, 76, 83, 69])
set_option maxHeartbeats 1000000 in
theorem boolI (l : List UInt8) (w : World) : Calls Tryz.prog 60 #[sV l] w fun e w' => e = .returned (.bool (boolB l)) ∧ w' = w := by
 obtain ⟨p, hp⟩ : ∃ p, (l == [84, 82, 85, 69]) = p := ⟨_, rfl⟩
 obtain ⟨q, hq⟩ : ∃ q, (l == [70, 65, 76, 83, 69]) = q := ⟨_, rfl⟩
 have e : boolB l = (p || q) := by unfold boolB; rw [hp, hq]
 rw [e]
 clear e
 cases p <;> cases q
 all_goals
  go_enter Tryz.func60, Tryz.ntmps60
  go_wp2_with fail
  go_ret
  exact ⟨rfl, rfl⟩

end Go.Proofs.YtgpfddneablcpaaGreatDoor

