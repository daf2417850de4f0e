/-
  Several texts in one: E9, E10, E5, E16.
-/
import Derived.Test.YtbomplppgobkdaaGreatDoorMg38
import Derived.Test.YtbomplppgobkdaaGreatDoorMg37
import Derived.Test.YtbomplppgobkdaaGreatDoorMg39
import Derived.Test.YtbomplppgobkdaaGreatDoorShelb
import Derived.Sort.Grow
import Derived.Deep.Draws
import Derived.Test.YtbomplppgobkdaaGreatDoorMg33
namespace Go.Proofs.YtbomplppgobkdaaGreatDoor
open Go.RowKit Go.Sort Go.Shelf

theorem grown_of {a w : World} (h : Ext a w) (h6 : a.drawn ≤ w.drawn) : ∃ q os, w = grow (a.drewN q) os := by
  obtain ⟨h1, h2, h3, h4, h5⟩ := h
  refine ⟨w.drawn - a.drawn, w.heap.extract a.heap.size w.heap.size, ?_⟩
  obtain ⟨heap, tape, drawn, os, output⟩ := w
  simp only at h1 h2 h3 h4 h5 h6
  subst h1 h2 h3
  unfold grow World.drewN
  simp only [World.mk.injEq, and_true, true_and]
  refine ⟨?_, by omega⟩
  apply Array.ext_getElem?
  intro i
  rw [Array.getElem?_append]
  split
  · rename_i hi; exact h5 i hi
  · rename_i hi
    rw [Array.getElem?_extract]
    rcases Nat.lt_or_ge i heap.size with hlt | hge
    · rw [if_pos (by omega)]
      congr 1
      omega
    · rw [if_neg (by omega), Array.getElem?_eq_none hge]
set_option maxHeartbeats 1000000 in
theorem compareGI (a b u v : Value) (la lb : List VT) (w : World) (ha : ValsIn w a la) (hb : ValsIn w b lb) (ra : ∀ e ∈ la, e.room) (rb : ∀ e ∈ lb, e.room) (l1 : la.length ≤ 2000) (l2 : lb.length ≤ 2000) (hT : Tens w) (hE : ErrTab w) :
    Calls Tryz.prog 34 #[.agg #[a, u], .agg #[b, v]] w fun e w' => e = .returned (.int .i64 (lexG la lb)) ∧ Ext w w' := by
  obtain ⟨u0, u1, h0, h1, s0, s1, B0, B1, X⟩ := mkB2 w [a, u] [b, v] 73 73
  have CC := cmpListI a b la lb u1 (ha.later X) (hb.later X) ra rb l1 l2 (hT.later X) (hE.later X)
  have a0 := (B0 0 _ rfl).1
  have b0 := (B1 0 _ rfl).1
  obtain ⟨Q, hQ⟩ : ∃ Q, lexG la lb = Q := ⟨_, rfl⟩
  rw [hQ] at CC ⊢
  clear ha hb ra rb hT hE hQ
  go_enter Tryz.func34, Tryz.ntmps34
  go_wp2_with fail
  refine CC.mono ?_
  rintro e w1 ⟨rfl, e1⟩
  go_wp2_with fail
  go_ret
  exact ⟨rfl, xt X e1⟩
/-- A group whose keys lie elsewhere than in a block. -/
def GrOK (w : World) (blk : Nat) (g : GG) : Prop :=
  (∃ p cap, g.kv = .slice p g.K.length cap ∧ g.K.length ≤ cap ∧ (0 < g.K.length → ∃ b o, p = some ⟨b, o, none⟩ ∧ b ≠ blk ∧ RowV w b o g.K)) ∧ (∀ e ∈ g.K, e.good = true ∧ e.room) ∧ g.K.length ≤ 2000
abbrev GS (w : World) (blk : Nat) := { g : GG // GrOK w blk g }
instance inhGS (w : World) (blk : Nat) : Inhabited (GS w blk) := ⟨⟨⟨.slice none 0 0, [], ⟨0, 0, []⟩⟩, ⟨none, 0, rfl, Nat.le_refl _, fun h => absurd h (by decide)⟩, (fun e he => by cases he), by decide⟩⟩
def encG {w : World} {blk : Nat} (x : GS w blk) : List Value := [x.1.kv, x.1.e.sl]
def cfG {w : World} {blk : Nat} (x y : GS w blk) : Int := lexG x.1.K y.1.K
theorem gs_good {w : World} {blk : Nat} (x : GS w blk) : ∀ e ∈ x.1.K, e.good = true := fun e he => (x.2.2.1 e he).1
theorem cfG_swap {w : World} {blk : Nat} (x y : GS w blk) : cfG y x = -cfG x y := lexG_swap _ _ (gs_good x) (gs_good y)
theorem cfG_trans {w : World} {blk : Nat} (x y z : GS w blk) (h : cfG x y ≤ 0) (k : cfG y z ≤ 0) : cfG x z ≤ 0 := lexG_trans _ _ _ (gs_good x) (gs_good y) (gs_good z) h k
theorem cfG_lt {w : World} {blk : Nat} (x y : GS w blk) : ltOf cfG x y = true ↔ cfG x y < 0 := by unfold ltOf; simp
theorem cfG_nlt {w : World} {blk : Nat} (x y : GS w blk) : ltOf cfG x y = false ↔ 0 ≤ cfG x y := by unfold ltOf; simp
theorem swoG (w : World) (blk : Nat) : SWO (ltOf (cfG (w := w) (blk := blk))) where
  irrefl x := by
    rw [cfG_nlt]
    have := cfG_swap x x
    omega
  trans x y z h1 h2 := by
    rw [cfG_lt] at *
    have t1 := cfG_trans x y z (by omega) (by omega)
    have s1 := cfG_swap x y
    have s3 := cfG_swap x z
    by_cases e : cfG x z = 0
    · have := cfG_trans y z x (by omega) (by omega)
      omega
    · omega
  ntrans x y z h1 h2 := by
    rw [cfG_nlt] at *
    have s1 := cfG_swap x y
    have s2 := cfG_swap y z
    have s3 := cfG_swap x z
    have := cfG_trans z y x (by omega) (by omega)
    omega

end Go.Proofs.YtbomplppgobkdaaGreatDoor

namespace Go.Proofs.YtbomplppgobkdaaGreatDoor
open Go.RowKit Go.Sort Go.Shelf

theorem flatG_at : ∀ (l : List GG) (i : Nat) (g : GG), l[i]? = some g → (l.flatMap GG.cells)[i * 2]? = some g.kv ∧ (l.flatMap GG.cells)[i * 2 + 1]? = some g.e.sl
  | [], i, g, h => by simp at h
  | x :: l, 0, g, h => by
    have : x = g := by simpa using h
    subst this
    simp
  | x :: l, i + 1, g, h => by
    have := flatG_at l i g (by simpa using h)
    rw [List.flatMap_cons, show (i + 1) * 2 = i * 2 + 1 + 1 by omega]
    simpa using this
theorem flatG_length (l : List GG) : (l.flatMap GG.cells).length = l.length * 2 := by
  induction l with
  | nil => rfl
  | cons x l ih => rw [List.flatMap_cons, List.length_append, ih, List.length_cons]; simp; omega
theorem flat_flatG {w : World} {blk : Nat} (L : List (GS w blk)) : flatK encG 2 L.toArray = ((L.map (·.1)).flatMap GG.cells).toArray := by
  apply Array.ext
  · rw [size_flatK, List.size_toArray, List.size_toArray, flatG_length, List.length_map]
  · intro i h1 h2
    have hi : i < L.length * 2 := by simpa using h1
    have hq : i / 2 < L.length := by omega
    have e1 := get_flatK encG 2 L.toArray i (by simpa using hi)
    rw [getElem!_pos _ i h1] at e1
    rw [e1]
    have e3 : L.toArray[i / 2]! = L[i / 2] := by rw [getElem!_pos _ _ (by simpa using hq)]; simp
    rw [e3]
    obtain ⟨f0, f1⟩ := flatG_at (L.map (·.1)) (i / 2) L[i / 2].1 (by rw [List.getElem?_map, List.getElem?_eq_getElem hq]; rfl)
    have h3 : i < ((L.map (·.1)).flatMap GG.cells).length := by simpa using h2
    rcases (by omega : i % 2 = 0 ∨ i % 2 = 1) with e | e
    · rw [show i / 2 * 2 = i by omega, List.getElem?_eq_getElem h3] at f0
      rw [e]
      have := Option.some.inj f0
      show (encG L[i / 2])[0]! = _
      simp only [encG]
      rw [List.getElem_toArray, this]
      rfl
    · rw [show i / 2 * 2 + 1 = i by omega, List.getElem?_eq_getElem h3] at f1
      rw [e]
      have := Option.some.inj f1
      show (encG L[i / 2])[1]! = _
      simp only [encG]
      rw [List.getElem_toArray, this]
      rfl
theorem cell_block {w W : World} {b o : Nat} (h : W.heap[b]? = w.heap[b]?) : W.cell? ⟨b, o, none⟩ = w.cell? ⟨b, o, none⟩ := by
  unfold World.cell?
  simp only [h]
theorem sw_block {w : World} {blk : Nat} {m : Nat} {os : Array Obj} {dk : Array (GS w blk)} {b : Nat} (hb : b < w.heap.size) (hne : b ≠ blk) : (sortWorldK encG 2 w blk 0 m dk os).heap[b]? = w.heap[b]? := by
  show (w.heap.modify blk (onCells (putCells id 0 (flatK encG 2 dk))) ++ os)[b]? = _
  rw [Array.getElem?_append_left (by simpa using hb), Array.getElem?_modify, if_neg (Ne.symm hne)]
theorem cmpLaysG (w0 w : World) (blk size : Nat) (X : Ext w0 w) (hb : w0.heap.size ≤ blk) (hT : Tens w0) (hE : ErrTab w0) : CmpLays Tryz.prog 34 #[] encG 2 (cfG (w := w) (blk := blk)) blk 0 size w := by
  intro m os dk hs x y
  obtain ⟨W, hW⟩ : ∃ W, sortWorldK encG 2 w blk 0 m dk os = W := ⟨_, rfl⟩
  have hblk : ∀ b, b < w.heap.size → b ≠ blk → W.heap[b]? = w.heap[b]? := fun b h1 h2 => by rw [← hW]; exact sw_block h1 h2
  have XW : Ext w0 W := by
    refine ⟨?_, ?_, ?_, ?_, ?_⟩
    · rw [← hW]; exact X.os
    · rw [← hW]; exact X.tape
    · rw [← hW]; exact X.output
    · rw [← hW]
      show w0.heap.size ≤ (w.heap.modify blk (onCells (putCells id 0 (flatK encG 2 dk))) ++ os).size
      have := X.size
      simp
      omega
    · intro k hk
      rw [hblk k (Nat.lt_of_lt_of_le hk X.size) (by omega)]
      exact X.block k hk
  have hv : ∀ z : GS w blk, ValsIn W z.1.kv z.1.K := fun z => by
    obtain ⟨p, cap, h1, h2, h3⟩ := z.2.1
    refine ⟨p, cap, h1, h2, fun h0 => ?_⟩
    obtain ⟨b, o, h4, h5, h6⟩ := h3 h0
    refine ⟨b, o, h4, fun i e hi c u hc => ?_⟩
    have h7 := h6 i e hi c u hc
    have hlt : b < w.heap.size := by
      rcases Nat.lt_or_ge b w.heap.size with q | q
      · exact q
      · unfold World.cell? at h7
        simp only [Array.getElem?_eq_none q] at h7
        cases h7
    rw [cell_block (hblk b hlt h5)]
    exact h7
  rw [hW]
  have C := compareGI x.1.kv y.1.kv x.1.e.sl y.1.e.sl x.1.K y.1.K W (hv x) (hv y) (fun e he => (x.2.2.1 e he).2) (fun e he => (y.2.2.1 e he).2) x.2.2.2 y.2.2.2 (hT.later XW) (hE.later XW)
  have C2 := Calls.drawn (v := fun _ => .int .i64 (lexG x.1.K y.1.K)) C
  exact C2.mono fun e w' h => ⟨h.1, grown_of h.2.1 h.2.2⟩

set_option maxHeartbeats 1000000 in
theorem sortGI (v : Value) (l : List GG) (base : Nat) (w0 w : World) (h : OwnG w base v l) (hl : l.length ≤ 4000000) (X : Ext w0 w) (hb0 : w0.heap.size ≤ base) (hT : Tens w0) (hE : ErrTab w0) (hok : ∀ g, v.ownBlock = some g → ∀ x ∈ l, GrOK w g x) :
    Calls Tryz.prog 33 #[v, .func (.func 34) #[] #[]] w fun e w' => e = .returned (.tuple #[]) ∧ ∃ l' : List GG, l'.Perm l ∧ l'.Pairwise (fun x y => 0 ≤ lexG y.K x.K) ∧ OwnG w' base v l' ∧ w.grownBy w' v.ownBlock := by
  have hO := h
  obtain ⟨hfl, h⟩ := h
  rcases h with ⟨rfl, h0⟩ | ⟨g, cap, cur, rfl, hb, hg, hc, hm, hcs, ht⟩
  · have : l = [] := List.eq_nil_of_length_eq_zero h0
    subst this
    refine (AnyF.slices_SortFunc_none laySortF none 0 _ w).mono ?_
    rintro e w' ⟨rfl, rfl⟩
    exact ⟨rfl, [], List.Perm.nil, .nil, hO, ⟨rfl, rfl, rfl, Nat.le_refl _, fun _ _ _ => rfl⟩⟩
  · have hlt : g < w.heap.size := by
      rcases Nat.lt_or_ge g w.heap.size with h' | h'
      · exact h'
      · rw [Array.getElem?_eq_none h'] at hg; cases hg
    have eg : ∀ args w, (callFunc 34 args).run Tryz.prog w = .ok (.enter 34 args) w := enters_of Tryz.func34 (by kernel_rfl) rfl
    obtain ⟨L, hL⟩ : ∃ L : List (GS w g), L.map (·.1) = l := by
      refine ⟨l.pmap (fun x hx => ⟨x, hx⟩) (hok g rfl), ?_⟩
      rw [List.map_pmap]
      simp
    subst hL
    rw [List.length_map] at *
    have hH : HoldsK encG 2 w g 0 L.toArray := by
      intro j hj
      rw [size_flatK] at hj
      rw [flat_flatG, Nat.zero_add]
      have hj' : j < ((L.map (·.1)).flatMap GG.cells).length := by rw [flatG_length, List.length_map]; simpa using hj
      have hjc : j < cur.size := by rw [hcs]; simp at hj; omega
      have e1 : cur[j]? = some ((L.map (·.1)).flatMap GG.cells)[j] := by
        rw [← List.getElem?_eq_getElem hj', ← ht, List.getElem?_take, if_pos (by simpa using hj)]
        simp
      refine ⟨?_, ?_⟩
      · unfold World.cell?
        simp only [hg]
        rw [getElem!_pos _ _ (by simpa using hj')]
        simpa using e1
      · unfold World.frozen?
        simp only [hg]
        simp
    have hcon := AnyQ.slices_SortFunc laySortF 2 Tryz.isAgg73 Tryz.sizeOf73 encG (fun _ => rfl) (fun x u hu => by
      obtain ⟨p, cap, h1, _⟩ := x.2.1
      simp [encG] at hu
      rcases hu with rfl | rfl
      · rw [h1]; rfl
      · rfl) cfG (swoG w g) 34 #[] g 0 cap L.toArray w eg (cmpLaysG w0 w g _ X (by omega) hT hE) hH hlt (by simp; omega)
    have hs : L.toArray.size = L.length := by simp
    rw [hs] at hcon
    refine hcon.mono ?_
    rintro e w' ⟨rfl, d', n, os, hp, hsrt, rfl⟩
    obtain ⟨p1, _, p3⟩ := hp
    rw [hs] at p1
    have hd : d'.extract 0 L.length = d' := by rw [← p1]; simp
    have hl2 : L.toArray.extract 0 L.length = L.toArray := by simp
    rw [hd, hl2] at p3
    have hlen : d'.toList.length = L.length := by simpa using p1
    have hdd : d' = d'.toList.toArray := by simp
    have p4 : d'.toList.Perm L := by simpa using p3
    refine ⟨rfl, d'.toList.map (·.1), p4.map _, ?_, ?_, ?_⟩
    · rw [List.pairwise_map, List.pairwise_iff_getElem]
      intro i j hi hj hij
      have := hsrt i j (Nat.zero_le _) hij (by simpa [p1] using hj)
      rw [getElem!_pos _ _ (by simpa using hj), getElem!_pos _ _ (by simpa using hi)] at this
      have := (cfG_nlt _ _).1 this
      simpa [cfG] using this
    · have hblk : (sortWorldK encG 2 w g 0 n d' os).heap[g]? = some (.cells (putCells id 0 ((d'.toList.map (·.1)).flatMap GG.cells).toArray cur) 73 (0, 0)) := by
        show (w.heap.modify g (onCells (putCells id 0 (flatK encG 2 d'))) ++ os)[g]? = _
        have e5 := flat_flatG d'.toList
        rw [← hdd] at e5
        rw [e5]
        rw [Array.getElem?_append_left (by simpa using hlt), Array.getElem?_modify, if_pos rfl, hg]
        simp [onCells]
      have hlm : (d'.toList.map (·.1)).length = L.length := by rw [List.length_map, hlen]
      refine ⟨by rw [flatG_length], .inr ⟨g, cap, _, by rw [hlm], hb, hblk, by rw [hlm]; exact hc, hm, by unfold putCells; simpa using hcs, ?_⟩⟩
      apply List.ext_getElem?
      intro i
      rw [hlm, List.getElem?_take]
      have hfl' : ((d'.toList.map (·.1)).flatMap GG.cells).length = L.length * 2 := by rw [flatG_length, hlm]
      split
      · rename_i hi
        have hi' : i < ((d'.toList.map (·.1)).flatMap GG.cells).length := by omega
        have hic : i < cur.size := by rw [hcs]; omega
        unfold putCells
        rw [Array.getElem?_toList, Array.getElem?_mapIdx, Array.getElem?_eq_getElem hic, List.getElem?_eq_getElem hi']
        simp only [Option.map_some, id]
        rw [if_pos ⟨Nat.zero_le _, by simpa using hi'⟩, Nat.sub_zero, getElem!_pos _ _ (by simpa using hi')]
        simp
      · rename_i hi
        rw [List.getElem?_eq_none (by omega)]
    · refine ⟨rfl, rfl, rfl, ?_, fun i hi hne => ?_⟩
      · show w.heap.size ≤ (w.heap.modify g (onCells (putCells id 0 (flatK encG 2 d'))) ++ os).size
        simp
      · have hne : i ≠ g := fun q => hne (by rw [q]; rfl)
        exact sw_block hi hne

end Go.Proofs.YtbomplppgobkdaaGreatDoor

namespace Go.Proofs.YtbomplppgobkdaaGreatDoor
open Go.RowKit

/-- Columns as numbers of their own. -/
def colN (cl : List Int) : List Nat := cl.map Int.toNat
theorem colN_length (cl : List Int) : (colN cl).length = cl.length := by simp [colN]
/-- The first cells of a row in some columns. -/
def keyT (l : List VT) (c : Nat) (cl : List Int) (row k : Nat) : List VT := keyG l c ((colN cl).take k) row
theorem keyT_all (l : List VT) (c : Nat) (cl : List Int) (row : Nat) : keyT l c cl row cl.length = keyG l c (colN cl) row := by
  unfold keyT
  rw [List.take_of_length_le (by rw [colN_length]; exact Nat.le_refl _)]
theorem keyT_length (l : List VT) (c : Nat) (cl : List Int) (row : Nat) {k : Nat} (hk : k ≤ cl.length) : (keyT l c cl row k).length = k := by
  unfold keyT
  rw [keyG_length, List.length_take, colN_length]
  omega
theorem keyT_succ (l : List VT) (c : Nat) (cl : List Int) (row : Nat) {k y : Nat} (hk : k < cl.length) (hy : cl.getD k 0 = (y : Int) + 1) : keyT l c cl row (k + 1) = keyT l c cl row k ++ [cel l (row * c + y)] := by
  unfold keyT keyG
  have h1 : (colN cl)[k]? = some (y + 1) := by
    unfold colN
    rw [List.getElem?_map, getD_at hk, hy]
    simp only [Option.map_some]
    congr 1
  rw [List.take_add_one, h1, List.map_append]
  simp
set_option maxRecDepth 8000 in
set_option maxHeartbeats 2000000 in
theorem cellsInI (r c : Nat) (v u : Value) (l : List VT) (cl : List Int) (row : Nat) (w : World) (h : ValsIn w v l) (hl : l.length = r * c) (h2 : l.length ≤ 2000) (hr : row < r) (hu : IntsIn w u cl) (hc6 : cl.length ≤ 6) (hcl : ∀ k, k < cl.length → 1 ≤ cl.getD k 0 ∧ cl.getD k 0 ≤ c) (hc : c ≤ 2000) :
    Calls Tryz.prog 30 #[grV r c v, .int .i64 row, u] w fun e w' => ∃ sv, e = .returned sv ∧ OwnW w' w.heap.size sv (keyG l c (colN cl) row) ∧ Ext w w' := by
  have AT : Hid (∀ (W : World) (j : Nat), ValsIn W v l → j < c → Calls Tryz.prog 51 #[grV r c v, .int .i64 row, .int .i64 j] W fun e w' => e = .returned (cel l (row * c + j)).val ∧ Ext W w') := fun W j hW hj => atI r c v l row j W hW h2 (by rw [hl]; exact place_lt hr hj)
  have HV : Hid (ValsIn w v l) := h
  obtain ⟨p0, cap, rfl, hcap, hi⟩ := hu
  obtain ⟨n, hn⟩ : ∃ n, cl.length = n := ⟨_, rfl⟩
  have HN : Hid (cl.length = n) := hn
  have HC : Hid (∀ k, k < cl.length → 1 ≤ cl.getD k 0 ∧ cl.getD k 0 ≤ c) := hcl
  rw [hn] at hcap hi hc6 ⊢
  have HI : Hid (0 < n → ∃ b o, p0 = some ⟨b, o, none⟩ ∧ ∀ i, i < n → w.cell? ⟨b, o + i, none⟩ = some (.int .i64 (cl.getD i 0))) := hi
  have X0 := x1 w (.cells #[.int .i64 r, .int .i64 c, v] 25)
  have B0 := vec_made w [.int .i64 r, .int .i64 c, v] 25
  have S0 : (w.alloc (.cells #[.int .i64 r, .int .i64 c, v] 25)).heap.size = w.heap.size + 1 := by rw [World.size_alloc]
  obtain ⟨u0, hu0⟩ : ∃ u, w.alloc (.cells #[.int .i64 r, .int .i64 c, v] 25) = u := ⟨_, rfl⟩
  change Vec (w.alloc (.cells #[.int .i64 r, .int .i64 c, v] 25)) _ _ at B0
  rw [hu0] at X0 B0 S0
  clear h hl h2 hi hcl hn
  go_enter Tryz.func30, Tryz.ntmps30
  go_wp2_with fail
  go_loopw [7, 12] (fun s i wr => ∃ (k m cc : Nat) (p : Option Addr), k ≤ n ∧ i = .int .i64 k ∧ s = .slice p m cc ∧ Hid (OwnW wr (w.heap.size + 1) (.slice p m cc) (keyT l c cl row k) ∧ Ext u0 wr)) (fun _ i _ => n - (intOf i).toNat)
  case atStart => exact ⟨0, 0, 0, none, by omega, rfl, rfl, World.ownsRow_nil _ _ _ _, xr _⟩
  case round =>
    obtain ⟨k, m, cc, p, hk, rfl, rfl, HO⟩ := hrel
    by_cases hlt : k < n
    · have i2 : (k : Int) < (n : Int) := by omega
      have kc : (k : Int) ≤ (cap : Int) := by omega
      obtain ⟨b, o, e, hcc⟩ := HI.out (by omega)
      have c1 := cell_later (xt X0 HO.out.2) (hcc k hlt)
      subst e
      have hkk := HC.out k (by rw [HN.out]; exact hlt)
      obtain ⟨y, hy⟩ : ∃ y : Nat, cl.getD k 0 = (y : Int) + 1 := ⟨(cl.getD k 0 - 1).toNat, by omega⟩
      have HY : Hid (cl.getD k 0 = (y : Int) + 1) := hy
      rw [hy] at c1 hkk
      have CA := AT.out wr y (HV.out.later (xt X0 HO.out.2)) (by omega)
      have y1 : (y : Int) + 1 - 1 = (y : Int) := by omega
      have y2 : (y : Int) ≤ 2000000 := by omega
      obtain ⟨⟨ek, en, ed, ex, et⟩, he⟩ : ∃ e, cel l (row * c + y) = e := ⟨_, rfl⟩
      rw [he] at CA
      have HE : Hid (cel l (row * c + y) = ⟨ek, en, ed, ex, et⟩) := he
      obtain ⟨a0, a1, a2⟩ := Vec.three (B0.later HO.out.2)
      clear he hy hcc
      go_wp2_with fail
      refine CA.mono ?_
      rintro z w1 ⟨rfl, e1⟩
      have OQ : Hid (OwnW w1 (w.heap.size + 1) (.slice p m cc) (keyT l c cl row k)) := ownW_later HO.out.1 e1
      have Y1 := xt HO.out.2 e1
      obtain ⟨inf, hi, hz, hz1, hz2⟩ := infoW
      have lk := keyT_length l c cl row (k := k) (by rw [HN.out]; exact hk)
      have hs1 : w.heap.size + 1 ≤ w1.heap.size := by have := Y1.size; omega
      clear a0 a1 a2 CA HO
      go_wp2_with (at_builtin; refine wpList_append_own _ rfl _ _ 23 rfl (w.heap.size + 1) 50 inf (valV 0 false 0 0 []) 5 48 Tryz.underlying23 hi hz hz1 hz2 rfl (by decide) _ _ _ rfl (OQ.out.alloc _) ⟨w1.heap.size, 0, none⟩ 1 1 [.int .i64 ek, .bool en, .int .i64 ed, .int .i64 ex, sV et] rfl rfl (World.news_of_block (heap_alloc_new _ _)) (by simp [Value.oneCell']) (by simp only [maxLen, lk]; omega) (by rw [lk]; omega) (by simp; omega) ?_)
      intro v7 wC ownC gC _
      have lb := ownW_block OQ.out
      have Y5 : Ext u0 wC := (xa Y1 _).grown gC (xa Y1 _).size (fun r hr => by have := lb r hr; omega)
      have OC : OwnW wC (w.heap.size + 1) v7 (keyT l c cl row (k + 1)) := by
        rw [keyT_succ l c cl row (by rw [HN.out]; exact hlt) HY.out, HE.out]
        show World.ownsRow _ _ _ _ _ _ _
        rw [flatV_append, List.length_append, lk]
        exact ownC
      obtain ⟨p7, n7, c7, rfl⟩ := ownW_slice OC
      have HM : Hid (OwnW wC (w.heap.size + 1) (.slice p7 n7 c7) (keyT l c cl row (k + 1)) ∧ Ext u0 wC) := ⟨OC, Y5⟩
      clear ownC gC lb OQ Y1 hi hz hz1 hz2 Y5 OC
      go_wp2_with fail
      go_roundw
      case rel => exact ⟨k + 1, n7, c7, p7, by omega, by go_num, rfl, HM⟩
      case measure => simp [intOf]; omega
    · obtain rfl : k = n := by omega
      have i2 : ¬ (k : Int) < (k : Int) := by omega
      have HF : Hid (OwnW wr w.heap.size (.slice p m cc) (keyG l c (colN cl) row)) := by
        have := ownW_base HO.out.1 (Nat.le_succ w.heap.size)
        rw [← HN.out, keyT_all] at this
        exact this
      go_wp2_with fail
      go_ret
      exact ⟨_, rfl, HF.out, xt X0 HO.out.2⟩

theorem quad_fill (t : List VT) (x : VT) (h : t.length < 4) : (quadOf (t ++ [x])).cells = (((((quadOf t).cells.set (t.length * 5) (.int .i64 x.k)).set (t.length * 5 + 1) (.bool x.n)).set (t.length * 5 + 2) (.int .i64 x.d)).set (t.length * 5 + 3) (.int .i64 x.x)).set (t.length * 5 + 4) (sV x.t) := by
  match t, h with
  | [], _ => rfl
  | [a], _ => rfl
  | [a, b], _ => rfl
  | [a, b, c], _ => rfl
  | _ :: _ :: _ :: _ :: _, h => exact absurd h (by simp)
/-- Whether rows are put together at all. -/
def grpB (r c : Int) (l : List VT) (cl : List Int) : Bool := goodG r c l && decide (cl.length ≤ 4) && onceB c cl
theorem grpB_cols {r c : Int} {l : List VT} {cl : List Int} (h : grpB r c l cl = true) : goodG r c l = true ∧ cl.length ≤ 4 ∧ onceB c cl = true ∧ ∀ k, k < cl.length → 1 ≤ cl.getD k 0 ∧ cl.getD k 0 ≤ c := by
  unfold grpB at h
  rw [Bool.and_eq_true, Bool.and_eq_true] at h
  obtain ⟨⟨h1, h2⟩, h3⟩ := h
  refine ⟨h1, of_decide_eq_true h2, h3, fun k hk => ?_⟩
  unfold onceB at h3
  have h4 := List.all_eq_true.1 h3 k (by simpa using hk)
  unfold okAt at h4
  rw [Bool.and_eq_true] at h4
  have h5 : ¬ (cl.getD k 0 < 1 ∨ c < cl.getD k 0) := by simpa using h4.1
  omega

end Go.Proofs.YtbomplppgobkdaaGreatDoor

