/-
  Several texts in one: Qb, Qc, Qd, Fb, V6p, V6n, Wide, WideB, WideC, WideD.
-/
import Derived.Test.YtjlephnmofhjaaaDoorMg7
import Derived.Lib.SlKept
import Derived.Shelf.SlicesE.Compact
import Derived.Lib.SliceRun
import Derived.Laws.IdiomCopy
import Derived.Test.YtjlephnmofhjaaaDoorMg1
import Derived.Test.YtjlephnmofhjaaaDoorMg5
import Derived.Test.YtjlephnmofhjaaaDoorMg4
import Derived.Test.YtjlephnmofhjaaaDoorMg0
import Derived.Lib.Bytealg
import Derived.Shelf.Bits.Mul64
import Derived.Deep.QuietTactic
import Derived.BigQuiet
import Derived.Deep.RegionWith
namespace Go.Proofs.YtjlephnmofhjaaaDoor
open Go.RowKit

/-- A cell by its place. -/
def cel (l : List VT) (k : Nat) : VT := l.getD k zeroVT
theorem cel_at {l : List VT} {k : Nat} (h : k < l.length) : l[k]? = some (cel l k) := by
 rw [List.getElem?_eq_getElem h]; simp [cel, h]
theorem cel_mem {l : List VT} {k : Nat} (h : k < l.length) : cel l k ∈ l := List.mem_of_getElem? (cel_at h)
set_option maxRecDepth 8000 in
set_option maxHeartbeats 2000000 in
theorem atI (r : Int) (c : Nat) (v : Value) (l : List VT) (i j : Nat) (w : World) (h : ValsIn w v l) (hl : l.length ≤ 2000) (hk : i * c + j < l.length) :
  Calls Tryd.prog 21 #[grV r c v, .int .i64 i, .int .i64 j] w fun e w' => e = .returned (cel l (i * c + j)).val ∧ Ext w w' := by
 obtain ⟨pp, cap, rfl, hcap, hrow⟩ := h
 have he := cel_at hk
 obtain ⟨e, hee⟩ : ∃ e, cel l (i * c + j) = e := ⟨_, rfl⟩
 rw [hee] at he ⊢
 obtain ⟨N, hN⟩ : ∃ N, l.length = N := ⟨_, rfl⟩
 obtain ⟨m, hm⟩ : ∃ m, i * c = m := ⟨_, rfl⟩
 have hm' : (i : Int) * (c : Int) = (m : Int) := by rw [← hm]; simp
 rw [hN] at hcap hl hk hrow ⊢
 rw [hm] at hk he
 obtain ⟨b, o, hpp, hrw⟩ := hrow (by omega)
 subst hpp
 have hmj : (m : Int) + (j : Int) = ((m + j : Nat) : Int) := by omega
 obtain ⟨q, hq⟩ : ∃ q, m + j = q := ⟨_, rfl⟩
 rw [hq] at hmj hk he
 have q1 : (q : Int) < (N : Int) := by omega
 have m0 : (m : Int) ≤ 2000 := by omega
 have j0 : (j : Int) ≤ 2000 := by omega
 obtain ⟨u0, u1, h0, h1, s0, s1, B0, B1, X⟩ := mkB2 w [.int .i64 r, .int .i64 c, .slice (some ⟨b, o, none⟩) N cap] [.int .i64 0, .bool false, .int .i64 0, .int .i64 0, sV []] 28 39
 obtain ⟨a0, a1, a2⟩ := Vec.three (B0)
 obtain ⟨d0, d1, d2, d3, d4⟩ := (hrw.later X).five he
 obtain ⟨wy, hy, FX, ⟨b0, b1, b2, b3, b4⟩, ⟨fb0, fb1, fb2, fb3, fb4⟩, fd0, fd1, fd2, fd3, fd4⟩ := fin5 B1 X (by omega) e.k e.n e.d e.x e.t
 clear hee hm hq hN hrow hrw he
 go_enter Tryd.func21, Tryd.ntmps21
 go_wp2_with fail
 exact bodyPost_ret (v := e.val) (by simp [results, Tryd.results21, go_sem, fd0, fd1, fd2, fd3, fd4]) rfl ⟨rfl, FX⟩

/-- A column, from the top on. -/
def colL (l : List VT) (c j n : Nat) : List VT := (List.range n).map fun i => cel l (i * c + j)
theorem colL_length (l : List VT) (c j n : Nat) : (colL l c j n).length = n := by simp [colL]
theorem colL_succ (l : List VT) (c j n : Nat) : colL l c j (n + 1) = colL l c j n ++ [cel l (n * c + j)] := by simp [colL, List.range_succ]
theorem colL_at (l : List VT) (c j n : Nat) {i : Nat} (hi : i < n) : (colL l c j n)[i]? = some (cel l (i * c + j)) := by simp [colL, hi]

theorem place_lt {i r c j : Nat} (hi : i < r) (hj : j < c) : i * c + j < r * c := by
 have : (i + 1) * c ≤ r * c := Nat.mul_le_mul_right c hi
 rw [Nat.add_mul, Nat.one_mul] at this
 omega
set_option maxRecDepth 8000 in
set_option maxHeartbeats 2000000 in
theorem columnI (r c : Nat) (v : Value) (l : List VT) (j : Nat) (w : World) (h : ValsIn w v l) (hl : l.length = r * c) (h2 : l.length ≤ 2000) (hj : j < c) (hr : r ≤ 2000) :
  Calls Tryd.prog 18 #[grV r c v, .int .i64 j] w fun e w' => ∃ sv, e = .returned sv ∧ OwnW w' w.heap.size sv (colL l c j r) ∧ Ext w w' := by
 have AT : Hid (∀ (W : World) (i : Nat), ValsIn W v l → i < r → Calls Tryd.prog 21 #[grV r c v, .int .i64 i, .int .i64 j] W fun e w' => e = .returned (cel l (i * c + j)).val ∧ Ext W w') := fun W i hW hi => atI r c v l i j W hW h2 (by rw [hl]; exact place_lt hi hj)
 have HV : Hid (ValsIn w v l) := h
 have X0 := x1 w (.cells #[.int .i64 r, .int .i64 c, v] 28)
 have B0 := vec_made w [.int .i64 r, .int .i64 c, v] 28
 have S0 : (w.alloc (.cells #[.int .i64 r, .int .i64 c, v] 28)).heap.size = w.heap.size + 1 := by rw [World.size_alloc]
 obtain ⟨u0, hu0⟩ : ∃ u, w.alloc (.cells #[.int .i64 r, .int .i64 c, v] 28) = u := ⟨_, rfl⟩
 change Vec (w.alloc (.cells #[.int .i64 r, .int .i64 c, v] 28)) _ _ at B0
 rw [hu0] at X0 B0 S0
 obtain ⟨a0, a1, a2⟩ := Vec.three B0
 clear h hl h2
 go_enter Tryd.func18, Tryd.ntmps18
 go_wp2_with fail
 clear a0 a1 a2
 go_loopw [5, 9] (fun s i wr => ∃ (k n cc : Nat) (p : Option Addr), k ≤ r ∧ i = .int .i64 k ∧ s = .slice p n cc ∧ Hid (OwnW wr (w.heap.size + 1) (.slice p n cc) (colL l c j k) ∧ Ext u0 wr)) (fun _ i _ => r - (intOf i).toNat)
 case atStart => exact ⟨0, 0, 0, none, by omega, rfl, rfl, World.ownsRow_nil _ _ _ _, xr _⟩
 case round =>
  obtain ⟨k, n, cc, p, hk, rfl, rfl, HO⟩ := hrel
  have B1 := B0.later HO.out.2
  by_cases hlt : k < r
  ·
   have i2 : (k : Int) < (r : Int) := by omega
   have CA := AT.out wr k (HV.out.later (xt X0 HO.out.2)) hlt
   obtain ⟨⟨ek, en, ed, ex, et⟩, he⟩ : ∃ e, cel l (k * c + j) = e := ⟨_, rfl⟩
   rw [he] at CA
   have HE : Hid (cel l (k * c + j) = ⟨ek, en, ed, ex, et⟩) := he
   obtain ⟨a0, a1, a2⟩ := Vec.three B1
   clear he
   go_wp2_with fail
   refine CA.mono ?_
   rintro z w1 ⟨rfl, e1⟩
   have OQ : Hid (OwnW w1 (w.heap.size + 1) (.slice p n cc) (colL l c j k)) := ownW_later HO.out.1 e1
   have Y1 := xt HO.out.2 e1
   obtain ⟨inf, hi, hz, hz1, hz2⟩ := infoW
   have lk := colL_length l c j k
   have hs1 : w.heap.size + 1 ≤ w1.heap.size := by have := Y1.size; omega
   clear a0 a1 a2 B1 CA HO
   go_wp2_with (at_builtin; refine wpList_append_own _ rfl _ _ 26 rfl (w.heap.size + 1) 39 inf (valV 0 false 0 0 []) 5 48 Tryd.underlying26 hi hz hz1 hz2 rfl (by decide) _ _ _ rfl (OQ.out.alloc _) ⟨w1.heap.size, 0, none⟩ 1 1 [.int .i64 ek, .bool en, .int .i64 ed, .int .i64 ex, sV et] rfl rfl (World.news_of_block (heap_alloc_new _ _)) (by simp [Value.oneCell']) (by simp only [maxLen, lk]; omega) (by rw [lk]; omega) (by simp; omega) ?_)
   intro v7 wC ownC gC _
   have lb := ownW_block OQ.out
   have Y5 : Ext u0 wC := (xa Y1 _).grown gC (xa Y1 _).size (fun r hr => by have := lb r hr; omega)
   have OC : OwnW wC (w.heap.size + 1) v7 (colL l c j (k + 1)) := by
    rw [colL_succ, HE.out]
    show World.ownsRow _ _ _ _ _ _ _
    rw [flatV_append, List.length_append, lk]
    exact ownC
   obtain ⟨p7, n7, c7, rfl⟩ := ownW_slice OC
   have HN : Hid (OwnW wC (w.heap.size + 1) (.slice p7 n7 c7) (colL l c j (k + 1)) ∧ Ext u0 wC) := ⟨OC, Y5⟩
   clear ownC gC lb OQ Y1 hi hz hz1 hz2 Y5 OC
   go_wp2_with fail
   go_roundw
   case rel => exact ⟨k + 1, n7, c7, p7, by omega, by go_num, rfl, HN⟩
   case measure => simp [intOf]; omega
  ·
   obtain rfl : k = r := by omega
   have i2 : ¬ (k : Int) < (k : Int) := by omega
   go_wp2_with fail
   go_ret
   exact ⟨_, rfl, ownW_base HO.out.1 (by omega), xt X0 HO.out.2⟩
set_option maxHeartbeats 1000000 in
theorem lacksI (r c : Int) (v : Value) (x : Int) (w : World) :
  Calls Tryd.prog 16 #[grV r c v, .int .i64 x] w fun e w' => e = .returned (.bool (decide (x < 1 ∨ c < x))) ∧ Ext w w' := by
 have X0 := x1 w (.cells #[.int .i64 r, .int .i64 c, v] 28)
 have B0 := vec_made w [.int .i64 r, .int .i64 c, v] 28
 obtain ⟨a0, a1, a2⟩ := Vec.three B0
 by_cases h1 : x < 1
 ·
  rw [decide_eq_true (Or.inl h1)]
  have f1 : decide (x < 1) = true := decide_eq_true h1
  go_enter Tryd.func16, Tryd.ntmps16
  go_wp2_with fail
  go_ret
  exact ⟨rfl, X0⟩
 ·
  have f1 : decide (x < 1) = false := decide_eq_false h1
  have e : decide (x < 1 ∨ c < x) = decide (c < x) := decide_eq_decide.2 ⟨fun h => h.resolve_left h1, Or.inr⟩
  rw [e]
  go_enter Tryd.func16, Tryd.ntmps16
  go_wp2_with fail
  go_ret
  exact ⟨rfl, X0⟩

/-- What a function says of numbers, wherever what it reads stands. -/
structure Asks (f : Nat) (lb : Array Value) (l : List Nat) (p : Nat → Bool) (I : World → Prop) : Prop where
 ent : ∀ args w, (callFunc f args).run Tryd.prog w = .ok (.enter f args) w
 says : ∀ W x, I W → x ∈ l → Calls Tryd.prog f (#[numV x] ++ lb) W fun e w' => e = .returned (.bool (p x)) ∧ Ext W w'
 later : ∀ W W', I W → Ext W W' → I W'

/-- What stands in a row while others are struck. -/
structure Kept (l : List Nat) (p : Nat → Bool) (j i : Nat) (M : List Nat) : Prop where
 len : M.length = l.length
 lt : i < j
 le : j ≤ l.length
 ahead : M.take i = (l.take j).filter fun x => !p x
 rest : ∀ t, j ≤ t → M[t]? = l[t]?

set_option maxRecDepth 8000 in
set_option maxHeartbeats 1000000 in
theorem capsI (l : List UInt8) (w : World) (hl : l.length ≤ 2000000) :
  Calls Tryd.prog 50 #[sV l] w fun e w' => e = .returned (sV (l.map upC)) ∧ Ext w w' := by
 obtain ⟨cap, wb, hcv, hcap, X0, V0⟩ := bytes_made l w
 obtain ⟨n, hn⟩ : ∃ n, l.length = n := ⟨_, rfl⟩
 rw [hn] at hcv hcap hl
 have HN : Hid (l.length = n) := hn
 have V0' : Hid (Vec wb w.heap.size (encB (upK l 0))) := by show Vec _ _ _; rw [upK_zero]; exact V0
 clear hn V0
 go_enter Tryd.func50, Tryd.ntmps50
 go_wp2_with fail
 clear hcv
 go_loopw [10] (fun i wr => ∃ k : Nat, k ≤ n ∧ i = .int .i64 k ∧ Hid (Vec wr w.heap.size (encB (upK l k))) ∧ Ext w wr) (fun i _ => n - (intOf i).toNat)
 case atStart => exact ⟨0, by omega, rfl, V0', X0⟩
 case round =>
  obtain ⟨k, hk, rfl, V, X⟩ := hrel
  by_cases hlt : k < n
  ·
   obtain ⟨c, hc⟩ : ∃ c, l[k]? = some c := ⟨_, List.getElem?_eq_getElem (by rw [HN.out]; exact hlt)⟩
   obtain ⟨a0, f0⟩ := V.out k _ (encB_at (upK_at hc))
   have i1 : (0 : Int) ≤ (k : Int) := by omega
   have i2 : (k : Int) < (n : Int) := by omega
   have hz : c.toNat < 256 := UInt8.toNat_lt c
   have VP := V.out.put k (by rw [encB_length, upK_length, HN.out]; exact hlt) (.int .u8 ((upC c).toNat : Int))
   have es : (encB (upK l k)).set k (.int .u8 ((upC c).toNat : Int)) = encB (upK l (k + 1)) := by rw [upK_succ hc]; simp [encB, List.map_set]
   rw [es] at VP
   by_cases hs : 97 ≤ c.toNat ∧ c.toNat ≤ 122
   ·
    have eu := upC_small hs
    rw [eu] at VP
    have HV : Hid (Vec (wr.setCell ⟨w.heap.size, k, none⟩ (.int .u8 ((c.toNat : Int) - 32))) w.heap.size (encB (upK l (k + 1)))) := VP
    obtain ⟨z, ez⟩ : ∃ z : Int, (c.toNat : Int) = z := ⟨_, rfl⟩
    rw [ez] at a0 HV
    have z1 : 97 ≤ z := by omega
    have z2 : z ≤ 122 := by omega
    clear V VP es eu hc hs ez hz
    go_wp2_with fail
    go_roundw
    case rel => exact ⟨k + 1, by omega, by go_num, by first | exact HV | (show Vec _ _ _; have := HV.out; rw [show z - 97 + 65 = z - 32 by omega]; exact this), xset X (Nat.le_refl _) _⟩
    case measure => simp [intOf]; omega
   ·
    have eu := upC_other hs
    have HV : Hid (Vec wr w.heap.size (encB (upK l (k + 1)))) := by
     show Vec _ _ _
     have : upK l (k + 1) = upK l k := by
      rw [upK_succ hc, eu]
      exact List.ext_getElem? fun i => by
       rw [List.getElem?_set]
       split
       ·
        next e => subst e; rw [if_pos (by rw [upK_length, HN.out]; exact hlt)]; exact (upK_at hc).symm
       ·
        rfl
     rw [this]; exact V.out
    obtain ⟨z, ez⟩ : ∃ z : Int, (c.toNat : Int) = z := ⟨_, rfl⟩
    rw [ez] at a0
    have z3 : 0 ≤ z ∧ z ≤ 255 := by omega
    have z4 : z < 97 ∨ 122 < z := by omega
    clear V VP es eu hc hs ez hz
    rcases z4 with z4 | z4
    ·
     go_wp2_with fail
     go_roundw
     case rel => exact ⟨k + 1, by omega, by go_num, HV, X⟩
     case measure => simp [intOf]; omega
    ·
     have z5 : 97 ≤ z := by omega
     go_wp2_with fail
     go_roundw
     case rel => exact ⟨k + 1, by omega, by go_num, HV, X⟩
     case measure => simp [intOf]; omega
  ·
   obtain rfl : k = n := by omega
   have hb := bytes_back (l.map upC) w.heap.size cap wr (by have := V.out; rw [← HN.out, upK_all] at this; exact this)
   rw [List.length_map, HN.out] at hb
   go_wp2_with fail
   go_ret
   exact ⟨rfl, X⟩

set_option maxRecDepth 8000 in
set_option maxHeartbeats 1000000 in
theorem capsS (l : List UInt8) (w : World) (hl : l.length ≤ 2000000) :
  Calls Tryd.prog 44 #[sV l] w fun e w' => e = .returned (sV (l.map upC)) ∧ Ext w w' := by
 obtain ⟨cap, wb, hcv, hcap, X0, V0⟩ := bytes_made l w
 obtain ⟨n, hn⟩ : ∃ n, l.length = n := ⟨_, rfl⟩
 rw [hn] at hcv hcap hl
 have HN : Hid (l.length = n) := hn
 have V0' : Hid (Vec wb w.heap.size (encB (upK l 0))) := by show Vec _ _ _; rw [upK_zero]; exact V0
 clear hn V0
 go_enter Tryd.func44, Tryd.ntmps44
 go_wp2_with fail
 clear hcv
 go_loopw [10] (fun i wr => ∃ k : Nat, k ≤ n ∧ i = .int .i64 k ∧ Hid (Vec wr w.heap.size (encB (upK l k))) ∧ Ext w wr) (fun i _ => n - (intOf i).toNat)
 case atStart => exact ⟨0, by omega, rfl, V0', X0⟩
 case round =>
  obtain ⟨k, hk, rfl, V, X⟩ := hrel
  by_cases hlt : k < n
  ·
   obtain ⟨c, hc⟩ : ∃ c, l[k]? = some c := ⟨_, List.getElem?_eq_getElem (by rw [HN.out]; exact hlt)⟩
   obtain ⟨a0, f0⟩ := V.out k _ (encB_at (upK_at hc))
   have i1 : (0 : Int) ≤ (k : Int) := by omega
   have i2 : (k : Int) < (n : Int) := by omega
   have hz : c.toNat < 256 := UInt8.toNat_lt c
   have VP := V.out.put k (by rw [encB_length, upK_length, HN.out]; exact hlt) (.int .u8 ((upC c).toNat : Int))
   have es : (encB (upK l k)).set k (.int .u8 ((upC c).toNat : Int)) = encB (upK l (k + 1)) := by rw [upK_succ hc]; simp [encB, List.map_set]
   rw [es] at VP
   by_cases hs : 97 ≤ c.toNat ∧ c.toNat ≤ 122
   ·
    have eu := upC_small hs
    rw [eu] at VP
    have HV : Hid (Vec (wr.setCell ⟨w.heap.size, k, none⟩ (.int .u8 ((c.toNat : Int) - 32))) w.heap.size (encB (upK l (k + 1)))) := VP
    obtain ⟨z, ez⟩ : ∃ z : Int, (c.toNat : Int) = z := ⟨_, rfl⟩
    rw [ez] at a0 HV
    have z1 : 97 ≤ z := by omega
    have z2 : z ≤ 122 := by omega
    clear V VP es eu hc hs ez hz
    go_wp2_with fail
    go_roundw
    case rel => exact ⟨k + 1, by omega, by go_num, HV, xset X (Nat.le_refl _) _⟩
    case measure => simp [intOf]; omega
   ·
    have eu := upC_other hs
    have HV : Hid (Vec wr w.heap.size (encB (upK l (k + 1)))) := by
     show Vec _ _ _
     have : upK l (k + 1) = upK l k := by
      rw [upK_succ hc, eu]
      exact List.ext_getElem? fun i => by
       rw [List.getElem?_set]
       split
       ·
        next e => subst e; rw [if_pos (by rw [upK_length, HN.out]; exact hlt)]; exact (upK_at hc).symm
       ·
        rfl
     rw [this]; exact V.out
    obtain ⟨z, ez⟩ : ∃ z : Int, (c.toNat : Int) = z := ⟨_, rfl⟩
    rw [ez] at a0
    have z3 : 0 ≤ z ∧ z ≤ 255 := by omega
    have z4 : z < 97 ∨ 122 < z := by omega
    clear V VP es eu hc hs ez hz
    rcases z4 with z4 | z4
    ·
     go_wp2_with fail
     go_roundw
     case rel => exact ⟨k + 1, by omega, by go_num, HV, X⟩
     case measure => simp [intOf]; omega
    ·
     have z5 : 97 ≤ z := by omega
     go_wp2_with fail
     go_roundw
     case rel => exact ⟨k + 1, by omega, by go_num, HV, X⟩
     case measure => simp [intOf]; omega
  ·
   obtain rfl : k = n := by omega
   have hb := bytes_back (l.map upC) w.heap.size cap wr (by have := V.out; rw [← HN.out, upK_all] at this; exact this)
   rw [List.length_map, HN.out] at hb
   go_wp2_with fail
   go_ret
   exact ⟨rfl, X⟩

/-- What stands for a value beside one of a kind. -/
def besideV (k : Int) (n : Bool) (d x : Int) (t : List UInt8) (k' : Int) : Value :=
 if k ≠ 0 then valV k n d x t else if k' = 1 then valV 1 false 0 0 [] else if k' = 2 then valV 2 false 0 0 [] else if k' = 3 then valV 3 false 0 0 falseT else valV k n d x t
set_option maxRecDepth 8000 in
set_option maxHeartbeats 2000000 in
theorem likeS (k : Int) (n : Bool) (d x : Int) (t : List UInt8) (k' : Int) (n' : Bool) (d' x' : Int) (t' : List UInt8) (w : World)  :
  Calls Tryd.prog 41 #[valV k n d x t, valV k' n' d' x' t'] w fun e w' => e = .returned (besideV k n d x t k') ∧ Ext w w' := by
 obtain ⟨R, hR⟩ : ∃ R, besideV k n d x t k' = R := ⟨_, rfl⟩
 have HR0 : Hid (besideV k n d x t k' = R) := hR
 rw [hR]
 clear hR
 have X1 := x1 w (.cells #[.int .i64 k, .bool n, .int .i64 d, .int .i64 x, sV t] 39)
 have B1 := vec_made w (valL k n d x t) 39
 obtain ⟨wa, ha⟩ : ∃ wa, w.alloc (.cells #[.int .i64 k, .bool n, .int .i64 d, .int .i64 x, sV t] 39) = wa := ⟨_, rfl⟩
 have X2 := x1 wa (.cells #[.int .i64 k', .bool n', .int .i64 d', .int .i64 x', sV t'] 39)
 have B2 := vec_made wa (valL k' n' d' x' t') 39
 obtain ⟨wb, hb⟩ : ∃ wb, wa.alloc (.cells #[.int .i64 k', .bool n', .int .i64 d', .int .i64 x', sV t'] 39) = wb := ⟨_, rfl⟩
 have sa : wa.heap.size = w.heap.size + 1 := by rw [← ha, World.size_alloc]
 have sb : wb.heap.size = w.heap.size + 1 + 1 := by rw [← hb, World.size_alloc, sa]
 change Vec (w.alloc (.cells #[.int .i64 k, .bool n, .int .i64 d, .int .i64 x, sV t] 39)) _ _ at B1
 change Vec (wa.alloc (.cells #[.int .i64 k', .bool n', .int .i64 d', .int .i64 x', sV t'] 39)) _ _ at B2
 rw [ha] at X1 B1
 rw [hb] at X2 B2
 rw [sa] at B2
 have B1 := B1.later X2
 have X := xt X1 X2
 have X3 := x1 wb (.cells #[.int .i64 0, .bool false, .int .i64 0, .int .i64 0, sV []] 39)
 have B3 := vec_made wb (valL 0 false 0 0 []) 39
 obtain ⟨wc, hc⟩ : ∃ wc, wb.alloc (.cells #[.int .i64 0, .bool false, .int .i64 0, .int .i64 0, sV []] 39) = wc := ⟨_, rfl⟩
 change Vec (wb.alloc (.cells #[.int .i64 0, .bool false, .int .i64 0, .int .i64 0, sV []] 39)) _ _ at B3
 rw [hc] at X3 B3
 rw [sb] at B3
 have B1 := B1.later X3
 have B2 := B2.later X3
 have X := xt X X3
 clear X1 X2 X3
 obtain ⟨a0, a1, a2, a3, a4⟩ := Vec.five B1
 obtain ⟨c0, c1, c2, c3, c4⟩ := Vec.five B2
 go_enter Tryd.func41, Tryd.ntmps41
 by_cases h0 : k = 0
 ·
  subst h0
  by_cases h1 : k' = 1
  ·
   subst h1
   have HR : Hid (valV 1 false 0 0 [] = R) := by show _ = _; rw [← HR0.out]; simp [besideV]
   go_wp2_with fail
   clear ha hb hc sa sb a0 a1 a2 a3 a4 c0 c1 c2 c3 c4
   refine (numVS false 0 0 wc).mono ?_
   rintro e w2 ⟨rfl, e2⟩
   obtain ⟨wy, hy, FX, ⟨b0, b1, b2, b3, b4⟩, ⟨fb0, fb1, fb2, fb3, fb4⟩, fd0, fd1, fd2, fd3, fd4⟩ := fin5 (B3.later e2) (xt X e2) (by omega) (1) (false) (0) (0) ([])
   go_wp2_with fail
   exact bodyPost_ret (v := valV 1 false 0 0 []) (by simp [results, Tryd.results41, go_sem, fd0, fd1, fd2, fd3, fd4]) rfl ⟨congrArg Ending.returned HR.out, FX⟩
  ·
   by_cases h2 : k' = 2
   ·
    subst h2
    have HR : Hid (valV 2 false 0 0 [] = R) := by show _ = _; rw [← HR0.out]; simp [besideV]
    go_wp2_with fail
    clear ha hb hc sa sb a0 a1 a2 a3 a4 c0 c1 c2 c3 c4
    refine (textVS [] wc).mono ?_
    rintro e w2 ⟨rfl, e2⟩
    obtain ⟨wy, hy, FX, ⟨b0, b1, b2, b3, b4⟩, ⟨fb0, fb1, fb2, fb3, fb4⟩, fd0, fd1, fd2, fd3, fd4⟩ := fin5 (B3.later e2) (xt X e2) (by omega) (2) (false) (0) (0) ([])
    go_wp2_with fail
    exact bodyPost_ret (v := valV 2 false 0 0 []) (by simp [results, Tryd.results41, go_sem, fd0, fd1, fd2, fd3, fd4]) rfl ⟨congrArg Ending.returned HR.out, FX⟩
   ·
    by_cases h3 : k' = 3
    ·
     subst h3
     have HR : Hid (valV 3 false 0 0 falseT = R) := by show _ = _; rw [← HR0.out]; simp [besideV]
     go_wp2_with fail
     clear ha hb hc sa sb a0 a1 a2 a3 a4 c0 c1 c2 c3 c4
     refine (boolVS false wc).mono ?_
     rintro e w2 ⟨rfl, e2⟩
     obtain ⟨wy, hy, FX, ⟨b0, b1, b2, b3, b4⟩, ⟨fb0, fb1, fb2, fb3, fb4⟩, fd0, fd1, fd2, fd3, fd4⟩ := fin5 (B3.later e2) (xt X e2) (by omega) (3) (false) (0) (0) (falseT)
     go_wp2_with fail
     exact bodyPost_ret (v := valV 3 false 0 0 falseT) (by simp [results, Tryd.results41, go_sem, fd0, fd1, fd2, fd3, fd4]) rfl ⟨congrArg Ending.returned HR.out, FX⟩
    ·
     have HR : Hid (valV 0 n d x t = R) := by show _ = _; rw [← HR0.out]; simp [besideV, h1, h2, h3]
     obtain ⟨wy, hy, FX, ⟨b0, b1, b2, b3, b4⟩, ⟨fb0, fb1, fb2, fb3, fb4⟩, fd0, fd1, fd2, fd3, fd4⟩ := fin5 (B3) (X) (by omega) (0) (n) (d) (x) (t)
     go_wp2_with fail
     exact bodyPost_ret (v := valV 0 n d x t) (by simp [results, Tryd.results41, go_sem, fd0, fd1, fd2, fd3, fd4]) rfl ⟨congrArg Ending.returned HR.out, FX⟩
 ·
  have HR : Hid (valV k n d x t = R) := by show _ = _; rw [← HR0.out]; simp [besideV, h0]
  obtain ⟨wy, hy, FX, ⟨b0, b1, b2, b3, b4⟩, ⟨fb0, fb1, fb2, fb3, fb4⟩, fd0, fd1, fd2, fd3, fd4⟩ := fin5 (B3) (X) (by omega) (k) (n) (d) (x) (t)
  go_wp2_with fail
  exact bodyPost_ret (v := valV k n d x t) (by simp [results, Tryd.results41, go_sem, fd0, fd1, fd2, fd3, fd4]) rfl ⟨congrArg Ending.returned HR.out, FX⟩

theorem cmp_three : ∀ a b : List UInt8, Lib.compareBytes a b = -1 ∨ Lib.compareBytes a b = 0 ∨ Lib.compareBytes a b = 1
 | [], [] => Or.inr (Or.inl rfl)
 | [], _ :: _ => Or.inl rfl
 | _ :: _, [] => Or.inr (Or.inr rfl)
 | a :: x, b :: y => by
  unfold Lib.compareBytes
  split
  ·
   exact Or.inl rfl
  ·
   split
   ·
    exact Or.inr (Or.inr rfl)
   ·
    exact cmp_three x y
theorem cmp_less : ∀ a b : List UInt8, Op.bytesLess a b = decide (Lib.compareBytes a b = -1)
 | [], [] => rfl
 | [], _ :: _ => rfl
 | _ :: _, [] => rfl
 | a :: x, b :: y => by
  unfold Lib.compareBytes Op.bytesLess
  have ih := cmp_less x y
  by_cases h : a < b
  ·
   simp [h]
  ·
   by_cases h2 : b < a
   ·
    have : ¬ a = b := fun e => by subst e; exact absurd h2 (UInt8.lt_irrefl a)
    simp [h, h2, this]
   ·
    have e : a = b := UInt8.le_antisymm (UInt8.not_lt.1 h2) (UInt8.not_lt.1 h)
    subst e
    simp [UInt8.lt_irrefl, ih]
theorem cmp_same : ∀ a b : List UInt8, (a == b) = decide (Lib.compareBytes a b = 0)
 | [], [] => rfl
 | [], _ :: _ => rfl
 | _ :: _, [] => rfl
 | a :: x, b :: y => by
  unfold Lib.compareBytes
  have ih := cmp_same x y
  by_cases h : a < b
  ·
   have : ¬ a = b := fun e => by subst e; exact absurd h (UInt8.lt_irrefl a)
   simp [h, this]
  ·
   by_cases h2 : b < a
   ·
    have : ¬ a = b := fun e => by subst e; exact absurd h2 (UInt8.lt_irrefl a)
    simp [h, h2, this]
   ·
    have e : a = b := UInt8.le_antisymm (UInt8.not_lt.1 h2) (UInt8.not_lt.1 h)
    subst e
    rw [if_neg (UInt8.lt_irrefl a), if_neg (UInt8.lt_irrefl a), ← ih]
    simp

end Go.Proofs.YtjlephnmofhjaaaDoor

