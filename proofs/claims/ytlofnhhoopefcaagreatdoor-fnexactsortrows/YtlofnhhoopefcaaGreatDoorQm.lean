/-
  Chapter 11: the heap's exchange, and which of two is ahead, of the program.
-/
import Derived.Test.YtlofnhhoopefcaaGreatDoorQa
import Derived.Test.YtlofnhhoopefcaaGreatDoorHp
import Derived.BigRegion
import Derived.Shelf.Abstract
namespace Go.Proofs.YtlofnhhoopefcaaGreatDoor
open Go.RowKit

/-- A row of n numbers of one's own at a block. -/
abbrev OwnN (w : World) (base g n cap : Nat) (l : List Nat) : Prop := w.ownsRow base 3 1 (.slice (some ⟨g, 0, none⟩) n cap) n (l.map numV)
theorem ownN_len {w : World} {base g n cap : Nat} {l : List Nat} (h : OwnN w base g n cap l) : l.length = n := by
 have := h.1
 rw [List.length_map] at this
 omega
theorem ownN_vec {w : World} {base g n cap : Nat} {l : List Nat} (h : OwnN w base g n cap l) : Vec w g (l.map numV) := fun j u hu => by
 have hj := (List.getElem?_eq_some_iff.1 hu).1
 have := h.1
 exact ⟨by rw [h.cellAt j (by omega)]; exact hu, h.frozenAt j⟩
theorem ownN_set {w : World} {base g n cap : Nat} {l : List Nat} (h : OwnN w base g n cap l) (j x : Nat) : OwnN (w.setCell ⟨g, j, none⟩ (numV x)) base g n cap (l.set j x) := by
 have := (h.stored j (numV x)).1
 show World.ownsRow _ _ _ _ _ _ _
 rw [List.map_set]
 exact this
theorem ownN_later {w w' : World} {base g n cap : Nat} {l : List Nat} (h : OwnN w base g n cap l) (hx : Ext w w') : OwnN w' base g n cap l := by
 have hl := ownN_len h
 subst hl
 exact ownI_later h hx
theorem ownN_base {w : World} {base g n cap : Nat} {l : List Nat} (h : OwnN w base g n cap l) : base ≤ g := (h.lt g rfl).1
/-- The last ones are left off. -/
theorem ownN_cut {w : World} {base g n cap : Nat} {l : List Nat} (h : OwnN w base g n cap l) (m : Nat) (hm : m ≤ n) : OwnN w base g m cap (l.take m) := by
 have hn := ownN_len h
 rcases h.2 with ⟨h1, _⟩ | ⟨g', cap', cur, h1, h2, h3, h4, h5, h6, h7⟩
 ·
  cases h1
 ·
  cases h1
  have hl : (l.take m).length = m := by rw [List.length_take]; omega
  refine ⟨by rw [List.length_map, hl]; omega, Or.inr ⟨g, cap, cur, rfl, h2, h3, by omega, h5, h6, ?_⟩⟩
  rw [List.map_take, ← h7, List.take_take]
  congr 1
  omega
theorem ownN_far {w : World} {base g n cap : Nat} {l : List Nat} (h : OwnN w base g n cap l) {p : Addr} (hp : p.block < base) (u : Value) : OwnN (w.setCell p u) base g n cap l := by
 refine ⟨h.1, h.2.imp id ?_⟩
 rintro ⟨g, cap, cur, h1, h2, h3, h4⟩
 exact ⟨g, cap, cur, h1, h2, by rw [heap_setCell_other _ _ _ _ (by omega)]; exact h3, h4⟩
set_option maxRecDepth 8000 in
set_option maxHeartbeats 4000000 in
theorem swapI (hb g cap : Nat) (fv : Value) (h : List Nat) (i j : Nat) (w : World) (N : Nat) (H : Vec w hb [.slice (some ⟨g, 0, none⟩) N cap, fv]) (base : Nat) (OI : OwnN w base g N cap h) (hi : i < N) (hj : j < N) (hij : i ≠ j) :
  Calls Tryz.prog 49 #[.pointer (some ⟨hb, 0, none⟩), numV i, numV j] w fun e w' => e = .returned (.tuple #[]) ∧ OwnN w' base g N cap (swapL h i j) ∧ w.grownBy w' (some g) := by
 have V := ownN_vec OI
 have hN := ownN_len OI
 have a0 := (H 0 _ rfl).1
 obtain ⟨x, hx⟩ : ∃ x, nth h i = x := ⟨_, rfl⟩
 obtain ⟨y, hy⟩ : ∃ y, nth h j = y := ⟨_, rfl⟩
 have ex : (h.map numV)[i]? = some (numV x) := by rw [List.getElem?_map, nth_get (by omega), hx]; rfl
 have ey : (h.map numV)[j]? = some (numV y) := by rw [List.getElem?_map, nth_get (by omega), hy]; rfl
 obtain ⟨ci, fi⟩ := V i _ ex
 obtain ⟨cj, fj⟩ := V j _ ey
 have HV : Hid (OwnN ((w.setCell ⟨g, i, none⟩ (numV y)).setCell ⟨g, j, none⟩ (numV x)) base g N cap (swapL h i j)) := by
  have := ownN_set (ownN_set OI i y) j x
  unfold swapL
  rw [hx, hy]
  exact this
 have i1 : (i : Int) < (N : Int) := by omega
 have j1 : (j : Int) < (N : Int) := by omega
 have hne : ¬ (i = j) := hij
 clear H V ex ey hx hy hN OI
 go_enter Tryz.func49, Tryz.ntmps49
 go_wp2_with fail
 go_region
 go_wp2
 exact bodyPost_end (results_none rfl _ _ _) rfl ⟨rfl, ownN_later HV.out (xd (xr _)), grown_ext (grown_set (grown_set (grown_refl w _) _) _) (xd (xr _))⟩

/-- A function value compares the rows, wherever what it reads stands. -/
structure Orders (w : World) (fn : Nat) (rc : Array Value) (n : Nat) (K : Nat → Nat → Int) : Prop where
 ent : ∀ args w, (callFunc fn args).run Tryz.prog w = .ok (.enter fn args) w
 says : ∀ W x y, Ext w W → x < n → y < n → Calls Tryz.prog fn (rc ++ #[numV x, numV y]) W fun e w' => e = .returned (.int .i64 (K x y)) ∧ Ext W w'
set_option maxRecDepth 8000 in
set_option maxHeartbeats 4000000 in
theorem isAheadI (w0 : World) (fn : Nat) (rc : Value) (n : Nat) (K : Nat → Nat → Int) (O : Orders w0 fn #[rc] n K) (hb g cap : Nat) (h : List Nat) (i j : Nat) (w : World) (X : Ext w0 w) (H : Vec w hb [.slice (some ⟨g, 0, none⟩) h.length cap, .func (.func fn) #[rc] #[]]) (V : Vec w g (h.map numV)) (hn : ∀ x ∈ h, x < n)
  (hi : i < h.length) (hj : j < h.length) :
  Calls Tryz.prog 48 #[.pointer (some ⟨hb, 0, none⟩), numV i, numV j] w fun e w' => e = .returned (.bool (decide (K (nth h i) (nth h j) < 0))) ∧ Ext w w' := by
 have a0 := (H 0 _ rfl).1
 have a1 := (H 1 _ rfl).1
 have ent := O.ent
 have CK : Hid (∀ W, Ext w W → Calls Tryz.prog fn #[rc, numV (nth h i), numV (nth h j)] W fun e w' => e = .returned (.int .i64 (K (nth h i) (nth h j))) ∧ Ext W w') := fun W hW => O.says W _ _ (xt X hW) (hn _ (nth_mem hi)) (hn _ (nth_mem hj))
 obtain ⟨x, hx⟩ : ∃ x, nth h i = x := ⟨_, rfl⟩
 obtain ⟨y, hy⟩ : ∃ y, nth h j = y := ⟨_, rfl⟩
 have ci := (V i (numV x) (by rw [List.getElem?_map, nth_get hi, hx]; rfl)).1
 have cj := (V j (numV y) (by rw [List.getElem?_map, nth_get hj, hy]; rfl)).1
 rw [hx, hy] at CK ⊢
 obtain ⟨Z, hZ⟩ : ∃ Z, K x y = Z := ⟨_, rfl⟩
 rw [hZ] at CK ⊢
 obtain ⟨N, hN⟩ : ∃ N, h.length = N := ⟨_, rfl⟩
 rw [hN] at a0 hi hj
 have i1 : (i : Int) < (N : Int) := by omega
 have j1 : (j : Int) < (N : Int) := by omega
 clear H V hx hy hN hZ hn O X
 go_enter Tryz.func48, Tryz.ntmps48
 go_wp2_with fail
 go_region_held3 (fun w' => w'.cell? ⟨hb, 0, none⟩ = some (.slice (some ⟨g, 0, none⟩) N cap) ∧ w'.cell? ⟨hb, 1, none⟩ = some (.func (.func fn) #[rc] #[]) ∧ w'.cell? ⟨g, i, none⟩ = some (.int .i64 x) ∧ w'.cell? ⟨g, j, none⟩ = some (.int .i64 y)) (go_keep)
  (first
   | (go_at_fn fn; refine (CK.out _ (xd (xr _))).mono ?_; rintro e w' ⟨rfl, E⟩; have Y := xt (xd (xr _)) E; have r0 := cell_later Y a0; have r1 := cell_later Y a1; have r2 := cell_later Y ci; have r3 := cell_later Y cj))
 all_goals
  go_wp2_with fail
  go_ret
  exact ⟨rfl, Y⟩

end Go.Proofs.YtlofnhhoopefcaaGreatDoor

