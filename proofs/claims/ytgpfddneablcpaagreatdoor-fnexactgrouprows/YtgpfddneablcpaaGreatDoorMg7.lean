/-
  Several texts in one: Qa, Qb.
-/
import Derived.Test.YtgpfddneablcpaaGreatDoorMg6
import Derived.BigQuiet
import Derived.Deep.RegionHeld3
import Derived.Deep.QuietTactic
namespace Go.Proofs.YtgpfddneablcpaaGreatDoor
open Go.RowKit

abbrev numV (x : Nat) : Value := .int .i64 (x : Int)
/-- A row of numbers, written by nobody else. -/
def NumsAt (w : World) (v : Value) (l : List Nat) : Prop := ∃ p cap, v = .slice p l.length cap ∧ l.length ≤ cap ∧ (0 < l.length → ∃ g, p = some ⟨g, 0, none⟩ ∧ Vec w g (l.map numV))
theorem NumsAt.later {w w' : World} {v : Value} {l : List Nat} (h : NumsAt w v l) (e : Ext w w') : NumsAt w' v l := by
 obtain ⟨p, cap, rfl, hc, hv⟩ := h
 exact ⟨p, cap, rfl, hc, fun h0 => by obtain ⟨g, rfl, V⟩ := hv h0; exact ⟨g, rfl, V.later e⟩⟩
theorem vec_lt {w : World} {g : Nat} {l : List Value} (h : Vec w g l) (hl : 0 < l.length) : g < w.heap.size := by
 cases l with
 | nil => simp at hl
 | cons u l => exact World.block_lt_of_cell? _ _ (h 0 u rfl).1
theorem vec_keep {w w' : World} {g : Nat} {l : List Value} {row : Option Nat} (h : Vec w g l) (hg : w.grownBy w' row) (hr : some g ≠ row) : Vec w' g l := by
 intro i v hi
 have hlt := vec_lt h (by have := (List.getElem?_eq_some_iff.1 hi).1; omega)
 have hb := hg.block g hlt hr
 obtain ⟨a, f⟩ := h i v hi
 refine ⟨?_, ?_⟩
 ·
  unfold World.cell? at a ⊢
  rw [hb]; exact a
 ·
  unfold World.frozen? at f ⊢
  rw [hb]; exact f
theorem NumsAt.keep {w w' : World} {v : Value} {l : List Nat} {row : Option Nat} (h : NumsAt w v l) (hg : w.grownBy w' row) (hr : ∀ g, 0 < l.length → v.ownBlock = some g → some g ≠ row) : NumsAt w' v l := by
 obtain ⟨p, cap, rfl, hc, hv⟩ := h
 exact ⟨p, cap, rfl, hc, fun h0 => by obtain ⟨g, rfl, V⟩ := hv h0; exact ⟨g, rfl, vec_keep V hg (hr g h0 rfl)⟩⟩
/-- A row of numbers of one's own, that may grow. -/
abbrev OwnI (w : World) (base : Nat) (v : Value) (l : List Nat) : Prop := w.ownsRow base 3 1 v l.length (l.map numV)
theorem ownI_later {w w' : World} {base : Nat} {v : Value} {l : List Nat} (h : OwnI w base v l) (hx : Ext w w') : OwnI w' base v l := by
 refine ⟨h.1, h.2.imp id ?_⟩
 rintro ⟨g, cap, cur, h1, h2, h3, h4⟩
 have hlt : g < w.heap.size := by
  rcases Nat.lt_or_ge g w.heap.size with h' | h'
  ·
   exact h'
  ·
   rw [Array.getElem?_eq_none h'] at h3; cases h3
 exact ⟨g, cap, cur, h1, h2, by rw [hx.block g hlt]; exact h3, h4⟩
theorem ownI_slice {w : World} {base : Nat} {v : Value} {l : List Nat} (h : OwnI w base v l) : ∃ p c, v = .slice p l.length c ∧ l.length ≤ c := by
 rcases h.2 with ⟨rfl, h0⟩ | ⟨g, cap, cur, rfl, _, _, h3, _⟩
 ·
  exact ⟨none, 0, by rw [h0], by omega⟩
 ·
  exact ⟨_, _, rfl, h3⟩
theorem ownI_block {w : World} {base : Nat} {v : Value} {l : List Nat} (h : OwnI w base v l) : ∀ r, v.ownBlock = some r → base ≤ r := by
 intro r hr
 rcases h.2 with ⟨rfl, _⟩ | ⟨g, cap, cur, rfl, h2, _⟩
 ·
  cases hr
 ·
  have : g = r := by simpa [Value.ownBlock] using hr
  omega
theorem ownI_nil (w : World) (base : Nat) : OwnI w base (.slice none 0 0) [] := World.ownsRow_nil _ _ _ _
theorem ownI_nums {w : World} {base : Nat} {v : Value} {l : List Nat} (h : OwnI w base v l) : NumsAt w v l := by
 rcases h.2 with ⟨rfl, h0⟩ | ⟨g, cap, cur, rfl, hb, hg, hc, hz, hcs, htake⟩
 ·
  exact ⟨none, 0, by rw [h0], by omega, fun h => absurd h0 (by omega)⟩
 ·
  refine ⟨_, cap, rfl, hc, fun _ => ⟨g, rfl, fun i u hi => ?_⟩⟩
  have hcell := h.cells (g := g) rfl i u hi
  rw [show (⟨g, 0, none⟩ : Addr).add i = ⟨g, i, none⟩ by unfold Addr.add; split <;> simp_all] at hcell
  refine ⟨hcell, ?_⟩
  unfold World.frozen?
  rw [hg]
  simp
theorem infoI : ∃ inf, Tryz.prog.info? 3 = some inf ∧ inf.zero = some (.int .i64 0) ∧ inf.size = 1 ∧ inf.bytes = 8 := by
 have h : (Tryz.prog.info? 3).map (fun i => (i.zero, i.size, i.bytes)) = some (some (.int .i64 0), 1, 8) := by kernel_rfl
 cases h' : Tryz.prog.info? 3 with
 | none => rw [h'] at h; cases h
 | some inf =>
  rw [h'] at h
  simp at h
  exact ⟨inf, rfl, h.1, h.2.1, h.2.2⟩

set_option maxRecDepth 8000 in
set_option maxHeartbeats 1000000 in
/-- The same numbers are the same. -/
theorem eqNums (u v : Value) (l : List Nat) (w : World) (hu : NumsAt w u l) (hv : NumsAt w v l) (hl : l.length ≤ 1048576) :
  Calls Tryz.prog 11 #[u, v] w fun e w' => e = .returned (.bool true) ∧ Ext w w' := by
 obtain ⟨p, cap, rfl, hcap, hi⟩ := hu
 obtain ⟨p2, cap2, rfl, hcap2, hi2⟩ := hv
 obtain ⟨L, hL⟩ : ∃ L, l.length = L := ⟨_, rfl⟩
 have HL : Hid (l.length = L) := hL
 rw [hL] at hl hcap hcap2 hi hi2 ⊢
 have H1 : Hid (0 < L → ∃ g, p = some ⟨g, 0, none⟩ ∧ Vec w g (l.map numV)) := hi
 have H2 : Hid (0 < L → ∃ g, p2 = some ⟨g, 0, none⟩ ∧ Vec w g (l.map numV)) := hi2
 clear hL hi hi2
 go_enter Tryz.func11, Tryz.ntmps11
 go_wp2_with fail
 go_loopw [5] (fun i wr => ∃ k : Nat, k ≤ L ∧ i = .int .i64 k ∧ Ext w wr) (fun i _ => L - (intOf i).toNat)
 case atStart => exact ⟨0, by omega, rfl, xr _⟩
 case round =>
  obtain ⟨k, hk, rfl, X⟩ := hrel
  by_cases hlt : k < L
  ·
   obtain ⟨b, rfl, hc⟩ := H1.out (by omega)
   obtain ⟨b2, rfl, hc2⟩ := H2.out (by omega)
   obtain ⟨f, hf⟩ : ∃ f, l[k]? = some f := ⟨_, List.getElem?_eq_getElem (by rw [HL.out]; exact hlt)⟩
   have c1 := ((hc.later X) k (numV f) (by rw [List.getElem?_map, hf]; rfl)).1
   have c2 := ((hc2.later X) k (numV f) (by rw [List.getElem?_map, hf]; rfl)).1
   have hlt' : (k : Int) < (L : Int) := by omega
   clear hc hc2 hf H1 H2
   go_wp2_with fail
   go_quiet (fail)
   go_wp2_with fail
   go_roundw
   case rel => exact ⟨k + 1, by omega, by go_num, ⟨X.os, X.tape, X.output, X.size, X.block⟩⟩
   case measure => simp [intOf]; omega
  ·
   obtain rfl : k = L := by omega
   go_wp2_with fail
   go_ret
   exact ⟨rfl, X⟩

/-- The marks from k on. -/
def marksN (k n : Nat) : List Nat := (List.range n).map (k + ·)
theorem marksN_length (k n : Nat) : (marksN k n).length = n := by simp [marksN]
theorem marksN_at (k n j : Nat) (h : j < n) : (marksN k n)[j]? = some (k + j) := by simp [marksN, h]

/-- A cell by its place. -/
def cel (l : List VT) (k : Nat) : VT := l.getD k zeroVT
theorem cel_at {l : List VT} {k : Nat} (h : k < l.length) : l[k]? = some (cel l k) := by
 rw [List.getElem?_eq_getElem h]; simp [cel, h]
theorem cel_mem {l : List VT} {k : Nat} (h : k < l.length) : cel l k ∈ l := List.mem_of_getElem? (cel_at h)
set_option maxRecDepth 8000 in
set_option maxHeartbeats 2000000 in
theorem atI (r : Int) (c : Nat) (v : Value) (l : List VT) (i j : Nat) (w : World) (h : ValsIn w v l) (hl : l.length ≤ 2000) (hk : i * c + j < l.length) :
  Calls Tryz.prog 42 #[grV r c v, .int .i64 i, .int .i64 j] w fun e w' => e = .returned (cel l (i * c + j)).val ∧ Ext w w' := by
 obtain ⟨pp, cap, rfl, hcap, hrow⟩ := h
 have he := cel_at hk
 obtain ⟨e, hee⟩ : ∃ e, cel l (i * c + j) = e := ⟨_, rfl⟩
 rw [hee] at he ⊢
 obtain ⟨N, hN⟩ : ∃ N, l.length = N := ⟨_, rfl⟩
 obtain ⟨m, hm⟩ : ∃ m, i * c = m := ⟨_, rfl⟩
 have hm' : (i : Int) * (c : Int) = (m : Int) := by rw [← hm]; simp
 rw [hN] at hcap hl hk hrow ⊢
 rw [hm] at hk he
 obtain ⟨b, o, hpp, hrw⟩ := hrow (by omega)
 subst hpp
 have hmj : (m : Int) + (j : Int) = ((m + j : Nat) : Int) := by omega
 obtain ⟨q, hq⟩ : ∃ q, m + j = q := ⟨_, rfl⟩
 rw [hq] at hmj hk he
 have q1 : (q : Int) < (N : Int) := by omega
 have m0 : (m : Int) ≤ 2000 := by omega
 have j0 : (j : Int) ≤ 2000 := by omega
 obtain ⟨u0, u1, h0, h1, s0, s1, B0, B1, X⟩ := mkB2 w [.int .i64 r, .int .i64 c, .slice (some ⟨b, o, none⟩) N cap] [.int .i64 0, .bool false, .int .i64 0, .int .i64 0, sV []] 31 51
 obtain ⟨a0, a1, a2⟩ := Vec.three (B0)
 obtain ⟨d0, d1, d2, d3, d4⟩ := (hrw.later X).five he
 obtain ⟨wy, hy, FX, ⟨b0, b1, b2, b3, b4⟩, ⟨fb0, fb1, fb2, fb3, fb4⟩, fd0, fd1, fd2, fd3, fd4⟩ := fin5 B1 X (by omega) e.k e.n e.d e.x e.t
 clear hee hm hq hN hrow hrw he
 go_enter Tryz.func42, Tryz.ntmps42
 go_wp2_with fail
 exact bodyPost_ret (v := e.val) (by simp [results, Tryz.results42, go_sem, fd0, fd1, fd2, fd3, fd4]) rfl ⟨rfl, FX⟩

theorem place_lt {i r c j : Nat} (hi : i < r) (hj : j < c) : i * c + j < r * c := by
 have : (i + 1) * c ≤ r * c := Nat.mul_le_mul_right c hi
 rw [Nat.add_mul, Nat.one_mul] at this
 omega
end Go.Proofs.YtgpfddneablcpaaGreatDoor

