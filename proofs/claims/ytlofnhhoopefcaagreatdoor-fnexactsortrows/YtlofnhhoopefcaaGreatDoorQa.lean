/-
  Chapter 11: rows of numbers: made, compared, marked, held against their marks.
-/
import Derived.Test.YtlofnhhoopefcaaGreatDoorW9t
import Derived.BigQuiet
import Derived.Deep.RegionHeld3
import Derived.Deep.QuietTactic
namespace Go.Proofs.YtlofnhhoopefcaaGreatDoor
open Go.RowKit

abbrev numV (x : Nat) : Value := .int .i64 (x : Int)
/-- A row of numbers, written by nobody else. -/
def NumsAt (w : World) (v : Value) (l : List Nat) : Prop := ∃ p cap, v = .slice p l.length cap ∧ l.length ≤ cap ∧ (0 < l.length → ∃ g, p = some ⟨g, 0, none⟩ ∧ Vec w g (l.map numV))
theorem NumsAt.later {w w' : World} {v : Value} {l : List Nat} (h : NumsAt w v l) (e : Ext w w') : NumsAt w' v l := by
 obtain ⟨p, cap, rfl, hc, hv⟩ := h
 exact ⟨p, cap, rfl, hc, fun h0 => by obtain ⟨g, rfl, V⟩ := hv h0; exact ⟨g, rfl, V.later e⟩⟩
theorem vec_lt {w : World} {g : Nat} {l : List Value} (h : Vec w g l) (hl : 0 < l.length) : g < w.heap.size := by
 cases l with
 | nil => simp at hl
 | cons u l => exact World.block_lt_of_cell? _ _ (h 0 u rfl).1
theorem vec_keep {w w' : World} {g : Nat} {l : List Value} {row : Option Nat} (h : Vec w g l) (hg : w.grownBy w' row) (hr : some g ≠ row) : Vec w' g l := by
 intro i v hi
 have hlt := vec_lt h (by have := (List.getElem?_eq_some_iff.1 hi).1; omega)
 have hb := hg.block g hlt hr
 obtain ⟨a, f⟩ := h i v hi
 refine ⟨?_, ?_⟩
 ·
  unfold World.cell? at a ⊢
  rw [hb]; exact a
 ·
  unfold World.frozen? at f ⊢
  rw [hb]; exact f
theorem NumsAt.keep {w w' : World} {v : Value} {l : List Nat} {row : Option Nat} (h : NumsAt w v l) (hg : w.grownBy w' row) (hr : ∀ g, 0 < l.length → v.ownBlock = some g → some g ≠ row) : NumsAt w' v l := by
 obtain ⟨p, cap, rfl, hc, hv⟩ := h
 exact ⟨p, cap, rfl, hc, fun h0 => by obtain ⟨g, rfl, V⟩ := hv h0; exact ⟨g, rfl, vec_keep V hg (hr g h0 rfl)⟩⟩
theorem NumsAt.lt {w : World} {v : Value} {l : List Nat} (h : NumsAt w v l) (h0 : 0 < l.length) : ∀ g, v.ownBlock = some g → g < w.heap.size := by
 obtain ⟨p, cap, rfl, hc, hv⟩ := h
 intro g hg
 obtain ⟨g', rfl, V⟩ := hv h0
 have : g' = g := by simpa [Value.ownBlock] using hg
 subst this
 exact vec_lt V (by simpa using h0)
theorem nums_nil (w : World) : NumsAt w (.slice none 0 0) [] := ⟨none, 0, rfl, Nat.le_refl _, fun h => by simp at h⟩

/-- A row of numbers of one's own, that may grow. -/
abbrev OwnI (w : World) (base : Nat) (v : Value) (l : List Nat) : Prop := w.ownsRow base 3 1 v l.length (l.map numV)
theorem ownI_later {w w' : World} {base : Nat} {v : Value} {l : List Nat} (h : OwnI w base v l) (hx : Ext w w') : OwnI w' base v l := by
 refine ⟨h.1, h.2.imp id ?_⟩
 rintro ⟨g, cap, cur, h1, h2, h3, h4⟩
 have hlt : g < w.heap.size := by
  rcases Nat.lt_or_ge g w.heap.size with h' | h'
  ·
   exact h'
  ·
   rw [Array.getElem?_eq_none h'] at h3; cases h3
 exact ⟨g, cap, cur, h1, h2, by rw [hx.block g hlt]; exact h3, h4⟩
theorem ownI_slice {w : World} {base : Nat} {v : Value} {l : List Nat} (h : OwnI w base v l) : ∃ p c, v = .slice p l.length c ∧ l.length ≤ c := by
 rcases h.2 with ⟨rfl, h0⟩ | ⟨g, cap, cur, rfl, _, _, h3, _⟩
 ·
  exact ⟨none, 0, by rw [h0], by omega⟩
 ·
  exact ⟨_, _, rfl, h3⟩
theorem ownI_block {w : World} {base : Nat} {v : Value} {l : List Nat} (h : OwnI w base v l) : ∀ r, v.ownBlock = some r → base ≤ r := by
 intro r hr
 rcases h.2 with ⟨rfl, _⟩ | ⟨g, cap, cur, rfl, h2, _⟩
 ·
  cases hr
 ·
  have : g = r := by simpa [Value.ownBlock] using hr
  omega
theorem ownI_nil (w : World) (base : Nat) : OwnI w base (.slice none 0 0) [] := World.ownsRow_nil _ _ _ _
theorem ownI_nums {w : World} {base : Nat} {v : Value} {l : List Nat} (h : OwnI w base v l) : NumsAt w v l := by
 rcases h.2 with ⟨rfl, h0⟩ | ⟨g, cap, cur, rfl, hb, hg, hc, hz, hcs, htake⟩
 ·
  exact ⟨none, 0, by rw [h0], by omega, fun h => absurd h0 (by omega)⟩
 ·
  refine ⟨_, cap, rfl, hc, fun _ => ⟨g, rfl, fun i u hi => ?_⟩⟩
  have hcell := h.cells (g := g) rfl i u hi
  rw [show (⟨g, 0, none⟩ : Addr).add i = ⟨g, i, none⟩ by unfold Addr.add; split <;> simp_all] at hcell
  refine ⟨hcell, ?_⟩
  unfold World.frozen?
  rw [hg]
  simp
theorem infoI : ∃ inf, Tryz.prog.info? 3 = some inf ∧ inf.zero = some (.int .i64 0) ∧ inf.size = 1 ∧ inf.bytes = 8 := by
 have h : (Tryz.prog.info? 3).map (fun i => (i.zero, i.size, i.bytes)) = some (some (.int .i64 0), 1, 8) := by kernel_rfl
 cases h' : Tryz.prog.info? 3 with
 | none => rw [h'] at h; cases h
 | some inf =>
  rw [h'] at h
  simp at h
  exact ⟨inf, rfl, h.1, h.2.1, h.2.2⟩

set_option maxRecDepth 8000 in
set_option maxHeartbeats 1000000 in
/-- The same numbers are the same. -/
theorem eqNums (u v : Value) (l : List Nat) (w : World) (hu : NumsAt w u l) (hv : NumsAt w v l) (hl : l.length ≤ 1048576) :
  Calls Tryz.prog 11 #[u, v] w fun e w' => e = .returned (.bool true) ∧ Ext w w' := by
 obtain ⟨p, cap, rfl, hcap, hi⟩ := hu
 obtain ⟨p2, cap2, rfl, hcap2, hi2⟩ := hv
 obtain ⟨L, hL⟩ : ∃ L, l.length = L := ⟨_, rfl⟩
 have HL : Hid (l.length = L) := hL
 rw [hL] at hl hcap hcap2 hi hi2 ⊢
 have H1 : Hid (0 < L → ∃ g, p = some ⟨g, 0, none⟩ ∧ Vec w g (l.map numV)) := hi
 have H2 : Hid (0 < L → ∃ g, p2 = some ⟨g, 0, none⟩ ∧ Vec w g (l.map numV)) := hi2
 clear hL hi hi2
 go_enter Tryz.func11, Tryz.ntmps11
 go_wp2_with fail
 go_loopw [5] (fun i wr => ∃ k : Nat, k ≤ L ∧ i = .int .i64 k ∧ Ext w wr) (fun i _ => L - (intOf i).toNat)
 case atStart => exact ⟨0, by omega, rfl, xr _⟩
 case round =>
  obtain ⟨k, hk, rfl, X⟩ := hrel
  by_cases hlt : k < L
  ·
   obtain ⟨b, rfl, hc⟩ := H1.out (by omega)
   obtain ⟨b2, rfl, hc2⟩ := H2.out (by omega)
   obtain ⟨f, hf⟩ : ∃ f, l[k]? = some f := ⟨_, List.getElem?_eq_getElem (by rw [HL.out]; exact hlt)⟩
   have c1 := ((hc.later X) k (numV f) (by rw [List.getElem?_map, hf]; rfl)).1
   have c2 := ((hc2.later X) k (numV f) (by rw [List.getElem?_map, hf]; rfl)).1
   have hlt' : (k : Int) < (L : Int) := by omega
   clear hc hc2 hf H1 H2
   go_wp2_with fail
   go_quiet (fail)
   go_wp2_with fail
   go_roundw
   case rel => exact ⟨k + 1, by omega, by go_num, ⟨X.os, X.tape, X.output, X.size, X.block⟩⟩
   case measure => simp [intOf]; omega
  ·
   obtain rfl : k = L := by omega
   go_wp2_with fail
   go_ret
   exact ⟨rfl, X⟩

/-- The marks from k on. -/
def marksN (k n : Nat) : List Nat := (List.range n).map (k + ·)
theorem marksN_length (k n : Nat) : (marksN k n).length = n := by simp [marksN]
theorem marksN_at (k n j : Nat) (h : j < n) : (marksN k n)[j]? = some (k + j) := by simp [marksN, h]
set_option maxRecDepth 8000 in
set_option maxHeartbeats 2000000 in
theorem markNums (v : Value) (l : List Nat) (n k0 : Nat) (w : World) (h : NumsAt w v l) (hl : l.length = n) (hn : n ≤ 1048576) (h1 : 1 ≤ k0) (h2 : k0 ≤ 1000) :
  Calls Tryz.prog 16 #[v, .int .i64 k0] w fun e w' => e = .returned (.int .i64 ((k0 + n : Nat) : Int)) ∧ NumsAt w' v (marksN k0 n) ∧ w.grownBy w' (if n = 0 then none else v.ownBlock) := by
 obtain ⟨p, cap, rfl, hcap, hp⟩ := h
 rw [hl] at hcap hp ⊢
 have HL : Hid (l.length = n) := hl
 have H2 : Hid (0 < n → ∃ g, p = some ⟨g, 0, none⟩ ∧ Vec w g (l.map numV)) := hp
 obtain ⟨row, hrow⟩ : ∃ q, (if n = 0 then none else (Value.slice p n cap).ownBlock) = q := ⟨_, rfl⟩
 have HRow : Hid ((if n = 0 then none else (Value.slice p n cap).ownBlock) = row) := hrow
 rw [hrow]
 clear hl hp hrow
 go_enter Tryz.func16, Tryz.ntmps16
 go_wp2_with fail
 go_loopw [1, 5] (fun q i wr => ∃ k : Nat, k ≤ n ∧ i = .int .i64 k ∧ q = .int .i64 ((k0 + k : Nat) : Int) ∧ Hid (0 < n → ∃ (g : Nat) (M : List Value), p = some ⟨g, 0, none⟩ ∧ M.length = n ∧ (∀ i, i < k → M[i]? = some (numV (k0 + i))) ∧ Vec wr g M) ∧ Hid (w.grownBy wr row)) (fun _ i _ => n - (intOf i).toNat)
 case atStart => exact ⟨0, by omega, rfl, rfl, fun h0 => by obtain ⟨g, hg, V⟩ := H2.out h0; exact ⟨g, _, hg, by rw [List.length_map, HL.out], fun i hi => absurd hi (by omega), V⟩, grown_refl _ _⟩
 case round =>
  obtain ⟨k, hk, rfl, rfl, H, HX⟩ := hrel
  by_cases hlt : k < n
  ·
   obtain ⟨g, M, rfl, hM, hK, V⟩ := H.out (by omega)
   have HK : Hid (∀ i, i < k → M[i]? = some (numV (k0 + i))) := hK
   have HMl : Hid (M.length = n) := hM
   have hrg : some g = row := by have := HRow.out; rw [if_neg (by omega)] at this; exact this
   have i2 : (k : Int) < (n : Int) := by omega
   obtain ⟨m, hm⟩ : ∃ m : Nat, k0 + k = m := ⟨_, rfl⟩
   have m1 : m ≤ 2000000 := by omega
   rw [hm]
   obtain ⟨a0, f0⟩ := V k _ (List.getElem?_eq_getElem (by omega))
   have HF : Hid (0 < n → ∃ (g' : Nat) (M' : List Value), (some ⟨g, 0, none⟩ : Option Addr) = some ⟨g', 0, none⟩ ∧ M'.length = n ∧ (∀ i, i < k + 1 → M'[i]? = some (numV (k0 + i))) ∧ Vec (wr.setCell ⟨g, k, none⟩ (.int .i64 m)) g' M') := fun _ => by
    refine ⟨g, M.set k (numV m), rfl, by simp [hM], fun i hi => ?_, V.put k (by omega) _⟩
    by_cases e : i = k
    ·
     subst e
     rw [List.getElem?_set_self (by omega), hm]
    ·
     rw [List.getElem?_set_ne (fun q => e q.symm)]
     exact HK.out i (by omega)
   have HG : Hid (w.grownBy (wr.setCell ⟨g, k, none⟩ (.int .i64 m)) row) := by
    show World.grownBy _ _ _
    rw [← hrg]
    exact grown_set (by rw [hrg]; exact HX.out) _
   obtain ⟨w2, hw2⟩ : ∃ q, wr.setCell ⟨g, k, none⟩ (.int .i64 m) = q := ⟨_, rfl⟩
   rw [hw2] at HF HG
   have hnx : ((m : Nat) : Int) + 1 = ((k0 + (k + 1) : Nat) : Int) := by omega
   generalize M[k] = u at a0
   clear H HX HK HMl V hM hK H2 hrg HRow hm
   go_wp2_with fail
   go_roundw
   case rel => exact ⟨k + 1, by omega, by go_num, by first | (rw [hnx]) | (congr 1), HF, HG⟩
   case measure => simp [intOf]; omega
  ·
   obtain rfl : k = n := by omega
   go_wp2_with fail
   go_ret
   refine ⟨rfl, ⟨p, cap, by rw [marksN_length], by rw [marksN_length]; exact hcap, fun h0 => ?_⟩, HX.out⟩
   rw [marksN_length] at h0
   obtain ⟨g, M, rfl, hM, hK, V⟩ := H.out h0
   refine ⟨g, rfl, fun i u hi => ?_⟩
   rw [List.getElem?_map] at hi
   have hik : i < k := by
    rcases Nat.lt_or_ge i k with h' | h'
    ·
     exact h'
    ·
     rw [List.getElem?_eq_none (by rw [marksN_length]; exact h')] at hi; cases hi
   rw [marksN_at _ _ _ hik] at hi
   exact V i u ((hK i hik).trans hi)
set_option maxRecDepth 8000 in
set_option maxHeartbeats 2000000 in
theorem heldNums (v : Value) (n k0 : Nat) (w : World) (h : NumsAt w v (marksN k0 n)) (hn : n ≤ 1048576) (h1 : 1 ≤ k0) (h2 : k0 ≤ 1000) :
  Calls Tryz.prog 17 #[v, .int .i64 k0] w fun e w' => e = .returned (.int .i64 ((k0 + n : Nat) : Int)) ∧ Ext w w' := by
 obtain ⟨p, cap, rfl, hcap, hp⟩ := h
 rw [marksN_length] at hcap hp ⊢
 have HV : Hid (0 < n → ∃ g, p = some ⟨g, 0, none⟩ ∧ Vec w g ((marksN k0 n).map numV)) := hp
 clear hp
 go_enter Tryz.func17, Tryz.ntmps17
 go_wp2_with fail
 go_loopw [1, 5] (fun a i wr => ∃ k : Nat, k ≤ n ∧ i = .int .i64 k ∧ a = .int .i64 ((k0 + k : Nat) : Int) ∧ Ext w wr) (fun _ i _ => n - (intOf i).toNat)
 case atStart => exact ⟨0, by omega, rfl, rfl, xr _⟩
 case round =>
  obtain ⟨k, hk, rfl, rfl, X⟩ := hrel
  by_cases hlt : k < n
  ·
   have i2 : (k : Int) < (n : Int) := by omega
   obtain ⟨m, hm⟩ : ∃ m, k0 + k = m := ⟨_, rfl⟩
   have m1 : m ≤ 2000000 := by omega
   obtain ⟨g, rfl, V⟩ := HV.out (by omega)
   have a0 := ((V.later X) k (numV m) (by rw [List.getElem?_map, marksN_at _ _ _ hlt, hm]; rfl)).1
   rw [hm]
   have hnx : ((m : Nat) : Int) + 1 = ((k0 + (k + 1) : Nat) : Int) := by omega
   clear V HV
   go_wp2_with fail
   go_roundw
   case rel => exact ⟨k + 1, by omega, by go_num, by first | (rw [hnx]) | (congr 1), ⟨X.os, X.tape, X.output, X.size, X.block⟩⟩
   case measure => simp [intOf]; omega
  ·
   obtain rfl : k = n := by omega
   go_wp2_with fail
   go_ret
   exact ⟨rfl, X⟩

end Go.Proofs.YtlofnhhoopefcaaGreatDoor

