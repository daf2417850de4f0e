/-
  Chapter 14: sheets without names compared, marked, held against their marks.
-/
import Derived.Test.YtichaheefailoaaSh4
import Derived.Test.YtichaheefailoaaSs2
namespace Go.Proofs.Ytichaheefailoaa
open Go.RowKit

set_option maxHeartbeats 1000000 in
theorem eqCellC (r c : Int) (t : List UInt8) (w : World) : Calls Try.prog 38 #[.agg #[.int .i64 r, .int .i64 c, sV t], .agg #[.int .i64 r, .int .i64 c, sV t]] w fun e w' => e = .returned (.bool true) ∧ Ext w w' := by
  have X : ∀ o1 o2 : Obj, Ext w ((w.alloc o1).alloc o2) := fun o1 o2 => xa (x1 w o1) o2
  have hp : (t == t) = true := by simp
  go_enter Try.func38, Try.ntmps38
  go_wp2_with fail
  go_ret
  exact ⟨rfl, X _ _⟩
set_option maxRecDepth 8000 in
set_option maxHeartbeats 2000000 in
theorem eqCells (u v : Value) (l : List CE) (w : World) (hu : RowCE w u l) (hv : RowCE w v l) (hl : l.length ≤ 3000000) :
    Calls Try.prog 18 #[u, v] w fun e w' => e = .returned (.bool true) ∧ Ext w w' := by
  have H1 : Hid (RowCE w u l) := hu
  have H2 : Hid (RowCE w v l) := hv
  obtain ⟨p, cap, rfl, hcap, -⟩ := hu
  obtain ⟨p2, cap2, rfl, hcap2, -⟩ := hv
  obtain ⟨n, hn⟩ : ∃ n, l.length = n := ⟨_, rfl⟩
  have HN : Hid (l.length = n) := hn
  rw [hn] at hl hcap hcap2 H1 H2 ⊢
  clear hn
  go_enter Try.func18, Try.ntmps18
  go_wp2_with fail
  go_loopw [5] (fun i wr => ∃ k : Nat, k ≤ n ∧ i = .int .i64 k ∧ Ext w wr) (fun i _ => n - (intOf i).toNat)
  case atStart => exact ⟨0, by omega, rfl, xr _⟩
  case round =>
    obtain ⟨k, hk, rfl, X⟩ := hrel
    by_cases hlt : k < n
    · obtain ⟨e, he⟩ : ∃ e, l[k]? = some e := ⟨_, List.getElem?_eq_getElem (by rw [HN.out]; exact hlt)⟩
      obtain ⟨b, rfl, c0, c1, c2⟩ := (H1.out.later X).cells3 he
      obtain ⟨b2, rfl, d0, d1, d2⟩ := (H2.out.later X).cells3 he
      have i2 : (k : Int) < (n : Int) := by omega
      have CE1 := fun W => eqCellC e.r e.c e.t W
      clear he H1 H2
      go_wp2_with fail
      go_region_held3 (fun w' => w'.cell? ⟨b, k * 3, none⟩ = some (.int .i64 e.r) ∧ w'.cell? ⟨b, k * 3 + 1, none⟩ = some (.int .i64 e.c) ∧ w'.cell? ⟨b, k * 3 + 2, none⟩ = some (sV e.t) ∧ w'.cell? ⟨b2, k * 3, none⟩ = some (.int .i64 e.r) ∧ w'.cell? ⟨b2, k * 3 + 1, none⟩ = some (.int .i64 e.c) ∧ w'.cell? ⟨b2, k * 3 + 2, none⟩ = some (sV e.t)) (go_keep)
        (first
          | (go_at_call 38; refine (CE1 _).mono ?_; rintro e w' ⟨rfl, E⟩; have Y := xt (xd (xr _)) E; have r0 := cell_later Y c0; have r1 := cell_later Y c1; have r2 := cell_later Y c2; have s0 := cell_later Y d0; have s1 := cell_later Y d1; have s2 := cell_later Y d2))
      all_goals
        go_wp2_with fail
        go_roundw
        case rel => exact ⟨k + 1, by omega, by go_num, xt X Y⟩
        case measure => simp [intOf]; omega
    · obtain rfl : k = n := by omega
      go_wp2_with fail
      go_ret
      exact ⟨rfl, X⟩
set_option maxHeartbeats 1000000 in
theorem eqNoNames (w : World) : Calls Try.prog 19 #[.slice none 0 0, .slice none 0 0] w fun e w' => e = .returned (.bool true) ∧ w' = w := by
  go_enter Try.func19, Try.ntmps19
  go_wp2_with fail
  go_loop [5] (fun i => i = .int .i64 0) (fun _ => 0)
  case atStart => rfl
  case round =>
    subst hrel
    go_wp2_with fail
    go_ret
    exact ⟨rfl, rfl⟩
set_option maxHeartbeats 1000000 in
theorem eqSheets (u v : Value) (l : List CE) (w : World) (hu : RowCE w u l) (hv : RowCE w v l) (hl : l.length ≤ 3000000) :
    Calls Try.prog 8 #[.agg #[u, .slice none 0 0], .agg #[v, .slice none 0 0]] w fun e w' => e = .returned (.bool true) ∧ Ext w w' := by
  have C := fun W (x : Ext w W) => eqCells u v l W (hu.later x) (hv.later x) hl
  have C2 := fun W => eqNoNames W
  obtain ⟨p, cap, rfl, hcap, -⟩ := hu
  obtain ⟨p2, cap2, rfl, hcap2, -⟩ := hv
  obtain ⟨n, hn⟩ : ∃ n, l.length = n := ⟨_, rfl⟩
  rw [hn] at C ⊢
  clear hn hcap hcap2 hl
  have A0 := vec_made w [.slice p n cap, .slice none 0 0] 27
  have X0 := x1 w (.cells #[.slice p n cap, .slice none 0 0] 27)
  change Vec (w.alloc (.cells #[.slice p n cap, .slice none 0 0] 27)) _ _ at A0
  obtain ⟨wa, ha⟩ : ∃ q, w.alloc (.cells #[.slice p n cap, .slice none 0 0] 27) = q := ⟨_, rfl⟩
  rw [ha] at A0 X0
  have A1 := vec_made wa [.slice p2 n cap2, .slice none 0 0] 27
  have X1 := x1 wa (.cells #[.slice p2 n cap2, .slice none 0 0] 27)
  change Vec (wa.alloc (.cells #[.slice p2 n cap2, .slice none 0 0] 27)) _ _ at A1
  obtain ⟨wb, hb⟩ : ∃ q, wa.alloc (.cells #[.slice p2 n cap2, .slice none 0 0] 27) = q := ⟨_, rfl⟩
  rw [hb] at A1 X1
  have A0 := A0.later X1
  have a0 := (A0 0 _ rfl).1
  have a1 := (A0 1 _ rfl).1
  have b0 := (A1 0 _ rfl).1
  have b1 := (A1 1 _ rfl).1
  have HC := C wb (xt X0 X1)
  clear A0 A1 C
  go_enter Try.func8, Try.ntmps8
  go_wp2_with fail
  refine HC.mono ?_
  rintro _ w1 ⟨rfl, e1⟩
  have a1 := cell_later e1 a1
  have b1 := cell_later e1 b1
  go_wp2_with fail
  refine (C2 _).mono ?_
  rintro _ w2 ⟨rfl, rfl⟩
  go_wp2_with fail
  go_ret
  exact ⟨rfl, xt X0 (xt X1 e1)⟩

/-- A row of cells in a block. -/
def CellV (w : World) (v : Value) (l : List CE) (g : Nat) : Prop := ∃ p cap, v = .slice p l.length cap ∧ l.length ≤ cap ∧ (0 < l.length → p = some ⟨g, 0, none⟩) ∧ Vec w g (l.flatMap CE.cells)
theorem CellV.later {w w' : World} {v : Value} {l : List CE} {g : Nat} (h : CellV w v l g) (x : Ext w w') : CellV w' v l g := by
  obtain ⟨p, cap, h1, h2, h3, h4⟩ := h
  exact ⟨p, cap, h1, h2, h3, h4.later x⟩
theorem CellV.turned {w w' : World} {v : Value} {l : List CE} {g lo hi : Nat} (h : CellV w v l g) (x : TurnedIn lo hi w w') (hg : g < lo ∨ hi ≤ g) : CellV w' v l g := by
  obtain ⟨p, cap, h1, h2, h3, h4⟩ := h
  exact ⟨p, cap, h1, h2, h3, x.vec g _ hg h4⟩
theorem CellV.row {w : World} {v : Value} {l : List CE} {g : Nat} (h : CellV w v l g) : RowCE w v l := by
  obtain ⟨p, cap, h1, h2, h3, h4⟩ := h
  exact ⟨p, cap, h1, h2, fun h0 => ⟨g, h3 h0, fun i e hi c u hc => (h4 (i * 3 + c) u (flatC_at l i e hi c u hc)).1⟩⟩
theorem ownC_cellV {w : World} {base : Nat} {v : Value} {l : List CE} (h : OwnC w base v l) (hb : base < w.heap.size) : ∃ g, base ≤ g ∧ g < w.heap.size ∧ CellV w v l g := by
  obtain ⟨p, cap, hv, hc⟩ := ownC_slice h
  rcases h.2 with ⟨hz, h0⟩ | ⟨g, cap', cur, hs, hbg, hg, hnc, _, hcs, htake⟩
  · have : l = [] := List.eq_nil_of_length_eq_zero h0
    subst this
    exact ⟨base, Nat.le_refl _, hb, p, cap, hv, hc, fun h => by simp at h, fun i u hi => by simp at hi⟩
  · have hlt : g < w.heap.size := (ownC_lt h g (by rw [hs]; rfl)).2
    refine ⟨g, hbg, hlt, p, cap, hv, hc, fun _ => by rw [hv] at hs; cases hs; rfl, fun i u hi => ?_⟩
    have hc1 := h.cells (g := g) (by rw [hs]; rfl) i u hi
    rw [Addr.add_lit, Nat.zero_add] at hc1
    refine ⟨hc1, ?_⟩
    unfold World.frozen?
    rw [hg]
    simp
/-- The marks. -/
def markC (k0 n : Nat) : List CE := (List.range n).map fun i => ⟨k0 + 3 * i, k0 + 3 * i + 1, markT (k0 + 3 * i + 2)⟩
theorem markC_length (k0 n : Nat) : (markC k0 n).length = n := by simp [markC]
theorem markC_at {k0 n i : Nat} (h : i < n) : (markC k0 n)[i]? = some ⟨k0 + 3 * i, k0 + 3 * i + 1, markT (k0 + 3 * i + 2)⟩ := by
  unfold markC
  rw [List.getElem?_map, List.getElem?_range h]
  rfl
theorem flatC_length (l : List CE) : (l.flatMap CE.cells).length = l.length * 3 := by
  induction l with
  | nil => rfl
  | cons e l ih => rw [List.flatMap_cons, List.length_append, ih]; simp; omega
theorem flatC_get {l : List CE} {i : Nat} {u : Value} (h : (l.flatMap CE.cells)[i]? = some u) : ∃ e, l[i / 3]? = some e ∧ e.cells[i % 3]? = some u := by
  have hi := (List.getElem?_eq_some_iff.1 h).1
  rw [flatC_length] at hi
  have hq : i / 3 < l.length := by omega
  have h3 : i % 3 < 3 := Nat.mod_lt _ (by decide)
  have hc : (l[i / 3]).cells[i % 3]? = some ((l[i / 3]).cells[i % 3]'h3) := List.getElem?_eq_getElem h3
  refine ⟨l[i / 3], List.getElem?_eq_getElem hq, ?_⟩
  have := flatC_at l (i / 3) _ (List.getElem?_eq_getElem hq) (i % 3) _ hc
  rw [show i / 3 * 3 + i % 3 = i by omega, h] at this
  rw [hc]
  exact this.symm

set_option maxRecDepth 8000 in
set_option maxHeartbeats 2000000 in
theorem markCells (v : Value) (l : List CE) (g k0 : Nat) (w : World) (h : CellV w v l g) (hn : l.length ≤ 1000) (h1 : 1 ≤ k0) (h2 : k0 ≤ 1000) :
    Calls Try.prog 22 #[v, .int .i64 k0] w fun e w' => e = .returned (.int .i64 ((k0 + 3 * l.length : Nat) : Int)) ∧ CellV w' v (markC k0 l.length) g ∧ TurnedIn g (g + 1) w w' := by
  obtain ⟨p, cap, rfl, hcap, hp, V⟩ := h
  obtain ⟨n, hl⟩ : ∃ n, l.length = n := ⟨_, rfl⟩
  have HP : Hid (0 < n → p = some ⟨g, 0, none⟩) := by rw [← hl]; exact hp
  have H0 : Hid (∃ M : List Value, M.length = n * 3 ∧ Vec w g M ∧ ∀ i, i < 0 → M[i * 3]? = some (.int .i64 ((k0 + 3 * i : Nat) : Int)) ∧ M[i * 3 + 1]? = some (.int .i64 ((k0 + 3 * i + 1 : Nat) : Int)) ∧ M[i * 3 + 2]? = some (sV (markT (k0 + 3 * i + 2)))) := ⟨l.flatMap CE.cells, by rw [flatC_length, hl], V, fun i hi => by omega⟩
  rw [hl] at hcap hn ⊢
  clear V hp hl
  go_enter Try.func22, Try.ntmps22
  go_wp2_with fail
  go_loopw [1, 5] (fun a i wr => ∃ k m : Nat, k ≤ n ∧ i = .int .i64 k ∧ a = .int .i64 (m : Int) ∧ Hid (m = k0 + 3 * k) ∧ Hid (∃ M : List Value, M.length = n * 3 ∧ Vec wr g M ∧ ∀ i, i < k → M[i * 3]? = some (.int .i64 ((k0 + 3 * i : Nat) : Int)) ∧ M[i * 3 + 1]? = some (.int .i64 ((k0 + 3 * i + 1 : Nat) : Int)) ∧ M[i * 3 + 2]? = some (sV (markT (k0 + 3 * i + 2)))) ∧ Hid (TurnedIn g (g + 1) w wr)) (fun _ i _ => n - (intOf i).toNat)
  case atStart => exact ⟨0, k0, by omega, rfl, rfl, rfl, H0, TurnedIn.refl _ _ w⟩
  case round =>
    clear H0
    obtain ⟨k, m, hk, rfl, rfl, HE, HM, HT⟩ := hrel
    by_cases hlt : k < n
    · obtain rfl := HP.out (by omega)
      have i2 : (k : Int) < (n : Int) := by omega
      have hm := HE.out
      have mb : m ≤ 5000 := by omega
      have CM := fun W => markTextL (m + 2) W (by omega) (by omega)
      obtain ⟨M, q1, q2, q3⟩ := HM.out
      have V1 := q2.put (k * 3) (by omega) (.int .i64 (m : Int))
      have V2 := V1.put (k * 3 + 1) (by simp; omega) (.int .i64 ((m : Int) + 1))
      have U1 := (HT.out.put g (k * 3) (by omega) (.int .i64 (m : Int))).put g (k * 3 + 1) (by omega) (.int .i64 ((m : Int) + 1))
      obtain ⟨v0, hv0⟩ : ∃ v, M[k * 3]? = some v := ⟨_, List.getElem?_eq_getElem (by omega)⟩
      obtain ⟨v1, hv1⟩ : ∃ v, M[k * 3 + 1]? = some v := ⟨_, List.getElem?_eq_getElem (by omega)⟩
      have c0 := q2 _ _ hv0
      have c1 := V1 (k * 3 + 1) v1 (by rw [List.getElem?_set_ne (by omega)]; exact hv1)
      obtain ⟨wa, hwa⟩ : ∃ q, wr.setCell ⟨g, k * 3, none⟩ (.int .i64 (m : Int)) = q := ⟨_, rfl⟩
      rw [hwa] at V2 U1 c1
      obtain ⟨wb, hwb⟩ : ∃ q, wa.setCell ⟨g, k * 3 + 1, none⟩ (.int .i64 ((m : Int) + 1)) = q := ⟨_, rfl⟩
      rw [hwb] at V2 U1
      obtain ⟨a0, b0⟩ := c0
      obtain ⟨a1, b1⟩ := c1
      have hm2 : (m : Int) + 1 + 1 = ((m + 2 : Nat) : Int) := by omega
      have HV2 : Hid (Vec wb g ((M.set (k * 3) (.int .i64 (m : Int))).set (k * 3 + 1) (.int .i64 ((m : Int) + 1)))) := V2
      have HU1 : Hid (TurnedIn g (g + 1) w wb) := U1
      have HQ1 : Hid (M.length = n * 3 ∧ ∀ i, i < k → M[i * 3]? = some (.int .i64 ((k0 + 3 * i : Nat) : Int)) ∧ M[i * 3 + 1]? = some (.int .i64 ((k0 + 3 * i + 1 : Nat) : Int)) ∧ M[i * 3 + 2]? = some (sV (markT (k0 + 3 * i + 2)))) := ⟨q1, q3⟩
      clear V1 V2 U1 hv0 hv1 HM HT q2 q3 q1 hm
      go_wp2_with fail
      refine (CM _).mono ?_
      rintro e w1 ⟨rfl, e1⟩
      obtain ⟨q1, q3⟩ := HQ1.out
      have V3 := HV2.out.later e1
      obtain ⟨v2, hv2⟩ : ∃ v, ((M.set (k * 3) (.int .i64 (m : Int))).set (k * 3 + 1) (.int .i64 ((m : Int) + 1)))[k * 3 + 2]? = some v := ⟨_, List.getElem?_eq_getElem (by simp; omega)⟩
      obtain ⟨a2, b2⟩ := V3 _ _ hv2
      have hm := HE.out
      have HQ : Hid (∃ M : List Value, M.length = n * 3 ∧ Vec (w1.setCell ⟨g, k * 3 + 2, none⟩ (sV (markT (m + 2)))) g M ∧ ∀ i, i < k + 1 → M[i * 3]? = some (.int .i64 ((k0 + 3 * i : Nat) : Int)) ∧ M[i * 3 + 1]? = some (.int .i64 ((k0 + 3 * i + 1 : Nat) : Int)) ∧ M[i * 3 + 2]? = some (sV (markT (k0 + 3 * i + 2)))) := by
        refine ⟨_, ?_, V3.put (k * 3 + 2) (by simp; omega) _, fun i hi => ?_⟩
        · simp [q1]
        · by_cases e : i = k
          · subst e
            refine ⟨?_, ?_, ?_⟩
            · rw [List.getElem?_set_ne (by omega), List.getElem?_set_ne (by omega), List.getElem?_set_self (by omega), hm]
            · rw [List.getElem?_set_ne (by omega), List.getElem?_set_self (by simp; omega), hm]
              congr 2
            · rw [List.getElem?_set_self (by simp; omega), hm]
          · rw [List.getElem?_set_ne (by omega), List.getElem?_set_ne (by omega), List.getElem?_set_ne (by omega), List.getElem?_set_ne (by omega), List.getElem?_set_ne (by omega), List.getElem?_set_ne (by omega), List.getElem?_set_ne (by omega), List.getElem?_set_ne (by omega), List.getElem?_set_ne (by omega)]
            exact q3 i (by omega)
      have HU : Hid (TurnedIn g (g + 1) w (w1.setCell ⟨g, k * 3 + 2, none⟩ (sV (markT (m + 2))))) := (HU1.out.step e1).put g _ (by omega) _
      obtain ⟨w2, hw2⟩ : ∃ q, w1.setCell ⟨g, k * 3 + 2, none⟩ (sV (markT (m + 2))) = q := ⟨_, rfl⟩
      rw [hw2] at HQ HU
      have HE2 : Hid (m + 3 = k0 + 3 * (k + 1)) := by show _ = _; omega
      clear HE V3 q3 e1 hv2 hm HV2 HU1 HQ1
      go_wp2_with fail
      go_roundw
      case rel => exact ⟨k + 1, m + 3, by omega, by go_num, by first | rfl | (congr 1; done) | (congr 1; omega), HE2, HQ, HU⟩
      case measure => simp [intOf]; omega
    · obtain rfl : k = n := by omega
      have hm := HE.out
      subst hm
      have HF : Hid (Vec wr g ((markC k0 k).flatMap CE.cells)) := by
        obtain ⟨M, q1, q2, q3⟩ := HM.out
        intro i v hi
        obtain ⟨e, he, hc⟩ := flatC_get hi
        have hik : i / 3 < k := by have := (List.getElem?_eq_some_iff.1 he).1; rw [markC_length] at this; exact this
        rw [markC_at hik] at he
        cases he
        obtain ⟨z0, z1, z2⟩ := q3 (i / 3) hik
        have h3 : i % 3 = 0 ∨ i % 3 = 1 ∨ i % 3 = 2 := by omega
        refine q2 i v ?_
        rcases h3 with h3 | h3 | h3
        · rw [h3] at hc
          rw [show i = i / 3 * 3 by omega, z0]; exact hc
        · rw [h3] at hc
          rw [show i = i / 3 * 3 + 1 by omega, z1]; exact hc
        · rw [h3] at hc
          rw [show i = i / 3 * 3 + 2 by omega, z2]; exact hc
      clear HM HE
      go_wp2_with fail
      go_ret
      exact ⟨rfl, ⟨p, cap, by rw [markC_length], by rw [markC_length]; exact hcap, fun h => HP.out (by rw [markC_length] at h; exact h), HF.out⟩, HT.out⟩

set_option maxRecDepth 8000 in
set_option maxHeartbeats 2000000 in
theorem heldCells (v : Value) (n g k0 : Nat) (w : World) (h : CellV w v (markC k0 n) g) (hn : n ≤ 1000) (h1 : 1 ≤ k0) (h2 : k0 ≤ 1000) :
    Calls Try.prog 24 #[v, .int .i64 k0] w fun e w' => e = .returned (.int .i64 ((k0 + 3 * n : Nat) : Int)) ∧ Ext w w' := by
  have HV : Hid (RowCE w v (markC k0 n)) := h.row
  obtain ⟨p, cap, rfl, hcap, -, -⟩ := h
  rw [markC_length] at hcap HV ⊢
  go_enter Try.func24, Try.ntmps24
  go_wp2_with fail
  go_loopw [1, 5] (fun a i wr => ∃ k m : Nat, k ≤ n ∧ i = .int .i64 k ∧ a = .int .i64 (m : Int) ∧ Hid (m = k0 + 3 * k) ∧ Ext w wr) (fun _ i _ => n - (intOf i).toNat)
  case atStart => exact ⟨0, k0, by omega, rfl, rfl, rfl, xr _⟩
  case round =>
    obtain ⟨k, m, hk, rfl, rfl, HE, X⟩ := hrel
    by_cases hlt : k < n
    · have i2 : (k : Int) < (n : Int) := by omega
      have hm := HE.out
      have mb : m ≤ 5000 := by omega
      obtain ⟨b, rfl, c0, c1, c2⟩ := (HV.out.later X).cells3 (markC_at hlt)
      dsimp only at c0 c1 c2
      rw [← hm] at c0 c1 c2
      have c1' : wr.cell? ⟨b, k * 3 + 1, none⟩ = some (.int .i64 ((m : Int) + 1)) := c1
      have hm2 : (m : Int) + 1 + 1 = ((m + 2 : Nat) : Int) := by omega
      obtain ⟨z, hz⟩ : ∃ z, m + 2 = z := ⟨_, rfl⟩
      rw [hz] at c2 hm2
      obtain ⟨T, hT⟩ : ∃ T, markT z = T := ⟨_, rfl⟩
      have CM : Hid (∀ W, Calls Try.prog 40 #[.int .i64 z] W fun e w' => e = .returned (sV T) ∧ Ext W w') := fun W => by rw [← hT]; exact markTextL z W (by omega) (by omega)
      have hp : (T == T) = true := by simp
      rw [hT] at c2
      have hz1 : (z : Int) + 1 = ((m + 3 : Nat) : Int) := by omega
      have HE2 : Hid (m + 3 = k0 + 3 * (k + 1)) := by show _ = _; omega
      clear hT HE hm c1
      go_wp2_with fail
      go_region_held3 (fun w' => w'.cell? ⟨b, k * 3 + 2, none⟩ = some (sV T)) (go_keep)
        (first
          | (go_at_call 40; refine (CM.out _).mono ?_; rintro e w' ⟨rfl, E⟩; have Y := xt (xd (xr _)) E; have r0 := cell_later Y c2))
      all_goals
        go_wp2_with fail
        go_roundw
        case rel => exact ⟨k + 1, m + 3, by omega, by go_num, by first | (rw [hz1]) | rfl | (congr 1; omega), HE2, xt X Y⟩
        case measure => simp [intOf]; omega
    · obtain rfl : k = n := by omega
      have hm := HE.out
      subst hm
      clear HE
      go_wp2_with fail
      go_ret
      exact ⟨rfl, X⟩
set_option maxHeartbeats 1000000 in
theorem markNoNames (k : Int) (w : World) : Calls Try.prog 23 #[.slice none 0 0, .int .i64 k] w fun e w' => e = .returned (.int .i64 k) ∧ w' = w := by
  go_enter Try.func23, Try.ntmps23
  go_wp2_with fail
  go_loop [1, 5] (fun a i => i = .int .i64 0 ∧ a = .int .i64 k) (fun _ _ => 0)
  case atStart => exact ⟨rfl, rfl⟩
  case round =>
    obtain ⟨rfl, rfl⟩ := hrel
    go_wp2_with fail
    go_ret
    exact ⟨rfl, rfl⟩
set_option maxHeartbeats 1000000 in
theorem heldNoNames (k : Int) (w : World) : Calls Try.prog 25 #[.slice none 0 0, .int .i64 k] w fun e w' => e = .returned (.int .i64 k) ∧ w' = w := by
  go_enter Try.func25, Try.ntmps25
  go_wp2_with fail
  go_loop [1, 5] (fun a i => i = .int .i64 0 ∧ a = .int .i64 k) (fun _ _ => 0)
  case atStart => exact ⟨rfl, rfl⟩
  case round =>
    obtain ⟨rfl, rfl⟩ := hrel
    go_wp2_with fail
    go_ret
    exact ⟨rfl, rfl⟩
set_option maxHeartbeats 1000000 in
theorem markSheets (v : Value) (l : List CE) (g : Nat) (w : World) (h : CellV w v l g) (hn : l.length ≤ 1000) (hg : g < w.heap.size) :
    Calls Try.prog 11 #[.agg #[v, .slice none 0 0], .int .i64 1] w fun e w' => e = .returned (.int .i64 ((1 + 3 * l.length : Nat) : Int)) ∧ CellV w' v (markC 1 l.length) g ∧ TurnedIn g (g + 1) w w' := by
  have C := fun W (x : Ext w W) => markCells v l g 1 W (h.later x) hn (by omega) (by omega)
  obtain ⟨p, cap, rfl, hcap, -, -⟩ := h
  have C2 := fun W => markNoNames ((1 + 3 * l.length : Nat) : Int) W
  obtain ⟨n, hl⟩ : ∃ n, l.length = n := ⟨_, rfl⟩
  rw [hl] at C C2 ⊢
  obtain ⟨K, hK⟩ : ∃ K, 1 + 3 * n = K := ⟨_, rfl⟩
  rw [hK] at C C2 ⊢
  clear hcap hn hl hK
  have A0 := vec_made w [.slice p n cap, .slice none 0 0] 27
  have X0 := x1 w (.cells #[.slice p n cap, .slice none 0 0] 27)
  change Vec (w.alloc (.cells #[.slice p n cap, .slice none 0 0] 27)) _ _ at A0
  obtain ⟨wa, ha⟩ : ∃ q, w.alloc (.cells #[.slice p n cap, .slice none 0 0] 27) = q := ⟨_, rfl⟩
  rw [ha] at A0 X0
  have a0 := (A0 0 _ rfl).1
  have CC := C wa X0
  have HA : Hid (Vec wa w.heap.size [.slice p n cap, .slice none 0 0]) := A0
  clear C A0
  go_enter Try.func11, Try.ntmps11
  go_wp2_with fail
  refine CC.mono ?_
  rintro _ w1 ⟨rfl, V1, T1⟩
  have a1 := (T1.vec w.heap.size _ (by omega) HA.out 1 _ rfl).1
  have HT : Hid (TurnedIn g (g + 1) w w1) := ⟨fun a ha hl => T1.ext a (xt ha X0) hl, fun b L hb hL => T1.vec b L hb (hL.later X0), Nat.le_trans X0.size T1.size, fun a u ha hu => T1.cell a u ha (cell_later X0 hu)⟩
  have HV : Hid _ := V1
  clear T1 CC V1
  go_wp2_with fail
  refine (C2 _).mono ?_
  rintro _ w2 ⟨rfl, rfl⟩
  go_wp2_with fail
  go_ret
  exact ⟨rfl, HV.out, HT.out⟩
set_option maxHeartbeats 1000000 in
theorem heldSheets (v : Value) (n g : Nat) (w : World) (h : CellV w v (markC 1 n) g) (hn : n ≤ 1000) :
    Calls Try.prog 12 #[.agg #[v, .slice none 0 0], .int .i64 1] w fun e w' => e = .returned (.int .i64 ((1 + 3 * n : Nat) : Int)) ∧ Ext w w' := by
  have C := fun W (x : Ext w W) => heldCells v n g 1 W (h.later x) hn (by omega) (by omega)
  obtain ⟨p, cap, rfl, hcap, -, -⟩ := h
  have C2 := fun W => heldNoNames ((1 + 3 * n : Nat) : Int) W
  rw [markC_length] at C ⊢
  obtain ⟨K, hK⟩ : ∃ K, 1 + 3 * n = K := ⟨_, rfl⟩
  rw [hK] at C C2 ⊢
  clear hcap hn hK
  have A0 := vec_made w [.slice p n cap, .slice none 0 0] 27
  have X0 := x1 w (.cells #[.slice p n cap, .slice none 0 0] 27)
  change Vec (w.alloc (.cells #[.slice p n cap, .slice none 0 0] 27)) _ _ at A0
  obtain ⟨wa, ha⟩ : ∃ q, w.alloc (.cells #[.slice p n cap, .slice none 0 0] 27) = q := ⟨_, rfl⟩
  rw [ha] at A0 X0
  have a0 := (A0 0 _ rfl).1
  have a1 := (A0 1 _ rfl).1
  have CC := C wa X0
  have f1 : decide ((K : Int) < 0) = false := by simp
  clear C A0
  go_enter Try.func12, Try.ntmps12
  go_wp2_with fail
  refine CC.mono ?_
  rintro _ w1 ⟨rfl, e1⟩
  have a1 := cell_later e1 a1
  go_wp2_with fail
  refine (C2 _).mono ?_
  rintro _ w2 ⟨rfl, rfl⟩
  go_wp2_with fail
  go_ret
  exact ⟨rfl, xt X0 e1⟩

end Go.Proofs.Ytichaheefailoaa
