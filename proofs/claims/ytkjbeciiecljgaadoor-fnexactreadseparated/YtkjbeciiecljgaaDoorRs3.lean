/-
  Chapter 14: rows of rows held against their marks; what ReadSeparated answers compared, marked, held.
-/
import Derived.Test.YtkjbeciiecljgaaDoorSs2
import Derived.Test.YtkjbeciiecljgaaDoorBx
namespace Go.Proofs.YtkjbeciiecljgaaDoor
open Go.RowKit

set_option maxRecDepth 8000 in
set_option maxHeartbeats 2000000 in
theorem heldStrs2 (v : Value) (n b k0 : Nat) (w : World) (h : TxtsOwn w v (marksT k0 n) b) (hn : n ≤ 3000000) (h1 : 1 ≤ k0) (h2 : k0 ≤ 3000000) :
    Calls Tryd.prog 24 #[v, .int .i64 k0] w fun e w' => e = .returned (.int .i64 ((k0 + n : Nat) : Int)) ∧ Ext w w' := by
  obtain ⟨p, cap, rfl, hcap, hp, V⟩ := h
  rw [marksT_length] at hcap hp ⊢
  by_cases h0 : 0 < n
  · obtain rfl := hp h0
    exact heldStrs b cap n k0 w V hcap hn h1 h2
  · obtain rfl : n = 0 := by omega
    clear hp V
    go_enter Tryd.func24, Tryd.ntmps24
    go_wp2_with fail
    go_loopw [1, 5] (fun a i wr => a = .int .i64 (k0 : Int) ∧ i = .int .i64 0 ∧ Ext w wr) (fun _ _ _ => 0)
    case atStart => exact ⟨rfl, rfl, xr _⟩
    case round =>
      obtain ⟨rfl, rfl, X⟩ := hrel
      go_wp2_with fail
      go_ret
      exact ⟨rfl, X⟩
set_option maxRecDepth 8000 in
set_option maxHeartbeats 2000000 in
theorem heldSS (v : Value) (L : List (List (List UInt8))) (lo hi k0 : Nat) (w : World) (h : SsOwn w lo hi v (marksL k0 L L.length)) (hn : szTT L ≤ 1048576) (h1 : 1 ≤ k0) (h2 : k0 ≤ 1000000) :
    Calls Tryd.prog 16 #[v, .int .i64 k0] w fun e w' => e = .returned (.int .i64 ((k0 + cntF L L.length : Nat) : Int)) ∧ Ext w w' := by
  obtain ⟨p, cap, vs, bs, rfl, hcap, hvs, hbs, h5, h6, h7⟩ := h
  rw [marksL_length] at hcap hvs hbs h5 ⊢
  obtain ⟨n, hl⟩ : ∃ n, L.length = n := ⟨_, rfl⟩
  have HN : Hid (L.length = n ∧ vs.length = n ∧ bs.length = n) := ⟨hl, by omega, by omega⟩
  have HZ : Hid (∀ k, cntF L k ≤ 1048576) := fun k => by
    have := cntF_le L k
    have h3 := lenTT_le L k
    unfold szTT at hn
    omega
  have hnb : n ≤ 1048576 := by unfold szTT at hn; omega
  have HS : Hid (∀ (k : Nat) (l : List (List UInt8)), L[k]? = some l → l.length ≤ 1048576) := fun k l he => by
    have h3 := lenTT_next he
    have h4 := lenTT_le L (k + 1)
    unfold szTT at hn
    have : l.length ≤ szT l := by unfold szT; omega
    omega
  have H5 : Hid (0 < L.length → ∃ b o, p = some ⟨b, o, none⟩ ∧ (∀ (j c : Nat), bs[j]? = some c → c ≠ b) ∧ ∀ (i : Nat) (u : Value), vs[i]? = some u → w.cell? ⟨b, o + i, none⟩ = some u) := h5
  have H6 : Hid (∀ (i : Nat) (u : Value) (l : List (List UInt8)) (b : Nat), vs[i]? = some u → L[i]? = some l → bs[i]? = some b → TxtsOwn w u (marksT (k0 + cntF L i) l.length) b) := fun i u l b hu hl' hb => by
    have hi : i < L.length := (List.getElem?_eq_some_iff.1 hl').1
    have := h6 i u (marksT (k0 + cntF L i) l.length) b hu (by rw [marksL_at hi, if_pos hi, List.getD, hl']; rfl) hb
    exact this.1
  have C0 : Hid (k0 + cntF L 0 = k0) := by show _ = _; simp [cntF]
  rw [hl] at hcap ⊢
  clear h5 h6 h7 hvs hbs hn hl
  go_enter Tryd.func16, Tryd.ntmps16
  go_wp2_with fail
  go_loopw [1, 5] (fun a i wr => ∃ k m : Nat, k ≤ n ∧ i = .int .i64 k ∧ a = .int .i64 (m : Int) ∧ Hid (m = k0 + cntF L k) ∧ Ext w wr) (fun _ i _ => n - (intOf i).toNat)
  case atStart => exact ⟨0, k0, by omega, rfl, rfl, C0.out.symm, xr _⟩
  case round =>
    clear C0
    obtain ⟨k, m, hk, rfl, rfl, HM, X⟩ := hrel
    by_cases hlt : k < n
    · have hkl : k < L.length := by rw [HN.out.1]; exact hlt
      obtain ⟨l, he⟩ : ∃ l, L[k]? = some l := ⟨_, List.getElem?_eq_getElem hkl⟩
      obtain ⟨u, hu⟩ : ∃ u, vs[k]? = some u := ⟨_, List.getElem?_eq_getElem (by rw [HN.out.2.1]; exact hlt)⟩
      obtain ⟨b, hb⟩ : ∃ b, bs[k]? = some b := ⟨_, List.getElem?_eq_getElem (by rw [HN.out.2.2]; exact hlt)⟩
      have T0 := (H6.out k u l b hu he hb).later X
      obtain ⟨g, o, rfl, _, q8⟩ := H5.out (by omega)
      have c1 := cell_later X (q8 k u hu)
      have hm := HM.out
      have mb := HZ.out k
      rw [← hm] at T0
      have CM := heldStrs2 u l.length b m wr T0 (by have := HS.out k l he; omega) (by omega) (by omega)
      have HC : Hid (m + l.length = k0 + cntF L (k + 1)) := by show _ = _; rw [cntF_next he, hm]; omega
      have i2 : (k : Int) < (n : Int) := by omega
      obtain ⟨p2, cap2, hsl, _⟩ := T0
      rw [marksT_length] at hsl
      subst hsl
      obtain ⟨z, hz⟩ : ∃ z, l.length = z := ⟨_, rfl⟩
      rw [hz] at c1 CM HC
      have hzb : z ≤ 1048576 := by rw [← hz]; exact HS.out k l he
      have hmb : m ≤ 3000000 := by omega
      clear he hu hb q8 HM hm mb hz
      go_wp2_with fail
      refine CM.mono ?_
      rintro e w1 ⟨rfl, e1⟩
      clear CM
      go_wp2_with fail
      go_roundw
      case rel => exact ⟨k + 1, m + z, by omega, by go_num, rfl, HC, xt X e1⟩
      case measure => simp [intOf]; omega
    · obtain rfl : k = n := by omega
      have hm := HM.out
      subst hm
      clear HM
      go_wp2_with fail
      go_ret
      exact ⟨rfl, X⟩
set_option maxRecDepth 8000 in
set_option maxHeartbeats 2000000 in
theorem eqRes (e a : Int) (u v : Value) (L : List (List (List UInt8))) (w : World) (hu : SsIn w u L) (hv : SsIn w v L) (hl : L.length ≤ 1048576) (hr : ∀ l ∈ L, l.length ≤ 1048576) :
    Calls Tryd.prog 6 #[.agg #[.int .i64 e, .int .i64 a, u], .agg #[.int .i64 e, .int .i64 a, v]] w fun z w' => z = .returned (.bool true) ∧ Ext w w' := by
  obtain ⟨u0, u1, h0, h1, s0, s1, B0, B1, X⟩ := mkB2 w [.int .i64 e, .int .i64 a, u] [.int .i64 e, .int .i64 a, v] 24 24
  obtain ⟨a0, a1, a2⟩ := Vec.three B0
  obtain ⟨b0, b1, b2⟩ := Vec.three B1
  go_enter Tryd.func6, Tryd.ntmps6
  go_wp2_with fail
  clear a0 a1 a2 b0 b1 b2 h0 h1 s0 s1
  refine (eqSS u v L u1 (hu.later X) (hv.later X) hl hr).mono ?_
  rintro z w1 ⟨rfl, e1⟩
  go_wp2_with fail
  go_ret
  exact ⟨rfl, xt X e1⟩
set_option maxRecDepth 8000 in
set_option maxHeartbeats 2000000 in
theorem markRes (e a : Int) (v : Value) (L : List (List (List UInt8))) (lo hi K : Nat) (w : World) (h : SsOwn w lo hi v L) (hn : szTT L ≤ 1048576) (hK : 1 + cntF L L.length = K) :
    Calls Tryd.prog 7 #[.agg #[.int .i64 e, .int .i64 a, v], .int .i64 1] w fun z w' => z = .returned (.int .i64 (K : Int)) ∧ SsOwn w' lo hi v (marksL 1 L L.length) ∧ ∃ wb, Ext w wb ∧ TurnedIn lo hi wb w' := by
  have X0 := x1 w (.cells #[.int .i64 e, .int .i64 a, v] 24)
  have B0 := vec_made w [.int .i64 e, .int .i64 a, v] 24
  change Vec (w.alloc (.cells #[.int .i64 e, .int .i64 a, v] 24)) _ _ at B0
  obtain ⟨wa, ha⟩ : ∃ wa, w.alloc (.cells #[.int .i64 e, .int .i64 a, v] 24) = wa := ⟨_, rfl⟩
  rw [ha] at X0 B0
  have C := markSS v L lo hi 1 wa (h.later X0) hn (by omega) (by omega)
  rw [hK] at C
  obtain ⟨a0, a1, a2⟩ := Vec.three B0
  obtain ⟨p, cap, vs, bs, rfl, -⟩ := h
  obtain ⟨n, hl⟩ : ∃ n, L.length = n := ⟨_, rfl⟩
  rw [hl] at C a2 B0 ha ⊢
  clear hK hl
  go_enter Tryd.func7, Tryd.ntmps7
  go_wp2_with fail
  clear a0 a1 a2 ha
  refine C.mono ?_
  rintro z w1 ⟨rfl, S1, T1⟩
  have HS : Hid _ := And.intro S1 T1
  clear C S1 T1
  go_wp2_with fail
  go_ret
  exact ⟨rfl, HS.out.1, wa, X0, HS.out.2⟩
set_option maxRecDepth 8000 in
set_option maxHeartbeats 2000000 in
theorem heldRes (e a : Int) (v : Value) (L : List (List (List UInt8))) (lo hi K : Nat) (w : World) (h : SsOwn w lo hi v (marksL 1 L L.length)) (hn : szTT L ≤ 1048576) (hK : 1 + cntF L L.length = K) :
    Calls Tryd.prog 8 #[.agg #[.int .i64 e, .int .i64 a, v], .int .i64 1] w fun z w' => z = .returned (.int .i64 (K : Int)) ∧ Ext w w' := by
  have X0 := x1 w (.cells #[.int .i64 e, .int .i64 a, v] 24)
  have B0 := vec_made w [.int .i64 e, .int .i64 a, v] 24
  change Vec (w.alloc (.cells #[.int .i64 e, .int .i64 a, v] 24)) _ _ at B0
  obtain ⟨wa, ha⟩ : ∃ wa, w.alloc (.cells #[.int .i64 e, .int .i64 a, v] 24) = wa := ⟨_, rfl⟩
  rw [ha] at X0 B0
  have C := heldSS v L lo hi 1 wa (h.later X0) hn (by omega) (by omega)
  rw [hK] at C
  obtain ⟨a0, a1, a2⟩ := Vec.three B0
  obtain ⟨p, cap, vs, bs, rfl, -⟩ := h
  rw [marksL_length] at C a2 B0 ha ⊢
  obtain ⟨n, hl⟩ : ∃ n, L.length = n := ⟨_, rfl⟩
  rw [hl] at C a2 B0 ha ⊢
  clear hK hl
  go_enter Tryd.func8, Tryd.ntmps8
  go_wp2_with fail
  clear a0 a1 a2 ha
  refine C.mono ?_
  rintro z w1 ⟨rfl, e1⟩
  go_wp2_with fail
  go_ret
  exact ⟨rfl, xt X0 e1⟩

end Go.Proofs.YtkjbeciiecljgaaDoor
