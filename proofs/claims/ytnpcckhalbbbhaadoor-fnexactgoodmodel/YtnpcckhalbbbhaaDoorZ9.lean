/-
  Chapter 13: rows of limits and models handed over and compared.
-/
import Derived.Test.YtnpcckhalbbbhaaDoorZ8
namespace Go.Proofs.YtnpcckhalbbbhaaDoor
open Go.RowKit

set_option maxRecDepth 8000 in
set_option maxHeartbeats 2000000 in
theorem toLimits (v : Value) (l : List LT) (w : World) (h : LimitsIn w v l) (hl : l.length ≤ 1048576) (hc : ∀ e ∈ l, e.cf.length ≤ 1048576) :
    Calls Tryd.prog 14 #[v] w fun e w' => (∃ g M, e = .returned (.slice (some ⟨g, 0, none⟩) l.length l.length) ∧ w.heap.size ≤ g ∧ OwnLc w' g M ∧ ZipL w' g l M l.length) ∧ Ext w w' := by
  obtain ⟨p, cap, rfl, hcap, hrow⟩ := h
  obtain ⟨n, hn⟩ : ∃ n, l.length = n := ⟨_, rfl⟩
  have HN : Hid (l.length = n) := hn
  have hmk := makeRowLc n (by omega)
  have O0 := OwnLc.made w n 46
  have X0 := x1 w (.cells (madeCells #[.slice none 0 0, sV [], .bool false, .int .i64 0, .int .i64 0] (n * 5)) 46)
  rw [hn] at hcap hl hrow ⊢
  have HRow : Hid (0 < n → ∃ b o, p = some ⟨b, o, none⟩ ∧ RowL w b o l) := hrow
  have HC : Hid (∀ e ∈ l, e.cf.length ≤ 1048576) := hc
  obtain ⟨wa, ha⟩ : ∃ wa, w.alloc (.cells (madeCells #[.slice none 0 0, sV [], .bool false, .int .i64 0, .int .i64 0] (n * 5)) 46) = wa := ⟨_, rfl⟩
  have sa : w.heap.size < wa.heap.size := by rw [← ha, World.size_alloc]; omega
  rw [ha] at O0 X0
  obtain ⟨g, hg⟩ : ∃ g, w.heap.size = g := ⟨_, rfl⟩
  have HG : Hid (w.heap.size ≤ g) := by show _ ≤ _; omega
  have HS : Hid (g < wa.heap.size) := by show _ < _; omega
  rw [hg] at O0
  have HO : Hid (OwnLc wa g ([] ++ List.replicate (n - 0) zeroLC) ∧ ZipL wa g l [] 0) := ⟨O0, rfl, fun i e hi => absurd hi (by omega)⟩
  clear hn hrow O0 hc sa
  go_enter Tryd.func14, Tryd.ntmps14
  go_wp2_with fail
  clear hmk ha
  go_loopw [4] (fun i wr => ∃ k : Nat, k ≤ n ∧ i = .int .i64 k ∧ Hid (∃ M, OwnLc wr g (M ++ List.replicate (n - k) zeroLC) ∧ ZipL wr g l M k) ∧ Hid (g < wr.heap.size) ∧ Ext w wr) (fun i _ => n - (intOf i).toNat)
  case atStart => exact ⟨0, by omega, rfl, ⟨[], HO.out⟩, HS, X0⟩
  case round =>
    obtain ⟨k, hk, rfl, HK, HSz, X⟩ := hrel
    by_cases hlt : k < n
    · obtain ⟨e, he⟩ : ∃ e, l[k]? = some e := ⟨_, List.getElem?_eq_getElem (by rw [HN.out]; exact hlt)⟩
      obtain ⟨b, o, rfl, hR⟩ := HRow.out (by omega)
      obtain ⟨cv, hdc, a0, a1, a2, a3, a4⟩ := (hR.later X) k e he
      have HE : Hid (l[k]? = some e) := he
      have CT := toLimit cv e wr hdc (HC.out e (List.mem_of_getElem? he))
      have HCT : Hid (Calls Tryd.prog 26 #[.agg #[cv, sV e.op, .bool e.rt.ng, .int .i64 e.rt.dg, .int .i64 e.rt.ex]] wr fun z w' => ∃ b, z = .returned (.agg #[ownS b e.cf.length, sV e.op, .bool e.rt.ng, .int .i64 e.rt.dg, .int .i64 e.rt.ex]) ∧ wr.heap.size ≤ b ∧ OwnDc w' b e.cf ∧ Ext wr w') := CT
      obtain ⟨N, hN⟩ : ∃ N, e.cf.length = N := ⟨_, rfl⟩
      have HNc : Hid (e.cf.length = N) := hN
      rw [hN] at HCT
      clear CT hdc hN
      obtain ⟨cf, op, ⟨en, ed, ex⟩⟩ := e
      have i2 : (k : Int) < (n : Int) := by omega
      clear hR he
      dsimp only at a0 a1 a2 a3 a4 HCT HNc
      go_wp2_with fail
      clear a0 a1 a2 a3 a4
      refine HCT.out.mono ?_
      rintro r w' ⟨b2, rfl, hb2, OD, E⟩
      obtain ⟨M, OM, ZM⟩ := HK.out
      have OM' := OM.later E
      have ZM' := ZM.later E
      have hM := ZM.1
      obtain ⟨⟨b0, b1, b2', b3, b4⟩, f0, f1, f2, f3, f4⟩ := OM'.all (zlc_at hM hlt)
      have X' := xt X E
      have hgb : g < b2 := by have := HSz.out; omega
      have hsz : g < w'.heap.size := by have := HSz.out; have := E.size; omega
      have P1 := OM'.put (k := k) (by simp [hM]; omega) (LC.of ⟨cf, op, ⟨en, ed, ex⟩⟩ (ownS b2 N))
      rw [zlc_set hM hlt] at P1
      have Z1 := ((((ZM'.far (k * 5) (ownS b2 N)).far (k * 5 + 1) (sV op)).far (k * 5 + 2) (.bool en)).far (k * 5 + 3) (.int .i64 ed)).far (k * 5 + 4) (.int .i64 ex)
      have D1 := ((((OD.far (p := ⟨g, k * 5, none⟩) (by show g ≠ _; omega) (ownS b2 N)).far (p := ⟨g, k * 5 + 1, none⟩) (by show g ≠ _; omega) (sV op)).far (p := ⟨g, k * 5 + 2, none⟩) (by show g ≠ _; omega) (.bool en)).far (p := ⟨g, k * 5 + 3, none⟩) (by show g ≠ _; omega) (.int .i64 ed)).far (p := ⟨g, k * 5 + 4, none⟩) (by show g ≠ _; omega) (.int .i64 ex)
      have XY := xset (xset (xset (xset (xset X' (p := ⟨g, k * 5, none⟩) HG.out (ownS b2 N)) (p := ⟨g, k * 5 + 1, none⟩) HG.out (sV op)) (p := ⟨g, k * 5 + 2, none⟩) HG.out (.bool en)) (p := ⟨g, k * 5 + 3, none⟩) HG.out (.int .i64 ed)) (p := ⟨g, k * 5 + 4, none⟩) HG.out (.int .i64 ex)
      obtain ⟨wy, hy⟩ : ∃ wy, ((((w'.setCell ⟨g, k * 5, none⟩ (ownS b2 N)).setCell ⟨g, k * 5 + 1, none⟩ (sV op)).setCell ⟨g, k * 5 + 2, none⟩ (.bool en)).setCell ⟨g, k * 5 + 3, none⟩ (.int .i64 ed)).setCell ⟨g, k * 5 + 4, none⟩ (.int .i64 ex) = wy := ⟨_, rfl⟩
      have hsy : g < wy.heap.size := by rw [← hy]; simpa using hsz
      change OwnLc (((((w'.setCell ⟨g, k * 5, none⟩ (ownS b2 N)).setCell ⟨g, k * 5 + 1, none⟩ (sV op)).setCell ⟨g, k * 5 + 2, none⟩ (.bool en)).setCell ⟨g, k * 5 + 3, none⟩ (.int .i64 ed)).setCell ⟨g, k * 5 + 4, none⟩ (.int .i64 ex)) _ _ at P1
      rw [hy] at P1 Z1 D1 XY
      have HQ : Hid (∃ M, OwnLc wy g (M ++ List.replicate (n - (k + 1)) zeroLC) ∧ ZipL wy g l M (k + 1)) := ⟨_, P1, by have := Z1.snoc HE.out hgb D1; rw [show (LT.mk cf op ⟨en, ed, ex⟩).cf.length = N from HNc.out] at this; exact this⟩
      have HX : Hid (Ext w wy) := XY
      have HSy : Hid (g < wy.heap.size) := hsy
      have bb0 : w'.cell? ⟨g, k * 5, none⟩ = some (.slice none 0 0) := b0
      have bb1 : w'.cell? ⟨g, k * 5 + 1, none⟩ = some (sV []) := b1
      have bb2 : w'.cell? ⟨g, k * 5 + 2, none⟩ = some (.bool false) := b2'
      have bb3 : w'.cell? ⟨g, k * 5 + 3, none⟩ = some (.int .i64 0) := b3
      have bb4 : w'.cell? ⟨g, k * 5 + 4, none⟩ = some (.int .i64 0) := b4
      clear HK OM ZM OM' ZM' P1 Z1 D1 XY X X' E HCT OD hsy hsz b0 b1 b2' b3 b4 hM
      go_wp2_with fail
      go_roundw
      case rel => exact ⟨k + 1, by omega, by go_num, HQ, HSy, HX.out⟩
      case measure => simp [intOf]; omega
    · obtain rfl : k = n := by omega
      have HF : Hid (∃ M, OwnLc wr g M ∧ ZipL wr g l M k) := by
        obtain ⟨M, h1, h2⟩ := HK.out
        refine ⟨M, ?_, h2⟩
        rw [Nat.sub_self, List.replicate_zero, List.append_nil] at h1
        exact h1
      clear HK
      go_wp2_with fail
      go_ret
      obtain ⟨M, h1, h2⟩ := HF.out
      exact ⟨⟨g, M, rfl, HG.out, h1, h2⟩, X⟩
set_option maxRecDepth 8000 in
set_option maxHeartbeats 4000000 in
theorem eqLimits (v v' : Value) (l : List LT) (w : World) (h : LimitsIn w v l) (h' : LimitsIn w v' l) (hl : l.length ≤ 1048576) (hc : ∀ e ∈ l, e.cf.length ≤ 1048576) :
    Calls Tryd.prog 21 #[v, v'] w fun e w' => e = .returned (.bool true) ∧ Ext w w' := by
  obtain ⟨p, cap, rfl, hcap, hrow⟩ := h
  obtain ⟨p', cap', rfl, hcap', hrow'⟩ := h'
  obtain ⟨n, hn⟩ : ∃ n, l.length = n := ⟨_, rfl⟩
  have HN : Hid (l.length = n) := hn
  rw [hn] at hcap hcap' hl hrow hrow' ⊢
  have HRow : Hid (0 < n → ∃ b o, p = some ⟨b, o, none⟩ ∧ RowL w b o l) := hrow
  have HRow' : Hid (0 < n → ∃ b o, p' = some ⟨b, o, none⟩ ∧ RowL w b o l) := hrow'
  have HC : Hid (∀ e ∈ l, e.cf.length ≤ 1048576) := hc
  clear hn hrow hrow' hc
  go_enter Tryd.func21, Tryd.ntmps21
  go_wp2_with fail
  go_loopw [5] (fun i wr => ∃ k : Nat, k ≤ n ∧ i = .int .i64 k ∧ Ext w wr) (fun i _ => n - (intOf i).toNat)
  case atStart => exact ⟨0, by omega, rfl, xr _⟩
  case round =>
    obtain ⟨k, hk, rfl, X⟩ := hrel
    by_cases hlt : k < n
    · obtain ⟨e, he⟩ : ∃ e, l[k]? = some e := ⟨_, List.getElem?_eq_getElem (by rw [HN.out]; exact hlt)⟩
      obtain ⟨b, o, rfl, hR⟩ := HRow.out (by omega)
      obtain ⟨b', o', rfl, hR'⟩ := HRow'.out (by omega)
      obtain ⟨cv, hd, a0, a1, a2, a3, a4⟩ := (hR.later X) k e he
      obtain ⟨cv', hd', c0, c1, c2, c3, c4⟩ := (hR'.later X) k e he
      have HE : Hid (∀ W, Ext wr W → Calls Tryd.prog 32 #[.agg #[cv, sV e.op, .bool e.rt.ng, .int .i64 e.rt.dg, .int .i64 e.rt.ex], .agg #[cv', sV e.op, .bool e.rt.ng, .int .i64 e.rt.dg, .int .i64 e.rt.ex]] W fun z w' => z = .returned (.bool true) ∧ Ext W w') := fun W x => eqLimit_same cv cv' e W (hd.later x) (hd'.later x) (HC.out e (List.mem_of_getElem? he))
      obtain ⟨cf, op, ⟨en, ed, ex⟩⟩ := e
      have i2 : (k : Int) < (n : Int) := by omega
      clear hR hR' he hd hd'
      dsimp only at a0 a1 a2 a3 a4 c0 c1 c2 c3 c4 HE
      go_wp2_with fail
      go_region_held3 (fun w' => (w'.cell? ⟨b, o + k * 5, none⟩ = some cv ∧ w'.cell? ⟨b, o + k * 5 + 1, none⟩ = some (sV op) ∧ w'.cell? ⟨b, o + k * 5 + 2, none⟩ = some (.bool en) ∧ w'.cell? ⟨b, o + k * 5 + 3, none⟩ = some (.int .i64 ed) ∧ w'.cell? ⟨b, o + k * 5 + 4, none⟩ = some (.int .i64 ex)) ∧ w'.cell? ⟨b', o' + k * 5, none⟩ = some cv' ∧ w'.cell? ⟨b', o' + k * 5 + 1, none⟩ = some (sV op) ∧ w'.cell? ⟨b', o' + k * 5 + 2, none⟩ = some (.bool en) ∧ w'.cell? ⟨b', o' + k * 5 + 3, none⟩ = some (.int .i64 ed) ∧ w'.cell? ⟨b', o' + k * 5 + 4, none⟩ = some (.int .i64 ex)) (go_keep)
        (first
          | (go_at_call 32; refine (HE.out _ (xd (xr _))).mono ?_; rintro e w' ⟨rfl, E⟩; have Y := xt (xd (xr _)) E; have r0 := cell_later Y a0; have r1 := cell_later Y a1; have r2 := cell_later Y a2; have r3 := cell_later Y a3; have r4 := cell_later Y a4; have s0 := cell_later Y c0; have s1 := cell_later Y c1; have s2 := cell_later Y c2; have s3 := cell_later Y c3; have s4 := cell_later Y c4))
      go_wp2_with fail
      go_roundw
      case rel => exact ⟨k + 1, by omega, by go_num, xt X Y⟩
      case measure => simp [intOf]; omega
    · obtain rfl : k = n := by omega
      go_wp2_with fail
      go_ret
      exact ⟨rfl, X⟩
set_option maxRecDepth 8000 in
set_option maxHeartbeats 2000000 in
theorem eqModelL (gv lv wv gv' lv' wv' : Value) (G : List DT) (L : List LT) (W : List Bool) (w : World) (hg : DecsIn w gv G) (hL : LimitsIn w lv L) (hW : BoolsIn w wv W) (hg' : DecsIn w gv' G) (hL' : LimitsIn w lv' L) (hW' : BoolsIn w wv' W)
    (lg : G.length ≤ 1048576) (ll : L.length ≤ 1048576) (lw : W.length ≤ 1048576) (hc : ∀ e ∈ L, e.cf.length ≤ 1048576) :
    Calls Tryd.prog 8 #[modelV gv lv wv, modelV gv' lv' wv'] w fun e w' => e = .returned (.bool true) ∧ Ext w w' := by
  obtain ⟨u0, u1, h0, h1, s0, s1, B0, B1, X⟩ := mkB2 w [gv, lv, wv] [gv', lv', wv'] 32 32
  obtain ⟨a0, a1, a2⟩ := Vec.three B0
  obtain ⟨b0, b1, b2⟩ := Vec.three B1
  go_enter Tryd.func8, Tryd.ntmps8
  go_wp2_with fail
  clear a0 a1 a2 b0 b1 b2 h0 h1 s0 s1
  refine (eqDecs gv gv' G u1 (hg.later X) (hg'.later X) (by omega)).mono ?_
  rintro e w1 ⟨rfl, e1⟩
  have X1 := xt X e1
  have C0 := B0.later e1
  have C1 := B1.later e1
  obtain ⟨a0, a1, a2⟩ := Vec.three C0
  obtain ⟨b0, b1, b2⟩ := Vec.three C1
  clear B0 B1
  go_wp2_with fail
  clear a0 a1 a2 b0 b1 b2
  refine (eqLimits lv lv' L w1 (hL.later X1) (hL'.later X1) ll hc).mono ?_
  rintro e w2 ⟨rfl, e2⟩
  have X2 := xt X1 e2
  have D0 := C0.later e2
  have D1 := C1.later e2
  obtain ⟨a0, a1, a2⟩ := Vec.three D0
  obtain ⟨b0, b1, b2⟩ := Vec.three D1
  clear C0 C1
  go_wp2_with fail
  clear a0 a1 a2 b0 b1 b2
  refine (eqBools wv wv' W w2 (hW.later X2) (hW'.later X2) lw).mono ?_
  rintro e w3 ⟨rfl, e3⟩
  have X3 := xt X2 e3
  go_wp2_with fail
  go_ret
  exact ⟨rfl, X3⟩

end Go.Proofs.YtnpcckhalbbbhaaDoor
