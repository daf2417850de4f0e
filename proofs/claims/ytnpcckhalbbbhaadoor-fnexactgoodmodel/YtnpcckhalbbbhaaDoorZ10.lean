/-
  Chapter 13: models handed over; the law of GoodModel.
-/
import Derived.Test.YtnpcckhalbbbhaaDoorZ9
namespace Go.Proofs.YtnpcckhalbbbhaaDoor
open Go.RowKit

theorem ZipL.low {w : World} {g : Nat} {l : List LT} {M : List LC} {k : Nat} (h : ZipL w g l M k) {p : Addr} (hp : p.block ≤ g) (u : Value) : ZipL (w.setCell p u) g l M k := ⟨h.1, fun i e hi he => by
  obtain ⟨b, h0, h1, h2⟩ := h.2 i e hi he
  exact ⟨b, h0, h1, h2.far (p := p) (by omega) u⟩⟩
/-- What toModel gives: its three lists. -/
def MadeM (w : World) (g1 g2 g3 : Nat) (M : List LC) (G : List DT) (L : List LT) (W : List Bool) : Prop :=
  OwnDc w g1 G ∧ OwnLc w g2 M ∧ ZipL w g2 L M L.length ∧ BoolsAt w g3 W
theorem MadeM.far {w : World} {g1 g2 g3 : Nat} {M : List LC} {G : List DT} {L : List LT} {W : List Bool} (h : MadeM w g1 g2 g3 M G L W) {p : Addr} (h1 : p.block ≠ g1) (h2 : p.block < g2) (h3 : p.block ≠ g3) (u : Value) : MadeM (w.setCell p u) g1 g2 g3 M G L W :=
  ⟨h.1.far h1 u, h.2.1.far (by omega) u, h.2.2.1.low (by omega) u, h.2.2.2.far h3 u⟩
theorem MadeM.model {w : World} {g1 g2 g3 : Nat} {M : List LC} {G : List DT} {L : List LT} {W : List Bool} (h : MadeM w g1 g2 g3 M G L W) {n m k : Nat} (hn : G.length = n) (hm : L.length = m) (hk : W.length = k) : DecsIn w (ownS g1 n) G ∧ LimitsIn w (ownS g2 m) L ∧ BoolsIn w (ownS g3 k) W := by
  subst hn hm hk
  exact ⟨h.1.slice, ⟨_, _, rfl, Nat.le_refl _, fun _ => ⟨g2, 0, rfl, h.2.1.row.limits h.2.2.1⟩⟩, h.2.2.2.bools⟩
set_option maxRecDepth 8000 in
set_option maxHeartbeats 4000000 in
theorem toModelL (gv lv wv : Value) (G : List DT) (L : List LT) (W : List Bool) (w : World) (hg : DecsIn w gv G) (hL : LimitsIn w lv L) (hW : BoolsIn w wv W)
    (lg : G.length ≤ 1048576) (ll : L.length ≤ 1048576) (lw : W.length ≤ 1048576) (hc : ∀ e ∈ L, e.cf.length ≤ 1048576) :
    Calls Tryd.prog 6 #[modelV gv lv wv] w fun e w' => ∃ (x y p : Option Addr) (cx cy cap : Nat), e = .returned (modelV (.slice x G.length cx) (.slice y L.length cy) (.slice p W.length cap)) ∧ DecsIn w' (.slice x G.length cx) G ∧ LimitsIn w' (.slice y L.length cy) L ∧ BoolsIn w' (.slice p W.length cap) W ∧ Ext w w' := by
  obtain ⟨u0, u1, u2, h0, h1, h2, s0, s1, s2, B0, B1, B2, X⟩ := mkB3 w [gv, lv, wv] [.slice none 0 0, .slice none 0 0, .slice none 0 0] [.slice none 0 0, .slice none 0 0, .slice none 0 0] 26 32 32
  obtain ⟨a0, a1, a2⟩ := Vec.three B0
  obtain ⟨n1, hn1⟩ : ∃ n, G.length = n := ⟨_, rfl⟩
  obtain ⟨n2, hn2⟩ : ∃ n, L.length = n := ⟨_, rfl⟩
  obtain ⟨n3, hn3⟩ : ∃ n, W.length = n := ⟨_, rfl⟩
  have HN1 : Hid (G.length = n1) := hn1
  have HN2 : Hid (L.length = n2) := hn2
  have HN3 : Hid (W.length = n3) := hn3
  have CD := toDecs gv G u2 (hg.later X) (by omega)
  rw [hn1, s2] at CD
  have HCL : Hid (∀ V, Ext w V → Calls Tryd.prog 14 #[lv] V fun e w' => (∃ g M, e = .returned (.slice (some ⟨g, 0, none⟩) n2 n2) ∧ V.heap.size ≤ g ∧ OwnLc w' g M ∧ ZipL w' g L M n2) ∧ Ext V w') := fun V x => by have := toLimits lv L V (hL.later x) ll hc; rw [hn2] at this; exact this
  have HCB : Hid (∀ V, Ext w V → Calls Tryd.prog 15 #[wv] V fun e w' => (∃ g, e = .returned (.slice (some ⟨g, 0, none⟩) n3 n3) ∧ V.heap.size ≤ g ∧ BoolsAt w' g W) ∧ Ext V w') := fun V x => by have := toBools wv W V (hW.later x) lw; rw [hn3] at this; exact this
  rw [hn1, hn2, hn3]
  clear hg hL hW lg ll lw hc hn1 hn2 hn3
  go_enter Tryd.func6, Tryd.ntmps6
  go_wp2_with fail
  clear a0 a1 a2 h0 h1 h2 s0 s1
  refine CD.mono ?_
  rintro e w1 ⟨⟨g1, rfl, hg1, I1⟩, e1⟩
  have z1 : w.heap.size + 1 + 1 + 1 ≤ w1.heap.size := by have := e1.size; omega
  have V0 := (B0.later e1).far (p := ⟨w.heap.size + 1 + 1, 0, none⟩) (by show w.heap.size + 1 + 1 ≠ _; omega) (.slice (some ⟨g1, 0, none⟩) n1 n1)
  have V1 := (B1.later e1).far (p := ⟨w.heap.size + 1 + 1, 0, none⟩) (by show w.heap.size + 1 + 1 ≠ _; omega) (.slice (some ⟨g1, 0, none⟩) n1 n1)
  have V2 : Vec (w1.setCell ⟨w.heap.size + 1 + 1, 0, none⟩ (.slice (some ⟨g1, 0, none⟩) n1 n1)) (w.heap.size + 1 + 1) [.slice (some ⟨g1, 0, none⟩) n1 n1, .slice none 0 0, .slice none 0 0] := (B2.later e1).put 0 (by simp) _
  have J1 := I1.far (p := ⟨w.heap.size + 1 + 1, 0, none⟩) (by show w.heap.size + 1 + 1 ≠ _; omega) (.slice (some ⟨g1, 0, none⟩) n1 n1)
  have XA := xset (xt X e1) (p := ⟨w.heap.size + 1 + 1, 0, none⟩) (by show _ ≤ w.heap.size + 1 + 1; omega) (.slice (some ⟨g1, 0, none⟩) n1 n1)
  have k0 := ((B2.later e1) 0 _ rfl).1
  have f0 := ((B2.later e1) 0 _ rfl).2
  obtain ⟨wa, ha⟩ : ∃ wa, w1.setCell ⟨w.heap.size + 1 + 1, 0, none⟩ (.slice (some ⟨g1, 0, none⟩) n1 n1) = wa := ⟨_, rfl⟩
  have za : w.heap.size + 1 + 1 + 1 ≤ wa.heap.size := by rw [← ha]; simpa using z1
  rw [ha] at V0 V1 V2 J1 XA
  have a1 := (V0 1 _ rfl).1
  clear I1 B0 B1 B2 X CD s2 z1
  go_wp2_with fail
  clear a1 k0 f0 ha
  refine (HCL.out wa XA).mono ?_
  rintro e w2 ⟨⟨g2, M, rfl, hg2, I2, Z2⟩, e2⟩
  have z2 : w.heap.size + 1 + 1 + 1 ≤ w2.heap.size := by have := e2.size; omega
  have V0' := (V0.later e2).far (p := ⟨w.heap.size + 1 + 1, 1, none⟩) (by show w.heap.size + 1 + 1 ≠ _; omega) (.slice (some ⟨g2, 0, none⟩) n2 n2)
  have V1' := (V1.later e2).far (p := ⟨w.heap.size + 1 + 1, 1, none⟩) (by show w.heap.size + 1 + 1 ≠ _; omega) (.slice (some ⟨g2, 0, none⟩) n2 n2)
  have V2' : Vec (w2.setCell ⟨w.heap.size + 1 + 1, 1, none⟩ (.slice (some ⟨g2, 0, none⟩) n2 n2)) (w.heap.size + 1 + 1) [.slice (some ⟨g1, 0, none⟩) n1 n1, .slice (some ⟨g2, 0, none⟩) n2 n2, .slice none 0 0] := (V2.later e2).put 1 (by simp) _
  have J1' := (J1.later e2).far (p := ⟨w.heap.size + 1 + 1, 1, none⟩) (by show w.heap.size + 1 + 1 ≠ _; omega) (.slice (some ⟨g2, 0, none⟩) n2 n2)
  have J2 := I2.far (p := ⟨w.heap.size + 1 + 1, 1, none⟩) (by show w.heap.size + 1 + 1 ≠ _; omega) (.slice (some ⟨g2, 0, none⟩) n2 n2)
  have K2 := Z2.low (p := ⟨w.heap.size + 1 + 1, 1, none⟩) (by show w.heap.size + 1 + 1 ≤ _; omega) (.slice (some ⟨g2, 0, none⟩) n2 n2)
  have XB := xset (xt XA e2) (p := ⟨w.heap.size + 1 + 1, 1, none⟩) (by show _ ≤ w.heap.size + 1 + 1; omega) (.slice (some ⟨g2, 0, none⟩) n2 n2)
  have k1 := ((V2.later e2) 1 _ rfl).1
  have f1 := ((V2.later e2) 1 _ rfl).2
  obtain ⟨wb, hb⟩ : ∃ wb, w2.setCell ⟨w.heap.size + 1 + 1, 1, none⟩ (.slice (some ⟨g2, 0, none⟩) n2 n2) = wb := ⟨_, rfl⟩
  have zb : w.heap.size + 1 + 1 + 1 ≤ wb.heap.size := by rw [← hb]; simpa using z2
  rw [hb] at V0' V1' V2' J1' J2 K2 XB
  have a2 := (V0' 2 _ rfl).1
  clear I2 Z2 V0 V1 V2 J1 XA z2
  go_wp2_with fail
  clear a2 k1 f1 hb
  refine (HCB.out wb XB).mono ?_
  rintro e w3 ⟨⟨g3, rfl, hg3, I3⟩, e3⟩
  have MM : MadeM w3 g1 g2 g3 M G L W := ⟨J1'.later e3, J2.later e3, by rw [HN2.out]; exact K2.later e3, I3⟩
  have k2 := ((V2'.later e3) 2 _ rfl).1
  have f2 := ((V2'.later e3) 2 _ rfl).2
  have Y1 := (V1'.later e3).far (p := ⟨w.heap.size + 1 + 1, 2, none⟩) (by show w.heap.size + 1 + 1 ≠ _; omega) (.slice (some ⟨g3, 0, none⟩) n3 n3)
  have Y2 : Vec (w3.setCell ⟨w.heap.size + 1 + 1, 2, none⟩ (.slice (some ⟨g3, 0, none⟩) n3 n3)) (w.heap.size + 1 + 1) [.slice (some ⟨g1, 0, none⟩) n1 n1, .slice (some ⟨g2, 0, none⟩) n2 n2, .slice (some ⟨g3, 0, none⟩) n3 n3] := (V2'.later e3).put 2 (by simp) _
  have MA := MM.far (p := ⟨w.heap.size + 1 + 1, 2, none⟩) (by show w.heap.size + 1 + 1 ≠ _; omega) (by show w.heap.size + 1 + 1 < _; omega) (by show w.heap.size + 1 + 1 ≠ _; omega) (.slice (some ⟨g3, 0, none⟩) n3 n3)
  have XC := xset (xt XB e3) (p := ⟨w.heap.size + 1 + 1, 2, none⟩) (by show _ ≤ w.heap.size + 1 + 1; omega) (.slice (some ⟨g3, 0, none⟩) n3 n3)
  obtain ⟨wc, hc⟩ : ∃ wc, w3.setCell ⟨w.heap.size + 1 + 1, 2, none⟩ (.slice (some ⟨g3, 0, none⟩) n3 n3) = wc := ⟨_, rfl⟩
  rw [hc] at Y1 Y2 MA XC
  obtain ⟨q0, q1, q2⟩ := Vec.three Y2
  obtain ⟨r0, r1, r2⟩ := Vec.three Y1
  obtain ⟨t0, t1, t2⟩ := Vec.threeF Y1
  have G1 : Vec (((wc.setCell ⟨w.heap.size + 1, 0, none⟩ (.slice (some ⟨g1, 0, none⟩) n1 n1)).setCell ⟨w.heap.size + 1, 1, none⟩ (.slice (some ⟨g2, 0, none⟩) n2 n2)).setCell ⟨w.heap.size + 1, 2, none⟩ (.slice (some ⟨g3, 0, none⟩) n3 n3)) (w.heap.size + 1) [.slice (some ⟨g1, 0, none⟩) n1 n1, .slice (some ⟨g2, 0, none⟩) n2 n2, .slice (some ⟨g3, 0, none⟩) n3 n3] := ((Y1.put 0 (by simp) _).put 1 (by simp) _).put 2 (by simp) _
  have XD := xset (xset (xset XC (p := ⟨w.heap.size + 1, 0, none⟩) (by show _ ≤ w.heap.size + 1; omega) (.slice (some ⟨g1, 0, none⟩) n1 n1)) (p := ⟨w.heap.size + 1, 1, none⟩) (by show _ ≤ w.heap.size + 1; omega) (.slice (some ⟨g2, 0, none⟩) n2 n2)) (p := ⟨w.heap.size + 1, 2, none⟩) (by show _ ≤ w.heap.size + 1; omega) (.slice (some ⟨g3, 0, none⟩) n3 n3)
  have F : ∀ c, (⟨w.heap.size + 1, c, none⟩ : Addr).block ≠ g1 ∧ (⟨w.heap.size + 1, c, none⟩ : Addr).block < g2 ∧ (⟨w.heap.size + 1, c, none⟩ : Addr).block ≠ g3 := fun c => by show w.heap.size + 1 ≠ _ ∧ w.heap.size + 1 < _ ∧ w.heap.size + 1 ≠ _; omega
  have MD := ((MA.far (F 0).1 (F 0).2.1 (F 0).2.2 (.slice (some ⟨g1, 0, none⟩) n1 n1)).far (F 1).1 (F 1).2.1 (F 1).2.2 (.slice (some ⟨g2, 0, none⟩) n2 n2)).far (F 2).1 (F 2).2.1 (F 2).2.2 (.slice (some ⟨g3, 0, none⟩) n3 n3)
  obtain ⟨wd, hd⟩ : ∃ wd, ((wc.setCell ⟨w.heap.size + 1, 0, none⟩ (.slice (some ⟨g1, 0, none⟩) n1 n1)).setCell ⟨w.heap.size + 1, 1, none⟩ (.slice (some ⟨g2, 0, none⟩) n2 n2)).setCell ⟨w.heap.size + 1, 2, none⟩ (.slice (some ⟨g3, 0, none⟩) n3 n3) = wd := ⟨_, rfl⟩
  rw [hd] at G1 XD MD
  obtain ⟨p0, p1, p2⟩ := Vec.three G1
  have HO : Hid (DecsIn wd (ownS g1 n1) G ∧ LimitsIn wd (ownS g2 n2) L ∧ BoolsIn wd (ownS g3 n3) W) := MD.model HN1.out HN2.out HN3.out
  clear Y1 Y2 MA MM MD XC G1 J1' J2 K2 XB V0' V1' V2' F
  go_wp2_with fail
  exact bodyPost_ret (v := modelV (.slice (some ⟨g1, 0, none⟩) n1 n1) (.slice (some ⟨g2, 0, none⟩) n2 n2) (.slice (some ⟨g3, 0, none⟩) n3 n3)) (by simp [results, Tryd.results6, go_sem, p0, p1, p2]) rfl ⟨_, _, _, _, _, _, rfl, HO.out.1, HO.out.2.1, HO.out.2.2, XD⟩
set_option maxRecDepth 8000 in
set_option maxHeartbeats 4000000 in
theorem lawGoodMo (gv lv wv : Value) (G : List DT) (L : List LT) (W : List Bool) (w : World) (hg : DecsIn w gv G) (hL : LimitsIn w lv L) (hW : BoolsIn w wv W)
    (lg : G.length ≤ 9223372036854775807) (ll : L.length ≤ 9223372036854775807) (lt : ∀ e ∈ L, e.cf.length ≤ 9223372036854775807 ∧ e.op.length ≤ 9223372036854775807) (lw : W.length ≤ 9223372036854775807)
    (rg : ∀ e ∈ G, e.room) (rl : ∀ e ∈ L, (∀ d ∈ e.cf, d.room) ∧ e.rt.room) (hT : Tens w) :
    Calls Tryd.prog 3 #[modelV gv lv wv] w fun e w' => e = .returned (.bool true) ∧ Ext w w' := by
  have X0 := x1 w (.cells #[gv, lv, wv] 26)
  have B0 := vec_made w [gv, lv, wv] 26
  change Vec (w.alloc (.cells #[gv, lv, wv] 26)) _ _ at B0
  obtain ⟨wa, ha⟩ : ∃ wa, w.alloc (.cells #[gv, lv, wv] 26) = wa := ⟨_, rfl⟩
  rw [ha] at X0 B0
  have CS := szModelL gv lv wv G L W 1048576 wa (hg.later X0) (hL.later X0) (hW.later X0) (by omega) (by omega) lg ll lt lw
  obtain ⟨a0, a1, a2⟩ := Vec.three B0
  go_enter Tryd.func3, Tryd.ntmps3
  go_wp2_with fail
  clear a0 a1 a2 ha
  refine CS.mono ?_
  rintro z w1 ⟨⟨r, rfl, r0, r1, hr⟩, e1⟩
  clear CS
  have HR : Hid (0 ≤ r → (G.length : Int) ≤ 1048576 ∧ (L.length : Int) ≤ 1048576 ∧ (W.length : Int) ≤ 1048576 ∧ ∀ q ∈ L, (q.cf.length : Int) ≤ 1048576 ∧ (q.op.length : Int) ≤ 1048576) := hr
  clear hr lg ll lt lw
  have X1 := xt X0 e1
  by_cases hneg : r < 0
  · go_wp2_with fail
    go_ret
    exact ⟨rfl, X1⟩
  obtain ⟨lg, ll, lw, lq⟩ := HR.out (by omega)
  have B1 := B0.later e1
  obtain ⟨a0, a1, a2⟩ := Vec.three B1
  have hc : ∀ e ∈ L, e.cf.length ≤ 1048576 := fun e he => by have := (lq e he).1; omega
  have rl' : ∀ e ∈ L, e.room := fun e he => ⟨hc e he, by have := (lq e he).2; omega, (rl e he).1, (rl e he).2⟩
  have HTo : Hid (∀ V, Ext w V → Calls Tryd.prog 6 #[.agg #[gv, lv, wv]] V fun e w' => ∃ (x y p : Option Addr) (cx cy cap : Nat), e = .returned (.agg #[.slice x G.length cx, .slice y L.length cy, .slice p W.length cap]) ∧ DecsIn w' (.slice x G.length cx) G ∧ LimitsIn w' (.slice y L.length cy) L ∧ BoolsIn w' (.slice p W.length cap) W ∧ Ext V w') := fun V x => toModelL gv lv wv G L W V (hg.later x) (hL.later x) (hW.later x) (by omega) (by omega) (by omega) hc
  have HSp : Hid (∀ V x y p cap, DecsIn V x G → LimitsIn V y L → Calls Tryd.prog 5 #[.agg #[x, y, .slice p W.length cap]] V fun z w' => z = .returned (.bool (goodMo G L W.length)) ∧ Ext V w') := fun V x y p cap h1 h2 => goodMoS x y p W.length cap G L V h1 h2 (by omega) (by omega) (by omega)
  have HIm : Hid (∀ V x y p cap, Ext w V → DecsIn V x G → LimitsIn V y L → Calls Tryd.prog 7 #[.agg #[x, y, .slice p W.length cap]] V fun z w' => z = .returned (.bool (goodMo G L W.length)) ∧ Ext V w') := fun V x y p cap xv h1 h2 => goodMoI x y p W.length cap G L V h1 h2 (by omega) (by omega) (by omega) rg rl' (hT.later xv)
  have HEq : Hid (∀ V x y p c x' y' p' c', DecsIn V x G → LimitsIn V y L → BoolsIn V (.slice p W.length c) W → DecsIn V x' G → LimitsIn V y' L → BoolsIn V (.slice p' W.length c') W → Calls Tryd.prog 8 #[.agg #[x, y, .slice p W.length c], .agg #[x', y', .slice p' W.length c']] V fun z w' => z = .returned (.bool true) ∧ Ext V w') := fun V x y p c x' y' p' c' h1 h2 h3 h4 h5 h6 => eqModelL x y _ x' y' _ G L W V h1 h2 h3 h4 h5 h6 (by omega) (by omega) (by omega) hc
  obtain ⟨q, hq⟩ : ∃ q, goodMo G L W.length = q := ⟨_, rfl⟩
  obtain ⟨k, hk⟩ : ∃ k, W.length = k := ⟨_, rfl⟩
  obtain ⟨kg, hkg⟩ : ∃ k, G.length = k := ⟨_, rfl⟩
  obtain ⟨kl, hkl⟩ : ∃ k, L.length = k := ⟨_, rfl⟩
  rw [hq] at HSp HIm
  rw [hk, hkg, hkl] at HTo
  rw [hk] at HSp HIm HEq
  clear hkg hkl hq hk HR lg ll lw lq hc rl' rl rg hT hg hL hW
  go_wp2_with fail
  clear a0 a1 a2
  refine (HTo.out w1 X1).mono ?_
  rintro z w2 ⟨x, y, p, cx, cy, cap, rfl, D1, L1, _, e2⟩
  have X2 := xt X1 e2
  have CS := HSp.out w2 _ _ p cap D1 L1
  clear D1 L1
  go_wp2_with fail
  refine CS.mono ?_
  rintro z w3 ⟨rfl, e3⟩
  have X3 := xt X2 e3
  have B3 := B1.later (xt e2 e3)
  obtain ⟨a0, a1, a2⟩ := Vec.three B3
  clear CS B1
  go_wp2_with fail
  clear a0 a1 a2
  refine (HTo.out w3 X3).mono ?_
  rintro z w4 ⟨x', y', p', cx', cy', cap', rfl, D1, L1, W1, e4⟩
  have X4 := xt X3 e4
  have B4 := B3.later e4
  have Y4 := x1 w4 (.cells #[.slice x' kg cx', .slice y' kl cy', .slice p' k cap'] 32)
  have K4 := vec_made w4 [.slice x' kg cx', .slice y' kl cy', .slice p' k cap'] 32
  change Vec (w4.alloc (.cells #[.slice x' kg cx', .slice y' kl cy', .slice p' k cap'] 32)) _ _ at K4
  obtain ⟨w5, h5⟩ : ∃ w5, w4.alloc (.cells #[.slice x' kg cx', .slice y' kl cy', .slice p' k cap'] 32) = w5 := ⟨_, rfl⟩
  rw [h5] at Y4 K4
  have X5 := xt X4 Y4
  have D5 := D1.later Y4
  have L5 := L1.later Y4
  have W5 := W1.later Y4
  have B5 := B4.later Y4
  have CI := HIm.out w5 _ _ p' cap' X5 D5 L5
  obtain ⟨c0, c1, c2⟩ := Vec.three K4
  clear D1 L1 W1 B3 B4
  go_wp2_with fail
  clear c0 c1 c2 h5
  refine CI.mono ?_
  rintro z w6 ⟨rfl, e6⟩
  have X6 := xt X5 e6
  have B6 := B5.later e6
  have K6 := K4.later e6
  have D6 := D5.later e6
  have L6 := L5.later e6
  have W6 := W5.later e6
  obtain ⟨a0, a1, a2⟩ := Vec.three B6
  obtain ⟨c0, c1, c2⟩ := Vec.three K6
  clear B5 K4 D5 L5 W5 CI
  obtain ⟨N5, hN5⟩ : ∃ N, w4.heap.size = N := ⟨_, rfl⟩
  rw [hN5] at c0 c1 c2 K6 ⊢
  have HS6 : Hid (DecsIn w6 (.slice x' kg cx') G ∧ LimitsIn w6 (.slice y' kl cy') L ∧ BoolsIn w6 (.slice p' k cap') W) := ⟨D6, L6, W6⟩
  have HX6 : Hid (Ext w w6) := X6
  clear D6 L6 W6
  cases q
  all_goals
    go_wp2_with fail
    go_region_held3 (fun w' => (w'.cell? ⟨w.heap.size, 0, none⟩ = some gv ∧ w'.cell? ⟨w.heap.size, 1, none⟩ = some lv ∧ w'.cell? ⟨w.heap.size, 2, none⟩ = some wv) ∧ w'.cell? ⟨N5, 0, none⟩ = some (.slice x' kg cx') ∧ w'.cell? ⟨N5, 1, none⟩ = some (.slice y' kl cy') ∧ w'.cell? ⟨N5, 2, none⟩ = some (.slice p' k cap')) (go_keep)
      (first
        | (go_at_call 6; refine (HTo.out _ (xd HX6.out)).mono ?_; rintro z w7 ⟨x'', y'', p'', cx'', cy'', cap'', rfl, D7, L7, W7, e7⟩; have Y7 := xt (xd (xr _)) e7; have HS7 : Hid (DecsIn w7 (.slice x'' kg cx'') G ∧ LimitsIn w7 (.slice y'' kl cy'') L ∧ BoolsIn w7 (.slice p'' k cap'') W) := ⟨D7, L7, W7⟩; clear D7 L7 W7; obtain ⟨r0, r1, r2⟩ := Vec.three (B6.later Y7); obtain ⟨s0, s1, s2⟩ := Vec.three (K6.later Y7))
        | (go_at_call 8; refine (HEq.out _ _ _ _ _ _ _ _ _ (HS6.out.1.later (by first | exact Y7 | exact xd Y7)) (HS6.out.2.1.later (by first | exact Y7 | exact xd Y7)) (HS6.out.2.2.later (by first | exact Y7 | exact xd Y7)) (by first | exact HS7.out.1 | exact HS7.out.1.later (xd (xr _))) (by first | exact HS7.out.2.1 | exact HS7.out.2.1.later (xd (xr _))) (by first | exact HS7.out.2.2 | exact HS7.out.2.2.later (xd (xr _)))).mono ?_; rintro z w8 ⟨rfl, e8⟩; have Y8 : Ext w6 w8 := (by first | exact xt Y7 e8 | exact xt (xd Y7) e8); obtain ⟨r0, r1, r2⟩ := Vec.three (B6.later Y8); obtain ⟨s0, s1, s2⟩ := Vec.three (K6.later Y8)))
    all_goals go_wp2_with fail
    all_goals go_ret
    all_goals exact ⟨rfl, xt HX6.out Y8⟩

end Go.Proofs.YtnpcckhalbbbhaaDoor
