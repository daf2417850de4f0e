/-
  Chapter 13: GoodModel of the program.
-/
import Derived.Test.YtnpcckhalbbbhaaDoorZ3
namespace Go.Proofs.YtnpcckhalbbbhaaDoor
open Go.RowKit

theorem xdNv3 {a b : World} (h : Ext a b) (n : Nat) : Ext a (b.drewN n) := ⟨h.os, h.tape, h.output, h.size, h.block⟩
abbrev modelV (g l v : Value) : Value := .agg #[g, l, v]
/-- Whether the numbers of a model's lists are as they should be. -/
def sizesB (n L W : Nat) : Bool := decide (1 ≤ n ∧ n ≤ 8 ∧ L ≤ 12 ∧ (W = 0 ∨ W = n))
def goodMo (G : List DT) (L : List LT) (W : Nat) : Bool := sizesB G.length L.length W && (G.all DT.mod && L.all (LT.good G.length))
set_option maxRecDepth 8000 in
set_option maxHeartbeats 2000000 in
theorem goodMoI (gv lv : Value) (p : Option Addr) (W cap : Nat) (G : List DT) (L : List LT) (w : World) (hg : DecsIn w gv G) (hL : LimitsIn w lv L) (lg : G.length ≤ 1048576) (ll : L.length ≤ 1048576) (lw : W ≤ 1048576)
    (rg : ∀ e ∈ G, e.room) (rl : ∀ e ∈ L, e.room) (hT : Tens w) :
    Calls Tryd.prog 7 #[modelV gv lv (.slice p W cap)] w fun z w' => z = .returned (.bool (goodMo G L W)) ∧ Ext w w' := by
  have HGo : Hid (goodMo G L W = (sizesB G.length L.length W && (G.all DT.mod && L.all (LT.good G.length)))) := rfl
  obtain ⟨R, hR⟩ : ∃ R, goodMo G L W = R := ⟨_, rfl⟩
  rw [hR] at HGo ⊢
  have X0 := x1 w (.cells #[gv, lv, .slice p W cap] 32)
  have B0 := vec_made w [gv, lv, .slice p W cap] 32
  change Vec (w.alloc (.cells #[gv, lv, .slice p W cap] 32)) _ _ at B0
  obtain ⟨wa, ha⟩ : ∃ wa, w.alloc (.cells #[gv, lv, .slice p W cap] 32) = wa := ⟨_, rfl⟩
  rw [ha] at X0 B0
  have sa : wa.heap.size = w.heap.size + 1 := by rw [← ha, World.size_alloc]
  have HCA : Hid (∀ V, Ext w V → Calls Tryd.prog 18 #[gv, .int .i64 (G.length : Int)] V fun e w' => e = .returned (.bool (decide ((G.length : Int) = (G.length : Int)) && G.all DT.mod)) ∧ Ext V w') := fun V xv => areI gv G _ V (hg.later xv) lg rg (hT.later xv)
  have HCL : Hid (∀ V B, Ext w V → V.cell? ⟨B, 0, none⟩ = some (.int .i64 (G.length : Int)) → Calls Tryd.prog 19 #[lv, .func (.func 16) #[] #[.pointer (some ⟨B, 0, none⟩)]] V fun e w' => e = .returned (.bool (L.any fun e => !e.good (G.length : Int))) ∧ Ext V w') := fun V B xv hB =>
    containsLI 16 #[.pointer (some ⟨B, 0, none⟩)] lv L _ V ⟨fun _ _ => rfl, fun U e cv he x hd => by simpa using badLI cv e _ B U hd (rl e he) (cell_later x hB) (hT.later (xt xv x))⟩ (hL.later xv) ll
  have HAll := any_not_good (G.length : Int) L
  rw [decide_eq_true rfl, Bool.true_and] at HCA
  obtain ⟨qg, hqg⟩ : ∃ q, G.all DT.mod = q := ⟨_, rfl⟩
  obtain ⟨ql, hql⟩ : ∃ q, (L.any fun e => !e.good (G.length : Int)) = q := ⟨_, rfl⟩
  rw [hql] at HCL HAll
  rw [hqg] at HCA HGo
  rw [← HAll] at HGo
  clear hR hqg hql HAll rg rl hT
  obtain ⟨pg, cg, rfl, hcg, -⟩ := hg
  obtain ⟨pl, cl, rfl, hcl, -⟩ := hL
  obtain ⟨n, hn⟩ : ∃ n, G.length = n := ⟨_, rfl⟩
  obtain ⟨m, hm⟩ : ∃ n, L.length = n := ⟨_, rfl⟩
  simp only [hn, hm] at *
  have B1 := vec_made wa [.int .i64 n] 3
  have X1 := x1 wa (.cells #[.int .i64 n] 3)
  change Vec (wa.alloc (.cells #[.int .i64 n] 3)) _ _ at B1
  obtain ⟨wb, hb⟩ : ∃ wb, wa.alloc (.cells #[.int .i64 n] 3) = wb := ⟨_, rfl⟩
  rw [hb, sa] at B1
  rw [hb] at X1
  have C0 := B0.later X1
  obtain ⟨a0, a1, a2⟩ := Vec.three B0
  obtain ⟨c0, c1, c2⟩ := Vec.three C0
  have k0 := (B1 0 _ rfl).1
  clear hn hm
  by_cases h1 : n < 1
  · obtain rfl : R = false := by rw [HGo.out, show sizesB n m W = false from decide_eq_false (by omega)]; rfl
    have g1 : decide ((n : Int) < 1) = true := decide_eq_true (by omega)
    go_enter Tryd.func7, Tryd.ntmps7
    go_wp2_with fail
    go_ret
    exact ⟨rfl, xt X0 X1⟩
  have g1 : decide ((n : Int) < 1) = false := decide_eq_false (by omega)
  by_cases h2 : 8 < n
  · obtain rfl : R = false := by rw [HGo.out, show sizesB n m W = false from decide_eq_false (by omega)]; rfl
    have g2 : decide ((8 : Int) < (n : Int)) = true := decide_eq_true (by omega)
    go_enter Tryd.func7, Tryd.ntmps7
    go_wp2_with fail
    go_ret
    exact ⟨rfl, xt X0 X1⟩
  have g2 : decide ((8 : Int) < (n : Int)) = false := decide_eq_false (by omega)
  by_cases h3 : 12 < m
  · obtain rfl : R = false := by rw [HGo.out, show sizesB n m W = false from decide_eq_false (by omega)]; rfl
    have g3 : decide ((12 : Int) < (m : Int)) = true := decide_eq_true (by omega)
    go_enter Tryd.func7, Tryd.ntmps7
    go_wp2_with fail
    go_ret
    exact ⟨rfl, xt X0 X1⟩
  have g3 : decide ((12 : Int) < (m : Int)) = false := decide_eq_false (by omega)
  by_cases h4 : W = 0
  · subst h4
    have HR : Hid (R = (qg && !ql)) := by show _ = _; rw [HGo.out, show sizesB n m 0 = true from decide_eq_true (by omega)]; rfl
    clear HGo
    cases qg
    · obtain rfl : R = false := HR.out
      go_enter Tryd.func7, Tryd.ntmps7
      go_wp2_with fail
      refine (HCA.out wb (xt X0 X1)).mono ?_
      rintro z w1 ⟨rfl, e1⟩
      go_wp2_with fail
      go_ret
      exact ⟨rfl, xt (xt X0 X1) e1⟩
    · obtain rfl : R = !ql := HR.out
      go_enter Tryd.func7, Tryd.ntmps7
      go_wp2_with fail
      clear a0 a1 a2 c0 c1 c2 k0
      refine (HCA.out wb (xt X0 X1)).mono ?_
      rintro z w1 ⟨rfl, e1⟩
      obtain ⟨c0, c1, c2⟩ := Vec.three (C0.later e1)
      have k0 := ((B1.later e1) 0 _ rfl).1
      go_wp2_with fail
      refine (HCL.out w1 (w.heap.size + 1) (xt (xt X0 X1) e1) k0).mono ?_
      rintro z w2 ⟨rfl, e2⟩
      go_wp2_with fail
      go_ret
      exact ⟨rfl, xt (xt (xt X0 X1) e1) e2⟩
  have g4 : ((W : Int) != 0) = true := by simpa using h4
  by_cases h5 : W = n
  · subst h5
    have HR : Hid (R = (qg && !ql)) := by show _ = _; rw [HGo.out, show sizesB W m W = true from decide_eq_true (by omega)]; rfl
    clear HGo
    cases qg
    · obtain rfl : R = false := HR.out
      go_enter Tryd.func7, Tryd.ntmps7
      go_wp2_with fail
      refine (HCA.out wb (xt X0 X1)).mono ?_
      rintro z w1 ⟨rfl, e1⟩
      go_wp2_with fail
      go_ret
      exact ⟨rfl, xt (xt X0 X1) e1⟩
    · obtain rfl : R = !ql := HR.out
      go_enter Tryd.func7, Tryd.ntmps7
      go_wp2_with fail
      clear a0 a1 a2 c0 c1 c2 k0
      refine (HCA.out wb (xt X0 X1)).mono ?_
      rintro z w1 ⟨rfl, e1⟩
      obtain ⟨c0, c1, c2⟩ := Vec.three (C0.later e1)
      have k0 := ((B1.later e1) 0 _ rfl).1
      go_wp2_with fail
      refine (HCL.out w1 (w.heap.size + 1) (xt (xt X0 X1) e1) k0).mono ?_
      rintro z w2 ⟨rfl, e2⟩
      go_wp2_with fail
      go_ret
      exact ⟨rfl, xt (xt (xt X0 X1) e1) e2⟩
  · obtain rfl : R = false := by rw [HGo.out, show sizesB n m W = false from decide_eq_false (by omega)]; rfl
    have g5 : ((W : Int) != (n : Int)) = true := bne_iff_ne.2 (by omega)
    go_enter Tryd.func7, Tryd.ntmps7
    go_wp2_with fail
    try (go_quiet (fail); go_wp2_with fail)
    go_ret
    exact ⟨rfl, by first | exact xt X0 X1 | exact xdNv3 (xt X0 X1) _⟩

end Go.Proofs.YtnpcckhalbbbhaaDoor
