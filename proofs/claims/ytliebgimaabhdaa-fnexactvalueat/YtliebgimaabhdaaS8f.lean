/-
  Chapter 8: the law of ValueAt.
-/
import Derived.Test.YtliebgimaabhdaaS8e
namespace Go.Proofs.Ytliebgimaabhdaa
open Go.RowKit

theorem valAt_form (l : List ST) (r c : Int) : ∃ k n d x t, valAt l r c = valV k n d x t := by
  unfold valAt
  split
  · exact ⟨_, _, _, _, _, rfl⟩
  · exact ⟨_, _, _, _, _, rfl⟩
set_option maxRecDepth 8000 in
set_option maxHeartbeats 2000000 in
theorem lawValueAt (v : Value) (l : List ST) (row col : Int) (w : World) (h : ShownsIn w v l) (hl : l.length ≤ 9223372036854775807) (ht : ∀ e ∈ l, e.t.length ≤ 9223372036854775807) :
    Calls Try.prog 3 #[v, .int .i64 row, .int .i64 col] w fun e w' => e = .returned (.bool true) ∧ Ext w w' := by
  go_enter Try.func3, Try.ntmps3
  go_wp2_with fail
  refine (szShowns v l 1048576 w h (by omega) (by omega) hl ht).mono ?_
  rintro e w1 ⟨⟨z, rfl, z0, z1, hz⟩, X1⟩
  by_cases hn : z < 0
  · clear hz
    go_wp2_with fail
    go_ret
    exact ⟨rfl, X1⟩
  · obtain ⟨hl1, ht1⟩ := hz (by omega)
    have hl2 : l.length ≤ 2000000 := by omega
    clear hl ht hl1 ht1 hz
    obtain ⟨fk, fn, fd, fx, ft, hV⟩ := valAt_form l row col
    have CI := fun v W (q : ShownsIn W v l) => valueAtI v l row col W q hl2
    have CS := fun v W (q : ShownsIn W v l) => valueAtS v l row col W q hl2
    simp only [hV] at CI CS
    clear hV
    go_wp2_with fail
    refine (toShowns v l w1 (h.later X1) hl2).mono ?_
    rintro e w2 ⟨⟨g, rfl, hg, O⟩, e2⟩
    have X2 := xt X1 e2
    go_wp2_with fail
    refine (CS _ w2 O.slice).mono ?_
    rintro e w3 ⟨rfl, e3⟩
    have X3 := xt X2 e3
    clear O CS
    have Y3 := x1 w3 (.cells #[.int .i64 fk, .bool fn, .int .i64 fd, .int .i64 fx, sV ft] 27)
    have B3 := vec_made w3 [.int .i64 fk, .bool fn, .int .i64 fd, .int .i64 fx, sV ft] 27
    obtain ⟨w4, h4⟩ : ∃ w4, w3.alloc (.cells #[.int .i64 fk, .bool fn, .int .i64 fd, .int .i64 fx, sV ft] 27) = w4 := ⟨_, rfl⟩
    change Vec (w3.alloc (.cells #[.int .i64 fk, .bool fn, .int .i64 fd, .int .i64 fx, sV ft] 27)) _ _ at B3
    rw [h4] at Y3 B3
    have X4 := xt X3 Y3
    obtain ⟨ga, hga⟩ : ∃ ga, w3.heap.size = ga := ⟨_, rfl⟩
    rw [hga] at B3
    go_wp2_with fail
    clear h4 hga
    refine (toShowns v l w4 (h.later X4) hl2).mono ?_
    rintro e w5 ⟨⟨g', rfl, hg', O⟩, e5⟩
    have X5 := xt X4 e5
    have B5 := B3.later e5
    obtain ⟨n, hn'⟩ : ∃ n, l.length = n := ⟨_, rfl⟩
    have HN : Hid (l.length = n) := hn'
    rw [hn']
    clear hn' B3
    have V5 : ShownsIn w5 (.slice (some ⟨g', 0, none⟩) n n) l := by have := O.slice; rw [HN.out] at this; exact this
    clear O
    go_wp2_with fail
    refine (CI _ w5 V5).mono ?_
    rintro e w6 ⟨rfl, e6⟩
    have X6 := xt X5 e6
    have B6 := B5.later e6
    have V6 := V5.later e6
    clear B5 V5 CI
    have Y6 := x1 w6 (.cells #[.int .i64 fk, .bool fn, .int .i64 fd, .int .i64 fx, sV ft] 27)
    have D6 := vec_made w6 [.int .i64 fk, .bool fn, .int .i64 fd, .int .i64 fx, sV ft] 27
    obtain ⟨w7, h7⟩ : ∃ w7, w6.alloc (.cells #[.int .i64 fk, .bool fn, .int .i64 fd, .int .i64 fx, sV ft] 27) = w7 := ⟨_, rfl⟩
    change Vec (w6.alloc (.cells #[.int .i64 fk, .bool fn, .int .i64 fd, .int .i64 fx, sV ft] 27)) _ _ at D6
    rw [h7] at Y6 D6
    have X7 := xt X6 Y6
    have B7 := B6.later Y6
    have V7 := V6.later Y6
    clear B6 V6 Y6
    obtain ⟨gb, hgb⟩ : ∃ gb, w6.heap.size = gb := ⟨_, rfl⟩
    rw [hgb] at D6
    have a0 := (B7 0 _ rfl).1
    have a1 := (B7 1 _ rfl).1
    have a2 := (B7 2 _ rfl).1
    have a3 := (B7 3 _ rfl).1
    have a4 := (B7 4 _ rfl).1
    have k0 := (D6 0 _ rfl).1
    have k1 := (D6 1 _ rfl).1
    have k2 := (D6 2 _ rfl).1
    have k3 := (D6 3 _ rfl).1
    have k4 := (D6 4 _ rfl).1
    go_wp2_with fail
    clear h7 hgb a0 a1 a2 a3 a4 k0 k1 k2 k3 k4 B7 D6
    refine (eqValue_same fk fn fd fx ft w7).mono ?_
    rintro e w8 ⟨rfl, e8⟩
    have X8 := xt X7 e8
    have V8 := V7.later e8
    clear V7
    have HTG : Hid (∀ W, Ext w W → Calls Try.prog 6 #[v] W fun e w' => (∃ g, e = .returned (.slice (some ⟨g, 0, none⟩) n n) ∧ W.heap.size ≤ g ∧ OwnS w' g l) ∧ Ext W w') := fun W x => by have := toShowns v l W (h.later x) hl2; rw [HN.out] at this; exact this
    have HVV : Hid (∀ W g, OwnS W g l → ShownsIn W (.slice (some ⟨g, 0, none⟩) n n) l) := fun W g o => by have := o.slice; rw [HN.out] at this; exact this
    have EG := fun (v1 v2 : Value) W (x1 : ShownsIn W v1 l) (x2 : ShownsIn W v2 l) => eqShowns v1 v2 l W x1 x2 hl2
    clear h
    go_wp2_with fail
    refine (HTG.out w8 X8).mono ?_
    rintro e w9 ⟨⟨g2, rfl, hg2, O2⟩, e9⟩
    go_wp2_with fail
    refine (EG _ _ w9 (V8.later e9) (HVV.out _ _ O2)).mono ?_
    rintro e w10 ⟨rfl, e10⟩
    go_wp2_with fail
    go_ret
    exact ⟨rfl, xt (xt X8 e9) e10⟩

end Go.Proofs.Ytliebgimaabhdaa
