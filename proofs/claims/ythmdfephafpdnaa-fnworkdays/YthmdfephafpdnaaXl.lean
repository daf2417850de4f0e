/-
  FnWorkdays, walked.
-/
import Derived.Test.YthmdfephafpdnaaXd
import Derived.Test.YthmdfephafpdnaaXn
import Derived.Deep.RegionHeld3
import Derived.Deep.AppendLies
namespace Go.Proofs.Ythmdfephafpdnaa
open Go.RowKit

set_option maxRecDepth 8000 in
set_option maxHeartbeats 8000000 in
theorem lawWd_p (p p' : Option Addr) (n cap n' cap' : Nat) (w : World) (hc : CodeIn w w.heap.size (.slice p n cap) n) (hb : n ≤ 1048576) (hb' : n' ≤ 1048576) :
    Calls Try.prog 3 #[.slice p n cap, .slice p' n' cap'] w fun e w' => e = .returned (.bool true) ∧ Ext w w' := by
  have CD := drawWork _ n w hc hb
  have fl : decide ((n : Int) > 1048576) = false := by simp; omega
  have fl' : decide ((n' : Int) > 1048576) = false := by simp; omega
  clear hc
  go_enter Try.func3, Try.ntmps3
  go_wp2_with fail
  refine CD.mono ?_
  clear CD
  rintro e w1 ⟨a, b, u, l, rfl, ha, hbb, I1, hl, e1⟩
  obtain ⟨pu, cu, rfl, hcu, hcell⟩ := id I1
  have WI := fun (w' : World) (x : Ext w1 w') => workI a b _ l w' (I1.later x)
  have WB := fun (w' : World) (x : Ext w1 w') => workI b a _ l w' (I1.later x)
  have WS := fun (w' : World) (x : Ext w1 w') => workS a b _ l w' (I1.later x)
  obtain ⟨R, hR⟩ : ∃ R, workR a b l = R := ⟨_, rfl⟩
  obtain ⟨Q, hQ⟩ : ∃ Q, workR b a l = Q := ⟨_, rfl⟩
  have rb := workR_bounds a b l
  rw [hR] at WI WS rb
  rw [hQ] at WB
  go_wp2_with fail
  refine (WI w1 (xr _)).mono ?_
  rintro e w2 ⟨rfl, e2⟩
  go_wp2_with fail
  refine (WS w2 e2).mono ?_
  rintro e w3 ⟨rfl, e3⟩
  have Y3 := xt e2 e3
  go_wp2_with fail
  refine (WB w3 Y3).mono ?_
  rintro e w4 ⟨rfl, e4⟩
  have Y4 := xt Y3 e4
  clear WI WB WS e2 e3 e4 Y3
  obtain ⟨L, hL⟩ : ∃ L, l.length = L := ⟨_, rfl⟩
  have HL : Hid (l.length = L) := hL
  rw [hL] at hl hcu hcell ⊢
  have X4 := xt e1 Y4
  have HI : Hid (0 < L → ∃ b o, pu = some ⟨b, o, none⟩ ∧ ∀ i, i < L → w4.cell? ⟨b, o + i, none⟩ = some (.int .i64 (l.getD i 0))) := fun h0 => by
    obtain ⟨b', o, h4, h5⟩ := hcell h0
    exact ⟨b', o, h4, fun i hi => cell_later Y4 (h5 i hi)⟩
  have HII : Hid (IntsIn w4 (.slice pu L cu) l) := by have := I1.later Y4; rw [hL] at this; exact this
  have HR : Hid (workR a b l = R) := hR
  clear hL hcell I1 hR Y4 e1
  have CASE : Q = -R ∨ a = b := by
    by_cases h : a = b
    · exact .inr h
    · exact .inl (by rw [← hQ, workR_back a b l h, HR.out])
  clear hQ
  obtain ⟨inf, hi, hz, hz1, hz2⟩ : ∃ inf, Try.prog.info? 3 = some inf ∧ inf.zero = some (.int .i64 0) ∧ inf.size = 1 ∧ inf.bytes = 8 := by
    obtain ⟨inf, e1, e2⟩ := Option.map_eq_some_iff.1 infoI
    simp only [Prod.mk.injEq] at e2
    exact ⟨inf, e1, e2.1, e2.2.1, e2.2.2⟩
  by_cases hk : Q = -R
  · have fk : (Q != -R) = false := by simp [hk]
    clear CASE hk
    go_wp2_with fail
    refine (weekdayI a w4).mono ?_
    rintro e w5 ⟨rfl, rfl⟩
    by_cases ga : -1000000 ≤ a ∧ a ≤ 1000000
    · rw [if_pos ga]
      have da : decide ((a + 5) % 7 < 0) = false := by simp; omega
      go_wp2_with fail
      refine (weekdayI b w5).mono ?_
      rintro e w6 ⟨rfl, rfl⟩
      by_cases gb : -1000000 ≤ b ∧ b ≤ 1000000
      · rw [if_pos gb]
        have db : decide ((b + 5) % 7 < 0) = false := by simp; omega
        by_cases h4 : (L : Int) > 400
        · have f4 : decide ((L : Int) > 400) = true := decide_eq_true h4
          go_wp2_with fail
          go_ret
          exact ⟨rfl, X4⟩
        · have f4 : decide ((L : Int) > 400) = false := decide_eq_false h4
          go_wp2_with fail
          go_loopw [9, 65] (fun tw i wr => ∃ (k : Nat) (t : List Int), k ≤ L ∧ i = .int .i64 k ∧ t.length = 2 * k ∧ Hid ((∀ x, x ∈ t → x ∈ l) ∧ ∀ j, j < k → l.getD j 0 ∈ t) ∧ wr.ownsRow w6.heap.size 3 1 tw t.length (t.map (Value.int .i64)) ∧ Ext w6 wr) (fun _ i _ => L - (intOf i).toNat)
          case atStart => exact ⟨0, [], by omega, rfl, rfl, ⟨by simp, by simp⟩, World.ownsRow_nil _ _ _ _, xr _⟩
          case round =>
            obtain ⟨k, t, hk, rfl, ht, HM, own, X⟩ := hrel
            have sr := X.size
            by_cases hlt : k < L
            · obtain ⟨sb, so, rfl, hcell⟩ := HI.out (by omega)
              obtain ⟨j, hj⟩ : ∃ j : Nat, L = j + 1 + k := ⟨L - 1 - k, by omega⟩
              have c1 := cell_later X (hcell j (by omega))
              have c2 := cell_later X (hcell k hlt)
              obtain ⟨f, hf⟩ : ∃ f, l.getD j 0 = f := ⟨_, rfl⟩
              obtain ⟨g, hg⟩ : ∃ g, l.getD k 0 = g := ⟨_, rfl⟩
              rw [hf] at c1
              rw [hg] at c2
              have mf : f ∈ l := by
                have hjl : j < l.length := by rw [HL.out]; omega
                rw [← hf, List.getD_eq_getElem?_getD, List.getElem?_eq_getElem hjl, Option.getD_some]
                exact List.getElem_mem hjl
              have mg : g ∈ l := by
                have hjl : k < l.length := by rw [HL.out]; omega
                rw [← hg, List.getD_eq_getElem?_getD, List.getElem?_eq_getElem hjl, Option.getD_some]
                exact List.getElem_mem hjl
              have HM2 : Hid ((∀ x, x ∈ t ++ [f, g] → x ∈ l) ∧ ∀ j, j < k + 1 → l.getD j 0 ∈ t ++ [f, g]) := by
                obtain ⟨m1, m2⟩ := HM.out
                refine ⟨fun x hx => ?_, fun j' hj' => ?_⟩
                · rcases List.mem_append.1 hx with h | h
                  · exact m1 x h
                  · simp at h
                    rcases h with rfl | rfl
                    · exact mf
                    · exact mg
                · by_cases e : j' = k
                  · subst e; rw [hg]; simp
                  · exact List.mem_append_left _ (m2 j' (by omega))
              have hlt' : (k : Int) < (L : Int) := by omega
              have ew1 : IntKind.i64.wrap ((L : Int) - 1) = (L : Int) - 1 := fit64 (by omega) (by omega)
              have ew2 : IntKind.i64.wrap ((L : Int) - 1 - (k : Int)) = (j : Int) := by rw [fit64 (by omega) (by omega)]; omega
              have ej0 : (0 : Int) ≤ (j : Int) := by omega
              have ek0 : (0 : Int) ≤ (k : Int) := by omega
              have hjL : (j : Int) < (L : Int) := by omega
              have hsb0 := World.block_lt_of_cell? _ _ (hcell k hlt)
              have hsb : some sb ≠ _ := fun e => by have := (own.lt _ e.symm).1; have h2 : sb < w6.heap.size := hsb0; omega
              clear hcell hf hg mf mg HM HI hj
              go_wp2_with fail
              go_region_held3 (fun w' => w'.cell? ⟨sb, so + j, none⟩ = some (.int .i64 f) ∧ w'.cell? ⟨sb, so + k, none⟩ = some (.int .i64 g)) (first | go_keep | (refine ⟨hgrow.cell ?_ hsb, hgrow.cell ?_ hsb⟩; (first | exact cell_later (w := wr) (x1 wr _) c1 | exact cell_later (w := wr) (xd (x1 wr _)) c1); (first | exact cell_later (w := wr) (x1 wr _) c2 | exact cell_later (w := wr) (xd (x1 wr _)) c2)))
                ((refine step_append_lies _ (by rfl) _ _ 23 (by rfl) w6.heap.size 3 inf (.int .i64 0) 1 8 Try.underlying23 hi hz hz1 hz2 rfl (by omega) _ _ _ (by rfl) (by first | exact World.ownsRow.alloc own _ | exact World.ownsRow.alloc (w := wr.drew) own _ | exact World.ownsRow.alloc (w := wr.drewN _) own _) ⟨wr.heap.size, 0, none⟩ 2 2 [.int .i64 f, .int .i64 g] (by rfl) (by rfl) (World.news_of_block (heap_alloc_new _ _)) (by simp [Value.oneCell']) (by omega) (by simp only [maxLen]; omega) (by omega) (by simp; omega) (wr.heap.size + 1) (by simp) ?_; intro g' cap1 w7 own7 hgrow hat7 hlt7))
              all_goals
                have X7 : Ext w6 w7 := by
                  first
                    | exact (xa X (.cells #[.int .i64 f, .int .i64 g] 3)).grown hgrow (by have := X.size; simp; omega) (fun r e => (own.lt r e).1)
                    | exact (xd (xa X (.cells #[.int .i64 f, .int .i64 g] 3))).grown hgrow (by have := X.size; simp; omega) (fun r e => (own.lt r e).1)
                go_wp2_with fail
                go_roundw
                case rel => exact ⟨k + 1, t ++ [f, g], by omega, by simp, by simp; omega, HM2, by simpa [ht] using own7, by first | exact X7 | exact xd X7 | exact xdN' X7 _⟩
                case measure => simp [intOf]; omega
            · obtain rfl : k = L := by omega
              have I7 := IntsIn.of_own own
              have hmem : ∀ x, x ∈ l ↔ x ∈ t := fun x => by
                obtain ⟨m1, m2⟩ := HM.out
                refine ⟨fun hx => ?_, m1 x⟩
                obtain ⟨j, hj, rfl⟩ := List.getElem_of_mem hx
                have := m2 j (by rw [← HL.out]; exact hj)
                rw [List.getD_eq_getElem?_getD, List.getElem?_eq_getElem hj, Option.getD_some] at this
                exact this
              have WT := workI a b _ t wr I7
              rw [← workR_members a b hmem (by rw [HL.out]; omega) (by omega), HR.out] at WT
              have I8 := HII.out.later X
              have X8 := xt X4 X
              clear I7 hmem HM own HI
              go_wp2_with fail
              refine WT.mono ?_
              rintro e w8 ⟨rfl, e8⟩
              have X9 := xt X8 e8
              have I9 := I8.later e8
              clear WT X8 I8 e8 X
              by_cases hle : b ≤ a
              · have fle : decide (b ≤ a) = true := decide_eq_true hle
                go_wp2_with fail
                go_ret
                exact ⟨rfl, X9⟩
              · have fle : decide (b ≤ a) = false := decide_eq_false hle
                obtain ⟨M, hM, M0, M1⟩ : ∃ M, wrap64 (a + wrap64 ((n' : Int) * 37 % (b - a))) = M ∧ a ≤ M ∧ M < b := by
                  have r0 := Int.emod_nonneg ((n' : Int) * 37) (show b - a ≠ 0 by omega)
                  have r1 := Int.emod_lt_of_pos ((n' : Int) * 37) (show 0 < b - a by omega)
                  generalize (n' : Int) * 37 % (b - a) = r at *
                  refine ⟨a + r, ?_, by omega, by omega⟩
                  unfold wrap64
                  omega
                have W1 := workI a M _ l w8 I9
                have W2 := fun (w' : World) (x : Ext w8 w') => workI (M + 1) b _ l w' (I9.later x)
                have cut := workR_cut a M b l M0 M1 ga gb (by rw [HL.out]; omega)
                have b1 := workR_bounds a M l
                have b2 := workR_bounds (M + 1) b l
                rw [HR.out] at cut
                obtain ⟨r1, hr1⟩ : ∃ r, workR a M l = r := ⟨_, rfl⟩
                obtain ⟨r2, hr2⟩ : ∃ r, workR (M + 1) b l = r := ⟨_, rfl⟩
                rw [hr1] at W1 cut b1
                rw [hr2] at W2 cut b2
                clear hr1 hr2 I9
                go_wp2_with fail
                rw [hM]
                refine W1.mono ?_
                rintro e wA ⟨rfl, eA⟩
                clear W1
                go_wp2_with fail
                refine (W2 wA eA).mono ?_
                rintro e wB ⟨rfl, eB⟩
                have XB := xt X9 (xt eA eB)
                clear W2 eA eB X9
                go_wp2_with fail
                go_ret
                exact ⟨rfl, XB⟩
      · rw [if_neg gb]
        go_wp2_with fail
        go_ret
        exact ⟨rfl, X4⟩
    · rw [if_neg ga]
      go_wp2_with fail
      go_ret
      exact ⟨rfl, X4⟩
  · have fk : (Q != -R) = true := by simp [hk]
    have fe : (a != b) = false := by
      rcases CASE with h | h
      · exact absurd h hk
      · simp [h]
    clear CASE hk
    go_wp2_with fail
    refine (weekdayI a w4).mono ?_
    rintro e w5 ⟨rfl, rfl⟩
    by_cases ga : -1000000 ≤ a ∧ a ≤ 1000000
    · rw [if_pos ga]
      have da : decide ((a + 5) % 7 < 0) = false := by simp; omega
      go_wp2_with fail
      refine (weekdayI b w5).mono ?_
      rintro e w6 ⟨rfl, rfl⟩
      by_cases gb : -1000000 ≤ b ∧ b ≤ 1000000
      · rw [if_pos gb]
        have db : decide ((b + 5) % 7 < 0) = false := by simp; omega
        by_cases h4 : (L : Int) > 400
        · have f4 : decide ((L : Int) > 400) = true := decide_eq_true h4
          go_wp2_with fail
          go_ret
          exact ⟨rfl, X4⟩
        · have f4 : decide ((L : Int) > 400) = false := decide_eq_false h4
          go_wp2_with fail
          go_loopw [9, 65] (fun tw i wr => ∃ (k : Nat) (t : List Int), k ≤ L ∧ i = .int .i64 k ∧ t.length = 2 * k ∧ Hid ((∀ x, x ∈ t → x ∈ l) ∧ ∀ j, j < k → l.getD j 0 ∈ t) ∧ wr.ownsRow w6.heap.size 3 1 tw t.length (t.map (Value.int .i64)) ∧ Ext w6 wr) (fun _ i _ => L - (intOf i).toNat)
          case atStart => exact ⟨0, [], by omega, rfl, rfl, ⟨by simp, by simp⟩, World.ownsRow_nil _ _ _ _, xr _⟩
          case round =>
            obtain ⟨k, t, hk, rfl, ht, HM, own, X⟩ := hrel
            have sr := X.size
            by_cases hlt : k < L
            · obtain ⟨sb, so, rfl, hcell⟩ := HI.out (by omega)
              obtain ⟨j, hj⟩ : ∃ j : Nat, L = j + 1 + k := ⟨L - 1 - k, by omega⟩
              have c1 := cell_later X (hcell j (by omega))
              have c2 := cell_later X (hcell k hlt)
              obtain ⟨f, hf⟩ : ∃ f, l.getD j 0 = f := ⟨_, rfl⟩
              obtain ⟨g, hg⟩ : ∃ g, l.getD k 0 = g := ⟨_, rfl⟩
              rw [hf] at c1
              rw [hg] at c2
              have mf : f ∈ l := by
                have hjl : j < l.length := by rw [HL.out]; omega
                rw [← hf, List.getD_eq_getElem?_getD, List.getElem?_eq_getElem hjl, Option.getD_some]
                exact List.getElem_mem hjl
              have mg : g ∈ l := by
                have hjl : k < l.length := by rw [HL.out]; omega
                rw [← hg, List.getD_eq_getElem?_getD, List.getElem?_eq_getElem hjl, Option.getD_some]
                exact List.getElem_mem hjl
              have HM2 : Hid ((∀ x, x ∈ t ++ [f, g] → x ∈ l) ∧ ∀ j, j < k + 1 → l.getD j 0 ∈ t ++ [f, g]) := by
                obtain ⟨m1, m2⟩ := HM.out
                refine ⟨fun x hx => ?_, fun j' hj' => ?_⟩
                · rcases List.mem_append.1 hx with h | h
                  · exact m1 x h
                  · simp at h
                    rcases h with rfl | rfl
                    · exact mf
                    · exact mg
                · by_cases e : j' = k
                  · subst e; rw [hg]; simp
                  · exact List.mem_append_left _ (m2 j' (by omega))
              have hlt' : (k : Int) < (L : Int) := by omega
              have ew1 : IntKind.i64.wrap ((L : Int) - 1) = (L : Int) - 1 := fit64 (by omega) (by omega)
              have ew2 : IntKind.i64.wrap ((L : Int) - 1 - (k : Int)) = (j : Int) := by rw [fit64 (by omega) (by omega)]; omega
              have ej0 : (0 : Int) ≤ (j : Int) := by omega
              have ek0 : (0 : Int) ≤ (k : Int) := by omega
              have hjL : (j : Int) < (L : Int) := by omega
              have hsb0 := World.block_lt_of_cell? _ _ (hcell k hlt)
              have hsb : some sb ≠ _ := fun e => by have := (own.lt _ e.symm).1; have h2 : sb < w6.heap.size := hsb0; omega
              clear hcell hf hg mf mg HM HI hj
              go_wp2_with fail
              go_region_held3 (fun w' => w'.cell? ⟨sb, so + j, none⟩ = some (.int .i64 f) ∧ w'.cell? ⟨sb, so + k, none⟩ = some (.int .i64 g)) (first | go_keep | (refine ⟨hgrow.cell ?_ hsb, hgrow.cell ?_ hsb⟩; (first | exact cell_later (w := wr) (x1 wr _) c1 | exact cell_later (w := wr) (xd (x1 wr _)) c1); (first | exact cell_later (w := wr) (x1 wr _) c2 | exact cell_later (w := wr) (xd (x1 wr _)) c2)))
                ((refine step_append_lies _ (by rfl) _ _ 23 (by rfl) w6.heap.size 3 inf (.int .i64 0) 1 8 Try.underlying23 hi hz hz1 hz2 rfl (by omega) _ _ _ (by rfl) (by first | exact World.ownsRow.alloc own _ | exact World.ownsRow.alloc (w := wr.drew) own _ | exact World.ownsRow.alloc (w := wr.drewN _) own _) ⟨wr.heap.size, 0, none⟩ 2 2 [.int .i64 f, .int .i64 g] (by rfl) (by rfl) (World.news_of_block (heap_alloc_new _ _)) (by simp [Value.oneCell']) (by omega) (by simp only [maxLen]; omega) (by omega) (by simp; omega) (wr.heap.size + 1) (by simp) ?_; intro g' cap1 w7 own7 hgrow hat7 hlt7))
              all_goals
                have X7 : Ext w6 w7 := by
                  first
                    | exact (xa X (.cells #[.int .i64 f, .int .i64 g] 3)).grown hgrow (by have := X.size; simp; omega) (fun r e => (own.lt r e).1)
                    | exact (xd (xa X (.cells #[.int .i64 f, .int .i64 g] 3))).grown hgrow (by have := X.size; simp; omega) (fun r e => (own.lt r e).1)
                go_wp2_with fail
                go_roundw
                case rel => exact ⟨k + 1, t ++ [f, g], by omega, by simp, by simp; omega, HM2, by simpa [ht] using own7, by first | exact X7 | exact xd X7 | exact xdN' X7 _⟩
                case measure => simp [intOf]; omega
            · obtain rfl : k = L := by omega
              have I7 := IntsIn.of_own own
              have hmem : ∀ x, x ∈ l ↔ x ∈ t := fun x => by
                obtain ⟨m1, m2⟩ := HM.out
                refine ⟨fun hx => ?_, m1 x⟩
                obtain ⟨j, hj, rfl⟩ := List.getElem_of_mem hx
                have := m2 j (by rw [← HL.out]; exact hj)
                rw [List.getD_eq_getElem?_getD, List.getElem?_eq_getElem hj, Option.getD_some] at this
                exact this
              have WT := workI a b _ t wr I7
              rw [← workR_members a b hmem (by rw [HL.out]; omega) (by omega), HR.out] at WT
              have I8 := HII.out.later X
              have X8 := xt X4 X
              clear I7 hmem HM own HI
              go_wp2_with fail
              refine WT.mono ?_
              rintro e w8 ⟨rfl, e8⟩
              have X9 := xt X8 e8
              have I9 := I8.later e8
              clear WT X8 I8 e8 X
              by_cases hle : b ≤ a
              · have fle : decide (b ≤ a) = true := decide_eq_true hle
                go_wp2_with fail
                go_ret
                exact ⟨rfl, X9⟩
              · have fle : decide (b ≤ a) = false := decide_eq_false hle
                obtain ⟨M, hM, M0, M1⟩ : ∃ M, wrap64 (a + wrap64 ((n' : Int) * 37 % (b - a))) = M ∧ a ≤ M ∧ M < b := by
                  have r0 := Int.emod_nonneg ((n' : Int) * 37) (show b - a ≠ 0 by omega)
                  have r1 := Int.emod_lt_of_pos ((n' : Int) * 37) (show 0 < b - a by omega)
                  generalize (n' : Int) * 37 % (b - a) = r at *
                  refine ⟨a + r, ?_, by omega, by omega⟩
                  unfold wrap64
                  omega
                have W1 := workI a M _ l w8 I9
                have W2 := fun (w' : World) (x : Ext w8 w') => workI (M + 1) b _ l w' (I9.later x)
                have cut := workR_cut a M b l M0 M1 ga gb (by rw [HL.out]; omega)
                have b1 := workR_bounds a M l
                have b2 := workR_bounds (M + 1) b l
                rw [HR.out] at cut
                obtain ⟨r1, hr1⟩ : ∃ r, workR a M l = r := ⟨_, rfl⟩
                obtain ⟨r2, hr2⟩ : ∃ r, workR (M + 1) b l = r := ⟨_, rfl⟩
                rw [hr1] at W1 cut b1
                rw [hr2] at W2 cut b2
                clear hr1 hr2 I9
                go_wp2_with fail
                rw [hM]
                refine W1.mono ?_
                rintro e wA ⟨rfl, eA⟩
                clear W1
                go_wp2_with fail
                refine (W2 wA eA).mono ?_
                rintro e wB ⟨rfl, eB⟩
                have XB := xt X9 (xt eA eB)
                clear W2 eA eB X9
                go_wp2_with fail
                go_ret
                exact ⟨rfl, XB⟩
      · rw [if_neg gb]
        go_wp2_with fail
        go_ret
        exact ⟨rfl, X4⟩
    · rw [if_neg ga]
      go_wp2_with fail
      go_ret
      exact ⟨rfl, X4⟩

set_option maxRecDepth 8000 in
set_option maxHeartbeats 1000000 in
theorem lawWd_big (p p' : Option Addr) (n cap n' cap' : Nat) (w : World) (hb : ¬ n ≤ 1048576) :
    Calls Try.prog 3 #[.slice p n cap, .slice p' n' cap'] w fun e w' => e = .returned (.bool true) ∧ Ext w w' := by
  have fl : decide ((n : Int) > 1048576) = true := by simp; omega
  go_enter Try.func3, Try.ntmps3
  go_wp2_with fail
  go_ret
  exact ⟨rfl, xr _⟩
set_option maxRecDepth 8000 in
set_option maxHeartbeats 1000000 in
theorem lawWd_more (p p' : Option Addr) (n cap n' cap' : Nat) (w : World) (hb : n ≤ 1048576) (hb' : ¬ n' ≤ 1048576) :
    Calls Try.prog 3 #[.slice p n cap, .slice p' n' cap'] w fun e w' => e = .returned (.bool true) ∧ Ext w w' := by
  have fl : decide ((n : Int) > 1048576) = false := by simp; omega
  have fl' : decide ((n' : Int) > 1048576) = true := by simp; omega
  go_enter Try.func3, Try.ntmps3
  go_wp2_with fail
  go_ret
  exact ⟨rfl, xr _⟩
theorem CodeIn.form {w : World} {v : Value} {n base : Nat} (hc : CodeIn w base v n) : ∃ p cap, v = .slice p n cap := by
  rcases hc with ⟨⟨p, cap, h⟩, rfl⟩ | ⟨pb, po, cap, _, h, _⟩
  · exact ⟨p, cap, h⟩
  · exact ⟨_, cap, h⟩
theorem lawWd (v v' : Value) (n n' : Nat) (w : World) (hc : CodeIn w w.heap.size v n) (hc' : CodeIn w w.heap.size v' n') :
    Calls Try.prog 3 #[v, v'] w fun e w' => e = .returned (.bool true) ∧ Ext w w' := by
  obtain ⟨p, cap, rfl⟩ := hc.form
  obtain ⟨p', cap', rfl⟩ := hc'.form
  by_cases hb : n ≤ 1048576
  · by_cases hb' : n' ≤ 1048576
    · exact lawWd_p p p' n cap n' cap' w hc hb hb'
    · exact lawWd_more p p' n cap n' cap' w hb hb'
  · exact lawWd_big p p' n cap n' cap' w hb

end Go.Proofs.Ythmdfephafpdnaa
