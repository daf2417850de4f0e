/-
  Chapter 9: Differ of the specification.
-/
import Derived.Test.YtbipmeldmgpknaaD9g
namespace Go.Proofs.Ytbipmeldmgpknaa
open Go.RowKit Go.Sort

theorem Vec.put8L {w : World} {b : Nat} {v0 v1 v2 v3 v4 v5 v6 v7 : Value} (h : Vec w b [v0, v1, v2, v3, v4, v5, v6, v7]) (e : ST) : Vec (setL w b 0 e.cells) b e.cells :=
  (((((((h.put 0 (by simp) (.int .i64 e.r)).put 1 (by simp) (.int .i64 e.c)).put 2 (by simp) (.int .i64 e.k)).put 3 (by simp) (.bool e.n)).put 4 (by simp) (.int .i64 e.d)).put 5 (by simp) (.int .i64 e.x)).put 6 (by simp) (sV e.t)).put 7 (by simp) (.bool e.q)
theorem drop_cons {A : List ST} {i : Nat} {a : ST} (h : A[i]? = some a) : A.drop i = a :: A.drop (i + 1) := by
  obtain ⟨hi, rfl⟩ := List.getElem?_eq_some_iff.1 h
  exact List.drop_eq_getElem_cons hi

set_option maxRecDepth 8000 in
set_option maxHeartbeats 60000000 in
theorem differS (va vb : Value) (A B : List ST) (w : World) (ha : ShownsIn w va A) (hb : ShownsIn w vb B) (la : A.length ≤ 1048576) (lb : B.length ≤ 1048576) :
    Calls Try.prog 5 #[va, vb] w fun e w' => (∃ v, e = .returned v ∧ OwnR w' w.heap.size v (if risB A && risB B then diffS A B else [])) ∧ Ext w w' := by
  obtain ⟨R, hR⟩ : ∃ R, (if risB A && risB B then diffS A B else []) = R := ⟨_, rfl⟩
  have HR : Hid ((if risB A && risB B then diffS A B else []) = R) := hR
  rw [hR]
  have CA := fun W (x : Ext w W) => risesS va A W (ha.later x) (by omega)
  have CB := fun W (x : Ext w W) => risesS vb B W (hb.later x) (by omega)
  have HA : Hid (ShownsIn w va A) := ha
  have HB : Hid (ShownsIn w vb B) := hb
  clear hR ha hb
  cases hA : risB A with
  | false =>
    rw [hA] at CA
    have HE : Hid (R = []) := by show _ = _; rw [← HR.out, hA]; rfl
    clear hA
    go_enter Try.func5, Try.ntmps5
    go_wp2_with fail
    refine (CA _ (xr _)).mono ?_
    rintro e w1 ⟨rfl, X1⟩
    go_wp2_with fail
    go_ret
    exact ⟨⟨_, rfl, by rw [HE.out]; exact ownR_nil _ _⟩, X1⟩
  | true =>
    rw [hA] at CA
    cases hB : risB B with
    | false =>
      rw [hB] at CB
      have HE : Hid (R = []) := by show _ = _; rw [← HR.out, hA, hB]; rfl
      clear hA hB
      go_enter Try.func5, Try.ntmps5
      go_wp2_with fail
      refine (CA _ (xr _)).mono ?_
      rintro e w1 ⟨rfl, X1⟩
      go_wp2_with fail
      refine (CB _ X1).mono ?_
      rintro e w2 ⟨rfl, E2⟩
      go_wp2_with fail
      go_ret
      exact ⟨⟨_, rfl, by rw [HE.out]; exact ownR_nil _ _⟩, xt X1 E2⟩
    | true =>
      rw [hB] at CB
      have HE : Hid (diffS A B = R) := by show _ = _; rw [← HR.out, hA, hB]; rfl
      clear hA hB HR
      obtain ⟨pa, ca, rfl, hca, hra⟩ := HA.out
      obtain ⟨pb, cb, rfl, hcb, hrb⟩ := HB.out
      obtain ⟨na, hna⟩ : ∃ n, A.length = n := ⟨_, rfl⟩
      obtain ⟨nb, hnb⟩ : ∃ n, B.length = n := ⟨_, rfl⟩
      rw [hna] at hca hra la CA ⊢
      rw [hnb] at hcb hrb lb CB ⊢
      have NA : Hid (A.length = na) := hna
      have NB : Hid (B.length = nb) := hnb
      have RowA : Hid (0 < na → ∃ b o, pa = some ⟨b, o, none⟩ ∧ RowS w b o A) := hra
      have RowB : Hid (0 < nb → ∃ b o, pb = some ⟨b, o, none⟩ ∧ RowS w b o B) := hrb
      clear hna hnb hra hrb HA HB
      go_enter Try.func5, Try.ntmps5
      go_wp2_with fail
      refine (CA _ (xr _)).mono ?_
      rintro e w1 ⟨rfl, X1⟩
      go_wp2_with fail
      refine (CB _ X1).mono ?_
      rintro e w2 ⟨rfl, E2⟩
      have X2 := xt X1 E2
      clear CA CB X1 E2
      go_wp2_with fail
      go_loopw [5, 6, 7] (fun l u v wr => ∃ (i k : Nat), i ≤ na ∧ k ≤ nb ∧ u = .int .i64 i ∧ v = .int .i64 k ∧ ∃ O : List ST, OwnR wr w.heap.size l O ∧ Hid (O ++ diffS (A.drop i) (B.drop k) = R) ∧ O.length ≤ i + k ∧ Ext w wr) (fun _ u v _ => na + nb - ((intOf u).toNat + (intOf v).toNat))
      case atStart => exact ⟨0, 0, by omega, by omega, rfl, rfl, [], ownR_nil _ _, HE.out, by simp, X2⟩
      case round =>
        clear X2
        obtain ⟨i, k, hi1, hk1, rfl, rfl, O, LO, HO, hOl, X⟩ := hrel
        obtain ⟨sp, sn, sc, rfl⟩ := ownR_slice LO
        by_cases hia : i < na
        · obtain ⟨a, ha⟩ : ∃ a, A[i]? = some a := ⟨_, List.getElem?_eq_getElem (by rw [NA.out]; omega)⟩
          obtain ⟨ba, oa, rfl, hRA⟩ := RowA.out (by omega)
          have HRA : Hid (RowS w ba oa A) := hRA
          have HaA : Hid (A[i]? = some a) := ha
          have DA : Hid (A.drop i = a :: A.drop (i + 1)) := drop_cons ha
          clear hRA ha
          have ia : (i : Int) < (na : Int) := by omega
          have ia2 : (i : Int) ≠ (na : Int) := by omega
          have ia3 : i ≠ na := by omega
          obtain ⟨a0, a1, a2, a3, a4, a5, a6, a7⟩ := (HRA.out.later (X)).all HaA.out
          by_cases hkb : k < nb
          · obtain ⟨b, hb⟩ : ∃ b, B[k]? = some b := ⟨_, List.getElem?_eq_getElem (by rw [NB.out]; omega)⟩
            obtain ⟨bb, ob, rfl, hRB⟩ := RowB.out (by omega)
            have HRB : Hid (RowS w bb ob B) := hRB
            have HbB : Hid (B[k]? = some b) := hb
            have DB : Hid (B.drop k = b :: B.drop (k + 1)) := drop_cons hb
            clear hRB hb
            have ib : (k : Int) < (nb : Int) := by omega
            obtain ⟨b0, b1, b2, b3, b4, b5, b6, b7⟩ := (HRB.out.later (X)).all HbB.out
            have CC := fun W => aheadS b.r b.c a.r a.c W
            obtain ⟨C, hC⟩ : ∃ C, aheadB b.r b.c a.r a.c = C := ⟨_, rfl⟩
            have HC : Hid (b.lt a = C) := hC
            rw [hC] at CC
            clear hC
            cases C with
            | true =>
              have hlt := lt_iff.1 HC.out
              by_cases hq : a.r = b.r
              · have hq2 : a.c ≠ b.c := by omega
                rw [hq] at CC
                clear hlt
                go_wp2_with fail
                go_quiet (first | (go_at_call 13; exact (CC _).mono (fun _ _ q => ⟨q.1, ⟨_, q.2⟩⟩)))
                have E2 := ext_drewN wr nq
                generalize wr.drewN nq = wq at E2
                have X2 := xt X E2
                have O2 := ownR_later LO E2
                clear a0 a1 a2 a3 a4 a5 a6 a7 b0 b1 b2 b3 b4 b5 b6 b7 X LO
                have VE := fun W => shown_neq (nullAt b.r b.c) b rfl rfl W
                have HK : Hid (keepS (nullAt b.r b.c) b = if ((nullAt b.r b.c)).like b then [] else [b]) := rfl
                obtain ⟨Tt, hTt⟩ : ∃ Tt, ((nullAt b.r b.c)).like b = Tt := ⟨_, rfl⟩
                rw [hTt] at VE
                have HK : Hid (keepS (nullAt b.r b.c) b = if Tt then [] else [b]) := by show _ = _; rw [HK.out, hTt]
                clear hTt
                have VE : ∀ W, (binOp BinOp.neq 42 (.agg #[.int .i64 b.r, .int .i64 b.c, .int .i64 0, .bool false, .int .i64 0, .int .i64 0, sV [], .bool false]) (.agg #[.int .i64 b.r, .int .i64 b.c, .int .i64 b.k, .bool b.n, .int .i64 b.d, .int .i64 b.x, sV b.t, .bool b.q])).run Try.prog W = .ok (.bool (!Tt)) W := VE
                obtain ⟨a0, a1, a2, a3, a4, a5, a6, a7⟩ := (HRA.out.later (X2)).all HaA.out
                obtain ⟨b0, b1, b2, b3, b4, b5, b6, b7⟩ := (HRB.out.later (X2)).all HbB.out
                have a0' : ∀ (c d : Array Value), ((wq.alloc (.cells c 42)).alloc (.cells d 42)).cell? ⟨ba, oa + i * 8, none⟩ = some (.int .i64 a.r) := fun c d => cell_later (xa (x1 _ _) _) a0
                have a1' : ∀ (c d : Array Value), ((wq.alloc (.cells c 42)).alloc (.cells d 42)).cell? ⟨ba, oa + i * 8 + 1, none⟩ = some (.int .i64 a.c) := fun c d => cell_later (xa (x1 _ _) _) a1
                have a2' : ∀ (c d : Array Value), ((wq.alloc (.cells c 42)).alloc (.cells d 42)).cell? ⟨ba, oa + i * 8 + 2, none⟩ = some (.int .i64 a.k) := fun c d => cell_later (xa (x1 _ _) _) a2
                have a3' : ∀ (c d : Array Value), ((wq.alloc (.cells c 42)).alloc (.cells d 42)).cell? ⟨ba, oa + i * 8 + 3, none⟩ = some (.bool a.n) := fun c d => cell_later (xa (x1 _ _) _) a3
                have a4' : ∀ (c d : Array Value), ((wq.alloc (.cells c 42)).alloc (.cells d 42)).cell? ⟨ba, oa + i * 8 + 4, none⟩ = some (.int .i64 a.d) := fun c d => cell_later (xa (x1 _ _) _) a4
                have a5' : ∀ (c d : Array Value), ((wq.alloc (.cells c 42)).alloc (.cells d 42)).cell? ⟨ba, oa + i * 8 + 5, none⟩ = some (.int .i64 a.x) := fun c d => cell_later (xa (x1 _ _) _) a5
                have a6' : ∀ (c d : Array Value), ((wq.alloc (.cells c 42)).alloc (.cells d 42)).cell? ⟨ba, oa + i * 8 + 6, none⟩ = some (sV a.t) := fun c d => cell_later (xa (x1 _ _) _) a6
                have a7' : ∀ (c d : Array Value), ((wq.alloc (.cells c 42)).alloc (.cells d 42)).cell? ⟨ba, oa + i * 8 + 7, none⟩ = some (.bool a.q) := fun c d => cell_later (xa (x1 _ _) _) a7
                have b0' : ∀ (c d : Array Value), ((wq.alloc (.cells c 42)).alloc (.cells d 42)).cell? ⟨bb, ob + k * 8, none⟩ = some (.int .i64 b.r) := fun c d => cell_later (xa (x1 _ _) _) b0
                have b1' : ∀ (c d : Array Value), ((wq.alloc (.cells c 42)).alloc (.cells d 42)).cell? ⟨bb, ob + k * 8 + 1, none⟩ = some (.int .i64 b.c) := fun c d => cell_later (xa (x1 _ _) _) b1
                have b2' : ∀ (c d : Array Value), ((wq.alloc (.cells c 42)).alloc (.cells d 42)).cell? ⟨bb, ob + k * 8 + 2, none⟩ = some (.int .i64 b.k) := fun c d => cell_later (xa (x1 _ _) _) b2
                have b3' : ∀ (c d : Array Value), ((wq.alloc (.cells c 42)).alloc (.cells d 42)).cell? ⟨bb, ob + k * 8 + 3, none⟩ = some (.bool b.n) := fun c d => cell_later (xa (x1 _ _) _) b3
                have b4' : ∀ (c d : Array Value), ((wq.alloc (.cells c 42)).alloc (.cells d 42)).cell? ⟨bb, ob + k * 8 + 4, none⟩ = some (.int .i64 b.d) := fun c d => cell_later (xa (x1 _ _) _) b4
                have b5' : ∀ (c d : Array Value), ((wq.alloc (.cells c 42)).alloc (.cells d 42)).cell? ⟨bb, ob + k * 8 + 5, none⟩ = some (.int .i64 b.x) := fun c d => cell_later (xa (x1 _ _) _) b5
                have b6' : ∀ (c d : Array Value), ((wq.alloc (.cells c 42)).alloc (.cells d 42)).cell? ⟨bb, ob + k * 8 + 6, none⟩ = some (sV b.t) := fun c d => cell_later (xa (x1 _ _) _) b6
                have b7' : ∀ (c d : Array Value), ((wq.alloc (.cells c 42)).alloc (.cells d 42)).cell? ⟨bb, ob + k * 8 + 7, none⟩ = some (.bool b.q) := fun c d => cell_later (xa (x1 _ _) _) b7
                have E3 : Ext wq ((wq.alloc (.cells ((nullAt b.r b.c)).cells.toArray 42)).alloc (.cells (b).cells.toArray 42)) := xa (x1 _ _) _
                have X3 := xt X2 E3
                have O3 := ownR_later O2 E3
                clear X2 O2 E3
                have HS : Hid (diffS (A.drop i) (B.drop k) = keepS (nullAt b.r b.c) b ++ diffS (A.drop i) (B.drop (k + 1))) := by
                  show _ = _
                  rw [DA.out, DB.out, diffS, if_pos HC.out]
                cases Tt with
                | true =>
                  have HK0 : Hid (keepS (nullAt b.r b.c) b = []) := HK.out
                  go_wp2_with fail
                  go_roundw
                  case rel => exact ⟨i, k + 1, by omega, by omega, rfl, by go_num, _, O3, by show _ = _; rw [← HO.out, HS.out, HK0.out, List.nil_append], by omega, X3⟩
                  case measure => simp [intOf]; omega
                | false =>
                  have HK0 : Hid (keepS (nullAt b.r b.c) b = [b]) := HK.out
                  obtain ⟨inf, hi, hz, hz1, hz2⟩ := infoR
                  have OQ : Hid (OwnR ((wq.alloc (.cells ((nullAt b.r b.c)).cells.toArray 42)).alloc (.cells (b).cells.toArray 42)) w.heap.size (.slice sp sn sc) O) := O3
                  have sq := X3.size
                  clear O3
                  go_wp2_with (at_builtin; refine wpList_append_own _ rfl _ _ 24 rfl w.heap.size 42 inf (.agg zeroST.cells.toArray) 8 72 Try.underlying24 hi hz hz1 hz2 rfl (by decide) _ _ _ rfl (OQ.out.alloc _) ⟨wq.heap.size + 1 + 1, 0, none⟩ 1 1 (b).cells rfl rfl (World.news_of_block (by have := heap_alloc_new ((wq.alloc (.cells ((nullAt b.r b.c)).cells.toArray 42)).alloc (.cells (b).cells.toArray 42)) (.cells (b).cells.toArray 42); rw [World.size_alloc, World.size_alloc] at this; exact this)) (by simp [Value.oneCell']) (by simp only [maxLen]; omega) (by omega) (by simp at sq ⊢; omega) ?_)
                  intro v7 wC ownC gC _
                  have lb := ownR_block OQ.out
                  have XA := xa X3 (.cells (b).cells.toArray 42)
                  have XC : Ext w wC := XA.grown gC XA.size (fun q hq => lb q hq)
                  have OC : OwnR wC w.heap.size v7 (O ++ [b]) := by
                    show World.ownsRow _ _ _ _ _ _ _
                    rw [flatS_append, List.length_append]
                    exact ownC
                  obtain ⟨p7, n7, c7, rfl⟩ := ownR_slice OC
                  have hOl : Hid ((O ++ [b]).length = O.length + 1) := by show _ = _; rw [List.length_append]; rfl
                  clear gC ownC OQ XA X3 lb hi hz hz1 hz2 VE
                  go_wp2_with fail
                  go_roundw
                  case rel => exact ⟨i, k + 1, by omega, by omega, rfl, by go_num, _, OC, by show _ = _; rw [← HO.out, HS.out, HK0.out, List.append_assoc], by rw [hOl.out]; omega, XC⟩
                  case measure => simp [intOf]; omega
              · clear hlt
                go_wp2_with fail
                go_quiet (first | (go_at_call 13; exact (CC _).mono (fun _ _ q => ⟨q.1, ⟨_, q.2⟩⟩)))
                have E2 := ext_drewN wr nq
                generalize wr.drewN nq = wq at E2
                have X2 := xt X E2
                have O2 := ownR_later LO E2
                clear a0 a1 a2 a3 a4 a5 a6 a7 b0 b1 b2 b3 b4 b5 b6 b7 X LO
                have VE := fun W => shown_neq (nullAt b.r b.c) b rfl rfl W
                have HK : Hid (keepS (nullAt b.r b.c) b = if ((nullAt b.r b.c)).like b then [] else [b]) := rfl
                obtain ⟨Tt, hTt⟩ : ∃ Tt, ((nullAt b.r b.c)).like b = Tt := ⟨_, rfl⟩
                rw [hTt] at VE
                have HK : Hid (keepS (nullAt b.r b.c) b = if Tt then [] else [b]) := by show _ = _; rw [HK.out, hTt]
                clear hTt
                have VE : ∀ W, (binOp BinOp.neq 42 (.agg #[.int .i64 b.r, .int .i64 b.c, .int .i64 0, .bool false, .int .i64 0, .int .i64 0, sV [], .bool false]) (.agg #[.int .i64 b.r, .int .i64 b.c, .int .i64 b.k, .bool b.n, .int .i64 b.d, .int .i64 b.x, sV b.t, .bool b.q])).run Try.prog W = .ok (.bool (!Tt)) W := VE
                obtain ⟨a0, a1, a2, a3, a4, a5, a6, a7⟩ := (HRA.out.later (X2)).all HaA.out
                obtain ⟨b0, b1, b2, b3, b4, b5, b6, b7⟩ := (HRB.out.later (X2)).all HbB.out
                have a0' : ∀ (c d : Array Value), ((wq.alloc (.cells c 42)).alloc (.cells d 42)).cell? ⟨ba, oa + i * 8, none⟩ = some (.int .i64 a.r) := fun c d => cell_later (xa (x1 _ _) _) a0
                have a1' : ∀ (c d : Array Value), ((wq.alloc (.cells c 42)).alloc (.cells d 42)).cell? ⟨ba, oa + i * 8 + 1, none⟩ = some (.int .i64 a.c) := fun c d => cell_later (xa (x1 _ _) _) a1
                have a2' : ∀ (c d : Array Value), ((wq.alloc (.cells c 42)).alloc (.cells d 42)).cell? ⟨ba, oa + i * 8 + 2, none⟩ = some (.int .i64 a.k) := fun c d => cell_later (xa (x1 _ _) _) a2
                have a3' : ∀ (c d : Array Value), ((wq.alloc (.cells c 42)).alloc (.cells d 42)).cell? ⟨ba, oa + i * 8 + 3, none⟩ = some (.bool a.n) := fun c d => cell_later (xa (x1 _ _) _) a3
                have a4' : ∀ (c d : Array Value), ((wq.alloc (.cells c 42)).alloc (.cells d 42)).cell? ⟨ba, oa + i * 8 + 4, none⟩ = some (.int .i64 a.d) := fun c d => cell_later (xa (x1 _ _) _) a4
                have a5' : ∀ (c d : Array Value), ((wq.alloc (.cells c 42)).alloc (.cells d 42)).cell? ⟨ba, oa + i * 8 + 5, none⟩ = some (.int .i64 a.x) := fun c d => cell_later (xa (x1 _ _) _) a5
                have a6' : ∀ (c d : Array Value), ((wq.alloc (.cells c 42)).alloc (.cells d 42)).cell? ⟨ba, oa + i * 8 + 6, none⟩ = some (sV a.t) := fun c d => cell_later (xa (x1 _ _) _) a6
                have a7' : ∀ (c d : Array Value), ((wq.alloc (.cells c 42)).alloc (.cells d 42)).cell? ⟨ba, oa + i * 8 + 7, none⟩ = some (.bool a.q) := fun c d => cell_later (xa (x1 _ _) _) a7
                have b0' : ∀ (c d : Array Value), ((wq.alloc (.cells c 42)).alloc (.cells d 42)).cell? ⟨bb, ob + k * 8, none⟩ = some (.int .i64 b.r) := fun c d => cell_later (xa (x1 _ _) _) b0
                have b1' : ∀ (c d : Array Value), ((wq.alloc (.cells c 42)).alloc (.cells d 42)).cell? ⟨bb, ob + k * 8 + 1, none⟩ = some (.int .i64 b.c) := fun c d => cell_later (xa (x1 _ _) _) b1
                have b2' : ∀ (c d : Array Value), ((wq.alloc (.cells c 42)).alloc (.cells d 42)).cell? ⟨bb, ob + k * 8 + 2, none⟩ = some (.int .i64 b.k) := fun c d => cell_later (xa (x1 _ _) _) b2
                have b3' : ∀ (c d : Array Value), ((wq.alloc (.cells c 42)).alloc (.cells d 42)).cell? ⟨bb, ob + k * 8 + 3, none⟩ = some (.bool b.n) := fun c d => cell_later (xa (x1 _ _) _) b3
                have b4' : ∀ (c d : Array Value), ((wq.alloc (.cells c 42)).alloc (.cells d 42)).cell? ⟨bb, ob + k * 8 + 4, none⟩ = some (.int .i64 b.d) := fun c d => cell_later (xa (x1 _ _) _) b4
                have b5' : ∀ (c d : Array Value), ((wq.alloc (.cells c 42)).alloc (.cells d 42)).cell? ⟨bb, ob + k * 8 + 5, none⟩ = some (.int .i64 b.x) := fun c d => cell_later (xa (x1 _ _) _) b5
                have b6' : ∀ (c d : Array Value), ((wq.alloc (.cells c 42)).alloc (.cells d 42)).cell? ⟨bb, ob + k * 8 + 6, none⟩ = some (sV b.t) := fun c d => cell_later (xa (x1 _ _) _) b6
                have b7' : ∀ (c d : Array Value), ((wq.alloc (.cells c 42)).alloc (.cells d 42)).cell? ⟨bb, ob + k * 8 + 7, none⟩ = some (.bool b.q) := fun c d => cell_later (xa (x1 _ _) _) b7
                have E3 : Ext wq ((wq.alloc (.cells ((nullAt b.r b.c)).cells.toArray 42)).alloc (.cells (b).cells.toArray 42)) := xa (x1 _ _) _
                have X3 := xt X2 E3
                have O3 := ownR_later O2 E3
                clear X2 O2 E3
                have HS : Hid (diffS (A.drop i) (B.drop k) = keepS (nullAt b.r b.c) b ++ diffS (A.drop i) (B.drop (k + 1))) := by
                  show _ = _
                  rw [DA.out, DB.out, diffS, if_pos HC.out]
                cases Tt with
                | true =>
                  have HK0 : Hid (keepS (nullAt b.r b.c) b = []) := HK.out
                  go_wp2_with fail
                  go_roundw
                  case rel => exact ⟨i, k + 1, by omega, by omega, rfl, by go_num, _, O3, by show _ = _; rw [← HO.out, HS.out, HK0.out, List.nil_append], by omega, X3⟩
                  case measure => simp [intOf]; omega
                | false =>
                  have HK0 : Hid (keepS (nullAt b.r b.c) b = [b]) := HK.out
                  obtain ⟨inf, hi, hz, hz1, hz2⟩ := infoR
                  have OQ : Hid (OwnR ((wq.alloc (.cells ((nullAt b.r b.c)).cells.toArray 42)).alloc (.cells (b).cells.toArray 42)) w.heap.size (.slice sp sn sc) O) := O3
                  have sq := X3.size
                  clear O3
                  go_wp2_with (at_builtin; refine wpList_append_own _ rfl _ _ 24 rfl w.heap.size 42 inf (.agg zeroST.cells.toArray) 8 72 Try.underlying24 hi hz hz1 hz2 rfl (by decide) _ _ _ rfl (OQ.out.alloc _) ⟨wq.heap.size + 1 + 1, 0, none⟩ 1 1 (b).cells rfl rfl (World.news_of_block (by have := heap_alloc_new ((wq.alloc (.cells ((nullAt b.r b.c)).cells.toArray 42)).alloc (.cells (b).cells.toArray 42)) (.cells (b).cells.toArray 42); rw [World.size_alloc, World.size_alloc] at this; exact this)) (by simp [Value.oneCell']) (by simp only [maxLen]; omega) (by omega) (by simp at sq ⊢; omega) ?_)
                  intro v7 wC ownC gC _
                  have lb := ownR_block OQ.out
                  have XA := xa X3 (.cells (b).cells.toArray 42)
                  have XC : Ext w wC := XA.grown gC XA.size (fun q hq => lb q hq)
                  have OC : OwnR wC w.heap.size v7 (O ++ [b]) := by
                    show World.ownsRow _ _ _ _ _ _ _
                    rw [flatS_append, List.length_append]
                    exact ownC
                  obtain ⟨p7, n7, c7, rfl⟩ := ownR_slice OC
                  have hOl : Hid ((O ++ [b]).length = O.length + 1) := by show _ = _; rw [List.length_append]; rfl
                  clear gC ownC OQ XA X3 lb hi hz hz1 hz2 VE
                  go_wp2_with fail
                  go_roundw
                  case rel => exact ⟨i, k + 1, by omega, by omega, rfl, by go_num, _, OC, by show _ = _; rw [← HO.out, HS.out, HK0.out, List.append_assoc], by rw [hOl.out]; omega, XC⟩
                  case measure => simp [intOf]; omega
            | false =>
              have hnl := lt_false.1 HC.out
              by_cases hq : a.r = b.r ∧ a.c = b.c
              · obtain ⟨hq1, hq2⟩ := hq
                have HN : Hid (a.lt b = false) := by show _ = _; rw [lt_false]; omega
                clear hnl
                obtain ⟨ar, ac, ak, an, ad, ax, ay, aq⟩ := a
                dsimp only at hq1 hq2 a0 a1 a2 a3 a4 a5 a6 a7 CC
                subst hq1 hq2
                go_wp2_with fail
                go_quiet (first | (go_at_call 13; exact (CC _).mono (fun _ _ q => ⟨q.1, ⟨_, q.2⟩⟩)))
                have E2 := ext_drewN wr nq
                generalize wr.drewN nq = wq at E2
                have X2 := xt X E2
                have O2 := ownR_later LO E2
                clear a0 a1 a2 a3 a4 a5 a6 a7 b0 b1 b2 b3 b4 b5 b6 b7 X LO
                have VE := fun W => shown_neq (⟨b.r, b.c, ak, an, ad, ax, ay, aq⟩ : ST) b rfl rfl W
                have HK : Hid (keepS (⟨b.r, b.c, ak, an, ad, ax, ay, aq⟩ : ST) b = if ((⟨b.r, b.c, ak, an, ad, ax, ay, aq⟩ : ST)).like b then [] else [b]) := rfl
                obtain ⟨Tt, hTt⟩ : ∃ Tt, ((⟨b.r, b.c, ak, an, ad, ax, ay, aq⟩ : ST)).like b = Tt := ⟨_, rfl⟩
                rw [hTt] at VE
                have HK : Hid (keepS (⟨b.r, b.c, ak, an, ad, ax, ay, aq⟩ : ST) b = if Tt then [] else [b]) := by show _ = _; rw [HK.out, hTt]
                clear hTt
                have VE : ∀ W, (binOp BinOp.neq 42 (.agg #[.int .i64 b.r, .int .i64 b.c, .int .i64 ak, .bool an, .int .i64 ad, .int .i64 ax, sV ay, .bool aq]) (.agg #[.int .i64 b.r, .int .i64 b.c, .int .i64 b.k, .bool b.n, .int .i64 b.d, .int .i64 b.x, sV b.t, .bool b.q])).run Try.prog W = .ok (.bool (!Tt)) W := VE
                obtain ⟨a0, a1, a2, a3, a4, a5, a6, a7⟩ := (HRA.out.later (X2)).all HaA.out
                obtain ⟨b0, b1, b2, b3, b4, b5, b6, b7⟩ := (HRB.out.later (X2)).all HbB.out
                have a0' : ∀ (c d : Array Value), ((wq.alloc (.cells c 42)).alloc (.cells d 42)).cell? ⟨ba, oa + i * 8, none⟩ = some (.int .i64 b.r) := fun c d => cell_later (xa (x1 _ _) _) a0
                have a1' : ∀ (c d : Array Value), ((wq.alloc (.cells c 42)).alloc (.cells d 42)).cell? ⟨ba, oa + i * 8 + 1, none⟩ = some (.int .i64 b.c) := fun c d => cell_later (xa (x1 _ _) _) a1
                have a2' : ∀ (c d : Array Value), ((wq.alloc (.cells c 42)).alloc (.cells d 42)).cell? ⟨ba, oa + i * 8 + 2, none⟩ = some (.int .i64 ak) := fun c d => cell_later (xa (x1 _ _) _) a2
                have a3' : ∀ (c d : Array Value), ((wq.alloc (.cells c 42)).alloc (.cells d 42)).cell? ⟨ba, oa + i * 8 + 3, none⟩ = some (.bool an) := fun c d => cell_later (xa (x1 _ _) _) a3
                have a4' : ∀ (c d : Array Value), ((wq.alloc (.cells c 42)).alloc (.cells d 42)).cell? ⟨ba, oa + i * 8 + 4, none⟩ = some (.int .i64 ad) := fun c d => cell_later (xa (x1 _ _) _) a4
                have a5' : ∀ (c d : Array Value), ((wq.alloc (.cells c 42)).alloc (.cells d 42)).cell? ⟨ba, oa + i * 8 + 5, none⟩ = some (.int .i64 ax) := fun c d => cell_later (xa (x1 _ _) _) a5
                have a6' : ∀ (c d : Array Value), ((wq.alloc (.cells c 42)).alloc (.cells d 42)).cell? ⟨ba, oa + i * 8 + 6, none⟩ = some (sV ay) := fun c d => cell_later (xa (x1 _ _) _) a6
                have a7' : ∀ (c d : Array Value), ((wq.alloc (.cells c 42)).alloc (.cells d 42)).cell? ⟨ba, oa + i * 8 + 7, none⟩ = some (.bool aq) := fun c d => cell_later (xa (x1 _ _) _) a7
                have b0' : ∀ (c d : Array Value), ((wq.alloc (.cells c 42)).alloc (.cells d 42)).cell? ⟨bb, ob + k * 8, none⟩ = some (.int .i64 b.r) := fun c d => cell_later (xa (x1 _ _) _) b0
                have b1' : ∀ (c d : Array Value), ((wq.alloc (.cells c 42)).alloc (.cells d 42)).cell? ⟨bb, ob + k * 8 + 1, none⟩ = some (.int .i64 b.c) := fun c d => cell_later (xa (x1 _ _) _) b1
                have b2' : ∀ (c d : Array Value), ((wq.alloc (.cells c 42)).alloc (.cells d 42)).cell? ⟨bb, ob + k * 8 + 2, none⟩ = some (.int .i64 b.k) := fun c d => cell_later (xa (x1 _ _) _) b2
                have b3' : ∀ (c d : Array Value), ((wq.alloc (.cells c 42)).alloc (.cells d 42)).cell? ⟨bb, ob + k * 8 + 3, none⟩ = some (.bool b.n) := fun c d => cell_later (xa (x1 _ _) _) b3
                have b4' : ∀ (c d : Array Value), ((wq.alloc (.cells c 42)).alloc (.cells d 42)).cell? ⟨bb, ob + k * 8 + 4, none⟩ = some (.int .i64 b.d) := fun c d => cell_later (xa (x1 _ _) _) b4
                have b5' : ∀ (c d : Array Value), ((wq.alloc (.cells c 42)).alloc (.cells d 42)).cell? ⟨bb, ob + k * 8 + 5, none⟩ = some (.int .i64 b.x) := fun c d => cell_later (xa (x1 _ _) _) b5
                have b6' : ∀ (c d : Array Value), ((wq.alloc (.cells c 42)).alloc (.cells d 42)).cell? ⟨bb, ob + k * 8 + 6, none⟩ = some (sV b.t) := fun c d => cell_later (xa (x1 _ _) _) b6
                have b7' : ∀ (c d : Array Value), ((wq.alloc (.cells c 42)).alloc (.cells d 42)).cell? ⟨bb, ob + k * 8 + 7, none⟩ = some (.bool b.q) := fun c d => cell_later (xa (x1 _ _) _) b7
                have E3 : Ext wq ((wq.alloc (.cells ((⟨b.r, b.c, ak, an, ad, ax, ay, aq⟩ : ST)).cells.toArray 42)).alloc (.cells (b).cells.toArray 42)) := xa (x1 _ _) _
                have X3 := xt X2 E3
                have O3 := ownR_later O2 E3
                clear X2 O2 E3
                have HS : Hid (diffS (A.drop i) (B.drop k) = keepS (⟨b.r, b.c, ak, an, ad, ax, ay, aq⟩ : ST) b ++ diffS (A.drop (i + 1)) (B.drop (k + 1))) := by
                  show _ = _
                  rw [DA.out, DB.out, diffS, if_neg (by rw [HC.out]; simp), if_neg (by have := HN.out; rw [this]; simp)]
                cases Tt with
                | true =>
                  have HK0 : Hid (keepS (⟨b.r, b.c, ak, an, ad, ax, ay, aq⟩ : ST) b = []) := HK.out
                  go_wp2_with fail
                  go_roundw
                  case rel => exact ⟨i + 1, k + 1, by omega, by omega, by go_num, by go_num, _, O3, by show _ = _; rw [← HO.out, HS.out, HK0.out, List.nil_append], by omega, X3⟩
                  case measure => simp [intOf]; omega
                | false =>
                  have HK0 : Hid (keepS (⟨b.r, b.c, ak, an, ad, ax, ay, aq⟩ : ST) b = [b]) := HK.out
                  obtain ⟨inf, hi, hz, hz1, hz2⟩ := infoR
                  have OQ : Hid (OwnR ((wq.alloc (.cells ((⟨b.r, b.c, ak, an, ad, ax, ay, aq⟩ : ST)).cells.toArray 42)).alloc (.cells (b).cells.toArray 42)) w.heap.size (.slice sp sn sc) O) := O3
                  have sq := X3.size
                  clear O3
                  go_wp2_with (at_builtin; refine wpList_append_own _ rfl _ _ 24 rfl w.heap.size 42 inf (.agg zeroST.cells.toArray) 8 72 Try.underlying24 hi hz hz1 hz2 rfl (by decide) _ _ _ rfl (OQ.out.alloc _) ⟨wq.heap.size + 1 + 1, 0, none⟩ 1 1 (b).cells rfl rfl (World.news_of_block (by have := heap_alloc_new ((wq.alloc (.cells ((⟨b.r, b.c, ak, an, ad, ax, ay, aq⟩ : ST)).cells.toArray 42)).alloc (.cells (b).cells.toArray 42)) (.cells (b).cells.toArray 42); rw [World.size_alloc, World.size_alloc] at this; exact this)) (by simp [Value.oneCell']) (by simp only [maxLen]; omega) (by omega) (by simp at sq ⊢; omega) ?_)
                  intro v7 wC ownC gC _
                  have lb := ownR_block OQ.out
                  have XA := xa X3 (.cells (b).cells.toArray 42)
                  have XC : Ext w wC := XA.grown gC XA.size (fun q hq => lb q hq)
                  have OC : OwnR wC w.heap.size v7 (O ++ [b]) := by
                    show World.ownsRow _ _ _ _ _ _ _
                    rw [flatS_append, List.length_append]
                    exact ownC
                  obtain ⟨p7, n7, c7, rfl⟩ := ownR_slice OC
                  have hOl : Hid ((O ++ [b]).length = O.length + 1) := by show _ = _; rw [List.length_append]; rfl
                  clear gC ownC OQ XA X3 lb hi hz hz1 hz2 VE
                  go_wp2_with fail
                  go_roundw
                  case rel => exact ⟨i + 1, k + 1, by omega, by omega, by go_num, by go_num, _, OC, by show _ = _; rw [← HO.out, HS.out, HK0.out, List.append_assoc], by rw [hOl.out]; omega, XC⟩
                  case measure => simp [intOf]; omega
              · have HN : Hid (a.lt b = true) := by show _ = _; rw [lt_iff]; omega
                by_cases hq1 : b.r = a.r
                · have hq2 : b.c ≠ a.c := by omega
                  rw [hq1] at CC
                  clear hnl hq
                  go_wp2_with fail
                  go_quiet (first | (go_at_call 13; exact (CC _).mono (fun _ _ q => ⟨q.1, ⟨_, q.2⟩⟩)))
                  have E2 := ext_drewN wr nq
                  generalize wr.drewN nq = wq at E2
                  have X2 := xt X E2
                  have O2 := ownR_later LO E2
                  clear a0 a1 a2 a3 a4 a5 a6 a7 b0 b1 b2 b3 b4 b5 b6 b7 X LO
                  have VE := fun W => shown_neq a (nullAt a.r a.c) rfl rfl W
                  have HK : Hid (keepS a (nullAt a.r a.c) = if (a).like (nullAt a.r a.c) then [] else [(nullAt a.r a.c)]) := rfl
                  obtain ⟨Tt, hTt⟩ : ∃ Tt, (a).like (nullAt a.r a.c) = Tt := ⟨_, rfl⟩
                  rw [hTt] at VE
                  have HK : Hid (keepS a (nullAt a.r a.c) = if Tt then [] else [(nullAt a.r a.c)]) := by show _ = _; rw [HK.out, hTt]
                  clear hTt
                  have VE : ∀ W, (binOp BinOp.neq 42 (.agg #[.int .i64 a.r, .int .i64 a.c, .int .i64 a.k, .bool a.n, .int .i64 a.d, .int .i64 a.x, sV a.t, .bool a.q]) (.agg #[.int .i64 a.r, .int .i64 a.c, .int .i64 0, .bool false, .int .i64 0, .int .i64 0, sV [], .bool false])).run Try.prog W = .ok (.bool (!Tt)) W := VE
                  obtain ⟨a0, a1, a2, a3, a4, a5, a6, a7⟩ := (HRA.out.later (X2)).all HaA.out
                  obtain ⟨b0, b1, b2, b3, b4, b5, b6, b7⟩ := (HRB.out.later (X2)).all HbB.out
                  have a0' : ∀ (c d : Array Value), ((wq.alloc (.cells c 42)).alloc (.cells d 42)).cell? ⟨ba, oa + i * 8, none⟩ = some (.int .i64 a.r) := fun c d => cell_later (xa (x1 _ _) _) a0
                  have a1' : ∀ (c d : Array Value), ((wq.alloc (.cells c 42)).alloc (.cells d 42)).cell? ⟨ba, oa + i * 8 + 1, none⟩ = some (.int .i64 a.c) := fun c d => cell_later (xa (x1 _ _) _) a1
                  have a2' : ∀ (c d : Array Value), ((wq.alloc (.cells c 42)).alloc (.cells d 42)).cell? ⟨ba, oa + i * 8 + 2, none⟩ = some (.int .i64 a.k) := fun c d => cell_later (xa (x1 _ _) _) a2
                  have a3' : ∀ (c d : Array Value), ((wq.alloc (.cells c 42)).alloc (.cells d 42)).cell? ⟨ba, oa + i * 8 + 3, none⟩ = some (.bool a.n) := fun c d => cell_later (xa (x1 _ _) _) a3
                  have a4' : ∀ (c d : Array Value), ((wq.alloc (.cells c 42)).alloc (.cells d 42)).cell? ⟨ba, oa + i * 8 + 4, none⟩ = some (.int .i64 a.d) := fun c d => cell_later (xa (x1 _ _) _) a4
                  have a5' : ∀ (c d : Array Value), ((wq.alloc (.cells c 42)).alloc (.cells d 42)).cell? ⟨ba, oa + i * 8 + 5, none⟩ = some (.int .i64 a.x) := fun c d => cell_later (xa (x1 _ _) _) a5
                  have a6' : ∀ (c d : Array Value), ((wq.alloc (.cells c 42)).alloc (.cells d 42)).cell? ⟨ba, oa + i * 8 + 6, none⟩ = some (sV a.t) := fun c d => cell_later (xa (x1 _ _) _) a6
                  have a7' : ∀ (c d : Array Value), ((wq.alloc (.cells c 42)).alloc (.cells d 42)).cell? ⟨ba, oa + i * 8 + 7, none⟩ = some (.bool a.q) := fun c d => cell_later (xa (x1 _ _) _) a7
                  have b0' : ∀ (c d : Array Value), ((wq.alloc (.cells c 42)).alloc (.cells d 42)).cell? ⟨bb, ob + k * 8, none⟩ = some (.int .i64 b.r) := fun c d => cell_later (xa (x1 _ _) _) b0
                  have b1' : ∀ (c d : Array Value), ((wq.alloc (.cells c 42)).alloc (.cells d 42)).cell? ⟨bb, ob + k * 8 + 1, none⟩ = some (.int .i64 b.c) := fun c d => cell_later (xa (x1 _ _) _) b1
                  have b2' : ∀ (c d : Array Value), ((wq.alloc (.cells c 42)).alloc (.cells d 42)).cell? ⟨bb, ob + k * 8 + 2, none⟩ = some (.int .i64 b.k) := fun c d => cell_later (xa (x1 _ _) _) b2
                  have b3' : ∀ (c d : Array Value), ((wq.alloc (.cells c 42)).alloc (.cells d 42)).cell? ⟨bb, ob + k * 8 + 3, none⟩ = some (.bool b.n) := fun c d => cell_later (xa (x1 _ _) _) b3
                  have b4' : ∀ (c d : Array Value), ((wq.alloc (.cells c 42)).alloc (.cells d 42)).cell? ⟨bb, ob + k * 8 + 4, none⟩ = some (.int .i64 b.d) := fun c d => cell_later (xa (x1 _ _) _) b4
                  have b5' : ∀ (c d : Array Value), ((wq.alloc (.cells c 42)).alloc (.cells d 42)).cell? ⟨bb, ob + k * 8 + 5, none⟩ = some (.int .i64 b.x) := fun c d => cell_later (xa (x1 _ _) _) b5
                  have b6' : ∀ (c d : Array Value), ((wq.alloc (.cells c 42)).alloc (.cells d 42)).cell? ⟨bb, ob + k * 8 + 6, none⟩ = some (sV b.t) := fun c d => cell_later (xa (x1 _ _) _) b6
                  have b7' : ∀ (c d : Array Value), ((wq.alloc (.cells c 42)).alloc (.cells d 42)).cell? ⟨bb, ob + k * 8 + 7, none⟩ = some (.bool b.q) := fun c d => cell_later (xa (x1 _ _) _) b7
                  have E3 : Ext wq ((wq.alloc (.cells (a).cells.toArray 42)).alloc (.cells ((nullAt a.r a.c)).cells.toArray 42)) := xa (x1 _ _) _
                  have X3 := xt X2 E3
                  have O3 := ownR_later O2 E3
                  clear X2 O2 E3
                  have HS : Hid (diffS (A.drop i) (B.drop k) = keepS a (nullAt a.r a.c) ++ diffS (A.drop (i + 1)) (B.drop k)) := by
                    show _ = _
                    rw [DA.out, DB.out, diffS, if_neg (by rw [HC.out]; simp), if_pos HN.out]
                  cases Tt with
                  | true =>
                    have HK0 : Hid (keepS a (nullAt a.r a.c) = []) := HK.out
                    go_wp2_with fail
                    go_roundw
                    case rel => exact ⟨i + 1, k, by omega, by omega, by go_num, rfl, _, O3, by show _ = _; rw [← HO.out, HS.out, HK0.out, List.nil_append], by omega, X3⟩
                    case measure => simp [intOf]; omega
                  | false =>
                    have HK0 : Hid (keepS a (nullAt a.r a.c) = [(nullAt a.r a.c)]) := HK.out
                    obtain ⟨inf, hi, hz, hz1, hz2⟩ := infoR
                    have OQ : Hid (OwnR ((wq.alloc (.cells (a).cells.toArray 42)).alloc (.cells ((nullAt a.r a.c)).cells.toArray 42)) w.heap.size (.slice sp sn sc) O) := O3
                    have sq := X3.size
                    clear O3
                    go_wp2_with (at_builtin; refine wpList_append_own _ rfl _ _ 24 rfl w.heap.size 42 inf (.agg zeroST.cells.toArray) 8 72 Try.underlying24 hi hz hz1 hz2 rfl (by decide) _ _ _ rfl (OQ.out.alloc _) ⟨wq.heap.size + 1 + 1, 0, none⟩ 1 1 ((nullAt a.r a.c)).cells rfl rfl (World.news_of_block (by have := heap_alloc_new ((wq.alloc (.cells (a).cells.toArray 42)).alloc (.cells ((nullAt a.r a.c)).cells.toArray 42)) (.cells ((nullAt a.r a.c)).cells.toArray 42); rw [World.size_alloc, World.size_alloc] at this; exact this)) (by simp [Value.oneCell']) (by simp only [maxLen]; omega) (by omega) (by simp at sq ⊢; omega) ?_)
                    intro v7 wC ownC gC _
                    have lb := ownR_block OQ.out
                    have XA := xa X3 (.cells ((nullAt a.r a.c)).cells.toArray 42)
                    have XC : Ext w wC := XA.grown gC XA.size (fun q hq => lb q hq)
                    have OC : OwnR wC w.heap.size v7 (O ++ [(nullAt a.r a.c)]) := by
                      show World.ownsRow _ _ _ _ _ _ _
                      rw [flatS_append, List.length_append]
                      exact ownC
                    obtain ⟨p7, n7, c7, rfl⟩ := ownR_slice OC
                    have hOl : Hid ((O ++ [(nullAt a.r a.c)]).length = O.length + 1) := by show _ = _; rw [List.length_append]; rfl
                    clear gC ownC OQ XA X3 lb hi hz hz1 hz2 VE
                    go_wp2_with fail
                    go_roundw
                    case rel => exact ⟨i + 1, k, by omega, by omega, by go_num, rfl, _, OC, by show _ = _; rw [← HO.out, HS.out, HK0.out, List.append_assoc], by rw [hOl.out]; omega, XC⟩
                    case measure => simp [intOf]; omega
                · clear hnl hq
                  go_wp2_with fail
                  go_quiet (first | (go_at_call 13; exact (CC _).mono (fun _ _ q => ⟨q.1, ⟨_, q.2⟩⟩)))
                  have E2 := ext_drewN wr nq
                  generalize wr.drewN nq = wq at E2
                  have X2 := xt X E2
                  have O2 := ownR_later LO E2
                  clear a0 a1 a2 a3 a4 a5 a6 a7 b0 b1 b2 b3 b4 b5 b6 b7 X LO
                  have VE := fun W => shown_neq a (nullAt a.r a.c) rfl rfl W
                  have HK : Hid (keepS a (nullAt a.r a.c) = if (a).like (nullAt a.r a.c) then [] else [(nullAt a.r a.c)]) := rfl
                  obtain ⟨Tt, hTt⟩ : ∃ Tt, (a).like (nullAt a.r a.c) = Tt := ⟨_, rfl⟩
                  rw [hTt] at VE
                  have HK : Hid (keepS a (nullAt a.r a.c) = if Tt then [] else [(nullAt a.r a.c)]) := by show _ = _; rw [HK.out, hTt]
                  clear hTt
                  have VE : ∀ W, (binOp BinOp.neq 42 (.agg #[.int .i64 a.r, .int .i64 a.c, .int .i64 a.k, .bool a.n, .int .i64 a.d, .int .i64 a.x, sV a.t, .bool a.q]) (.agg #[.int .i64 a.r, .int .i64 a.c, .int .i64 0, .bool false, .int .i64 0, .int .i64 0, sV [], .bool false])).run Try.prog W = .ok (.bool (!Tt)) W := VE
                  obtain ⟨a0, a1, a2, a3, a4, a5, a6, a7⟩ := (HRA.out.later (X2)).all HaA.out
                  obtain ⟨b0, b1, b2, b3, b4, b5, b6, b7⟩ := (HRB.out.later (X2)).all HbB.out
                  have a0' : ∀ (c d : Array Value), ((wq.alloc (.cells c 42)).alloc (.cells d 42)).cell? ⟨ba, oa + i * 8, none⟩ = some (.int .i64 a.r) := fun c d => cell_later (xa (x1 _ _) _) a0
                  have a1' : ∀ (c d : Array Value), ((wq.alloc (.cells c 42)).alloc (.cells d 42)).cell? ⟨ba, oa + i * 8 + 1, none⟩ = some (.int .i64 a.c) := fun c d => cell_later (xa (x1 _ _) _) a1
                  have a2' : ∀ (c d : Array Value), ((wq.alloc (.cells c 42)).alloc (.cells d 42)).cell? ⟨ba, oa + i * 8 + 2, none⟩ = some (.int .i64 a.k) := fun c d => cell_later (xa (x1 _ _) _) a2
                  have a3' : ∀ (c d : Array Value), ((wq.alloc (.cells c 42)).alloc (.cells d 42)).cell? ⟨ba, oa + i * 8 + 3, none⟩ = some (.bool a.n) := fun c d => cell_later (xa (x1 _ _) _) a3
                  have a4' : ∀ (c d : Array Value), ((wq.alloc (.cells c 42)).alloc (.cells d 42)).cell? ⟨ba, oa + i * 8 + 4, none⟩ = some (.int .i64 a.d) := fun c d => cell_later (xa (x1 _ _) _) a4
                  have a5' : ∀ (c d : Array Value), ((wq.alloc (.cells c 42)).alloc (.cells d 42)).cell? ⟨ba, oa + i * 8 + 5, none⟩ = some (.int .i64 a.x) := fun c d => cell_later (xa (x1 _ _) _) a5
                  have a6' : ∀ (c d : Array Value), ((wq.alloc (.cells c 42)).alloc (.cells d 42)).cell? ⟨ba, oa + i * 8 + 6, none⟩ = some (sV a.t) := fun c d => cell_later (xa (x1 _ _) _) a6
                  have a7' : ∀ (c d : Array Value), ((wq.alloc (.cells c 42)).alloc (.cells d 42)).cell? ⟨ba, oa + i * 8 + 7, none⟩ = some (.bool a.q) := fun c d => cell_later (xa (x1 _ _) _) a7
                  have b0' : ∀ (c d : Array Value), ((wq.alloc (.cells c 42)).alloc (.cells d 42)).cell? ⟨bb, ob + k * 8, none⟩ = some (.int .i64 b.r) := fun c d => cell_later (xa (x1 _ _) _) b0
                  have b1' : ∀ (c d : Array Value), ((wq.alloc (.cells c 42)).alloc (.cells d 42)).cell? ⟨bb, ob + k * 8 + 1, none⟩ = some (.int .i64 b.c) := fun c d => cell_later (xa (x1 _ _) _) b1
                  have b2' : ∀ (c d : Array Value), ((wq.alloc (.cells c 42)).alloc (.cells d 42)).cell? ⟨bb, ob + k * 8 + 2, none⟩ = some (.int .i64 b.k) := fun c d => cell_later (xa (x1 _ _) _) b2
                  have b3' : ∀ (c d : Array Value), ((wq.alloc (.cells c 42)).alloc (.cells d 42)).cell? ⟨bb, ob + k * 8 + 3, none⟩ = some (.bool b.n) := fun c d => cell_later (xa (x1 _ _) _) b3
                  have b4' : ∀ (c d : Array Value), ((wq.alloc (.cells c 42)).alloc (.cells d 42)).cell? ⟨bb, ob + k * 8 + 4, none⟩ = some (.int .i64 b.d) := fun c d => cell_later (xa (x1 _ _) _) b4
                  have b5' : ∀ (c d : Array Value), ((wq.alloc (.cells c 42)).alloc (.cells d 42)).cell? ⟨bb, ob + k * 8 + 5, none⟩ = some (.int .i64 b.x) := fun c d => cell_later (xa (x1 _ _) _) b5
                  have b6' : ∀ (c d : Array Value), ((wq.alloc (.cells c 42)).alloc (.cells d 42)).cell? ⟨bb, ob + k * 8 + 6, none⟩ = some (sV b.t) := fun c d => cell_later (xa (x1 _ _) _) b6
                  have b7' : ∀ (c d : Array Value), ((wq.alloc (.cells c 42)).alloc (.cells d 42)).cell? ⟨bb, ob + k * 8 + 7, none⟩ = some (.bool b.q) := fun c d => cell_later (xa (x1 _ _) _) b7
                  have E3 : Ext wq ((wq.alloc (.cells (a).cells.toArray 42)).alloc (.cells ((nullAt a.r a.c)).cells.toArray 42)) := xa (x1 _ _) _
                  have X3 := xt X2 E3
                  have O3 := ownR_later O2 E3
                  clear X2 O2 E3
                  have HS : Hid (diffS (A.drop i) (B.drop k) = keepS a (nullAt a.r a.c) ++ diffS (A.drop (i + 1)) (B.drop k)) := by
                    show _ = _
                    rw [DA.out, DB.out, diffS, if_neg (by rw [HC.out]; simp), if_pos HN.out]
                  cases Tt with
                  | true =>
                    have HK0 : Hid (keepS a (nullAt a.r a.c) = []) := HK.out
                    go_wp2_with fail
                    go_roundw
                    case rel => exact ⟨i + 1, k, by omega, by omega, by go_num, rfl, _, O3, by show _ = _; rw [← HO.out, HS.out, HK0.out, List.nil_append], by omega, X3⟩
                    case measure => simp [intOf]; omega
                  | false =>
                    have HK0 : Hid (keepS a (nullAt a.r a.c) = [(nullAt a.r a.c)]) := HK.out
                    obtain ⟨inf, hi, hz, hz1, hz2⟩ := infoR
                    have OQ : Hid (OwnR ((wq.alloc (.cells (a).cells.toArray 42)).alloc (.cells ((nullAt a.r a.c)).cells.toArray 42)) w.heap.size (.slice sp sn sc) O) := O3
                    have sq := X3.size
                    clear O3
                    go_wp2_with (at_builtin; refine wpList_append_own _ rfl _ _ 24 rfl w.heap.size 42 inf (.agg zeroST.cells.toArray) 8 72 Try.underlying24 hi hz hz1 hz2 rfl (by decide) _ _ _ rfl (OQ.out.alloc _) ⟨wq.heap.size + 1 + 1, 0, none⟩ 1 1 ((nullAt a.r a.c)).cells rfl rfl (World.news_of_block (by have := heap_alloc_new ((wq.alloc (.cells (a).cells.toArray 42)).alloc (.cells ((nullAt a.r a.c)).cells.toArray 42)) (.cells ((nullAt a.r a.c)).cells.toArray 42); rw [World.size_alloc, World.size_alloc] at this; exact this)) (by simp [Value.oneCell']) (by simp only [maxLen]; omega) (by omega) (by simp at sq ⊢; omega) ?_)
                    intro v7 wC ownC gC _
                    have lb := ownR_block OQ.out
                    have XA := xa X3 (.cells ((nullAt a.r a.c)).cells.toArray 42)
                    have XC : Ext w wC := XA.grown gC XA.size (fun q hq => lb q hq)
                    have OC : OwnR wC w.heap.size v7 (O ++ [(nullAt a.r a.c)]) := by
                      show World.ownsRow _ _ _ _ _ _ _
                      rw [flatS_append, List.length_append]
                      exact ownC
                    obtain ⟨p7, n7, c7, rfl⟩ := ownR_slice OC
                    have hOl : Hid ((O ++ [(nullAt a.r a.c)]).length = O.length + 1) := by show _ = _; rw [List.length_append]; rfl
                    clear gC ownC OQ XA X3 lb hi hz hz1 hz2 VE
                    go_wp2_with fail
                    go_roundw
                    case rel => exact ⟨i + 1, k, by omega, by omega, by go_num, rfl, _, OC, by show _ = _; rw [← HO.out, HS.out, HK0.out, List.append_assoc], by rw [hOl.out]; omega, XC⟩
                    case measure => simp [intOf]; omega
          · obtain rfl : k = nb := by omega
            have DM : Hid (B.drop k = []) := List.drop_eq_nil_of_le (by rw [NB.out]; exact Nat.le_refl _)
            go_wp2_with fail
            go_quiet (fail)
            have E2 := ext_drewN wr nq
            generalize wr.drewN nq = wq at E2
            have X2 := xt X E2
            have O2 := ownR_later LO E2
            clear a0 a1 a2 a3 a4 a5 a6 a7 X LO
            have VE := fun W => shown_neq a (nullAt a.r a.c) rfl rfl W
            have HK : Hid (keepS a (nullAt a.r a.c) = if (a).like (nullAt a.r a.c) then [] else [(nullAt a.r a.c)]) := rfl
            obtain ⟨Tt, hTt⟩ : ∃ Tt, (a).like (nullAt a.r a.c) = Tt := ⟨_, rfl⟩
            rw [hTt] at VE
            have HK : Hid (keepS a (nullAt a.r a.c) = if Tt then [] else [(nullAt a.r a.c)]) := by show _ = _; rw [HK.out, hTt]
            clear hTt
            have VE : ∀ W, (binOp BinOp.neq 42 (.agg #[.int .i64 a.r, .int .i64 a.c, .int .i64 a.k, .bool a.n, .int .i64 a.d, .int .i64 a.x, sV a.t, .bool a.q]) (.agg #[.int .i64 a.r, .int .i64 a.c, .int .i64 0, .bool false, .int .i64 0, .int .i64 0, sV [], .bool false])).run Try.prog W = .ok (.bool (!Tt)) W := VE
            obtain ⟨a0, a1, a2, a3, a4, a5, a6, a7⟩ := (HRA.out.later (X2)).all HaA.out
            have a0' : ∀ (c d : Array Value), ((wq.alloc (.cells c 42)).alloc (.cells d 42)).cell? ⟨ba, oa + i * 8, none⟩ = some (.int .i64 a.r) := fun c d => cell_later (xa (x1 _ _) _) a0
            have a1' : ∀ (c d : Array Value), ((wq.alloc (.cells c 42)).alloc (.cells d 42)).cell? ⟨ba, oa + i * 8 + 1, none⟩ = some (.int .i64 a.c) := fun c d => cell_later (xa (x1 _ _) _) a1
            have a2' : ∀ (c d : Array Value), ((wq.alloc (.cells c 42)).alloc (.cells d 42)).cell? ⟨ba, oa + i * 8 + 2, none⟩ = some (.int .i64 a.k) := fun c d => cell_later (xa (x1 _ _) _) a2
            have a3' : ∀ (c d : Array Value), ((wq.alloc (.cells c 42)).alloc (.cells d 42)).cell? ⟨ba, oa + i * 8 + 3, none⟩ = some (.bool a.n) := fun c d => cell_later (xa (x1 _ _) _) a3
            have a4' : ∀ (c d : Array Value), ((wq.alloc (.cells c 42)).alloc (.cells d 42)).cell? ⟨ba, oa + i * 8 + 4, none⟩ = some (.int .i64 a.d) := fun c d => cell_later (xa (x1 _ _) _) a4
            have a5' : ∀ (c d : Array Value), ((wq.alloc (.cells c 42)).alloc (.cells d 42)).cell? ⟨ba, oa + i * 8 + 5, none⟩ = some (.int .i64 a.x) := fun c d => cell_later (xa (x1 _ _) _) a5
            have a6' : ∀ (c d : Array Value), ((wq.alloc (.cells c 42)).alloc (.cells d 42)).cell? ⟨ba, oa + i * 8 + 6, none⟩ = some (sV a.t) := fun c d => cell_later (xa (x1 _ _) _) a6
            have a7' : ∀ (c d : Array Value), ((wq.alloc (.cells c 42)).alloc (.cells d 42)).cell? ⟨ba, oa + i * 8 + 7, none⟩ = some (.bool a.q) := fun c d => cell_later (xa (x1 _ _) _) a7
            have E3 : Ext wq ((wq.alloc (.cells (a).cells.toArray 42)).alloc (.cells ((nullAt a.r a.c)).cells.toArray 42)) := xa (x1 _ _) _
            have X3 := xt X2 E3
            have O3 := ownR_later O2 E3
            clear X2 O2 E3
            have HS : Hid (diffS (A.drop i) (B.drop k) = keepS a (nullAt a.r a.c) ++ diffS (A.drop (i + 1)) (B.drop k)) := by
              show _ = _
              rw [DA.out, DM.out, diffS]
            cases Tt with
            | true =>
              have HK0 : Hid (keepS a (nullAt a.r a.c) = []) := HK.out
              go_wp2_with fail
              go_roundw
              case rel => exact ⟨i + 1, k, by omega, by omega, by go_num, rfl, _, O3, by show _ = _; rw [← HO.out, HS.out, HK0.out, List.nil_append], by omega, X3⟩
              case measure => simp [intOf]; omega
            | false =>
              have HK0 : Hid (keepS a (nullAt a.r a.c) = [(nullAt a.r a.c)]) := HK.out
              obtain ⟨inf, hi, hz, hz1, hz2⟩ := infoR
              have OQ : Hid (OwnR ((wq.alloc (.cells (a).cells.toArray 42)).alloc (.cells ((nullAt a.r a.c)).cells.toArray 42)) w.heap.size (.slice sp sn sc) O) := O3
              have sq := X3.size
              clear O3
              go_wp2_with (at_builtin; refine wpList_append_own _ rfl _ _ 24 rfl w.heap.size 42 inf (.agg zeroST.cells.toArray) 8 72 Try.underlying24 hi hz hz1 hz2 rfl (by decide) _ _ _ rfl (OQ.out.alloc _) ⟨wq.heap.size + 1 + 1, 0, none⟩ 1 1 ((nullAt a.r a.c)).cells rfl rfl (World.news_of_block (by have := heap_alloc_new ((wq.alloc (.cells (a).cells.toArray 42)).alloc (.cells ((nullAt a.r a.c)).cells.toArray 42)) (.cells ((nullAt a.r a.c)).cells.toArray 42); rw [World.size_alloc, World.size_alloc] at this; exact this)) (by simp [Value.oneCell']) (by simp only [maxLen]; omega) (by omega) (by simp at sq ⊢; omega) ?_)
              intro v7 wC ownC gC _
              have lb := ownR_block OQ.out
              have XA := xa X3 (.cells ((nullAt a.r a.c)).cells.toArray 42)
              have XC : Ext w wC := XA.grown gC XA.size (fun q hq => lb q hq)
              have OC : OwnR wC w.heap.size v7 (O ++ [(nullAt a.r a.c)]) := by
                show World.ownsRow _ _ _ _ _ _ _
                rw [flatS_append, List.length_append]
                exact ownC
              obtain ⟨p7, n7, c7, rfl⟩ := ownR_slice OC
              have hOl : Hid ((O ++ [(nullAt a.r a.c)]).length = O.length + 1) := by show _ = _; rw [List.length_append]; rfl
              clear gC ownC OQ XA X3 lb hi hz hz1 hz2 VE
              go_wp2_with fail
              go_roundw
              case rel => exact ⟨i + 1, k, by omega, by omega, by go_num, rfl, _, OC, by show _ = _; rw [← HO.out, HS.out, HK0.out, List.append_assoc], by rw [hOl.out]; omega, XC⟩
              case measure => simp [intOf]; omega
        · obtain rfl : i = na := by omega
          have DN : Hid (A.drop i = []) := List.drop_eq_nil_of_le (by rw [NA.out]; exact Nat.le_refl _)
          by_cases hkb : k < nb
          · obtain ⟨b, hb⟩ : ∃ b, B[k]? = some b := ⟨_, List.getElem?_eq_getElem (by rw [NB.out]; omega)⟩
            obtain ⟨bb, ob, rfl, hRB⟩ := RowB.out (by omega)
            have HRB : Hid (RowS w bb ob B) := hRB
            have HbB : Hid (B[k]? = some b) := hb
            have DB : Hid (B.drop k = b :: B.drop (k + 1)) := drop_cons hb
            clear hRB hb
            have ib : (k : Int) < (nb : Int) := by omega
            obtain ⟨b0, b1, b2, b3, b4, b5, b6, b7⟩ := (HRB.out.later (X)).all HbB.out
            go_wp2_with fail
            go_quiet (fail)
            have E2 := ext_drewN wr nq
            generalize wr.drewN nq = wq at E2
            have X2 := xt X E2
            have O2 := ownR_later LO E2
            clear b0 b1 b2 b3 b4 b5 b6 b7 X LO
            have VE := fun W => shown_neq (nullAt b.r b.c) b rfl rfl W
            have HK : Hid (keepS (nullAt b.r b.c) b = if ((nullAt b.r b.c)).like b then [] else [b]) := rfl
            obtain ⟨Tt, hTt⟩ : ∃ Tt, ((nullAt b.r b.c)).like b = Tt := ⟨_, rfl⟩
            rw [hTt] at VE
            have HK : Hid (keepS (nullAt b.r b.c) b = if Tt then [] else [b]) := by show _ = _; rw [HK.out, hTt]
            clear hTt
            have VE : ∀ W, (binOp BinOp.neq 42 (.agg #[.int .i64 b.r, .int .i64 b.c, .int .i64 0, .bool false, .int .i64 0, .int .i64 0, sV [], .bool false]) (.agg #[.int .i64 b.r, .int .i64 b.c, .int .i64 b.k, .bool b.n, .int .i64 b.d, .int .i64 b.x, sV b.t, .bool b.q])).run Try.prog W = .ok (.bool (!Tt)) W := VE
            obtain ⟨b0, b1, b2, b3, b4, b5, b6, b7⟩ := (HRB.out.later (X2)).all HbB.out
            have b0' : ∀ (c d : Array Value), ((wq.alloc (.cells c 42)).alloc (.cells d 42)).cell? ⟨bb, ob + k * 8, none⟩ = some (.int .i64 b.r) := fun c d => cell_later (xa (x1 _ _) _) b0
            have b1' : ∀ (c d : Array Value), ((wq.alloc (.cells c 42)).alloc (.cells d 42)).cell? ⟨bb, ob + k * 8 + 1, none⟩ = some (.int .i64 b.c) := fun c d => cell_later (xa (x1 _ _) _) b1
            have b2' : ∀ (c d : Array Value), ((wq.alloc (.cells c 42)).alloc (.cells d 42)).cell? ⟨bb, ob + k * 8 + 2, none⟩ = some (.int .i64 b.k) := fun c d => cell_later (xa (x1 _ _) _) b2
            have b3' : ∀ (c d : Array Value), ((wq.alloc (.cells c 42)).alloc (.cells d 42)).cell? ⟨bb, ob + k * 8 + 3, none⟩ = some (.bool b.n) := fun c d => cell_later (xa (x1 _ _) _) b3
            have b4' : ∀ (c d : Array Value), ((wq.alloc (.cells c 42)).alloc (.cells d 42)).cell? ⟨bb, ob + k * 8 + 4, none⟩ = some (.int .i64 b.d) := fun c d => cell_later (xa (x1 _ _) _) b4
            have b5' : ∀ (c d : Array Value), ((wq.alloc (.cells c 42)).alloc (.cells d 42)).cell? ⟨bb, ob + k * 8 + 5, none⟩ = some (.int .i64 b.x) := fun c d => cell_later (xa (x1 _ _) _) b5
            have b6' : ∀ (c d : Array Value), ((wq.alloc (.cells c 42)).alloc (.cells d 42)).cell? ⟨bb, ob + k * 8 + 6, none⟩ = some (sV b.t) := fun c d => cell_later (xa (x1 _ _) _) b6
            have b7' : ∀ (c d : Array Value), ((wq.alloc (.cells c 42)).alloc (.cells d 42)).cell? ⟨bb, ob + k * 8 + 7, none⟩ = some (.bool b.q) := fun c d => cell_later (xa (x1 _ _) _) b7
            have E3 : Ext wq ((wq.alloc (.cells ((nullAt b.r b.c)).cells.toArray 42)).alloc (.cells (b).cells.toArray 42)) := xa (x1 _ _) _
            have X3 := xt X2 E3
            have O3 := ownR_later O2 E3
            clear X2 O2 E3
            have HS : Hid (diffS (A.drop i) (B.drop k) = keepS (nullAt b.r b.c) b ++ diffS (A.drop i) (B.drop (k + 1))) := by
              show _ = _
              rw [DN.out, DB.out, diffS]
            cases Tt with
            | true =>
              have HK0 : Hid (keepS (nullAt b.r b.c) b = []) := HK.out
              go_wp2_with fail
              go_roundw
              case rel => exact ⟨i, k + 1, by omega, by omega, rfl, by go_num, _, O3, by show _ = _; rw [← HO.out, HS.out, HK0.out, List.nil_append], by omega, X3⟩
              case measure => simp [intOf]; omega
            | false =>
              have HK0 : Hid (keepS (nullAt b.r b.c) b = [b]) := HK.out
              obtain ⟨inf, hi, hz, hz1, hz2⟩ := infoR
              have OQ : Hid (OwnR ((wq.alloc (.cells ((nullAt b.r b.c)).cells.toArray 42)).alloc (.cells (b).cells.toArray 42)) w.heap.size (.slice sp sn sc) O) := O3
              have sq := X3.size
              clear O3
              go_wp2_with (at_builtin; refine wpList_append_own _ rfl _ _ 24 rfl w.heap.size 42 inf (.agg zeroST.cells.toArray) 8 72 Try.underlying24 hi hz hz1 hz2 rfl (by decide) _ _ _ rfl (OQ.out.alloc _) ⟨wq.heap.size + 1 + 1, 0, none⟩ 1 1 (b).cells rfl rfl (World.news_of_block (by have := heap_alloc_new ((wq.alloc (.cells ((nullAt b.r b.c)).cells.toArray 42)).alloc (.cells (b).cells.toArray 42)) (.cells (b).cells.toArray 42); rw [World.size_alloc, World.size_alloc] at this; exact this)) (by simp [Value.oneCell']) (by simp only [maxLen]; omega) (by omega) (by simp at sq ⊢; omega) ?_)
              intro v7 wC ownC gC _
              have lb := ownR_block OQ.out
              have XA := xa X3 (.cells (b).cells.toArray 42)
              have XC : Ext w wC := XA.grown gC XA.size (fun q hq => lb q hq)
              have OC : OwnR wC w.heap.size v7 (O ++ [b]) := by
                show World.ownsRow _ _ _ _ _ _ _
                rw [flatS_append, List.length_append]
                exact ownC
              obtain ⟨p7, n7, c7, rfl⟩ := ownR_slice OC
              have hOl : Hid ((O ++ [b]).length = O.length + 1) := by show _ = _; rw [List.length_append]; rfl
              clear gC ownC OQ XA X3 lb hi hz hz1 hz2 VE
              go_wp2_with fail
              go_roundw
              case rel => exact ⟨i, k + 1, by omega, by omega, rfl, by go_num, _, OC, by show _ = _; rw [← HO.out, HS.out, HK0.out, List.append_assoc], by rw [hOl.out]; omega, XC⟩
              case measure => simp [intOf]; omega
          · obtain rfl : k = nb := by omega
            have DM : Hid (B.drop k = []) := List.drop_eq_nil_of_le (by rw [NB.out]; exact Nat.le_refl _)
            have HF : Hid (O = R) := by show _ = _; rw [← HO.out, DN.out, DM.out, diffS, List.append_nil]
            go_wp2_with fail
            go_ret
            exact ⟨⟨_, rfl, by rw [← HF.out]; exact LO⟩, X⟩

end Go.Proofs.Ytbipmeldmgpknaa
