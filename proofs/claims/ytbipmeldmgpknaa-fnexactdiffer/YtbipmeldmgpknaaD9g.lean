/-
  Chapter 9: Differ of the program.
-/
import Derived.Test.YtbipmeldmgpknaaD9q
namespace Go.Proofs.Ytbipmeldmgpknaa
open Go.RowKit Go.Sort

theorem Vec.kept {w u : World} {b m : Nat} {l : List Value} (h : Vec w b l) (g : w.grownBy u (some m)) (hb : b ≠ m) : Vec u b l := fun i v hi => by
  have h1 := h i v hi
  have hlt := World.block_lt_of_cell? _ _ h1.1
  have e := g.block b hlt (fun q => hb (Option.some.inj q))
  unfold World.cell? World.frozen? at h1 ⊢
  simp only [e]
  exact h1

theorem Vec.keptR {w u : World} {b : Nat} {row : Option Nat} {l : List Value} (h : Vec w b l) (g : w.grownBy u row) (hb : some b ≠ row) : Vec u b l := fun i v hi => by
  have h1 := h i v hi
  have hlt := World.block_lt_of_cell? _ _ h1.1
  have e := g.block b hlt hb
  unfold World.cell? World.frozen? at h1 ⊢
  simp only [e]
  exact h1
theorem own_apart {w : World} {base m r n cnt : Nat} {v : Value} {l : List ST} {D : DataW Unit} {left : Lit → Bool} (h : OwnR w base v l) (hr : w.ranges Try.prog 47 shR m r n D left cnt) : ∀ g, v.ownBlock = some g → g ≠ m ∧ g ≠ r := by
  intro g hg
  rcases h.2 with ⟨rfl, _⟩ | ⟨g', cap, cur, rfl, _, h3, _⟩
  · cases hg
  · have : g' = g := by simpa [Value.ownBlock] using hg
    subst this
    obtain ⟨es, clock, since, seen, c0, q1, _, _, _, q2, _⟩ := hr
    refine ⟨fun e => ?_, fun e => ?_⟩
    · rw [e, q1] at h3; cases h3
    · rw [e, q2] at h3; cases h3
theorem ownR_keepN {w w' : World} {base : Nat} {v : Value} {l : List ST} {row : Option Nat} (h : OwnR w base v l) (hg : w.grownBy w' row) (hr : ∀ g, v.ownBlock = some g → some g ≠ row) : OwnR w' base v l := by
  refine ⟨h.1, h.2.imp id ?_⟩
  rintro ⟨g, cap, cur, h1, h2, h3, h4⟩
  have hlt : g < w.heap.size := by
    rcases Nat.lt_or_ge g w.heap.size with h' | h'
    · exact h'
    · rw [Array.getElem?_eq_none h'] at h3; cases h3
  exact ⟨g, cap, cur, h1, h2, by rw [hg.block g hlt (hr g (by rw [h1]; rfl))]; exact h3, h4⟩
theorem ext_noneS {w u : World} (x : Ext w u) : w.grownBy u none := ⟨x.os, x.tape, x.output, x.size, fun i hi _ => x.block i hi⟩
theorem gone_step {T T' Xl G : List ST} {e : ST} (h1 : T.Perm (e :: T')) (h2 : (Xl ++ goneS T).Perm G) : ((Xl ++ keepS e (nullAt e.r e.c)) ++ goneS T').Perm G := by
  have h3 := goneS_perm h1
  rw [goneS_cons] at h3
  rw [List.append_assoc]
  exact (h3.symm.append_left Xl).trans h2
theorem spotE (r : Int) (c : Int) (k : Int) (n : Bool) (d : Int) (x : Int) (t : List UInt8) (q : Bool) (w : World) :
    Calls Try.prog 16 #[shownV r c k n d x t q] w fun e w' => e = .returned (siV r c) ∧ Ext w w' :=
  (spotI r c k n d x t q w).mono fun _ _ h => ⟨h.1, h.2.1⟩
theorem filter_hit {L : List ST} (hL : ∀ e ∈ L, InS e) {r c : Int} (hr : InI r) (hc : InI c) : (L.filter fun f => !isKl f (klOf r c)) = L.filter fun f => !f.hit r c := by
  apply List.filter_congr
  intro e he
  by_cases q : e.r = r ∧ e.c = c
  · rw [hit_iff.2 q, isKl_iff.2 (by rw [q.1, q.2])]
  · rw [hit_false.2 q, isKl_false.2 fun h => q (klOf_inj (hL e he).1 (hL e he).2 hr hc h)]
theorem diffB_len (A B : List ST) : (diffB A B).length ≤ B.length := List.length_filter_le _ _

set_option maxRecDepth 8000 in
set_option maxHeartbeats 4000000 in
theorem differI (va vb : Value) (A B : List ST) (w : World) (ha : ShownsIn w va A) (hb : ShownsIn w vb B) (la : A.length ≤ 1048576) (lb : B.length ≤ 1048576) (ia : ∀ e ∈ A, InS e) (ib : ∀ e ∈ B, InS e) :
    Calls Try.prog 7 #[va, vb] w fun e w' => (∃ v, e = .returned v ∧ OwnR w' w.heap.size v (if risB A && risB B then diffS A B else [])) ∧ Ext w w' := by
  obtain ⟨R, hR⟩ : ∃ R, (if risB A && risB B then diffS A B else []) = R := ⟨_, rfl⟩
  have HR : Hid ((if risB A && risB B then diffS A B else []) = R) := hR
  rw [hR]
  have CA := fun W (x : Ext w W) => risesI va A W (ha.later x) (by omega)
  have CB := fun W (x : Ext w W) => risesI vb B W (hb.later x) (by omega)
  have HA : Hid (ShownsIn w va A) := ha
  have HB : Hid (ShownsIn w vb B) := hb
  have IA : Hid (∀ e ∈ A, InS e) := ia
  have IB : Hid (∀ e ∈ B, InS e) := ib
  clear hR ha hb ia ib
  cases hA : risB A with
  | false =>
    rw [hA] at CA
    have HE : Hid (R = []) := by show _ = _; rw [← HR.out, hA]; rfl
    clear hA
    go_enter Try.func7, Try.ntmps7
    go_wp2_with fail
    refine (CA _ (xr _)).mono ?_
    rintro e w1 ⟨rfl, X1⟩
    go_wp2_with fail
    go_ret
    exact ⟨⟨_, rfl, by rw [HE.out]; exact ownR_nil _ _⟩, X1⟩
  | true =>
    rw [hA] at CA
    cases hB : risB B with
    | false =>
      rw [hB] at CB
      have HE : Hid (R = []) := by show _ = _; rw [← HR.out, hA, hB]; rfl
      clear hA hB
      go_enter Try.func7, Try.ntmps7
      go_wp2_with fail
      refine (CA _ (xr _)).mono ?_
      rintro e w1 ⟨rfl, X1⟩
      go_wp2_with fail
      refine (CB _ X1).mono ?_
      rintro e w2 ⟨rfl, E2⟩
      go_wp2_with fail
      go_ret
      exact ⟨⟨_, rfl, by rw [HE.out]; exact ownR_nil _ _⟩, xt X1 E2⟩
    | true =>
      rw [hB] at CB
      have HE : Hid (R = diffS A B) := by show _ = _; rw [← HR.out, hA, hB]; rfl
      have RA : Hid (RisL A) := risB_pair hA
      have RB : Hid (RisL B) := risB_pair hB
      clear hA hB HR
      obtain ⟨pa, ca, rfl, hca, hra⟩ := HA.out
      obtain ⟨pb, cb, rfl, hcb, hrb⟩ := HB.out
      obtain ⟨na, hna⟩ : ∃ n, A.length = n := ⟨_, rfl⟩
      obtain ⟨nb, hnb⟩ : ∃ n, B.length = n := ⟨_, rfl⟩
      rw [hna] at hca hra la CA ⊢
      rw [hnb] at hcb hrb lb CB ⊢
      have NA : Hid (A.length = na) := hna
      have NB : Hid (B.length = nb) := hnb
      have RowA : Hid (0 < na → ∃ b o, pa = some ⟨b, o, none⟩ ∧ RowS w b o A) := hra
      have RowB : Hid (0 < nb → ∃ b o, pb = some ⟨b, o, none⟩ ∧ RowS w b o B) := hrb
      clear hna hnb hra hrb HA HB
      go_enter Try.func7, Try.ntmps7
      go_wp2_with fail
      refine (CA _ (xr _)).mono ?_
      rintro e w1 ⟨rfl, X1⟩
      go_wp2_with fail
      refine (CB _ X1).mono ?_
      rintro e w2 ⟨rfl, E2⟩
      have X2 := xt X1 E2
      clear CA CB X1 E2
      have M2 := MapS.made w2
      have X3 := xt X2 (x1 w2 (.map #[] 0))
      have hm := X2.size
      obtain ⟨m, hme⟩ : ∃ m, w2.heap.size = m := ⟨_, rfl⟩
      obtain ⟨w3, h3⟩ : ∃ w3, w2.alloc (.map #[] 0) = w3 := ⟨_, rfl⟩
      rw [h3, hme] at M2
      rw [h3] at X3
      rw [hme] at hm
      clear X2
      have hmk : (Instr.makeMap 45 none).run Try.prog w2 = .ok (.map (some m)) w3 := by rw [run_makeMap, h3, hme]
      clear h3 hme
      go_wp2_with fail
      clear hmk
      go_loopw [25] (fun i wr => ∃ k : Nat, k ≤ na ∧ i = .int .i64 k ∧ MapS wr m k (A.take k).reverse ∧ Ext w wr) (fun i _ => na - (intOf i).toNat)
      case atStart => exact ⟨0, by omega, rfl, by simpa using M2, X3⟩
      case round =>
        clear M2 X3
        obtain ⟨k, hk, rfl, M, X⟩ := hrel
        by_cases hlt : k < na
        · obtain ⟨e, he⟩ : ∃ e, A[k]? = some e := ⟨_, List.getElem?_eq_getElem (by rw [NA.out]; exact hlt)⟩
          obtain ⟨b, o, rfl, hR⟩ := RowA.out (by omega)
          obtain ⟨a0, a1, a2, a3, a4, a5, a6, a7⟩ := (hR.later X).all he
          have HT : Hid ((A.take (k + 1)).reverse = e :: (A.take k).reverse) := by show _ = _; rw [take_next he]; simp
          have IE : Hid (InS e) := IA.out e (List.mem_of_getElem? he)
          have i2 : (k : Int) < (na : Int) := by omega
          have mb := M.lt
          clear hR he
          have B1 := vec_made wr e.cells 42
          have E1 := x1 wr (.cells e.cells.toArray 42)
          obtain ⟨wb, hwb⟩ : ∃ wb, wr.alloc (.cells #[.int .i64 e.r, .int .i64 e.c, .int .i64 e.k, .bool e.n, .int .i64 e.d, .int .i64 e.x, sV e.t, .bool e.q] 42) = wb := ⟨_, rfl⟩
          change Vec (wr.alloc (.cells #[.int .i64 e.r, .int .i64 e.c, .int .i64 e.k, .bool e.n, .int .i64 e.d, .int .i64 e.x, sV e.t, .bool e.q] 42)) _ _ at B1
          change Ext wr (wr.alloc (.cells #[.int .i64 e.r, .int .i64 e.c, .int .i64 e.k, .bool e.n, .int .i64 e.d, .int .i64 e.x, sV e.t, .bool e.q] 42)) at E1
          rw [hwb] at B1 E1
          have X1 := xt X E1
          have M1 := M.later E1
          clear M X E1
          go_wp2_with fail
          clear hwb a0 a1 a2 a3 a4 a5 a6 a7
          refine wp_region_letters (fun lx : Nat → Value => { tmps := #[Value.slice (some ⟨b, o, none⟩) na ca, Value.slice pb nb cb, undef, undef, Value.slice none 0 0, Value.map (some m), undef, Value.pointer (some ⟨wr.heap.size, 0, none⟩), undef, undef, undef, undef, undef, undef, Value.slice (some ⟨b, o, none⟩) na ca, Value.bool true, Value.bool false, Value.bool false, Value.slice pb nb cb, Value.bool true, Value.bool false, Value.bool false, Value.map (some m), Value.slice (some ⟨b, o, none⟩) na ca, Value.int .i64 (na : Int), Value.int .i64 (k : Int), Value.bool true, Value.pointer (some ⟨b, o + k * 8, none⟩), Value.agg #[Value.int .i64 e.r, Value.int .i64 e.c, Value.int .i64 e.k, Value.bool e.n, Value.int .i64 e.d, Value.int .i64 e.x, sV e.t, Value.bool e.q], lx 29, lx 30, lx 31, lx 32, u33, undef, undef, undef, undef, undef, undef, undef, undef, undef, undef, undef, undef, undef, undef, undef, undef, undef, undef, undef, undef, undef, undef, undef, undef, undef, undef, undef, undef, undef, undef, undef, undef, undef, undef, undef, undef, undef, undef, undef, undef, undef, undef, undef, undef], defers := [] }) (fun L lx lw => Hid (Ext w lw ∧ Vec lw (wr.heap.size) [.int .i64 e.r, .int .i64 e.c, .int .i64 e.k, .bool e.n, .int .i64 e.d, .int .i64 e.x, sV e.t, .bool e.q] ∧ (L 0 = true → lx 29 = Value.map (some m)) ∧ (L 1 = true → lx 30 = .agg #[.int .i64 e.r, .int .i64 e.c, .int .i64 e.k, .bool e.n, .int .i64 e.d, .int .i64 e.x, sV e.t, .bool e.q]) ∧ (L 2 = true → lx 31 = siV e.r e.c) ∧ (L 3 = true → lx 32 = .agg #[.int .i64 e.r, .int .i64 e.c, .int .i64 e.k, .bool e.n, .int .i64 e.d, .int .i64 e.x, sV e.t, .bool e.q]) ∧ (L 4 = false → MapS lw m k ((A.take k).reverse)) ∧ (L 4 = true → MapS lw m (k + 1) (e :: (A.take k).reverse)))) rfl (by kernel_rfl) (fun jj => if jj = 29 then u29 else if jj = 30 then u30 else if jj = 31 then u31 else if jj = 32 then u32 else undef) rfl ?_ ?_ ?_
          · exact ⟨xd X1, B1.later (xd (xr _)), (fun h => by cases h), (fun h => by cases h), (fun h => by cases h), (fun h => by cases h), fun _ => M1.later (xd (xr _)), (fun h => by cases h)⟩
          · intro L lx wl i o K hK ho hL haf hI
            obtain ⟨X, f0, f1, f2, f3, f4, f5, f6⟩ := hI.out
            match i, ho, hL, haf, hK with
            | 0, ho, hL, haf, hK =>
              simp only [List.getElem?_toArray, List.getElem?_cons_zero, Option.some.injEq] at ho
              subst ho
              (try dsimp only)
              go_wp2_with fail
              exact hK (fun jj => if jj = 29 then Value.map (some m) else lx jj) _ ⟨X, f0, (fun _ => rfl), f2, f3, f4, f5, f6⟩
            | 1, ho, hL, haf, hK =>
              simp only [List.getElem?_toArray, List.getElem?_cons_zero, List.getElem?_cons_succ, Option.some.injEq] at ho
              subst ho
              (try dsimp only)
              have a0 := (f0 0 _ rfl).1
              have a1 := (f0 1 _ rfl).1
              have a2 := (f0 2 _ rfl).1
              have a3 := (f0 3 _ rfl).1
              have a4 := (f0 4 _ rfl).1
              have a5 := (f0 5 _ rfl).1
              have a6 := (f0 6 _ rfl).1
              have a7 := (f0 7 _ rfl).1
              go_wp2_with fail
              exact hK (fun jj => if jj = 30 then .agg #[.int .i64 e.r, .int .i64 e.c, .int .i64 e.k, .bool e.n, .int .i64 e.d, .int .i64 e.x, sV e.t, .bool e.q] else lx jj) _ ⟨X, f0, f1, (fun _ => rfl), f3, f4, f5, f6⟩
            | 2, ho, hL, haf, hK =>
              simp only [List.getElem?_toArray, List.getElem?_cons_zero, List.getElem?_cons_succ, Option.some.injEq] at ho
              subst ho
              (try dsimp only)
              rw [f2 (haf ⟨1, .data⟩ (by simp) rfl)]
              go_wp2_with fail
              refine ((spotE e.r e.c e.k e.n e.d e.x e.t e.q wl)).mono ?_
              rintro rr w' ⟨rfl, E⟩
              go_wp2_with fail
              exact hK (fun jj => if jj = 31 then siV e.r e.c else if jj = 30 then .agg #[.int .i64 e.r, .int .i64 e.c, .int .i64 e.k, .bool e.n, .int .i64 e.d, .int .i64 e.x, sV e.t, .bool e.q] else lx jj) _ ⟨xt X E, (f0.later E), f1, (fun _ => rfl), (fun _ => rfl), f4, (fun h => (f5 h).later E), (fun h => (f6 h).later E)⟩
            | 3, ho, hL, haf, hK =>
              simp only [List.getElem?_toArray, List.getElem?_cons_zero, List.getElem?_cons_succ, Option.some.injEq] at ho
              subst ho
              (try dsimp only)
              have a0 := (f0 0 _ rfl).1
              have a1 := (f0 1 _ rfl).1
              have a2 := (f0 2 _ rfl).1
              have a3 := (f0 3 _ rfl).1
              have a4 := (f0 4 _ rfl).1
              have a5 := (f0 5 _ rfl).1
              have a6 := (f0 6 _ rfl).1
              have a7 := (f0 7 _ rfl).1
              go_wp2_with fail
              exact hK (fun jj => if jj = 32 then .agg #[.int .i64 e.r, .int .i64 e.c, .int .i64 e.k, .bool e.n, .int .i64 e.d, .int .i64 e.x, sV e.t, .bool e.q] else lx jj) _ ⟨X, f0, f1, f2, f3, (fun _ => rfl), f5, f6⟩
            | 4, ho, hL, haf, hK =>
              simp only [List.getElem?_toArray, List.getElem?_cons_zero, List.getElem?_cons_succ, Option.some.injEq] at ho
              subst ho
              (try dsimp only)
              rw [f1 (haf ⟨0, .data⟩ (by simp) rfl), f3 (haf ⟨2, .data⟩ (by simp) rfl), f4 (haf ⟨3, .data⟩ (by simp) rfl)]
              have mq := f5 hL
              obtain ⟨u, hu, MU, GU⟩ := mq.put (by omega) e IE.out
              go_wp2_with fail
              exact hK (fun jj => if jj = 29 then Value.map (some m) else if jj = 31 then siV e.r e.c else if jj = 32 then .agg #[.int .i64 e.r, .int .i64 e.c, .int .i64 e.k, .bool e.n, .int .i64 e.d, .int .i64 e.x, sV e.t, .bool e.q] else lx jj) _ ⟨ext_grownS X GU hm, (f0.kept GU (by omega)), (fun _ => rfl), f2, (fun _ => rfl), (fun _ => rfl), (fun h => by cases h), (fun _ => MU)⟩
            | k + 5, ho, _, _, _ => simp at ho
          · intro L lx wr hall hI
            obtain ⟨XR, f0, f1, f2, f3, f4, f5, f6⟩ := hI.out
            clear hI
            have G0 := f0
            replace f1 := f1 (hall 0 (by simp))
            replace f2 := f2 (hall 1 (by simp))
            replace f3 := f3 (hall 2 (by simp))
            replace f4 := f4 (hall 3 (by simp))
            have MQ := f6 (hall 4 (by simp))
            (try dsimp only)
            rw [f1, f2, f3, f4]
            clear hall f0 f1 f2 f3 f4 f5 f6
            rw [← HT.out] at MQ
            go_wp2_with fail
            go_roundw
            case rel => exact ⟨k + 1, by omega, by go_num, MQ, XR⟩
            case measure => simp [intOf]; omega
        · obtain rfl : k = na := by omega
          have ML : MapS wr m k (restM A (B.take 0)) := by
            have e1 : A.take k = A := List.take_of_length_le (by rw [NA.out]; exact Nat.le_refl _)
            rw [e1] at M
            rw [List.take_zero, restM_nil]
            exact M
          have LL : OwnR wr (m + 1) (.slice none 0 0) (diffB A (B.take 0)) := ownR_nil _ _
          clear M
          generalize k = na at *
          go_wp2_with fail
          go_loopw [8, 36] (fun l i wr => ∃ k : Nat, k ≤ nb ∧ i = .int .i64 k ∧ OwnR wr (m + 1) l (diffB A (B.take k)) ∧ MapS wr m na (restM A (B.take k)) ∧ Ext w wr) (fun _ i _ => nb - (intOf i).toNat)
          case atStart => exact ⟨0, by omega, rfl, LL, ML, X⟩
          case round =>
            clear LL ML X
            obtain ⟨k, hk, rfl, LO, M, X⟩ := hrel
            by_cases hlt : k < nb
            · obtain ⟨e, he⟩ : ∃ e, B[k]? = some e := ⟨_, List.getElem?_eq_getElem (by rw [NB.out]; exact hlt)⟩
              obtain ⟨b, o, rfl, hR⟩ := RowB.out (by omega)
              obtain ⟨a0, a1, a2, a3, a4, a5, a6, a7⟩ := (hR.later X).all he
              have HT : Hid (B.take (k + 1) = B.take k ++ [e]) := take_next he
              have HH : Hid (∀ q ∈ B.take k, q.hit e.r e.c = false) := take_hits RB.out he
              have IE : Hid (InS e) := IB.out e (List.mem_of_getElem? he)
              have hkl : Hid ((diffB A (B.take k)).length ≤ 1048576) := by
                have := diffB_len A (B.take k)
                have h2 : (B.take k).length ≤ k := by simp; omega
                show _ ≤ _
                omega
              have i2 : (k : Int) < (nb : Int) := by omega
              have mb := M.lt
              clear hR he
              obtain ⟨sp, sn, sc, rfl⟩ := ownR_slice LO
              have ltO : Hid (∀ g, (Value.slice sp sn sc).ownBlock = some g → g < wr.heap.size) := ownR_lt LO
              have B1 := vec_made wr e.cells 42
              have E1 := x1 wr (.cells e.cells.toArray 42)
              obtain ⟨wb, hwb⟩ : ∃ wb, wr.alloc (.cells #[.int .i64 e.r, .int .i64 e.c, .int .i64 e.k, .bool e.n, .int .i64 e.d, .int .i64 e.x, sV e.t, .bool e.q] 42) = wb := ⟨_, rfl⟩
              change Vec (wr.alloc (.cells #[.int .i64 e.r, .int .i64 e.c, .int .i64 e.k, .bool e.n, .int .i64 e.d, .int .i64 e.x, sV e.t, .bool e.q] 42)) _ _ at B1
              change Ext wr (wr.alloc (.cells #[.int .i64 e.r, .int .i64 e.c, .int .i64 e.k, .bool e.n, .int .i64 e.d, .int .i64 e.x, sV e.t, .bool e.q] 42)) at E1
              rw [hwb] at B1 E1
              have X1 := xt X E1
              have M1 := M.later E1
              have L1 := ownR_later LO E1
              clear M X E1 LO
              go_wp2_with fail
              clear hwb a0 a1 a2 a3 a4 a5 a6 a7
              have hbx : wr.heap.size < wb.heap.size := World.block_lt_of_cell? _ _ (B1 0 _ rfl).1
              have a0 := cell_grown hbx (B1 0 _ rfl).1
              have a1 := cell_grown hbx (B1 1 _ rfl).1
              have a2 := cell_grown hbx (B1 2 _ rfl).1
              have a3 := cell_grown hbx (B1 3 _ rfl).1
              have a4 := cell_grown hbx (B1 4 _ rfl).1
              have a5 := cell_grown hbx (B1 5 _ rfl).1
              have a6 := cell_grown hbx (B1 6 _ rfl).1
              have a7 := cell_grown hbx (B1 7 _ rfl).1
              obtain ⟨f, hf⟩ : ∃ f, lookAt A e.r e.c = f := ⟨_, rfl⟩
              have HF : Hid (lookAt A e.r e.c = f) := hf
              have LK : ∀ n os, (Instr.lookup 45 (.map (some m)) (siV e.r e.c) false).run Try.prog (grow (wb.drewN n) os) = .ok (.agg f.cells.toArray) (grow (wb.drewN n) os) := fun n os => by
                have := (M1.later (ext_grow wb n os)).look (fun q hq => IA.out q (restM_mem hq)) IE.out.1 IE.out.2
                rw [look_rest RA.out HH.out, hf] at this
                exact this
              have CS := fun n os => Calls.grown_of ((spotI e.r e.c e.k e.n e.d e.x e.t e.q (grow (wb.drewN n) os)).mono (fun _ _ q => ⟨q.1, q.2.grown⟩))
              have CL := fun n os => Calls.grown_of ((likeI e f (grow (wb.drewN n) os)).mono (fun _ _ q => ⟨q.1, q.2.grown⟩))
              obtain ⟨T, hT⟩ : ∃ T, e.like f = T := ⟨_, rfl⟩
              have HL : Hid (e.like f = T) := hT
              rw [hT] at CL
              have hmix : Try.prog.follows .mixedOrders = true := by kernel_rfl
              clear hT hf
              go_quiet_grown (first | (go_at_call 16; exact CS _ _) | (go_at_call 17; exact CL _ _))
              have E2 := ext_grow wb nq osq
              generalize grow (wb.drewN nq) osq = wq at E2
              clear a0 a1 a2 a3 a4 a5 a6 a7 LK CS CL hmix
              have X2 := xt X1 E2
              have M2 := M1.later E2
              have L2 := ownR_later L1 E2
              have B2 := B1.later E2
              clear X1 M1 L1 B1 E2 hbx
              have a0 := (B2 0 _ rfl).1
              have a1 := (B2 1 _ rfl).1
              have a2 := (B2 2 _ rfl).1
              have a3 := (B2 3 _ rfl).1
              have a4 := (B2 4 _ rfl).1
              have a5 := (B2 5 _ rfl).1
              have a6 := (B2 6 _ rfl).1
              have a7 := (B2 7 _ rfl).1
              cases T with
              | true =>
                have HD : Hid (diffB A (B.take k ++ [e]) = diffB A (B.take k)) := by show _ = _; rw [diffB_next, HF.out, HL.out]; simp
                go_wp2_with fail
                refine (spotE e.r e.c e.k e.n e.d e.x e.t e.q wq).mono ?_
                rintro v5 w5 ⟨rfl, E5⟩
                clear a0 a1 a2 a3 a4 a5 a6 a7
                have X5 := xt X2 E5
                have L5 := ownR_later L2 E5
                have M5 := M2.later E5
                obtain ⟨D, hD, hH⟩ := M5
                have hkey := klOf_key IE.out.1 IE.out.2
                go_wp2_with (first
                  | (at_delete; refine wpList_delete_own _ rfl _ _ 45 47 rfl 42 spotK mapS_type shR m na D rfl hD _ _ rfl hkey ?_; intro w6 hD6 ht6; go_frame)
                  | go_in)
                have M6 : Hid (MapS w6 m na (restM A (B.take (k + 1)))) := by
                  have := hH.del e.r e.c
                  rw [filter_hit (fun f hf => IA.out f (restM_mem hf)) IE.out.1 IE.out.2, restM_next, ← HT.out] at this
                  exact ⟨_, hD6, this⟩
                have L6 := ownR_keep L5 ht6.grown (fun q hq => by cases hq; exact Nat.lt_succ_self _)
                have X6 := ext_grownS X5 ht6.grown hm
                clear hD hD6 ht6 hH hkey L5 X5
                go_roundw
                case rel => exact ⟨k + 1, by omega, by go_num, by rw [HT.out, HD.out]; exact L6, M6.out, X6⟩
                case measure => simp [intOf]; omega
              | false =>
                have HD : Hid (diffB A (B.take k ++ [e]) = diffB A (B.take k) ++ [e]) := by show _ = _; rw [diffB_next, HF.out, HL.out]; simp
                obtain ⟨inf, hi, hz, hz1, hz2⟩ := infoR
                have OQ : Hid (OwnR wq (m + 1) (.slice sp sn sc) (diffB A (B.take k))) := L2
                have mq := M2.lt
                clear L2
                go_wp2_with (at_builtin; refine wpList_append_own _ rfl _ _ 24 rfl (m + 1) 42 inf (.agg zeroST.cells.toArray) 8 72 Try.underlying24 hi hz hz1 hz2 rfl (by decide) _ _ _ rfl (OQ.out.alloc _) ⟨wq.heap.size, 0, none⟩ 1 1 e.cells rfl rfl (World.news_of_block (heap_alloc_new _ _)) (by simp [Value.oneCell']) (by have := hkl.out; simp only [maxLen]; omega) (by have := hkl.out; omega) (by simp; omega) ?_)
                intro v7 wC ownC gC _
                have lb := ownR_block OQ.out
                have XA := xa X2 (.cells #[.int .i64 e.r, .int .i64 e.c, .int .i64 e.k, .bool e.n, .int .i64 e.d, .int .i64 e.x, sV e.t, .bool e.q] 42)
                have MA := M2.later (x1 wq (.cells #[.int .i64 e.r, .int .i64 e.c, .int .i64 e.k, .bool e.n, .int .i64 e.d, .int .i64 e.x, sV e.t, .bool e.q] 42))
                have BA := B2.later (x1 wq (.cells #[.int .i64 e.r, .int .i64 e.c, .int .i64 e.k, .bool e.n, .int .i64 e.d, .int .i64 e.x, sV e.t, .bool e.q] 42))
                have XC : Ext w wC := XA.grown gC XA.size (fun r hr => by have := lb r hr; omega)
                have MC : MapS wC m na (restM A (B.take k)) := MA.kept gC (fun q => by have := lb m q.symm; omega)
                have BC : Vec wC wr.heap.size e.cells := BA.keptR gC (fun q => by have := ltO.out _ q.symm; omega)
                have OC : OwnR wC (m + 1) v7 (diffB A (B.take k ++ [e])) := by
                  rw [HD.out]
                  show World.ownsRow _ _ _ _ _ _ _
                  rw [flatS_append, List.length_append]
                  exact ownC
                clear gC ownC OQ XA MA BA B2 M2 X2 a0 a1 a2 a3 a4 a5 a6 a7 lb hi hz hz1 hz2
                obtain ⟨p7, n7, c7, rfl⟩ := ownR_slice OC
                have a0 := (BC 0 _ rfl).1
                have a1 := (BC 1 _ rfl).1
                have a2 := (BC 2 _ rfl).1
                have a3 := (BC 3 _ rfl).1
                have a4 := (BC 4 _ rfl).1
                have a5 := (BC 5 _ rfl).1
                have a6 := (BC 6 _ rfl).1
                have a7 := (BC 7 _ rfl).1
                go_wp2_with fail
                refine (spotE e.r e.c e.k e.n e.d e.x e.t e.q wC).mono ?_
                rintro v5 w5 ⟨rfl, E5⟩
                clear a0 a1 a2 a3 a4 a5 a6 a7
                have X5 := xt XC E5
                have L5 := ownR_later OC E5
                have M5 := MC.later E5
                obtain ⟨D, hD, hH⟩ := M5
                have hkey := klOf_key IE.out.1 IE.out.2
                go_wp2_with (first
                  | (at_delete; refine wpList_delete_own _ rfl _ _ 45 47 rfl 42 spotK mapS_type shR m na D rfl hD _ _ rfl hkey ?_; intro w6 hD6 ht6; go_frame)
                  | go_in)
                have M6 : Hid (MapS w6 m na (restM A (B.take (k + 1)))) := by
                  have := hH.del e.r e.c
                  rw [filter_hit (fun f hf => IA.out f (restM_mem hf)) IE.out.1 IE.out.2, restM_next, ← HT.out] at this
                  exact ⟨_, hD6, this⟩
                have L6 := ownR_keep L5 ht6.grown (fun q hq => by cases hq; exact Nat.lt_succ_self _)
                have X6 := ext_grownS X5 ht6.grown hm
                clear hD hD6 ht6 hH hkey L5 X5
                go_roundw
                case rel => exact ⟨k + 1, by omega, by go_num, by rw [HT.out]; exact L6, M6.out, X6⟩
                case measure => simp [intOf]; omega
            · obtain rfl : k = nb := by omega
              have e1 : B.take k = B := List.take_of_length_le (by rw [NB.out]; exact Nat.le_refl _)
              rw [e1] at LO M
              have HX : Hid ((diffB A B).length ≤ k) := by
                have := diffB_len A B
                rw [NB.out] at this
                exact this
              obtain ⟨D, hD, hH⟩ := M
              have hap := rest_apart (B := B) RA.out IA.out
              have hsz := hD.size_le
              have LO1 : Hid (OwnR wr (m + 1) _ (diffB A B)) := LO
              obtain ⟨sp, sn, sc, rfl⟩ := ownR_slice LO
              clear e1 LO
              generalize k = nb at *
              obtain ⟨w0, hrun0, hrg0, hg0, hs0⟩ := hD.range spotK mapS_type
              have LO2 : Hid (OwnR w0 (m + 1) (.slice sp sn sc) (diffB A B)) := ownR_keep LO1.out hg0 (fun q hq => by cases hq)
              have X0 : Ext w w0 := ext_grownS X (World.grownBy.but hg0 (some m)) hm
              obtain ⟨r, hr⟩ : ∃ r, wr.heap.size = r := ⟨_, rfl⟩
              have hmr : m < r := by rw [← hr]; exact hD.lt
              have hwr : w.heap.size ≤ r := by omega
              rw [hr] at hrun0 hrg0
              have ltR : Hid (∀ g, (Value.slice sp sn sc).ownBlock = some g → g < r) := by rw [← hr]; exact ownR_lt LO1.out
              clear hr hs0 hg0 hD X LO1
              go_wp2_with fail
              clear hrun0
              go_loopw [8] (fun l wr => ∃ (left : Lit → Bool) (cnt : Nat) (T Xl : List ST), wr.ranges Try.prog 47 shR m r na D left cnt ∧ Todo left T ∧ Hid (∀ e ∈ T, e ∈ restM A B) ∧ Hid ((Xl ++ goneS T).Perm (goneS (restM A B))) ∧ OwnR wr (m + 1) l (diffB A B ++ Xl) ∧ Ext w wr)
                (fun _ wr => wr.rangeLeft m r)
              case atStart => exact ⟨_, _, _, [], hrg0, Todo.start hH hap, fun e he => he, List.Perm.refl _, by rw [List.append_nil]; exact LO2.out, X0⟩
              case round =>
                clear hrg0 LO2 X0 ltR
                obtain ⟨left, cnt, T, Xl, hrg, hT, HT, HP, LO, X⟩ := hrel
                obtain ⟨sp, sn, sc, rfl⟩ := ownR_slice LO
                have HX' : Hid ((diffB A B).length + Xl.length ≤ 2097152) := by
                  have h1 := HP.out.length_eq
                  have h2 := HX.out
                  have h3 : (goneS (restM A B)).length ≤ na := by
                    unfold goneS restM
                    rw [List.length_map]
                    refine Nat.le_trans (List.length_filter_le _ _) (Nat.le_trans (List.length_filter_le _ _) ?_)
                    rw [List.length_reverse, NA.out]
                    exact Nat.le_refl _
                  rw [List.length_append] at h1
                  show _ ≤ _
                  omega
                go_wp2_with (first
                  | (at_next; refine wpList_next_ranges _ rfl _ rfl 47 spotK shR id id (fun key _ _ => ⟨key, rfl⟩) (fun v _ _ => ⟨v, rfl⟩) m r na _ _ _ rfl hrg ?_ ?_)
                  | go_in)
                · intro hc0 hl0
                  have HT0 : T = [] := hT.none hl0
                  have HX : Hid (Xl.Perm (goneS (leftA A B))) := by
                    have := HP.out
                    rw [HT0] at this
                    have e0 : goneS [] = [] := rfl
                    rw [e0, List.append_nil] at this
                    exact this.trans (goneS_perm (restM_perm A B))
                  have hln : (diffB A B ++ Xl).length ≤ 4000000 := by
                    have h1 := HX'.out
                    rw [List.length_append]
                    omega
                  have CSO := sortI _ _ (m + 1) wr LO hln
                  clear hrg hT HT HP hap hH HT0 hc0 hl0
                  go_wp2_with fail
                  refine CSO.mono ?_
                  rintro v5 ws ⟨rfl, l', hp, hs, OS, gS⟩
                  have HF : Hid (l' = R) := by
                    show _ = _
                    rw [HE.out]
                    exact diff_sorted RA.out RB.out HX.out hp hs
                  have XS : Ext w ws := X.grown gS X.size (fun q hq => by have := ownR_block LO q hq; omega)
                  have OF := ownR_base OS (show w.heap.size ≤ m + 1 by omega)
                  clear OS gS hp hs LO X CSO
                  go_wp2_with fail
                  go_ret
                  exact ⟨⟨_, rfl, by rw [← HF.out]; exact OF⟩, XS⟩
                · intro x c kl yd yp w1 cnt1 hkey hlx hv hat hrg1 hlt hg1 hs1 hen
                  obtain ⟨e, heT, rfl⟩ := hT.some hlx
                  have heM := HT.out e heT
                  have IE : Hid (InS e) := IA.out e (restM_mem heM)
                  have hx : x = siV e.r e.c := spotK.inj hkey (klOf_key IE.out.1 IE.out.2)
                  have hc : c = .agg e.cells.toArray := hH.entry hap heM hv hat
                  subst hx hc
                  have hT' := hT.next IE.out
                  have HP' : Hid (T.Perm (e :: T.filter fun f => !isKl f (klOf e.r e.c))) := perm_pick hT.1 heT
                  clear hkey hlx hv hat heT heM
                  have hap0 := own_apart LO hrg
                  have LO1 := ownR_keepN LO hg1 (fun g hg q => (hap0 g hg).2 (Option.some.inj q))
                  have X1 := ext_grownS X hg1 hwr
                  have hleft : Hid (wr.rangeLeft m r = cnt) := hrg.left_eq
                  have HG := gone_step HP'.out HP.out
                  have HT2 : Hid (∀ f ∈ (T.filter fun f => !isKl f (klOf e.r e.c)), f ∈ restM A B) := fun f hf => HT.out f (List.mem_filter.1 hf).1
                  have B3 := vec_made ((w1.alloc (.cells #[.int .i64 e.r, .int .i64 e.c] 47)).alloc (.cells e.cells.toArray 42)) (nullAt e.r e.c).cells 42
                  rw [World.size_alloc, World.size_alloc, hs1] at B3
                  have E3 : Ext w1 (((w1.alloc (.cells #[.int .i64 e.r, .int .i64 e.c] 47)).alloc (.cells e.cells.toArray 42)).alloc (.cells (nullAt e.r e.c).cells.toArray 42)) := xa (xa (x1 _ _) _) _
                  have HC := likeI (nullAt e.r e.c) e (((w1.alloc (.cells #[.int .i64 e.r, .int .i64 e.c] 47)).alloc (.cells e.cells.toArray 42)).alloc (.cells (nullAt e.r e.c).cells.toArray 42))
                  have HK : Hid (keepS e (nullAt e.r e.c) = if (nullAt e.r e.c).like e then [] else [nullAt e.r e.c]) := by show _ = _; unfold keepS; rw [like_symm]
                  obtain ⟨Tt, hTt⟩ : ∃ Tt, (nullAt e.r e.c).like e = Tt := ⟨_, rfl⟩
                  have HK : Hid (keepS e (nullAt e.r e.c) = if Tt then [] else [nullAt e.r e.c]) := by show _ = _; rw [HK.out, hTt]
                  rw [hTt] at HC
                  clear hTt hT HT HP HP' hg1 hrg hap0 LO X
                  generalize (T.filter fun f => !isKl f (klOf e.r e.c)) = T' at hT' HG HT2
                  have HG : Hid (((Xl ++ keepS e (nullAt e.r e.c)) ++ goneS T').Perm (goneS (restM A B))) := HG
                  go_wp2_with fail
                  refine HC.mono ?_
                  rintro v5 w5 ⟨rfl, E5⟩
                  have B5 := B3.later E5.1
                  have E6 := xt E3 E5.1
                  have X5 := xt X1 E6
                  have hrg5 := hrg1.kept (ext_noneS E6) (by simp) (by simp)
                  have LO5 := ownR_later LO1 E6
                  clear B3 E3 E5 E6 X1 hrg1 LO1 HC hen hs1
                  cases Tt with
                  | true =>
                    have HK0 : Hid (keepS e (nullAt e.r e.c) = []) := HK.out
                    have hm5 := hrg5.left_eq
                    clear B5
                    go_wp2_with fail
                    go_roundw
                    case rel => exact ⟨_, cnt1, T', Xl, hrg5, hT', HT2, by have := HG.out; rw [HK0.out, List.append_nil] at this; exact this, LO5, X5⟩
                    case measure => rw [hm5, hleft.out]; exact hlt
                  | false =>
                    have HK0 : Hid (keepS e (nullAt e.r e.c) = [nullAt e.r e.c]) := HK.out
                    obtain ⟨inf, hi, hz, hz1, hz2⟩ := infoR
                    have OQ : Hid (OwnR w5 (m + 1) (.slice sp sn sc) (diffB A B ++ Xl)) := LO5
                    have mq : m < w5.heap.size := hrg5.owns.lt
                    have a0 := (B5 0 _ rfl).1
                    have a1 := (B5 1 _ rfl).1
                    have a2 := (B5 2 _ rfl).1
                    have a3 := (B5 3 _ rfl).1
                    have a4 := (B5 4 _ rfl).1
                    have a5 := (B5 5 _ rfl).1
                    have a6 := (B5 6 _ rfl).1
                    have a7 := (B5 7 _ rfl).1
                    clear LO5
                    go_wp2_with (at_builtin; refine wpList_append_own _ rfl _ _ 24 rfl (m + 1) 42 inf (.agg zeroST.cells.toArray) 8 72 Try.underlying24 hi hz hz1 hz2 rfl (by decide) _ _ _ rfl (OQ.out.alloc _) ⟨w5.heap.size, 0, none⟩ 1 1 (nullAt e.r e.c).cells rfl rfl (World.news_of_block (heap_alloc_new _ _)) (by simp [Value.oneCell']) (by have := HX'.out; rw [List.length_append]; simp only [maxLen]; omega) (by have := HX'.out; rw [List.length_append]; omega) (by simp; omega) ?_)
                    intro v7 wC ownC gC _
                    have lb := ownR_block OQ.out
                    have la' := own_apart OQ.out hrg5
                    have XA := xa X5 (.cells (nullAt e.r e.c).cells.toArray 42)
                    have RA' := hrg5.alloc (.cells (nullAt e.r e.c).cells.toArray 42)
                    have XC : Ext w wC := XA.grown gC XA.size (fun q hq => by have := lb q hq; omega)
                    have RC := RA'.kept gC (fun q => (la' m q.symm).1 rfl) (fun q => (la' r q.symm).2 rfl)
                    have OC : OwnR wC (m + 1) v7 (diffB A B ++ (Xl ++ [nullAt e.r e.c])) := by
                      rw [← List.append_assoc]
                      show World.ownsRow _ _ _ _ _ _ _
                      rw [flatS_append, show (diffB A B ++ Xl ++ [nullAt e.r e.c]).length = (diffB A B).length + Xl.length + 1 by rw [List.length_append, List.length_append]; rfl]
                      exact ownC
                    have hmC := RC.left_eq
                    obtain ⟨p7, n7, c7, rfl⟩ := ownR_slice OC
                    clear gC ownC OQ XA RA' hrg5 X5 B5 a0 a1 a2 a3 a4 a5 a6 a7 lb la' hi hz hz1 hz2
                    go_wp2_with fail
                    go_roundw
                    case rel => exact ⟨_, cnt1, T', Xl ++ [nullAt e.r e.c], RC, hT', HT2, by have := HG.out; rw [HK0.out] at this; exact this, OC, XC⟩
                    case measure => rw [hmC, hleft.out]; exact hlt

end Go.Proofs.Ytbipmeldmgpknaa
