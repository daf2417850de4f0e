/-
  Chapter 15: LastUndo, LastRedo, Standing, by the program.
-/
import Derived.Test.YtmpemgpfjopkgaaHs10
namespace Go.Proofs.Ytmpemgpfjopkgaa
open Go.RowKit Go.Shelf

attribute [local go_sem] Oper.semAt_some

/-- The history as it is gone through: none where the steps are not as said. -/
structure HistC (w' : World) (l l' : List STP) (bs : List Nat) : Prop where
  len : bs.length = l'.length
  most : l'.length ≤ 60
  at_ : HistAt w' l' bs
  ans : ∀ p : List Nat → Nat → Bool, lastR p l = firstN (p (undos l')) (dnL (undos l') 0)
  same : goodH l = true → l' = l
theorem HistR.one {w' : World} {l : List STP} {z : Ending} (h : HistR w' l z) : ∃ l' bs, z = .returned (.tuple #[.pointer (ptrD bs l'.length), .bool (goodH l)]) ∧ HistC w' l l' bs := by
  rcases h with ⟨h1, rfl⟩ | ⟨h1, bs, rfl, h2, h3⟩
  · refine ⟨[], [], by rw [h1]; rfl, rfl, by simp, fun i b hb => by simp at hb, fun p => ?_, fun h => by rw [h1] at h; cases h⟩
    unfold lastR
    rw [h1]
    rfl
  · exact ⟨l, bs, by rw [h1], h2, (goodH_iff.1 h1).2, h3, fun p => lastR_first h1, fun _ => rfl⟩
theorem standing_stops (nF n₀ : Nat) (hn : 1 ≤ nF) (l : List STP) (bs : List Nat) (w : World) (hbl : bs.length = l.length) (h6 : l.length ≤ 60) (hn0 : n₀ ≤ w.heap.size) (hH : HistB n₀ w l bs) :
    StopsB Fence.wide nF Try.prog 24 #[.pointer (ptrD bs l.length)] (fun x : DeedN l.length => encD bs x) (KpD n₀) (fun xs => numsD xs = dnL (undos l) 0) (fun pre => numsD pre <+: dnL (undos l) 0) l.length w := fun l0 J Jx W hW hJ _ hY h0 =>
  standing_in nF hn l0 n₀ l.length l bs (undos l) hbl rfl (undos_length l) h6 J Jx hY W hJ (hH.below (hW.mono hn0)) (Nat.le_trans hn0 hW.size) h0
theorem kpD_t {n₀ : Nat} {A B C : World} (h : KpD n₀ A B) (k : KpD n₀ B C) : KpD n₀ A C := ⟨h.1.trans k.1, h.2.trans k.2⟩
theorem kpD_b {n₀ : Nat} {w : World} (hn : n₀ ≤ w.heap.size) (W : World) (l : Nat) (o o' : Obj) (hl : w.heap.size ≤ l) (h : W.heap[l]? = some o) (h1 : o.isCells = false) (h2 : o.isWalk = false) : KpD n₀ W (W.putObj l o') :=
  ⟨belowK_b hn W l o o' hl h h1 h2, walksK_b (w := w) W l o o' hl h h1 h2⟩
set_option maxRecDepth 100000 in
set_option maxHeartbeats 4000000 in
theorem undoI (v : Value) (l : List STP) (w : World) (h : StpsIn w v l) (hl : l.length ≤ 1048576) (hc : ∀ e ∈ l, e.ch.length ≤ 1048576) :
    Calls Try.prog 16 #[v] w fun z w' => z = .returned (.int .i64 (lastR isU l : Nat)) ∧ Ext w w' := by
  have X0 := x1 w (.cells #[.int .i64 0] 3)
  have CH := historyI v l (w.alloc (.cells #[.int .i64 0] 3)) (h.later X0) hl hc
  have R0 := vec_made w [.int .i64 0] 3
  change Vec (w.alloc (.cells #[.int .i64 0] 3)) _ _ at R0
  obtain ⟨p, cap, rfl, -⟩ := h
  obtain ⟨nl, hnl⟩ : ∃ nl, l.length = nl := ⟨_, rfl⟩
  rw [hnl] at CH ⊢
  clear hnl
  refine (callsIn_wide (n := 5)).1 ?_
  refine callsIn_of_wp_marks Try.func16 rfl trivial ?_ rfl
  simp only [Try.ntmps16, List.size_toArray, List.length_cons, List.length_nil, Nat.reduceAdd, Nat.reduceSub, Array.replicate_succ, Array.replicate_zero, List.push_toArray, List.append_toArray, List.nil_append, List.cons_append]
  gi_wp2_with (refine ⟨trivial, ?_⟩; gi_at_call 23; refine (callsIn_wide.2 CH).mono ?_; rintro e w1 ⟨hr, e1⟩; obtain ⟨l', bs, rfl, HC⟩ := hr.one; clear hr)
  have HH : Hid (HistB w1.heap.size w1 l' bs) := HC.at_.toB
  have HA : Hid (lastR isU l = firstN (isU (undos l')) (dnL (undos l') 0)) := HC.ans isU
  have ST := standing_stops (5 - 1) w1.heap.size (by omega) l' bs w1 HC.len HC.most (Nat.le_refl _) HH.out
  have X1 : Ext w w1 := xt X0 e1
  have R1 := R0.later e1
  have hR1 : w.heap.size < w1.heap.size := World.block_lt_of_cell? _ _ (R1 0 _ rfl).1
  obtain ⟨us, hus⟩ : ∃ us, undos l' = us := ⟨_, rfl⟩
  have HU : Hid (∀ (k b : Nat), bs[k]? = some b → ∃ (u : Nat) (cv : Value), us[k]? = some u ∧ u ≤ k ∧ Vec w1 b [.int .i64 (u : Int), cv, .int .i64 ((k + 1 : Nat) : Int), .pointer (ptrD bs k), .pointer (ptrD bs u)]) := fun k b hb => by
    obtain ⟨e, cv, h1, h2, h3, h4⟩ := HC.at_ k b hb
    refine ⟨e.u.toNat, cv, by rw [← hus]; exact undos_at h1, by omega, ?_⟩
    have : ((e.u.toNat : Nat) : Int) = e.u := by omega
    rw [this]
    exact h4
  have HL : Hid (bs.length = l'.length) := HC.len
  rw [hus] at HA ST
  obtain ⟨pt, hpt⟩ : ∃ pt, ptrD bs l'.length = pt := ⟨_, rfl⟩
  obtain ⟨gb, hgb⟩ : ∃ gb, goodH l = gb := ⟨_, rfl⟩
  rw [hpt] at ST
  rw [hpt, hgb]
  clear HC hus hpt hgb CH R0 X0 e1
  refine range_bound (α := DeedN l'.length) rfl (by omega) (gf := 24) (fa := #[.pointer pt]) rfl trivial (enters_of Try.func24 (by kernel_rfl) rfl) ST kpD_t (kpD_b (Nat.le_refl _)) (fun _ => rfl)
    (fun pre W => (∀ y ∈ numsD pre, isU us y = false) ∧ Below w1.heap.size w1 W)
    (fun c pre W => (c = .ret ∧ ∃ a x, numsD pre = a ++ [x] ∧ (∀ y ∈ a, isU us y = false) ∧ isU us x = true ∧ W.cell? ⟨w.heap.size, 0, none⟩ = some (.int .i64 ((x + 1 : Nat) : Int))) ∧ Below w.heap.size w W)
    (OwnFrom.and (ownFrom_pure _ _) (ownFrom_below (Nat.le_refl _) (Nat.le_refl _)))
    (fun c => OwnFrom.and (fun s A B row hs hg hr => by
      obtain ⟨h1, a, x, h2, h3, h4, h5⟩ := hs
      exact ⟨h1, a, x, h2, h3, h4, cell_kept h5 hg (fun r e => (hr r e).2)⟩) (ownFrom_below (Nat.le_refl _) X1.size))
    ⟨by simp, Below.refl _ _⟩
    (fun x => { tmps := #[.slice p nl cap, undef, .pointer (some ⟨w.heap.size, 0, none⟩), .pointer pt, .bool gb, .pointer (some ⟨bs.getD x.1 0, 0, none⟩), .tuple #[.pointer pt, .bool gb], .slice p nl cap, .tuple #[.pointer pt, .bool gb], .pointer pt, .bool gb, .pointer pt, .func (.func 24) #[.pointer pt] #[], .pointer (some ⟨bs.getD x.1 0, 0, none⟩), undef, undef, undef, undef, undef, undef, undef, undef, undef], defers := [] }) ?assign ?body ?done ?stop
  case assign =>
    intro l0 x W K hK
    gi_wp2
    exact hK
  case body =>
    rintro l0 pre x W ⟨hp, hB⟩ _
    obtain ⟨b, hb⟩ : ∃ b, bs[x.1]? = some b := ⟨_, List.getElem?_eq_getElem (by rw [HL.out]; exact x.2)⟩
    have hbg : bs.getD x.1 0 = b := by rw [List.getD_eq_getElem?_getD, hb]; rfl
    obtain ⟨u, cv, hu, hux, V⟩ := HU.out x.1 b hb
    have V := V.below (HH.out.2 x.1 b hb) hB
    have c2 := (V 2 _ rfl).1
    have c4 := (V 4 _ rfl).1
    have R2 := R1.below hR1 hB
    have r0 := (R2 0 _ rfl).1
    have rf := (R2 0 _ rfl).2
    have HI : Hid (isU us x.1 = (u == 0)) := by show _ = _; unfold isU; rw [List.getD_eq_getElem?_getD, hu]; rfl
    have HP : Hid (∀ y ∈ numsD pre, isU us y = false) := hp
    have HB : Hid (Below w1.heap.size w1 W) := hB
    obtain ⟨K, hK⟩ : ∃ K : Nat, x.1 + 1 = K := ⟨_, rfl⟩
    rw [hK] at c2
    rw [hbg]
    by_cases hu0 : u = 0
    · subst hu0
      rw [ptrD_zero] at c4
      have HY : Hid (isU us x.1 = true) := HI.out
      clear V hp hB hu hbg hb R2 HI
      gi_wp2
      refine ⟨(KeepsOthers.setCell _ _ _).from _, ⟨rfl, numsD pre, x.1, ?_, HP.out, HY.out, ?_⟩, ?_⟩
      · exact List.map_append
      · rw [hK]
        exact World.cell?_setCell_same' _ _ _ (by rw [r0]; rfl)
      · exact (X1.trans (HB.out.mono X1.size)).setCell (p := ⟨w.heap.size, 0, none⟩) (Nat.le_refl _) _
    · have hun : (u == 0) = false := by simp [hu0]
      obtain ⟨b2, hb2⟩ : ∃ b2, bs[u - 1]? = some b2 := ⟨_, List.getElem?_eq_getElem (by have := (List.getElem?_eq_some_iff.1 hb).1; omega)⟩
      have hpu : ptrD bs u = some ⟨b2, 0, none⟩ := by
        have := ptrD_succ hb2
        rw [show u - 1 + 1 = u by omega] at this
        exact this
      rw [hpu] at c4
      have HY : Hid (isU us x.1 = false) := by show _ = _; rw [HI.out, hun]
      clear V hp hB hu hbg hb R2 HI hpu hb2 hun
      gi_wp2
      refine ⟨KeepsFrom.refl _ _, ⟨Below.refl _ _, KeepsWalks.refl _⟩, ?_, HB.out⟩
      intro y hy
      rw [show numsD (pre ++ [x]) = numsD pre ++ [x.1] from List.map_append] at hy
      rcases List.mem_append.1 hy with h | h
      · exact HP.out y h
      · rw [List.mem_singleton.1 h]; exact HY.out
  case done =>
    rintro xs W hS ⟨hp, hB⟩ hK
    have HF : Hid (lastR isU l = 0) := by show _ = _; rw [HA.out]; exact firstN_miss (by rw [← hS]; exact hp)
    have R2 := R1.below hR1 hB
    have r0 := (R2 0 _ rfl).1
    have rf := (R2 0 _ rfl).2
    have XB : Below w.heap.size w W := X1.trans (hB.mono X1.size)
    clear hp hS
    gi_wp2
    have hK' := (KeepsOthers.setCell W ⟨w.heap.size, 0, none⟩ (.int .i64 0)).same w1.heap.size _ hK rfl
    refine ⟨by simp, .inl ⟨_, _, rfl, run_takeDeferred hK', ?_⟩⟩
    have hc5 := cell_kept (World.cell?_setCell_same' W ⟨w.heap.size, 0, none⟩ (.int .i64 0) (by rw [r0]; rfl)) (grownBy_putObj' _ w1.heap.size (.deferred none)) (fun r e => by cases e; exact ⟨_, hK', rfl⟩)
    have XC := XB.setCell (p := ⟨w.heap.size, 0, none⟩) (Nat.le_refl _) (.int .i64 0)
    refine ⟨.int .i64 0, ?_, by rw [HF.out]; rfl, ?_⟩
    · simp [results, Try.results16, go_sem, hc5]
    · exact XC.trans (belowK_b (w := w1) X1.size _ w1.heap.size _ _ (Nat.le_refl _) hK' rfl rfl)
  case stop =>
    rintro c pre W hS ⟨⟨rfl, a, x, h2, h3, h4, h5⟩, hB⟩ hK
    have HF : Hid (lastR isU l = x + 1) := by
      show _ = _
      rw [HA.out]
      refine firstN_hit (a := a) (x := x) ?_ h3 h4
      rw [← h2]
      exact hS
    clear hS h2 h3 h4
    gi_wp2
    refine ⟨by simp, .inl ⟨_, _, rfl, run_takeDeferred hK, ?_⟩⟩
    have hc5 := cell_kept h5 (grownBy_putObj' _ w1.heap.size (.deferred none)) (fun r e => by cases e; exact ⟨_, hK, rfl⟩)
    refine ⟨.int .i64 ((x + 1 : Nat) : Int), ?_, by rw [HF.out], ?_⟩
    · simp [results, Try.results16, go_sem, hc5]
    · exact hB.trans (belowK_b (w := w1) X1.size _ w1.heap.size _ _ (Nat.le_refl _) hK rfl rfl)
set_option maxRecDepth 100000 in
set_option maxHeartbeats 4000000 in
theorem redoI (v : Value) (l : List STP) (w : World) (h : StpsIn w v l) (hl : l.length ≤ 1048576) (hc : ∀ e ∈ l, e.ch.length ≤ 1048576) :
    Calls Try.prog 18 #[v] w fun z w' => z = .returned (.int .i64 (lastR isR l : Nat)) ∧ Ext w w' := by
  have X0 := x1 w (.cells #[.int .i64 0] 3)
  have CH := historyI v l (w.alloc (.cells #[.int .i64 0] 3)) (h.later X0) hl hc
  have R0 := vec_made w [.int .i64 0] 3
  change Vec (w.alloc (.cells #[.int .i64 0] 3)) _ _ at R0
  obtain ⟨p, cap, rfl, -⟩ := h
  obtain ⟨nl, hnl⟩ : ∃ nl, l.length = nl := ⟨_, rfl⟩
  rw [hnl] at CH ⊢
  clear hnl
  refine (callsIn_wide (n := 5)).1 ?_
  refine callsIn_of_wp_marks Try.func18 rfl trivial ?_ rfl
  simp only [Try.ntmps18, List.size_toArray, List.length_cons, List.length_nil, Nat.reduceAdd, Nat.reduceSub, Array.replicate_succ, Array.replicate_zero, List.push_toArray, List.append_toArray, List.nil_append, List.cons_append]
  gi_wp2_with (refine ⟨trivial, ?_⟩; gi_at_call 23; refine (callsIn_wide.2 CH).mono ?_; rintro e w1 ⟨hr, e1⟩; obtain ⟨l', bs, rfl, HC⟩ := hr.one; clear hr)
  have HH : Hid (HistB w1.heap.size w1 l' bs) := HC.at_.toB
  have HA : Hid (lastR isR l = firstN (isR (undos l')) (dnL (undos l') 0)) := HC.ans isR
  have ST := standing_stops (5 - 1) w1.heap.size (by omega) l' bs w1 HC.len HC.most (Nat.le_refl _) HH.out
  have X1 : Ext w w1 := xt X0 e1
  have R1 := R0.later e1
  have hR1 : w.heap.size < w1.heap.size := World.block_lt_of_cell? _ _ (R1 0 _ rfl).1
  obtain ⟨us, hus⟩ : ∃ us, undos l' = us := ⟨_, rfl⟩
  have HU : Hid (∀ (k b : Nat), bs[k]? = some b → ∃ (u : Nat) (cv : Value), us[k]? = some u ∧ u ≤ k ∧ Vec w1 b [.int .i64 (u : Int), cv, .int .i64 ((k + 1 : Nat) : Int), .pointer (ptrD bs k), .pointer (ptrD bs u)]) := fun k b hb => by
    obtain ⟨e, cv, h1, h2, h3, h4⟩ := HC.at_ k b hb
    refine ⟨e.u.toNat, cv, by rw [← hus]; exact undos_at h1, by omega, ?_⟩
    have : ((e.u.toNat : Nat) : Int) = e.u := by omega
    rw [this]
    exact h4
  have HL : Hid (bs.length = l'.length) := HC.len
  rw [hus] at HA ST
  obtain ⟨pt, hpt⟩ : ∃ pt, ptrD bs l'.length = pt := ⟨_, rfl⟩
  obtain ⟨gb, hgb⟩ : ∃ gb, goodH l = gb := ⟨_, rfl⟩
  rw [hpt] at ST
  rw [hpt, hgb]
  clear HC hus hpt hgb CH R0 X0 e1
  refine range_bound (α := DeedN l'.length) rfl (by omega) (gf := 24) (fa := #[.pointer pt]) rfl trivial (enters_of Try.func24 (by kernel_rfl) rfl) ST kpD_t (kpD_b (Nat.le_refl _)) (fun _ => rfl)
    (fun pre W => (∀ y ∈ numsD pre, isR us y = false) ∧ Below w1.heap.size w1 W)
    (fun c pre W => (c = .ret ∧ ∃ a x, numsD pre = a ++ [x] ∧ (∀ y ∈ a, isR us y = false) ∧ isR us x = true ∧ W.cell? ⟨w.heap.size, 0, none⟩ = some (.int .i64 ((x + 1 : Nat) : Int))) ∧ Below w.heap.size w W)
    (OwnFrom.and (ownFrom_pure _ _) (ownFrom_below (Nat.le_refl _) (Nat.le_refl _)))
    (fun c => OwnFrom.and (fun s A B row hs hg hr => by
      obtain ⟨h1, a, x, h2, h3, h4, h5⟩ := hs
      exact ⟨h1, a, x, h2, h3, h4, cell_kept h5 hg (fun r e => (hr r e).2)⟩) (ownFrom_below (Nat.le_refl _) X1.size))
    ⟨by simp, Below.refl _ _⟩
    (fun x => { tmps := #[.slice p nl cap, undef, .pointer (some ⟨w.heap.size, 0, none⟩), .pointer pt, .bool gb, .pointer (some ⟨bs.getD x.1 0, 0, none⟩), .tuple #[.pointer pt, .bool gb], .slice p nl cap, .tuple #[.pointer pt, .bool gb], .pointer pt, .bool gb, .pointer pt, .func (.func 24) #[.pointer pt] #[], .pointer (some ⟨bs.getD x.1 0, 0, none⟩), undef, undef, undef, undef, undef, undef, undef, undef, undef, undef, undef, undef, undef, undef, undef, undef, undef, undef, undef], defers := [] }) ?assign ?body ?done ?stop
  case assign =>
    intro l0 x W K hK
    gi_wp2
    exact hK
  case body =>
    rintro l0 pre x W ⟨hp, hB⟩ _
    obtain ⟨b, hb⟩ : ∃ b, bs[x.1]? = some b := ⟨_, List.getElem?_eq_getElem (by rw [HL.out]; exact x.2)⟩
    have hbg : bs.getD x.1 0 = b := by rw [List.getD_eq_getElem?_getD, hb]; rfl
    obtain ⟨u, cv, hu, hux, V⟩ := HU.out x.1 b hb
    have V := V.below (HH.out.2 x.1 b hb) hB
    have c2 := (V 2 _ rfl).1
    have c4 := (V 4 _ rfl).1
    have R2 := R1.below hR1 hB
    have r0 := (R2 0 _ rfl).1
    have rf := (R2 0 _ rfl).2
    have HI : Hid (isR us x.1 = (u != 0 && us.getD (u - 1) 0 == 0)) := by
      show _ = _
      have e : us.getD x.1 0 = u := by rw [List.getD_eq_getElem?_getD, hu]; rfl
      unfold isR
      rw [e]
    have HP : Hid (∀ y ∈ numsD pre, isR us y = false) := hp
    have HB : Hid (Below w1.heap.size w1 W) := hB
    obtain ⟨K, hK⟩ : ∃ K : Nat, x.1 + 1 = K := ⟨_, rfl⟩
    rw [hK] at c2
    rw [hbg]
    have HN : Hid (isR us x.1 = false → (∀ y ∈ numsD (pre ++ [x]), isR us y = false)) := fun hf y hy => by
      rw [show numsD (pre ++ [x]) = numsD pre ++ [x.1] from List.map_append] at hy
      rcases List.mem_append.1 hy with h | h
      · exact HP.out y h
      · rw [List.mem_singleton.1 h]; exact hf
    by_cases hu0 : u = 0
    · subst hu0
      rw [ptrD_zero] at c4
      have HY := HN.out (by rw [HI.out]; rfl)
      have HY : Hid _ := HY
      clear V hp hB hu hbg hb R2 HI HN
      gi_wp2
      exact ⟨KeepsFrom.refl _ _, ⟨Below.refl _ _, KeepsWalks.refl _⟩, HY.out, HB.out⟩
    · obtain ⟨y, rfl⟩ : ∃ y, u = y + 1 := ⟨u - 1, by omega⟩
      obtain ⟨b2, hb2⟩ : ∃ b2, bs[y]? = some b2 := ⟨_, List.getElem?_eq_getElem (by have := (List.getElem?_eq_some_iff.1 hb).1; omega)⟩
      rw [ptrD_succ hb2] at c4
      obtain ⟨u2, cv2, hu2, hux2, V2⟩ := HU.out y b2 hb2
      have V2 := V2.below (HH.out.2 y b2 hb2) hB
      have d4 := (V2 4 _ rfl).1
      have HI2 : Hid (isR us x.1 = (u2 == 0)) := by
        show _ = _
        have e : us.getD y 0 = u2 := by rw [List.getD_eq_getElem?_getD, hu2]; rfl
        rw [HI.out, Nat.add_sub_cancel, e]
        simp
      by_cases hu3 : u2 = 0
      · subst hu3
        rw [ptrD_zero] at d4
        have HY : Hid (isR us x.1 = true) := HI2.out
        clear V V2 hp hB hu hu2 hbg hb R2 HI HI2 HN hb2 hu0
        gi_wp2
        refine ⟨(KeepsOthers.setCell _ _ _).from _, ⟨rfl, numsD pre, x.1, ?_, HP.out, HY.out, ?_⟩, ?_⟩
        · exact List.map_append
        · rw [hK]
          exact World.cell?_setCell_same' _ _ _ (by rw [r0]; rfl)
        · exact (X1.trans (HB.out.mono X1.size)).setCell (p := ⟨w.heap.size, 0, none⟩) (Nat.le_refl _) _
      · have hun : (u2 == 0) = false := by simp [hu3]
        obtain ⟨b3, hb3⟩ : ∃ b3, bs[u2 - 1]? = some b3 := ⟨_, List.getElem?_eq_getElem (by have := (List.getElem?_eq_some_iff.1 hb2).1; omega)⟩
        have hpu : ptrD bs u2 = some ⟨b3, 0, none⟩ := by
          have := ptrD_succ hb3
          rw [show u2 - 1 + 1 = u2 by omega] at this
          exact this
        rw [hpu] at d4
        have HY := HN.out (by rw [HI2.out, hun])
        have HY : Hid _ := HY
        clear V V2 hp hB hu hu2 hbg hb R2 HI HI2 HN hb2 hu0 hpu hb3 hun
        gi_wp2
        exact ⟨KeepsFrom.refl _ _, ⟨Below.refl _ _, KeepsWalks.refl _⟩, HY.out, HB.out⟩
  case done =>
    rintro xs W hS ⟨hp, hB⟩ hK
    have HF : Hid (lastR isR l = 0) := by show _ = _; rw [HA.out]; exact firstN_miss (by rw [← hS]; exact hp)
    have R2 := R1.below hR1 hB
    have r0 := (R2 0 _ rfl).1
    have rf := (R2 0 _ rfl).2
    have XB : Below w.heap.size w W := X1.trans (hB.mono X1.size)
    clear hp hS
    gi_wp2
    have hK' := (KeepsOthers.setCell W ⟨w.heap.size, 0, none⟩ (.int .i64 0)).same w1.heap.size _ hK rfl
    refine ⟨by simp, .inl ⟨_, _, rfl, run_takeDeferred hK', ?_⟩⟩
    have hc5 := cell_kept (World.cell?_setCell_same' W ⟨w.heap.size, 0, none⟩ (.int .i64 0) (by rw [r0]; rfl)) (grownBy_putObj' _ w1.heap.size (.deferred none)) (fun r e => by cases e; exact ⟨_, hK', rfl⟩)
    have XC := XB.setCell (p := ⟨w.heap.size, 0, none⟩) (Nat.le_refl _) (.int .i64 0)
    refine ⟨.int .i64 0, ?_, by rw [HF.out]; rfl, ?_⟩
    · simp [results, Try.results18, go_sem, hc5]
    · exact XC.trans (belowK_b (w := w1) X1.size _ w1.heap.size _ _ (Nat.le_refl _) hK' rfl rfl)
  case stop =>
    rintro c pre W hS ⟨⟨rfl, a, x, h2, h3, h4, h5⟩, hB⟩ hK
    have HF : Hid (lastR isR l = x + 1) := by
      show _ = _
      rw [HA.out]
      refine firstN_hit (a := a) (x := x) ?_ h3 h4
      rw [← h2]
      exact hS
    clear hS h2 h3 h4
    gi_wp2
    refine ⟨by simp, .inl ⟨_, _, rfl, run_takeDeferred hK, ?_⟩⟩
    have hc5 := cell_kept h5 (grownBy_putObj' _ w1.heap.size (.deferred none)) (fun r e => by cases e; exact ⟨_, hK, rfl⟩)
    refine ⟨.int .i64 ((x + 1 : Nat) : Int), ?_, by rw [HF.out], ?_⟩
    · simp [results, Try.results18, go_sem, hc5]
    · exact hB.trans (belowK_b (w := w1) X1.size _ w1.heap.size _ _ (Nat.le_refl _) hK rfl rfl)

end Go.Proofs.Ytmpemgpfjopkgaa
