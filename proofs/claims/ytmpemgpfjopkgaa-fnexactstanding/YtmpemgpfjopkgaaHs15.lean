/-
  Chapter 15: Standing, by the program.
-/
import Derived.Test.YtmpemgpfjopkgaaHs11
import Derived.Test.YtmpemgpfjopkgaaHs14
import Derived.Shelf.RegionOpen
namespace Go.Proofs.Ytmpemgpfjopkgaa
open Go.RowKit Go.Shelf

attribute [local go_sem] Oper.semAt_some

/-- What is told so far. -/
def toldB (n : Nat) (xs : List Nat) : List Bool := (List.range n).map fun i => decide (i ∈ xs)
theorem toldB_nil (n : Nat) : toldB n [] = List.replicate n false := by
  unfold toldB
  apply List.ext_getElem?
  intro i
  by_cases h : i < n
  · rw [List.getElem?_map, List.getElem?_range h, List.getElem?_replicate, if_pos h]
    simp
  · rw [List.getElem?_eq_none (by simp; omega), List.getElem?_eq_none (by simp; omega)]
theorem toldB_set {n x : Nat} (h : x < n) (xs : List Nat) : (toldB n xs).set x true = toldB n (xs ++ [x]) := by
  unfold toldB
  apply List.ext_getElem?
  intro i
  by_cases hi : i < n
  · by_cases e : i = x
    · subst e
      rw [List.getElem?_set_self (by simp; omega), List.getElem?_map, List.getElem?_range hi]
      simp
    · rw [List.getElem?_set_ne (fun q => e q.symm), List.getElem?_map, List.getElem?_map, List.getElem?_range hi]
      simp [e]
  · rw [List.getElem?_eq_none (by simp; omega), List.getElem?_eq_none (by simp; omega)]
theorem toldB_length (n : Nat) (xs : List Nat) : (toldB n xs).length = n := by simp [toldB]
theorem walks_of {W W' : World} (h : KeepsOthers W W') : KeepsWalks W W' := ⟨h.size, fun k o hk ho => h.same k o hk (Obj.not_cells_of_walk ho)⟩
theorem vec_own {β : Type} (B g : Nat) (f : β → List Value) : OwnFrom B (fun s W => Vec W g (f s)) := fun _ _ _ _ hs hg hr i v hi =>
  ⟨cell_kept (hs i v hi).1 hg (fun r e => (hr r e).2), (frozen_kept (hs i v hi).1 hg (fun r e => (hr r e).2)).trans (hs i v hi).2⟩
set_option maxRecDepth 100000 in
set_option maxHeartbeats 4000000 in
theorem standingI (v : Value) (l : List STP) (w : World) (h : StpsIn w v l) (hl : l.length ≤ 1048576) (hc : ∀ e ∈ l, e.ch.length ≤ 1048576) :
    Calls Try.prog 9 #[v] w fun z w' => (∃ g v', z = .returned v' ∧ BoolsOwn w' w.heap.size g v' (standR l)) ∧ Ext w w' := by
  have CH := historyI v l w h hl hc
  obtain ⟨p, cap, rfl, -⟩ := h
  obtain ⟨nl, hnl⟩ : ∃ nl, l.length = nl := ⟨_, rfl⟩
  rw [hnl] at CH ⊢
  have HNL : Hid (l.length = nl) := hnl
  have hmk : nl ≤ 1048576 → ∀ W : World, (Instr.makeSlice 24 (.int .i64 (nl : Int)) (.int .i64 (nl : Int))).run Try.prog W = .ok (.slice (some ⟨W.heap.size, 0, none⟩) nl nl) (W.alloc (.cells (madeCells #[.bool false] nl) 4)) := fun h W => run_make_row' (P := Try.prog) 24 4 (.bool false) 1 Try.underlying24 infoBool rfl .i64 .i64 nl (by omega) (by omega) W
  have hmk := hmk (by omega)
  clear hnl
  refine (callsIn_wide (n := 5)).1 ?_
  refine callsIn_of_wp_marks Try.func9 rfl trivial ?_ rfl
  simp only [Try.ntmps9, List.size_toArray, List.length_cons, List.length_nil, Nat.reduceAdd, Nat.reduceSub, Array.replicate_succ, Array.replicate_zero, List.push_toArray, List.append_toArray, List.nil_append, List.cons_append]
  gi_wp2_with (refine ⟨trivial, ?_⟩; gi_at_call 23; refine (callsIn_wide.2 CH).mono ?_; rintro e w1 ⟨hr, e1⟩; rcases hr with ⟨hg, rfl⟩ | ⟨hg, bs, rfl, hbl, hat⟩)
  · have HF : Hid (standR l = []) := by show _ = _; unfold standR; rw [hg]; rfl
    exact ⟨_, results_tmp rfl _ _ _, ⟨w.heap.size, _, rfl, none, by rw [HF.out]; rfl, fun h => by rw [HF.out] at h; simp at h, Nat.le_refl _, by rw [HF.out]; exact fun i v hi => by simp at hi⟩, e1⟩
  · have HF : Hid (standR l = toldB nl (dnL (undos l) 0)) := by
      show _ = _
      unfold standR toldB
      rw [if_pos hg, ← stV_told, undos_length, HNL.out]
    have V0 := vecB_made w1 nl 4
    have X0 := x1 w1 (.cells (madeCells #[.bool false] nl) 4)
    obtain ⟨wa, ha⟩ : ∃ wa, w1.alloc (.cells (madeCells #[.bool false] nl) 4) = wa := ⟨_, rfl⟩
    have sa : wa.heap.size = w1.heap.size + 1 := by rw [← ha, World.size_alloc]
    rw [ha] at V0 X0 ⊢
    obtain ⟨G, hG⟩ : ∃ G, w1.heap.size = G := ⟨_, rfl⟩
    have R0 := vec_made wa [.slice (some ⟨G, 0, none⟩) nl nl] 24
    have X1 := x1 wa (.cells #[.slice (some ⟨G, 0, none⟩) nl nl] 24)
    change Vec (wa.alloc (.cells #[.slice (some ⟨G, 0, none⟩) nl nl] 24)) _ _ at R0
    rw [hG] at V0 sa ⊢
    rw [sa] at R0
    have V1 := V0.later X1
    have sb : (wa.alloc (.cells #[.slice (some ⟨G, 0, none⟩) nl nl] 24)).heap.size = G + 2 := by rw [World.size_alloc, sa]
    obtain ⟨W0, hW0⟩ : ∃ W0, wa.alloc (.cells #[.slice (some ⟨G, 0, none⟩) nl nl] 24) = W0 := ⟨_, rfl⟩
    rw [hW0] at R0 V1 X1 sb ⊢
    have B0 : Below G w1 W0 := by rw [← hG]; exact xt X0 X1
    have hm6 : l.length ≤ 60 := (goodH_iff.1 hg).2
    have HH : Hid (HistB G w1 l bs) := by have := hat.toB; rw [hG] at this; exact this
    have ST := standing_stops (5 - 1) G (by omega) l bs W0 hbl hm6 (by omega) (HH.out.below B0)
    obtain ⟨us, hus⟩ : ∃ us, undos l = us := ⟨_, rfl⟩
    rw [hus] at ST HF
    have HU : Hid (∀ (k b : Nat), bs[k]? = some b → b < G ∧ w1.cell? ⟨b, 2, none⟩ = some (.int .i64 ((k : Int) + 1))) := fun k b hb => by
      obtain ⟨e, cv, h1, h2, h3, h4⟩ := hat k b hb
      have h5 := (h4 2 _ rfl).1
      rw [show ((k + 1 : Nat) : Int) = (k : Int) + 1 by omega] at h5
      exact ⟨HH.out.2 k b hb, h5⟩
    have HL : Hid (bs.length = l.length) := hbl
    rw [HNL.out] at ST HL ⊢
    have hm6' : nl ≤ 60 := by rw [← HNL.out]; exact hm6
    obtain ⟨pt, hpt⟩ : ∃ pt, ptrD bs nl = pt := ⟨_, rfl⟩
    rw [hpt] at ST ⊢
    have wG : w.heap.size ≤ G := by rw [← hG]; exact e1.size
    have Gw : G ≤ w1.heap.size := by omega
    have W1B : Below w.heap.size w W0 := e1.trans ((xt X0 X1).mono (by omega))
    clear CH hmk ha hG hW0 hpt hus V0 X0 X1 sa hat hbl hg hm6
    refine range_bound (α := DeedN nl) rfl (by omega) (gf := 24) (fa := #[.pointer pt]) rfl trivial (enters_of Try.func24 (by kernel_rfl) rfl) ST kpD_t (kpD_b (by omega)) (fun _ => rfl)
      (fun pre W => (Vec W G ((toldB nl (numsD pre)).map bV) ∧ Vec W (G + 1) [.slice (some ⟨G, 0, none⟩) nl nl]) ∧ Below G w1 W)
      (fun _ _ _ => False)
      (OwnFrom.and (OwnFrom.and (vec_own _ _ (fun pre : List (DeedN nl) => (toldB nl (numsD pre)).map bV)) (vec_own _ _ (fun _ : List (DeedN nl) => [Value.slice (some ⟨G, 0, none⟩) nl nl]))) (ownFrom_below Gw (by omega)))
      (fun _ _ _ _ _ hs _ _ => hs)
      ⟨⟨by show Vec _ _ ((toldB nl []).map bV); rw [toldB_nil]; exact V1, R0⟩, B0⟩
      (fun x => { tmps := #[.slice p nl cap, undef, .slice none 0 0, .pointer pt, .bool true, .pointer (some ⟨G + 1, 0, none⟩), .pointer (some ⟨bs.getD x.1 0, 0, none⟩), .tuple #[.pointer pt, .bool true], .slice p nl cap, .tuple #[.pointer pt, .bool true], .pointer pt, .bool true, .bool true, .bool false, .slice p nl cap, .int .i64 (nl : Int), .slice (some ⟨G, 0, none⟩) nl nl, .pointer pt, .func (.func 24) #[.pointer pt] #[], .pointer (some ⟨bs.getD x.1 0, 0, none⟩), undef, undef, undef, undef, undef, undef, undef, undef], defers := [] }) ?assign ?body ?done ?stop
    case assign =>
      intro l0 x W K hK
      gi_wp2
      exact hK
    case body =>
      rintro l0 pre ⟨x, hx⟩ W ⟨⟨hV, hR⟩, hB⟩ _
      obtain ⟨b, hb⟩ : ∃ b, bs[x]? = some b := ⟨_, List.getElem?_eq_getElem (by rw [HL.out]; exact hx)⟩
      have hbg : bs.getD x 0 = b := by rw [List.getD_eq_getElem?_getD, hb]; rfl
      obtain ⟨hbG, hc2⟩ := HU.out x b hb
      have c2 : W.cell? ⟨b, 2, none⟩ = some (.int .i64 ((x : Int) + 1)) := (hB.cell (p := ⟨b, 2, none⟩) hbG).trans hc2
      have r0 := (hR 0 _ rfl).1
      have hlen : ((toldB nl (numsD pre)).map bV).length = nl := by rw [List.length_map, toldB_length]
      obtain ⟨v0, hv0⟩ : ∃ v0, ((toldB nl (numsD pre)).map bV)[x]? = some v0 := ⟨_, List.getElem?_eq_getElem (by omega)⟩
      have k0 := (hV x v0 hv0).1
      have f0 := (hV x v0 hv0).2
      have i2 : (x : Int) < (nl : Int) := by omega
      have hmx : Try.prog.follows .mixedOrders = true := by kernel_rfl
      have HQ : Hid (Vec (W.setCell ⟨G, x, none⟩ (.bool true)) G ((toldB nl (numsD (pre ++ [⟨x, hx⟩]))).map bV) ∧ Vec (W.setCell ⟨G, x, none⟩ (.bool true)) (G + 1) [.slice (some ⟨G, 0, none⟩) nl nl] ∧ Below G w1 (W.setCell ⟨G, x, none⟩ (.bool true)) ∧ Below G W (W.setCell ⟨G, x, none⟩ (.bool true))) := by
        refine ⟨?_, hR.far (p := ⟨G, x, none⟩) (by show G ≠ G + 1; omega) _, hB.setCell (p := ⟨G, x, none⟩) (Nat.le_refl _) _, (Below.refl _ _).setCell (p := ⟨G, x, none⟩) (Nat.le_refl _) _⟩
        have := hV.put x (by omega) (bV true)
        rw [← List.map_set, toldB_set hx] at this
        rw [show numsD (pre ++ [⟨x, hx⟩]) = numsD pre ++ [x] from List.map_append]
        exact this
      obtain ⟨K, hK⟩ : ∃ K : Int, (x : Int) + 1 = K := ⟨_, rfl⟩
      rw [hK] at c2
      have hk1 : IntKind.i64.wrap (K - 1) = (x : Int) := by rw [IntKind.wrap_i64]; omega
      rw [hbg]
      clear hV hR hB hv0 hlen hb hbg hc2 HU hK
      gi_wp2
      gi_region_o
      all_goals gi_wp2
      all_goals exact ⟨((KeepsOthers.setCell _ _ _).trans (KeepsOthers.drew _)).from _, ⟨HQ.out.2.2.2.drew, walks_of ((KeepsOthers.setCell _ _ _).trans (KeepsOthers.drew _))⟩, ⟨⟨HQ.out.1.later (xd (xr _)), HQ.out.2.1.later (xd (xr _))⟩, HQ.out.2.2.1.drew⟩⟩
    case done =>
      rintro xs W hS ⟨⟨hV, hR⟩, hB⟩ hK
      have r0 := (hR 0 _ rfl).1
      have HV : Hid (Vec W G ((standR l).map bV)) := by show Vec _ _ _; rw [HF.out, ← hS]; exact hV
      have HLn : Hid ((standR l).length = nl) := by show _ = _; rw [HF.out, toldB_length]
      have XB : Below w.heap.size w W := (e1.trans (hB.mono wG))
      clear hV hS hR
      gi_wp2
      refine ⟨by simp, .inl ⟨_, _, rfl, run_takeDeferred hK, ?_⟩⟩
      refine ⟨_, results_tmp rfl _ _ _, ⟨G, _, rfl, some ⟨G, 0, none⟩, by rw [HLn.out]; rfl, fun _ => rfl, wG, ?_⟩, ?_⟩
      · intro i v hi
        have := HV.out i v hi
        exact ⟨cell_kept this.1 (grownBy_putObj' _ W0.heap.size (.deferred none)) (fun r e => by cases e; exact ⟨_, hK, rfl⟩), (frozen_kept this.1 (grownBy_putObj' _ W0.heap.size (.deferred none)) (fun r e => by cases e; exact ⟨_, hK, rfl⟩)).trans this.2⟩
      · exact XB.trans (belowK_b (w := W0) (by omega) _ W0.heap.size _ _ (Nat.le_refl _) hK rfl rfl)
    case stop =>
      rintro c pre W _ h _
      exact h.elim

end Go.Proofs.Ytmpemgpfjopkgaa
