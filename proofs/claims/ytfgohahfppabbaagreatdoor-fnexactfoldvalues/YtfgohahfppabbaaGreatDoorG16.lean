/-
  Chapter 12: howMany over slices.Values.
-/
import Derived.Test.YtfgohahfppabbaaGreatDoorG15
namespace Go.Proofs.YtfgohahfppabbaaGreatDoor
open Go.RowKit Go.Shelf

attribute [local go_sem] Oper.semAt_some

/-- A block of cells. -/
def BoxN (W : World) (B : Nat) (t : TypeId) (l : List Value) : Prop := W.heap[B]? = some (.cells l.toArray t (0, 0))
theorem BoxN.lt {W : World} {B : Nat} {t : TypeId} {l : List Value} (h : BoxN W B t l) : B < W.heap.size := (Array.getElem?_eq_some_iff.1 h).1
theorem BoxN.vec {W : World} {B : Nat} {t : TypeId} {l : List Value} (h : BoxN W B t l) : Vec W B l := by
 intro i v hi
 have hb : W.heap[B]? = _ := h
 refine ⟨?_, ?_⟩
 ·
  unfold World.cell?
  simp only [hb]
  simpa using hi
 ·
  unfold World.frozen?
  simp only [hb]
  simp
theorem BoxN.kept {W W' : World} {B : Nat} {t : TypeId} {l : List Value} {row : Option Nat} (h : BoxN W B t l) (hg : W.grownBy W' row) (hr : some B ≠ row) : BoxN W' B t l := (hg.block B h.lt hr).trans h
theorem BoxN.alloc {W : World} {B : Nat} {t : TypeId} {l : List Value} (h : BoxN W B t l) (o : Obj) : BoxN (W.alloc o) B t l := h.kept (World.grownBy_alloc W o none) (by simp)
theorem BoxN.new (W : World) (t : TypeId) (l : List Value) : BoxN (W.alloc (.cells l.toArray t)) W.heap.size t l := World.alloc_heap_new W _
theorem BoxN.ext {W W' : World} {B : Nat} {t : TypeId} {l : List Value} (h : BoxN W B t l) (x : Ext W W') : BoxN W' B t l := (x.block B h.lt).trans h
theorem boxN_own {β : Type} (B : Nat) (t : TypeId) (f : β → List Value) : Own (fun s W => BoxN W B t (f s)) := fun s X Y row hs hg hrow =>
 hs.kept hg (fun e' => by obtain ⟨o, ho, hc⟩ := hrow B e'.symm; rw [show X.heap[B]? = _ from hs] at ho; cases ho; cases hc)
theorem BoxN.other {W : World} {B B' : Nat} {t : TypeId} {l : List Value} (h : BoxN W B t l) (hne : B ≠ B') (u : Value) : BoxN (W.setCell ⟨B', 0, none⟩ u) B t l := h.kept (grownBy_setCell' W B' u) (fun e => hne (by cases e; rfl))
theorem fullN_snoc (l : List VT) (e : VT) : fullN (l ++ [e]) = fullN l + (if (e.k != 0) = true then 1 else 0) := by
 unfold fullN
 rw [List.filter_append, List.length_append]
 congr 1
 by_cases h : (e.k != 0) = true
 ·
  rw [if_pos h]; simp [h]
 ·
  rw [if_neg h]; simp [h]
theorem fullN_le' (l : List VT) : fullN l ≤ l.length := List.length_filter_le _ _
set_option maxRecDepth 100000 in
set_option maxHeartbeats 4000000 in
theorem countsAll : CountsAll := by
 intro B p n cap l w hB hV hl hT
 have hnl : l.length = n := by obtain ⟨_, _, e, _⟩ := hV; cases e; rfl
 have hVB : ValsBelow w.heap.size w (.slice p n cap) l := by
  obtain ⟨p', c', e, h2, h3⟩ := hV
  refine ⟨p', c', e, h2, fun h0 => ?_⟩
  obtain ⟨b, o, h4, h5⟩ := h3 h0
  obtain ⟨x, hx⟩ : ∃ x, l[0]? = some x := ⟨_, List.getElem?_eq_getElem h0⟩
  exact ⟨b, o, h4, World.block_lt_of_cell? _ _ (h5 0 x hx 0 _ rfl), h5⟩
 have hBl : B < w.heap.size := World.block_lt_of_cell? _ _ hB
 refine (callsIn_wide (n := 5)).1 ?_
 refine callsIn_of_wp_marks Tryz.func20 rfl trivial ?_ rfl
 simp only [Tryz.ntmps20, List.size_toArray, List.length_cons, List.length_nil, Nat.reduceAdd, Nat.reduceSub, Array.replicate_succ, Array.replicate_zero, List.push_toArray, List.append_toArray, List.nil_append, List.cons_append]
 gi_wp2
 have bC : BoxN (((w.alloc (.cells #[fnV 22] 39)).alloc (.cells #[.int .i64 0, .bool false, .int .i64 0, .int .i64 0, sV []] 27)).alloc (.cells #[.int .i64 0] 3)) w.heap.size 39 [fnV 22] := ((BoxN.new w _ [fnV 22]).alloc _).alloc _
 have bR : BoxN (((w.alloc (.cells #[fnV 22] 39)).alloc (.cells #[.int .i64 0, .bool false, .int .i64 0, .int .i64 0, sV []] 27)).alloc (.cells #[.int .i64 0] 3)) (w.heap.size + 1) 27 (valL 0 false 0 0 []) := by
  have := (BoxN.new (w.alloc (.cells #[fnV 22] 39)) 27 (valL 0 false 0 0 [])).alloc (.cells #[.int .i64 0] 3)
  rw [World.size_alloc] at this
  exact this
 have bN : BoxN (((w.alloc (.cells #[fnV 22] 39)).alloc (.cells #[.int .i64 0, .bool false, .int .i64 0, .int .i64 0, sV []] 27)).alloc (.cells #[.int .i64 0] 3)) (w.heap.size + 1 + 1) 3 [.int .i64 (fullN [] : Nat)] := by
  have := BoxN.new ((w.alloc (.cells #[fnV 22] 39)).alloc (.cells #[.int .i64 0, .bool false, .int .i64 0, .int .i64 0, sV []] 27)) 3 [.int .i64 0]
  rw [World.size_alloc, World.size_alloc] at this
  exact this
 have hB0 : Below w.heap.size w (((w.alloc (.cells #[fnV 22] 39)).alloc (.cells #[.int .i64 0, .bool false, .int .i64 0, .int .i64 0, sV []] 27)).alloc (.cells #[.int .i64 0] 3)) := (((Below.refl _ w).alloc (Nat.le_refl _) _).alloc (by simp) _).alloc (by simp; omega) _
 have hsz : (((w.alloc (.cells #[fnV 22] 39)).alloc (.cells #[.int .i64 0, .bool false, .int .i64 0, .int .i64 0, sV []] 27)).alloc (.cells #[.int .i64 0] 3)).heap.size = w.heap.size + 3 := by simp
 obtain ⟨W0, hW0⟩ : ∃ W0, ((w.alloc (.cells #[fnV 22] 39)).alloc (.cells #[.int .i64 0, .bool false, .int .i64 0, .int .i64 0, sV []] 27)).alloc (.cells #[.int .i64 0] 3) = W0 := ⟨_, rfl⟩
 change (Code.rangeFunc _ _ _ _).wpIn _ _ _ _ _ (((w.alloc (.cells #[fnV 22] 39)).alloc (.cells #[.int .i64 0, .bool false, .int .i64 0, .int .i64 0, sV []] 27)).alloc (.cells #[.int .i64 0] 3))
 rw [hW0] at bC bR bN hB0 hsz ⊢
 clear hW0
 refine wpIn_rangeFunc_ownH (α := VT) rfl (by omega) (gf := 47) (lb := #[.pointer (some ⟨B, 0, none⟩)]) rfl trivial (enters_of Tryz.func47 (by kernel_rfl) rfl)
  (valsV_stops Fence.wide (5 - 1) trivial rfl (by omega) B w.heap.size (.slice p n cap) l hl W0 (by omega) (by omega) ((hB0.cell (p := ⟨B, 0, none⟩) hBl).trans hB) (hVB.below hB0)) belowK_t (belowK_b (by omega)) (Below.refl _ _) (fun _ => rfl)
  (fun pre W => ((BoxN W w.heap.size 39 [fnV 22] ∧ BoxN W (w.heap.size + 1) 27 (valL 0 false 0 0 [])) ∧ BoxN W (w.heap.size + 1 + 1) 3 [.int .i64 (fullN pre : Nat)]) ∧ Below w.heap.size w W)
  (fun _ _ _ => False)
  (OwnFrom.and (OwnFrom.and (OwnFrom.and (Own.from (boxN_own _ _ (fun _ : List VT => [fnV 22])) _) (Own.from (boxN_own _ _ (fun _ : List VT => valL 0 false 0 0 [])) _)) (Own.from (boxN_own _ _ (fun pre : List VT => [Value.int .i64 (fullN pre : Nat)])) _)) (ownFrom_below (Nat.le_refl _) (by omega)))
  (fun _ _ _ _ _ hs _ _ => hs)
  ⟨⟨⟨bC, bR⟩, bN⟩, hB0⟩
  (fun x a' W => ∃ Bx, w.heap.size + 1 + 1 < Bx ∧ BoxN W Bx 27 (valL x.k x.n x.d x.x x.t) ∧ a' = { tmps := #[.func (.func 47) #[] #[.pointer (some ⟨B, 0, none⟩)], fnV 22, undef, .pointer (some ⟨w.heap.size, 0, none⟩), .pointer (some ⟨w.heap.size + 1, 0, none⟩), .pointer (some ⟨w.heap.size + 1 + 1, 0, none⟩), .pointer (some ⟨Bx, 0, none⟩), .func (.func 47) #[] #[.pointer (some ⟨B, 0, none⟩)], x.val, undef, undef, undef, undef, undef, undef, undef], defers := [] })
  (fun x a' _ X Y row hs hg hr => by obtain ⟨Bx, h1, h2, h3⟩ := hs; exact ⟨Bx, h1, boxN_own Bx 27 (fun (_ : Unit) => valL x.k x.n x.d x.x x.t) () X Y row h2 hg (fun r e => (hr r e).2), h3⟩)
  ?assign ?body ?done ?stop
 case assign =>
  rintro l' pre x W K ⟨⟨⟨bC1, bR1⟩, bN1⟩, hB1⟩ hK
  have hKK := hK { tmps := #[.func (.func 47) #[] #[.pointer (some ⟨B, 0, none⟩)], fnV 22, undef, .pointer (some ⟨w.heap.size, 0, none⟩), .pointer (some ⟨w.heap.size + 1, 0, none⟩), .pointer (some ⟨w.heap.size + 1 + 1, 0, none⟩), .pointer (some ⟨W.heap.size, 0, none⟩), .func (.func 47) #[] #[.pointer (some ⟨B, 0, none⟩)], x.val, undef, undef, undef, undef, undef, undef, undef], defers := [] } (W.alloc (.cells #[.int .i64 x.k, .bool x.n, .int .i64 x.d, .int .i64 x.x, sV x.t] 27))
   ((KeepsOthers.alloc _ _).from _) ((Below.refl _ W).alloc hB1.size _) ⟨⟨⟨bC1.alloc _, bR1.alloc _⟩, bN1.alloc _⟩, hB1.alloc hB1.size _⟩ ⟨W.heap.size, bN1.lt, BoxN.new W 27 (valL x.k x.n x.d x.x x.t), rfl⟩
  clear hK
  obtain ⟨xk, xn, xd', xx, xt'⟩ := x
  gi_wp2
  exact hKK
 case body =>
  rintro l' pre x a' W hl' ⟨r, hr⟩ ⟨⟨⟨bC1, bR1⟩, bN1⟩, hB1⟩ ⟨Bx, hBx, bX, rfl⟩ hlt
  have cC := (bC1.vec 0 _ rfl).1
  have cN := (bN1.vec 0 _ rfl).1
  have fN := (bN1.vec 0 _ rfl).2
  have FC := fullF x W
  have hm : fullN pre ≤ 2000 := by have := fullN_le' pre; omega
  have HQ : Hid (fullN (pre ++ [x]) = fullN pre + (if (x.k != 0) = true then 1 else 0)) := fullN_snoc pre x
  obtain ⟨m, hmm⟩ : ∃ m, fullN pre = m := ⟨_, rfl⟩
  rw [hmm] at cN hm HQ bN1
  obtain ⟨q, hq⟩ : ∃ q, (x.k != 0) = q := ⟨_, rfl⟩
  rw [hq] at FC HQ
  obtain ⟨xk, xn, xd', xx, xt'⟩ := x
  obtain ⟨k0, k1, k2, k3, k4⟩ := Vec.five bX.vec
  clear hq hmm
  cases q
  ·
   gi_wp2_with (refine ⟨trivial, ?_⟩; gi_at_call 22; refine (CallsIn.inRound l' (callsIn_wide.2 FC)).mono ?_; rintro e w1 ⟨rfl, e1⟩)
   have G1 : W.grownBy w1 none := ⟨e1.os, e1.tape, e1.output, e1.size, fun k hk _ => e1.block k hk⟩
   have e0 : fullN (pre ++ [⟨xk, xn, xd', xx, xt'⟩]) = m := by rw [HQ.out]; rfl
   exact ⟨KeepsFrom.of_grownBy G1 (fun j e => by cases e), e1.mono hB1.size, ⟨⟨⟨bC1.ext e1, bR1.ext e1⟩, by rw [e0]; exact bN1.ext e1⟩, hB1.trans (e1.mono hB1.size)⟩⟩
  ·
   gi_wp2_with (refine ⟨trivial, ?_⟩; gi_at_call 22; refine (CallsIn.inRound l' (callsIn_wide.2 FC)).mono ?_; rintro e w1 ⟨rfl, e1⟩; have cN1 := cell_later e1 cN; have fN1 := frozen_later e1 cN fN)
   have G1 : W.grownBy w1 none := ⟨e1.os, e1.tape, e1.output, e1.size, fun k hk _ => e1.block k hk⟩
   have e0 : fullN (pre ++ [⟨xk, xn, xd', xx, xt'⟩]) = m + 1 := by rw [HQ.out]; rfl
   have bN2 : Boxed w1 (w.heap.size + 1 + 1) 3 (.int .i64 m) := bN1.ext e1
   have hBW := hB1.trans (e1.mono hB1.size)
   exact ⟨(KeepsFrom.of_grownBy G1 (fun j e => by cases e)).trans ((KeepsOthers.setCell _ _ _).from _), (e1.mono hB1.size).setCell (p := ⟨w.heap.size + 1 + 1, 0, none⟩) (by simp; omega) _,
    ⟨⟨⟨(bC1.ext e1).other (by omega) _, (bR1.ext e1).other (by omega) _⟩, by rw [e0]; exact bN2.set _⟩, hBW.setCell (p := ⟨w.heap.size + 1 + 1, 0, none⟩) (by simp; omega) _⟩⟩
 case done =>
  rintro D ys W hD rfl ⟨⟨⟨bC1, bR1⟩, bN1⟩, hB1⟩ hK
  have cN := (bN1.vec 0 _ rfl).1
  have CC := countI (fullN ys) W (by have := fullN_le' ys; omega) (hT.later hB1)
  obtain ⟨m, hm⟩ : ∃ m, fullN ys = m := ⟨_, rfl⟩
  rw [hm] at cN CC
  obtain ⟨⟨k2, n2, d2, x2, t2⟩, hc⟩ : ∃ r, cntT m = r := ⟨_, rfl⟩
  have HR : Hid ((cntT (fullN ys)).val = valV k2 n2 d2 x2 t2) := by show _ = _; rw [hm, hc]
  rw [hc] at CC
  clear hc
  gi_wp2_with (refine ⟨trivial, ?_⟩; gi_at_call 46; refine (callsIn_wide.2 CC).mono ?_; rintro e w1 ⟨rfl, e1⟩; obtain ⟨wy, hy, FX, ⟨b0, b1, b2, b3, b4⟩, ⟨fb0, fb1, fb2, fb3, fb4⟩, fd0, fd1, fd2, fd3, fd4⟩ := fin5 (bR1.vec.later e1) (hB1.trans (e1.mono hB1.size)) (by omega) k2 n2 d2 x2 t2)
  have hDl : D < W.heap.size := (Array.getElem?_eq_some_iff.1 hK).1
  have hK1 : w1.heap[D]? = some (.deferred (some [])) := (e1.block D hDl).trans hK
  have hK2 : wy.heap[D]? = some (.deferred (some [])) := by
   rw [← hy, heap_setCell_other _ _ _ _ (by show D ≠ w.heap.size + 1; omega), heap_setCell_other _ _ _ _ (by show D ≠ w.heap.size + 1; omega), heap_setCell_other _ _ _ _ (by show D ≠ w.heap.size + 1; omega), heap_setCell_other _ _ _ _ (by show D ≠ w.heap.size + 1; omega), heap_setCell_other _ _ _ _ (by show D ≠ w.heap.size + 1; omega)]
   exact hK1
  have kp : ∀ c v, wy.cell? ⟨w.heap.size + 1, c, none⟩ = some v → (wy.putObj D (.deferred none)).cell? ⟨w.heap.size + 1, c, none⟩ = some v := fun c v h => cell_kept h (grownBy_putObj' _ D (.deferred none)) (fun r e => by cases e; exact ⟨_, hK2, rfl⟩)
  have g0 := kp _ _ fd0
  have g1 := kp _ _ fd1
  have g2 := kp _ _ fd2
  have g3 := kp _ _ fd3
  have g4 := kp _ _ fd4
  have XF : Below w.heap.size w (wy.putObj D (.deferred none)) := FX.trans (belowK_b (w := w) (Nat.le_refl _) wy D _ _ (by omega) hK2 rfl rfl)
  refine ⟨by simp, .inl ⟨_, _, rfl, run_takeDeferred hK2, ?_⟩⟩
  exact ⟨valV k2 n2 d2 x2 t2, by simp [results, Tryz.results20, go_sem, g0, g1, g2, g3, g4], by rw [HR.out], XF⟩
 case stop =>
  rintro D c pre W _ _ h _
  exact h.elim

end Go.Proofs.YtfgohahfppabbaaGreatDoor

