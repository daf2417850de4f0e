/-
  Chapter 12: the map of groups gone through, what is asked of it: plain and of memory.
-/
import Derived.Test.YtgpfddneablcpaaGreatDoorMg34
import Derived.Test.YtgpfddneablcpaaGreatDoorMg33
import Derived.Deep.RegionLaw
namespace Go.Proofs.YtgpfddneablcpaaGreatDoor
open Go.RowKit

/-- append by its run, as one step of a region that draws. -/
theorem step_append_runG {P : Program} {ops : Array Oper} {o : Oper} {a : Act} {w : World} {K : Act → World → Prop} {Q : Exit → Act → World → Prop} {E : Prop}
  (hg : o.guard = none) (s x : Operand) (t tx : TypeId) (hop : o.op = Op.call { callee := Callee.builtin Builtin.append, args := #[s, x], argTypes := #[t, tx] })
  (v u : Value) (hs : a.eval s = v) (hx : a.eval x = u) (v' : Value) (w' : World) (hrun : (Builtin.append_ #[t, tx] o.type #[v, u]).run P w = .ok v' w') (hK : K (a.put o.dst v') w') :
  if Region.wanted o (yielded ops a.tmps) = true then Oper.wp P o a w K Q else E := by
 have hw : Region.wanted o (yielded ops a.tmps) = true := by simp [Region.wanted, hg]
 rw [if_pos hw]
 unfold Oper.wp
 simp [execOp, hop, resolve, invoke, builtin, hs, hx, hrun, Result.andThen]
 exact hK

theorem RowsQ.off {w w' : World} {base m : Nat} {f : QT → Option GE} {row : Option Nat} (h : RowsQ w base m f) (g : w.grownBy w' row) (hr : ∀ K e, InQ K → f K = some e → row ≠ some e.g) : RowsQ w' base m f :=
 ⟨fun K hK e he => ⟨ownI_far (h.1 K hK e he).1 g (fun k hk q => by rw [sl_block] at hk; cases hk; exact hr K e hK he q.symm), (h.1 K hK e he).2.1, Nat.lt_of_lt_of_le (h.1 K hK e he).2.2 g.size⟩, h.2⟩
theorem ext_none {w u : World} (x : Ext w u) : w.grownBy u none := ⟨x.os, x.tape, x.output, x.size, fun i hi _ => x.block i hi⟩
/-- One of a list taken out, by its key. -/
theorem pickJ {g : Nat → QT} {J : List Nat} (h : J.Pairwise fun a b => kqOf (g a) ≠ kqOf (g b)) {i : Nat} (hi : i ∈ J) : J.Perm (i :: J.filter fun j => !isKq (g j) (kqOf (g i))) := by
 induction J with
 | nil => cases hi
 | cons x J ih =>
  obtain ⟨h1, h2⟩ := List.pairwise_cons.1 h
  rw [List.filter_cons]
  rcases List.mem_cons.1 hi with rfl | hi
  ·
   rw [isKq_iff.2 rfl]
   have : (J.filter fun j => !isKq (g j) (kqOf (g i))) = J := List.filter_eq_self.2 fun j hj => by rw [isKq_false.2 (h1 j hj).symm]; rfl
   rw [this]
   exact List.Perm.refl _
  ·
   rw [isKq_false.2 (h1 i hi)]
   exact ((ih h2 hi).cons x).trans (List.Perm.swap _ _ _)
/-- What the map has under a group's key. -/
theorem GrpF.entry {κ : Nat → List VT} {y : Nat} {f : QT → Option GE} {T : List QT} (h : GrpF κ y f T) {i : Nat} (hi : i ∈ firstsG κ y) : ∃ e, f (quadOf (κ i)) = some e ∧ e.ns = rowsG κ y i ∧ ∃ r, e.ns = i :: r := by
 obtain ⟨h1, h2⟩ := firstsG_mem.1 hi
 obtain ⟨r, hr⟩ := rowsG_head h2 y h1
 have hn := h.2 i
 unfold nsQ at hn
 cases hf : f (quadOf (κ i)) with
 | none => rw [hf, hr] at hn; cases hn
 | some e =>
  rw [hf] at hn
  have hn2 : e.ns = rowsG κ y i := hn
  exact ⟨e, rfl, hn2, r, by rw [hn2, hr]⟩
/-- Groups in order, out of groups of which none comes behind. -/
theorem ord_of {l : List VT} (h : ∀ e ∈ l, e.good = true) {c : Nat} {cols : List Nat} {n : Nat} {F : Nat → List VT × List Nat} (hF : ∀ i, (F i).1 = keyG l c cols i) {I Ix : List Nat} {M : List GG} (p : I.Perm (firstsG (kapG l c cols) n)) (q : Ix.Perm I) (e : Ix.map F = M.map GG.told) (s : M.Pairwise fun x y => 0 ≤ lexG y.K x.K) :
  OrdG l c cols n Ix := by
 refine ⟨q.trans p, ?_⟩
 have s1 : (M.map GG.told).Pairwise fun a b => 0 ≤ lexG b.1 a.1 := List.pairwise_map.2 s
 rw [← e, List.pairwise_map] at s1
 have nd : Ix.Nodup := (q.trans p).nodup_iff.2 (firstsG_nodup _ _)
 have mem : ∀ i ∈ Ix, i ∈ firstsG (kapG l c cols) n := fun i hi => (q.trans p).mem_iff.1 hi
 refine List.Pairwise.imp_of_mem (fun {a b} ha hb hab => ?_) (s1.and nd)
 obtain ⟨h1, h2⟩ := hab
 rw [hF, hF] at h1
 have hne : kapG l c cols a ≠ kapG l c cols b := fun z => h2 (firstsG_one (mem a ha) (mem b hb) z)
 rcases lessG_tot h c cols a b hne with z | z
 ·
  exact z
 ·
  unfold lessG at z
  have := of_decide_eq_true z
  omega
theorem ownW_grok {w : World} {base blk : Nat} {x : GG} (h : OwnW w base x.kv x.K) (hb : x.kv.ownBlock ≠ some blk) (hg : ∀ e ∈ x.K, e.good = true ∧ e.room) (hl : x.K.length ≤ 2000) : GrOK w blk x := by
 obtain ⟨p, cap, h1, h2, h3⟩ := ownW_vals h
 refine ⟨⟨p, cap, h1, h2, fun h0 => ?_⟩, hg, hl⟩
 obtain ⟨b, o, rfl, hr⟩ := h3 h0
 refine ⟨b, o, rfl, fun q => hb ?_, hr⟩
 subst q
 rcases h.2 with ⟨e9, _⟩ | ⟨g, cap', cur, e9, _⟩
 ·
  rw [h1] at e9; cases e9
 ·
  rw [h1] at e9
  cases e9
  rw [h1]
  rfl
/-- The group that is found next. -/
theorem LieG.next {w w4 : World} {r m : Nat} {v : Value} {L : List GG} (h : LieG w (r + 1) m v L) (E : Ext w w4) (e : GE) (K : List VT) (sv : Value) (hk : OwnW w4 w.heap.size sv K) (hr : OwnI w m e.sl e.ns) (her : e.g < r) (hrw : r < w.heap.size)
  (hx : ∀ y ∈ L, y.e.g ≠ e.g ∧ y.e.g < r) (hl : L.length ≤ 1000000) :
  ∃ v' w', (Builtin.append_ #[27, 27] 27 #[v, .slice (some ⟨w4.heap.size, 0, none⟩) 1 1]).run Tryz.prog (w4.alloc (.cells #[sv, e.sl] 57)) = .ok v' w' ∧ LieG w' (r + 1) m v' (L ++ [⟨sv, K, e⟩]) ∧ (w4.alloc (.cells #[sv, e.sl] 57)).grownBy w' v.ownBlock := by
 have X1 := x1 w4 (.cells #[sv, e.sl] 57)
 have V := vec_made w4 [sv, e.sl] 57
 have h4 := h.later (xt E X1)
 have hs := E.size
 have kb := ownW_block hk
 have kl := ownW_lt hk
 have lv : ∀ g, v.ownBlock = some g → r + 1 ≤ g ∧ g < w.heap.size := fun g hg => ⟨ownG_block h.list g hg, ownsRow_ltG h.list g hg⟩
 refine LieG.add h4 ⟨sv, K, e⟩ (ownW_base (ownW_later hk X1) (by omega)) (ownsRow_laterG hr (xt E X1)) ⟨fun q => ?_, fun g hg => ⟨fun q => ?_, fun q => ?_⟩⟩ (fun y hy => ⟨fun b hb => ⟨fun q => ?_, fun q => ?_⟩, fun b hb q => ?_, fun q => ?_⟩) w4.heap.size V hl (by have := X1.size; omega)
 ·
  have := kb _ q
  have : w.heap.size ≤ e.g := this
  omega
 ·
  have := kb _ q; have := lv g hg; omega
 ·
  have := lv g hg; have : e.g = g := q; omega
 ·
  have := kb _ q; have := ownsRow_ltG (h.keys y hy) b hb; omega
 ·
  have := ownW_block (h.keys y hy) b hb; have : e.g = b := q; omega
 ·
  have := kb _ hb; have := (hx y hy).2; omega
 ·
  exact (hx y hy).1 q
theorem keyG_fine {l : List VT} (h : ∀ e ∈ l, e.good = true ∧ e.room) (c : Nat) (cols : List Nat) (i : Nat) : ∀ e ∈ keyG l c cols i, e.good = true ∧ e.room := fun e he => by
 unfold keyG at he
 obtain ⟨j, _, rfl⟩ := List.mem_map.1 he
 by_cases hj : i * c + (j - 1) < l.length
 ·
  exact h _ (cel_mem hj)
 ·
  have : cel l (i * c + (j - 1)) = zeroVT := by unfold cel; rw [List.getD_eq_getElem?_getD, List.getElem?_eq_none (by omega)]; rfl
  rw [this]
  exact ⟨by decide, by decide, by decide, by decide⟩
theorem told_mem {L : List GG} {I : List Nat} {F : Nat → List VT × List Nat} (h : L.map GG.told = I.map F) {x : GG} (hx : x ∈ L) : ∃ i ∈ I, x.told = F i := by
 have : x.told ∈ I.map F := by rw [← h]; exact List.mem_map.2 ⟨x, hx, rfl⟩
 obtain ⟨i, hi, he⟩ := List.mem_map.1 this
 exact ⟨i, hi, he.symm⟩
set_option maxRecDepth 20000 in
/-- What is left when one more is found. -/
theorem TodoQ.pick {left : Lit → Bool} {g : Nat → QT} {J : List Nat} (h : TodoQ left (J.map g)) {i : Nat} (hi : i ∈ J) (hI : InQ (g i)) : TodoQ (fun z => left z && !z.sameKey (kqOf (g i))) ((J.filter fun j => !isKq (g j) (kqOf (g i))).map g) ∧ J.Perm (i :: J.filter fun j => !isKq (g j) (kqOf (g i))) := by
 have h1 := h.next hI
 rw [List.filter_map] at h1
 have h2 := h.1
 rw [List.pairwise_map] at h2
 exact ⟨h1, pickJ h2 hi⟩
theorem first_cell {w : World} {b : Nat} {e : GE} {i : Nat} {q : List Nat} (h : OwnI w b e.sl e.ns) (he : e.ns = i :: q) : w.cell? ⟨e.g, 0, none⟩ = some (.int .i64 i) ∧ 0 < e.ns.length := by
 have hl : 0 < e.ns.length := by rw [he]; simp
 obtain ⟨p, cap, h1, _, h3⟩ := ownI_nums h
 obtain ⟨g, rfl, hv⟩ := h3 hl
 cases h1
 refine ⟨(hv 0 (numV i) ?_).1, hl⟩
 rw [he]
 rfl
/-- The map as it begins to be gone through. -/
theorem range_start {w2 wr : World} {m y n : Nat} {κ : Nat → List VT} (HI : ∃ f T, MapQ wr m y f T ∧ RowsQ wr m m f ∧ GrpF κ y f T ∧ Ext w2 wr) (HNK : ∀ i, (κ i).length = n) (h4 : n ≤ 4) (HKA : ∀ i, ∀ e ∈ κ i, InK e) :
  ∃ (f : QT → Option GE) (T : List QT) (D : DataW Unit) (w0 : World), (Instr.range 47 (.map (some m))).run Tryz.prog wr = .ok (.pointer (some ⟨wr.heap.size, 0, none⟩)) w0 ∧ w0.ranges Tryz.prog 52 glR m wr.heap.size y D (Maps.has D) (Maps.size D) ∧ TodoQ (Maps.has D) ((firstsG κ y).map fun i => quadOf (κ i)) ∧ HoldsQ D f T ∧
   (∀ i ∈ firstsG κ y, ∃ e, f (quadOf (κ i)) = some e ∧ e.ns = rowsG κ y i ∧ (∃ q, e.ns = i :: q) ∧ e.g < wr.heap.size) ∧ (∀ i ∈ firstsG κ y, ∀ j ∈ firstsG κ y, ∀ e q, f (quadOf (κ i)) = some e → f (quadOf (κ j)) = some q → i ≠ j → e.g ≠ q.g) ∧ RowsQ w0 m m f ∧ Ext w2 w0 ∧ m < wr.heap.size ∧ wr.heap.size < w0.heap.size ∧ (∀ K e, InQ K → f K = some e → e.g < wr.heap.size) := by
 obtain ⟨f, T, ⟨D, hD, hH⟩, hRQ, hGF, hX2⟩ := HI
 have HIN : ∀ i, InQ (quadOf (κ i)) := fun i => quadOf_in (HKA i)
 have TS := TodoQ.start hH (hGF.apart HNK h4) (fun K hK => by
  rw [hGF.1] at hK
  obtain ⟨i, _, rfl⟩ := List.mem_map.1 hK
  exact HIN i)
 rw [hGF.1] at TS
 obtain ⟨w0, hrun0, hrg0, hg0, hs0⟩ := hD.range quadK mapQ_type
 refine ⟨f, T, D, w0, hrun0, hrg0, TS, hH, fun i hi => ?_, fun i hi j hj e q he hq hne => ?_, hRQ.off hg0 (fun K e _ _ q => by cases q), ext_grownJ hX2 hg0 (fun k hk => by cases hk), hD.lt, by omega, fun K e hK he => (hRQ.1 K hK e he).2.2⟩
 ·
  obtain ⟨e, a1, a2, a3⟩ := hGF.entry hi
  exact ⟨e, a1, a2, a3, (hRQ.1 _ (HIN i) e a1).2.2⟩
 ·
  refine hRQ.2 _ _ e q (HIN i) (HIN j) (fun z => hne ?_) he hq
  exact firstsG_one hi hj (quadOf_inj (by rw [HNK, HNK]) (by rw [HNK]; exact h4) z)
/-- What stays as it was when one more group is found. -/
theorem range_done {w1 W w2 w9 : World} {m r y cnt : Nat} {D : DataW Unit} {left : Lit → Bool} {f : QT → Option GE} {o : Obj} {lb : Option Nat} (hrg : w1.ranges Tryz.prog 52 glR m r y D left cnt) (E : Ext w1 W) (G : (W.alloc o).grownBy w9 lb) (hlb : ∀ k, lb = some k → r + 1 ≤ k) (hmr : m < r) (hw2 : w2.heap.size = m)
  (HR : RowsQ w1 m m f) (HF : ∀ K e, InQ K → f K = some e → e.g < r) (X : Ext w2 w1) (r1 : r < w1.heap.size) : w9.ranges Tryz.prog 52 glR m r y D left cnt ∧ RowsQ w9 m m f ∧ Ext w2 w9 ∧ r < w9.heap.size := by
 have E9 := xt E (x1 W o)
 have h1 := hrg.kept (ext_none E9) (by simp) (by simp)
 refine ⟨h1.kept G (fun q => ?_) (fun q => ?_), (HR.later E9).off G (fun K e hK he z => ?_), ext_grownJ (xt X E9) G (fun k hk => ?_), ?_⟩
 ·
  have := hlb m q.symm; omega
 ·
  have := hlb r q.symm; omega
 ·
  have := hlb _ z; have := HF K e hK he; omega
 ·
  have := hlb k hk; omega
 ·
  have := E9.size; have := G.size; omega

end Go.Proofs.YtgpfddneablcpaaGreatDoor

