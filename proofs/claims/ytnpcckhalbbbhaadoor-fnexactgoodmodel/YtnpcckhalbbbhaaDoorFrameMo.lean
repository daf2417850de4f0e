/-
  Models that came in, opened.
-/
import Derived.Test.YtnpcckhalbbbhaaDoorFrame
import Derived.Test.YtnpcckhalbbbhaaDoorZ7
import Derived.Deep.Strs
import Derived.Deep.Slices
import Derived.ChangeSlices
namespace Go.Proofs.YtnpcckhalbbbhaaDoor
open Go.ChangeShapes Go.WideShapes Go.ChangeAt Go.RowKit

theorem trodM_any {H : Type} {enc : TypeId × Value → H} {P : Program} {w : World} {base : Nat} {sp : Nat → Bool} {held : Bool} {fuel : Nat} {t : TypeId} {fs : Array Field} {cs : List Value} {y : DataW H × List MemPlace}
    (ht : P.underlying t = some (.struct fs)) (h : DataW.trod enc P w base sp held fuel t cs = some y) (i : Nat) (f : Field) (hf : fs.toList[i]? = some f) :
    ∃ fuel' y', DataW.trod enc P w base sp held fuel' f.type ((cs.drop f.offset).take (P.cellsOf f.type)) = some y' := by
  cases fuel with
  | zero => simp [DataW.trod] at h
  | succ fuel =>
    simp only [DataW.trod, ht] at h
    split at h
    · obtain ⟨xs, hm, hx⟩ := Option.map_eq_some_iff.1 h
      obtain ⟨b, hb, hf'⟩ := Lib.mapM_at hm i f hf
      exact ⟨fuel, b, hf'⟩
    · cases h
set_option maxRecDepth 100000 in
theorem dec_parts {H : Type} {enc : TypeId × Value → H} {W : World} {base : Nat} {sp : Nat → Bool} {held : Bool} {fuel : Nat} {cs : List Value} {y : DataW H × List MemPlace} (hlen : cs.length = 3)
    (h : DataW.trod enc Tryd.prog W base sp held fuel 55 cs = some y) : ∃ e : DT, cs = e.cells ∧ e.room := by
  obtain ⟨c0, c1, c2, rfl⟩ : ∃ c0 c1 c2, cs = [c0, c1, c2] := by
    match cs, hlen with
    | [c0, c1, c2], _ => exact ⟨c0, c1, c2, rfl⟩
  have k3 : Tryd.prog.cellsOf 3 = 1 := by kernel_rfl
  have k4 : Tryd.prog.cellsOf 4 = 1 := by kernel_rfl
  obtain ⟨z0, z1, z2, n', _, _, g0, g1, g2⟩ := Deep.trod_struct3 Tryd.underlying55 h
  obtain ⟨b1, e1, _⟩ := DataW.trod_bool Tryd.underlying4 g0
  obtain ⟨a2, e2, _, w2⟩ := DataW.trod_int Tryd.underlying3 g1
  obtain ⟨a3, e3, _, w3⟩ := DataW.trod_int Tryd.underlying3 g2
  simp [k3, k4] at e1 e2 e3
  subst e1 e2 e3
  exact ⟨⟨b1, a2, a3⟩, rfl, bounds_i64 w2⟩
set_option maxRecDepth 100000 in
/-- Decimals that came in. -/
theorem decs_of {H : Type} {enc : TypeId × Value → H} {W : World} {v : Value} {fuel : Nat} {y : DataW H × List MemPlace}
    (hf : DataW.trod enc Tryd.prog W 0 (fun _ => true) true fuel 22 [v] = some y) :
    ∃ l : List DT, DecsIn W v l ∧ l.length ≤ maxLen ∧ ∀ e ∈ l, e.room := by
  have kv : Tryd.prog.cellsOf 55 = 3 := by kernel_rfl
  rcases Deep.open_slice Tryd.underlying22 hf with ⟨hcs, hx⟩ | ⟨a, len, cap, m, n', D, Pl, hcs, _, hl, hm, hmm, _, hx⟩
  · simp at hcs
    subst hcs
    exact ⟨[], ⟨none, 0, rfl, Nat.le_refl _, fun h => by simp at h⟩, by simp, by simp⟩
  · simp at hcs
    subst hcs
    simp only [if_true] at hmm
    subst hmm
    have each : ∀ i, i < len → ∃ e : DT, (∀ (c : Nat) (u : Value), e.cells[c]? = some u → W.cell? ((a.add (i * 3)).add c) = some u) ∧ e.room := by
      intro i hi
      obtain ⟨cs', q1, q2⟩ := hx i (by omega)
      rw [kv] at q1
      obtain ⟨_, hlen, hcell⟩ := World.cells?_some q1
      obtain ⟨e, rfl, b1⟩ := dec_parts hlen q2
      refine ⟨e, fun c u hc => ?_, b1⟩
      have := hcell c (DT.cells_lt hc)
      rw [this, hc]
    obtain ⟨q, hq⟩ := @Deep.choose_lt DT ⟨zeroDT⟩ _ _ each
    refine ⟨(List.range len).map q, ⟨some a, m, by simp, by simpa using hl, fun h0 => ?_⟩, by simp; omega, ?_⟩
    · have h0' : 0 < len := by simpa using h0
      obtain ⟨pb, po, spt⟩ := a
      have hc0 := (hq 0 h0').1 0 _ rfl
      have hsp : spt = none := by simpa [Addr.add] using World.cell?_spot hc0
      subst hsp
      refine ⟨pb, po, rfl, fun i e hi c u hc => ?_⟩
      rw [List.getElem?_map] at hi
      obtain ⟨j, hj, rfl⟩ := Option.map_eq_some_iff.1 hi
      have hji : j = i ∧ i < len := by
        rw [List.getElem?_eq_some_iff] at hj
        obtain ⟨hlt, hj⟩ := hj
        simp at hlt hj
        exact ⟨hj.symm, hlt⟩
      obtain ⟨rfl, hlt⟩ := hji
      have := (hq j hlt).1 c u hc
      rw [Addr.add_lit, Addr.add_lit] at this
      exact this
    · intro e he
      obtain ⟨j, hj, rfl⟩ := List.mem_map.1 he
      exact (hq j (by simpa using hj)).2
theorem limit_fields : ∃ fs : Array Field, Tryd.prog.underlying 57 = some (.struct fs) ∧ ∃ f0 f1 f2, fs.toList[0]? = some f0 ∧ fs.toList[1]? = some f1 ∧ fs.toList[2]? = some f2 ∧ (f0.type = 22 ∧ f0.offset = 0) ∧ (f1.type = 9 ∧ f1.offset = 1) ∧ (f2.type = 55 ∧ f2.offset = 2) :=
  ⟨_, Tryd.underlying57, _, _, _, rfl, rfl, rfl, ⟨rfl, rfl⟩, ⟨rfl, rfl⟩, ⟨rfl, rfl⟩⟩
def LT.came (e : LT) : Prop := (e.cf.length ≤ maxLen ∧ e.op.length ≤ maxLen) ∧ (∀ d ∈ e.cf, d.room) ∧ e.rt.room
set_option maxRecDepth 100000 in
theorem limit_parts {H : Type} {enc : TypeId × Value → H} {W : World} {fuel : Nat} {cs : List Value} {y : DataW H × List MemPlace} (hlen : cs.length = 5)
    (h : DataW.trod enc Tryd.prog W 0 (fun _ => true) true fuel 57 cs = some y) : ∃ (e : LT) (cv : Value), cs = [cv, sV e.op, .bool e.rt.ng, .int .i64 e.rt.dg, .int .i64 e.rt.ex] ∧ DecsIn W cv e.cf ∧ e.came := by
  obtain ⟨c0, c1, c2, c3, c4, rfl⟩ : ∃ c0 c1 c2 c3 c4, cs = [c0, c1, c2, c3, c4] := by
    match cs, hlen with
    | [c0, c1, c2, c3, c4], _ => exact ⟨c0, c1, c2, c3, c4, rfl⟩
  have k9 : Tryd.prog.cellsOf 9 = 1 := by kernel_rfl
  have kd : Tryd.prog.cellsOf 55 = 3 := by kernel_rfl
  have ks : Tryd.prog.cellsOf 22 = 1 := by kernel_rfl
  obtain ⟨fs, ht, f0, f1, f2, q0, q1, q2, ⟨t0, o0⟩, ⟨t1, o1⟩, ⟨t2, o2⟩⟩ := limit_fields
  obtain ⟨n0, y0, g0⟩ := trodM_any ht h 0 f0 q0
  rw [t0, o0, ks] at g0
  obtain ⟨n1, y1, g1⟩ := trodM_any ht h 1 f1 q1
  rw [t1, o1, k9] at g1
  obtain ⟨n2, y2, g2⟩ := trodM_any ht h 2 f2 q2
  rw [t2, o2, kd] at g2
  simp at g0 g1 g2
  obtain ⟨l, hd, hl, hr⟩ := decs_of g0
  obtain ⟨s, e1, _, w1⟩ := DataW.trod_string Tryd.underlying9 g1
  obtain ⟨r, e2, hrr⟩ := dec_parts rfl g2
  simp at e1 e2
  obtain ⟨rfl, rfl, rfl⟩ := e2
  subst e1
  exact ⟨⟨l, s.data.toList, r⟩, c0, rfl, hd, ⟨hl, w1⟩, hr, hrr⟩
set_option maxRecDepth 100000 in
/-- Limits that came in. -/
theorem limits_of {H : Type} {enc : TypeId × Value → H} {W : World} {v : Value} {fuel : Nat} {y : DataW H × List MemPlace}
    (hf : DataW.trod enc Tryd.prog W 0 (fun _ => true) true fuel 23 [v] = some y) :
    ∃ l : List LT, LimitsIn W v l ∧ l.length ≤ maxLen ∧ ∀ e ∈ l, e.came := by
  have kv : Tryd.prog.cellsOf 57 = 5 := by kernel_rfl
  rcases Deep.open_slice Tryd.underlying23 hf with ⟨hcs, hx⟩ | ⟨a, len, cap, m, n', D, Pl, hcs, _, hl, hm, hmm, _, hx⟩
  · simp at hcs
    subst hcs
    exact ⟨[], ⟨none, 0, rfl, Nat.le_refl _, fun h => by simp at h⟩, by simp, by simp⟩
  · simp at hcs
    subst hcs
    simp only [if_true] at hmm
    subst hmm
    have each : ∀ i, i < len → ∃ e : LT, (∃ cv, DecsIn W cv e.cf ∧ ∀ (c : Nat) (u : Value), [cv, sV e.op, .bool e.rt.ng, .int .i64 e.rt.dg, .int .i64 e.rt.ex][c]? = some u → W.cell? ((a.add (i * 5)).add c) = some u) ∧ e.came := by
      intro i hi
      obtain ⟨cs', q1, q2⟩ := hx i (by omega)
      rw [kv] at q1
      obtain ⟨_, hlen, hcell⟩ := World.cells?_some q1
      obtain ⟨e, cv, rfl, hd, b1⟩ := limit_parts hlen q2
      refine ⟨e, ⟨cv, hd, fun c u hc => ?_⟩, b1⟩
      have h5 : c < 5 := (List.getElem?_eq_some_iff.1 hc).1
      have := hcell c h5
      rw [this, hc]
    obtain ⟨q, hq⟩ := @Deep.choose_lt LT ⟨⟨[], [], zeroDT⟩⟩ _ _ each
    refine ⟨(List.range len).map q, ⟨some a, m, by simp, by simpa using hl, fun h0 => ?_⟩, by simp; omega, ?_⟩
    · have h0' : 0 < len := by simpa using h0
      obtain ⟨pb, po, spt⟩ := a
      obtain ⟨cv0, _, hc00⟩ := (hq 0 h0').1
      have hc0 := hc00 0 _ rfl
      have hsp : spt = none := by simpa [Addr.add] using World.cell?_spot hc0
      subst hsp
      refine ⟨pb, po, rfl, fun i e hi => ?_⟩
      rw [List.getElem?_map] at hi
      obtain ⟨j, hj, rfl⟩ := Option.map_eq_some_iff.1 hi
      have hji : j = i ∧ i < len := by
        rw [List.getElem?_eq_some_iff] at hj
        obtain ⟨hlt, hj⟩ := hj
        simp at hlt hj
        exact ⟨hj.symm, hlt⟩
      obtain ⟨rfl, hlt⟩ := hji
      obtain ⟨cv, hd, hc⟩ := (hq j hlt).1
      have G : ∀ (c : Nat) (u : Value), [cv, sV (q j).op, .bool (q j).rt.ng, .int .i64 (q j).rt.dg, .int .i64 (q j).rt.ex][c]? = some u → W.cell? ⟨pb, po + j * 5 + c, none⟩ = some u := fun c u h => by
        have := hc c u h
        rw [Addr.add_lit, Addr.add_lit] at this
        exact this
      exact ⟨cv, hd, G 0 _ rfl, G 1 _ rfl, G 2 _ rfl, G 3 _ rfl, G 4 _ rfl⟩
    · intro e he
      obtain ⟨j, hj, rfl⟩ := List.mem_map.1 he
      exact (hq j (by simpa using hj)).2
set_option maxRecDepth 100000 in
/-- Bools that came in. -/
theorem bools_of {H : Type} {enc : TypeId × Value → H} {W : World} {v : Value} {fuel : Nat} {y : DataW H × List MemPlace}
    (hf : DataW.trod enc Tryd.prog W 0 (fun _ => true) true fuel 24 [v] = some y) :
    ∃ l : List Bool, BoolsIn W v l ∧ l.length ≤ maxLen := by
  have kv : Tryd.prog.cellsOf 4 = 1 := by kernel_rfl
  rcases Deep.open_slice Tryd.underlying24 hf with ⟨hcs, hx⟩ | ⟨a, len, cap, m, n', D, Pl, hcs, _, hl, hm, hmm, _, hx⟩
  · simp at hcs
    subst hcs
    exact ⟨[], ⟨none, 0, rfl, Nat.le_refl _, fun h => by simp at h⟩, by simp⟩
  · simp at hcs
    subst hcs
    simp only [if_true] at hmm
    subst hmm
    have each : ∀ i, i < len → ∃ e : Bool, W.cell? ((a.add (i * 1)).add 0) = some (.bool e) := by
      intro i hi
      obtain ⟨cs', q1, q2⟩ := hx i (by omega)
      rw [kv] at q1
      obtain ⟨_, hlen, hcell⟩ := World.cells?_some q1
      obtain ⟨b, e1, _⟩ := DataW.trod_bool Tryd.underlying4 q2
      subst e1
      have := hcell 0 (by omega)
      exact ⟨b, by rw [this]; rfl⟩
    obtain ⟨q, hq⟩ := @Deep.choose_lt Bool ⟨false⟩ _ _ each
    refine ⟨(List.range len).map q, ⟨some a, m, by simp, by simpa using hl, fun h0 => ?_⟩, by simp; omega⟩
    have h0' : 0 < len := by simpa using h0
    obtain ⟨pb, po, spt⟩ := a
    have hc0 := hq 0 h0'
    have hsp : spt = none := by simpa [Addr.add] using World.cell?_spot hc0
    subst hsp
    refine ⟨pb, po, rfl, fun i hi => ?_⟩
    have hi' : i < len := by simpa using hi
    have := hq i hi'
    rw [Addr.add_lit, Addr.add_lit] at this
    rw [show (List.map q (List.range len)).getD i false = q i by simp [List.getD_eq_getElem?_getD, hi']]
    simpa using this
theorem model_fields : ∃ fs : Array Field, Tryd.prog.underlying 26 = some (.struct fs) ∧ ∃ f0 f1 f2, fs.toList[0]? = some f0 ∧ fs.toList[1]? = some f1 ∧ fs.toList[2]? = some f2 ∧ (f0.type = 22 ∧ f0.offset = 0) ∧ (f1.type = 23 ∧ f1.offset = 1) ∧ (f2.type = 24 ∧ f2.offset = 2) :=
  ⟨_, Tryd.underlying26, _, _, _, rfl, rfl, rfl, ⟨rfl, rfl⟩, ⟨rfl, rfl⟩, ⟨rfl, rfl⟩⟩
set_option maxRecDepth 100000 in
/-- A model that came in. -/
theorem open_model {H : Type} {enc : TypeId × Value → H} {W : World} {base : Nat} {v : Value} {d : DataW H} {p : List MemPlace}
    (hv : Value.okWide Tryd.prog W .any base 26 v) (h : DataW.Trod enc Tryd.prog W 0 (fun _ => true) true 26 v d p) :
    ∃ (gv lv wv : Value) (G : List DT) (L : List LT) (B : List Bool), v = modelV gv lv wv ∧ DecsIn W gv G ∧ LimitsIn W lv L ∧ BoolsIn W wv B ∧ G.length ≤ maxLen ∧ L.length ≤ maxLen ∧ B.length ≤ maxLen ∧ (∀ e ∈ G, e.room) ∧ ∀ e ∈ L, e.came := by
  obtain ⟨cs, rfl, hsz⟩ := okWide_struct Tryd.underlying26 hv
  have h3 : cs.size = 3 := hsz.trans (show Tryd.prog.cellsOf 26 = 3 by kernel_rfl)
  obtain ⟨c0, c1, c2, rfl⟩ : ∃ c0 c1 c2, cs = #[c0, c1, c2] := by
    obtain ⟨l⟩ := cs
    match l, h3 with
    | [c0, c1, c2], _ => exact ⟨c0, c1, c2, rfl⟩
  obtain ⟨fuel, hf⟩ := h
  have kd : Tryd.prog.cellsOf 22 = 1 := by kernel_rfl
  have kl : Tryd.prog.cellsOf 23 = 1 := by kernel_rfl
  have kb : Tryd.prog.cellsOf 24 = 1 := by kernel_rfl
  obtain ⟨fs, ht, f0, f1, f2, q0, q1, q2, ⟨t0, o0⟩, ⟨t1, o1⟩, ⟨t2, o2⟩⟩ := model_fields
  obtain ⟨n0, y0, g0⟩ := trodM_any ht hf 0 f0 q0
  rw [t0, o0, kd] at g0
  obtain ⟨n1, y1, g1⟩ := trodM_any ht hf 1 f1 q1
  rw [t1, o1, kl] at g1
  obtain ⟨n2, y2, g2⟩ := trodM_any ht hf 2 f2 q2
  rw [t2, o2, kb] at g2
  simp [Value.cells] at g0 g1 g2
  obtain ⟨G, hg, lg, rg⟩ := decs_of g0
  obtain ⟨L, hl, ll, rl⟩ := limits_of g1
  obtain ⟨B, hb, lb⟩ := bools_of g2
  exact ⟨c0, c1, c2, G, L, B, rfl, hg, hl, hb, lg, ll, lb, rg, rl⟩

end Go.Proofs.YtnpcckhalbbbhaaDoor
