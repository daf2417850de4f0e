/-
  Chapter 14: rows of rows that grow; the plain reading of all rows.
-/
import Derived.Test.YtkjbeciiecljgaaDoorRd5
namespace Go.Proofs.YtkjbeciiecljgaaDoor
open Go.RowKit

theorem plnU_stops (m : UInt8) : ∀ s : List UInt8, (plnU m s).2 = false → stopU m (s.drop (plnU m s).1) = true
  | [], _ => by simp [plnU, stopU]
  | b :: r, h => by
    unfold plnU at h ⊢
    split
    · next hs => simpa using hs
    · next hs =>
      rw [if_neg hs] at h
      split
      · next hb => rw [if_pos hb] at h; cases h
      · next hb =>
        rw [if_neg hb] at h
        have := plnU_stops m r h
        simpa using this
/-- Behind a field one may end. -/
theorem fieldU_stops {m : UInt8} {s f : List UInt8} {n : Nat} (h : fieldU m s = .ok f n) : stopU m (s.drop n) = true := by
  unfold fieldU at h
  split at h
  · split at h
    · cases h
    · split at h
      · next hs => cases h; simpa using hs
      · cases h
  · split at h
    · cases h
    · next hs => cases h; exact plnU_stops m _ (by simpa using hs)
theorem stopU_more {m : UInt8} {s : List UInt8} (h : stopU m s = true) (hn : pfxB s [m] = false) (h0 : s ≠ []) : 1 ≤ endU s := by
  unfold stopU at h
  rw [pfxB_one] at hn
  rw [hn] at h
  have h1 : s.isEmpty = false := by cases s <;> simp at h0 ⊢
  rw [h1] at h
  simp at h
  omega
theorem rowU_lt (m : UInt8) (t : List UInt8) : ∀ (k i : Nat) (row l : List (List UInt8)) (n : Nat), i ≤ t.length → rowU m t k i row = .ok l n → i ≤ n ∧ n ≤ t.length ∧ (i < t.length → i < n) ∧ 1 ≤ l.length ∧ l.length ≤ row.length + (n - i) + 1
  | 0, _, _, _, _, _, h => by simp [rowU] at h
  | k + 1, i, row, l, n, hi, h => by
    unfold rowU at h
    split at h
    · cases h
    · next f n' hf =>
      have h1 := (fieldU_le hf).1
      rw [List.length_drop] at h1
      have h2 := fieldU_stops hf
      rw [List.drop_drop] at h2
      split at h
      · next hp =>
        have h3 : i + n' + 1 ≤ t.length := by
          rw [pfxB_one] at hp
          rcases Nat.lt_or_ge (i + n') t.length with h' | h'
          · omega
          · rw [List.drop_of_length_le h'] at hp; simp at hp
        have := rowU_lt m t k (i + n' + 1) (row ++ [f]) l n h3 h
        rw [List.length_append] at this
        simp only [List.length_singleton] at this
        omega
      · next hp =>
        cases h
        have h4 := (endU_le (t.drop (i + n'))).1
        rw [List.length_drop] at h4
        refine ⟨by omega, by omega, fun hlt => ?_, by simp, by simp⟩
        rcases Nat.lt_or_ge (i + n') t.length with h' | h'
        · have := stopU_more h2 (by simpa using hp) (fun e => by have := congrArg List.length e; rw [List.length_drop] at this; simp at this; omega)
          omega
        · omega
/-- All rows from a place on, behind those that are read. -/
def rowsU (m : UInt8) (t : List UInt8) : Nat → Nat → List (List (List UInt8)) → RU
  | 0, _, rows => ⟨0, 0, rows⟩
  | k + 1, i, rows => if t.length ≤ i then ⟨0, 0, rows⟩ else match rowU m t (t.length - i + 1) i [] with
    | .bad e n => ⟨e, n, []⟩
    | .ok l n => rowsU m t k n (rows ++ [l])

theorem own_lt {w : World} {base sz n : Nat} {e : TypeId} {v : Value} {l : List Value} (h : w.ownsRow base e sz v n l) : ∀ r, v.ownBlock = some r → base ≤ r ∧ r < w.heap.size := by
  intro r hr
  rcases h.2 with ⟨rfl, _⟩ | ⟨g, cap, cur, rfl, h2, h3, _⟩
  · cases hr
  · have : g = r := by simpa [Value.ownBlock] using hr
    subst this
    refine ⟨h2, ?_⟩
    rcases Nat.lt_or_ge g w.heap.size with h' | h'
    · exact h'
    · rw [Array.getElem?_eq_none h'] at h3; cases h3
theorem own_block {w w' : World} {base sz n : Nat} {e : TypeId} {v : Value} {l : List Value} (h : w.ownsRow base e sz v n l) (hx : ∀ r, v.ownBlock = some r → w'.heap[r]? = w.heap[r]?) : w'.ownsRow base e sz v n l := by
  refine ⟨h.1, h.2.imp id ?_⟩
  rintro ⟨g, cap, cur, rfl, h2, h3, h4⟩
  exact ⟨g, cap, cur, rfl, h2, by rw [hx g rfl]; exact h3, h4⟩
theorem own_slice {w : World} {base sz n : Nat} {e : TypeId} {v : Value} {l : List Value} (h : w.ownsRow base e sz v n l) : ∃ p c, v = .slice p n c ∧ n ≤ c := by
  rcases h.2 with ⟨rfl, h0⟩ | ⟨g, cap, cur, rfl, _, _, h3, _⟩
  · exact ⟨none, 0, by rw [h0], by omega⟩
  · exact ⟨_, _, rfl, h3⟩
theorem TxtsOwn.block {w w' : World} {v : Value} {l : List (List UInt8)} {c : Nat} (h : TxtsOwn w v l c) (hx : w'.heap[c]? = w.heap[c]?) : TxtsOwn w' v l c := by
  obtain ⟨p, cap, h1, h2, h3, h4⟩ := h
  refine ⟨p, cap, h1, h2, h3, fun i u hi => ?_⟩
  have := h4 i u hi
  unfold World.cell? World.frozen? at *
  simp only [hx]
  exact this
/-- A row that has grown lies in its block. -/
theorem OwnX.at {w : World} {base : Nat} {v : Value} {l : List (List UInt8)} (h : OwnX w base v l) (h1 : 1 ≤ l.length) : ∃ c, v.ownBlock = some c ∧ TxtsOwn w v l c ∧ base ≤ c ∧ c < w.heap.size := by
  rcases id h.2 with ⟨rfl, h0⟩ | ⟨g, cap, cur, hv, h2, h3, h4, h5⟩
  · omega
  · have hob : v.ownBlock = some g := by rw [hv]; rfl
    refine ⟨g, hob, ⟨_, cap, hv, h4, fun _ => rfl, fun i u hi => ?_⟩, own_lt h g hob⟩
    refine ⟨?_, ?_⟩
    · have := h.cells hob i u hi
      rw [Addr.add_lit, Nat.zero_add] at this
      exact this
    · have h' := h
      rw [hv] at h'
      exact World.ownsRow.frozenAt h' i
/-- Rows of texts of one's own that grow: each lies in a block of its own. -/
def RowsX (w : World) (base : Nat) (v : Value) (L : List (List (List UInt8))) : Prop :=
  ∃ (vs : List Value) (bs : List Nat), w.ownsRow base 30 1 v L.length vs ∧ bs.length = L.length ∧
    (∀ (i : Nat) (u : Value) (l : List (List UInt8)) (c : Nat), vs[i]? = some u → L[i]? = some l → bs[i]? = some c → TxtsOwn w u l c) ∧
    (∀ (i c : Nat), bs[i]? = some c → base ≤ c ∧ c < w.heap.size ∧ v.ownBlock ≠ some c) ∧
    (∀ (i j c : Nat), bs[i]? = some c → bs[j]? = some c → i = j)
theorem RowsX.nil (w : World) (base : Nat) : RowsX w base (.slice none 0 0) [] := ⟨[], [], World.ownsRow_nil _ _ _ _, rfl, fun i u l c h => by simp at h, fun i c h => by simp at h, fun i j c h => by simp at h⟩
theorem RowsX.slice {w : World} {base : Nat} {v : Value} {L : List (List (List UInt8))} (h : RowsX w base v L) : ∃ p c, v = .slice p L.length c ∧ L.length ≤ c := by
  obtain ⟨vs, bs, h1, _⟩ := h
  exact own_slice h1
theorem RowsX.sole {w w' : World} {b base : Nat} {v : Value} {L : List (List (List UInt8))} (h : RowsX w base v L) (x : Sole b w w') (hb : b < base) : RowsX w' base v L := by
  obtain ⟨vs, bs, h1, h2, h3, h4, h5⟩ := h
  refine ⟨vs, bs, own_block h1 fun r hr => x.block r (by have := (own_lt h1 r hr).1; omega) (own_lt h1 r hr).2, h2, fun i u l c hu hl hc => (h3 i u l c hu hl hc).block (x.block c (by have := (h4 i c hc).1; omega) (h4 i c hc).2.1), fun i c hc => ⟨(h4 i c hc).1, Nat.lt_of_lt_of_le (h4 i c hc).2.1 x.size, (h4 i c hc).2.2⟩, h5⟩
theorem infoXs : ∃ inf, Tryd.prog.info? 30 = some inf ∧ inf.zero = some (.slice none 0 0) ∧ inf.size = 1 ∧ inf.bytes = 24 := by
  have h : (Tryd.prog.info? 30).map (fun i => (i.zero, i.size, i.bytes)) = some (some (.slice none 0 0), 1, 24) := by kernel_rfl
  cases h' : Tryd.prog.info? 30 with
  | none => rw [h'] at h; cases h
  | some inf =>
    rw [h'] at h
    simp at h
    exact ⟨inf, rfl, h.1, h.2.1, h.2.2⟩
/-- One more row. -/
theorem RowsX.app {w0 w : World} {b base : Nat} {v u : Value} {L : List (List (List UInt8))} {l : List (List UInt8)} (h : RowsX w0 base v L) (x : Sole b w0 w) (hb : b < base) (O : OwnX w w0.heap.size u l) (h1 : 1 ≤ l.length) (hL : L.length ≤ 1000000) (hbase : base ≤ w0.heap.size) :
    ∃ v' w', (Builtin.append_ #[22, 22] 22 #[v, .slice (some ⟨w.heap.size, 0, none⟩) 1 1]).run Tryd.prog (w.alloc (.cells #[u] 30)) = .ok v' w' ∧ RowsX w' base v' (L ++ [l]) ∧ (w.alloc (.cells #[u] 30)).grownBy w' v.ownBlock ∧ (∀ r, v.ownBlock = some r → base ≤ r) := by
  obtain ⟨c, hc1, hc2, hc3, hc4⟩ := O.at h1
  have h' := h.sole x hb
  obtain ⟨vs, bs, q1, q2, q3, q4, q5⟩ := h
  obtain ⟨inf, hi, hz, hsz, hby⟩ := infoXs
  have EA := x1 w (.cells #[u] 30)
  have SA : (w.alloc (.cells #[u] 30)).heap.size = w.heap.size + 1 := by simp
  have own1 : (w.alloc (.cells #[u] 30)).ownsRow base 30 1 v L.length vs := own_block q1 fun r hr => by
    have hr1 := own_lt q1 r hr
    rw [EA.block r (Nat.lt_of_lt_of_le hr1.2 x.size)]
    exact x.block r (by omega) hr1.2
  have hub : u.oneCell' = true := by
    obtain ⟨p, cc, rfl, _⟩ := own_slice O
    rfl
  obtain ⟨v', w', hrun, O', GW, hbl⟩ := app_srcG (P := Tryd.prog) (w.alloc (.cells #[u] 30)) base 22 22 22 30 inf (.slice none 0 0) Tryd.underlying22 hi hz 1 hsz (by rw [hby]; omega) rfl v L.length vs own1 (.slice (some ⟨w.heap.size, 0, none⟩) 1 1) 1 [u]
    (Src.ofSlice (size := 1) _ Tryd.underlying22 ⟨w.heap.size, 0, none⟩ 1 1 [u] rfl (World.news_of_block (heap_alloc_new w (.cells [u].toArray 30))) (fun u' hu' => by simp at hu'; rw [hu']; exact hub)) (by omega) (by have := x.size; omega)
  have hxs := x.size
  have keep : ∀ k, k < w.heap.size → v.ownBlock ≠ some k → w'.heap[k]? = w.heap[k]? := fun k hk hv => (GW.block k (by omega) (fun e => hv e.symm)).trans (EA.block k hk)
  refine ⟨v', w', hrun, ⟨vs ++ [u], bs ++ [c], ?_, by simp [q2], ?_, ?_, ?_⟩, GW, fun r hr => (own_lt q1 r hr).1⟩
  · rw [List.length_append]
    exact O'
  · intro i u' l' c' hu' hl' hc'
    have hvl : vs.length = L.length := by have := q1.1; omega
    by_cases e : i < L.length
    · rw [List.getElem?_append_left (by omega)] at hu' hl' hc'
      have hk := q4 i c' hc'
      refine ((q3 i u' l' c' hu' hl' hc').block (x.block c' (by omega) hk.2.1)).block (keep c' (by omega) hk.2.2)
    · have hi2 : i = L.length := by have := (List.getElem?_eq_some_iff.1 hl').1; simp at this; omega
      subst hi2
      rw [List.getElem?_append_right (by omega)] at hu' hl' hc'
      rw [hvl] at hu'
      rw [q2] at hc'
      simp at hu' hl' hc'
      subst hu' hl' hc'
      exact hc2.block (keep c hc4 (fun e => by have := (own_lt q1 c e).2; omega))
  · intro i c' hc'
    by_cases e : i < L.length
    · rw [List.getElem?_append_left (by omega)] at hc'
      have hk := q4 i c' hc'
      refine ⟨hk.1, by have := GW.size; omega, fun e2 => ?_⟩
      rcases hbl with hb2 | hb2
      · exact hk.2.2 (hb2 ▸ e2)
      · rw [e2, SA] at hb2
        have := Option.some.inj hb2
        omega
    · have hi2 : i = L.length := by have := (List.getElem?_eq_some_iff.1 hc').1; simp at this; omega
      subst hi2
      rw [List.getElem?_append_right (by omega), q2] at hc'
      simp at hc'
      subst hc'
      refine ⟨by omega, by have := GW.size; omega, fun e2 => ?_⟩
      rcases hbl with hb2 | hb2
      · have := (own_lt q1 c (hb2 ▸ e2)).2
        omega
      · rw [e2, SA] at hb2
        have := Option.some.inj hb2
        omega
  · intro i j c' hi' hj'
    have lt : ∀ i, (bs ++ [c])[i]? = some c' → (i < L.length ∧ bs[i]? = some c') ∨ (i = L.length ∧ c' = c) := fun i hi' => by
      by_cases e : i < L.length
      · rw [List.getElem?_append_left (by omega)] at hi'
        exact .inl ⟨e, hi'⟩
      · have hi2 : i = L.length := by have := (List.getElem?_eq_some_iff.1 hi').1; simp at this; omega
        subst hi2
        rw [List.getElem?_append_right (by omega), q2] at hi'
        simp at hi'
        exact .inr ⟨rfl, hi'.symm⟩
    rcases lt i hi' with ⟨a1, a2⟩ | ⟨a1, a2⟩ <;> rcases lt j hj' with ⟨b1, b2⟩ | ⟨b1, b2⟩
    · exact q5 i j c' a2 b2
    · have := (q4 i c' a2).2.1; omega
    · have := (q4 j c' b2).2.1; omega
    · omega
/-- What the law asks of it. -/
theorem RowsX.own {w : World} {base : Nat} {v : Value} {L : List (List (List UInt8))} (h : RowsX w base v L) : SsOwn w base w.heap.size v L := by
  obtain ⟨p, cap, hv, hcap⟩ := h.slice
  obtain ⟨vs, bs, q1, q2, q3, q4, q5⟩ := h
  have hvl : vs.length = L.length := by have := q1.1; omega
  refine ⟨p, cap, vs, bs, hv, hcap, hvl, q2, fun h0 => ?_, fun i u l c hu hl hc => ⟨q3 i u l c hu hl hc, (q4 i c hc).1, (q4 i c hc).2.1⟩, q5⟩
  rcases q1.2 with ⟨_, hz⟩ | ⟨g, cap', cur, hv2, hrest⟩
  · omega
  · have hob : v.ownBlock = some g := by rw [hv2]; rfl
    rw [hv2] at hv
    cases hv
    refine ⟨g, 0, rfl, fun j c hc e => (q4 j c hc).2.2 (by rw [e]; rw [hv2]; rfl), fun i u hu => ?_⟩
    have := q1.cells hob i u hu
    rw [Addr.add_lit] at this
    exact this
end Go.Proofs.YtkjbeciiecljgaaDoor
