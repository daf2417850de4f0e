/-
  Several texts in one: J10, Qh, J11.
-/
import Derived.Test.YtjlephnmofhjaaaDoorJ9
import Derived.Test.YtjlephnmofhjaaaDoorMg21
namespace Go.Proofs.YtjlephnmofhjaaaDoor
open Go.RowKit

/-- One joined row. -/
def rowJ (la lb : List VT) (ca cb rt i k : Nat) : List VT := ((List.range ca).map fun j => cel la (i * ca + j)) ++ ((List.range cb).filter fun j => decide (j ≠ rt - 1)).map fun j => cel lb (k * cb + j)
/-- The part of b's row up to j. -/
def tailJ (lb : List VT) (cb rt k j : Nat) : List VT := ((List.range j).filter fun j => decide (j ≠ rt - 1)).map fun j => cel lb (k * cb + j)
theorem tailJ_succ (lb : List VT) (cb rt k j : Nat) : tailJ lb cb rt k (j + 1) = tailJ lb cb rt k j ++ (if j ≠ rt - 1 then [cel lb (k * cb + j)] else []) := by
 unfold tailJ
 rw [List.range_succ, List.filter_append, List.map_append]
 congr 1
 by_cases h : j = rt - 1
 ·
  simp [h]
 ·
  simp [h]
theorem tailJ_length (lb : List VT) (cb rt k j : Nat) : (tailJ lb cb rt k j).length ≤ j := by
 unfold tailJ
 rw [List.length_map]
 exact Nat.le_trans (List.length_filter_le _ _) (by simp)
theorem rowJ_tail (la lb : List VT) (ca cb rt i k : Nat) : rowJ la lb ca cb rt i k = ((List.range ca).map fun j => cel la (i * ca + j)) ++ tailJ lb cb rt k cb := rfl
/-- The columns but one, told by their places. -/
theorem skip_range (cb p : Nat) (h : p < cb) : (List.range cb).filter (fun j => decide (j ≠ p)) = (List.range (cb - 1)).map fun o => if o < p then o else o + 1 := by
 obtain ⟨q, rfl⟩ : ∃ q, cb = p + 1 + q := ⟨cb - (p + 1), by omega⟩
 rw [show p + 1 + q - 1 = p + q by omega, List.range_add, List.range_add (n := p) (m := q), List.range_succ, List.filter_append, List.filter_append, List.map_append]
 have e1 : (List.range p).filter (fun j => decide (j ≠ p)) = List.range p := List.filter_eq_self.2 fun j hj => by
  have := List.mem_range.1 hj
  simp; omega
 have e2 : ([p] : List Nat).filter (fun j => decide (j ≠ p)) = [] := by simp
 have e3 : ((List.range q).map fun x => p + 1 + x).filter (fun j => decide (j ≠ p)) = (List.range q).map fun x => p + 1 + x := List.filter_eq_self.2 fun j hj => by
  obtain ⟨x, _, rfl⟩ := List.mem_map.1 hj
  simp; omega
 rw [e1, e2, e3, List.append_nil, List.map_map]
 congr 1
 ·
  rw [List.map_congr_left (g := fun o => o)]
  ·
   simp
  ·
   intro o ho
   have := List.mem_range.1 ho
   rw [if_pos this]
 ·
  refine List.map_congr_left fun o _ => ?_
  simp only [Function.comp]
  rw [if_neg (by omega)]
  omega
theorem rowJ_cells (la lb : List VT) (ca cb rt : Nat) (ps : List (Nat × Nat)) (r i k : Nat) (hq : ps[r]? = some (i, k)) (h1 : 1 ≤ rt) (h2 : rt ≤ cb) : rowJ la lb ca cb rt i k = (List.range (ca + cb - 1)).map fun j => joinC la lb ca cb rt ps r j := by
 have hqd : ps.getD r (0, 0) = (i, k) := by rw [List.getD_eq_getElem?_getD, hq]; rfl
 unfold rowJ
 rw [skip_range cb (rt - 1) (by omega), List.map_map, show ca + cb - 1 = ca + (cb - 1) by omega, List.range_add, List.map_append]
 congr 1
 ·
  refine List.map_congr_left fun j hj => ?_
  have := List.mem_range.1 hj
  unfold joinC
  rw [hqd]
  simp only
  rw [if_pos this]
 ·
  rw [List.map_map]
  refine List.map_congr_left fun o ho => ?_
  have := List.mem_range.1 ho
  unfold joinC
  rw [hqd]
  simp only [Function.comp]
  rw [if_neg (show ¬ ca + o < ca by omega), show ca + o - ca = o by omega]
  by_cases h : o < rt - 1
  ·
   rw [if_pos h, if_pos h]
  ·
   rw [if_neg h, if_neg h]
theorem gridN_rows (c : Nat → Nat → VT) (C n : Nat) (hC : 0 < C) : gridN c C (n * C) = (List.range n).flatMap fun r => (List.range C).map fun j => c r j := by
 induction n with
 | zero => simp [gridN]
 | succ n ih =>
  rw [List.range_succ, List.flatMap_append, ← ih]
  unfold gridN
  rw [show (n + 1) * C = n * C + C by rw [Nat.add_mul, Nat.one_mul], List.range_add, List.map_append]
  congr 1
  simp only [List.flatMap_cons, List.flatMap_nil, List.append_nil, List.map_map]
  refine List.map_congr_left fun j hj => ?_
  have := List.mem_range.1 hj
  simp only [Function.comp]
  rw [show (n * C + j) / C = n by rw [Nat.mul_comm, Nat.mul_add_div hC, Nat.div_eq_of_lt this, Nat.add_zero], show (n * C + j) % C = j by rw [Nat.mul_comm, Nat.mul_add_mod, Nat.mod_eq_of_lt this]]
theorem range_flat {α β : Type} (ps : List α) (f : Nat → List β) (g : α → List β) (h : ∀ r q, ps[r]? = some q → f r = g q) : (List.range ps.length).flatMap f = ps.flatMap g := by
 induction ps generalizing f with
 | nil => rfl
 | cons a ps ih =>
  rw [List.length_cons, List.range_succ_eq_map, List.flatMap_cons, List.flatMap_cons, h 0 a rfl]
  congr 1
  rw [List.flatMap_map]
  exact ih (fun r => f (r + 1)) fun r q hq => h (r + 1) q (by simpa using hq)
/-- Rows of pairs, one behind another. -/
theorem grid_rows (la lb : List VT) (ca cb rt : Nat) (ps : List (Nat × Nat)) (h1 : 1 ≤ rt) (h2 : rt ≤ cb) (hC : 0 < ca + cb - 1) : gridN (joinC la lb ca cb rt ps) (ca + cb - 1) (ps.length * (ca + cb - 1)) = ps.flatMap fun q => rowJ la lb ca cb rt q.1 q.2 := by
 rw [gridN_rows _ _ _ hC]
 refine range_flat ps _ _ fun r q hq => ?_
 obtain ⟨i, k⟩ := q
 exact (rowJ_cells la lb ca cb rt ps r i k hq h1 h2).symm
/-- Whether two rows go together, by the specification. -/
def goesB (la lb : List VT) (ca cb lt rt i k : Nat) : Bool := decide ((cel la (i * ca + (lt - 1))).k ≠ 0) && likeB (cel la (i * ca + (lt - 1))) (cel lb (k * cb + (rt - 1)))
/-- The pairs of row i, up to k. -/
def prsI (la lb : List VT) (ca cb lt rt i k : Nat) : List (Nat × Nat) := ((List.range k).filter (goesB la lb ca cb lt rt i)).map fun k => (i, k)
def prsS (la lb : List VT) (ca cb rb lt rt i : Nat) : List (Nat × Nat) := (List.range i).flatMap fun i => prsI la lb ca cb lt rt i rb
theorem prsI_succ (la lb : List VT) (ca cb lt rt i k : Nat) : prsI la lb ca cb lt rt i (k + 1) = prsI la lb ca cb lt rt i k ++ (if goesB la lb ca cb lt rt i k = true then [(i, k)] else []) := by
 unfold prsI
 rw [List.range_succ, List.filter_append, List.map_append]
 congr 1
 rw [List.filter_cons]
 cases goesB la lb ca cb lt rt i k <;> simp
theorem prsS_succ (la lb : List VT) (ca cb rb lt rt i : Nat) : prsS la lb ca cb rb lt rt (i + 1) = prsS la lb ca cb rb lt rt i ++ prsI la lb ca cb lt rt i rb := by
 unfold prsS
 rw [List.range_succ, List.flatMap_append]
 simp
theorem prsI_length (la lb : List VT) (ca cb lt rt i k : Nat) : (prsI la lb ca cb lt rt i k).length ≤ k := by
 unfold prsI
 rw [List.length_map]
 exact Nat.le_trans (List.length_filter_le _ _) (by simp)
theorem prsS_length (la lb : List VT) (ca cb rb lt rt i : Nat) : (prsS la lb ca cb rb lt rt i).length ≤ i * rb := by
 induction i with
 | zero => simp [prsS]
 | succ i ih =>
  rw [prsS_succ, List.length_append, Nat.add_mul, Nat.one_mul]
  have := prsI_length la lb ca cb lt rt i rb
  omega
theorem cel_col {l : List VT} {c j n i : Nat} (hi : i < n) : cel (colL l c j n) i = cel l (i * c + j) := by
 unfold cel
 rw [List.getD_eq_getElem?_getD, colL_at l c j n hi]
 rfl
theorem goes_same {a b : VT} (ga : a.good = true) (gb : b.good = true) : (decide (b.k ≠ 0) && sameQ (nrm b) (nrm a)) = (decide (a.k ≠ 0) && likeB a b) := by
 have h := like_nrm ga gb
 cases hl : likeB a b with
 | true =>
  have e := h.1 hl
  have hk : (nrm a).k = (nrm b).k := by rw [e]
  have hk : a.k = b.k := hk
  rw [sameQ_iff.2 e.symm, hk]
 | false =>
  have : sameQ (nrm b) (nrm a) = false := by
   cases hs : sameQ (nrm b) (nrm a) with
   | false => rfl
   | true =>
    have := h.2 (sameQ_iff.1 hs).symm
    rw [hl] at this
    cases this
  rw [this, Bool.and_false, Bool.and_false]
theorem flat_congr {α β : Type} {f g : α → List β} (l : List α) (h : ∀ x ∈ l, f x = g x) : l.flatMap f = l.flatMap g := by
 induction l with
 | nil => rfl
 | cons a l ih => rw [List.flatMap_cons, List.flatMap_cons, h a (by simp), ih fun x hx => h x (by simp [hx])]
/-- Both sides pair the same rows. -/
theorem prs_both {la lb : List VT} {ra ca rb cb lt rt : Nat} (h1 : la.length = ra * ca) (h2 : lb.length = rb * cb) (ga : ∀ e ∈ la, e.good = true) (gb : ∀ e ∈ lb, e.good = true) (t1 : 1 ≤ lt) (t2 : lt ≤ ca) (t3 : 1 ≤ rt) (t4 : rt ≤ cb) :
  prsJ la ra ca lb rb cb lt rt = prsS la lb ca cb rb lt rt ra := by
 unfold prsJ prsN prsS
 refine flat_congr _ fun i hi => ?_
 have hi := List.mem_range.1 hi
 unfold prsI grpN
 congr 1
 refine List.filter_congr fun k hk => ?_
 have hk := List.mem_range.1 hk
 rw [cel_col hi, cel_col hk]
 exact goes_same (ga _ (cel_mem (by rw [h1]; exact place_lt hi (by omega)))) (gb _ (cel_mem (by rw [h2]; exact place_lt hk (by omega))))

theorem cmpSQ (a b : VT) (w : World) (hl : a.t.length ≤ 2000000) (hl' : b.t.length ≤ 2000000) (ga : a.good = true) (gb : b.good = true) (h4 : a.k ≠ 4) (h4' : b.k ≠ 4) :
  Calls Tryd.prog 28 #[a.val, b.val] w fun e w' => e = .returned (.int .i64 (cmpQ a b)) ∧ Ext w w' := by
 obtain ⟨k, n, d, x, t⟩ := a
 obtain ⟨k', n', d', x', t'⟩ := b
 obtain ⟨v1, z1⟩ := beside_eq (k := k) (n := n) (d := d) (x := x) (t := t) ga k'
 obtain ⟨v2, z2⟩ := beside_eq (k := k') (n := n') (d := d') (x := x') (t := t') gb k
 have e : cmpQ ⟨k, n, d, x, t⟩ ⟨k', n', d', x', t'⟩ = cmpR (bk k k') n d x (bt k t k') (bk k' k) n' d' x' (bt k' t' k) := by
  unfold cmpQ compareV
  rw [if_pos ⟨ga, gb, h4, h4'⟩]
 rw [e]
 exact cmpS6 k n d x t k' n' d' x' t' w _ _ _ _ _ v1 z1 (bt_len k k' hl) _ _ _ _ _ v2 z2 (bt_len k' k hl')
set_option maxHeartbeats 1000000 in
theorem isErrQ (k : Int) (n : Bool) (d x : Int) (t : List UInt8) (w : World) :
  Calls Tryd.prog 27 #[valV k n d x t] w fun e w' => e = .returned (.bool (decide (k = 4))) ∧ Ext w w' := by
 have X := x1 w (.cells #[.int .i64 k, .bool n, .int .i64 d, .int .i64 x, sV t] 39)
 by_cases h : k = 4
 ·
  subst h
  go_enter Tryd.func27, Tryd.ntmps27
  go_wp2_with fail
  go_ret
  exact ⟨rfl, X⟩
 ·
  rw [show decide (k = 4) = false by simpa using h]
  have hb : (k == 4) = false := by simpa using h
  go_enter Tryd.func27, Tryd.ntmps27
  go_wp2_with fail
  go_ret
  exact ⟨rfl, X⟩
set_option maxRecDepth 8000 in
set_option maxHeartbeats 2000000 in
theorem sameS (a b : VT) (w : World) (hl : a.t.length ≤ 2000000) (hl' : b.t.length ≤ 2000000) (ga : a.good = true) (gb : b.good = true) :
  Calls Tryd.prog 13 #[a.val, b.val] w fun e w' => e = .returned (.bool (likeB a b)) ∧ Ext w w' := by
 have CM : a.k = b.k → a.k ≠ 4 → Hid (∀ W, Calls Tryd.prog 28 #[a.val, b.val] W fun e w' => e = .returned (.int .i64 (cmpQ a b)) ∧ Ext W w') := fun hk h4 W => cmpSQ a b W hl hl' ga gb h4 (hk ▸ h4)
 have HL : Hid (likeB a b = (decide (a.k = b.k) && (if a.k = 4 then sameQ a b else decide (cmpQ a b = 0)))) := rfl
 obtain ⟨k, n, d, x, t⟩ := a
 obtain ⟨k', n', d', x', t'⟩ := b
 obtain ⟨u0, u1, h0, h1, s0, s1, B0, B1, X⟩ := mkB2 w (valL k n d x t) (valL k' n' d' x' t') 39 39
 have EQ := fun W => valQ_eql k n d x t k' n' d' x' t' W
 obtain ⟨S, hS⟩ : ∃ S, sameQ ⟨k, n, d, x, t⟩ ⟨k', n', d', x', t'⟩ = S := ⟨_, rfl⟩
 obtain ⟨R, hR⟩ : ∃ R, cmpQ ⟨k, n, d, x, t⟩ ⟨k', n', d', x', t'⟩ = R := ⟨_, rfl⟩
 obtain ⟨Q, hQ⟩ : ∃ Q, likeB ⟨k, n, d, x, t⟩ ⟨k', n', d', x', t'⟩ = Q := ⟨_, rfl⟩
 rw [hS] at EQ HL
 rw [hR] at CM HL
 rw [hQ] at HL ⊢
 simp only at CM HL
 clear hS hR hQ ga gb hl hl'
 obtain ⟨a0, a1, a2, a3, a4⟩ := Vec.five B0
 obtain ⟨b0, b1, b2, b3, b4⟩ := Vec.five B1
 by_cases hk : k = k'
 ·
  subst hk
  have CE := fun W => isErrQ k n d x t W
  by_cases h4 : k = 4
  ·
   have HF : Hid (S = Q) := by show _ = _; rw [HL.out, if_pos h4]; simp
   subst h4
   go_enter Tryd.func13, Tryd.ntmps13
   go_wp2_with (go_at_call 27; refine (CE u1).mono ?_; rintro e w1 ⟨rfl, e1⟩; obtain ⟨a0, a1, a2, a3, a4⟩ := Vec.five (B0.later e1); obtain ⟨b0, b1, b2, b3, b4⟩ := Vec.five (B1.later e1))
   go_ret
   exact ⟨ret_bool HF.out, xt X e1⟩
  ·
   have HF : Hid (decide (R = 0) = Q) := by show _ = _; rw [HL.out, if_neg h4]; simp
   have C0 := CM rfl h4
   rw [decide_eq_false h4] at CE
   by_cases hR : R = 0
   ·
    subst hR
    go_enter Tryd.func13, Tryd.ntmps13
    go_wp2_with (first
     | (go_at_call 27; refine (CE u1).mono ?_; rintro e w1 ⟨rfl, e1⟩; obtain ⟨a0, a1, a2, a3, a4⟩ := Vec.five (B0.later e1); obtain ⟨b0, b1, b2, b3, b4⟩ := Vec.five (B1.later e1))
     | (go_at_call 28; refine (C0.out w1).mono ?_; rintro e w2 ⟨rfl, e2⟩))
    go_ret
    exact ⟨ret_bool HF.out, xt X (xt e1 e2)⟩
   ·
    have hRb : (R == 0) = false := by simpa using hR
    have HF : Hid (false = Q) := by show _ = _; rw [← HF.out, decide_eq_false hR]
    go_enter Tryd.func13, Tryd.ntmps13
    go_wp2_with (first
     | (go_at_call 27; refine (CE u1).mono ?_; rintro e w1 ⟨rfl, e1⟩; obtain ⟨a0, a1, a2, a3, a4⟩ := Vec.five (B0.later e1); obtain ⟨b0, b1, b2, b3, b4⟩ := Vec.five (B1.later e1))
     | (go_at_call 28; refine (C0.out w1).mono ?_; rintro e w2 ⟨rfl, e2⟩))
    go_ret
    exact ⟨ret_bool HF.out, xt X (xt e1 e2)⟩
 ·
  have hkb : (k == k') = false := by simpa using hk
  have HF : Hid (false = Q) := by show _ = _; rw [HL.out, decide_eq_false hk]; rfl
  go_enter Tryd.func13, Tryd.ntmps13
  go_wp2_with fail
  go_ret
  exact ⟨ret_bool HF.out, X⟩

theorem vals_src {w : World} {v : Value} {l : List VT} (h : ValsIn w v l) : Src Tryd.prog 5 26 v l.length (flatV l) w := by
 obtain ⟨p, cap, rfl, hcap, hi⟩ := h
 cases p with
 | none =>
  have h0 : l.length = 0 := by
   rcases Nat.eq_zero_or_pos l.length with h | h
   ·
    exact h
   ·
    obtain ⟨b, o, e, _⟩ := hi h; cases e
  have : l = [] := List.eq_nil_of_length_eq_zero h0
  subst this
  exact Src.ofNil _ Tryd.underlying26 cap
 | some a =>
  refine Src.ofSlice (size := 5) _ Tryd.underlying26 a l.length cap (flatV l) (flatV_length l) (fun j u hj => ?_) (fun u hu => ?_)
  ·
   have hjl : j < (flatV l).length := (List.getElem?_eq_some_iff.1 hj).1
   rw [flatV_length] at hjl
   have hil : j / 5 < l.length := by omega
   obtain ⟨e, he⟩ : ∃ e, l[j / 5]? = some e := ⟨_, List.getElem?_eq_getElem hil⟩
   have hc := flatV_at he (j % 5) (by omega)
   rw [show j / 5 * 5 + j % 5 = j by omega, hj] at hc
   obtain ⟨b, o, e', hR⟩ := hi (by omega)
   cases e'
   have := hR (j / 5) e he (j % 5) u hc.symm
   rw [Addr.add_lit, show o + j = o + j / 5 * 5 + j % 5 by omega]
   exact this
  ·
   obtain ⟨j, hj, rfl⟩ := List.getElem_of_mem hu
   rw [flatV_length] at hj
   obtain ⟨e, he⟩ : ∃ e, l[j / 5]? = some e := ⟨_, List.getElem?_eq_getElem (by omega)⟩
   have hc := flatV_at he (j % 5) (by omega)
   rw [show j / 5 * 5 + j % 5 = j by omega, List.getElem?_eq_getElem (by rw [flatV_length]; exact hj)] at hc
   have h5 : j % 5 < 5 := by omega
   generalize j % 5 = q at hc h5
   match q, h5, hc with
   | 0, _, hc => rw [Option.some.inj (show some _ = some _ from hc)]; rfl
   | 1, _, hc => rw [Option.some.inj (show some _ = some _ from hc)]; rfl
   | 2, _, hc => rw [Option.some.inj (show some _ = some _ from hc)]; rfl
   | 3, _, hc => rw [Option.some.inj (show some _ = some _ from hc)]; rfl
   | 4, _, hc => rw [Option.some.inj (show some _ = some _ from hc)]; rfl
/-- Several more values. -/
theorem app_vals (w : World) (base : Nat) (v : Value) (l : List VT) (O : OwnW w base v l) (u : Value) (m : List VT) (V : ValsIn w u m) (hl : l.length + m.length ≤ 100000000) (hb : base ≤ w.heap.size) :
  ∃ v' w', (Builtin.append_ #[26, 26] 26 #[v, u]).run Tryd.prog w = .ok v' w' ∧ OwnW w' base v' (l ++ m) ∧ w.grownBy w' v.ownBlock := by
 obtain ⟨inf, hi, hz, hsz, hby⟩ := infoVT
 obtain ⟨v', w', hrun, O', GW, _⟩ := app_srcG (P := Tryd.prog) w base 26 26 26 39 inf _ Tryd.underlying26 hi hz 5 hsz (by rw [hby]; omega) rfl v l.length _ O u m.length _ (vals_src V) (by omega) hb
 refine ⟨v', w', hrun, ?_, GW⟩
 show World.ownsRow _ _ _ _ _ _ _
 rw [List.length_append, flatV_append]
 exact O'
/-- A part of a row of values. -/
theorem vals_sub {w : World} {b o N cap : Nat} {l : List VT} (h : RowV w b o l) (hN : l.length = N) (hc : N ≤ cap) {i n : Nat} (hi : i + n ≤ N) : ValsIn w (.slice (some ⟨b, o + i * 5, none⟩) n (cap - i)) ((List.range n).map fun j => cel l (i + j)) := by
 have hlen : ((List.range n).map fun j => cel l (i + j)).length = n := by simp
 refine ⟨_, cap - i, by rw [hlen], by rw [hlen]; omega, fun _ => ⟨b, o + i * 5, rfl, fun k e hk c u hu => ?_⟩⟩
 have hkn : k < n := by have := (List.getElem?_eq_some_iff.1 hk).1; simpa using this
 have he : cel l (i + k) = e := by
  rw [List.getElem?_map, List.getElem?_range hkn] at hk
  exact Option.some.inj hk
 have := h (i + k) e (by rw [cel_at (by rw [hN]; omega), he]) c u hu
 rw [show o + i * 5 + k * 5 + c = o + (i + k) * 5 + c by omega]
 exact this
theorem flat_len {α : Type} {f : α → List VT} (l : List α) (m : Nat) (h : ∀ x, (f x).length ≤ m) : (l.flatMap f).length ≤ l.length * m := by
 induction l with
 | nil => simp
 | cons a l ih =>
  rw [List.flatMap_cons, List.length_append, List.length_cons, Nat.add_mul, Nat.one_mul]
  have := h a
  omega
theorem rows_le {x RA k RB : Nat} (h1 : x < RA) (h2 : k < RB) : x * RB + k ≤ RA * RB := by
 have := Nat.mul_le_mul_right RB (show x + 1 ≤ RA by omega)
 rw [Nat.add_mul, Nat.one_mul] at this
 omega
theorem pairs_room {RA CA RB CB na nb n : Nat} (h3 : 2 ≤ CB) (hca : 1 ≤ CA) (ha : RA * CA = na) (hb : RB * CB = nb) (hna : na ≤ 2000) (hnb : nb ≤ 2000) (hn : n ≤ RA * RB) : n * (CA + CB) ≤ 20000000 := by
 have e1 : n * (CA + CB) ≤ RA * RB * (CA + CB) := Nat.mul_le_mul_right _ hn
 have e2 : RA * RB * (CA + CB) = RB * (RA * CA) + RA * (RB * CB) := by
  rw [Nat.mul_add]
  congr 1
  ·
   rw [Nat.mul_comm RA RB, Nat.mul_assoc]
  ·
   rw [Nat.mul_assoc]
 have r1 : RB ≤ nb := by rw [← hb]; exact Nat.le_mul_of_pos_right _ (by omega)
 have r2 : RA ≤ na := by rw [← ha]; exact Nat.le_mul_of_pos_right _ (by omega)
 have e3 : RB * na ≤ 2000 * 2000 := Nat.mul_le_mul (by omega) (by omega)
 have e4 : RA * nb ≤ 2000 * 2000 := Nat.mul_le_mul (by omega) (by omega)
 rw [e2, ha, hb] at e1
 omega
/-- What Joined of the specification has on its way. -/
structure OutJ (w0 : World) (d : Nat) (A B : List Value) (n C : Nat) (l : List VT) (p : Option Addr) (cc : Nat) (wr : World) : Prop where
 ext : Ext w0 wr
 dd : w0.heap.size + 1 + 1 < d
 sz : d + 1 ≤ wr.heap.size
 va : Vec wr w0.heap.size A
 vb : Vec wr (w0.heap.size + 1) B
 vz : Vec wr (w0.heap.size + 1 + 1) [.int .i64 0, .int .i64 0, .slice none 0 0]
 vo : Vec wr (d) [.int .i64 (n : Int), .int .i64 (C : Int), .slice p l.length cc]
 ow : OwnW wr (d + 1) (.slice p l.length cc) l
theorem OutJ.later {w0 wr w' : World} {d : Nat} {A B : List Value} {n C : Nat} {l : List VT} {p : Option Addr} {cc : Nat} (h : OutJ w0 d A B n C l p cc wr) (x : Ext wr w') : OutJ w0 d A B n C l p cc w' :=
 ⟨xt h.ext x, h.dd, Nat.le_trans h.sz x.size, h.va.later x, h.vb.later x, h.vz.later x, h.vo.later x, ownW_later h.ow x⟩
/-- One row more is counted. -/
theorem OutJ.count {w0 wr : World} {d : Nat} {A B : List Value} {n C : Nat} {l : List VT} {p : Option Addr} {cc : Nat} (h : OutJ w0 d A B n C l p cc wr) (m : Nat) : OutJ w0 d A B m C l p cc (wr.setCell ⟨d, 0, none⟩ (.int .i64 (m : Int))) :=
 ⟨xset h.ext (p := ⟨d, 0, none⟩) (by have := h.dd; show _ ≤ d; omega) _, h.dd, by rw [World.size_setCell]; exact h.sz, h.va.far (p := ⟨d, 0, none⟩) (by have := h.dd; show d ≠ _; omega) _, h.vb.far (p := ⟨d, 0, none⟩) (by have := h.dd; show d ≠ _; omega) _, h.vz.far (p := ⟨d, 0, none⟩) (by have := h.dd; show d ≠ _; omega) _, h.vo.put 0 (by simp) _, ownW_far h.ow (p := ⟨d, 0, none⟩) (by show d < _; omega) _⟩
/-- Cells were put behind the others. -/
theorem OutJ.grow {w0 wr w' : World} {d : Nat} {A B : List Value} {n C : Nat} {l l' : List VT} {p p' : Option Addr} {cc cc' : Nat} (h : OutJ w0 d A B n C l p cc wr) (G : wr.grownBy w' (Value.slice p l.length cc).ownBlock) (O : OwnW w' (d + 1) (.slice p' l'.length cc') l') :
  OutJ w0 d A B n C l' p' cc' (w'.setCell ⟨d, 2, none⟩ (.slice p' l'.length cc')) := by
 have hb := ownW_block h.ow
 have hdd := h.dd
 have X : Ext w0 w' := ext_grownJ h.ext G (fun k hk => by have := hb k hk; omega)
 have ne : ∀ b, b < d + 1 → some b ≠ (Value.slice p l.length cc).ownBlock := fun b h q => by have := hb b q.symm; omega
 have vo := vec_keep h.vo G (ne _ (by omega))
 exact ⟨xset X (p := ⟨d, 2, none⟩) (by show _ ≤ d; omega) _, h.dd, by rw [World.size_setCell]; exact Nat.le_trans h.sz G.size, (vec_keep h.va G (ne _ (by omega))).far (p := ⟨d, 2, none⟩) (by have := h.dd; show d ≠ _; omega) _, (vec_keep h.vb G (ne _ (by omega))).far (p := ⟨d, 2, none⟩) (by have := h.dd; show d ≠ _; omega) _, (vec_keep h.vz G (ne _ (by omega))).far (p := ⟨d, 2, none⟩) (by have := h.dd; show d ≠ _; omega) _, vo.put 2 (by simp) _, ownW_far O (p := ⟨d, 2, none⟩) (by show d < _; omega) _⟩

end Go.Proofs.YtjlephnmofhjaaaDoor

