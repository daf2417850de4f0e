/-
  Several texts in one: Qa, Qb, Av2.
-/
import Derived.Test.YtbomplppgobkdaaGreatDoorMg26
import Derived.BigQuiet
import Derived.Deep.RegionHeld3
import Derived.Deep.QuietTactic
import Derived.Test.YtbomplppgobkdaaGreatDoorMg27
namespace Go.Proofs.YtbomplppgobkdaaGreatDoor
open Go.RowKit

abbrev numV (x : Nat) : Value := .int .i64 (x : Int)
/-- A row of numbers, written by nobody else. -/
def NumsAt (w : World) (v : Value) (l : List Nat) : Prop := ∃ p cap, v = .slice p l.length cap ∧ l.length ≤ cap ∧ (0 < l.length → ∃ g, p = some ⟨g, 0, none⟩ ∧ Vec w g (l.map numV))
theorem NumsAt.later {w w' : World} {v : Value} {l : List Nat} (h : NumsAt w v l) (e : Ext w w') : NumsAt w' v l := by
  obtain ⟨p, cap, rfl, hc, hv⟩ := h
  exact ⟨p, cap, rfl, hc, fun h0 => by obtain ⟨g, rfl, V⟩ := hv h0; exact ⟨g, rfl, V.later e⟩⟩
theorem vec_lt {w : World} {g : Nat} {l : List Value} (h : Vec w g l) (hl : 0 < l.length) : g < w.heap.size := by
  cases l with
  | nil => simp at hl
  | cons u l => exact World.block_lt_of_cell? _ _ (h 0 u rfl).1
theorem vec_keep {w w' : World} {g : Nat} {l : List Value} {row : Option Nat} (h : Vec w g l) (hg : w.grownBy w' row) (hr : some g ≠ row) : Vec w' g l := by
  intro i v hi
  have hlt := vec_lt h (by have := (List.getElem?_eq_some_iff.1 hi).1; omega)
  have hb := hg.block g hlt hr
  obtain ⟨a, f⟩ := h i v hi
  refine ⟨?_, ?_⟩
  · unfold World.cell? at a ⊢
    rw [hb]; exact a
  · unfold World.frozen? at f ⊢
    rw [hb]; exact f
theorem nums_nil (w : World) : NumsAt w (.slice none 0 0) [] := ⟨none, 0, rfl, Nat.le_refl _, fun h => by simp at h⟩

/-- A row of numbers of one's own, that may grow. -/
abbrev OwnI (w : World) (base : Nat) (v : Value) (l : List Nat) : Prop := w.ownsRow base 3 1 v l.length (l.map numV)
theorem ownI_later {w w' : World} {base : Nat} {v : Value} {l : List Nat} (h : OwnI w base v l) (hx : Ext w w') : OwnI w' base v l := by
  refine ⟨h.1, h.2.imp id ?_⟩
  rintro ⟨g, cap, cur, h1, h2, h3, h4⟩
  have hlt : g < w.heap.size := by
    rcases Nat.lt_or_ge g w.heap.size with h' | h'
    · exact h'
    · rw [Array.getElem?_eq_none h'] at h3; cases h3
  exact ⟨g, cap, cur, h1, h2, by rw [hx.block g hlt]; exact h3, h4⟩
theorem ownI_slice {w : World} {base : Nat} {v : Value} {l : List Nat} (h : OwnI w base v l) : ∃ p c, v = .slice p l.length c ∧ l.length ≤ c := by
  rcases h.2 with ⟨rfl, h0⟩ | ⟨g, cap, cur, rfl, _, _, h3, _⟩
  · exact ⟨none, 0, by rw [h0], by omega⟩
  · exact ⟨_, _, rfl, h3⟩
theorem ownI_block {w : World} {base : Nat} {v : Value} {l : List Nat} (h : OwnI w base v l) : ∀ r, v.ownBlock = some r → base ≤ r := by
  intro r hr
  rcases h.2 with ⟨rfl, _⟩ | ⟨g, cap, cur, rfl, h2, _⟩
  · cases hr
  · have : g = r := by simpa [Value.ownBlock] using hr
    omega
theorem ownI_nil (w : World) (base : Nat) : OwnI w base (.slice none 0 0) [] := World.ownsRow_nil _ _ _ _
theorem ownI_nums {w : World} {base : Nat} {v : Value} {l : List Nat} (h : OwnI w base v l) : NumsAt w v l := by
  rcases h.2 with ⟨rfl, h0⟩ | ⟨g, cap, cur, rfl, hb, hg, hc, hz, hcs, htake⟩
  · exact ⟨none, 0, by rw [h0], by omega, fun h => absurd h0 (by omega)⟩
  · refine ⟨_, cap, rfl, hc, fun _ => ⟨g, rfl, fun i u hi => ?_⟩⟩
    have hcell := h.cells (g := g) rfl i u hi
    rw [show (⟨g, 0, none⟩ : Addr).add i = ⟨g, i, none⟩ by unfold Addr.add; split <;> simp_all] at hcell
    refine ⟨hcell, ?_⟩
    unfold World.frozen?
    rw [hg]
    simp
theorem infoI : ∃ inf, Tryz.prog.info? 3 = some inf ∧ inf.zero = some (.int .i64 0) ∧ inf.size = 1 ∧ inf.bytes = 8 := by
  have h : (Tryz.prog.info? 3).map (fun i => (i.zero, i.size, i.bytes)) = some (some (.int .i64 0), 1, 8) := by kernel_rfl
  cases h' : Tryz.prog.info? 3 with
  | none => rw [h'] at h; cases h
  | some inf =>
    rw [h'] at h
    simp at h
    exact ⟨inf, rfl, h.1, h.2.1, h.2.2⟩

/-- A cell by its place. -/
def cel (l : List VT) (k : Nat) : VT := l.getD k zeroVT
theorem cel_at {l : List VT} {k : Nat} (h : k < l.length) : l[k]? = some (cel l k) := by
  rw [List.getElem?_eq_getElem h]; simp [cel, h]
theorem cel_mem {l : List VT} {k : Nat} (h : k < l.length) : cel l k ∈ l := List.mem_of_getElem? (cel_at h)
set_option maxRecDepth 8000 in
set_option maxHeartbeats 2000000 in
theorem atI (r : Int) (c : Nat) (v : Value) (l : List VT) (i j : Nat) (w : World) (h : ValsIn w v l) (hl : l.length ≤ 2000) (hk : i * c + j < l.length) :
    Calls Tryz.prog 51 #[grV r c v, .int .i64 i, .int .i64 j] w fun e w' => e = .returned (cel l (i * c + j)).val ∧ Ext w w' := by
  obtain ⟨pp, cap, rfl, hcap, hrow⟩ := h
  have he := cel_at hk
  obtain ⟨e, hee⟩ : ∃ e, cel l (i * c + j) = e := ⟨_, rfl⟩
  rw [hee] at he ⊢
  obtain ⟨N, hN⟩ : ∃ N, l.length = N := ⟨_, rfl⟩
  obtain ⟨m, hm⟩ : ∃ m, i * c = m := ⟨_, rfl⟩
  have hm' : (i : Int) * (c : Int) = (m : Int) := by rw [← hm]; simp
  rw [hN] at hcap hl hk hrow ⊢
  rw [hm] at hk he
  obtain ⟨b, o, hpp, hrw⟩ := hrow (by omega)
  subst hpp
  have hmj : (m : Int) + (j : Int) = ((m + j : Nat) : Int) := by omega
  obtain ⟨q, hq⟩ : ∃ q, m + j = q := ⟨_, rfl⟩
  rw [hq] at hmj hk he
  have q1 : (q : Int) < (N : Int) := by omega
  have m0 : (m : Int) ≤ 2000 := by omega
  have j0 : (j : Int) ≤ 2000 := by omega
  obtain ⟨u0, u1, h0, h1, s0, s1, B0, B1, X⟩ := mkB2 w [.int .i64 r, .int .i64 c, .slice (some ⟨b, o, none⟩) N cap] [.int .i64 0, .bool false, .int .i64 0, .int .i64 0, sV []] 25 50
  obtain ⟨a0, a1, a2⟩ := Vec.three (B0)
  obtain ⟨d0, d1, d2, d3, d4⟩ := (hrw.later X).five he
  obtain ⟨wy, hy, FX, ⟨b0, b1, b2, b3, b4⟩, ⟨fb0, fb1, fb2, fb3, fb4⟩, fd0, fd1, fd2, fd3, fd4⟩ := fin5 B1 X (by omega) e.k e.n e.d e.x e.t
  clear hee hm hq hN hrow hrw he
  go_enter Tryz.func51, Tryz.ntmps51
  go_wp2_with fail
  exact bodyPost_ret (v := e.val) (by simp [results, Tryz.results51, go_sem, fd0, fd1, fd2, fd3, fd4]) rfl ⟨rfl, FX⟩

/-- A column, from the top on. -/
def colL (l : List VT) (c j n : Nat) : List VT := (List.range n).map fun i => cel l (i * c + j)
theorem colL_length (l : List VT) (c j n : Nat) : (colL l c j n).length = n := by simp [colL]
theorem colL_succ (l : List VT) (c j n : Nat) : colL l c j (n + 1) = colL l c j n ++ [cel l (n * c + j)] := by simp [colL, List.range_succ]
theorem colL_at (l : List VT) (c j n : Nat) {i : Nat} (hi : i < n) : (colL l c j n)[i]? = some (cel l (i * c + j)) := by simp [colL, hi]

theorem place_lt {i r c j : Nat} (hi : i < r) (hj : j < c) : i * c + j < r * c := by
  have : (i + 1) * c ≤ r * c := Nat.mul_le_mul_right c hi
  rw [Nat.add_mul, Nat.one_mul] at this
  omega
set_option maxRecDepth 8000 in
set_option maxHeartbeats 2000000 in
theorem columnI (r c : Nat) (v : Value) (l : List VT) (j : Nat) (w : World) (h : ValsIn w v l) (hl : l.length = r * c) (h2 : l.length ≤ 2000) (hj : j < c) (hr : r ≤ 2000) :
    Calls Tryz.prog 41 #[grV r c v, .int .i64 j] w fun e w' => ∃ sv, e = .returned sv ∧ OwnW w' w.heap.size sv (colL l c j r) ∧ Ext w w' := by
  have AT : Hid (∀ (W : World) (i : Nat), ValsIn W v l → i < r → Calls Tryz.prog 51 #[grV r c v, .int .i64 i, .int .i64 j] W fun e w' => e = .returned (cel l (i * c + j)).val ∧ Ext W w') := fun W i hW hi => atI r c v l i j W hW h2 (by rw [hl]; exact place_lt hi hj)
  have HV : Hid (ValsIn w v l) := h
  have X0 := x1 w (.cells #[.int .i64 r, .int .i64 c, v] 25)
  have B0 := vec_made w [.int .i64 r, .int .i64 c, v] 25
  have S0 : (w.alloc (.cells #[.int .i64 r, .int .i64 c, v] 25)).heap.size = w.heap.size + 1 := by rw [World.size_alloc]
  obtain ⟨u0, hu0⟩ : ∃ u, w.alloc (.cells #[.int .i64 r, .int .i64 c, v] 25) = u := ⟨_, rfl⟩
  change Vec (w.alloc (.cells #[.int .i64 r, .int .i64 c, v] 25)) _ _ at B0
  rw [hu0] at X0 B0 S0
  obtain ⟨a0, a1, a2⟩ := Vec.three B0
  clear h hl h2
  go_enter Tryz.func41, Tryz.ntmps41
  go_wp2_with fail
  clear a0 a1 a2
  go_loopw [5, 9] (fun s i wr => ∃ (k n cc : Nat) (p : Option Addr), k ≤ r ∧ i = .int .i64 k ∧ s = .slice p n cc ∧ Hid (OwnW wr (w.heap.size + 1) (.slice p n cc) (colL l c j k) ∧ Ext u0 wr)) (fun _ i _ => r - (intOf i).toNat)
  case atStart => exact ⟨0, 0, 0, none, by omega, rfl, rfl, World.ownsRow_nil _ _ _ _, xr _⟩
  case round =>
    obtain ⟨k, n, cc, p, hk, rfl, rfl, HO⟩ := hrel
    have B1 := B0.later HO.out.2
    by_cases hlt : k < r
    · have i2 : (k : Int) < (r : Int) := by omega
      have CA := AT.out wr k (HV.out.later (xt X0 HO.out.2)) hlt
      obtain ⟨⟨ek, en, ed, ex, et⟩, he⟩ : ∃ e, cel l (k * c + j) = e := ⟨_, rfl⟩
      rw [he] at CA
      have HE : Hid (cel l (k * c + j) = ⟨ek, en, ed, ex, et⟩) := he
      obtain ⟨a0, a1, a2⟩ := Vec.three B1
      clear he
      go_wp2_with fail
      refine CA.mono ?_
      rintro z w1 ⟨rfl, e1⟩
      have OQ : Hid (OwnW w1 (w.heap.size + 1) (.slice p n cc) (colL l c j k)) := ownW_later HO.out.1 e1
      have Y1 := xt HO.out.2 e1
      obtain ⟨inf, hi, hz, hz1, hz2⟩ := infoW
      have lk := colL_length l c j k
      have hs1 : w.heap.size + 1 ≤ w1.heap.size := by have := Y1.size; omega
      clear a0 a1 a2 B1 CA HO
      go_wp2_with (at_builtin; refine wpList_append_own _ rfl _ _ 23 rfl (w.heap.size + 1) 50 inf (valV 0 false 0 0 []) 5 48 Tryz.underlying23 hi hz hz1 hz2 rfl (by decide) _ _ _ rfl (OQ.out.alloc _) ⟨w1.heap.size, 0, none⟩ 1 1 [.int .i64 ek, .bool en, .int .i64 ed, .int .i64 ex, sV et] rfl rfl (World.news_of_block (heap_alloc_new _ _)) (by simp [Value.oneCell']) (by simp only [maxLen, lk]; omega) (by rw [lk]; omega) (by simp; omega) ?_)
      intro v7 wC ownC gC _
      have lb := ownW_block OQ.out
      have Y5 : Ext u0 wC := (xa Y1 _).grown gC (xa Y1 _).size (fun r hr => by have := lb r hr; omega)
      have OC : OwnW wC (w.heap.size + 1) v7 (colL l c j (k + 1)) := by
        rw [colL_succ, HE.out]
        show World.ownsRow _ _ _ _ _ _ _
        rw [flatV_append, List.length_append, lk]
        exact ownC
      obtain ⟨p7, n7, c7, rfl⟩ := ownW_slice OC
      have HN : Hid (OwnW wC (w.heap.size + 1) (.slice p7 n7 c7) (colL l c j (k + 1)) ∧ Ext u0 wC) := ⟨OC, Y5⟩
      clear ownC gC lb OQ Y1 hi hz hz1 hz2 Y5 OC
      go_wp2_with fail
      go_roundw
      case rel => exact ⟨k + 1, n7, c7, p7, by omega, by go_num, rfl, HN⟩
      case measure => simp [intOf]; omega
    · obtain rfl : k = r := by omega
      have i2 : ¬ (k : Int) < (k : Int) := by omega
      go_wp2_with fail
      go_ret
      exact ⟨_, rfl, ownW_base HO.out.1 (by omega), xt X0 HO.out.2⟩
set_option maxRecDepth 8000 in
set_option maxHeartbeats 2000000 in
theorem fromI (r : Nat) (w : World) (hr : r ≤ 2000) :
    Calls Tryz.prog 43 #[.int .i64 0, .int .i64 r] w fun e w' => ∃ sv, e = .returned sv ∧ OwnI w' w.heap.size sv (List.range r) ∧ Ext w w' := by
  go_enter Tryz.func43, Tryz.ntmps43
  go_wp2_with fail
  go_loopw [5, 6] (fun s i wr => ∃ (k n cc : Nat) (p : Option Addr), k ≤ r ∧ i = .int .i64 k ∧ s = .slice p n cc ∧ Hid (OwnI wr w.heap.size (.slice p n cc) (List.range k) ∧ Ext w wr)) (fun _ i _ => r - (intOf i).toNat)
  case atStart => exact ⟨0, 0, 0, none, by omega, rfl, rfl, World.ownsRow_nil _ _ _ _, xr _⟩
  case round =>
    obtain ⟨k, n, cc, p, hk, rfl, rfl, HO⟩ := hrel
    by_cases hlt : k < r
    · have i2 : (k : Int) < (r : Int) := by omega
      have OQ : Hid (OwnI wr w.heap.size (.slice p n cc) (List.range k)) := HO.out.1
      have Y1 := HO.out.2
      have hs1 := Y1.size
      obtain ⟨inf, hi, hz, hz1, hz2⟩ := infoI
      clear HO
      go_wp2_with (at_builtin; refine wpList_append_own _ rfl _ _ 28 rfl w.heap.size 3 inf (.int .i64 0) 1 8 Tryz.underlying28 hi hz hz1 hz2 rfl (by decide) _ _ _ rfl (OQ.out.alloc _) ⟨wr.heap.size, 0, none⟩ 1 1 [.int .i64 k] rfl rfl (World.news_of_block (heap_alloc_new wr (.cells [.int .i64 (k : Int)].toArray 3))) (by simp [Value.oneCell']) (by simp only [maxLen, List.length_range]; omega) (by rw [List.length_range]; omega) (by simp; omega) ?_)
      intro v7 wC ownC gC _
      have lb := ownI_block OQ.out
      have Y5 : Ext w wC := (xa Y1 _).grown gC (xa Y1 _).size (fun r hr => lb r hr)
      have OC : OwnI wC w.heap.size v7 (List.range (k + 1)) := by
        rw [List.range_succ]
        show World.ownsRow _ _ _ _ _ _ _
        rw [List.map_append, List.length_append, List.length_range]
        exact ownC
      obtain ⟨p7, c7, rfl, _⟩ := ownI_slice OC
      have HN : Hid (OwnI wC w.heap.size (.slice p7 (List.range (k + 1)).length c7) (List.range (k + 1)) ∧ Ext w wC) := ⟨OC, Y5⟩
      clear ownC gC lb OQ Y1 hi hz hz1 hz2 Y5 OC
      obtain ⟨n7, hn7⟩ : ∃ q, (List.range (k + 1)).length = q := ⟨_, rfl⟩
      rw [hn7] at HN ⊢
      clear hn7
      go_wp2_with fail
      go_roundw
      case rel => exact ⟨k + 1, n7, c7, p7, by omega, by go_num, rfl, HN⟩
      case measure => simp [intOf]; omega
    · obtain rfl : k = r := by omega
      have i2 : ¬ (k : Int) < (k : Int) := by omega
      go_wp2_with fail
      go_ret
      exact ⟨_, rfl, HO.out.1, HO.out.2⟩
set_option maxHeartbeats 1000000 in
theorem lacksI (r c : Int) (v : Value) (x : Int) (w : World) :
    Calls Tryz.prog 22 #[grV r c v, .int .i64 x] w fun e w' => e = .returned (.bool (decide (x < 1 ∨ c < x))) ∧ Ext w w' := by
  have X0 := x1 w (.cells #[.int .i64 r, .int .i64 c, v] 25)
  have B0 := vec_made w [.int .i64 r, .int .i64 c, v] 25
  obtain ⟨a0, a1, a2⟩ := Vec.three B0
  by_cases h1 : x < 1
  · rw [decide_eq_true (Or.inl h1)]
    have f1 : decide (x < 1) = true := decide_eq_true h1
    go_enter Tryz.func22, Tryz.ntmps22
    go_wp2_with fail
    go_ret
    exact ⟨rfl, X0⟩
  · have f1 : decide (x < 1) = false := decide_eq_false h1
    have e : decide (x < 1 ∨ c < x) = decide (c < x) := decide_eq_decide.2 ⟨fun h => h.resolve_left h1, Or.inr⟩
    rw [e]
    go_enter Tryz.func22, Tryz.ntmps22
    go_wp2_with fail
    go_ret
    exact ⟨rfl, X0⟩

theorem infoVT : ∃ inf, Tryz.prog.info? 50 = some inf ∧ inf.zero = some (.agg #[.int .i64 0, .bool false, .int .i64 0, .int .i64 0, sV []]) ∧ inf.size = 5 ∧ inf.bytes = 48 := by
  have h := infoV
  cases h' : Tryz.prog.info? 50 with
  | none => rw [h'] at h; cases h
  | some inf =>
    rw [h'] at h
    simp at h
    exact ⟨inf, rfl, h.1, h.2.1, h.2.2⟩
/-- One more value. -/
theorem app_val (w : World) (base : Nat) (v : Value) (l : List VT) (O : OwnW w base v l) (e : VT) (b : Nat) (V : Vec w b e.cells) (hl : l.length ≤ 100000000) (hb : base ≤ w.heap.size) :
    ∃ v' w', (Builtin.append_ #[23, 23] 23 #[v, .slice (some ⟨b, 0, none⟩) 1 1]).run Tryz.prog w = .ok v' w' ∧ OwnW w' base v' (l ++ [e]) ∧ w.grownBy w' v.ownBlock ∧ (v'.ownBlock = v.ownBlock ∨ v'.ownBlock = some w.heap.size) := by
  obtain ⟨inf, hi, hz, hsz, hby⟩ := infoVT
  obtain ⟨v', w', hrun, O', GW, hb'⟩ := app_srcG (P := Tryz.prog) w base 23 23 23 50 inf _ Tryz.underlying23 hi hz 5 hsz (by rw [hby]; omega) rfl v l.length _ O (.slice (some ⟨b, 0, none⟩) 1 1) 1 e.cells
    (Src.ofSlice (size := 5) w Tryz.underlying23 ⟨b, 0, none⟩ 1 1 e.cells rfl (fun j u hj => by rw [Addr.add_lit, Nat.zero_add]; exact (V j u hj).1) (fun u hu => by simp at hu; rcases hu with rfl | rfl | rfl | rfl | rfl <;> rfl)) (by omega) hb
  refine ⟨v', w', hrun, ?_, GW, hb'⟩
  show World.ownsRow _ _ _ _ _ _ _
  rw [List.length_append, flatV_append]
  simpa [flatV] using O'
/-- Several more values. -/
theorem app_vals (w : World) (base : Nat) (v : Value) (l : List VT) (O : OwnW w base v l) (u : Value) (m : List VT) (V : ValsIn w u m) (hl : l.length + m.length ≤ 100000000) (hb : base ≤ w.heap.size) :
    ∃ v' w', (Builtin.append_ #[23, 23] 23 #[v, u]).run Tryz.prog w = .ok v' w' ∧ OwnW w' base v' (l ++ m) ∧ w.grownBy w' v.ownBlock := by
  obtain ⟨inf, hi, hz, hsz, hby⟩ := infoVT
  obtain ⟨v', w', hrun, O', GW, _⟩ := app_srcG (P := Tryz.prog) w base 23 23 23 50 inf _ Tryz.underlying23 hi hz 5 hsz (by rw [hby]; omega) rfl v l.length _ O u m.length _ (vals_src V) (by omega) hb
  refine ⟨v', w', hrun, ?_, GW⟩
  show World.ownsRow _ _ _ _ _ _ _
  rw [List.length_append, flatV_append]
  exact O'
/-- A part of a row of values. -/
theorem vals_sub {w : World} {b o N cap : Nat} {l : List VT} (h : RowV w b o l) (hN : l.length = N) (hc : N ≤ cap) {i n : Nat} (hi : i + n ≤ N) : ValsIn w (.slice (some ⟨b, o + i * 5, none⟩) n (cap - i)) ((List.range n).map fun j => cel l (i + j)) := by
  have hlen : ((List.range n).map fun j => cel l (i + j)).length = n := by simp
  refine ⟨_, cap - i, by rw [hlen], by rw [hlen]; omega, fun _ => ⟨b, o + i * 5, rfl, fun k e hk c u hu => ?_⟩⟩
  have hkn : k < n := by have := (List.getElem?_eq_some_iff.1 hk).1; simpa using this
  have he : cel l (i + k) = e := by
    rw [List.getElem?_map, List.getElem?_range hkn] at hk
    exact Option.some.inj hk
  have := h (i + k) e (by rw [cel_at (by rw [hN]; omega), he]) c u hu
  rw [show o + i * 5 + k * 5 + c = o + (i + k) * 5 + c by omega]
  exact this

end Go.Proofs.YtbomplppgobkdaaGreatDoor

