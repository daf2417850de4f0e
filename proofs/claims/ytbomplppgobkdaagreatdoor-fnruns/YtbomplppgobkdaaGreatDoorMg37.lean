/-
  Several texts in one: E7, E8, E14, E15, Iv, Pv1, Y2a, Y2b, Y2d, Pv2, Pv3, Pv4, Pv5, Pv6, Y1b, Y1d.
-/
import Derived.Test.YtbomplppgobkdaaGreatDoorMg35
import Derived.Test.YtbomplppgobkdaaGreatDoorJ4
import Derived.Deep.MidRow
import Derived.Test.YtbomplppgobkdaaGreatDoorMg26
import Derived.Deep.RegionHeld3
import Derived.Test.YtbomplppgobkdaaGreatDoorMg10
import Derived.Deep.OwnRows
import Derived.BigQuiet
import Derived.Deep.QuietTactic
import Derived.Laws.MakeOwn
import Derived.Test.YtbomplppgobkdaaGreatDoorMg11
import Derived.Deep.AppendSrc
import Derived.Deep.Upon
import Derived.OwnWalk
import Derived.Laws.OwnMore
import Derived.Test.YtbomplppgobkdaaGreatDoorMg27
import Derived.Lib.AppendZerosOnto
import Derived.Lib.SliceRun
import Derived.Lib.Walk
import Derived.Shelf.Abstract
import Derived.Test.YtbomplppgobkdaaGreatDoorMg32
namespace Go.Proofs.YtbomplppgobkdaaGreatDoor
open Go.RowKit

/-- The groups' rows lie apart. -/
def RowsQ (w : World) (base m : Nat) (f : QT → Option GE) : Prop :=
  (∀ K, InQ K → ∀ e, f K = some e → OwnI w base e.sl e.ns ∧ e.g ≠ m ∧ e.g < w.heap.size) ∧ ∀ K Q e q, InQ K → InQ Q → K ≠ Q → f K = some e → f Q = some q → e.g ≠ q.g
theorem RowsQ.nil (w : World) (base m : Nat) : RowsQ w base m (fun _ => none) := ⟨(fun _ _ _ h => by cases h), (fun _ _ _ _ _ _ _ h _ => by cases h)⟩
theorem RowsQ.later {w w' : World} {base m : Nat} {f : QT → Option GE} (h : RowsQ w base m f) (x : Ext w w') : RowsQ w' base m f :=
  ⟨fun K hK e he => ⟨ownI_later (h.1 K hK e he).1 x, (h.1 K hK e he).2.1, Nat.lt_of_lt_of_le (h.1 K hK e he).2.2 x.size⟩, h.2⟩
theorem RowsQ.map {w w' : World} {base m : Nat} {f : QT → Option GE} (h : RowsQ w base m f) (g : w.grownBy w' (some m)) : RowsQ w' base m f := by
  refine ⟨fun K hK e he => ⟨ownI_far (h.1 K hK e he).1 g (fun k hk => ?_), (h.1 K hK e he).2.1, Nat.lt_of_lt_of_le (h.1 K hK e he).2.2 g.size⟩, h.2⟩
  have : e.g = k := by simpa [Value.ownBlock] using hk
  subst this
  exact fun q => (h.1 K hK e he).2.1 (by simpa using q)
def nsQ (f : QT → Option GE) (K : QT) : List Nat := match f K with | some e => e.ns | none => []
theorem lookQ_own {w : World} {base m : Nat} {f : QT → Option GE} (h : RowsQ w base m f) {K : QT} (hK : InQ K) : OwnI w base (lookQ f K) (nsQ f K) := by
  unfold lookQ nsQ
  cases hf : f K with
  | none => exact ownI_nil w base
  | some e => exact (h.1 K hK e hf).1
/-- A row that has grown. -/
theorem RowsQ.grow {w w' : World} {base m y : Nat} {f : QT → Option GE} {v' : Value} (h : RowsQ w base m f) {K : QT} (hK : InQ K) (hm : m < w.heap.size) (O : OwnI w' base v' (nsQ f K ++ [y])) (G : w.grownBy w' (lookQ f K).ownBlock)
    (hb : v'.ownBlock = (lookQ f K).ownBlock ∨ v'.ownBlock = some w.heap.size) : ∃ e : GE, v' = e.sl ∧ e.ns = nsQ f K ++ [y] ∧ RowsQ w' base m (updQ f K e) := by
  have hO := O
  rcases O.2 with ⟨_, h0⟩ | ⟨g, cap, cur, rfl, hbg, hg, hc, hz, hcs, ht⟩
  · simp at h0
  · refine ⟨⟨g, cap, nsQ f K ++ [y]⟩, rfl, rfl, ?_, ?_⟩
    · intro Q hQ q hq
      by_cases e : K = Q
      · subst e
        rw [updQ_same] at hq
        cases hq
        refine ⟨hO, ?_, ?_⟩
        · show g ≠ m
          rcases hb with hb | hb
          · unfold lookQ at hb
            cases hf : f K with
            | none => rw [hf] at hb; cases hb
            | some e =>
              rw [hf] at hb
              have : g = e.g := by simpa [Value.ownBlock] using hb
              rw [this]
              exact (h.1 K hK e hf).2.1
          · have : g = w.heap.size := by simpa [Value.ownBlock] using hb
            omega
        · show g < w'.heap.size
          rcases Nat.lt_or_ge g w'.heap.size with h' | h'
          · exact h'
          · rw [Array.getElem?_eq_none h'] at hg; cases hg
      · rw [updQ_other e] at hq
        obtain ⟨a, b, c⟩ := h.1 Q hQ q hq
        refine ⟨ownI_far a G (fun k hk => ?_), b, Nat.lt_of_lt_of_le c G.size⟩
        have hk' : q.g = k := by simpa [Value.ownBlock] using hk
        subst hk'
        unfold lookQ
        cases hf : f K with
        | none => simp [Value.ownBlock]
        | some e' =>
          have := h.2 K Q e' q hK hQ e hf hq
          simp [Value.ownBlock]
          exact fun z => this z.symm
    · have key : ∀ Q q, InQ Q → K ≠ Q → f Q = some q → g ≠ q.g := fun Q q hQ e hq => by
        rcases hb with hb | hb
        · unfold lookQ at hb
          cases hf : f K with
          | none => rw [hf] at hb; cases hb
          | some e' =>
            rw [hf] at hb
            have : g = e'.g := by simpa [Value.ownBlock] using hb
            rw [this]
            exact h.2 K Q e' q hK hQ e hf hq
        · have : g = w.heap.size := by simpa [Value.ownBlock] using hb
          have := (h.1 Q hQ q hq).2.2
          omega
      intro A B a b hA hB hAB ha hb'
      by_cases e : K = A
      · subst e
        rw [updQ_same] at ha
        cases ha
        rw [updQ_other hAB] at hb'
        exact key B b hB hAB hb'
      · rw [updQ_other e] at ha
        by_cases e2 : K = B
        · subst e2
          rw [updQ_same] at hb'
          cases hb'
          exact fun z => key A a hA e ha z.symm
        · rw [updQ_other e2] at hb'
          exact h.2 A B a b hA hB hAB ha hb'

theorem lookQ_ne {w : World} {base m : Nat} {f : QT → Option GE} (h : RowsQ w base m f) {K : QT} (hK : InQ K) : (lookQ f K).ownBlock ≠ some m := by
  unfold lookQ
  cases hf : f K with
  | none => simp [Value.ownBlock]
  | some e =>
    have := (h.1 K hK e hf).2.1
    simpa [Value.ownBlock] using this
theorem lookQ_lt {w : World} {base m : Nat} {f : QT → Option GE} (h : RowsQ w base m f) {K : QT} (hK : InQ K) : ∀ k, (lookQ f K).ownBlock = some k → k < w.heap.size := by
  intro k hk
  unfold lookQ at hk
  cases hf : f K with
  | none => rw [hf] at hk; cases hk
  | some e =>
    rw [hf] at hk
    have : e.g = k := by simpa [Value.ownBlock] using hk
    rw [← this]
    exact (h.1 K hK e hf).2.2
set_option maxRecDepth 8000 in
set_option maxHeartbeats 4000000 in
/-- One more number under a key. -/
theorem putQ (K : QT) (hKK : InQ K) (f : QT → Option GE) (m n y base : Nat) (w0 w : World) (X0 : Ext w0 w) (hb : base = w0.heap.size) (hm0 : base ≤ m) (T : List QT) (M : MapQ w m n f T) (R : RowsQ w base m f) (hn : n ≤ 2000) (hns : (nsQ f K).length ≤ 2000) :
    Calls Tryz.prog 32 #[.map (some m), K.val, .int .i64 y] w fun r w' => r = .returned (.tuple #[]) ∧ ∃ e : GE, e.ns = nsQ f K ++ [y] ∧ MapQ w' m (n + 1) (updQ f K e) (addK T K) ∧ RowsQ w' base m (updQ f K e) ∧ Ext w0 w' := by
  have hml := M.lt
  have X1 := x1 w (.cells #[.int .i64 K.a.k, .bool K.a.n, .int .i64 K.a.d, .int .i64 K.a.x, sV K.a.t, .int .i64 K.b.k, .bool K.b.n, .int .i64 K.b.d, .int .i64 K.b.x, sV K.b.t, .int .i64 K.c.k, .bool K.c.n, .int .i64 K.c.d, .int .i64 K.c.x, sV K.c.t, .int .i64 K.d.k, .bool K.d.n, .int .i64 K.d.d, .int .i64 K.d.x, sV K.d.t] 68)
  have B := vec_made w K.cells 68
  change Vec (w.alloc (.cells #[.int .i64 K.a.k, .bool K.a.n, .int .i64 K.a.d, .int .i64 K.a.x, sV K.a.t, .int .i64 K.b.k, .bool K.b.n, .int .i64 K.b.d, .int .i64 K.b.x, sV K.b.t, .int .i64 K.c.k, .bool K.c.n, .int .i64 K.c.d, .int .i64 K.c.x, sV K.c.t, .int .i64 K.d.k, .bool K.d.n, .int .i64 K.d.d, .int .i64 K.d.x, sV K.d.t] 68)) _ _ at B
  obtain ⟨u0, hu0⟩ : ∃ u, w.alloc (.cells #[.int .i64 K.a.k, .bool K.a.n, .int .i64 K.a.d, .int .i64 K.a.x, sV K.a.t, .int .i64 K.b.k, .bool K.b.n, .int .i64 K.b.d, .int .i64 K.b.x, sV K.b.t, .int .i64 K.c.k, .bool K.c.n, .int .i64 K.c.d, .int .i64 K.c.x, sV K.c.t, .int .i64 K.d.k, .bool K.d.n, .int .i64 K.d.d, .int .i64 K.d.x, sV K.d.t] 68) = u := ⟨_, rfl⟩
  have hus : u0.heap.size = w.heap.size + 1 := by rw [← hu0, World.size_alloc]
  rw [hu0] at X1 B
  have M1 := M.later X1
  have R1 := R.later X1
  have hSl := lookQ_lt R hKK
  obtain ⟨S, hS⟩ : ∃ S, lookQ f K = S := ⟨_, rfl⟩
  have HS : Hid (lookQ f K = S) := hS
  rw [hS] at hSl
  clear hS M R
  go_enter Tryz.func32, Tryz.ntmps32
  go_wp2_with fail
  obtain ⟨V, hV⟩ : ∃ V, K.val = V := ⟨_, rfl⟩
  have HVV : Hid (K.val = V) := hV
  rw [hV]
  clear hV
  refine wp_region_letters_g (fun lx : Nat → Value => { tmps := #[.map (some m), V, .int .i64 y, undef, .pointer (some ⟨w.heap.size, 0, none⟩), undef, lx 6, lx 7, lx 8, lx 9, lx 10, lx 11, lx 12, lx 13], defers := [] }) (fun L lx lw => Hid (Ext w0 lw ∧ Vec lw w.heap.size K.cells ∧ m < lw.heap.size ∧ (L 0 = true → lx 6 = .map (some m)) ∧ (L 1 = true → lx 7 = V) ∧ (L 2 = true → lx 8 = .map (some m)) ∧ (L 3 = true → lx 9 = V) ∧ (L 4 = true → lx 10 = S) ∧ (L 5 = true → lx 11 = .int .i64 y) ∧ (L 6 = true → ∃ b, lx 12 = .slice (some ⟨b, 0, none⟩) 1 1 ∧ b ≠ m ∧ w0.heap.size ≤ b ∧ (L 7 = false → Vec lw b [.int .i64 y])) ∧ (L 8 = false → MapQ lw m n f T) ∧ (L 7 = false → RowsQ lw base m f) ∧ (L 7 = true → ∃ e : GE, lx 13 = e.sl ∧ e.ns = nsQ f K ++ [y] ∧ RowsQ lw base m (updQ f K e) ∧ (L 8 = true → MapQ lw m (n + 1) (updQ f K e) (addK T K))) ∧ (L 8 = true → L 7 = true) ∧ (L 8 = true → L 4 = true))) rfl (by kernel_rfl) (fun _ => undef) rfl ?_ ?_ ?_
  · exact ⟨xd (xt X0 X1), B.later (xd (xr _)), by show m < u0.heap.size; omega, (fun h => by cases h), (fun h => by cases h), (fun h => by cases h), (fun h => by cases h), (fun h => by cases h), (fun h => by cases h), (fun h => by cases h), (fun _ => M1.later (xd (xr _))), (fun _ => R1.later (xd (xr _))), (fun h => by cases h), (fun h => by cases h), (fun h => by cases h)⟩
  · intro L lx wl i o KK hK ho hL haf hI
    obtain ⟨X, G, HM, f0, f1, f2, f3, f4, f5, f6, f7, f8, f9, g7, g4⟩ := hI.out
    match i, ho, hL, haf, hK with
    | 0, ho, hL, haf, hK =>
      cases ho
      (try dsimp only)
      refine Eq.mpr (if_pos (by rfl)) ?_
      go_wp2_with fail
      exact hK (fun jj => if jj = 6 then .map (some m) else lx jj) _ ⟨X, G, HM, (fun _ => rfl), f1, f2, f3, f4, f5, f6, f7, f8, f9, g7, g4⟩
    | 1, ho, hL, haf, hK =>
      cases ho
      (try dsimp only)
      refine Eq.mpr (if_pos (by rfl)) ?_
      refine wpList_load_mid rfl 68 (.tmp 4) rfl w.heap.size 0 rfl K.cells _ (fun j v hv => by rw [Nat.zero_add]; exact (G j v hv).1) Tryz.underlying68 rfl (by kernel_rfl) ?_
      rw [show Value.agg K.cells.toArray = V from HVV.out]
      go_wp2_with fail
      exact hK (fun jj => if jj = 7 then V else lx jj) _ ⟨X, G, HM, f0, (fun _ => rfl), f2, f3, f4, f5, f6, f7, f8, f9, g7, g4⟩
    | 2, ho, hL, haf, hK =>
      cases ho
      (try dsimp only)
      refine Eq.mpr (if_pos (by rfl)) ?_
      go_wp2_with fail
      exact hK (fun jj => if jj = 8 then .map (some m) else lx jj) _ ⟨X, G, HM, f0, f1, (fun _ => rfl), f3, f4, f5, f6, f7, f8, f9, g7, g4⟩
    | 3, ho, hL, haf, hK =>
      cases ho
      (try dsimp only)
      refine Eq.mpr (if_pos (by rfl)) ?_
      refine wpList_load_mid rfl 68 (.tmp 4) rfl w.heap.size 0 rfl K.cells _ (fun j v hv => by rw [Nat.zero_add]; exact (G j v hv).1) Tryz.underlying68 rfl (by kernel_rfl) ?_
      rw [show Value.agg K.cells.toArray = V from HVV.out]
      go_wp2_with fail
      exact hK (fun jj => if jj = 9 then V else lx jj) _ ⟨X, G, HM, f0, f1, f2, (fun _ => rfl), f4, f5, f6, f7, f8, f9, g7, g4⟩
    | 4, ho, hL, haf, hK =>
      cases ho
      (try dsimp only)
      refine Eq.mpr (if_pos (by rfl)) ?_
      rw [f2 (haf ⟨2, .data⟩ (by simp) rfl), f3 (haf ⟨3, .data⟩ (by simp) rfl)]
      have h8 : L 8 = false := by
        cases hh : L 8 with
        | false => rfl
        | true => have := g4 hh; rw [hL] at this; cases this
      have hlk := (f7 h8).look hKK
      rw [HS.out, HVV.out] at hlk
      go_wp2_with fail
      exact hK (fun jj => if jj = 10 then S else if jj = 8 then .map (some m) else if jj = 9 then V else lx jj) _ ⟨X, G, HM, f0, f1, (fun _ => rfl), (fun _ => rfl), (fun _ => rfl), f5, f6, f7, f8, f9, g7, (fun _ => rfl)⟩
    | 5, ho, hL, haf, hK =>
      cases ho
      (try dsimp only)
      refine Eq.mpr (if_pos (by rfl)) ?_
      go_wp2_with fail
      exact hK (fun jj => if jj = 11 then .int .i64 y else lx jj) _ ⟨X, G, HM, f0, f1, f2, f3, f4, (fun _ => rfl), f6, f7, f8, f9, g7, g4⟩
    | 6, ho, hL, haf, hK =>
      cases ho
      (try dsimp only)
      refine Eq.mpr (if_pos (by rfl)) ?_
      rw [f5 (haf ⟨5, .data⟩ (by simp) rfl)]
      go_wp2_with fail
      exact hK (fun jj => if jj = 12 then .slice (some ⟨wl.heap.size, 0, none⟩) 1 1 else if jj = 11 then .int .i64 y else lx jj) _ ⟨(xa X _), (G.later (x1 _ _)), (by rw [World.size_alloc]; omega), f0, f1, f2, f3, f4, (fun _ => rfl), (fun _ => ⟨wl.heap.size, rfl, by omega, X.size, fun _ => vec_made wl [.int .i64 y] _⟩), (fun h => (f7 h).later (x1 _ _)), (fun h => (f8 h).later (x1 _ _)), (fun h => by obtain ⟨e, h1, h2, h3, h4⟩ := f9 h; exact ⟨e, h1, h2, h3.later (x1 _ _), fun h => (h4 h).later (x1 _ _)⟩), g7, g4⟩
    | 7, ho, hL, haf, hK =>
      cases ho
      (try dsimp only)
      refine Eq.mpr (if_pos (by rfl)) ?_
      obtain ⟨b, eb, hbm, hb0, hvb⟩ := f6 (haf ⟨6, .data⟩ (by simp) rfl)
      have hv1 := hvb hL
      have RR := f8 hL
      have h8 : L 8 = false := by
        cases hh : L 8 with
        | false => rfl
        | true => have := g7 hh; rw [hL] at this; cases this
      rw [f4 (haf ⟨4, .data⟩ (by simp) rfl), eb]
      have OS : OwnI wl base S (nsQ f K) := by rw [← HS.out]; exact lookQ_own RR hKK
      obtain ⟨inf, hi, hz, hsz, hby⟩ := infoI
      obtain ⟨v', w', hrun, O, GW, hbl⟩ := app_srcG (P := Tryz.prog) wl base 28 28 28 3 inf (.int .i64 0) Tryz.underlying28 hi hz 1 hsz (by rw [hby]; omega) rfl S (nsQ f K).length _ OS (.slice (some ⟨b, 0, none⟩) 1 1) 1 [.int .i64 y] (Src.ofSlice (size := 1) wl Tryz.underlying28 ⟨b, 0, none⟩ 1 1 [.int .i64 y] rfl (fun j u hj => by rw [Addr.add_lit]; have := (hv1 j u hj).1; rw [Nat.zero_add]; exact this) (fun u hu => by obtain rfl := List.mem_singleton.1 hu; rfl)) (by omega) (by have := X.size; omega)
      have O2 : OwnI w' base v' (nsQ f K ++ [y]) := by show World.ownsRow _ _ _ _ _ _ _; rw [List.length_append, List.map_append]; exact O
      rw [← HS.out] at GW hbl
      obtain ⟨e, rfl, hne, RE⟩ := RR.grow hKK HM O2 GW hbl
      rw [HS.out] at GW
      have hrow : ∀ k, S.ownBlock = some k → base ≤ k := ownI_block OS
      have hmr : some m ≠ S.ownBlock := fun q => by
        have := lookQ_ne RR hKK
        rw [HS.out] at this
        exact this q.symm
      have X2 : Ext w0 w' := ext_grownJ X GW (fun k hk => by have := hrow k hk; omega)
      have G2 := vec_keep G GW (fun q => by have := hSl _ q.symm; omega)
      refine Lib.wpList_append_run _ rfl (.tmp 10) (.tmp 12) 28 28 rfl _ _ rfl rfl _ _ hrun ?_
      go_wp2_with fail
      exact hK (fun jj => if jj = 13 then e.sl else if jj = 10 then S else if jj = 12 then .slice (some ⟨b, 0, none⟩) 1 1 else lx jj) _ ⟨(X2), (G2), (Nat.lt_of_lt_of_le HM GW.size), f0, f1, f2, f3, (fun _ => rfl), f5, (fun _ => ⟨b, rfl, hbm, hb0, (fun h => by cases h)⟩), (fun h => (f7 h).kept GW hmr), (fun h => by cases h), (fun _ => ⟨e, rfl, hne, RE, (fun h => by have h8' : L 8 = true := h; rw [h8] at h8'; cases h8')⟩), (fun _ => rfl), g4⟩
    | 8, ho, hL, haf, hK =>
      cases ho
      (try dsimp only)
      refine Eq.mpr (if_pos (by rfl)) ?_
      obtain ⟨e, ee, hne, RE, _⟩ := f9 (haf ⟨7, .data⟩ (by simp) rfl)
      obtain ⟨u, hu, MU, GU⟩ := (f7 hL).put (by omega) hKK e
      rw [HVV.out] at hu
      rw [f0 (haf ⟨0, .data⟩ (by simp) rfl), f1 (haf ⟨1, .data⟩ (by simp) rfl), ee]
      have X2 : Ext w0 u := ext_grownJ X GU (fun k hk => by cases hk; omega)
      have G2 := vec_keep G GU (fun q => by have : w.heap.size = m := (by simpa using q); omega)
      go_wp2_with fail
      exact hK (fun jj => if jj = 6 then .map (some m) else if jj = 7 then V else if jj = 13 then e.sl else lx jj) _ ⟨(X2), (G2), (Nat.lt_of_lt_of_le HM GU.size), (fun _ => rfl), (fun _ => rfl), f2, f3, f4, f5, (fun h => by obtain ⟨b, h1, h2, h3, h4⟩ := f6 h; exact ⟨b, h1, h2, h3, fun h => vec_keep (h4 h) GU (fun q => h2 (by simpa using q))⟩), (fun h => by cases h), (fun h => by have h7 : L 7 = false := h; rw [haf ⟨7, .data⟩ (by simp) rfl] at h7; cases h7), (fun _ => ⟨e, rfl, hne, RE.map GU, fun _ => MU⟩), (fun _ => haf ⟨7, .data⟩ (by simp) rfl), (fun _ => haf ⟨4, .phase⟩ (by simp) rfl)⟩
    | k + 9, ho, _, _, _ => simp at ho
  · intro L lx wl hall hI
    obtain ⟨X, G, HM, f0, f1, f2, f3, f4, f5, f6, f7, f8, f9, g7, g4⟩ := hI.out
    obtain ⟨e, _, hne, RE, hM⟩ := f9 (hall 7 (by simp))
    have MU := hM (hall 8 (by simp))
    exact bodyPost_end (results_none rfl _ _ _) rfl ⟨rfl, e, hne, MU, RE, X⟩

/-- A group: where its keys lie, what they are, and where its rows lie. -/
structure GG where
  kv : Value
  K : List VT
  e : GE
/-- A row of groups of one's own. -/
abbrev GG.cells (p : GG) : List Value := [p.kv, p.e.sl]
abbrev OwnG (w : World) (base : Nat) (v : Value) (l : List GG) : Prop := w.ownsRow base 73 2 v l.length (l.flatMap GG.cells)
theorem ownG_nil (w : World) (base : Nat) : OwnG w base (.slice none 0 0) [] := World.ownsRow_nil _ _ _ _
theorem ownG_later {w w' : World} {base : Nat} {v : Value} {l : List GG} (h : OwnG w base v l) (hx : Ext w w') : OwnG w' base v l := by
  refine ⟨h.1, h.2.imp id ?_⟩
  rintro ⟨g, cap, cur, h1, h2, h3, h4⟩
  have hlt : g < w.heap.size := by
    rcases Nat.lt_or_ge g w.heap.size with h' | h'
    · exact h'
    · rw [Array.getElem?_eq_none h'] at h3; cases h3
  exact ⟨g, cap, cur, h1, h2, by rw [hx.block g hlt]; exact h3, h4⟩
theorem ownG_slice {w : World} {base : Nat} {v : Value} {l : List GG} (h : OwnG w base v l) : ∃ p c, v = .slice p l.length c ∧ l.length ≤ c := by
  rcases h.2 with ⟨rfl, h0⟩ | ⟨g, cap, cur, rfl, _, _, h3, _⟩
  · exact ⟨none, 0, by rw [h0], by omega⟩
  · exact ⟨_, _, rfl, h3⟩
theorem ownG_block {w : World} {base : Nat} {v : Value} {l : List GG} (h : OwnG w base v l) : ∀ r, v.ownBlock = some r → base ≤ r := by
  intro r hr
  rcases h.2 with ⟨rfl, _⟩ | ⟨g, cap, cur, rfl, h2, _⟩
  · cases hr
  · have : g = r := by simpa [Value.ownBlock] using hr
    omega
theorem infoGr : ∃ inf, Tryz.prog.info? 73 = some inf ∧ inf.zero = some (.agg #[.slice none 0 0, .slice none 0 0]) ∧ inf.size = 2 ∧ inf.bytes = 48 := by
  have h : (Tryz.prog.info? 73).map (fun i => (i.zero, i.size, i.bytes)) = some (some (.agg #[.slice none 0 0, .slice none 0 0]), 2, 48) := by kernel_rfl
  cases h' : Tryz.prog.info? 73 with
  | none => rw [h'] at h; cases h
  | some inf =>
    rw [h'] at h
    simp at h
    exact ⟨inf, rfl, h.1, h.2.1, h.2.2⟩
theorem ownG_at {w : World} {base : Nat} {v : Value} {l : List GG} (h : OwnG w base v l) {g : Nat} {n c : Nat} (hv : v = .slice (some ⟨g, 0, none⟩) n c) {i : Nat} {p : GG} (hi : l[i]? = some p) : w.cell? ⟨g, i * 2, none⟩ = some (p.kv) ∧ w.cell? ⟨g, i * 2 + 1, none⟩ = some (p.e.sl) := by
  have key : ∀ (l : List GG) (i : Nat) (p : GG), l[i]? = some p → (l.flatMap GG.cells)[i * 2]? = some (p.kv) ∧ (l.flatMap GG.cells)[i * 2 + 1]? = some (p.e.sl) := by
    intro l
    induction l with
    | nil => intro i p h; simp at h
    | cons q l ih =>
      intro i p h
      cases i with
      | zero =>
        have : q = p := by simpa using h
        subst this
        simp
      | succ i =>
        have h' : l[i]? = some p := by simpa using h
        obtain ⟨a, b⟩ := ih i p h'
        rw [List.flatMap_cons]
        refine ⟨?_, ?_⟩
        · rw [show (i + 1) * 2 = i * 2 + 2 by omega, List.getElem?_append_right (by simp), show i * 2 + 2 - (GG.cells q).length = i * 2 by simp]
          exact a
        · rw [show (i + 1) * 2 + 1 = i * 2 + 1 + 2 by omega, List.getElem?_append_right (by simp), show i * 2 + 1 + 2 - (GG.cells q).length = i * 2 + 1 by simp]
          exact b
  obtain ⟨a, b⟩ := key l i p hi
  have := h.cells (g := g) (by rw [hv]; rfl)
  have e : ∀ j, (⟨g, 0, none⟩ : Addr).add j = ⟨g, j, none⟩ := fun j => by unfold Addr.add; split <;> simp_all
  refine ⟨?_, ?_⟩
  · have := this _ _ a; rw [e] at this; exact this
  · have := this _ _ b; rw [e] at this; exact this

/-- A list of at most four values as four. -/
def quadOf (l : List VT) : QT := ⟨l.getD 0 zeroVT, l.getD 1 zeroVT, l.getD 2 zeroVT, l.getD 3 zeroVT⟩
theorem getD_inj {a b : List VT} (hl : a.length = b.length) (h : ∀ i, i < a.length → a.getD i zeroVT = b.getD i zeroVT) : a = b := by
  apply List.ext_getElem hl
  intro i h1 h2
  have := h i h1
  rw [List.getD_eq_getElem?_getD, List.getD_eq_getElem?_getD, List.getElem?_eq_getElem h1, List.getElem?_eq_getElem h2] at this
  exact this
theorem quadOf_inj {a b : List VT} (hl : a.length = b.length) (h4 : a.length ≤ 4) (h : quadOf a = quadOf b) : a = b := by
  unfold quadOf at h
  rw [QT.mk.injEq] at h
  obtain ⟨e0, e1, e2, e3⟩ := h
  refine getD_inj hl fun i hi => ?_
  match i, hi with
  | 0, _ => exact e0
  | 1, _ => exact e1
  | 2, _ => exact e2
  | 3, _ => exact e3
  | k + 4, hi => omega
theorem inK_zero : InK zeroVT := by
  refine ⟨⟨by decide, by decide⟩, ⟨by decide, by decide⟩, ⟨by decide, by decide⟩, by decide⟩
theorem getD_in {l : List VT} (h : ∀ e ∈ l, InK e) (i : Nat) : InK (l.getD i zeroVT) := by
  rw [List.getD_eq_getElem?_getD]
  cases e : l[i]? with
  | none => exact inK_zero
  | some x => exact h x (List.mem_of_getElem? e)
theorem quadOf_in {l : List VT} (h : ∀ e ∈ l, InK e) : InQ (quadOf l) := ⟨getD_in h 0, getD_in h 1, getD_in h 2, getD_in h 3⟩
/-- What the map holds when y rows are gone through. -/
def GrpF (κ : Nat → List VT) (y : Nat) (f : QT → Option GE) (T : List QT) : Prop :=
  T = (firstsG κ y).map (fun i => quadOf (κ i)) ∧ ∀ i, nsQ f (quadOf (κ i)) = rowsG κ y i
theorem GrpF.start (κ : Nat → List VT) : GrpF κ 0 (fun _ => none) [] := ⟨rfl, fun _ => rfl⟩
theorem nsQ_upd (f : QT → Option GE) (K Q : QT) (e : GE) : nsQ (updQ f K e) Q = if K = Q then e.ns else nsQ f Q := by
  unfold nsQ
  by_cases h : K = Q
  · subst h
    rw [updQ_same, if_pos rfl]
  · rw [updQ_other h, if_neg h]
theorem GrpF.step {κ : Nat → List VT} {y : Nat} {f : QT → Option GE} {T : List QT} {n : Nat} (h : GrpF κ y f T) (hn : ∀ i, (κ i).length = n) (h4 : n ≤ 4) {e : GE} (he : e.ns = nsQ f (quadOf (κ y)) ++ [y]) :
    GrpF κ (y + 1) (updQ f (quadOf (κ y)) e) (addK T (quadOf (κ y))) := by
  have inj : ∀ i j, quadOf (κ i) = quadOf (κ j) → κ i = κ j := fun i j q => quadOf_inj (by rw [hn, hn]) (by rw [hn]; exact h4) q
  refine ⟨?_, fun i => ?_⟩
  · unfold addK
    rw [h.1]
    by_cases m : quadOf (κ y) ∈ (firstsG κ y).map (fun i => quadOf (κ i))
    · rw [if_pos m]
      obtain ⟨j, hj, hq⟩ := List.mem_map.1 m
      rw [firstsG_old hj (inj j y hq)]
    · rw [if_neg m]
      have := firstsG_new (κ := κ) (n := y) (fun j hj q => m (List.mem_map.2 ⟨j, hj, by rw [q]⟩))
      rw [this.1, List.map_append]
      rfl
  · rw [nsQ_upd, rowsG_succ]
    by_cases q : quadOf (κ y) = quadOf (κ i)
    · rw [if_pos q, he, if_pos (inj y i q), q, h.2 i]
    · rw [if_neg q, h.2 i, if_neg (fun z => q (by rw [z])), List.append_nil]
/-- The keys that the map has are told apart. -/
theorem GrpF.apart {κ : Nat → List VT} {y : Nat} {f : QT → Option GE} {T : List QT} {n : Nat} (h : GrpF κ y f T) (hn : ∀ i, (κ i).length = n) (h4 : n ≤ 4) : T.Nodup := by
  rw [h.1]
  have inj : ∀ i j, quadOf (κ i) = quadOf (κ j) → κ i = κ j := fun i j q => quadOf_inj (by rw [hn, hn]) (by rw [hn]; exact h4) q
  have nd := firstsG_nodup κ y
  refine List.pairwise_map.2 ?_
  refine List.Pairwise.imp_of_mem (fun {a b} ha hb hab q => hab ?_) nd
  exact firstsG_one ha hb (inj a b q)

/-- What is told of a group. -/
def GG.told (g : GG) : List VT × List Nat := (g.K, g.e.ns)

/-- A slice of ints that lies in w. -/
def IntsIn (w : World) (v : Value) (l : List Int) : Prop :=
  ∃ p cap, v = .slice p l.length cap ∧ l.length ≤ cap ∧ (0 < l.length → ∃ b o, p = some ⟨b, o, none⟩ ∧ ∀ i, i < l.length → w.cell? ⟨b, o + i, none⟩ = some (.int .i64 (l.getD i 0)))
theorem IntsIn.later {w w' : World} {v : Value} {l : List Int} (h : IntsIn w v l) (x : Ext w w') : IntsIn w' v l := by
  obtain ⟨p, cap, h1, h2, h3⟩ := h
  refine ⟨p, cap, h1, h2, fun h0 => ?_⟩
  obtain ⟨b, o, h4, h5⟩ := h3 h0
  exact ⟨b, o, h4, fun i hi => cell_later x (h5 i hi)⟩

/-- Whether a column is there, and not told before. -/
def okAt (c : Int) (l : List Int) (i : Nat) : Bool := !(decide (l.getD i 0 < 1 ∨ c < l.getD i 0)) && !((l.take i).contains (l.getD i 0))
def onceB (c : Int) (l : List Int) : Bool := (List.range l.length).all (okAt c l)
theorem onceB_true {c : Int} {l : List Int} (h : ∀ i, i < l.length → okAt c l i = true) : onceB c l = true := by
  unfold onceB
  rw [List.all_eq_true]
  intro i hi
  exact h i (by simpa using hi)
theorem onceB_false {c : Int} {l : List Int} {i : Nat} (hi : i < l.length) (h : okAt c l i = false) : onceB c l = false := by
  cases hb : onceB c l with
  | false => rfl
  | true =>
    unfold onceB at hb
    rw [List.all_eq_true] at hb
    have := hb i (by simpa using hi)
    rw [h] at this
    cases this
theorem getD_at {l : List Int} {i : Nat} (h : i < l.length) : l[i]? = some (l.getD i 0) := by
  rw [List.getElem?_eq_getElem h]; simp [h]
theorem contains_at {l : List Int} {i j : Nat} {x : Int} (hj : j < i) (hi : i ≤ l.length) (h : l.getD j 0 = x) : (l.take i).contains x = true := by
  rw [List.contains_iff_mem]
  refine List.mem_of_getElem? (i := j) ?_
  rw [List.getElem?_take, if_pos hj, getD_at (by omega), h]
theorem contains_none {l : List Int} {i : Nat} {x : Int} (h : ∀ j, j < i → l.getD j 0 ≠ x) : (l.take i).contains x = false := by
  cases hb : (l.take i).contains x with
  | false => rfl
  | true =>
    rw [List.contains_iff_mem] at hb
    obtain ⟨j, hj, he⟩ := List.getElem_of_mem hb
    rw [List.length_take] at hj
    exfalso
    refine h j (by omega) ?_
    rw [List.getElem_take] at he
    rw [← he]
    simp [show j < l.length by omega]

structure MT where
  cl : Int
  fd : Int
abbrev MT.cells (e : MT) : List Value := [.int .i64 e.cl, .int .i64 e.fd]
abbrev measureV (cl : Int) (fd : Int) : Value := .agg #[.int .i64 cl, .int .i64 fd]

abbrev pivV (rv cv mv : Value) (t : Bool) : Value := .agg #[rv, cv, mv, .bool t]

/-- A row of whole numbers of one's own, that may grow. -/
abbrev OwnZ (w : World) (base : Nat) (v : Value) (l : List Int) : Prop := w.ownsRow base 3 1 v l.length (l.map (Value.int .i64))

/-- Whether a number is in a row. -/
theorem indexZ (v : Value) (l : List Int) (x : Int) (w : World) (h : IntsIn w v l) (hl : l.length ≤ 2000) :
    Calls Tryz.prog 92 #[v, .int .i64 x] w fun e w' => ((e = .returned (.int .i64 (-1)) ∧ l.contains x = false) ∨ ∃ m : Nat, e = .returned (.int .i64 m) ∧ l.contains x = true ∧ m < 2000) ∧ Ext w w' := by
  obtain ⟨p, cap, rfl, hcap, hi⟩ := h
  obtain ⟨n, hn⟩ : ∃ n, l.length = n := ⟨_, rfl⟩
  have HN : Hid (l.length = n) := hn
  rw [hn] at hcap hl hi ⊢
  have HI : Hid (0 < n → ∃ b o, p = some ⟨b, o, none⟩ ∧ ∀ i, i < n → w.cell? ⟨b, o + i, none⟩ = some (.int .i64 (l.getD i 0))) := hi
  clear hn hi
  go_enter Tryz.func92, Tryz.ntmps92
  go_wp2_with fail
  go_loopw [8] (fun i wr => ∃ k : Nat, k ≤ n ∧ i = .int .i64 k ∧ Hid (Ext w wr ∧ ∀ j, j < k → l.getD j 0 ≠ x)) (fun i _ => n - (intOf i).toNat)
  case atStart => exact ⟨0, by omega, rfl, xr _, fun j hj => absurd hj (by omega)⟩
  case round =>
    obtain ⟨k, hk, rfl, HO⟩ := hrel
    by_cases hlt : k < n
    · have i2 : (k : Int) < (n : Int) := by omega
      obtain ⟨b, o, rfl, hc⟩ := HI.out (by omega)
      have c1 := cell_later HO.out.1 (hc k hlt)
      obtain ⟨y, hy⟩ : ∃ y, l.getD k 0 = y := ⟨_, rfl⟩
      have HY : Hid (l.getD k 0 = y) := hy
      rw [hy] at c1
      clear hy hc
      by_cases hxy : x = y
      · subst hxy
        have HT : Hid (l.contains x = true) := by
          show _ = _
          rw [List.contains_iff_mem]
          refine List.mem_of_getElem? (i := k) ?_
          rw [List.getElem?_eq_getElem (by rw [HN.out]; exact hlt)]
          have := HY.out
          simp [show k < l.length by rw [HN.out]; exact hlt] at this
          rw [this]
        have HF : Hid (Ext w wr) := HO.out.1
        go_wp2_with fail
        go_ret
        exact ⟨Or.inr ⟨k, rfl, HT.out, by omega⟩, HF.out⟩
      · have HM : Hid (Ext w wr ∧ ∀ j, j < k + 1 → l.getD j 0 ≠ x) := ⟨HO.out.1, fun j hj => by
          by_cases e : j = k
          · subst e; rw [HY.out]; exact fun e => hxy e.symm
          · exact HO.out.2 j (by omega)⟩
        go_wp2_with fail
        go_roundw
        case rel => exact ⟨k + 1, by omega, by go_num, HM⟩
        case measure => simp [intOf]; omega
    · obtain rfl : k = n := by omega
      have HT : Hid (l.contains x = false) := by
        show _ = _
        cases hb : l.contains x with
        | false => rfl
        | true =>
          rw [List.contains_iff_mem] at hb
          obtain ⟨j, hj, he⟩ := List.getElem_of_mem hb
          exact absurd (by rw [← he]; simp [hj]) (HO.out.2 j (by rw [← HN.out]; exact hj))
      have HF : Hid (Ext w wr) := HO.out.1
      go_wp2_with fail
      go_ret
      exact ⟨Or.inl ⟨rfl, HT.out⟩, HF.out⟩
theorem containsZ (v : Value) (l : List Int) (x : Int) (w : World) (h : IntsIn w v l) (hl : l.length ≤ 2000) :
    Calls Tryz.prog 56 #[v, .int .i64 x] w fun e w' => e = .returned (.bool (l.contains x)) ∧ Ext w w' := by
  have C0 := indexZ v l x w h hl
  obtain ⟨pk, nk, rfl, _, _⟩ := h
  obtain ⟨R, hR⟩ : ∃ R, l.contains x = R := ⟨_, rfl⟩
  rw [hR] at C0 ⊢
  obtain ⟨n, hn⟩ : ∃ n, l.length = n := ⟨_, rfl⟩
  rw [hn] at C0 hl ⊢
  clear hR hn
  go_enter Tryz.func56, Tryz.ntmps56
  go_wp2_with fail
  refine C0.mono ?_
  rintro e w1 ⟨⟨rfl, rfl⟩ | ⟨m, rfl, rfl, hm⟩, e1⟩
  · go_wp2_with fail
    go_ret
    exact ⟨rfl, e1⟩
  · have m0 : (0 : Int) ≤ (m : Int) := by omega
    have m1 : decide ((m : Int) ≥ 0) = true := decide_eq_true m0
    go_wp2_with fail
    go_ret
    exact ⟨rfl, e1⟩

theorem lacksP (r c : Int) (v : Value) (x : Int) (w : World) :
    Calls Tryz.prog 22 #[grV r c v, .int .i64 x] w fun e w' => e = .returned (.bool (decide (x < 1 ∨ c < x))) ∧ Ext w w' := by
  have X0 := x1 w (.cells #[.int .i64 r, .int .i64 c, v] 25)
  have B0 := vec_made w [.int .i64 r, .int .i64 c, v] 25
  obtain ⟨a0, a1, a2⟩ := Vec.three B0
  by_cases h1 : x < 1
  · rw [decide_eq_true (Or.inl h1)]
    have f1 : decide (x < 1) = true := decide_eq_true h1
    go_enter Tryz.func22, Tryz.ntmps22
    go_wp2_with fail
    go_ret
    exact ⟨rfl, X0⟩
  · have f1 : decide (x < 1) = false := decide_eq_false h1
    have e : decide (x < 1 ∨ c < x) = decide (c < x) := decide_eq_decide.2 ⟨fun h => h.resolve_left h1, Or.inr⟩
    rw [e]
    go_enter Tryz.func22, Tryz.ntmps22
    go_wp2_with fail
    go_ret
    exact ⟨rfl, X0⟩
theorem IntsIn.take {w : World} {p : Option Addr} {n cap : Nat} {l : List Int} (h : IntsIn w (.slice p n cap) l) (hn : l.length = n) {k : Nat} (hk : k ≤ n) : IntsIn w (.slice p k cap) (l.take k) := by
  obtain ⟨p', cap', e, hc, hi⟩ := h
  cases e
  have hlen : (l.take k).length = k := by rw [List.length_take]; omega
  refine ⟨p, cap, by rw [hlen], by rw [hlen]; omega, fun h0 => ?_⟩
  rw [hlen] at h0
  obtain ⟨b, o, e, hc⟩ := hi (by omega)
  refine ⟨b, o, e, fun i hi' => ?_⟩
  rw [hlen] at hi'
  rw [hc i (by omega)]
  have : (l.take k).getD i 0 = l.getD i 0 := by simp [List.getD_eq_getElem?_getD, hi']
  rw [this]
set_option maxRecDepth 8000 in
set_option maxHeartbeats 2000000 in
theorem hasOnceI (r c : Int) (v u : Value) (l : List Int) (w : World) (h : IntsIn w u l) (hl : l.length ≤ 6) :
    Calls Tryz.prog 29 #[grV r c v, u] w fun e w' => e = .returned (.bool (onceB c l)) ∧ Ext w w' := by
  obtain ⟨n, hn⟩ : ∃ n, l.length = n := ⟨_, rfl⟩
  have HN : Hid (l.length = n) := hn
  have h' := h
  obtain ⟨p, cap, e, hcap, hi⟩ := h
  rw [hn] at e hcap hl hi
  subst e
  have HW : Hid (IntsIn w (.slice p n cap) l) := h'
  have HI : Hid (0 < n → ∃ b o, p = some ⟨b, o, none⟩ ∧ ∀ i, i < n → w.cell? ⟨b, o + i, none⟩ = some (.int .i64 (l.getD i 0))) := hi
  obtain ⟨R, hR⟩ : ∃ R, onceB c l = R := ⟨_, rfl⟩
  have HR : Hid (onceB c l = R) := hR
  rw [hR]
  have X0 := x1 w (.cells #[.int .i64 r, .int .i64 c, v] 25)
  have B0 := vec_made w [.int .i64 r, .int .i64 c, v] 25
  obtain ⟨u0, hu0⟩ : ∃ u, w.alloc (.cells #[.int .i64 r, .int .i64 c, v] 25) = u := ⟨_, rfl⟩
  change Vec (w.alloc (.cells #[.int .i64 r, .int .i64 c, v] 25)) _ _ at B0
  rw [hu0] at X0 B0
  clear hn hi hR h'
  go_enter Tryz.func29, Tryz.ntmps29
  go_wp2_with fail
  go_loopw [9] (fun i wr => ∃ k : Nat, k ≤ n ∧ i = .int .i64 k ∧ Hid (Ext u0 wr ∧ ∀ j, j < k → okAt c l j = true)) (fun i _ => n - (intOf i).toNat)
  case atStart => exact ⟨0, by omega, rfl, xr _, fun j hj => absurd hj (by omega)⟩
  case round =>
    obtain ⟨k, hk, rfl, HO⟩ := hrel
    by_cases hlt : k < n
    · have i2 : (k : Int) < (n : Int) := by omega
      have kc : (k : Int) ≤ (cap : Int) := by omega
      obtain ⟨b, o, e, hc⟩ := HI.out (by omega)
      have c1 := cell_later (xt X0 HO.out.1) (hc k hlt)
      have HT : Hid (IntsIn w (.slice p k cap) (l.take k)) := HW.out.take HN.out (by omega)
      have hlk : (l.take k).length ≤ 2000 := by rw [List.length_take]; omega
      subst e
      obtain ⟨b0, b1, b2⟩ := Vec.three (B0.later HO.out.1)
      obtain ⟨x, hx⟩ : ∃ x, l.getD k 0 = x := ⟨_, rfl⟩
      have HX : Hid (l.getD k 0 = x) := hx
      rw [hx] at c1
      clear hx hc
      have CL := lacksP r c v x wr
      have HK : Hid (okAt c l k = (!(decide (x < 1 ∨ c < x)) && !((l.take k).contains x))) := by show _ = _; unfold okAt; rw [HX.out]
      cases hb : decide (x < 1 ∨ c < x) with
      | true =>
        rw [hb] at CL
        have hr0 : R = false := by rw [← HR.out]; exact onceB_false (i := k) (by rw [HN.out]; exact hlt) (by rw [HK.out, hb]; rfl)
        subst hr0
        have HE : Hid (Ext w wr) := xt X0 HO.out.1
        clear hb HT hlk
        go_wp2_with (go_at_call 22; refine CL.mono ?_; rintro e w1 ⟨rfl, e1⟩)
        go_ret
        exact ⟨rfl, xt HE.out e1⟩
      | false =>
        rw [hb] at CL
        have HB : Hid (decide (x < 1 ∨ c < x) = false) := hb
        clear hb
        go_wp2_with fail
        clear c1 b0 b1 b2
        refine CL.mono ?_
        rintro e w1 ⟨rfl, e1⟩
        have CC := containsZ (.slice (some ⟨b, o, none⟩) k cap) (l.take k) x w1 (HT.out.later (xt (xt X0 HO.out.1) e1)) hlk
        have HE1 : Hid (Ext u0 w1) := xt HO.out.1 e1
        clear hlk CL
        go_wp2_with fail
        cases hq : (l.take k).contains x with
        | true =>
          rw [hq] at CC
          have hr0 : R = false := by rw [← HR.out]; exact onceB_false (i := k) (by rw [HN.out]; exact hlt) (by rw [HK.out, HB.out, hq]; rfl)
          subst hr0
          clear hq
          refine CC.mono ?_
          rintro e w2 ⟨rfl, e2⟩
          go_wp2_with fail
          go_ret
          exact ⟨rfl, xt X0 (xt HE1.out e2)⟩
        | false =>
          rw [hq] at CC
          have HM : Hid (∀ j, j < k + 1 → okAt c l j = true) := fun j hj => by
            by_cases e : j = k
            · subst e; rw [HK.out, HB.out, hq]; rfl
            · exact HO.out.2 j (by omega)
          clear hq
          refine CC.mono ?_
          rintro e w2 ⟨rfl, e2⟩
          have HE2 : Hid (Ext u0 w2) := xt HE1.out e2
          go_wp2_with fail
          go_roundw
          case rel => exact ⟨k + 1, by omega, by go_num, HE2.out, HM.out⟩
          case measure => simp [intOf]; omega
    · obtain rfl : k = n := by omega
      have hr : R = true := by
        rw [← HR.out]
        exact onceB_true fun i hi => HO.out.2 i (by rw [← HN.out]; exact hi)
      subst hr
      have HF : Hid (Ext w wr) := xt X0 HO.out.1
      go_wp2_with fail
      go_ret
      exact ⟨rfl, HF.out⟩
abbrev MT.val (e : MT) : Value := measureV e.cl e.fd
/-- What a function says of measures. -/
structure AsksM (w : World) (f : Nat) (lb : Array Value) (p : MT → Bool) : Prop where
  ent : ∀ args w, (callFunc f args).run Tryz.prog w = .ok (.enter f args) w
  says : ∀ W e, Ext w W → Calls Tryz.prog f (#[MT.val e] ++ lb) W fun z w' => z = .returned (.bool (p e)) ∧ Ext W w'

end Go.Proofs.YtbomplppgobkdaaGreatDoor

