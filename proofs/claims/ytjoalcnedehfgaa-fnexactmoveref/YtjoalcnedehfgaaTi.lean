/-
  The program's leftOf: what a turn leaves of a run.
-/
import Derived.Test.YtjoalcnedehfgaaTp
import Derived.Test.YtjoalcnedehfgaaRg
import Derived.Deep.RegionHeld3
namespace Go.Proofs.Ytjoalcnedehfgaa
open Go.RowKit

theorem Vec.made2T (w : World) (v0 v1 : Value) (t : TypeId) : Vec (w.alloc (.cells #[v0, v1] t)) w.heap.size [v0, v1] := by
  obtain ⟨⟨a0, a1⟩, f0, f1⟩ := Box2.made w v0 v1 t
  intro i v hi
  match i, hi with
  | 0, hi => cases hi; exact ⟨a0, f0⟩
  | 1, hi => cases hi; exact ⟨a1, f1⟩
theorem Vec.box2 {w : World} {b : Nat} {v0 v1 : Value} (h : Vec w b [v0, v1]) : Box2 w b v0 v1 := ⟨⟨(h 0 _ rfl).1, (h 1 _ rfl).1⟩, (h 0 _ rfl).2, (h 1 _ rfl).2⟩
def set2 (w : World) (b : Nat) (u0 u1 : Value) : World := (w.setCell ⟨b, 0, none⟩ u0).setCell ⟨b, 1, none⟩ u1
theorem Vec.put2 {w : World} {b : Nat} {v0 v1 : Value} (h : Vec w b [v0, v1]) (u0 u1 : Value) : Vec (set2 w b u0 u1) b [u0, u1] := (h.put 0 (by simp) u0).put 1 (by simp) u1
theorem Vec.far2 {w : World} {b k : Nat} {l : List Value} (h : Vec w b l) (hk : k ≠ b) (u0 u1 : Value) : Vec (set2 w k u0 u1) b l := (h.far (p := ⟨k, 0, none⟩) hk u0).far (p := ⟨k, 1, none⟩) hk u1
theorem Ext.set2 {a w : World} {b : Nat} (h : Ext a w) (hb : a.heap.size ≤ b) (u0 u1 : Value) : Ext a (set2 w b u0 u1) := xset (p := ⟨b, 1, none⟩) (xset (p := ⟨b, 0, none⟩) h hb u0) hb u1

set_option maxHeartbeats 1000000 in
theorem shiftedI (a b n p q : Int) (w : World) (h1 : IntKind.i64.wrap (a + n) = p) (h2 : IntKind.i64.wrap (b + n) = q) :
    Calls Try.prog 49 #[spV a b, .int .i64 n] w fun e w' => e = .returned (spV p q) ∧ Ext w w' := by
  go_enter Try.func49, Try.ntmps49
  go_wp2
  exact bodyPost_ret (v := spV p q) (by simp [results, Try.results49, go_sem]) rfl ⟨rfl, xa (x1 _ _) _⟩

/-- A box of a span that is made, perhaps not filled yet. -/
def Bv (made stored : Bool) (v : Value) (u0 u1 : Int) (w3 w : World) : Prop :=
  made = true → ∃ b, v = .pointer (some ⟨b, 0, none⟩) ∧ w3.heap.size ≤ b ∧ (stored = true → Vec w b [.int .i64 u0, .int .i64 u1]) ∧ (stored = false → Vec w b [.int .i64 0, .int .i64 0])
theorem Bv.later {made stored : Bool} {v : Value} {u0 u1 : Int} {w3 w w' : World} (h : Bv made stored v u0 u1 w3 w) (hx : Ext w w') : Bv made stored v u0 u1 w3 w' := fun hm => by
  obtain ⟨b, h1, h2, h3, h4⟩ := h hm
  exact ⟨b, h1, h2, fun h => (h3 h).later hx, fun h => (h4 h).later hx⟩
theorem Bv.far {made stored : Bool} {v : Value} {u0 u1 : Int} {w3 w : World} {k : Nat} (h : Bv made stored v u0 u1 w3 w) (hne : made = true → v ≠ .pointer (some ⟨k, 0, none⟩)) (c0 c1 : Value) : Bv made stored v u0 u1 w3 (set2 w k c0 c1) := fun hm => by
  obtain ⟨b, h1, h2, h3, h4⟩ := h hm
  have hb : k ≠ b := fun e => hne hm (by rw [h1, e])
  exact ⟨b, h1, h2, fun h => (h3 h).far2 hb _ _, fun h => (h4 h).far2 hb _ _⟩
theorem Bv.lt {made stored : Bool} {v : Value} {u0 u1 : Int} {w3 w : World} (h : Bv made stored v u0 u1 w3 w) (hm : made = true) {b : Nat} (hv : v = .pointer (some ⟨b, 0, none⟩)) : b < w.heap.size := by
  obtain ⟨b', h1, h2, h3, h4⟩ := h hm
  rw [hv] at h1
  cases h1
  cases stored
  · exact World.block_lt_of_cell? _ _ (h4 rfl).box2.1.1
  · exact World.block_lt_of_cell? _ _ (h3 rfl).box2.1.1
/-- By what has come up, in the region that takes what is common and shifts it. -/
def L6I (V1 V2 V3 V4 : Value) (F : Int) (s0 s1 g0 g1 : Int) (w3 : World) (L : Nat → Bool) (x : Nat → Value) (w : World) : Prop :=
  Ext w3 w ∧ (L 0 = true → x 39 = V1) ∧ (L 1 = true → x 40 = V2) ∧ (L 2 = true → x 41 = spV s0 s1) ∧ (L 3 = true → x 42 = V1) ∧ (L 4 = true → x 43 = V3) ∧ (L 5 = true → x 44 = V4) ∧ (L 6 = true → x 45 = .int .i64 F) ∧ (L 7 = true → x 46 = spV g0 g1) ∧
  Bv (L 8) (L 10) (x 9) s0 s1 w3 w ∧ Bv (L 9) (L 11) (x 10) g0 g1 w3 w ∧ (L 8 = true → L 9 = true → x 9 ≠ x 10) ∧ (L 10 = true → L 8 = true ∧ L 9 = true) ∧ (L 11 = true → L 8 = true ∧ L 9 = true)
theorem L6I.later {V1 V2 V3 V4 : Value} {F : Int} {s0 s1 g0 g1 : Int} {w3 : World} {L : Nat → Bool} {x : Nat → Value} {w w' : World} (h : L6I V1 V2 V3 V4 F s0 s1 g0 g1 w3 L x w) (hx : Ext w w') : L6I V1 V2 V3 V4 F s0 s1 g0 g1 w3 L x w' := by
  obtain ⟨X, f0, f1, f2, f3, f4, f5, f6, f7, f8, f9, f10, f11, f12⟩ := h
  exact ⟨xt X hx, f0, f1, f2, f3, f4, f5, f6, f7, f8.later hx, f9.later hx, f10, f11, f12⟩
theorem L6I.start {V1 V2 V3 V4 : Value} {F : Int} {s0 s1 g0 g1 : Int} {w3 : World} {x : Nat → Value} : L6I V1 V2 V3 V4 F s0 s1 g0 g1 w3 (fun _ => false) x { w3 with drawn := w3.drawn + 1 } := by
  refine ⟨xd (xr _), ?_, ?_, ?_, ?_, ?_, ?_, ?_, ?_, ?_, ?_, ?_, ?_, ?_⟩
  all_goals (intro h; cases h)

set_option maxRecDepth 8000 in
set_option maxHeartbeats 8000000 in
theorem leftI (k a m : Int) (d : Bool) (A B l : Int) (w : World) (hl : limT k = l) (hk : k = 1 ∨ k = 2) (hm : 1 ≤ m ∧ m ≤ 100) (ha : 1 ≤ a ∧ a ≤ l) (hd : d = true → a + m - 1 ≤ l) (hA : 1 ≤ A) (hAB : A ≤ B) (hB : B ≤ l) :
    Calls Try.prog 39 #[tuV k a m d, spV A B] w fun e w' => e = .returned (spV (lfF l a m d A B) (lfT l a m d A B)) ∧ Ext w w' := by
  have hl0 : l ≤ 1000 := by obtain ⟨x, e, h⟩ := limT_is k; rw [hl] at e; omega
  have LA : ∀ w, Calls Try.prog 26 #[.int .i64 k] w fun e w' => e = .returned (.int .i64 l) ∧ w' = w := fun w => by
    have e : l = (if k = 1 then 1000 else if k = 2 then 200 else 0) := by
      rw [← hl]
      unfold limT
      rcases hk with rfl | rfl <;> simp
    rw [e]
    exact lastI k w
  have wa : IntKind.i64.wrap (a - 1) = a - 1 := by rw [IntKind.wrap_i64]; omega
  have wl : IntKind.i64.wrap (l - m) = l - m := by rw [IntKind.wrap_i64]; omega
  have wm : IntKind.i64.wrap (a + m) = a + m := by rw [IntKind.wrap_i64]; omega
  have wn : IntKind.i64.wrap (-m) = -m := by rw [IntKind.wrap_i64]; omega
  obtain ⟨bf, hbf⟩ : ∃ x, bF a m d = x := ⟨_, rfl⟩
  obtain ⟨bt, hbt⟩ : ∃ x, bT l m d = x := ⟨_, rfl⟩
  obtain ⟨fr, hfr⟩ : ∃ x, fa m d = x := ⟨_, rfl⟩
  have X := x1 w (.cells #[.int .i64 k, .int .i64 a, .int .i64 m, .bool d] 25)
  have B2 := Vec.made4 w (.int .i64 k) (.int .i64 a) (.int .i64 m) (.bool d) 25
  obtain ⟨wa', ha'⟩ : ∃ u, w.alloc (.cells #[.int .i64 k, .int .i64 a, .int .i64 m, .bool d] 25) = u := ⟨_, rfl⟩
  rw [ha'] at B2 X
  have sa : wa'.heap.size = w.heap.size + 1 := by rw [← ha', World.size_alloc]
  have B3 := Vec.made2T wa' (.int .i64 A) (.int .i64 B) 67
  have x3 := x1 wa' (.cells #[.int .i64 A, .int .i64 B] 67)
  obtain ⟨wb, hb⟩ : ∃ u, wa'.alloc (.cells #[.int .i64 A, .int .i64 B] 67) = u := ⟨_, rfl⟩
  rw [hb] at B3 x3
  have sb : wb.heap.size = w.heap.size + 1 + 1 := by rw [← hb, World.size_alloc, sa]
  have B4 := Vec.made2T wb (.int .i64 0) (.int .i64 0) 67
  have x4 := x1 wb (.cells #[.int .i64 0, .int .i64 0] 67)
  rw [sa] at B3
  go_enter Try.func39, Try.ntmps39
  go_upto_region 1 with fail
  (try rw [ha'])
  (try rw [hb])
  obtain ⟨w0, hw0⟩ : ∃ u, wb.alloc (.cells #[.int .i64 0, .int .i64 0] 67) = u := ⟨_, rfl⟩
  have s0 : w0.heap.size = w.heap.size + 1 + 1 + 1 := by rw [← hw0, World.size_alloc, sb]
  rw [hw0] at B4 x4 ⊢
  rw [sb] at B4
  replace B2 := (B2.later x3).later x4
  replace B3 := B3.later x4
  replace X := xt (xt X x3) x4
  clear ha' hb hw0 sa sb x3 x4
  obtain ⟨⟨a0, a1, a2, a3⟩, _⟩ := B2.box4
  go_wp2_with fail
  refine (LA _).mono ?_
  rintro e w1 ⟨rfl, h1⟩
  rw [h1]
  clear h1 LA
  go_upto_region 3 with fail
  clear a0 a1 a2 a3
  have B6 := Vec.made2T w0 (.int .i64 1) (.int .i64 (a - 1)) 67
  have x6 := x1 w0 (.cells #[.int .i64 1, .int .i64 (a - 1)] 67)
  obtain ⟨w2, hw2⟩ : ∃ u, w0.alloc (.cells #[.int .i64 1, .int .i64 (a - 1)] 67) = u := ⟨_, rfl⟩
  have s2 : w2.heap.size = w.heap.size + 1 + 1 + 1 + 1 := by rw [← hw2, World.size_alloc, s0]
  rw [hw2] at B6 x6 ⊢
  rw [s0] at B6
  (try rw [s0])
  replace B2 := B2.later x6
  replace B3 := B3.later x6
  replace B4 := B4.later x6
  replace X := xt X x6
  clear hw2 s0 x6
  go_cut [7, 8] (fun u v wc => ∃ b7, u = .pointer (some ⟨b7, 0, none⟩) ∧ v = .int .i64 m ∧ w.heap.size + 1 + 1 + 1 + 1 ≤ b7 ∧ Vec wc b7 [.int .i64 a, .int .i64 (l - m)] ∧ Ext w2 wc)
  case first =>
    obtain ⟨⟨a0, a1, a2, a3⟩, _⟩ := B2.box4
    go_region_held3 (fun w' => w'.cell? ⟨w.heap.size, 0, none⟩ = some (.int .i64 k) ∧ w'.cell? ⟨w.heap.size, 1, none⟩ = some (.int .i64 a) ∧ w'.cell? ⟨w.heap.size, 2, none⟩ = some (.int .i64 m) ∧ w'.cell? ⟨w.heap.size, 3, none⟩ = some (.bool d)) (go_keep) (fail)
    all_goals go_wp2_with fail
    all_goals go_meet
    all_goals exact ⟨_, rfl, rfl, Nat.le_refl _, (s2 ▸ Vec.made2T w2 _ _ _).later (xd (xr _)), xd (x1 _ _)⟩
  case rest =>
    obtain ⟨b7, rfl, rfl, g7, B7, e3⟩ := hcut
    rename World => w3
    replace B2 := B2.later e3
    replace B3 := B3.later e3
    replace B4 := B4.later e3
    replace B6 := B6.later e3
    replace X := xt X e3
    have s3 := e3.size
    clear e3
    obtain ⟨⟨a0, a1, a2, a3⟩, _⟩ := B2.box4
    go_upto_if 28 with fail
    clear a0 a1 a2 a3
    go_cut [8] (fun v wc => v = .int .i64 fr ∧ Vec wc b7 [.int .i64 bf, .int .i64 bt] ∧ Vec wc (w.heap.size + 1) [.int .i64 A, .int .i64 B] ∧ Vec wc (w.heap.size + 1 + 1) [.int .i64 0, .int .i64 0] ∧ Vec wc (w.heap.size + 1 + 1 + 1) [.int .i64 1, .int .i64 (a - 1)] ∧ Ext w wc ∧ w2.heap.size ≤ wc.heap.size)
    case first =>
      cases d
      · go_wp2_with fail
        go_meet
        case rel => exact ⟨by rw [← hfr]; rfl, by rw [← hbf, ← hbt]; exact B7, B3, B4, B6, X, s3⟩
      · obtain ⟨⟨a0, a1, a2, a3⟩, _⟩ := B2.box4
        obtain ⟨⟨c0, c1⟩, c2, c3⟩ := B7.box2
        have n7 : b7 ≠ w.heap.size := by omega
        have n7' : w.heap.size ≠ b7 := by omega
        go_upto_region 5 with fail
        go_region_held3 (fun w' => w'.cell? ⟨w.heap.size, 0, none⟩ = some (.int .i64 k) ∧ w'.cell? ⟨w.heap.size, 1, none⟩ = some (.int .i64 a) ∧ w'.cell? ⟨w.heap.size, 2, none⟩ = some (.int .i64 m) ∧ w'.cell? ⟨w.heap.size, 3, none⟩ = some (.bool true)) (go_keep) (fail)
        all_goals go_wp2_with fail
        all_goals go_meet
        all_goals exact ⟨by rw [← hfr]; rfl, by rw [← hbf, ← hbt]; exact (B7.put2 _ _).later (xd (xr _)), (B3.far2 (by omega) _ _).later (xd (xr _)), (B4.far2 (by omega) _ _).later (xd (xr _)), (B6.far2 (by omega) _ _).later (xd (xr _)), xd (Ext.set2 X (by omega) _ _), by simpa using s3⟩
    case rest =>
      obtain ⟨rfl, C7, C3, C4, C6, CX, s4⟩ := hcut
      rename World => w4
      clear B2 B3 B4 B6 B7 X wa wl wm wn s3
      have GB := gF_is a m d A
      have GT := gT_is l m d B
      obtain ⟨s0, hs0⟩ : ∃ x, hi A 1 = x := ⟨_, rfl⟩
      obtain ⟨s1, hs1⟩ : ∃ x, lo B (a - 1) = x := ⟨_, rfl⟩
      obtain ⟨g0, hg0⟩ : ∃ x, gF a m d A = x := ⟨_, rfl⟩
      obtain ⟨g1, hg1⟩ : ∃ x, gT l m d B = x := ⟨_, rfl⟩
      have hF : Hid (lfF l a m d A B = (if s1 < s0 then g0 else if g1 < g0 then s0 else lo s0 g0)) := by unfold Hid lfF; rw [hs0, hs1, hg0, hg1]
      have hT : Hid (lfT l a m d A B = (if s1 < s0 then g1 else if g1 < g0 then s1 else hi s1 g1)) := by unfold Hid lfT; rw [hs0, hs1, hg0, hg1]
      have hg0' : hi A bf + fr = g0 := by rw [← hg0, ← hbf, ← hfr]; rfl
      have hg1' : lo B bt + fr = g1 := by rw [← hg1, ← hbt, ← hfr]; rfl
      have wg0 : IntKind.i64.wrap (hi A bf + fr) = g0 := by rw [hg0', IntKind.wrap_i64]; rw [hg0] at GB; cases d <;> simp at GB hd <;> omega
      have wg1 : IntKind.i64.wrap (lo B bt + fr) = g1 := by rw [hg1', IntKind.wrap_i64]; rw [hg1] at GT; cases d <;> simp at GT hd <;> omega
      have CM1 : Hid (∀ w, Calls Try.prog 48 #[spV A B, spV 1 (a - 1)] w fun e w' => e = .returned (spV s0 s1) ∧ Ext w w') := fun w => by rw [← hs0, ← hs1]; exact spanCommon A B 1 (a - 1) w
      have CM2 : Hid (∀ w, Calls Try.prog 48 #[spV A B, spV bf bt] w fun e w' => e = .returned (spV (hi A bf) (lo B bt)) ∧ Ext w w') := fun w => spanCommon A B bf bt w
      have SH : Hid (∀ w, Calls Try.prog 49 #[spV (hi A bf) (lo B bt), .int .i64 fr] w fun e w' => e = .returned (spV g0 g1) ∧ Ext w w') := fun w => shiftedI _ _ _ _ _ w wg0 wg1
      clear GB GT hg0 hg1 hs0 hs1 hg0' hg1' wg0 wg1 hbf hbt hfr
      obtain ⟨h2, hh2⟩ : ∃ x, hi A bf = x := ⟨_, rfl⟩
      obtain ⟨l2, hl2⟩ : ∃ x, lo B bt = x := ⟨_, rfl⟩
      rw [hh2, hl2] at CM2 SH
      clear hh2 hl2
      go_upto_region 6 with fail
      go_cut [9, 10] (fun v x wc => ∃ b9 b10, v = .pointer (some ⟨b9, 0, none⟩) ∧ x = .pointer (some ⟨b10, 0, none⟩) ∧ Vec wc b9 [.int .i64 s0, .int .i64 s1] ∧ Vec wc b10 [.int .i64 g0, .int .i64 g1] ∧ Ext w4 wc)
      case first =>
        refine wp_region_letters (fun x : Nat → Value => { tmps := #[tuV k a m d, spV A B, Value.pointer (some ⟨w.heap.size, 0, none⟩), Value.pointer (some ⟨w.heap.size + 1, 0, none⟩), Value.pointer (some ⟨w.heap.size + 1 + 1, 0, none⟩), Value.int .i64 l, Value.pointer (some ⟨w.heap.size + 1 + 1 + 1, 0, none⟩), Value.pointer (some ⟨b7, 0, none⟩), Value.int .i64 fr, x 9, x 10, u11, u12, u13, u14, u15, u16, u17, u18, u19, u20, u21, u22, u23, u24, u25, u26, u27, u28, u29, u30, u31, u32, u33, u34, u35, u36, u37, u38, x 39, x 40, x 41, x 42, x 43, x 44, x 45, x 46, undef, u48, u49, u50, undef, u52, u53, u54, u55, u56, u57], defers := [] }) (L6I (spV A B) (spV 1 (a - 1)) (spV bf bt) (spV h2 l2) fr s0 s1 g0 g1 w4) rfl (by kernel_rfl) (fun n => if n = 9 then undef else if n = 10 then undef else if n = 39 then u39 else if n = 40 then u40 else if n = 41 then u41 else if n = 42 then u42 else if n = 43 then u43 else if n = 44 then u44 else if n = 45 then u45 else if n = 46 then u46 else undef) rfl L6I.start ?_ ?_
        · intro L x wl i o K hK ho hL haf hI
          obtain ⟨X, f0, f1, f2, f3, f4, f5, f6, f7, f8, f9, f10, f11, f12⟩ := id hI
          have C3' := C3.later X
          have C6' := C6.later X
          have C7' := C7.later X
          match i, ho, hL, haf, hK with
          | 0, ho, hL, haf, hK =>
            simp only [List.getElem?_toArray, List.getElem?_cons_zero, Option.some.injEq] at ho
            subst ho
            dsimp only
            obtain ⟨⟨p0, p1⟩, _⟩ := C3'.box2
            have hN := hI
            obtain ⟨Y0, g0', g1', g2', g3', g4', g5', g6', g7', g8', g9', g10', g11', g12'⟩ := hN
            go_wp2_with fail
            exact hK (fun n => if n = 39 then (spV A B) else x n) _ ⟨Y0, (fun _ => rfl), g1', g2', g3', g4', g5', g6', g7', g8', g9', g10', g11', g12'⟩
          | 1, ho, hL, haf, hK =>
            simp only [List.getElem?_toArray, List.getElem?_cons_zero, List.getElem?_cons_succ, Option.some.injEq] at ho
            subst ho
            dsimp only
            obtain ⟨⟨p0, p1⟩, _⟩ := C6'.box2
            have hN := hI
            obtain ⟨Y0, g0', g1', g2', g3', g4', g5', g6', g7', g8', g9', g10', g11', g12'⟩ := hN
            go_wp2_with fail
            exact hK (fun n => if n = 40 then (spV 1 (a - 1)) else x n) _ ⟨Y0, g0', (fun _ => rfl), g2', g3', g4', g5', g6', g7', g8', g9', g10', g11', g12'⟩
          | 2, ho, hL, haf, hK =>
            simp only [List.getElem?_toArray, List.getElem?_cons_zero, List.getElem?_cons_succ, Option.some.injEq] at ho
            subst ho
            dsimp only
            rw [f0 (haf ⟨0, .data⟩ (by simp) rfl), f1 (haf ⟨1, .data⟩ (by simp) rfl)]
            go_wp2_with fail
            refine (CM1.out _).mono ?_
            rintro rr w' ⟨rfl, E⟩
            have hN := hI.later E
            clear hI
            obtain ⟨Y0, g0', g1', g2', g3', g4', g5', g6', g7', g8', g9', g10', g11', g12'⟩ := hN
            go_wp2_with fail
            exact hK (fun n => if n = 41 then (spV s0 s1) else if n = 39 then (spV A B) else if n = 40 then (spV 1 (a - 1)) else x n) _ ⟨Y0, (fun _ => rfl), (fun _ => rfl), (fun _ => rfl), g3', g4', g5', g6', g7', g8', g9', g10', g11', g12'⟩
          | 3, ho, hL, haf, hK =>
            simp only [List.getElem?_toArray, List.getElem?_cons_zero, List.getElem?_cons_succ, Option.some.injEq] at ho
            subst ho
            dsimp only
            obtain ⟨⟨p0, p1⟩, _⟩ := C3'.box2
            have hN := hI
            obtain ⟨Y0, g0', g1', g2', g3', g4', g5', g6', g7', g8', g9', g10', g11', g12'⟩ := hN
            go_wp2_with fail
            exact hK (fun n => if n = 42 then (spV A B) else x n) _ ⟨Y0, g0', g1', g2', (fun _ => rfl), g4', g5', g6', g7', g8', g9', g10', g11', g12'⟩
          | 4, ho, hL, haf, hK =>
            simp only [List.getElem?_toArray, List.getElem?_cons_zero, List.getElem?_cons_succ, Option.some.injEq] at ho
            subst ho
            dsimp only
            obtain ⟨⟨p0, p1⟩, _⟩ := C7'.box2
            have hN := hI
            obtain ⟨Y0, g0', g1', g2', g3', g4', g5', g6', g7', g8', g9', g10', g11', g12'⟩ := hN
            go_wp2_with fail
            exact hK (fun n => if n = 43 then (spV bf bt) else x n) _ ⟨Y0, g0', g1', g2', g3', (fun _ => rfl), g5', g6', g7', g8', g9', g10', g11', g12'⟩
          | 5, ho, hL, haf, hK =>
            simp only [List.getElem?_toArray, List.getElem?_cons_zero, List.getElem?_cons_succ, Option.some.injEq] at ho
            subst ho
            dsimp only
            rw [f3 (haf ⟨3, .data⟩ (by simp) rfl), f4 (haf ⟨4, .data⟩ (by simp) rfl)]
            go_wp2_with fail
            refine (CM2.out _).mono ?_
            rintro rr w' ⟨rfl, E⟩
            have hN := hI.later E
            clear hI
            obtain ⟨Y0, g0', g1', g2', g3', g4', g5', g6', g7', g8', g9', g10', g11', g12'⟩ := hN
            go_wp2_with fail
            exact hK (fun n => if n = 44 then (spV h2 l2) else if n = 42 then (spV A B) else if n = 43 then (spV bf bt) else x n) _ ⟨Y0, g0', g1', g2', (fun _ => rfl), (fun _ => rfl), (fun _ => rfl), g6', g7', g8', g9', g10', g11', g12'⟩
          | 6, ho, hL, haf, hK =>
            simp only [List.getElem?_toArray, List.getElem?_cons_zero, List.getElem?_cons_succ, Option.some.injEq] at ho
            subst ho
            dsimp only
            have hN := hI
            obtain ⟨Y0, g0', g1', g2', g3', g4', g5', g6', g7', g8', g9', g10', g11', g12'⟩ := hN
            go_wp2_with fail
            exact hK (fun n => if n = 45 then (.int .i64 fr) else x n) _ ⟨Y0, g0', g1', g2', g3', g4', g5', (fun _ => rfl), g7', g8', g9', g10', g11', g12'⟩
          | 7, ho, hL, haf, hK =>
            simp only [List.getElem?_toArray, List.getElem?_cons_zero, List.getElem?_cons_succ, Option.some.injEq] at ho
            subst ho
            dsimp only
            rw [f5 (haf ⟨5, .data⟩ (by simp) rfl), f6 (haf ⟨6, .data⟩ (by simp) rfl)]
            go_wp2_with fail
            refine (SH.out _).mono ?_
            rintro rr w' ⟨rfl, E⟩
            have hN := hI.later E
            clear hI
            obtain ⟨Y0, g0', g1', g2', g3', g4', g5', g6', g7', g8', g9', g10', g11', g12'⟩ := hN
            go_wp2_with fail
            exact hK (fun n => if n = 46 then (spV g0 g1) else if n = 44 then (spV h2 l2) else if n = 45 then (.int .i64 fr) else x n) _ ⟨Y0, g0', g1', g2', g3', g4', (fun _ => rfl), (fun _ => rfl), (fun _ => rfl), g8', g9', g10', g11', g12'⟩
          | 8, ho, hL, haf, hK =>
            simp only [List.getElem?_toArray, List.getElem?_cons_zero, List.getElem?_cons_succ, Option.some.injEq] at ho
            subst ho
            dsimp only
            have hst : L 10 = true → False := fun h => by have := (f11 h).1; rw [hL] at this; cases this
            have hne : L 9 = true → Value.pointer (some ⟨wl.heap.size, 0, none⟩) ≠ x 10 := fun h e => absurd (Bv.lt f9 h e.symm) (Nat.lt_irrefl _)
            have hN := hI.later (x1 wl (.cells #[.int .i64 0, .int .i64 0] 67))
            obtain ⟨Y0, g0', g1', g2', g3', g4', g5', g6', g7', g8', g9', g10', g11', g12'⟩ := hN
            go_wp2_with fail
            exact hK (fun n => if n = 9 then Value.pointer (some ⟨wl.heap.size, 0, none⟩) else x n) _ ⟨Y0, g0', g1', g2', g3', g4', g5', g6', g7', (fun _ => ⟨wl.heap.size, rfl, X.size, fun h => (hst h).elim, fun _ => Vec.made2T wl _ _ _⟩), g9', (fun h h' e => hne h' e), (fun h => ⟨rfl, (g11' h).2⟩), (fun h => ⟨rfl, (g12' h).2⟩)⟩
          | 9, ho, hL, haf, hK =>
            simp only [List.getElem?_toArray, List.getElem?_cons_zero, List.getElem?_cons_succ, Option.some.injEq] at ho
            subst ho
            dsimp only
            have hst : L 11 = true → False := fun h => by have := (f12 h).2; rw [hL] at this; cases this
            have hne : L 8 = true → Value.pointer (some ⟨wl.heap.size, 0, none⟩) ≠ x 9 := fun h e => absurd (Bv.lt f8 h e.symm) (Nat.lt_irrefl _)
            have hN := hI.later (x1 wl (.cells #[.int .i64 0, .int .i64 0] 67))
            obtain ⟨Y0, g0', g1', g2', g3', g4', g5', g6', g7', g8', g9', g10', g11', g12'⟩ := hN
            go_wp2_with fail
            exact hK (fun n => if n = 10 then Value.pointer (some ⟨wl.heap.size, 0, none⟩) else x n) _ ⟨Y0, g0', g1', g2', g3', g4', g5', g6', g7', g8', (fun _ => ⟨wl.heap.size, rfl, X.size, fun h => (hst h).elim, fun _ => Vec.made2T wl _ _ _⟩), (fun h h' e => hne h e.symm), (fun h => ⟨(g11' h).1, rfl⟩), (fun h => ⟨(g12' h).1, rfl⟩)⟩
          | 10, ho, hL, haf, hK =>
            simp only [List.getElem?_toArray, List.getElem?_cons_zero, List.getElem?_cons_succ, Option.some.injEq] at ho
            subst ho
            dsimp only
            have h8 : L 8 = true := haf ⟨8, .data⟩ (by simp) rfl
            have h9 : L 9 = true := haf ⟨9, .phase⟩ (by simp) rfl
            obtain ⟨b, eb', hb, _, hz⟩ := f8 h8
            have hbx := hz hL
            have hne := f10 h8 h9
            rw [eb'] at hne
            rw [eb', f2 (haf ⟨2, .data⟩ (by simp) rfl)]
            obtain ⟨⟨c0, c1⟩, c2, c3⟩ := hbx.box2
            have hX := Ext.set2 X hb (.int .i64 s0) (.int .i64 s1)
            have hB := hbx.put2 (.int .i64 s0) (.int .i64 s1)
            have hF' := f9.far (k := b) (fun _ e => hne e.symm) (.int .i64 s0) (.int .i64 s1)
            go_wp2_with fail
            exact hK (fun n => if n = 9 then .pointer (some ⟨b, 0, none⟩) else if n = 41 then (spV s0 s1) else x n) _ ⟨hX, f0, f1, fun _ => rfl, f3, f4, f5, f6, f7, fun _ => ⟨b, rfl, hb, fun _ => hB, fun h => by cases h⟩, hF', fun _ _ => hne, fun _ => ⟨h8, h9⟩, f12⟩
          | 11, ho, hL, haf, hK =>
            simp only [List.getElem?_toArray, List.getElem?_cons_zero, List.getElem?_cons_succ, Option.some.injEq] at ho
            subst ho
            dsimp only
            have h8 : L 8 = true := haf ⟨8, .phase⟩ (by simp) rfl
            have h9 : L 9 = true := haf ⟨9, .data⟩ (by simp) rfl
            obtain ⟨b, eb', hb, _, hz⟩ := f9 h9
            have hbx := hz hL
            have hne := f10 h8 h9
            rw [eb'] at hne
            rw [eb', f7 (haf ⟨7, .data⟩ (by simp) rfl)]
            obtain ⟨⟨c0, c1⟩, c2, c3⟩ := hbx.box2
            have hX := Ext.set2 X hb (.int .i64 g0) (.int .i64 g1)
            have hB := hbx.put2 (.int .i64 g0) (.int .i64 g1)
            have hF' := f8.far (k := b) (fun _ e => hne e) (.int .i64 g0) (.int .i64 g1)
            go_wp2_with fail
            exact hK (fun n => if n = 10 then .pointer (some ⟨b, 0, none⟩) else if n = 46 then (spV g0 g1) else x n) _ ⟨hX, f0, f1, f2, f3, f4, f5, f6, fun _ => rfl, hF', fun _ => ⟨b, rfl, hb, fun _ => hB, fun h => by cases h⟩, fun _ _ => hne, f11, fun _ => ⟨h8, h9⟩⟩
          | k + 12, ho, _, _, _ => simp at ho
        · intro L x wl hall hI
          obtain ⟨X, f0, f1, f2, f3, f4, f5, f6, f7, f8, f9, f10, f11, f12⟩ := hI
          obtain ⟨b, eb', hb, hz, _⟩ := f8 (hall 8 (by simp))
          obtain ⟨c, ec', hc, hy, _⟩ := f9 (hall 9 (by simp))
          have h10 := hz (hall 10 (by simp))
          have h11 := hy (hall 11 (by simp))
          dsimp only
          clear f0 f1 f2 f3 f4 f5 f6 f7 f8 f9 f10 f11 f12 hz hy
          go_wp2_with fail
          go_meet
          case rel => exact ⟨b, c, eb', ec', h10, h11, X⟩
      case rest =>
        obtain ⟨b9, b10, rfl, rfl, D9, D10, e5⟩ := hcut
        rename World => w5
        replace C4 := C4.later e5
        replace CX := xt CX e5
        clear C3 C6 C7 CM1 CM2 SH e5
        obtain ⟨R, hR⟩ : ∃ R, spV (lfF l a m d A B) (lfT l a m d A B) = R := ⟨_, rfl⟩
        have R1 : Hid (s1 < s0 → spV g0 g1 = R) := fun h => by rw [← hR, hF.out, hT.out, if_pos h, if_pos h]
        have R2 : Hid (¬ s1 < s0 → g1 < g0 → spV s0 s1 = R) := fun h h' => by rw [← hR, hF.out, hT.out, if_neg h, if_neg h, if_pos h', if_pos h']
        have R3 : Hid (¬ s1 < s0 → ¬ g1 < g0 → spV (lo s0 g0) (hi s1 g1) = R) := fun h h' => by rw [← hR, hF.out, hT.out, if_neg h, if_neg h, if_neg h', if_neg h']
        have HR : Hid (spV (lfF l a m d A B) (lfT l a m d A B) = R) := hR
        clear hR hF hT
        obtain ⟨⟨p0, p1⟩, _⟩ := D9.box2
        go_wp2_with fail
        refine (spanEmpty s0 s1 _).mono ?_
        rintro rr w6 ⟨rfl, e6⟩
        clear p0 p1
        replace D9 := D9.later e6
        replace D10 := D10.later e6
        replace C4 := C4.later e6
        replace CX := xt CX e6
        clear e6
        obtain ⟨⟨p0, p1⟩, _⟩ := D9.box2
        obtain ⟨⟨q0, q1⟩, _⟩ := D10.box2
        obtain ⟨⟨m0, m1⟩, m2, m3⟩ := C4.box2
        by_cases h1 : s1 < s0
        · have f1 : decide (s0 > s1) = true := decide_eq_true h1
          have RR : Hid (spV g0 g1 = R) := R1.out h1
          rw [f1]
          clear R1 R2 R3 h1 f1
          go_wp2
          exact bodyPost_ret (v := spV g0 g1) (by simp [results, Try.results39, go_sem, m0, m1]) rfl ⟨congrArg Ending.returned (RR.out.trans HR.out.symm), Ext.set2 CX (by omega) _ _⟩
        · have f1 : decide (s0 > s1) = false := decide_eq_false h1
          rw [f1]
          go_wp2_with fail
          refine (spanEmpty g0 g1 _).mono ?_
          rintro rr w7 ⟨rfl, e7⟩
          clear p0 p1 q0 q1 m0 m1 m2 m3
          replace D9 := D9.later e7
          replace D10 := D10.later e7
          replace C4 := C4.later e7
          replace CX := xt CX e7
          clear e7
          obtain ⟨⟨p0, p1⟩, _⟩ := D9.box2
          obtain ⟨⟨q0, q1⟩, _⟩ := D10.box2
          obtain ⟨⟨m0, m1⟩, m2, m3⟩ := C4.box2
          by_cases h2 : g1 < g0
          · have f2 : decide (g0 > g1) = true := decide_eq_true h2
            have RR : Hid (spV s0 s1 = R) := R2.out (by first | exact h1 | omega) (by first | exact h2 | omega)
            rw [f2]
            clear R1 R2 R3 h1 h2 f1 f2
            go_wp2
            exact bodyPost_ret (v := spV s0 s1) (by simp [results, Try.results39, go_sem, m0, m1]) rfl ⟨congrArg Ending.returned (RR.out.trans HR.out.symm), Ext.set2 CX (by omega) _ _⟩
          · have f2 : decide (g0 > g1) = false := decide_eq_false h2
            have RR : Hid (spV (lo s0 g0) (hi s1 g1) = R) := R3.out (by first | exact h1 | omega) (by first | exact h2 | omega)
            rw [f2]
            clear R1 R2 R3 h1 h2 f1 f2
            go_wp2_with fail
            refine (spanAround s0 s1 g0 g1 _).mono ?_
            rintro rr w8 ⟨rfl, e8⟩
            clear m0 m1 m2 m3
            obtain ⟨⟨m0, m1⟩, m2, m3⟩ := (C4.later e8).box2
            obtain ⟨y0, hy0⟩ : ∃ y, lo s0 g0 = y := ⟨_, rfl⟩
            obtain ⟨y1, hy1⟩ : ∃ y, hi s1 g1 = y := ⟨_, rfl⟩
            rw [hy0, hy1] at RR
            rw [hy0, hy1]
            clear hy0 hy1
            go_wp2
            exact bodyPost_ret (v := spV y0 y1) (by simp [results, Try.results39, go_sem, m0, m1]) rfl ⟨congrArg Ending.returned (RR.out.trans HR.out.symm), Ext.set2 (xt CX e8) (by omega) _ _⟩

end Go.Proofs.Ytjoalcnedehfgaa
