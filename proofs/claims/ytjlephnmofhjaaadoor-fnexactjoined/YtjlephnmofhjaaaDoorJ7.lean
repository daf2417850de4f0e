/-
  Chapter 7: a grid filled cell by cell, by any function that only makes memory, of the program.
-/
import Derived.Test.YtjlephnmofhjaaaDoorJ6
import Derived.Test.YtjlephnmofhjaaaDoorMg5
import Derived.Test.YtjlephnmofhjaaaDoorMg17
import Derived.Shelf.Abstract
namespace Go.Proofs.YtjlephnmofhjaaaDoor
open Go.RowKit

/-- The cells of a grid by a function, the first n of them. -/
def gridN (c : Nat → Nat → VT) (C n : Nat) : List VT := (List.range n).map fun i => c (i / C) (i % C)
theorem gridN_length (c : Nat → Nat → VT) (C n : Nat) : (gridN c C n).length = n := by simp [gridN]
theorem gridN_succ (c : Nat → Nat → VT) (C n : Nat) : gridN c C (n + 1) = gridN c C n ++ [c (n / C) (n % C)] := by simp [gridN, List.range_succ]
theorem infoVT : ∃ inf, Tryd.prog.info? 39 = some inf ∧ inf.zero = some (.agg #[.int .i64 0, .bool false, .int .i64 0, .int .i64 0, sV []]) ∧ inf.size = 5 ∧ inf.bytes = 48 := by
 have h := infoV
 cases h' : Tryd.prog.info? 39 with
 | none => rw [h'] at h; cases h
 | some inf =>
  rw [h'] at h
  simp at h
  exact ⟨inf, rfl, h.1, h.2.1, h.2.2⟩
/-- One more value. -/
theorem app_val (w : World) (base : Nat) (v : Value) (l : List VT) (O : OwnW w base v l) (e : VT) (b : Nat) (V : Vec w b e.cells) (hl : l.length ≤ 100000000) (hb : base ≤ w.heap.size) :
  ∃ v' w', (Builtin.append_ #[26, 26] 26 #[v, .slice (some ⟨b, 0, none⟩) 1 1]).run Tryd.prog w = .ok v' w' ∧ OwnW w' base v' (l ++ [e]) ∧ w.grownBy w' v.ownBlock ∧ (v'.ownBlock = v.ownBlock ∨ v'.ownBlock = some w.heap.size) := by
 obtain ⟨inf, hi, hz, hsz, hby⟩ := infoVT
 obtain ⟨v', w', hrun, O', GW, hb'⟩ := app_srcG (P := Tryd.prog) w base 26 26 26 39 inf _ Tryd.underlying26 hi hz 5 hsz (by rw [hby]; omega) rfl v l.length _ O (.slice (some ⟨b, 0, none⟩) 1 1) 1 e.cells
  (Src.ofSlice (size := 5) w Tryd.underlying26 ⟨b, 0, none⟩ 1 1 e.cells rfl (fun j u hj => by rw [Addr.add_lit, Nat.zero_add]; exact (V j u hj).1) (fun u hu => by simp at hu; rcases hu with rfl | rfl | rfl | rfl | rfl <;> rfl)) (by omega) hb
 refine ⟨v', w', hrun, ?_, GW, hb'⟩
 show World.ownsRow _ _ _ _ _ _ _
 rw [List.length_append, flatV_append]
 simpa [flatV] using O'
theorem makeCapV (n : Nat) (hn : n ≤ 2000000) (w : World) :
  (Instr.makeSlice 26 (.int .i64 0) (.int .i64 (n : Int))).run Tryd.prog w = .ok (.slice (some ⟨w.heap.size, 0, none⟩) 0 n) (w.alloc (.cells (madeCells #[.int .i64 0, .bool false, .int .i64 0, .int .i64 0, sV []] (n * 5)) 39)) := by
 obtain ⟨i, hi, hzz⟩ := Option.map_eq_some_iff.1 infoV
 simp only [Prod.mk.injEq] at hzz
 obtain ⟨hz, hs, hb⟩ := hzz
 have hr := run_make (P := Tryd.prog) w 26 39 i _ Tryd.underlying26 hi hz .i64 .i64 0 n (by omega) (by omega) (by rw [hb]; omega) (by omega)
 simp only [Int.toNat_natCast, hs] at hr
 exact hr
theorem ownW_made (w : World) (n : Nat) (hn : n ≤ 2000000) : OwnW (w.alloc (.cells (madeCells #[.int .i64 0, .bool false, .int .i64 0, .int .i64 0, sV []] (n * 5)) 39)) w.heap.size (.slice (some ⟨w.heap.size, 0, none⟩) 0 n) [] := by
 refine ⟨rfl, .inr ⟨w.heap.size, n, _, rfl, Nat.le_refl _, heap_alloc_new w _, Nat.zero_le _, by unfold maxLen; omega, ?_, rfl⟩⟩
 unfold madeCells
 simp
theorem ownW_apart {w : World} {base : Nat} {v : Value} {l : List VT} (h : OwnW w base v l) {p : Addr} {u : Value} (hp : ∀ g, v.ownBlock = some g → p.block ≠ g) : OwnW (w.setCell p u) base v l := by
 refine ⟨h.1, h.2.imp id ?_⟩
 rintro ⟨g, cap, cur, h1, h2, h3, h4⟩
 exact ⟨g, cap, cur, h1, h2, by rw [heap_setCell_other _ _ _ _ (by have := hp g (by rw [h1]; rfl); omega)]; exact h3, h4⟩
/-- What a function says of cells. -/
structure AsksC (w : World) (f : Nat) (lb : Array Value) (R C : Nat) (c : Nat → Nat → VT) : Prop where
 ent : ∀ args w, (callFunc f args).run Tryd.prog w = .ok (.enter f args) w
 says : ∀ W i j, Ext w W → i < R → j < C → Calls Tryd.prog f (#[.int .i64 (i : Int), .int .i64 (j : Int)] ++ lb) W fun z w' => z = .returned (c i j).val ∧ Ext W w'
set_option maxRecDepth 8000 in
set_option maxHeartbeats 4000000 in
theorem filledI (f : Nat) (lb : Array Value) (R C : Nat) (c : Nat → Nat → VT) (w : World) (A : AsksC w f lb R C c) (hR : 1 ≤ R) (hC : 1 ≤ C) (hRC : R * C ≤ 2000) :
  Calls Tryd.prog 19 #[.int .i64 R, .int .i64 C, .func (.func f) #[] lb] w fun e w' => ∃ sv, e = .returned (grV R C sv) ∧ OwnW w' w.heap.size sv (gridN c C (R * C)) ∧ Ext w w' := by
 obtain ⟨N, hN⟩ : ∃ N, R * C = N := ⟨_, rfl⟩
 have hN' : (R : Int) * (C : Int) = (N : Int) := by rw [← hN]; simp
 obtain ⟨q, hq⟩ : ∃ q : Int, (2000 : Int).tdiv C = q := ⟨_, rfl⟩
 have q1 : (R : Int) ≤ q := by
  rw [← hq, Int.tdiv_eq_ediv_of_nonneg (by omega)]
  exact (Int.le_ediv_iff_mul_le (by omega)).2 (by rw [hN']; omega)
 have q2 : q ≤ 2000 := by
  rw [← hq, Int.tdiv_eq_ediv_of_nonneg (by omega)]
  exact Int.ediv_le_self _ (by omega)
 have hq2 : (2000 : Int) / (C : Int) = q := by rw [← hq, Int.tdiv_eq_ediv_of_nonneg (by omega)]
 have d1 : decide ((R : Int) > q) = false := decide_eq_false (by omega)
 have d2 : decide (q < (R : Int)) = false := decide_eq_false (by omega)
 have c0 : ¬ ((C : Int) = 0) := by omega
 have c0' : ((C : Int) == 0) = false := by simpa using c0
 rw [hN]
 rw [hN] at hRC
 have hRN : R ≤ N := by rw [← hN]; exact Nat.le_mul_of_pos_right _ (by omega)
 have hCN : C ≤ N := by rw [← hN]; exact Nat.le_mul_of_pos_left _ (by omega)
 have HA : Hid (AsksC w f lb R C c) := A
 have HN : Hid (R * C = N) := hN
 have ent := A.ent
 have X1 := x1 w (.cells #[.int .i64 0, .int .i64 0, .slice none 0 0] 28)
 have B1 := vec_made w [.int .i64 0, .int .i64 0, .slice none 0 0] 28
 change Vec (w.alloc (.cells #[.int .i64 0, .int .i64 0, .slice none 0 0] 28)) _ _ at B1
 obtain ⟨u1, hu1⟩ : ∃ u, w.alloc (.cells #[.int .i64 0, .int .i64 0, .slice none 0 0] 28) = u := ⟨_, rfl⟩
 have s1 : u1.heap.size = w.heap.size + 1 := by rw [← hu1, World.size_alloc]
 rw [hu1] at X1 B1
 have hmk := makeCapV N (by omega) u1
 have O2 := ownW_made u1 N (by omega)
 have X2 := x1 u1 (.cells (madeCells #[.int .i64 0, .bool false, .int .i64 0, .int .i64 0, sV []] (N * 5)) 39)
 obtain ⟨u2, hu2⟩ : ∃ u, u1.alloc (.cells (madeCells #[.int .i64 0, .bool false, .int .i64 0, .int .i64 0, sV []] (N * 5)) 39) = u := ⟨_, rfl⟩
 have s2 : u2.heap.size = w.heap.size + 1 + 1 := by rw [← hu2, World.size_alloc, s1]
 rw [hu2] at hmk O2 X2
 rw [s1] at hmk O2
 have B3 := vec_made u2 [.int .i64 R, .int .i64 C, .slice (some ⟨w.heap.size + 1, 0, none⟩) 0 N] 28
 have X3 := x1 u2 (.cells #[.int .i64 R, .int .i64 C, .slice (some ⟨w.heap.size + 1, 0, none⟩) 0 N] 28)
 change Vec (u2.alloc (.cells #[.int .i64 R, .int .i64 C, .slice (some ⟨w.heap.size + 1, 0, none⟩) 0 N] 28)) _ _ at B3
 obtain ⟨u3, hu3⟩ : ∃ u, u2.alloc (.cells #[.int .i64 R, .int .i64 C, .slice (some ⟨w.heap.size + 1, 0, none⟩) 0 N] 28) = u := ⟨_, rfl⟩
 rw [hu3] at B3 X3
 rw [s2] at B3
 have s3 : u3.heap.size = w.heap.size + 1 + 1 + 1 := by rw [← hu3, World.size_alloc, s2]
 clear hN A
 go_enter Tryd.func19, Tryd.ntmps19
 go_wp2_with fail
 have HB1 : Hid (Vec u3 w.heap.size [.int .i64 0, .int .i64 0, .slice none 0 0]) := B1.later (xt X2 X3)
 have HB3 : Hid (Vec u3 (w.heap.size + 1 + 1) [.int .i64 R, .int .i64 C, .slice (some ⟨w.heap.size + 1, 0, none⟩) 0 N]) := B3
 have HO2 : Hid (OwnW u3 (w.heap.size + 1) (.slice (some ⟨w.heap.size + 1, 0, none⟩) 0 N) []) := ownW_later O2 X3
 have HX3 : Hid (Ext w u3) := xt X1 (xt X2 X3)
 clear hu1 hu2 hu3 s1 s2 hmk O2 X1 X2 X3 B1 B3 hq hq2 d1 d2 q1 q2
 go_loopw [25] (fun i wr => ∃ (k cc : Nat) (p : Option Addr), k ≤ N ∧ i = .int .i64 k ∧ Hid (Ext w wr ∧ w.heap.size + 1 + 1 + 1 ≤ wr.heap.size ∧ Vec wr w.heap.size [.int .i64 0, .int .i64 0, .slice none 0 0] ∧ Vec wr (w.heap.size + 1 + 1) [.int .i64 R, .int .i64 C, .slice p k cc] ∧ OwnW wr (w.heap.size + 1) (.slice p k cc) (gridN c C k) ∧ (Value.slice p k cc).ownBlock ≠ some (w.heap.size + 1 + 1))) (fun i _ => N - (intOf i).toNat)
 case atStart => exact ⟨0, N, some ⟨w.heap.size + 1, 0, none⟩, by omega, rfl, HX3.out, by omega, HB1.out, HB3.out, HO2.out, by simp [Value.ownBlock]⟩
 case round =>
  obtain ⟨k, cc, p, hk, rfl, HI⟩ := hrel
  by_cases hlt : k < N
  ·
   have i2 : (k : Int) < (N : Int) := by omega
   have e1 : (k : Int).tdiv (C : Int) = ((k / C : Nat) : Int) := rfl
   have e2 : (k : Int).tmod (C : Int) = ((k % C : Nat) : Int) := rfl
   have e3 : (k : Int) / (C : Int) = ((k / C : Nat) : Int) := rfl
   have e4 : (k : Int) % (C : Int) = ((k % C : Nat) : Int) := rfl
   have hi1 : k / C < R := by rw [Nat.div_lt_iff_lt_mul (by omega), HN.out]; exact hlt
   have hj1 : k % C < C := Nat.mod_lt _ (by omega)
   obtain ⟨a, ha⟩ : ∃ a, k / C = a := ⟨_, rfl⟩
   obtain ⟨b, hb⟩ : ∃ b, k % C = b := ⟨_, rfl⟩
   rw [ha] at e1 e3 hi1
   rw [hb] at e2 e4 hj1
   have HSUC : Hid (gridN c C (k + 1) = gridN c C k ++ [c a b]) := by show _ = _; rw [gridN_succ, ha, hb]
   clear ha hb
   go_wp2_with fail
   have HNE : Hid ((Value.slice p k cc).ownBlock ≠ some (w.heap.size + 1 + 1)) := HI.out.2.2.2.2.2
   refine wp_region_letters_g (fun lx : Nat → Value => { tmps := #[Value.int .i64 (R : Int), Value.int .i64 (C : Int), Value.func (Fn.func f) #[] lb, undef, undef, undef, Value.pointer (some ⟨w.heap.size, 0, none⟩), Value.pointer (some ⟨w.heap.size + 1 + 1, 0, none⟩), Value.int .i64 (k : Int), Value.int .i64 (R : Int), Value.int .i64 (C : Int), Value.int .i64 q, Value.bool false, undef, undef, Value.int .i64 (R : Int), Value.int .i64 (C : Int), Value.int .i64 (R : Int), Value.int .i64 (C : Int), Value.int .i64 (N : Int), Value.slice (some ⟨w.heap.size + 1, 0, none⟩) 0 N, Value.agg #[Value.int .i64 (R : Int), Value.int .i64 (C : Int), Value.slice (some ⟨w.heap.size + 1, 0, none⟩) 0 N], Value.int .i64 (R : Int), Value.int .i64 (C : Int), Value.int .i64 (N : Int), Value.int .i64 (k : Int), Value.bool true, Value.int .i64 (k : Int), lx 28, lx 29, lx 30, lx 31, lx 32, lx 33, lx 34, lx 35, lx 36, lx 37, lx 38, lx 39, lx 40, u41, undef], defers := [] }) (fun L lx lw => Hid (Ext w lw ∧ w.heap.size + 1 + 1 + 1 ≤ lw.heap.size ∧ Vec lw w.heap.size [.int .i64 0, .int .i64 0, .slice none 0 0] ∧ (L 13 = false → Vec lw (w.heap.size + 1 + 1) [.int .i64 R, .int .i64 C, .slice p k cc]) ∧ (L 11 = false → OwnW lw (w.heap.size + 1) (.slice p k cc) (gridN c C k)) ∧ (L 0 = true → lx 28 = .pointer (some ⟨w.heap.size + 1 + 1, 2, none⟩)) ∧ (L 1 = true → lx 29 = .slice p k cc) ∧ (L 2 = true → lx 30 = .func (.func f) #[] lb) ∧ (L 3 = true → lx 31 = .int .i64 (k : Int)) ∧ (L 4 = true → lx 32 = .int .i64 (C : Int)) ∧ (L 5 = true → lx 33 = .int .i64 (a : Int)) ∧ (L 6 = true → lx 34 = .int .i64 (k : Int)) ∧ (L 7 = true → lx 35 = .int .i64 (C : Int)) ∧ (L 8 = true → lx 36 = .int .i64 (b : Int)) ∧ (L 9 = true → lx 37 = (c a b).val) ∧ (L 10 = true → ∃ bb, lx 38 = .slice (some ⟨bb, 0, none⟩) 1 1 ∧ w.heap.size + 1 + 1 + 1 ≤ bb ∧ (L 11 = false → Vec lw bb (c a b).cells)) ∧ (L 11 = true → ∃ p' cc', lx 39 = .slice p' (k + 1) cc' ∧ OwnW lw (w.heap.size + 1) (.slice p' (k + 1) cc') (gridN c C (k + 1)) ∧ (Value.slice p' (k + 1) cc').ownBlock ≠ some (w.heap.size + 1 + 1) ∧ (L 13 = true → Vec lw (w.heap.size + 1 + 1) [.int .i64 R, .int .i64 C, .slice p' (k + 1) cc'])) ∧ (L 12 = true → lx 40 = .pointer (some ⟨w.heap.size + 1 + 1, 2, none⟩)) ∧ (L 13 = true → L 11 = true) ∧ (L 13 = true → L 1 = true))) rfl (by kernel_rfl) (fun jj => if jj = 28 then u28 else if jj = 29 then u29 else if jj = 30 then u30 else if jj = 31 then u31 else if jj = 32 then u32 else if jj = 33 then u33 else if jj = 34 then u34 else if jj = 35 then u35 else if jj = 36 then u36 else if jj = 37 then u37 else if jj = 38 then u38 else if jj = 39 then u39 else if jj = 40 then u40 else undef) rfl ?_ ?_ ?_
   ·
    obtain ⟨h1, h2, h3, h4, h5, h6⟩ := HI.out
    exact ⟨xd h1, h2, h3.later (xd (xr _)), (fun _ => h4.later (xd (xr _))), (fun _ => ownW_later h5 (xd (xr _))), (fun h => by cases h), (fun h => by cases h), (fun h => by cases h), (fun h => by cases h), (fun h => by cases h), (fun h => by cases h), (fun h => by cases h), (fun h => by cases h), (fun h => by cases h), (fun h => by cases h), (fun h => by cases h), (fun h => by cases h), (fun h => by cases h), (fun h => by cases h), (fun h => by cases h)⟩
   ·
    intro L lx wl i o K hK ho hL haf hI
    obtain ⟨X, SZ, V1, V3, RO, f0, f1, f2, f3, f4, f5, f6, f7, f8, f9, f10, f11, f12, g11, g1⟩ := hI.out
    match i, ho, hL, haf, hK with
    | 0, ho, hL, haf, hK =>
     cases ho
     (try dsimp only)
     refine Eq.mpr (if_pos (by rfl)) ?_
     go_wp2_with fail
     exact hK (fun jj => if jj = 28 then .pointer (some ⟨w.heap.size + 1 + 1, 2, none⟩) else lx jj) _ ⟨X, SZ, V1, V3, RO, (fun _ => rfl), f1, f2, f3, f4, f5, f6, f7, f8, f9, f10, f11, f12, g11, g1⟩
    | 1, ho, hL, haf, hK =>
     cases ho
     (try dsimp only)
     rw [f0 (haf ⟨0, .data⟩ (by simp) rfl)]
     refine Eq.mpr (if_pos (by rfl)) ?_
     have h13 : L 13 = false := by
      cases hh : L 13 with
      | false => rfl
      | true => have := g1 hh; rw [hL] at this; cases this
     obtain ⟨a0, a1, a2⟩ := Vec.three (V3 h13)
     go_wp2_with fail
     exact hK (fun jj => if jj = 29 then .slice p k cc else if jj = 28 then .pointer (some ⟨w.heap.size + 1 + 1, 2, none⟩) else lx jj) _ ⟨X, SZ, V1, V3, RO, (fun _ => rfl), (fun _ => rfl), f2, f3, f4, f5, f6, f7, f8, f9, f10, f11, f12, g11, (fun _ => rfl)⟩
    | 2, ho, hL, haf, hK =>
     cases ho
     (try dsimp only)
     refine Eq.mpr (if_pos (by rfl)) ?_
     go_wp2_with fail
     exact hK (fun jj => if jj = 30 then .func (.func f) #[] lb else lx jj) _ ⟨X, SZ, V1, V3, RO, f0, f1, (fun _ => rfl), f3, f4, f5, f6, f7, f8, f9, f10, f11, f12, g11, g1⟩
    | 3, ho, hL, haf, hK =>
     cases ho
     (try dsimp only)
     refine Eq.mpr (if_pos (by rfl)) ?_
     go_wp2_with fail
     exact hK (fun jj => if jj = 31 then .int .i64 (k : Int) else lx jj) _ ⟨X, SZ, V1, V3, RO, f0, f1, f2, (fun _ => rfl), f4, f5, f6, f7, f8, f9, f10, f11, f12, g11, g1⟩
    | 4, ho, hL, haf, hK =>
     cases ho
     (try dsimp only)
     refine Eq.mpr (if_pos (by rfl)) ?_
     go_wp2_with fail
     exact hK (fun jj => if jj = 32 then .int .i64 (C : Int) else lx jj) _ ⟨X, SZ, V1, V3, RO, f0, f1, f2, f3, (fun _ => rfl), f5, f6, f7, f8, f9, f10, f11, f12, g11, g1⟩
    | 5, ho, hL, haf, hK =>
     cases ho
     (try dsimp only)
     rw [f3 (haf ⟨3, .data⟩ (by simp) rfl), f4 (haf ⟨4, .data⟩ (by simp) rfl)]
     refine Eq.mpr (if_pos (by rfl)) ?_
     go_wp2_with fail
     exact hK (fun jj => if jj = 33 then .int .i64 (a : Int) else if jj = 31 then .int .i64 (k : Int) else if jj = 32 then .int .i64 (C : Int) else lx jj) _ ⟨X, SZ, V1, V3, RO, f0, f1, f2, (fun _ => rfl), (fun _ => rfl), (fun _ => rfl), f6, f7, f8, f9, f10, f11, f12, g11, g1⟩
    | 6, ho, hL, haf, hK =>
     cases ho
     (try dsimp only)
     refine Eq.mpr (if_pos (by rfl)) ?_
     go_wp2_with fail
     exact hK (fun jj => if jj = 34 then .int .i64 (k : Int) else lx jj) _ ⟨X, SZ, V1, V3, RO, f0, f1, f2, f3, f4, f5, (fun _ => rfl), f7, f8, f9, f10, f11, f12, g11, g1⟩
    | 7, ho, hL, haf, hK =>
     cases ho
     (try dsimp only)
     refine Eq.mpr (if_pos (by rfl)) ?_
     go_wp2_with fail
     exact hK (fun jj => if jj = 35 then .int .i64 (C : Int) else lx jj) _ ⟨X, SZ, V1, V3, RO, f0, f1, f2, f3, f4, f5, f6, (fun _ => rfl), f8, f9, f10, f11, f12, g11, g1⟩
    | 8, ho, hL, haf, hK =>
     cases ho
     (try dsimp only)
     rw [f6 (haf ⟨6, .data⟩ (by simp) rfl), f7 (haf ⟨7, .data⟩ (by simp) rfl)]
     refine Eq.mpr (if_pos (by rfl)) ?_
     go_wp2_with fail
     exact hK (fun jj => if jj = 36 then .int .i64 (b : Int) else if jj = 34 then .int .i64 (k : Int) else if jj = 35 then .int .i64 (C : Int) else lx jj) _ ⟨X, SZ, V1, V3, RO, f0, f1, f2, f3, f4, f5, (fun _ => rfl), (fun _ => rfl), (fun _ => rfl), f9, f10, f11, f12, g11, g1⟩
    | 9, ho, hL, haf, hK =>
     cases ho
     (try dsimp only)
     rw [f2 (haf ⟨2, .data⟩ (by simp) rfl), f5 (haf ⟨5, .data⟩ (by simp) rfl), f8 (haf ⟨8, .data⟩ (by simp) rfl)]
     refine Eq.mpr (if_pos (by rfl)) ?_
     have CA := HA.out.says wl a b X hi1 hj1
     go_wp2_with (go_at_fn f; refine CA.mono ?_; rintro e w' ⟨rfl, E⟩)
     exact hK (fun jj => if jj = 37 then (c a b).val else if jj = 30 then .func (.func f) #[] lb else if jj = 33 then .int .i64 (a : Int) else if jj = 36 then .int .i64 (b : Int) else lx jj) _ ⟨(xt X E), (Nat.le_trans SZ (E).size), (V1.later E), (fun h => (V3 h).later E), (fun h => ownW_later (RO h) E), f0, f1, (fun _ => rfl), f3, f4, (fun _ => rfl), f6, f7, (fun _ => rfl), (fun _ => rfl), (fun h => by obtain ⟨bb, h1, h2, h3⟩ := f10 h; exact ⟨bb, h1, h2, fun h => (h3 h).later E⟩), (fun h => by obtain ⟨p', cc', h1, h2, h3, h4⟩ := f11 h; exact ⟨p', cc', h1, ownW_later h2 E, h3, fun h => (h4 h).later E⟩), f12, g11, g1⟩
    | 10, ho, hL, haf, hK =>
     cases ho
     (try dsimp only)
     rw [f9 (haf ⟨9, .data⟩ (by simp) rfl)]
     refine Eq.mpr (if_pos (by rfl)) ?_
     go_wp2_with fail
     exact hK (fun jj => if jj = 38 then .slice (some ⟨wl.heap.size, 0, none⟩) 1 1 else if jj = 37 then (c a b).val else lx jj) _ ⟨(xa X _), (Nat.le_trans SZ ((x1 _ _)).size), (V1.later (x1 _ _)), (fun h => (V3 h).later (x1 _ _)), (fun h => ownW_later (RO h) (x1 _ _)), f0, f1, f2, f3, f4, f5, f6, f7, f8, (fun _ => rfl), (fun _ => ⟨wl.heap.size, rfl, SZ, fun _ => vec_made wl (c a b).cells _⟩), (fun h => by obtain ⟨p', cc', h1, h2, h3, h4⟩ := f11 h; exact ⟨p', cc', h1, ownW_later h2 (x1 _ _), h3, fun h => (h4 h).later (x1 _ _)⟩), f12, g11, g1⟩
    | 11, ho, hL, haf, hK =>
     cases ho
     (try dsimp only)
     obtain ⟨bb, eb, hbb, hvb⟩ := f10 (haf ⟨10, .data⟩ (by simp) rfl)
     have hv1 := hvb hL
     have O1 := RO hL
     rw [f1 (haf ⟨1, .data⟩ (by simp) rfl), eb]
     refine Eq.mpr (if_pos (by rfl)) ?_
     obtain ⟨v', w', hrun, O2, GW, hbl⟩ := app_val wl (w.heap.size + 1) (.slice p k cc) _ O1 (c a b) bb hv1 (by rw [gridN_length]; omega) (by omega)
     have O3 : OwnW w' (w.heap.size + 1) v' (gridN c C (k + 1)) := by rw [HSUC.out]; exact O2
     obtain ⟨p', cc', ev⟩ : ∃ p' cc', v' = .slice p' (k + 1) cc' := by
      rcases O3.2 with ⟨rfl, h0⟩ | ⟨g, cap, cur, e1, _⟩
      ·
       rw [gridN_length] at h0; omega
      ·
       rw [gridN_length] at e1; exact ⟨_, _, e1⟩
     subst ev
     have hrow := ownW_block O1
     have hne := HNE.out
     have hne2 : (Value.slice p' (k + 1) cc').ownBlock ≠ some (w.heap.size + 1 + 1) := fun q => by
      rcases hbl with h | h
      ·
       exact hne (h.symm.trans q)
      ·
       rw [h] at q; have : wl.heap.size = w.heap.size + 1 + 1 := (by simpa using q); omega
     refine Lib.wpList_append_run _ rfl (.tmp 29) (.tmp 38) 26 26 rfl _ _ rfl rfl _ _ hrun ?_
     go_wp2_with fail
     exact hK (fun jj => if jj = 39 then .slice p' (k + 1) cc' else if jj = 29 then .slice p k cc else if jj = 38 then .slice (some ⟨bb, 0, none⟩) 1 1 else lx jj) _ ⟨(ext_grownJ X GW (fun q hq => by have := hrow q hq; omega)), (Nat.le_trans SZ GW.size), (vec_keep V1 GW (fun q => by have := hrow _ q.symm; omega)), (fun h => vec_keep (V3 h) GW (fun q => hne q.symm)), (fun h => by cases h), f0, (fun _ => rfl), f2, f3, f4, f5, f6, f7, f8, f9, (fun _ => ⟨bb, rfl, hbb, (fun h => by cases h)⟩), (fun _ => ⟨p', cc', rfl, O3, hne2, (fun h => by have h13 : L 13 = true := h; have := g11 h13; rw [hL] at this; cases this)⟩), f12, (fun _ => rfl), g1⟩
    | 12, ho, hL, haf, hK =>
     cases ho
     (try dsimp only)
     refine Eq.mpr (if_pos (by rfl)) ?_
     go_wp2_with fail
     exact hK (fun jj => if jj = 40 then .pointer (some ⟨w.heap.size + 1 + 1, 2, none⟩) else lx jj) _ ⟨X, SZ, V1, V3, RO, f0, f1, f2, f3, f4, f5, f6, f7, f8, f9, f10, f11, (fun _ => rfl), g11, g1⟩
    | 13, ho, hL, haf, hK =>
     cases ho
     (try dsimp only)
     obtain ⟨p', cc', ep, O3, hne2, _⟩ := f11 (haf ⟨11, .data⟩ (by simp) rfl)
     have V30 := V3 hL
     obtain ⟨a0, a1, a2⟩ := Vec.three V30
     obtain ⟨z0, z1, z2⟩ := Vec.threeF V30
     rw [f12 (haf ⟨12, .data⟩ (by simp) rfl), ep]
     refine Eq.mpr (if_pos (by rfl)) ?_
     have V31 : Vec (wl.setCell ⟨w.heap.size + 1 + 1, 2, none⟩ (.slice p' (k + 1) cc')) (w.heap.size + 1 + 1) [.int .i64 R, .int .i64 C, .slice p' (k + 1) cc'] := V30.put 2 (by simp) _
     go_wp2_with fail
     exact hK (fun jj => if jj = 40 then .pointer (some ⟨w.heap.size + 1 + 1, 2, none⟩) else if jj = 39 then .slice p' (k + 1) cc' else lx jj) _ ⟨(xset X (p := ⟨w.heap.size + 1 + 1, 2, none⟩) (by show _ ≤ w.heap.size + 1 + 1; omega) _), (by rw [World.size_setCell]; exact SZ), (V1.far (p := ⟨w.heap.size + 1 + 1, 2, none⟩) (by show w.heap.size + 1 + 1 ≠ _; omega) _), (fun h => by cases h), (fun h => by have h11 : L 11 = false := h; rw [haf ⟨11, .data⟩ (by simp) rfl] at h11; cases h11), f0, f1, f2, f3, f4, f5, f6, f7, f8, f9, (fun h => by obtain ⟨bb, h1, h2, h3⟩ := f10 h; exact ⟨bb, h1, h2, fun h => (h3 h).far (p := ⟨w.heap.size + 1 + 1, 2, none⟩) (by show w.heap.size + 1 + 1 ≠ _; omega) _⟩), (fun _ => ⟨p', cc', rfl, ownW_apart O3 (fun g hg q => hne2 (by rw [hg, ← q])), hne2, fun _ => V31⟩), (fun _ => rfl), (fun _ => haf ⟨11, .data⟩ (by simp) rfl), (fun _ => haf ⟨1, .phase⟩ (by simp) rfl)⟩
    | k + 14, ho, _, _, _ => simp at ho
   ·
    intro L lx wl hall hI
    obtain ⟨X, SZ, V1, V3, RO, f0, f1, f2, f3, f4, f5, f6, f7, f8, f9, f10, f11, f12, g11, g1⟩ := hI.out
    obtain ⟨p', cc', ep, O3, hne2, hV⟩ := f11 (hall 11 (by simp))
    have V31 := hV (hall 13 (by simp))
    have HN2 : Hid (Ext w wl ∧ w.heap.size + 1 + 1 + 1 ≤ wl.heap.size ∧ Vec wl w.heap.size [.int .i64 0, .int .i64 0, .slice none 0 0] ∧ Vec wl (w.heap.size + 1 + 1) [.int .i64 R, .int .i64 C, .slice p' (k + 1) cc'] ∧ OwnW wl (w.heap.size + 1) (.slice p' (k + 1) cc') (gridN c C (k + 1)) ∧ (Value.slice p' (k + 1) cc').ownBlock ≠ some (w.heap.size + 1 + 1)) := ⟨X, SZ, V1, V31, O3, hne2⟩
    obtain ⟨bb, eb, _, _⟩ := f10 (hall 10 (by simp))
    (try dsimp only)
    rw [f0 (hall 0 (by simp)), f1 (hall 1 (by simp)), f2 (hall 2 (by simp)), f3 (hall 3 (by simp)), f4 (hall 4 (by simp)), f5 (hall 5 (by simp)), f6 (hall 6 (by simp)), f7 (hall 7 (by simp)), f8 (hall 8 (by simp)), f9 (hall 9 (by simp)), f12 (hall 12 (by simp)), eb, ep]
    clear hI hall X SZ V1 V3 RO f0 f1 f2 f3 f4 f5 f6 f7 f8 f9 f10 f11 f12 g11 g1 ep eb hV O3 V31 hne2
    go_wp2_with fail
    go_roundw
    case rel => exact ⟨k + 1, cc', p', by omega, by go_num, HN2⟩
    case measure => simp [intOf]; omega
  ·
   obtain rfl : N = k := by omega
   obtain ⟨hX, hs, hB1, hB3, hO, hne⟩ := HI.out
   obtain ⟨a0, a1, a2⟩ := Vec.three hB3
   obtain ⟨wy, hy, FX, ⟨b0, b1, b2⟩, ⟨fb0, fb1, fb2⟩, fd0, fd1, fd2⟩ := finG hB1 hX (Nat.le_refl _) R C (.slice p N cc)
   have FO : Hid (OwnW wy w.heap.size (.slice p N cc) (gridN c C N)) := by
    have := ((ownW_far hO (p := ⟨w.heap.size, 0, none⟩) (by show w.heap.size < _; omega) (.int .i64 R)))
    have := ownW_far this (p := ⟨w.heap.size, 1, none⟩) (by show w.heap.size < _; omega) (.int .i64 C)
    have := ownW_far this (p := ⟨w.heap.size, 2, none⟩) (by show w.heap.size < _; omega) (.slice p N cc)
    show World.ownsRow _ _ _ _ _ _ _
    rw [← hy]
    exact ownW_base this (by omega)
   clear hB1 hB3 hO HI
   go_wp2_with fail
   exact bodyPost_ret (v := grV R C (.slice p N cc)) (by simp [results, Tryd.results19, go_sem, fd0, fd1, fd2]) rfl ⟨_, rfl, FO.out, FX⟩

end Go.Proofs.YtjlephnmofhjaaaDoor

