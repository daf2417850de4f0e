/-
  Chapter 11: a grid in which values come again, drawn: its head.
-/
import Derived.Test.YtbomplppgobkdaaGreatDoorMg27
import Derived.Test.YtbomplppgobkdaaGreatDoorMg28
import Derived.Lib.AppendZeros
namespace Go.Proofs.YtbomplppgobkdaaGreatDoor
open Go.RowKit

/-- What the calls of a round have drawn. -/
def kcR (L : Nat → Bool) : Nat := (if L 5 = true then 40 else 0) + (if L 8 = true then 2 else 0) + (if L 12 = true then 2 else 0)
theorem kcR_le (L : Nat → Bool) : kcR L ≤ 44 := by unfold kcR; split <;> split <;> split <;> omega
theorem kcR5 {L : Nat → Bool} (h : L 5 = false) : kcR (fun j => if j = 5 then true else L j) = kcR L + 40 := by simp [kcR, h]; omega
theorem kcR8 {L : Nat → Bool} (h : L 8 = false) : kcR (fun j => if j = 8 then true else L j) = kcR L + 2 := by simp [kcR, h]; omega
theorem kcR12 {L : Nat → Bool} (h : L 12 = false) : kcR (fun j => if j = 12 then true else L j) = kcR L + 2 := by simp [kcR, h]
theorem RepJ.more {a wr : World} {b base gO gA gB R C K K' : Nat} {A B : VT} {l : List VT} {p : Option Addr} {cc : Nat} (h : RepJ a b base gO gA gB R C K A B l p cc wr) (hk : K ≤ K') : RepJ a b base gO gA gB R C K' A B l p cc wr :=
  ⟨h.only, h.cur.more hk, h.vz, h.vo, h.va, h.vb, h.ow, h.ok, h.okA, h.okB, h.bl⟩
theorem five_ok {a b c d : VT} (ha : okE a) (hb : okE b) (hc : okE c) (hd : okE d) : ∀ q ∈ [a, b, c, a, d], okE q := by
  intro q hq
  simp only [List.mem_cons, List.not_mem_nil, or_false] at hq
  rcases hq with rfl | rfl | rfl | rfl | rfl <;> assumption
def five_get (g0 g1 g2 g3 g4 : VT) (m : Nat) : VT := ([g0, g1, g2, g3, g4] : List VT).getD m g0
theorem five_some (g0 g1 g2 g3 g4 : VT) {m : Nat} (h : m < 5) : ([g0, g1, g2, g3, g4] : List VT)[m]? = some (five_get g0 g1 g2 g3 g4 m) := by
  unfold five_get
  rw [List.getD_eq_getElem?_getD, List.getElem?_eq_getElem (by simpa using h)]
  rfl
theorem five_mem {g0 g1 g2 g3 g4 : VT} (hk : ∀ q ∈ [g0, g1, g2, g3, g4], okE q) {m : Nat} (h : m < 5) : okE (five_get g0 g1 g2 g3 g4 m) := hk _ (List.mem_of_getElem? (five_some g0 g1 g2 g3 g4 h))
theorem five_at {lw : World} {bv : Nat} {g0 g1 g2 g3 g4 : VT} (hv : Vec lw bv (flatV [g0, g1, g2, g3, g4])) {m : Nat} (h : m < 5) : ∀ c u, (VT.cells (five_get g0 g1 g2 g3 g4 m))[c]? = some u → lw.cell? ⟨bv, m * 5 + c, none⟩ = some u := fun c u hu => by
  have hc : c < 5 := by have := (List.getElem?_eq_some_iff.1 hu).1; simpa using this
  exact (hv _ u (by rw [flatV_at (five_some g0 g1 g2 g3 g4 h) c hc]; exact hu)).1
set_option maxRecDepth 8000 in
set_option maxHeartbeats 4000000 in
theorem repeatC (b base K : Nat) (w : World) (h : Cur w b base K) (hK : K ≤ 100000) :
    Calls Tryz.prog 13 #[.pointer (some ⟨b, 0, none⟩)] w fun e w' => (∃ (R C : Int) (sv : Value) (l : List VT), e = .returned (grV R C sv) ∧ RowAt w' sv l.length (flatV l) ∧ l.length ≤ 32 ∧ (∀ q ∈ l, okE q) ∧ ∀ g, sv.ownBlock = some g → w.heap.size ≤ g) ∧ Cur w' b base (K + 2000) ∧ Only b w w' := by
  have bl := h.lt
  have bb := h.baseC
  have X0 := x1 w (.cells #[.int .i64 0, .int .i64 0, .slice none 0 0] 25)
  have V0 := vec_made w [.int .i64 0, .int .i64 0, .slice none 0 0] 25
  have C0 := h.ext X0
  go_enter Tryz.func13, Tryz.ntmps13
  go_wp2_with fail
  refine (pickC b base K 8 _ C0 (by omega) (by omega) (by omega)).mono ?_
  rintro e w1 ⟨r, rfl, ⟨r0, r9⟩, C1, o1⟩
  have V1 := o1.vecC (by omega) V0
  have O1 := (Only.of_ext X0).trans o1
  clear C0 o1 X0 V0
  go_wp2_with fail
  refine (pickC b base _ 3 _ C1 (by omega) (by omega) (by omega)).mono ?_
  rintro e w2 ⟨c, rfl, ⟨c0, c9⟩, C1, o1⟩
  have V1 := o1.vecC (by omega) V1
  have O1 := O1.trans o1
  clear o1
  obtain ⟨R, hR⟩ : ∃ R : Nat, 1 + r = (R : Int) := ⟨(1 + r).toNat, by omega⟩
  obtain ⟨C, hC⟩ : ∃ C : Nat, 1 + c = (C : Int) := ⟨(1 + c).toNat, by omega⟩
  have wR : IntKind.i64.wrap (1 + r) = (R : Int) := by rw [hR, IntKind.wrap_i64]; omega
  have wC : IntKind.i64.wrap (1 + c) = (C : Int) := by rw [hC, IntKind.wrap_i64]; omega
  have hR1 : 1 ≤ R ∧ R ≤ 8 := by omega
  have hC1 : 1 ≤ C ∧ C ≤ 3 := by omega
  have lt2 := C1.lt
  have ltV : w.heap.size < w2.heap.size := World.block_lt_of_cell? _ _ (V1 0 _ rfl).1
  obtain ⟨wz, w3, hz, hy, BO, XO, ⟨z0, z1, z2⟩, fz0, fz1, fz2⟩ := newG w2 R C none 0 0
  have S3 : Hid (w3.heap.size = w2.heap.size + 1) := by show _ = _; rw [← hy, ← hz]; simp only [World.size_setCell, World.size_alloc]
  have C1 := C1.ext XO
  have V1 := V1.later XO
  have O1 := O1.trans (Only.of_ext XO)
  go_wp2_with fail
  clear hz hy z0 z1 z2 fz0 fz1 fz2 XO wR wC
  obtain ⟨gO, hgO⟩ : ∃ g, w2.heap.size = g := ⟨_, rfl⟩
  rw [hgO] at BO lt2 ltV S3 ⊢
  refine (valueC b base _ _ C1 (by omega)).mono ?_
  rintro e w4 ⟨⟨ak, an, ad, ax, at', rfl, a1, a2, a3⟩, C1, o1⟩
  have V1 := o1.vecC (by omega) V1
  have BO := o1.vecC (by omega) BO
  have O1 := O1.trans o1
  have L4 : gO < w4.heap.size := by have := o1.size; have := S3.out; omega
  clear o1 S3 hgO
  obtain ⟨wx, w5, hx, hy, BA, ⟨q0, q1, q2, q3, q4⟩, f0, f1, f2, f3, f4⟩ := BodJ.made (Only.refl b w4) C1 C1.lt bb ak an ad ax at' ⟨a1, a2, a3⟩
  go_wp2_with fail
  clear hx hy q0 q1 q2 q3 q4 f0 f1 f2 f3 f4
  obtain ⟨gA, hgA⟩ : ∃ g, w4.heap.size = g := ⟨_, rfl⟩
  rw [hgA] at BA L4 ⊢
  have V1 := BA.only.vecC (by omega) V1
  have BO := BA.only.vecC (by omega) BO
  have O1 := O1.trans BA.only
  have C1 := BA.cur
  have VA := BA.vec
  clear BA hgA
  refine (valueC b base _ _ C1 (by omega)).mono ?_
  rintro e w6 ⟨⟨bk, bn, bd, bx, bt, rfl, b1, b2, b3⟩, C1, o1⟩
  have V1 := o1.vecC (by omega) V1
  have BO := o1.vecC (by omega) BO
  have VA := o1.vecC (by omega) VA
  have O1 := O1.trans o1
  have L6 : gA < w6.heap.size := World.block_lt_of_cell? _ _ (VA 0 _ rfl).1
  clear o1
  obtain ⟨wx, w7, hx, hy, BB, ⟨q0, q1, q2, q3, q4⟩, f0, f1, f2, f3, f4⟩ := BodJ.made (Only.refl b w6) C1 C1.lt bb bk bn bd bx bt ⟨b1, b2, b3⟩
  obtain ⟨gB, hgB⟩ : ∃ g, w6.heap.size = g := ⟨_, rfl⟩
  have RJ : Hid (RepJ w b base gO gA gB R C (K + 84 + 46 * 0) ⟨ak, an, ad, ax, at'⟩ ⟨bk, bn, bd, bx, bt⟩ [] none 0 w7) := by
    have hb := BB.vec
    rw [hgB] at hb L6
    exact ⟨O1.trans BB.only, BB.cur, BB.only.vecC (by omega) V1, BB.only.vecC (by omega) BO, BB.only.vecC (by omega) VA, hb, World.ownsRow_nil _ _ _ _, by simp, ⟨a1, a2, a3⟩, ⟨b1, b2, b3⟩, bb, bl, ltV, L4, L6⟩
  have HGB : Hid (w6.heap.size = gB) := hgB
  clear hgB
  go_wp2_with fail
  rw [HGB.out]
  clear hx hy q0 q1 q2 q3 q4 f0 f1 f2 f3 f4 BB VA BO V1 O1 C1 HGB
  obtain ⟨T, hT⟩ : ∃ T, R * C = T := ⟨_, rfl⟩
  have hTb : 1 ≤ T ∧ T ≤ 24 := by
    obtain ⟨r1, r2⟩ := hR1
    obtain ⟨c1, c2⟩ := hC1
    have h1 := Nat.mul_le_mul r1 c1
    have h2 := Nat.mul_le_mul r2 c2
    omega
  have hTi : (R : Int) * (C : Int) = (T : Int) := by rw [← hT]; simp
  go_loopw [6] (fun i wr => ∃ x : Nat, x ≤ T ∧ i = .int .i64 x ∧ Hid (∃ l p cc, l.length = x ∧ RepJ w b base gO gA gB R C (K + 84 + 46 * l.length) ⟨ak, an, ad, ax, at'⟩ ⟨bk, bn, bd, bx, bt⟩ l p cc wr)) (fun i _ => T - (intOf i).toNat)
  case atStart => exact ⟨0, by omega, rfl, [], none, 0, by simp, RJ.out⟩
  case round =>
    obtain ⟨x, hx, rfl, HI⟩ := hrel
    obtain ⟨l, p, cc, hl, RR⟩ := HI.out
    have HR : Hid (RepJ w b base gO gA gB R C (K + 84 + 46 * l.length) ⟨ak, an, ad, ax, at'⟩ ⟨bk, bn, bd, bx, bt⟩ l p cc wr) := RR
    have g0 := (RR.vo 0 _ rfl).1
    have g1 := (RR.vo 1 _ rfl).1
    have hbg := RR.bl
    clear RR HI RJ
    by_cases hlt : x < T
    · have i2 : (x : Int) < (T : Int) := by omega
      have HNX : Hid (l.length = x) := hl
      have hx24 : x ≤ 24 := by omega
      obtain ⟨K1, hK1⟩ : ∃ z, K + 84 + 46 * x = z := ⟨_, rfl⟩
      have HK1 : Hid (K + 84 + 46 * x = K1) := hK1
      have HR : Hid (RepJ w b base gO gA gB R C K1 ⟨ak, an, ad, ax, at'⟩ ⟨bk, bn, bd, bx, bt⟩ l p cc wr) := by
        have := HR.out
        rw [hl, hK1] at this
        exact this
      have hK1b : K1 ≤ 200000 := by omega
      clear hl hK1
      go_wp2_with fail
      clear g0 g1
      refine wp_region_letters_c (fun lx : Nat → Value => { tmps := #[Value.pointer (some ⟨b, 0, none⟩), undef, Value.pointer (some ⟨w.heap.size, 0, none⟩), Value.pointer (some ⟨gO, 0, none⟩), Value.pointer (some ⟨gA, 0, none⟩), Value.pointer (some ⟨gB, 0, none⟩), Value.int .i64 (x : Int), Value.pointer (some ⟨b, 0, none⟩), Value.int .i64 r, Value.int .i64 (R : Int), Value.pointer (some ⟨b, 0, none⟩), Value.int .i64 c, Value.int .i64 (C : Int), Value.agg #[Value.int .i64 (R : Int), Value.int .i64 (C : Int), Value.slice none 0 0], Value.pointer (some ⟨b, 0, none⟩), valV ak an ad ax at', Value.pointer (some ⟨b, 0, none⟩), valV bk bn bd bx bt, Value.int .i64 (x : Int), Value.pointer (some ⟨gO, 0, none⟩), Value.int .i64 (R : Int), Value.pointer (some ⟨gO, 1, none⟩), Value.int .i64 (C : Int), Value.int .i64 (T : Int), Value.bool true, u25, u26, lx 27, lx 28, lx 29, lx 30, lx 31, lx 32, lx 33, lx 34, lx 35, lx 36, lx 37, lx 38, lx 39, lx 40, lx 41, lx 42, lx 43, lx 44, undef, undef, undef], defers := [] }) (fun L lx lw => Hid ((L 16 = false → RepJ w b base gO gA gB R C (K1 + kcR L) ⟨ak, an, ad, ax, at'⟩ ⟨bk, bn, bd, bx, bt⟩ l p cc lw) ∧ (L 16 = true → L 18 = false → ∃ p' cc' g wq, lx 43 = .slice p' (x + 1) cc' ∧ okE g ∧ RepJ w b base gO gA gB R C (K1 + 44) ⟨ak, an, ad, ax, at'⟩ ⟨bk, bn, bd, bx, bt⟩ l p cc wq ∧ wq.grownBy lw (Value.slice p x cc).ownBlock ∧ OwnW lw (gB + 1) (.slice p' (x + 1) cc') (l ++ [g])) ∧ (L 18 = true → ∃ p' cc' g, lx 43 = .slice p' (x + 1) cc' ∧ okE g ∧ RepJ w b base gO gA gB R C (K1 + 44) ⟨ak, an, ad, ax, at'⟩ ⟨bk, bn, bd, bx, bt⟩ (l ++ [g]) p' cc' lw) ∧ (L 0 = true → lx 27 = .pointer (some ⟨gO, 2, none⟩)) ∧ (L 1 = true → lx 28 = .slice p x cc) ∧ (L 2 = true → lx 29 = valV ak an ad ax at') ∧ (L 3 = true → lx 30 = valV bk bn bd bx bt) ∧ (L 4 = true → lx 31 = .pointer (some ⟨b, 0, none⟩)) ∧ (L 5 = true → ∃ g : VT, lx 32 = g.val ∧ okE g) ∧ (L 6 = true → lx 33 = valV ak an ad ax at') ∧ (L 7 = true → lx 34 = .pointer (some ⟨b, 0, none⟩)) ∧ (L 8 = true → ∃ r : Int, lx 35 = .int .i64 r ∧ 0 ≤ r ∧ r < 3) ∧ (L 9 = true → ∃ g : VT, lx 36 = g.val ∧ okE g) ∧ (L 10 = true → ∃ (bv : Nat) (g0 g1 g2 g3 g4 : VT), lx 37 = .slice (some ⟨bv, 0, none⟩) 5 5 ∧ (∀ q ∈ [g0, g1, g2, g3, g4], okE q) ∧ gB < bv ∧ (L 16 = false → Vec lw bv (flatV [g0, g1, g2, g3, g4]))) ∧ (L 11 = true → lx 38 = .pointer (some ⟨b, 0, none⟩)) ∧ (L 12 = true → ∃ r : Int, lx 39 = .int .i64 r ∧ 0 ≤ r ∧ r < 5) ∧ (L 13 = true → ∃ (bv m : Nat) (g : VT), lx 40 = .pointer (some ⟨bv, m, none⟩) ∧ okE g ∧ gB < bv ∧ (L 16 = false → (∀ c u, (VT.cells g)[c]? = some u → (lw).cell? ⟨bv, m + c, none⟩ = some u))) ∧ (L 14 = true → ∃ g : VT, lx 41 = g.val ∧ okE g) ∧ (L 15 = true → ∃ (bv : Nat) (g : VT), lx 42 = .slice (some ⟨bv, 0, none⟩) 1 1 ∧ okE g ∧ (L 16 = false → Vec lw bv g.cells)) ∧ (L 17 = true → lx 44 = .pointer (some ⟨gO, 2, none⟩)))) rfl (by kernel_rfl) (fun jj => if jj = 27 then u27 else if jj = 28 then u28 else if jj = 29 then u29 else if jj = 30 then u30 else if jj = 31 then u31 else if jj = 32 then u32 else if jj = 33 then u33 else if jj = 34 then u34 else if jj = 35 then u35 else if jj = 36 then u36 else if jj = 37 then u37 else if jj = 38 then u38 else if jj = 39 then u39 else if jj = 40 then u40 else if jj = 41 then u41 else if jj = 42 then u42 else if jj = 43 then u43 else if jj = 44 then u44 else undef) rfl ?_ ?_ ?_
      · have R0 := HR.out
        exact ⟨(fun _ => R0.step (Only.of_ext (xd (xr _))) (R0.cur.ext (xd (xr _)))), (fun h => by cases h), (fun h => by cases h), (fun h => by cases h), (fun h => by cases h), (fun h => by cases h), (fun h => by cases h), (fun h => by cases h), (fun h => by cases h), (fun h => by cases h), (fun h => by cases h), (fun h => by cases h), (fun h => by cases h), (fun h => by cases h), (fun h => by cases h), (fun h => by cases h), (fun h => by cases h), (fun h => by cases h), (fun h => by cases h), (fun h => by cases h)⟩
      · intro L lx wl i o K hK ho hL haf hI hcl
        obtain ⟨RJ, FA, FS, f0, f1, f2, f3, f4, f5, f6, f7, f8, f9, f10, f11, f12, f13, f14, f15, f17⟩ := hI.out
        match i, ho, hL, haf, hK with
        | 0, ho, hL, haf, hK =>
          cases ho
          (try dsimp only)
          refine Eq.mpr (if_pos (by rfl)) ?_
          go_wp2_with fail
          exact hK (fun jj => if jj = 27 then .pointer (some ⟨gO, 2, none⟩) else lx jj) _ ⟨RJ, FA, FS, (fun _ => rfl), f1, f2, f3, f4, f5, f6, f7, f8, f9, f10, f11, f12, f13, f14, f15, f17⟩
        | 1, ho, hL, haf, hK =>
          cases ho
          (try dsimp only)
          have hA : L 16 = false := hcl.bars (i := 16) (j := 1) [1] hL (by kernel_rfl) rfl
          have vo := (RJ hA).vo
          rw [HNX.out] at vo
          obtain ⟨c0, c1, c2⟩ := Vec.three vo
          rw [f0 (haf ⟨0, .data⟩ (by simp) rfl)]
          refine Eq.mpr (if_pos (by rfl)) ?_
          go_wp2_with fail
          exact hK (fun jj => if jj = 28 then .slice p x cc else if jj = 27 then .pointer (some ⟨gO, 2, none⟩) else lx jj) _ ⟨RJ, FA, FS, (fun _ => rfl), (fun _ => rfl), f2, f3, f4, f5, f6, f7, f8, f9, f10, f11, f12, f13, f14, f15, f17⟩
        | 2, ho, hL, haf, hK =>
          cases ho
          (try dsimp only)
          have hA : L 16 = false := hcl.bars (i := 16) (j := 2) [15, 14, 13, 10, 2] hL (by kernel_rfl) rfl
          obtain ⟨c0, c1, c2, c3, c4⟩ := Vec.five (RJ hA).va
          refine Eq.mpr (if_pos (by rfl)) ?_
          go_wp2_with fail
          exact hK (fun jj => if jj = 29 then valV ak an ad ax at' else lx jj) _ ⟨RJ, FA, FS, f0, f1, (fun _ => rfl), f3, f4, f5, f6, f7, f8, f9, f10, f11, f12, f13, f14, f15, f17⟩
        | 3, ho, hL, haf, hK =>
          cases ho
          (try dsimp only)
          have hA : L 16 = false := hcl.bars (i := 16) (j := 3) [15, 14, 13, 10, 3] hL (by kernel_rfl) rfl
          obtain ⟨c0, c1, c2, c3, c4⟩ := Vec.five (RJ hA).vb
          refine Eq.mpr (if_pos (by rfl)) ?_
          go_wp2_with fail
          exact hK (fun jj => if jj = 30 then valV bk bn bd bx bt else lx jj) _ ⟨RJ, FA, FS, f0, f1, f2, (fun _ => rfl), f4, f5, f6, f7, f8, f9, f10, f11, f12, f13, f14, f15, f17⟩
        | 4, ho, hL, haf, hK =>
          cases ho
          (try dsimp only)
          refine Eq.mpr (if_pos (by rfl)) ?_
          go_wp2_with fail
          exact hK (fun jj => if jj = 31 then .pointer (some ⟨b, 0, none⟩) else lx jj) _ ⟨RJ, FA, FS, f0, f1, f2, f3, (fun _ => rfl), f5, f6, f7, f8, f9, f10, f11, f12, f13, f14, f15, f17⟩
        | 5, ho, hL, haf, hK =>
          cases ho
          (try dsimp only)
          have hA : L 16 = false := hcl.bars (i := 16) (j := 5) [15, 14, 13, 10, 5] hL (by kernel_rfl) rfl
          rw [f4 (haf ⟨4, .data⟩ (by simp) rfl)]
          refine Eq.mpr (if_pos (by rfl)) ?_
          go_wp2_with fail
          have RA := RJ hA
          refine (valueC b base _ wl RA.cur (by have := kcR_le L; omega)).mono ?_
          rintro e w' ⟨⟨vk, vn, vd, vx, vt, rfl, v1, v2, v3⟩, CC, o1⟩
          go_wp2_with fail
          exact hK (fun jj => if jj = 32 then valV vk vn vd vx vt else if jj = 31 then .pointer (some ⟨b, 0, none⟩) else lx jj) _ ⟨(fun _ => by rw [kcR5 hL, ← Nat.add_assoc]; exact RA.step o1 CC), (fun h => by have h1 : L 16 = true := h; rw [hcl.bars (i := 16) (j := 5) [15, 14, 13, 10, 5] hL (by kernel_rfl) rfl] at h1; cases h1), (fun h => by have h1 : L 18 = true := h; rw [hcl.bars (i := 18) (j := 5) [16, 15, 14, 13, 10, 5] hL (by kernel_rfl) rfl] at h1; cases h1), f0, f1, f2, f3, (fun _ => rfl), (fun _ => ⟨⟨vk, vn, vd, vx, vt⟩, rfl, v1, v2, v3⟩), f6, f7, f8, f9, (fun h => by have h1 : L 10 = true := h; rw [hcl.bars (i := 10) (j := 5) [5] hL (by kernel_rfl) rfl] at h1; cases h1), f11, f12, (fun h => by have h1 : L 13 = true := h; rw [hcl.bars (i := 13) (j := 5) [10, 5] hL (by kernel_rfl) rfl] at h1; cases h1), f14, (fun h => by have h1 : L 15 = true := h; rw [hcl.bars (i := 15) (j := 5) [14, 13, 10, 5] hL (by kernel_rfl) rfl] at h1; cases h1), f17⟩
        | 6, ho, hL, haf, hK =>
          cases ho
          (try dsimp only)
          have hA : L 16 = false := hcl.bars (i := 16) (j := 6) [15, 14, 13, 10, 6] hL (by kernel_rfl) rfl
          obtain ⟨c0, c1, c2, c3, c4⟩ := Vec.five (RJ hA).va
          refine Eq.mpr (if_pos (by rfl)) ?_
          go_wp2_with fail
          exact hK (fun jj => if jj = 33 then valV ak an ad ax at' else lx jj) _ ⟨RJ, FA, FS, f0, f1, f2, f3, f4, f5, (fun _ => rfl), f7, f8, f9, f10, f11, f12, f13, f14, f15, f17⟩
        | 7, ho, hL, haf, hK =>
          cases ho
          (try dsimp only)
          refine Eq.mpr (if_pos (by rfl)) ?_
          go_wp2_with fail
          exact hK (fun jj => if jj = 34 then .pointer (some ⟨b, 0, none⟩) else lx jj) _ ⟨RJ, FA, FS, f0, f1, f2, f3, f4, f5, f6, (fun _ => rfl), f8, f9, f10, f11, f12, f13, f14, f15, f17⟩
        | 8, ho, hL, haf, hK =>
          cases ho
          (try dsimp only)
          have hA : L 16 = false := hcl.bars (i := 16) (j := 8) [15, 14, 13, 10, 9, 8] hL (by kernel_rfl) rfl
          rw [f7 (haf ⟨7, .data⟩ (by simp) rfl)]
          refine Eq.mpr (if_pos (by rfl)) ?_
          go_wp2_with fail
          have RA := RJ hA
          have hbl := RA.bl
          refine (pickC b base _ 3 wl RA.cur (by have := kcR_le L; omega) (by omega) (by omega)).mono ?_
          rintro e w' ⟨r, rfl, ⟨r0, r1⟩, CC, o1⟩
          go_wp2_with fail
          exact hK (fun jj => if jj = 35 then .int .i64 r else if jj = 34 then .pointer (some ⟨b, 0, none⟩) else lx jj) _ ⟨(fun _ => by rw [kcR8 hL, ← Nat.add_assoc]; exact RA.step o1 CC), (fun h => by have h1 : L 16 = true := h; rw [hcl.bars (i := 16) (j := 8) [15, 14, 13, 10, 9, 8] hL (by kernel_rfl) rfl] at h1; cases h1), (fun h => by have h1 : L 18 = true := h; rw [hcl.bars (i := 18) (j := 8) [16, 15, 14, 13, 10, 9, 8] hL (by kernel_rfl) rfl] at h1; cases h1), f0, f1, f2, f3, f4, f5, f6, (fun _ => rfl), (fun _ => ⟨r, rfl, r0, r1⟩), f9, (fun h => by have h1 : L 10 = true := h; rw [hcl.bars (i := 10) (j := 8) [9, 8] hL (by kernel_rfl) rfl] at h1; cases h1), f11, f12, (fun h => by have h1 : L 13 = true := h; rw [hcl.bars (i := 13) (j := 8) [10, 9, 8] hL (by kernel_rfl) rfl] at h1; cases h1), f14, (fun h => by have h1 : L 15 = true := h; rw [hcl.bars (i := 15) (j := 8) [14, 13, 10, 9, 8] hL (by kernel_rfl) rfl] at h1; cases h1), f17⟩
        | 9, ho, hL, haf, hK =>
          cases ho
          (try dsimp only)
          have hA : L 16 = false := hcl.bars (i := 16) (j := 9) [15, 14, 13, 10, 9] hL (by kernel_rfl) rfl
          obtain ⟨r, er, r0, r1⟩ := f8 (haf ⟨8, .data⟩ (by simp) rfl)
          rw [er]
          refine Eq.mpr (if_pos (by rfl)) ?_
          go_wp2_with fail
          have RA := RJ hA
          refine (l6IntS r wl (by omega) (by omega)).mono ?_
          rintro e w' ⟨⟨vn, vd, vx, rfl, v1, v2⟩, e1⟩
          go_wp2_with fail
          exact hK (fun jj => if jj = 36 then valV 1 vn vd vx [] else if jj = 35 then .int .i64 r else lx jj) _ ⟨(fun _ => RA.step (Only.of_ext e1) (RA.cur.ext e1)), (fun h => by have h1 : L 16 = true := h; rw [hcl.bars (i := 16) (j := 9) [15, 14, 13, 10, 9] hL (by kernel_rfl) rfl] at h1; cases h1), (fun h => by have h1 : L 18 = true := h; rw [hcl.bars (i := 18) (j := 9) [16, 15, 14, 13, 10, 9] hL (by kernel_rfl) rfl] at h1; cases h1), f0, f1, f2, f3, f4, f5, f6, f7, (fun _ => ⟨r, rfl, r0, r1⟩), (fun _ => ⟨⟨1, vn, vd, vx, []⟩, rfl, v1, v2, by simp⟩), (fun h => by have h1 : L 10 = true := h; rw [hcl.bars (i := 10) (j := 9) [9] hL (by kernel_rfl) rfl] at h1; cases h1), f11, f12, (fun h => by have h1 : L 13 = true := h; rw [hcl.bars (i := 13) (j := 9) [10, 9] hL (by kernel_rfl) rfl] at h1; cases h1), f14, (fun h => by have h1 : L 15 = true := h; rw [hcl.bars (i := 15) (j := 9) [14, 13, 10, 9] hL (by kernel_rfl) rfl] at h1; cases h1), f17⟩
        | 10, ho, hL, haf, hK =>
          cases ho
          (try dsimp only)
          have hA : L 16 = false := hcl.bars (i := 16) (j := 10) [15, 14, 13, 10] hL (by kernel_rfl) rfl
          obtain ⟨g2, e2, k2⟩ := f5 (haf ⟨5, .data⟩ (by simp) rfl)
          obtain ⟨g4, e4, k4⟩ := f9 (haf ⟨9, .data⟩ (by simp) rfl)
          rw [f2 (haf ⟨2, .data⟩ (by simp) rfl), f3 (haf ⟨3, .data⟩ (by simp) rfl), e2, f6 (haf ⟨6, .data⟩ (by simp) rfl), e4]
          refine Eq.mpr (if_pos (by rfl)) ?_
          have RA := RJ hA
          have hgl : gB < wl.heap.size := World.block_lt_of_cell? _ _ (RA.vb 0 _ rfl).1
          go_wp2_with fail
          exact hK (fun jj => if jj = 37 then .slice (some ⟨wl.heap.size, 0, none⟩) 5 5 else if jj = 29 then valV ak an ad ax at' else if jj = 30 then valV bk bn bd bx bt else if jj = 32 then g2.val else if jj = 33 then valV ak an ad ax at' else if jj = 36 then g4.val else lx jj) _ ⟨(fun _ => RA.step (Only.of_ext (x1 _ _)) (RA.cur.ext (x1 _ _))), (fun h => by have h1 : L 16 = true := h; rw [hcl.bars (i := 16) (j := 10) [15, 14, 13, 10] hL (by kernel_rfl) rfl] at h1; cases h1), (fun h => by have h1 : L 18 = true := h; rw [hcl.bars (i := 18) (j := 10) [16, 15, 14, 13, 10] hL (by kernel_rfl) rfl] at h1; cases h1), f0, f1, (fun _ => rfl), (fun _ => rfl), f4, (fun _ => ⟨g2, rfl, k2⟩), (fun _ => rfl), f7, f8, (fun _ => ⟨g4, rfl, k4⟩), (fun _ => ⟨wl.heap.size, ⟨ak, an, ad, ax, at'⟩, ⟨bk, bn, bd, bx, bt⟩, g2, ⟨ak, an, ad, ax, at'⟩, g4, rfl, five_ok RA.okA RA.okB k2 k4, hgl, fun _ => vec_made wl (flatV [⟨ak, an, ad, ax, at'⟩, ⟨bk, bn, bd, bx, bt⟩, g2, ⟨ak, an, ad, ax, at'⟩, g4]) _⟩), f11, f12, (fun h => by have h1 : L 13 = true := h; rw [hcl.bars (i := 13) (j := 10) [10] hL (by kernel_rfl) rfl] at h1; cases h1), f14, (fun h => by have h1 : L 15 = true := h; rw [hcl.bars (i := 15) (j := 10) [14, 13, 10] hL (by kernel_rfl) rfl] at h1; cases h1), f17⟩
        | 11, ho, hL, haf, hK =>
          cases ho
          (try dsimp only)
          refine Eq.mpr (if_pos (by rfl)) ?_
          go_wp2_with fail
          exact hK (fun jj => if jj = 38 then .pointer (some ⟨b, 0, none⟩) else lx jj) _ ⟨RJ, FA, FS, f0, f1, f2, f3, f4, f5, f6, f7, f8, f9, f10, (fun _ => rfl), f12, f13, f14, f15, f17⟩
        | 12, ho, hL, haf, hK =>
          cases ho
          (try dsimp only)
          have hA : L 16 = false := hcl.bars (i := 16) (j := 12) [15, 14, 13, 12] hL (by kernel_rfl) rfl
          rw [f11 (haf ⟨11, .data⟩ (by simp) rfl)]
          refine Eq.mpr (if_pos (by rfl)) ?_
          go_wp2_with fail
          have RA := RJ hA
          have hbl := RA.bl
          refine (pickC b base _ 5 wl RA.cur (by have := kcR_le L; omega) (by omega) (by omega)).mono ?_
          rintro e w' ⟨r, rfl, ⟨r0, r1⟩, CC, o1⟩
          go_wp2_with fail
          exact hK (fun jj => if jj = 39 then .int .i64 r else if jj = 38 then .pointer (some ⟨b, 0, none⟩) else lx jj) _ ⟨(fun _ => by rw [kcR12 hL, ← Nat.add_assoc]; exact RA.step o1 CC), (fun h => by have h1 : L 16 = true := h; rw [hcl.bars (i := 16) (j := 12) [15, 14, 13, 12] hL (by kernel_rfl) rfl] at h1; cases h1), (fun h => by have h1 : L 18 = true := h; rw [hcl.bars (i := 18) (j := 12) [16, 15, 14, 13, 12] hL (by kernel_rfl) rfl] at h1; cases h1), f0, f1, f2, f3, f4, f5, f6, f7, f8, f9, (fun h => by obtain ⟨bv, g0, g1, g2, g3, g4, h1, h2, h3, h4⟩ := f10 h; exact ⟨bv, g0, g1, g2, g3, g4, h1, h2, h3, fun _ => o1.vecC (by omega) (h4 hA)⟩), (fun _ => rfl), (fun _ => ⟨r, rfl, r0, r1⟩), (fun h => by have h1 : L 13 = true := h; rw [hcl.bars (i := 13) (j := 12) [12] hL (by kernel_rfl) rfl] at h1; cases h1), f14, (fun h => by have h1 : L 15 = true := h; rw [hcl.bars (i := 15) (j := 12) [14, 13, 12] hL (by kernel_rfl) rfl] at h1; cases h1), f17⟩
        | 13, ho, hL, haf, hK =>
          cases ho
          (try dsimp only)
          have hA : L 16 = false := hcl.bars (i := 16) (j := 13) [15, 14, 13] hL (by kernel_rfl) rfl
          obtain ⟨bv, g0, g1, g2, g3, g4, eb, hok, hbv, hv⟩ := f10 (haf ⟨10, .data⟩ (by simp) rfl)
          obtain ⟨r, er, r0, r1⟩ := f12 (haf ⟨12, .data⟩ (by simp) rfl)
          rw [eb, er]
          refine Eq.mpr (if_pos (by rfl)) ?_
          obtain ⟨m, rfl⟩ : ∃ m : Nat, r = (m : Int) := ⟨r.toNat, by omega⟩
          have hm5 : m < 5 := by omega
          have HV := fun h => five_at (hv h) hm5 
          have hokm := five_mem hok hm5
          obtain ⟨g, hg⟩ : ∃ g, five_get g0 g1 g2 g3 g4 m = g := ⟨_, rfl⟩
          rw [hg] at hokm HV
          go_wp2_with fail
          exact hK (fun jj => if jj = 40 then .pointer (some ⟨bv, m * 5, none⟩) else if jj = 37 then .slice (some ⟨bv, 0, none⟩) 5 5 else if jj = 39 then .int .i64 (m : Int) else lx jj) _ ⟨(fun h => RJ h), FA, FS, f0, f1, f2, f3, f4, f5, f6, f7, f8, f9, (fun _ => ⟨bv, g0, g1, g2, g3, g4, rfl, hok, hbv, hv⟩), f11, (fun _ => ⟨(m : Int), rfl, r0, r1⟩), (fun _ => ⟨bv, m * 5, g, rfl, hokm, hbv, HV⟩), f14, f15, f17⟩
        | 14, ho, hL, haf, hK =>
          cases ho
          (try dsimp only)
          have hA : L 16 = false := hcl.bars (i := 16) (j := 14) [15, 14] hL (by kernel_rfl) rfl
          obtain ⟨bv, m, g, eb, kg, hbv, hv⟩ := f13 (haf ⟨13, .data⟩ (by simp) rfl)
          rw [eb]
          refine Eq.mpr (if_pos (by rfl)) ?_
          have HC := hv hA
          have c0 := HC 0 _ rfl
          have c1 := HC 1 _ rfl
          have c2 := HC 2 _ rfl
          have c3 := HC 3 _ rfl
          have c4 := HC 4 _ rfl
          rw [Nat.add_zero] at c0
          go_wp2_with fail
          exact hK (fun jj => if jj = 41 then g.val else if jj = 40 then .pointer (some ⟨bv, m, none⟩) else lx jj) _ ⟨RJ, FA, FS, f0, f1, f2, f3, f4, f5, f6, f7, f8, f9, f10, f11, f12, (fun _ => ⟨bv, m, g, rfl, kg, hbv, hv⟩), (fun _ => ⟨g, rfl, kg⟩), f15, f17⟩
        | 15, ho, hL, haf, hK =>
          cases ho
          (try dsimp only)
          have hA : L 16 = false := hcl.bars (i := 16) (j := 15) [15] hL (by kernel_rfl) rfl
          obtain ⟨g, eg, kg⟩ := f14 (haf ⟨14, .data⟩ (by simp) rfl)
          rw [eg]
          refine Eq.mpr (if_pos (by rfl)) ?_
          have RA := RJ hA
          go_wp2_with fail
          exact hK (fun jj => if jj = 42 then .slice (some ⟨wl.heap.size, 0, none⟩) 1 1 else if jj = 41 then g.val else lx jj) _ ⟨(fun _ => RA.step (Only.of_ext (x1 _ _)) (RA.cur.ext (x1 _ _))), (fun h => by have h1 : L 16 = true := h; rw [hcl.bars (i := 16) (j := 15) [15] hL (by kernel_rfl) rfl] at h1; cases h1), (fun h => by have h1 : L 18 = true := h; rw [hcl.bars (i := 18) (j := 15) [16, 15] hL (by kernel_rfl) rfl] at h1; cases h1), f0, f1, f2, f3, f4, f5, f6, f7, f8, f9, (fun h => by obtain ⟨bv, g0, g1, g2, g3, g4, h1, h2, h3, h4⟩ := f10 h; exact ⟨bv, g0, g1, g2, g3, g4, h1, h2, h3, fun _ => (h4 hA).later (x1 _ _)⟩), f11, f12, (fun h => by obtain ⟨bv, m, g, h1, h2, h3, h4⟩ := f13 h; exact ⟨bv, m, g, h1, h2, h3, fun _ c u hu => cell_later (x1 _ _) (h4 hA c u hu)⟩), (fun _ => ⟨g, rfl, kg⟩), (fun _ => ⟨wl.heap.size, g, rfl, kg, fun _ => vec_made wl g.cells _⟩), f17⟩
        | 16, ho, hL, haf, hK =>
          cases ho
          (try dsimp only)
          have RA := RJ hL
          obtain ⟨bv, g, eb, kg, hvv⟩ := f15 (haf ⟨15, .data⟩ (by simp) rfl)
          have hv := hvv hL
          rw [f1 (haf ⟨1, .data⟩ (by simp) rfl), eb]
          refine Eq.mpr (if_pos (by rfl)) ?_
          have ow := RA.ow
          rw [HNX.out] at ow
          have hgl : gB < wl.heap.size := World.block_lt_of_cell? _ _ (RA.vb 0 _ rfl).1
          obtain ⟨v', w', hrun, O2, GW, _⟩ := app_val wl (gB + 1) (.slice p x cc) l ow g bv hv (by rw [HNX.out]; omega) hgl
          have hlen : (l ++ [g]).length = x + 1 := by rw [List.length_append, HNX.out]; rfl
          obtain ⟨p', cc', ev⟩ : ∃ p' cc', v' = .slice p' (x + 1) cc' := by
            rcases O2.2 with ⟨rfl, h0⟩ | ⟨g', cap, cur, e1, _⟩
            · rw [hlen] at h0; omega
            · rw [hlen] at e1; exact ⟨_, _, e1⟩
          subst ev
          have hst : L 18 = false := hcl.bars (i := 18) (j := 16) [16] hL (by kernel_rfl) rfl
          refine Lib.wpList_append_run _ rfl (.tmp 28) (.tmp 42) 23 23 rfl _ _ rfl rfl _ _ hrun ?_
          go_wp2_with fail
          exact hK (fun jj => if jj = 43 then .slice p' (x + 1) cc' else if jj = 28 then .slice p x cc else if jj = 42 then .slice (some ⟨bv, 0, none⟩) 1 1 else lx jj) _ ⟨(fun h => by cases h), (fun _ _ => ⟨p', cc', g, wl, rfl, kg, RA.more (by have := kcR_le L; omega), GW, O2⟩), (fun h => by have h1 : L 18 = true := h; rw [hst] at h1; cases h1), f0, (fun _ => rfl), f2, f3, f4, f5, f6, f7, f8, f9, (fun h => by obtain ⟨bv, g0, g1, g2, g3, g4, h1, h2, h3, h4⟩ := f10 h; exact ⟨bv, g0, g1, g2, g3, g4, h1, h2, h3, fun h => by cases h⟩), f11, f12, (fun h => by obtain ⟨bv, m, g, h1, h2, h3, h4⟩ := f13 h; exact ⟨bv, m, g, h1, h2, h3, fun h => by cases h⟩), f14, (fun _ => ⟨bv, g, rfl, kg, fun h => by cases h⟩), f17⟩
        | 17, ho, hL, haf, hK =>
          cases ho
          (try dsimp only)
          refine Eq.mpr (if_pos (by rfl)) ?_
          go_wp2_with fail
          exact hK (fun jj => if jj = 44 then .pointer (some ⟨gO, 2, none⟩) else lx jj) _ ⟨RJ, FA, FS, f0, f1, f2, f3, f4, f5, f6, f7, f8, f9, f10, f11, f12, f13, f14, f15, (fun _ => rfl)⟩
        | 18, ho, hL, haf, hK =>
          cases ho
          (try dsimp only)
          obtain ⟨p', cc', g, wq, ep, kg, RQ, GQ, O2⟩ := FA (haf ⟨16, .data⟩ (by simp) rfl) hL
          have hlen : (l ++ [g]).length = x + 1 := by rw [List.length_append, HNX.out]; rfl
          obtain ⟨OG, oc, oz⟩ := RQ.grow (l' := l ++ [g]) (p' := p') (cc' := cc') (by rw [HNX.out]; exact GQ) (by rw [hlen]; exact O2) (fun q hq => by rcases List.mem_append.1 hq with h | h; exact RQ.ok q h; rw [List.mem_singleton] at h; rw [h]; exact kg)
          rw [hlen] at OG
          rw [HNX.out] at oc
          rw [f17 (haf ⟨17, .data⟩ (by simp) rfl), ep]
          refine Eq.mpr (if_pos (by rfl)) ?_
          have h16 : L 16 = true := haf ⟨16, .data⟩ (by simp) rfl
          go_wp2_with fail
          exact hK (fun jj => if jj = 44 then .pointer (some ⟨gO, 2, none⟩) else if jj = 43 then .slice p' (x + 1) cc' else lx jj) _ ⟨(fun h => by have h1 : L 16 = false := h; rw [h16] at h1; cases h1), (fun _ h => by cases h), (fun _ => ⟨p', cc', g, rfl, kg, OG⟩), f0, f1, f2, f3, f4, f5, f6, f7, f8, f9, (fun h => by obtain ⟨bv, g0, g1, g2, g3, g4, h1, h2, h3, h4⟩ := f10 h; exact ⟨bv, g0, g1, g2, g3, g4, h1, h2, h3, fun h => by have h1 : L 16 = false := h; rw [h16] at h1; cases h1⟩), f11, f12, (fun h => by obtain ⟨bv, m, g, h1, h2, h3, h4⟩ := f13 h; exact ⟨bv, m, g, h1, h2, h3, fun h => by have h1 : L 16 = false := h; rw [h16] at h1; cases h1⟩), f14, (fun h => by obtain ⟨bv, g, h1, h2, h3⟩ := f15 h; exact ⟨bv, g, h1, h2, fun h => by have h1 : L 16 = false := h; rw [h16] at h1; cases h1⟩), (fun _ => rfl)⟩
        | k + 19, ho, _, _, _ => simp at ho
      · intro L lx w8 hall hI
        obtain ⟨RJ, FA, FS, f0, f1, f2, f3, f4, f5, f6, f7, f8, f9, f10, f11, f12, f13, f14, f15, f17⟩ := hI.out
        obtain ⟨p', cc', g, ep, kg, OG⟩ := FS (hall 18 (by simp))
        have HF : Hid (∃ l p cc, l.length = x + 1 ∧ RepJ w b base gO gA gB R C (K + 84 + 46 * l.length) ⟨ak, an, ad, ax, at'⟩ ⟨bk, bn, bd, bx, bt⟩ l p cc w8) := by
          refine ⟨l ++ [g], p', cc', by rw [List.length_append, HNX.out]; rfl, OG.more ?_⟩
          rw [List.length_append, HNX.out, List.length_singleton, ← HK1.out]; omega
        clear OG hI hall ep kg RJ FA FS f0 f1 f2 f3 f4 f5 f6 f7 f8 f9 f10 f11 f12 f13 f14 f15 f17 HR
        (try dsimp only)
        go_wp2_with fail
        go_roundw
        case rel => exact ⟨x + 1, by omega, by go_num, HF⟩
        case measure => simp [intOf]; omega
    · obtain rfl : x = T := by omega
      have i2 : ¬ (x : Int) < (x : Int) := by omega
      have T := HR.out
      have HN : Hid (l.length = x) := hl
      have a2 := (T.vo 2 _ rfl).1
      have lb := ownW_block T.ow
      have RA := RowAt.of_row T.ow
      rw [hl] at a2 lb
      have RA : RowAt wr (.slice p x cc) l.length (flatV l) := by rw [hl] at RA ⊢; exact RA
      have TC := T.cur
      have VZ := T.vz
      have TO := T.only
      have TK := T.ok
      rw [hl] at TC
      clear HR T hl
      go_wp2_with fail
      clear g0 g1 a2
      have hl := HN.out
      refine (oddGridC b base _ R C (.slice p x cc) l wr TC (by omega) RA (fun g hg => by have := lb g hg; exact ⟨by omega, by omega⟩) (by omega) (by omega) TK (by omega) (by omega)).mono ?_
      rintro e w9 ⟨⟨R', C', l', rfl, RA', hl', ok'⟩, C9, T9⟩
      have ltw := World.block_lt_of_cell? _ _ (VZ 0 _ rfl).1
      have V9 := T9.vec (k := w.heap.size) (by omega) (fun q => by have := lb _ q.symm; omega) ltw VZ
      have O9 := only_two TO T9 (fun g hg => by have := lb g hg; omega)
      have RA' : RowAt w9 (.slice p x cc) x (flatV l') := by rw [hl', hl] at RA'; exact RA'
      obtain ⟨wy, hy, b0, b1, b2, fb0, fb1, fb2, fd0, fd1, fd2, CF, RF, OF⟩ := finTJ V9 C9 RA' O9 (Nat.le_refl _) (by omega) (by omega) (fun g hg => by have := lb g hg; omega) R' C'
      go_wp2_with fail
      exact bodyPost_ret (v := grV R' C' (.slice p x cc)) (by simp [results, Tryz.results13, go_sem, fd0, fd1, fd2]) rfl ⟨⟨R', C', _, l', rfl, by rw [hl', hl]; exact RF, by omega, ok', fun g hg => by have := lb g hg; omega⟩, CF.more (by omega), OF⟩

end Go.Proofs.YtbomplppgobkdaaGreatDoor

