/-
  Several texts in one: X9b, X9c, V7a, V7b, V7c, X9d.
-/
import Derived.Test.YtbomplppgobkdaaGreatDoorMg24
import Derived.Test.YtbomplppgobkdaaGreatDoorMg11
import Derived.Test.YtbomplppgobkdaaGreatDoorMg10
import Derived.Deep.MidRow
import Derived.Laws.MakeOwn
import Derived.Laws.IdiomStrings
namespace Go.Proofs.YtbomplppgobkdaaGreatDoor
open Go.RowKit

theorem Cur.baseC {w : World} {b base K : Nat} (h : Cur w b base K) : base ≤ b := by obtain ⟨_, _, _, _, _, _, _, _, _, _, _, hb⟩ := h; exact hb
theorem Only.vecC {b k : Nat} {w w' : World} {l : List Value} (h : Only b w w') (hk : k ≠ b) (v : Vec w k l) : Vec w' k l := fun i x hi => by
  obtain ⟨hc, hf⟩ := v i x hi
  refine ⟨h.cell hk hc, ?_⟩
  have hlt := World.block_lt_of_cell? _ _ hc
  rw [← hf]
  exact World.frozen?_of_block (h.block k hk hlt)
/-- The last store into a number's cells, beside the reader of choices. -/
theorem finDC {a w : World} {b base K g : Nat} (V : Vec w g [.bool false, .int .i64 0, .int .i64 0]) (C : Cur w b base K) (O : Only b a w) (hg : a.heap.size ≤ g) (hb : b ≠ g) (hbase : base ≤ g) (n : Bool) (d x : Int) :
    ∃ wy, ((w.setCell ⟨g, 0, none⟩ (.bool n)).setCell ⟨g, 1, none⟩ (.int .i64 d)).setCell ⟨g, 2, none⟩ (.int .i64 x) = wy ∧ Only b a wy ∧ Cur wy b base K ∧ (w.cell? ⟨g, 0, none⟩ = some (.bool false) ∧ w.cell? ⟨g, 1, none⟩ = some (.int .i64 0) ∧ w.cell? ⟨g, 2, none⟩ = some (.int .i64 0)) ∧ (w.frozen? ⟨g, 0, none⟩ = false ∧ w.frozen? ⟨g, 1, none⟩ = false ∧ w.frozen? ⟨g, 2, none⟩ = false) ∧ wy.cell? ⟨g, 0, none⟩ = some (.bool n) ∧ wy.cell? ⟨g, 1, none⟩ = some (.int .i64 d) ∧ wy.cell? ⟨g, 2, none⟩ = some (.int .i64 x) :=
  ⟨_, rfl, ((O.setNew hg _).setNew hg _).setNew hg _, ((C.far hb hbase _).far hb hbase _).far hb hbase _, V.three, V.threeF, Vec.three (((V.put 0 (by simp) (.bool n)).put 1 (by simp) (.int .i64 d)).put 2 (by simp) (.int .i64 x))⟩
/-- The last store into a value's cells, beside the reader of choices. -/
theorem finVC {a w : World} {b base K g : Nat} {k0 : Int} {n0 : Bool} {d0 x0 : Int} {t0 : List UInt8} (V : Vec w g [.int .i64 k0, .bool n0, .int .i64 d0, .int .i64 x0, sV t0]) (C : Cur w b base K) (O : Only b a w) (hg : a.heap.size ≤ g) (hb : b ≠ g) (hbase : base ≤ g) (k : Int) (n : Bool) (d x : Int) (t : List UInt8) :
    ∃ wy, (((((w.setCell ⟨g, 0, none⟩ (.int .i64 k)).setCell ⟨g, 1, none⟩ (.bool n)).setCell ⟨g, 2, none⟩ (.int .i64 d)).setCell ⟨g, 3, none⟩ (.int .i64 x)).setCell ⟨g, 4, none⟩ (sV t)) = wy ∧ Only b a wy ∧ Cur wy b base K ∧ Vec wy g [.int .i64 k, .bool n, .int .i64 d, .int .i64 x, sV t] ∧ (w.cell? ⟨g, 0, none⟩ = some (.int .i64 k0) ∧ w.cell? ⟨g, 1, none⟩ = some (.bool n0) ∧ w.cell? ⟨g, 2, none⟩ = some (.int .i64 d0) ∧ w.cell? ⟨g, 3, none⟩ = some (.int .i64 x0) ∧ w.cell? ⟨g, 4, none⟩ = some (sV t0)) ∧ (w.frozen? ⟨g, 0, none⟩ = false ∧ w.frozen? ⟨g, 1, none⟩ = false ∧ w.frozen? ⟨g, 2, none⟩ = false ∧ w.frozen? ⟨g, 3, none⟩ = false ∧ w.frozen? ⟨g, 4, none⟩ = false) ∧ wy.cell? ⟨g, 0, none⟩ = some (.int .i64 k) ∧ wy.cell? ⟨g, 1, none⟩ = some (.bool n) ∧ wy.cell? ⟨g, 2, none⟩ = some (.int .i64 d) ∧ wy.cell? ⟨g, 3, none⟩ = some (.int .i64 x) ∧ wy.cell? ⟨g, 4, none⟩ = some (sV t) :=
  ⟨_, rfl, ((((O.setNew hg _).setNew hg _).setNew hg _).setNew hg _).setNew hg _, ((((C.far hb hbase _).far hb hbase _).far hb hbase _).far hb hbase _).far hb hbase _, V.put5 (.int .i64 k) (.bool n) (.int .i64 d) (.int .i64 x) (sV t), V.five, V.fiveF, Vec.five (V.put5 (.int .i64 k) (.bool n) (.int .i64 d) (.int .i64 x) (sV t))⟩
theorem field_dec (ok n : Bool) (d x : Int) (W : World) : (Instr.field 107 (.agg #[.bool ok, .bool n, .int .i64 d, .int .i64 x]) 1).run Tryz.prog W = .ok (decV n d x) W := by kernel_rfl
theorem put_d (neg : Bool) (P : Nat) (e : Int) (m : Bool) : 0 ≤ (putR neg P e m).d ∧ (putR neg P e m).d < 1000000000000000 := by
  cases h : (putR neg P e m).ok with
  | true =>
    have := put_ok h
    unfold goodB at this
    split at this
    · rename_i h0; rw [h0]; omega
    · simp only [decide_eq_true_eq] at this; omega
  | false =>
    revert h
    unfold putR fitR
    repeat' split
    all_goals intro h
    all_goals first | (cases h; done) | (constructor <;> decide)
set_option maxRecDepth 8000 in
set_option maxHeartbeats 2000000 in
theorem smallZ (z : Int) (w : World) (s1 : -1000000000000000000 < z) (s2 : z < 1000000000000000000) :
    Calls Tryz.prog 73 #[.int .i64 z] w fun e w' => e = .returned (zS z) ∧ Ext w w' := by
  go_enter Tryz.func73, Tryz.ntmps73
  go_wp2
  exact bodyPost_ret (v := zS z) (by simp [results, Tryz.results73, go_sem]) rfl ⟨rfl, x1 _ _⟩
theorem putZ (z e : Int) (w : World) (s1 : -1000000000000000000 < z) (s2 : z < 1000000000000000000) (e0 : -50000 ≤ e) (e1 : e ≤ 50000) :
    Calls Tryz.prog 72 #[zS z, .int .i64 e, .bool false] w fun rr w' => (∃ ok n d x, rr = .returned (.agg #[.bool ok, .bool n, .int .i64 d, .int .i64 x]) ∧ 0 ≤ d ∧ d < 1000000000000000) ∧ Ext w w' := by
  have hp : ((1000000000 : Int) ^ 3) = 1000000000000000000000000000 := by decide
  refine (put_spec e false w (ZV.small s1 s2) 3 (by omega) (by rw [hp]; omega) e0 e1 (decide (z < 0)) z.natAbs rfl (fun _ => rfl)).mono ?_
  rintro rr w' ⟨rfl, E⟩
  exact ⟨⟨_, _, _, _, rfl, put_d _ _ _ _⟩, E⟩
set_option maxRecDepth 8000 in
set_option maxHeartbeats 2000000 in
theorem decC (b base K : Nat) (w : World) (h : Cur w b base K) (hK : K ≤ 1000000) :
    Calls Tryz.prog 71 #[.pointer (some ⟨b, 0, none⟩)] w fun e w' => (∃ n d x, e = .returned (decV n d x) ∧ 0 ≤ d ∧ d < 1000000000000000) ∧ Cur w' b base (K + 20) ∧ Only b w w' := by
  have bl := h.lt
  have bb := h.baseC
  have X0 := x1 w (.cells #[.bool false, .int .i64 0, .int .i64 0] 48)
  have V0 := vec_made w [.bool false, .int .i64 0, .int .i64 0] 48
  have C0 := h.ext X0
  go_enter Tryz.func71, Tryz.ntmps71
  go_wp2_with fail
  refine (pickC b base K 9 _ C0 (by omega) (by omega) (by omega)).mono ?_
  rintro e w1 ⟨x, rfl, ⟨y0, y9⟩, C1, o1⟩
  have V1 := o1.vecC (by omega) V0
  have O1 := (Only.of_ext X0).trans o1
  clear C0 o1 X0 V0
  by_cases h0 : x = 0
  · subst h0
    clear y0 y9
    obtain ⟨wy, hy, OF, CF, ⟨b0, b1, b2⟩, ⟨fb0, fb1, fb2⟩, fd0, fd1, fd2⟩ := finDC V1 C1 O1 (Nat.le_refl _) (by omega) (by omega) false 0 0
    go_wp2_with fail
    exact bodyPost_ret (v := decV false 0 0) (by simp [results, Tryz.results71, go_sem, fd0, fd1, fd2]) rfl ⟨⟨_, _, _, rfl, by omega, by omega⟩, CF.more (by omega), OF⟩
  · have e0 : (x == 0) = false := by simpa using h0
    by_cases h1 : x = 1
    · subst h1
      clear y0 y9
      go_wp2_with fail
      refine (wideC b base _ _ C1 (by omega)).mono ?_
      rintro e w2 ⟨u, rfl, ⟨u0, u9⟩, C1, o1⟩
      have V1 := o1.vecC (by omega) V1
      have O1 := O1.trans o1
      clear o1
      have wy2 : IntKind.i64.wrap (u / 16384) = u / 16384 := by rw [IntKind.wrap_i64]; omega
      go_wp2_with fail
      refine (smallZ (u / 16384) _ (by omega) (by omega)).mono ?_
      rintro e w3 ⟨rfl, E⟩
      have C1 := C1.ext E
      have V1 := V1.later E
      have O1 := O1.trans (Only.of_ext E)
      clear E
      go_wp2_with fail
      refine (pickC b base _ 40 _ C1 (by omega) (by omega) (by omega)).mono ?_
      rintro e w4 ⟨p, rfl, ⟨p0, p9⟩, C1, o1⟩
      have V1 := o1.vecC (by omega) V1
      have O1 := O1.trans o1
      clear o1
      go_wp2_with fail
      refine (putZ (u / 16384) (p - 20) _ (by omega) (by omega) (by omega) (by omega)).mono ?_
      rintro e w5 ⟨⟨ok, n, d, x, rfl, d0, d1⟩, E⟩
      have C1 := C1.ext E
      have V1 := V1.later E
      have O1 := O1.trans (Only.of_ext E)
      clear E
      have FD := fun W => field_dec ok n d x W
      obtain ⟨wy, hy, OF, CF, ⟨b0, b1, b2⟩, ⟨fb0, fb1, fb2⟩, fd0, fd1, fd2⟩ := finDC V1 C1 O1 (Nat.le_refl _) (by omega) (by omega) n d x
      go_wp2_with fail
      exact bodyPost_ret (v := decV n d x) (by simp [results, Tryz.results71, go_sem, fd0, fd1, fd2]) rfl ⟨⟨_, _, _, rfl, d0, d1⟩, CF.more (by omega), OF⟩
    · have e1 : (x == 1) = false := by simpa using h1
      by_cases h2 : x = 2
      · subst h2
        clear y0 y9
        go_wp2_with fail
        refine (pickC b base _ 999 _ C1 (by omega) (by omega) (by omega)).mono ?_
        rintro e w2 ⟨y, rfl, ⟨y0, y9⟩, C1, o1⟩
        have V1 := o1.vecC (by omega) V1
        have O1 := O1.trans o1
        clear o1
        go_wp2_with fail
        refine (smallZ (1 + y) _ (by omega) (by omega)).mono ?_
        rintro e w3 ⟨rfl, E⟩
        have C1 := C1.ext E
        have V1 := V1.later E
        have O1 := O1.trans (Only.of_ext E)
        clear E
        go_wp2_with fail
        refine (pickC b base _ 620 _ C1 (by omega) (by omega) (by omega)).mono ?_
        rintro e w4 ⟨p, rfl, ⟨p0, p9⟩, C1, o1⟩
        have V1 := o1.vecC (by omega) V1
        have O1 := O1.trans o1
        clear o1
        go_wp2_with fail
        refine (putZ (1 + y) (p - 310) _ (by omega) (by omega) (by omega) (by omega)).mono ?_
        rintro e w5 ⟨⟨ok, n, d, x, rfl, d0, d1⟩, E⟩
        have C1 := C1.ext E
        have V1 := V1.later E
        have O1 := O1.trans (Only.of_ext E)
        clear E
        have FD := fun W => field_dec ok n d x W
        have hs5 : w.heap.size < w5.heap.size := World.block_lt_of_cell? _ _ (V1 0 _ rfl).1
        have hb5 := C1.lt
        obtain ⟨wz, hz⟩ : ∃ q, w5.alloc (.cells #[.bool false, .bool false, .int .i64 0, .int .i64 0] 107) = q := ⟨_, rfl⟩
        have Z := vec_made w5 [.bool false, .bool false, .int .i64 0, .int .i64 0] 107
        have EZ := x1 w5 (.cells #[.bool false, .bool false, .int .i64 0, .int .i64 0] 107)
        change Vec (w5.alloc (.cells #[.bool false, .bool false, .int .i64 0, .int .i64 0] 107)) _ _ at Z
        rw [hz] at Z EZ
        obtain ⟨z0, z1, z2, z3⟩ := Vec.four Z
        obtain ⟨fz0, fz1, fz2, fz3⟩ := Vec.fourF Z
        have Z4 : Vec (setL wz w5.heap.size 0 [.bool ok, .bool n, .int .i64 d, .int .i64 x]) w5.heap.size [.bool ok, .bool n, .int .i64 d, .int .i64 x] := (((Z.put 0 (by simp) (.bool ok)).put 1 (by simp) (.bool n)).put 2 (by simp) (.int .i64 d)).put 3 (by simp) (.int .i64 x)
        have V1 := Vec.farL (k := w5.heap.size) (by omega) [.bool ok, .bool n, .int .i64 d, .int .i64 x] 0 (V1.later EZ)
        have C1 : Cur (setL wz w5.heap.size 0 [.bool ok, .bool n, .int .i64 d, .int .i64 x]) b base _ := ((((C1.ext EZ).far (g := w5.heap.size) (i := 0) (by omega) (by omega) (.bool ok)).far (g := w5.heap.size) (i := 1) (by omega) (by omega) (.bool n)).far (g := w5.heap.size) (i := 2) (by omega) (by omega) (.int .i64 d)).far (g := w5.heap.size) (i := 3) (by omega) (by omega) (.int .i64 x)
        have O1 : Only b w (setL wz w5.heap.size 0 [.bool ok, .bool n, .int .i64 d, .int .i64 x]) := ((((O1.trans (Only.of_ext EZ)).setNew (g := w5.heap.size) (i := 0) (by omega) (.bool ok)).setNew (g := w5.heap.size) (i := 1) (by omega) (.bool n)).setNew (g := w5.heap.size) (i := 2) (by omega) (.int .i64 d)).setNew (g := w5.heap.size) (i := 3) (by omega) (.int .i64 x)
        obtain ⟨w6, h6⟩ : ∃ q, setL wz w5.heap.size 0 [.bool ok, .bool n, .int .i64 d, .int .i64 x] = q := ⟨_, rfl⟩
        rw [h6] at Z4 V1 C1 O1
        have h6 : (((wz.setCell ⟨w5.heap.size, 0, none⟩ (.bool ok)).setCell ⟨w5.heap.size, 1, none⟩ (.bool n)).setCell ⟨w5.heap.size, 2, none⟩ (.int .i64 d)).setCell ⟨w5.heap.size, 3, none⟩ (.int .i64 x) = w6 := h6
        obtain ⟨q0, q1, q2, q3⟩ := Vec.four Z4
        obtain ⟨wy, hy, OF, CF, ⟨b0, b1, b2⟩, ⟨fb0, fb1, fb2⟩, fd0, fd1, fd2⟩ := finDC V1 C1 O1 (Nat.le_refl _) (by omega) (by omega) n d x
        go_wp2_with fail
        exact bodyPost_ret (v := decV n d x) (by simp [results, Tryz.results71, go_sem, fd0, fd1, fd2]) rfl ⟨⟨_, _, _, rfl, d0, d1⟩, CF.more (by omega), OF⟩
      · have e2 : (x == 2) = false := by simpa using h2
        by_cases h3 : x = 3
        · subst h3
          clear y0 y9
          go_wp2_with fail
          refine (pickC b base _ 3 _ C1 (by omega) (by omega) (by omega)).mono ?_
          rintro e w2 ⟨y, rfl, ⟨y0, y9⟩, C1, o1⟩
          have V1 := o1.vecC (by omega) V1
          have O1 := O1.trans o1
          clear o1
          go_wp2_with fail
          refine (smallZ (999999999999999 - y) _ (by omega) (by omega)).mono ?_
          rintro e w3 ⟨rfl, E⟩
          have C1 := C1.ext E
          have V1 := V1.later E
          have O1 := O1.trans (Only.of_ext E)
          clear E
          go_wp2_with fail
          refine (pickC b base _ 5 _ C1 (by omega) (by omega) (by omega)).mono ?_
          rintro e w4 ⟨p, rfl, ⟨p0, p9⟩, C1, o1⟩
          have V1 := o1.vecC (by omega) V1
          have O1 := O1.trans o1
          clear o1
          go_wp2_with fail
          refine (putZ (999999999999999 - y) (p - 2) _ (by omega) (by omega) (by omega) (by omega)).mono ?_
          rintro e w5 ⟨⟨ok, n, d, x, rfl, d0, d1⟩, E⟩
          have C1 := C1.ext E
          have V1 := V1.later E
          have O1 := O1.trans (Only.of_ext E)
          clear E
          have FD := fun W => field_dec ok n d x W
          obtain ⟨wy, hy, OF, CF, ⟨b0, b1, b2⟩, ⟨fb0, fb1, fb2⟩, fd0, fd1, fd2⟩ := finDC V1 C1 O1 (Nat.le_refl _) (by omega) (by omega) n d x
          go_wp2_with fail
          exact bodyPost_ret (v := decV n d x) (by simp [results, Tryz.results71, go_sem, fd0, fd1, fd2]) rfl ⟨⟨_, _, _, rfl, d0, d1⟩, CF.more (by omega), OF⟩
        · have e3 : (x == 3) = false := by simpa using h3
          by_cases h4 : x = 4
          · subst h4
            clear y0 y9
            go_wp2_with fail
            refine (pickC b base _ 20000 _ C1 (by omega) (by omega) (by omega)).mono ?_
            rintro e w2 ⟨y, rfl, ⟨y0, y9⟩, C1, o1⟩
            have V1 := o1.vecC (by omega) V1
            have O1 := O1.trans o1
            clear o1
            go_wp2_with fail
            refine (smallZ (y - 10000) _ (by omega) (by omega)).mono ?_
            rintro e w3 ⟨rfl, E⟩
            have C1 := C1.ext E
            have V1 := V1.later E
            have O1 := O1.trans (Only.of_ext E)
            clear E
            go_wp2_with fail
            refine (pickC b base _ 4 _ C1 (by omega) (by omega) (by omega)).mono ?_
            rintro e w4 ⟨p, rfl, ⟨p0, p9⟩, C1, o1⟩
            have V1 := o1.vecC (by omega) V1
            have O1 := O1.trans o1
            clear o1
            go_wp2_with fail
            refine (putZ (y - 10000) (-p) _ (by omega) (by omega) (by omega) (by omega)).mono ?_
            rintro e w5 ⟨⟨ok, n, d, x, rfl, d0, d1⟩, E⟩
            have C1 := C1.ext E
            have V1 := V1.later E
            have O1 := O1.trans (Only.of_ext E)
            clear E
            have FD := fun W => field_dec ok n d x W
            obtain ⟨wy, hy, OF, CF, ⟨b0, b1, b2⟩, ⟨fb0, fb1, fb2⟩, fd0, fd1, fd2⟩ := finDC V1 C1 O1 (Nat.le_refl _) (by omega) (by omega) n d x
            go_wp2_with fail
            exact bodyPost_ret (v := decV n d x) (by simp [results, Tryz.results71, go_sem, fd0, fd1, fd2]) rfl ⟨⟨_, _, _, rfl, d0, d1⟩, CF.more (by omega), OF⟩
          · have e4 : (x == 4) = false := by simpa using h4
            by_cases h5 : x = 5
            · subst h5
              clear y0 y9
              go_wp2_with fail
              refine (pickC b base _ 20000 _ C1 (by omega) (by omega) (by omega)).mono ?_
              rintro e w2 ⟨y, rfl, ⟨y0, y9⟩, C1, o1⟩
              have V1 := o1.vecC (by omega) V1
              have O1 := O1.trans o1
              clear o1
              go_wp2_with fail
              refine (smallZ (y - 10000) _ (by omega) (by omega)).mono ?_
              rintro e w3 ⟨rfl, E⟩
              have C1 := C1.ext E
              have V1 := V1.later E
              have O1 := O1.trans (Only.of_ext E)
              clear E
              go_wp2_with fail
              refine (pickC b base _ 4 _ C1 (by omega) (by omega) (by omega)).mono ?_
              rintro e w4 ⟨p, rfl, ⟨p0, p9⟩, C1, o1⟩
              have V1 := o1.vecC (by omega) V1
              have O1 := O1.trans o1
              clear o1
              go_wp2_with fail
              refine (putZ (y - 10000) (-p) _ (by omega) (by omega) (by omega) (by omega)).mono ?_
              rintro e w5 ⟨⟨ok, n, d, x, rfl, d0, d1⟩, E⟩
              have C1 := C1.ext E
              have V1 := V1.later E
              have O1 := O1.trans (Only.of_ext E)
              clear E
              have FD := fun W => field_dec ok n d x W
              obtain ⟨wy, hy, OF, CF, ⟨b0, b1, b2⟩, ⟨fb0, fb1, fb2⟩, fd0, fd1, fd2⟩ := finDC V1 C1 O1 (Nat.le_refl _) (by omega) (by omega) n d x
              go_wp2_with fail
              exact bodyPost_ret (v := decV n d x) (by simp [results, Tryz.results71, go_sem, fd0, fd1, fd2]) rfl ⟨⟨_, _, _, rfl, d0, d1⟩, CF.more (by omega), OF⟩
            · have e5 : (x == 5) = false := by simpa using h5
              go_wp2_with fail
              refine (pickC b base _ 200 _ C1 (by omega) (by omega) (by omega)).mono ?_
              rintro e w2 ⟨y, rfl, ⟨y0, y9⟩, C1, o1⟩
              have V1 := o1.vecC (by omega) V1
              have O1 := O1.trans o1
              clear o1
              go_wp2_with fail
              refine (smallZ (y - 100) _ (by omega) (by omega)).mono ?_
              rintro e w3 ⟨rfl, E⟩
              have C1 := C1.ext E
              have V1 := V1.later E
              have O1 := O1.trans (Only.of_ext E)
              clear E
              go_wp2_with fail
              refine (putZ (y - 100) (0) _ (by omega) (by omega) (by omega) (by omega)).mono ?_
              rintro e w5 ⟨⟨ok, n, d, x, rfl, d0, d1⟩, E⟩
              have C1 := C1.ext E
              have V1 := V1.later E
              have O1 := O1.trans (Only.of_ext E)
              clear E
              have FD := fun W => field_dec ok n d x W
              obtain ⟨wy, hy, OF, CF, ⟨b0, b1, b2⟩, ⟨fb0, fb1, fb2⟩, fd0, fd1, fd2⟩ := finDC V1 C1 O1 (Nat.le_refl _) (by omega) (by omega) n d x
              go_wp2_with fail
              exact bodyPost_ret (v := decV n d x) (by simp [results, Tryz.results71, go_sem, fd0, fd1, fd2]) rfl ⟨⟨_, _, _, rfl, d0, d1⟩, CF.more (by omega), OF⟩

theorem sv_at {L : List (List UInt8)} {m : Nat} (h : m < L.length) : ∃ t, (L.map sV)[m]? = some (sV t) ∧ t ∈ L :=
  ⟨L[m], by rw [List.getElem?_map, List.getElem?_eq_getElem h]; rfl, List.getElem_mem h⟩
theorem cur_ne {w : World} {b base K g : Nat} {l : List Value} {t : List UInt8} (C : Cur w b base K) (V : Vec w g l) (h : l[1]? = some (sV t)) : g ≠ b := by
  intro e
  subst e
  obtain ⟨v, n, a, s, B, _⟩ := C
  have h1 := (V 1 _ h).1
  have h2 : w.cell? ⟨g, 1, none⟩ = some (.int .i64 a) := B.1.2.1
  rw [h2] at h1
  cases h1
def drawnT : List (List UInt8) := [[], [97], [66], [97, 98, 99], [49, 50], [32, 51, 46, 53, 32], [116, 114, 117, 101], [120, 32, 121], [65, 98], [122, 122, 122]]
/-- What is drawn: no more than this is said of it. -/
def DrawnV (e : Ending) : Prop := ∃ k n d x t, e = .returned (valV k n d x t) ∧ 0 ≤ d ∧ d < 1000000000000000 ∧ t.length ≤ 2000
set_option maxRecDepth 8000 in
set_option maxHeartbeats 2000000 in
theorem l6IntS (z : Int) (w : World) (s1 : -1000000000000000000 < z) (s2 : z < 1000000000000000000) :
    Calls Tryz.prog 38 #[.int .i64 z] w fun e w' => (∃ n d x, e = .returned (valV 1 n d x []) ∧ 0 ≤ d ∧ d < 1000000000000000) ∧ Ext w w' := by
  have X0 := x1 w (.cells #[.int .i64 0, .bool false, .int .i64 0, .int .i64 0, sV []] 50)
  have V0 := vec_made w [.int .i64 0, .bool false, .int .i64 0, .int .i64 0, sV []] 50
  go_enter Tryz.func38, Tryz.ntmps38
  go_wp2_with fail
  refine (smallZ z _ s1 s2).mono ?_
  rintro e w1 ⟨rfl, e1⟩
  go_wp2_with fail
  refine (putZ z 0 w1 s1 s2 (by omega) (by omega)).mono ?_
  rintro e w2 ⟨⟨ok, n, d, x, rfl, d0, d1⟩, e2⟩
  have FD := fun W => field_dec ok n d x W
  go_wp2_with fail
  refine (numVS n d x w2).mono ?_
  rintro e w3 ⟨rfl, e3⟩
  obtain ⟨wy, hy, FX, ⟨b0, b1, b2, b3, b4⟩, ⟨fb0, fb1, fb2, fb3, fb4⟩, fd0, fd1, fd2, fd3, fd4⟩ := fin5 (((V0.later e1).later e2).later e3) (xt (xt (xt X0 e1) e2) e3) (Nat.le_refl _) 1 n d x []
  go_wp2_with fail
  exact bodyPost_ret (v := valV 1 n d x []) (by simp [results, Tryz.results38, go_sem, fd0, fd1, fd2, fd3, fd4]) rfl ⟨⟨_, _, _, rfl, d0, d1⟩, FX⟩
set_option maxRecDepth 8000 in
set_option maxHeartbeats 2000000 in
theorem valueC (b base K : Nat) (w : World) (h : Cur w b base K) (hK : K ≤ 900000) :
    Calls Tryz.prog 37 #[.pointer (some ⟨b, 0, none⟩)] w fun e w' => DrawnV e ∧ Cur w' b base (K + 40) ∧ Only b w w' := by
  have bl := h.lt
  have bb := h.baseC
  have X0 := x1 w (.cells #[.int .i64 0, .bool false, .int .i64 0, .int .i64 0, sV []] 50)
  have V0 := vec_made w [.int .i64 0, .bool false, .int .i64 0, .int .i64 0, sV []] 50
  have C0 := h.ext X0
  go_enter Tryz.func37, Tryz.ntmps37
  go_wp2_with fail
  refine (pickC b base K 9 _ C0 (by omega) (by omega) (by omega)).mono ?_
  rintro e w1 ⟨x, rfl, ⟨y0, y9⟩, C1, o1⟩
  have V1 := o1.vecC (by omega) V0
  have O1 := (Only.of_ext X0).trans o1
  clear C0 o1 X0 V0
  by_cases h0 : x = 0
  · subst h0
    clear y0 y9
    obtain ⟨wy, hy, OF, CF, _, ⟨b0, b1, b2, b3, b4⟩, ⟨fb0, fb1, fb2, fb3, fb4⟩, fd0, fd1, fd2, fd3, fd4⟩ := finVC V1 C1 O1 (Nat.le_refl _) (by omega) (by omega) 0 false 0 0 []
    go_wp2_with fail
    exact bodyPost_ret (v := valV 0 false 0 0 []) (by simp [results, Tryz.results37, go_sem, fd0, fd1, fd2, fd3, fd4]) rfl ⟨⟨_, _, _, _, _, rfl, by omega, by omega, by simp⟩, CF.more (by omega), OF⟩
  · have e0 : (x == 0) = false := by simpa using h0
    by_cases h1 : x = 1
    · subst h1
      clear y0 y9
      have hs1 : w.heap.size < w1.heap.size := World.block_lt_of_cell? _ _ (V1 0 _ rfl).1
      have hb1 := C1.lt
      have TV := vec_made w1 (drawnT.map sV) 9
      have C1 := fun o => C1.ext (x1 w1 o)
      have V1 := fun o => V1.later (x1 w1 o)
      have O1 := fun o => O1.trans (Only.of_ext (x1 w1 o))
      go_wp2_with fail
      refine (pickC b base _ 10 _ (C1 _) (by omega) (by omega) (by omega)).mono ?_
      rintro e w2 ⟨y, rfl, ⟨y0, y9⟩, C2, o1⟩
      have V1 := o1.vecC (by omega) (V1 _)
      have O1 := (O1 _).trans o1
      have TV : Vec w2 w1.heap.size (drawnT.map sV) := o1.vecC (by omega) TV
      have C1 := C2
      clear o1 C2
      obtain ⟨m, rfl⟩ := Int.eq_ofNat_of_zero_le y0
      obtain ⟨t, ht, hm⟩ := sv_at (L := drawnT) (m := m) (by show m < 10; omega)
      have hl : t.length ≤ 5 := by
        simp only [drawnT, List.mem_cons, List.not_mem_nil, or_false] at hm
        rcases hm with rfl | rfl | rfl | rfl | rfl | rfl | rfl | rfl | rfl | rfl <;> decide
      have a0 := (TV m _ ht).1
      have i2 : (m : Int) < 10 := y9
      clear hm ht TV
      go_wp2_with fail
      clear a0
      refine (textVS t _).mono ?_
      rintro e w3 ⟨rfl, E⟩
      have C1 := C1.ext E
      have V1 := V1.later E
      have O1 := O1.trans (Only.of_ext E)
      clear E
      obtain ⟨wy, hy, OF, CF, _, ⟨b0, b1, b2, b3, b4⟩, ⟨fb0, fb1, fb2, fb3, fb4⟩, fd0, fd1, fd2, fd3, fd4⟩ := finVC V1 C1 O1 (Nat.le_refl _) (by omega) (by omega) 2 false 0 0 t
      go_wp2_with fail
      exact bodyPost_ret (v := valV 2 false 0 0 t) (by simp [results, Tryz.results37, go_sem, fd0, fd1, fd2, fd3, fd4]) rfl ⟨⟨_, _, _, _, _, rfl, by omega, by omega, by omega⟩, CF.more (by omega), OF⟩
    · have e1 : (x == 1) = false := by simpa using h1
      by_cases h2 : x = 2
      · subst h2
        clear y0 y9
        have hs1 : w.heap.size < w1.heap.size := World.block_lt_of_cell? _ _ (V1 0 _ rfl).1
        have hb1 := C1.lt
        have TV := vec_made w1 (drawnT.map sV) 9
        have C1 := fun o => C1.ext (x1 w1 o)
        have V1 := fun o => V1.later (x1 w1 o)
        have O1 := fun o => O1.trans (Only.of_ext (x1 w1 o))
        go_wp2_with fail
        refine (pickC b base _ 10 _ (C1 _) (by omega) (by omega) (by omega)).mono ?_
        rintro e w2 ⟨y, rfl, ⟨y0, y9⟩, C2, o1⟩
        have V1 := o1.vecC (by omega) (V1 _)
        have O1 := (O1 _).trans o1
        have TV : Vec w2 w1.heap.size (drawnT.map sV) := o1.vecC (by omega) TV
        have C1 := C2
        clear o1 C2
        obtain ⟨m, rfl⟩ := Int.eq_ofNat_of_zero_le y0
        obtain ⟨t, ht, hm⟩ := sv_at (L := drawnT) (m := m) (by show m < 10; omega)
        have hl : t.length ≤ 5 := by
          simp only [drawnT, List.mem_cons, List.not_mem_nil, or_false] at hm
          rcases hm with rfl | rfl | rfl | rfl | rfl | rfl | rfl | rfl | rfl | rfl <;> decide
        have a0 := (TV m _ ht).1
        have i2 : (m : Int) < 10 := y9
        clear hm ht TV
        go_wp2_with fail
        clear a0
        refine (textVS t _).mono ?_
        rintro e w3 ⟨rfl, E⟩
        have C1 := C1.ext E
        have V1 := V1.later E
        have O1 := O1.trans (Only.of_ext E)
        clear E
        obtain ⟨wy, hy, OF, CF, _, ⟨b0, b1, b2, b3, b4⟩, ⟨fb0, fb1, fb2, fb3, fb4⟩, fd0, fd1, fd2, fd3, fd4⟩ := finVC V1 C1 O1 (Nat.le_refl _) (by omega) (by omega) 2 false 0 0 t
        go_wp2_with fail
        exact bodyPost_ret (v := valV 2 false 0 0 t) (by simp [results, Tryz.results37, go_sem, fd0, fd1, fd2, fd3, fd4]) rfl ⟨⟨_, _, _, _, _, rfl, by omega, by omega, by omega⟩, CF.more (by omega), OF⟩
      · have e2 : (x == 2) = false := by simpa using h2
        by_cases h3 : x = 3
        · subst h3
          clear y0 y9
          go_wp2_with fail
          refine (oneC b base _ 2 _ C1 (by omega) (by omega) (by omega)).mono ?_
          rintro e w2 ⟨q, rfl, C1, o1⟩
          have V1 := o1.vecC (by omega) V1
          have O1 := O1.trans o1
          clear o1
          cases q
          · go_wp2_with fail
            refine (boolVS false _).mono ?_
            rintro e w3 ⟨rfl, E⟩
            have C1 := C1.ext E
            have V1 := V1.later E
            have O1 := O1.trans (Only.of_ext E)
            clear E
            obtain ⟨wy, hy, OF, CF, _, ⟨b0, b1, b2, b3, b4⟩, ⟨fb0, fb1, fb2, fb3, fb4⟩, fd0, fd1, fd2, fd3, fd4⟩ := finVC V1 C1 O1 (Nat.le_refl _) (by omega) (by omega) 3 false 0 0 falseT
            go_wp2_with fail
            exact bodyPost_ret (v := valV 3 false 0 0 falseT) (by simp [results, Tryz.results37, go_sem, fd0, fd1, fd2, fd3, fd4]) rfl ⟨⟨_, _, _, _, _, rfl, by omega, by omega, by decide⟩, CF.more (by omega), OF⟩
          · go_wp2_with fail
            refine (boolVS true _).mono ?_
            rintro e w3 ⟨rfl, E⟩
            have C1 := C1.ext E
            have V1 := V1.later E
            have O1 := O1.trans (Only.of_ext E)
            clear E
            obtain ⟨wy, hy, OF, CF, _, ⟨b0, b1, b2, b3, b4⟩, ⟨fb0, fb1, fb2, fb3, fb4⟩, fd0, fd1, fd2, fd3, fd4⟩ := finVC V1 C1 O1 (Nat.le_refl _) (by omega) (by omega) 3 false 0 0 trueT
            go_wp2_with fail
            exact bodyPost_ret (v := valV 3 false 0 0 trueT) (by simp [results, Tryz.results37, go_sem, fd0, fd1, fd2, fd3, fd4]) rfl ⟨⟨_, _, _, _, _, rfl, by omega, by omega, by decide⟩, CF.more (by omega), OF⟩
        · have e3 : (x == 3) = false := by simpa using h3
          by_cases h4 : x = 4
          · subst h4
            clear y0 y9
            go_wp2_with fail
            refine (oneC b base _ 2 _ C1 (by omega) (by omega) (by omega)).mono ?_
            rintro e w2 ⟨q, rfl, C1, o1⟩
            have V1 := o1.vecC (by omega) V1
            have O1 := O1.trans o1
            clear o1
            cases q
            · go_wp2_with fail
              refine (pickC b base _ 40 _ C1 (by omega) (by omega) (by omega)).mono ?_
              rintro e w7 ⟨y, rfl, ⟨y0, y9⟩, C1, o1⟩
              have V1 := o1.vecC (by omega) V1
              have O1 := O1.trans o1
              clear o1
              go_wp2_with fail
              refine (l6IntS (y - 15) _ (by omega) (by omega)).mono ?_
              rintro e w8 ⟨⟨n, d, x, rfl, d0, d1⟩, E⟩
              have C1 := C1.ext E
              have V1 := V1.later E
              have O1 := O1.trans (Only.of_ext E)
              clear E
              obtain ⟨wy, hy, OF, CF, _, ⟨b0, b1, b2, b3, b4⟩, ⟨fb0, fb1, fb2, fb3, fb4⟩, fd0, fd1, fd2, fd3, fd4⟩ := finVC V1 C1 O1 (Nat.le_refl _) (by omega) (by omega) 1 n d x []
              go_wp2_with fail
              exact bodyPost_ret (v := valV 1 n d x []) (by simp [results, Tryz.results37, go_sem, fd0, fd1, fd2, fd3, fd4]) rfl ⟨⟨_, _, _, _, _, rfl, d0, d1, by simp⟩, CF.more (by omega), OF⟩
            · go_wp2_with fail
              refine (errorsS _).mono ?_
              rintro e w3 ⟨g, rfl, TV, E⟩
              have C1 := C1.ext E
              have V1 := V1.later E
              have O1 := O1.trans (Only.of_ext E)
              clear E
              have gb : g ≠ b := cur_ne C1 TV rfl
              go_wp2_with fail
              refine (pickC b base _ 9 _ C1 (by omega) (by omega) (by omega)).mono ?_
              rintro e w4 ⟨y, rfl, ⟨y0, y9⟩, C1, o1⟩
              have V1 := o1.vecC (by omega) V1
              have O1 := O1.trans o1
              have TV := o1.vecC gb TV
              clear o1
              obtain ⟨m, rfl⟩ := Int.eq_ofNat_of_zero_le y0
              obtain ⟨t, ht, hm⟩ := sv_at (L := errL) (m := m) (by show m < 9; omega)
              have hl : t.length ≤ 7 := by
                simp only [errL, List.mem_cons, List.not_mem_nil, or_false] at hm
                rcases hm with rfl | rfl | rfl | rfl | rfl | rfl | rfl | rfl | rfl <;> decide
              have a0 := (TV m _ ht).1
              have i2 : (m : Int) < 9 := y9
              clear hm ht TV
              go_wp2_with fail
              clear a0
              refine (errVS t _).mono ?_
              rintro e w5 ⟨rfl, E⟩
              have C1 := C1.ext E
              have V1 := V1.later E
              have O1 := O1.trans (Only.of_ext E)
              clear E
              obtain ⟨wy, hy, OF, CF, _, ⟨b0, b1, b2, b3, b4⟩, ⟨fb0, fb1, fb2, fb3, fb4⟩, fd0, fd1, fd2, fd3, fd4⟩ := finVC V1 C1 O1 (Nat.le_refl _) (by omega) (by omega) 4 false 0 0 t
              go_wp2_with fail
              exact bodyPost_ret (v := valV 4 false 0 0 t) (by simp [results, Tryz.results37, go_sem, fd0, fd1, fd2, fd3, fd4]) rfl ⟨⟨_, _, _, _, _, rfl, by omega, by omega, by omega⟩, CF.more (by omega), OF⟩
          · have e4 : (x == 4) = false := by simpa using h4
            by_cases h5 : x = 5
            · subst h5
              clear y0 y9
              go_wp2_with fail
              refine (decC b base _ _ C1 (by omega)).mono ?_
              rintro e w2 ⟨⟨n, d, x, rfl, d0, d1⟩, C1, o1⟩
              have V1 := o1.vecC (by omega) V1
              have O1 := O1.trans o1
              clear o1
              go_wp2_with fail
              refine (numVS n d x _).mono ?_
              rintro e w3 ⟨rfl, E⟩
              have C1 := C1.ext E
              have V1 := V1.later E
              have O1 := O1.trans (Only.of_ext E)
              clear E
              obtain ⟨wy, hy, OF, CF, _, ⟨b0, b1, b2, b3, b4⟩, ⟨fb0, fb1, fb2, fb3, fb4⟩, fd0, fd1, fd2, fd3, fd4⟩ := finVC V1 C1 O1 (Nat.le_refl _) (by omega) (by omega) 1 n d x []
              go_wp2_with fail
              exact bodyPost_ret (v := valV 1 n d x []) (by simp [results, Tryz.results37, go_sem, fd0, fd1, fd2, fd3, fd4]) rfl ⟨⟨_, _, _, _, _, rfl, d0, d1, by simp⟩, CF.more (by omega), OF⟩
            · have e5 : (x == 5) = false := by simpa using h5
              go_wp2_with fail
              refine (pickC b base _ 40 _ C1 (by omega) (by omega) (by omega)).mono ?_
              rintro e w7 ⟨y, rfl, ⟨y0, y9⟩, C1, o1⟩
              have V1 := o1.vecC (by omega) V1
              have O1 := O1.trans o1
              clear o1
              go_wp2_with fail
              refine (l6IntS (y - 15) _ (by omega) (by omega)).mono ?_
              rintro e w8 ⟨⟨n, d, x, rfl, d0, d1⟩, E⟩
              have C1 := C1.ext E
              have V1 := V1.later E
              have O1 := O1.trans (Only.of_ext E)
              clear E
              obtain ⟨wy, hy, OF, CF, _, ⟨b0, b1, b2, b3, b4⟩, ⟨fb0, fb1, fb2, fb3, fb4⟩, fd0, fd1, fd2, fd3, fd4⟩ := finVC V1 C1 O1 (Nat.le_refl _) (by omega) (by omega) 1 n d x []
              go_wp2_with fail
              exact bodyPost_ret (v := valV 1 n d x []) (by simp [results, Tryz.results37, go_sem, fd0, fd1, fd2, fd3, fd4]) rfl ⟨⟨_, _, _, _, _, rfl, d0, d1, by simp⟩, CF.more (by omega), OF⟩

structure VT where
  k : Int
  n : Bool
  d : Int
  x : Int
  t : List UInt8
abbrev VT.cells (e : VT) : List Value := valL e.k e.n e.d e.x e.t
abbrev VT.val (e : VT) : Value := valV e.k e.n e.d e.x e.t
/-- A row of values from a place on. -/
def RowV (w : World) (b o : Nat) (l : List VT) : Prop := ∀ (i : Nat) (e : VT), l[i]? = some e → ∀ (c : Nat) (u : Value), e.cells[c]? = some u → w.cell? ⟨b, o + i * 5 + c, none⟩ = some u
theorem RowV.later {w w' : World} {b o : Nat} {l : List VT} (h : RowV w b o l) (x : Ext w w') : RowV w' b o l := fun i e hi c u hc => cell_later x (h i e hi c u hc)
theorem RowV.five {w : World} {b o : Nat} {l : List VT} (h : RowV w b o l) {k : Nat} {e : VT} (he : l[k]? = some e) :
    w.cell? ⟨b, o + k * 5, none⟩ = some (.int .i64 e.k) ∧ w.cell? ⟨b, o + k * 5 + 1, none⟩ = some (.bool e.n) ∧ w.cell? ⟨b, o + k * 5 + 2, none⟩ = some (.int .i64 e.d) ∧ w.cell? ⟨b, o + k * 5 + 3, none⟩ = some (.int .i64 e.x) ∧ w.cell? ⟨b, o + k * 5 + 4, none⟩ = some (sV e.t) :=
  ⟨h k e he 0 _ rfl, h k e he 1 _ rfl, h k e he 2 _ rfl, h k e he 3 _ rfl, h k e he 4 _ rfl⟩
/-- A slice of values that lies somewhere. -/
def ValsIn (w : World) (v : Value) (l : List VT) : Prop :=
  ∃ p cap, v = .slice p l.length cap ∧ l.length ≤ cap ∧ (0 < l.length → ∃ b o, p = some ⟨b, o, none⟩ ∧ RowV w b o l)
theorem ValsIn.later {w w' : World} {v : Value} {l : List VT} (h : ValsIn w v l) (x : Ext w w') : ValsIn w' v l := by
  obtain ⟨p, cap, h1, h2, h3⟩ := h
  refine ⟨p, cap, h1, h2, fun h0 => ?_⟩
  obtain ⟨b, o, h4, h5⟩ := h3 h0
  exact ⟨b, o, h4, h5.later x⟩

def zeroVT : VT := ⟨0, false, 0, 0, []⟩
theorem cells_lt {e : VT} {c : Nat} {u : Value} (h : e.cells[c]? = some u) : c < 5 := (List.getElem?_eq_some_iff.1 h).1

theorem infoV : (Tryz.prog.info? 50).map (fun i => (i.zero, i.size, i.bytes)) = some (some (.agg #[.int .i64 0, .bool false, .int .i64 0, .int .i64 0, sV []]), 5, 48) := by kernel_rfl

end Go.Proofs.YtbomplppgobkdaaGreatDoor

