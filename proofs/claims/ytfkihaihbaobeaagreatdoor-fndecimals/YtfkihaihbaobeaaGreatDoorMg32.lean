/-
  Several texts in one: Pok, Cd1.
-/
import Derived.Test.YtfkihaihbaobeaaGreatDoorMg17
import Derived.Test.YtfkihaihbaobeaaGreatDoorImE
import Derived.Test.YtfkihaihbaobeaaGreatDoorMg0
import Derived.Test.YtfkihaihbaobeaaGreatDoorMg31
import Derived.Test.YtfkihaihbaobeaaGreatDoorPutZ
namespace Go.Proofs.YtfkihaihbaobeaaGreatDoor
open Go.RowKit

/-- What put gives is good, or it is none. -/
theorem strip_bd {P : Nat} (e : Int) : (P ≠ 0 → (strip P e).1 % 10 ≠ 0) ∧ (strip P e).1 ≤ P := by
  induction P using Nat.strongRecOn generalizing e with
  | ind P ih =>
    by_cases h : P ≠ 0 ∧ P % 10 = 0
    · rw [strip_ten h.1 h.2]
      obtain ⟨h1, h2⟩ := ih (P / 10) (by omega) (e + 1)
      exact ⟨fun _ => h1 (by omega), by omega⟩
    · rw [strip]
      simp only [h, dite_false]
      exact ⟨fun h0 => by omega, Nat.le_refl _⟩
theorem fit_ok {neg : Bool} {P : Nat} {e : Int} (hP : P ≤ 1000000000000000) (h : (fitR neg P e).ok = true) : goodB (fitR neg P e).neg (fitR neg P e).d (fitR neg P e).e = true := by
  unfold fitR at h ⊢
  split
  · rfl
  · rename_i h0
    simp only [h0, if_false] at h
    split
    · rename_i h1; simp [h1] at h
    · split
      · rfl
      · rename_i h1 h2
        obtain ⟨hm, hl⟩ := strip_bd (P := P) e
        have hm' := hm h0
        unfold goodB
        simp only
        have hne : ((strip P e).1 : Int) ≠ 0 := by omega
        rw [if_neg hne]
        have : (strip P e).1 ≠ 1000000000000000 := by omega
        simp
        omega
theorem put_ok {neg : Bool} {P : Nat} {e : Int} {more : Bool} (h : (putR neg P e more).ok = true) : goodB (putR neg P e more).neg (putR neg P e more).d (putR neg P e more).e = true := by
  unfold putR at h ⊢
  split
  · rename_i h15
    rw [if_pos h15] at h
    exact fit_ok (rnd_lt h15) h
  · rename_i h15
    rw [if_neg h15] at h
    refine fit_ok ?_ h
    have h1 := (nd_dig P).1
    have h2 := pow10_le (show nd P ≤ 15 by omega)
    have e15 : (10 : Nat) ^ 15 = 1000000000000000 := by decide
    omega

/-- Stores in a row, from an offset on. -/
def setL (w : World) (b : Nat) : Nat → List Value → World
  | _, [] => w
  | o, v :: vs => setL (w.setCell ⟨b, o, none⟩ v) b (o + 1) vs
theorem Vec.farL {b k : Nat} {l : List Value} (hk : k ≠ b) : ∀ (us : List Value) (o : Nat) {w : World}, Vec w b l → Vec (setL w k o us) b l
  | [], _, _, h => h
  | u :: us, o, _, h => Vec.farL hk us (o + 1) (h.far hk u)
theorem field_dec (ok n : Bool) (d x : Int) (W : World) : (Instr.field 28 (.agg #[.bool ok, .bool n, .int .i64 d, .int .i64 x]) 1).run Tryz.prog W = .ok (decV n d x) W := by kernel_rfl
theorem put_d (neg : Bool) (P : Nat) (e : Int) (m : Bool) : 0 ≤ (putR neg P e m).d ∧ (putR neg P e m).d < 1000000000000000 := by
  cases h : (putR neg P e m).ok with
  | true =>
    have := put_ok h
    unfold goodB at this
    split at this
    · rename_i h0; rw [h0]; omega
    · simp only [decide_eq_true_eq] at this; omega
  | false =>
    revert h
    unfold putR fitR
    repeat' split
    all_goals intro h
    all_goals first | (cases h; done) | (constructor <;> decide)
set_option maxRecDepth 8000 in
set_option maxHeartbeats 2000000 in
theorem smallZ (z : Int) (w : World) (s1 : -1000000000000000000 < z) (s2 : z < 1000000000000000000) :
    Calls Tryz.prog 35 #[.int .i64 z] w fun e w' => e = .returned (zS z) ∧ Ext w w' := by
  go_enter Tryz.func35, Tryz.ntmps35
  go_wp2
  exact bodyPost_ret (v := zS z) (by simp [results, Tryz.results35, go_sem]) rfl ⟨rfl, x1 _ _⟩
theorem putZ (z e : Int) (w : World) (s1 : -1000000000000000000 < z) (s2 : z < 1000000000000000000) (e0 : -50000 ≤ e) (e1 : e ≤ 50000) :
    Calls Tryz.prog 22 #[zS z, .int .i64 e, .bool false] w fun rr w' => (∃ ok n d x, rr = .returned (.agg #[.bool ok, .bool n, .int .i64 d, .int .i64 x]) ∧ 0 ≤ d ∧ d < 1000000000000000) ∧ Ext w w' := by
  have hp : ((1000000000 : Int) ^ 3) = 1000000000000000000000000000 := by decide
  refine (put_spec e false w (ZV.small s1 s2) 3 (by omega) (by rw [hp]; omega) e0 e1 (decide (z < 0)) z.natAbs rfl (fun _ => rfl)).mono ?_
  rintro rr w' ⟨rfl, E⟩
  exact ⟨⟨_, _, _, _, rfl, put_d _ _ _ _⟩, E⟩
set_option maxRecDepth 8000 in
set_option maxHeartbeats 2000000 in
theorem decC (b base K : Nat) (w : World) (h : Cur w b base K) (hK : K ≤ 1000000) :
    Calls Tryz.prog 32 #[.pointer (some ⟨b, 0, none⟩)] w fun e w' => (∃ n d x, e = .returned (decV n d x) ∧ 0 ≤ d ∧ d < 1000000000000000) ∧ Cur w' b base (K + 20) ∧ Only b w w' := by
  have bl := h.lt
  have bb := h.baseC
  have X0 := x1 w (.cells #[.bool false, .int .i64 0, .int .i64 0] 24)
  have V0 := vec_made w [.bool false, .int .i64 0, .int .i64 0] 24
  have C0 := h.ext X0
  go_enter Tryz.func32, Tryz.ntmps32
  go_wp2_with fail
  refine (pickC b base K 9 _ C0 (by omega) (by omega) (by omega)).mono ?_
  rintro e w1 ⟨x, rfl, ⟨y0, y9⟩, C1, o1⟩
  have V1 := o1.vecC (by omega) V0
  have O1 := (Only.of_ext X0).trans o1
  clear C0 o1 X0 V0
  by_cases h0 : x = 0
  · subst h0
    clear y0 y9
    obtain ⟨wy, hy, OF, CF, ⟨b0, b1, b2⟩, ⟨fb0, fb1, fb2⟩, fd0, fd1, fd2⟩ := finDC V1 C1 O1 (Nat.le_refl _) (by omega) (by omega) false 0 0
    go_wp2_with fail
    exact bodyPost_ret (v := decV false 0 0) (by simp [results, Tryz.results32, go_sem, fd0, fd1, fd2]) rfl ⟨⟨_, _, _, rfl, by omega, by omega⟩, CF.more (by omega), OF⟩
  · have e0 : (x == 0) = false := by simpa using h0
    by_cases h1 : x = 1
    · subst h1
      clear y0 y9
      go_wp2_with fail
      refine (wideC b base _ _ C1 (by omega)).mono ?_
      rintro e w2 ⟨u, rfl, ⟨u0, u9⟩, C1, o1⟩
      have V1 := o1.vecC (by omega) V1
      have O1 := O1.trans o1
      clear o1
      have wy2 : IntKind.i64.wrap (u / 16384) = u / 16384 := by rw [IntKind.wrap_i64]; omega
      go_wp2_with fail
      refine (smallZ (u / 16384) _ (by omega) (by omega)).mono ?_
      rintro e w3 ⟨rfl, E⟩
      have C1 := C1.ext E
      have V1 := V1.later E
      have O1 := O1.trans (Only.of_ext E)
      clear E
      go_wp2_with fail
      refine (pickC b base _ 40 _ C1 (by omega) (by omega) (by omega)).mono ?_
      rintro e w4 ⟨p, rfl, ⟨p0, p9⟩, C1, o1⟩
      have V1 := o1.vecC (by omega) V1
      have O1 := O1.trans o1
      clear o1
      go_wp2_with fail
      refine (putZ (u / 16384) (p - 20) _ (by omega) (by omega) (by omega) (by omega)).mono ?_
      rintro e w5 ⟨⟨ok, n, d, x, rfl, d0, d1⟩, E⟩
      have C1 := C1.ext E
      have V1 := V1.later E
      have O1 := O1.trans (Only.of_ext E)
      clear E
      have FD := fun W => field_dec ok n d x W
      obtain ⟨wy, hy, OF, CF, ⟨b0, b1, b2⟩, ⟨fb0, fb1, fb2⟩, fd0, fd1, fd2⟩ := finDC V1 C1 O1 (Nat.le_refl _) (by omega) (by omega) n d x
      go_wp2_with fail
      exact bodyPost_ret (v := decV n d x) (by simp [results, Tryz.results32, go_sem, fd0, fd1, fd2]) rfl ⟨⟨_, _, _, rfl, d0, d1⟩, CF.more (by omega), OF⟩
    · have e1 : (x == 1) = false := by simpa using h1
      by_cases h2 : x = 2
      · subst h2
        clear y0 y9
        go_wp2_with fail
        refine (pickC b base _ 999 _ C1 (by omega) (by omega) (by omega)).mono ?_
        rintro e w2 ⟨y, rfl, ⟨y0, y9⟩, C1, o1⟩
        have V1 := o1.vecC (by omega) V1
        have O1 := O1.trans o1
        clear o1
        go_wp2_with fail
        refine (smallZ (1 + y) _ (by omega) (by omega)).mono ?_
        rintro e w3 ⟨rfl, E⟩
        have C1 := C1.ext E
        have V1 := V1.later E
        have O1 := O1.trans (Only.of_ext E)
        clear E
        go_wp2_with fail
        refine (pickC b base _ 620 _ C1 (by omega) (by omega) (by omega)).mono ?_
        rintro e w4 ⟨p, rfl, ⟨p0, p9⟩, C1, o1⟩
        have V1 := o1.vecC (by omega) V1
        have O1 := O1.trans o1
        clear o1
        go_wp2_with fail
        refine (putZ (1 + y) (p - 310) _ (by omega) (by omega) (by omega) (by omega)).mono ?_
        rintro e w5 ⟨⟨ok, n, d, x, rfl, d0, d1⟩, E⟩
        have C1 := C1.ext E
        have V1 := V1.later E
        have O1 := O1.trans (Only.of_ext E)
        clear E
        have FD := fun W => field_dec ok n d x W
        have hs5 : w.heap.size < w5.heap.size := World.block_lt_of_cell? _ _ (V1 0 _ rfl).1
        have hb5 := C1.lt
        obtain ⟨wz, hz⟩ : ∃ q, w5.alloc (.cells #[.bool false, .bool false, .int .i64 0, .int .i64 0] 28) = q := ⟨_, rfl⟩
        have Z := vec_made w5 [.bool false, .bool false, .int .i64 0, .int .i64 0] 28
        have EZ := x1 w5 (.cells #[.bool false, .bool false, .int .i64 0, .int .i64 0] 28)
        change Vec (w5.alloc (.cells #[.bool false, .bool false, .int .i64 0, .int .i64 0] 28)) _ _ at Z
        rw [hz] at Z EZ
        obtain ⟨z0, z1, z2, z3⟩ := Vec.four Z
        obtain ⟨fz0, fz1, fz2, fz3⟩ := Vec.fourF Z
        have Z4 : Vec (setL wz w5.heap.size 0 [.bool ok, .bool n, .int .i64 d, .int .i64 x]) w5.heap.size [.bool ok, .bool n, .int .i64 d, .int .i64 x] := (((Z.put 0 (by simp) (.bool ok)).put 1 (by simp) (.bool n)).put 2 (by simp) (.int .i64 d)).put 3 (by simp) (.int .i64 x)
        have V1 := Vec.farL (k := w5.heap.size) (by omega) [.bool ok, .bool n, .int .i64 d, .int .i64 x] 0 (V1.later EZ)
        have C1 : Cur (setL wz w5.heap.size 0 [.bool ok, .bool n, .int .i64 d, .int .i64 x]) b base _ := ((((C1.ext EZ).far (g := w5.heap.size) (i := 0) (by omega) (by omega) (.bool ok)).far (g := w5.heap.size) (i := 1) (by omega) (by omega) (.bool n)).far (g := w5.heap.size) (i := 2) (by omega) (by omega) (.int .i64 d)).far (g := w5.heap.size) (i := 3) (by omega) (by omega) (.int .i64 x)
        have O1 : Only b w (setL wz w5.heap.size 0 [.bool ok, .bool n, .int .i64 d, .int .i64 x]) := ((((O1.trans (Only.of_ext EZ)).setNew (g := w5.heap.size) (i := 0) (by omega) (.bool ok)).setNew (g := w5.heap.size) (i := 1) (by omega) (.bool n)).setNew (g := w5.heap.size) (i := 2) (by omega) (.int .i64 d)).setNew (g := w5.heap.size) (i := 3) (by omega) (.int .i64 x)
        obtain ⟨w6, h6⟩ : ∃ q, setL wz w5.heap.size 0 [.bool ok, .bool n, .int .i64 d, .int .i64 x] = q := ⟨_, rfl⟩
        rw [h6] at Z4 V1 C1 O1
        have h6 : (((wz.setCell ⟨w5.heap.size, 0, none⟩ (.bool ok)).setCell ⟨w5.heap.size, 1, none⟩ (.bool n)).setCell ⟨w5.heap.size, 2, none⟩ (.int .i64 d)).setCell ⟨w5.heap.size, 3, none⟩ (.int .i64 x) = w6 := h6
        obtain ⟨q0, q1, q2, q3⟩ := Vec.four Z4
        obtain ⟨wy, hy, OF, CF, ⟨b0, b1, b2⟩, ⟨fb0, fb1, fb2⟩, fd0, fd1, fd2⟩ := finDC V1 C1 O1 (Nat.le_refl _) (by omega) (by omega) n d x
        go_wp2_with fail
        exact bodyPost_ret (v := decV n d x) (by simp [results, Tryz.results32, go_sem, fd0, fd1, fd2]) rfl ⟨⟨_, _, _, rfl, d0, d1⟩, CF.more (by omega), OF⟩
      · have e2 : (x == 2) = false := by simpa using h2
        by_cases h3 : x = 3
        · subst h3
          clear y0 y9
          go_wp2_with fail
          refine (pickC b base _ 3 _ C1 (by omega) (by omega) (by omega)).mono ?_
          rintro e w2 ⟨y, rfl, ⟨y0, y9⟩, C1, o1⟩
          have V1 := o1.vecC (by omega) V1
          have O1 := O1.trans o1
          clear o1
          go_wp2_with fail
          refine (smallZ (999999999999999 - y) _ (by omega) (by omega)).mono ?_
          rintro e w3 ⟨rfl, E⟩
          have C1 := C1.ext E
          have V1 := V1.later E
          have O1 := O1.trans (Only.of_ext E)
          clear E
          go_wp2_with fail
          refine (pickC b base _ 5 _ C1 (by omega) (by omega) (by omega)).mono ?_
          rintro e w4 ⟨p, rfl, ⟨p0, p9⟩, C1, o1⟩
          have V1 := o1.vecC (by omega) V1
          have O1 := O1.trans o1
          clear o1
          go_wp2_with fail
          refine (putZ (999999999999999 - y) (p - 2) _ (by omega) (by omega) (by omega) (by omega)).mono ?_
          rintro e w5 ⟨⟨ok, n, d, x, rfl, d0, d1⟩, E⟩
          have C1 := C1.ext E
          have V1 := V1.later E
          have O1 := O1.trans (Only.of_ext E)
          clear E
          have FD := fun W => field_dec ok n d x W
          obtain ⟨wy, hy, OF, CF, ⟨b0, b1, b2⟩, ⟨fb0, fb1, fb2⟩, fd0, fd1, fd2⟩ := finDC V1 C1 O1 (Nat.le_refl _) (by omega) (by omega) n d x
          go_wp2_with fail
          exact bodyPost_ret (v := decV n d x) (by simp [results, Tryz.results32, go_sem, fd0, fd1, fd2]) rfl ⟨⟨_, _, _, rfl, d0, d1⟩, CF.more (by omega), OF⟩
        · have e3 : (x == 3) = false := by simpa using h3
          by_cases h4 : x = 4
          · subst h4
            clear y0 y9
            go_wp2_with fail
            refine (pickC b base _ 20000 _ C1 (by omega) (by omega) (by omega)).mono ?_
            rintro e w2 ⟨y, rfl, ⟨y0, y9⟩, C1, o1⟩
            have V1 := o1.vecC (by omega) V1
            have O1 := O1.trans o1
            clear o1
            go_wp2_with fail
            refine (smallZ (y - 10000) _ (by omega) (by omega)).mono ?_
            rintro e w3 ⟨rfl, E⟩
            have C1 := C1.ext E
            have V1 := V1.later E
            have O1 := O1.trans (Only.of_ext E)
            clear E
            go_wp2_with fail
            refine (pickC b base _ 4 _ C1 (by omega) (by omega) (by omega)).mono ?_
            rintro e w4 ⟨p, rfl, ⟨p0, p9⟩, C1, o1⟩
            have V1 := o1.vecC (by omega) V1
            have O1 := O1.trans o1
            clear o1
            go_wp2_with fail
            refine (putZ (y - 10000) (-p) _ (by omega) (by omega) (by omega) (by omega)).mono ?_
            rintro e w5 ⟨⟨ok, n, d, x, rfl, d0, d1⟩, E⟩
            have C1 := C1.ext E
            have V1 := V1.later E
            have O1 := O1.trans (Only.of_ext E)
            clear E
            have FD := fun W => field_dec ok n d x W
            obtain ⟨wy, hy, OF, CF, ⟨b0, b1, b2⟩, ⟨fb0, fb1, fb2⟩, fd0, fd1, fd2⟩ := finDC V1 C1 O1 (Nat.le_refl _) (by omega) (by omega) n d x
            go_wp2_with fail
            exact bodyPost_ret (v := decV n d x) (by simp [results, Tryz.results32, go_sem, fd0, fd1, fd2]) rfl ⟨⟨_, _, _, rfl, d0, d1⟩, CF.more (by omega), OF⟩
          · have e4 : (x == 4) = false := by simpa using h4
            by_cases h5 : x = 5
            · subst h5
              clear y0 y9
              go_wp2_with fail
              refine (pickC b base _ 20000 _ C1 (by omega) (by omega) (by omega)).mono ?_
              rintro e w2 ⟨y, rfl, ⟨y0, y9⟩, C1, o1⟩
              have V1 := o1.vecC (by omega) V1
              have O1 := O1.trans o1
              clear o1
              go_wp2_with fail
              refine (smallZ (y - 10000) _ (by omega) (by omega)).mono ?_
              rintro e w3 ⟨rfl, E⟩
              have C1 := C1.ext E
              have V1 := V1.later E
              have O1 := O1.trans (Only.of_ext E)
              clear E
              go_wp2_with fail
              refine (pickC b base _ 4 _ C1 (by omega) (by omega) (by omega)).mono ?_
              rintro e w4 ⟨p, rfl, ⟨p0, p9⟩, C1, o1⟩
              have V1 := o1.vecC (by omega) V1
              have O1 := O1.trans o1
              clear o1
              go_wp2_with fail
              refine (putZ (y - 10000) (-p) _ (by omega) (by omega) (by omega) (by omega)).mono ?_
              rintro e w5 ⟨⟨ok, n, d, x, rfl, d0, d1⟩, E⟩
              have C1 := C1.ext E
              have V1 := V1.later E
              have O1 := O1.trans (Only.of_ext E)
              clear E
              have FD := fun W => field_dec ok n d x W
              obtain ⟨wy, hy, OF, CF, ⟨b0, b1, b2⟩, ⟨fb0, fb1, fb2⟩, fd0, fd1, fd2⟩ := finDC V1 C1 O1 (Nat.le_refl _) (by omega) (by omega) n d x
              go_wp2_with fail
              exact bodyPost_ret (v := decV n d x) (by simp [results, Tryz.results32, go_sem, fd0, fd1, fd2]) rfl ⟨⟨_, _, _, rfl, d0, d1⟩, CF.more (by omega), OF⟩
            · have e5 : (x == 5) = false := by simpa using h5
              go_wp2_with fail
              refine (pickC b base _ 200 _ C1 (by omega) (by omega) (by omega)).mono ?_
              rintro e w2 ⟨y, rfl, ⟨y0, y9⟩, C1, o1⟩
              have V1 := o1.vecC (by omega) V1
              have O1 := O1.trans o1
              clear o1
              go_wp2_with fail
              refine (smallZ (y - 100) _ (by omega) (by omega)).mono ?_
              rintro e w3 ⟨rfl, E⟩
              have C1 := C1.ext E
              have V1 := V1.later E
              have O1 := O1.trans (Only.of_ext E)
              clear E
              go_wp2_with fail
              refine (putZ (y - 100) (0) _ (by omega) (by omega) (by omega) (by omega)).mono ?_
              rintro e w5 ⟨⟨ok, n, d, x, rfl, d0, d1⟩, E⟩
              have C1 := C1.ext E
              have V1 := V1.later E
              have O1 := O1.trans (Only.of_ext E)
              clear E
              have FD := fun W => field_dec ok n d x W
              obtain ⟨wy, hy, OF, CF, ⟨b0, b1, b2⟩, ⟨fb0, fb1, fb2⟩, fd0, fd1, fd2⟩ := finDC V1 C1 O1 (Nat.le_refl _) (by omega) (by omega) n d x
              go_wp2_with fail
              exact bodyPost_ret (v := decV n d x) (by simp [results, Tryz.results32, go_sem, fd0, fd1, fd2]) rfl ⟨⟨_, _, _, rfl, d0, d1⟩, CF.more (by omega), OF⟩

end Go.Proofs.YtfkihaihbaobeaaGreatDoor

