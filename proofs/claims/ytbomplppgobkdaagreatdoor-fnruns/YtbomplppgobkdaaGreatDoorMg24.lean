/-
  Several texts in one: PutZ, Cur, FrameY, CurE, Pok.
-/
import Derived.Test.YtbomplppgobkdaaGreatDoorPutS
import Derived.Test.YtbomplppgobkdaaGreatDoorMg0
import Derived.Deep.QuietTactic
import Derived.BigQuiet
import Derived.Deep.RegionWith
import Derived.Deep.RegionHeld3
import Derived.Deep.DeepCutAuto
import Derived.Laws.Bits64b
import Derived.Test.YtbomplppgobkdaaGreatDoorMg10
import Derived.ChangeSlices
import Derived.Test.YtbomplppgobkdaaGreatDoorMg17
import Derived.Test.YtbomplppgobkdaaGreatDoorImE
namespace Go.Proofs.YtbomplppgobkdaaGreatDoor
open Go.RowKit

theorem put_zero (sg : Bool) (e : Int) (more : Bool) : putR sg 0 e more = ⟨true, false, 0, 0⟩ := by
  unfold putR
  rw [nd_zero, if_neg (by decide)]
  unfold fitR
  rw [if_pos rfl]

set_option maxRecDepth 4000 in
set_option maxHeartbeats 2000000 in
theorem putS0 {v : Value} (e : Int) (more : Bool) (w : World) (h : ZV w v 0) :
    Calls Tryz.prog 72 #[v, .int .i64 e, .bool more] w fun r w' => r = .returned (.agg #[.bool true, .bool false, .int .i64 0, .int .i64 0]) ∧ Ext w w' := by
  obtain ⟨c0, c1, pa, na, ca, rfl⟩ := h.shape
  have NA : Hid (∀ w2, Ext w w2 → Calls Tryz.prog 105 #[.agg #[.int .i64 c0, .bool c1, .slice pa na ca]] w2 fun e w' => e = .returned (.bool false) ∧ Ext w2 w') := fun w2 x => neg_is false w2 (by decide) (h.later x)
  have AB : Hid (∀ w2, Ext w w2 → Calls Tryz.prog 106 #[.agg #[.int .i64 c0, .bool c1, .slice pa na ca]] w2 fun e w' => ∃ z0 z1 p n c, e = .returned (.agg #[.int .i64 z0, .bool z1, .slice p n c]) ∧ ZV w' (.agg #[.int .i64 z0, .bool z1, .slice p n c]) 0 ∧ Ext w2 w') := fun w2 x => by
    refine (abs_any w2 (h.later x)).mono ?_
    rintro e w' ⟨v', rfl, hz, hx⟩
    obtain ⟨z0, z1, p, n, c, rfl⟩ := hz.shape
    exact ⟨z0, z1, p, n, c, rfl, hz, hx⟩
  have DG : Hid (∀ (w2 : World) (v : Value), ZV w2 v 0 → Calls Tryz.prog 107 #[v] w2 fun e w' => e = .returned (.int .i64 1) ∧ Ext w2 w') := fun w2 v hv => digits_any w2 hv (by decide) 1 (by decide) (by decide)
  have ZR : Hid (∀ (w2 : World) (v : Value), ZV w2 v 0 → Calls Tryz.prog 108 #[v] w2 fun e w' => e = .returned (.bool true) ∧ Ext w2 w') := fun w2 v hv => zero_any w2 hv
  have Ba := (Box3.made w (.int .i64 c0) (.bool c1) (.slice pa na ca) 111).later (x1 _ (.cells #[.bool false, .bool false, .int .i64 0, .int .i64 0] 107))
  have Br := Box4.made (w.alloc (.cells #[.int .i64 c0, .bool c1, .slice pa na ca] 111)) (.bool false) (.bool false) (.int .i64 0) (.int .i64 0) 107
  have X0 := xa (x1 w (.cells #[.int .i64 c0, .bool c1, .slice pa na ca] 111)) (.cells #[.bool false, .bool false, .int .i64 0, .int .i64 0] 107)
  simp only [World.size_alloc] at Br
  clear h
  go_enter Tryz.func72, Tryz.ntmps72
  go_wp2_with fail
  refine (NA.out _ X0).mono ?_
  rintro r w1 ⟨rfl, x1'⟩
  have Ba' := Ba.later x1'
  obtain ⟨⟨p0, p1, p2⟩, _⟩ := Ba'
  go_wp2_with fail
  refine (AB.out _ (xt X0 x1')).mono ?_
  rintro r w2 ⟨z0, z1, z2, z3, z4, rfl, hz2, x2'⟩
  have B2 := (Ba.later x1').later x2'
  have ZP : ZIn (set3 w2 w.heap.size (.int .i64 z0) (.bool z1) (.slice z2 z3 z4)) w.heap.size 0 := ⟨_, _, _, _, _, B2.put _ _ _, hz2.set3 B2 _ _ _⟩
  have X2 := Ext.set3 (xt (xt X0 x1') x2') (b := w.heap.size) (Nat.le_refl _) (.int .i64 z0) (.bool z1) (.slice z2 z3 z4)
  have Br2 := (Br.later x1').later x2'
  have Br3 := ((Br2.far (p := ⟨w.heap.size, 0, none⟩) (show w.heap.size ≠ w.heap.size + 1 by omega) (.int .i64 z0)).far (p := ⟨w.heap.size, 1, none⟩) (show w.heap.size ≠ w.heap.size + 1 by omega) (.bool z1)).far (p := ⟨w.heap.size, 2, none⟩) (show w.heap.size ≠ w.heap.size + 1 by omega) (.slice z2 z3 z4)
  obtain ⟨⟨g0, g1, g2⟩, h0, h1, h2⟩ := B2
  obtain ⟨u2, hu2⟩ : ∃ u, set3 w2 w.heap.size (.int .i64 z0) (.bool z1) (.slice z2 z3 z4) = u := ⟨_, rfl⟩
  rw [hu2] at ZP X2
  unfold set3 at hu2
  rw [hu2] at Br3
  obtain ⟨y0, y1, y2, y3, y4, ⟨⟨i0, i1, i2⟩, _⟩, hy⟩ := ZP
  clear hz2 NA AB Ba Br Br2 X0 x1' x2' p0 p1 p2
  go_wp2_with fail
  refine (DG.out _ _ hy).mono ?_
  rintro r w3 ⟨rfl, x3'⟩
  replace Br3 := Br3.later x3'
  replace X2 := xt X2 x3'
  have hy3 := hy.later x3'
  have i3 := cell_later x3' i0
  have i4 := cell_later x3' i1
  have i5 := cell_later x3' i2
  clear hy g0 g1 g2 h0 h1 h2 hu2 DG x3' i0 i1 i2
  go_wp2_with fail
  refine (ZR.out _ _ hy3).mono ?_
  rintro r w4 ⟨rfl, x4'⟩
  replace Br3 := Br3.later x4'
  replace X2 := xt X2 x4'
  have hy4 := hy3.later x4'
  replace i3 := cell_later x4' i3
  replace i4 := cell_later x4' i4
  replace i5 := cell_later x4' i5
  clear hy3 x4'
  go_wp2_with fail
  refine (ZR.out _ _ hy4).mono ?_
  rintro r w5 ⟨rfl, x5'⟩
  obtain ⟨⟨m0, m1, m2, m3⟩, n0, n1, n2, n3⟩ := Br3.later x5'
  have XD := xt X2 x5'
  clear i3 i4 i5 hy4
  go_wp2_with fail
  exact bodyPost_ret (v := .agg #[.bool true, .bool false, .int .i64 0, .int .i64 0]) (by simp [results, Tryz.results72, go_sem, m0, m1, m2, m3]) rfl ⟨rfl, xset (xset (xset (xset XD (Nat.le_succ _) _) (Nat.le_succ _) _) (Nat.le_succ _) _) (Nat.le_succ _) _⟩

/-- l1Put, whatever it is put. -/
theorem put_spec {v : Value} {z : Int} (e : Int) (more : Bool) (w : World) (h : ZV w v z) (k : Nat) (hk : k ≤ 1000) (kz : (z.natAbs : Int) < 1000000000 ^ k) (e0 : -50000 ≤ e) (e1 : e ≤ 50000) (sg : Bool) (P : Nat) (hP : z.natAbs = P) (hs : z ≠ 0 → decide (z < 0) = sg) :
    Calls Tryz.prog 72 #[v, .int .i64 e, .bool more] w fun r w' => r = .returned (resV (putR sg P e more)) ∧ Ext w w' := by
  by_cases hz : z = 0
  · subst hz
    have : P = 0 := by rw [← hP]; rfl
    subst this
    rw [put_zero]
    exact putS0 e more w h
  · have := putS e more w h hz k hk kz e0 e1
    rw [hP, hs hz] at this
    exact this

/-- Nothing but one block has turned; the world may have grown. -/
structure Only (b : Nat) (w w' : World) : Prop where
  os : w'.os = w.os
  tape : w'.tape = w.tape
  output : w'.output = w.output
  size : w.heap.size ≤ w'.heap.size
  block : ∀ k, k ≠ b → k < w.heap.size → w'.heap[k]? = w.heap[k]?
theorem Only.refl (b : Nat) (w : World) : Only b w w := ⟨rfl, rfl, rfl, Nat.le_refl _, fun _ _ _ => rfl⟩
theorem Only.trans {b : Nat} {u v w : World} (h : Only b u v) (k : Only b v w) : Only b u w :=
  ⟨k.os.trans h.os, k.tape.trans h.tape, k.output.trans h.output, Nat.le_trans h.size k.size, fun i hi hl => (k.block i hi (Nat.lt_of_lt_of_le hl h.size)).trans (h.block i hi hl)⟩
theorem Only.of_ext {b : Nat} {w w' : World} (h : Ext w w') : Only b w w' := ⟨h.os, h.tape, h.output, h.size, fun k _ hl => h.block k hl⟩
theorem Only.ext {b : Nat} {w0 w w' : World} (x : Ext w0 w) (h : Only b w w') (hb : w0.heap.size ≤ b) : Ext w0 w' :=
  ⟨h.os.trans x.os, h.tape.trans x.tape, h.output.trans x.output, Nat.le_trans x.size h.size, fun k hk => (h.block k (by omega) (Nat.lt_of_lt_of_le hk x.size)).trans (x.block k hk)⟩
theorem Only.drewN {b : Nat} {w w' : World} (h : Only b w w') (n : Nat) : Only b w (w'.drewN n) := ⟨h.os, h.tape, h.output, h.size, h.block⟩
theorem Only.set {b i : Nat} {w w' : World} (h : Only b w w') (u : Value) : Only b w (w'.setCell ⟨b, i, none⟩ u) :=
  h.trans ⟨rfl, rfl, rfl, by simp [World.setCell], fun k hk _ => Below.heap_setCell _ _ _ _ hk⟩
theorem Only.cell {b k o : Nat} {w w' : World} (h : Only b w w') (hk : k ≠ b) {v : Value} (hc : w.cell? ⟨k, o, none⟩ = some v) : w'.cell? ⟨k, o, none⟩ = some v := by
  have hl : k < w.heap.size := World.block_lt_of_cell? _ _ hc
  unfold World.cell? at hc ⊢
  rw [h.block k hk hl]
  exact hc

/-- The bytes that came in, below a block. -/
def CodeIn (w : World) (base : Nat) (v : Value) (n : Nat) : Prop :=
  ((∃ p cap, v = .slice p 0 cap) ∧ n = 0) ∨ ∃ (pb po cap : Nat), pb < base ∧ v = .slice (some ⟨pb, po, none⟩) n cap ∧ n ≤ cap ∧ ∀ i, i < n → ∃ x : Int, 0 ≤ x ∧ x ≤ 255 ∧ w.cell? ⟨pb, po + i, none⟩ = some (.int .u8 x)
theorem CodeIn.only {w w' : World} {base b n : Nat} {v : Value} (h : CodeIn w base v n) (o : Only b w w') (hb : base ≤ b) : CodeIn w' base v n := by
  rcases h with h | ⟨pb, po, cap, h1, h2, h3, h4⟩
  · exact .inl h
  · refine .inr ⟨pb, po, cap, h1, h2, h3, fun i hi => ?_⟩
    obtain ⟨x, x0, x1, hx⟩ := h4 i hi
    exact ⟨x, x0, x1, o.cell (by omega) hx⟩
/-- The reader stands in a block. -/
def Cur (w : World) (b base K : Nat) : Prop := ∃ (v : Value) (n : Nat) (a s : Int), Box3 w b v (.int .i64 a) (.int .u64 s) ∧ CodeIn w base v n ∧ n ≤ 1048576 ∧ 0 ≤ a ∧ a ≤ K ∧ 0 ≤ s ∧ s < 18446744073709551616 ∧ base ≤ b

theorem xdNc {a b : World} (h : Ext a b) (n : Nat) : Ext a (b.drewN n) := ⟨h.os, h.tape, h.output, h.size, h.block⟩
theorem addr_nearc {b i j : Nat} (h : i ≠ j) : (⟨b, i, none⟩ : Addr) ≠ ⟨b, j, none⟩ := fun e => h (by cases e; rfl)
theorem Box3.put1c {w : World} {b : Nat} {v0 v1 v2 : Value} (h : Box3 w b v0 v1 v2) (u : Value) : Box3 (w.setCell ⟨b, 1, none⟩ u) b v0 u v2 := by
  obtain ⟨⟨q0, q1, q2⟩, f0, f1, f2⟩ := h
  refine ⟨⟨?_, World.cell?_setCell_same _ _ _ q1, ?_⟩, ?_, ?_, ?_⟩
  · rw [World.cell?_setCell_other _ _ _ _ (addr_nearc (by decide))]; exact q0
  · rw [World.cell?_setCell_other _ _ _ _ (addr_nearc (by decide))]; exact q2
  · simp [World.frozen?_setCell, f0]
  · simp [World.frozen?_setCell, f1]
  · simp [World.frozen?_setCell, f2]
theorem Box3.put2c {w : World} {b : Nat} {v0 v1 v2 : Value} (h : Box3 w b v0 v1 v2) (u : Value) : Box3 (w.setCell ⟨b, 2, none⟩ u) b v0 v1 u := by
  obtain ⟨⟨q0, q1, q2⟩, f0, f1, f2⟩ := h
  refine ⟨⟨?_, ?_, World.cell?_setCell_same _ _ _ q2⟩, ?_, ?_, ?_⟩
  · rw [World.cell?_setCell_other _ _ _ _ (addr_nearc (by decide))]; exact q0
  · rw [World.cell?_setCell_other _ _ _ _ (addr_nearc (by decide))]; exact q1
  · simp [World.frozen?_setCell, f0]
  · simp [World.frozen?_setCell, f1]
  · simp [World.frozen?_setCell, f2]

theorem and255 (x : Int) (h0 : 0 ≤ x) (h1 : x < 18446744073709551616) : 0 ≤ bits BinOp.and IntKind.u64 x 255 ∧ bits BinOp.and IntKind.u64 x 255 ≤ 255 := by
  obtain ⟨n, rfl⟩ : ∃ n : Nat, x = n := ⟨x.toNat, by omega⟩
  have h := bits_and_u64_nat n 255 (by omega) (by decide)
  have e : ((255 : Nat) : Int) = 255 := rfl
  rw [e] at h
  rw [h]
  have := Nat.and_le_right (n := n) (m := 255)
  omega
theorem or_fits (x y : Int) (h0 : 0 ≤ x) (h1 : x < 18446744073709551616) (k0 : 0 ≤ y) (k1 : y < 18446744073709551616) : 0 ≤ bits BinOp.or IntKind.u64 x y ∧ bits BinOp.or IntKind.u64 x y < 18446744073709551616 := by
  obtain ⟨n, rfl⟩ : ∃ n : Nat, x = n := ⟨x.toNat, by omega⟩
  obtain ⟨m, rfl⟩ : ∃ m : Nat, y = m := ⟨y.toNat, by omega⟩
  rw [bits_or_u64_nat n m (by omega) (by omega)]
  have hx : n ||| m < 2 ^ 64 := Nat.or_lt_two_pow (by omega) (by omega)
  omega
theorem Cur.drewN {w : World} {b base K : Nat} (h : Cur w b base K) (n : Nat) : Cur (w.drewN n) b base K := by
  obtain ⟨v, k, a, s, B, hc, r⟩ := h
  exact ⟨v, k, a, s, B.later (xdNc (xr _) n), hc.only (b := b) ((Only.refl b w).drewN n) r.2.2.2.2.2, r⟩

set_option maxRecDepth 8000 in
set_option maxHeartbeats 2000000 in
theorem nextC (b base K : Nat) (w : World) (h : Cur w b base K) (hK : K ≤ 1000000000) :
    Calls Tryz.prog 40 #[.pointer (some ⟨b, 0, none⟩)] w fun e w' => ∃ v : Int, e = .returned (.int .i64 v) ∧ (0 ≤ v ∧ v ≤ 255) ∧ Cur w' b base (K + 1) ∧ Only b w w' := by
  obtain ⟨v, n, a, s, B, hc, hn, a0, a1, s0, s1, hbb⟩ := h
  have B' := B
  obtain ⟨⟨q0, q1, q2⟩, g0, g1, g2⟩ := B'
  have wb : ∀ x : Int, 0 ≤ IntKind.u64.wrap x ∧ IntKind.u64.wrap x < 18446744073709551616 := fun x => by rw [IntKind.wrap_u64]; omega
  rcases hc with ⟨⟨np, ncap, rfl⟩, rfl⟩ | ⟨pb, po, cap, hpb, rfl, hnc, hx⟩
  · have f1 : decide (a < 0) = false := by simp; omega
    have f2 : decide (a + 1 ≤ 0) = false := by simp; omega
    obtain ⟨S, hS⟩ : ∃ S, IntKind.u64.wrap (IntKind.u64.wrap (IntKind.u64.wrap (s * 6364136223846793005)) + 1442695040888963407) = S := ⟨_, rfl⟩
    have hS2 := wb (IntKind.u64.wrap (IntKind.u64.wrap (s * 6364136223846793005)) + 1442695040888963407)
    rw [hS] at hS2
    have CU : Hid (∀ n, Cur (((w.drewN n).setCell ⟨b, 1, none⟩ (.int .i64 (a + 1))).setCell ⟨b, 2, none⟩ (.int .u64 S)) b base (K + 1)) := fun n =>
      ⟨_, 0, a + 1, S, ((B.later (xdNc (xr _) n)).put1c _).put2c _, .inl ⟨⟨_, _, rfl⟩, rfl⟩, by omega, by omega, by omega, hS2.1, hS2.2, hbb⟩
    have ON : Hid (∀ n, Only b w (((w.drewN n).setCell ⟨b, 1, none⟩ (.int .i64 (a + 1))).setCell ⟨b, 2, none⟩ (.int .u64 S))) := fun n => (((Only.refl b w).drewN n).set _).set _
    clear B wb
    go_enter Tryz.func40, Tryz.ntmps40
    go_wp2_with fail
    go_quiet (fail)
    go_wp2_with fail
    go_quiet (fail)
    go_wp2_with fail
    obtain ⟨V, hV⟩ : ∃ V, bits BinOp.and IntKind.u64 (S / 1099511627776) 255 = V := ⟨_, rfl⟩
    have bv := and255 (S / 1099511627776) (by omega) (by omega)
    rw [hV] at bv
    go_ret
    refine ⟨V, ?_, bv, (CU.out _).drewN _, (ON.out _).drewN _⟩
    rw [hV]
    exact ret_int (by unfold wrap64; omega)
  · by_cases hlt : a < n
    · obtain ⟨i, rfl⟩ : ∃ i : Nat, a = i := ⟨a.toNat, by omega⟩
      obtain ⟨x, x0, x1, hxc⟩ := hx i (by omega)
      have f1 : decide ((i : Int) < n) = true := by simp; omega
      have f2 : decide ((i : Int) + 1 ≤ n) = true := by simp; omega
      have i1 : (i : Int) < (n : Int) := by omega
      have wx : IntKind.u64.wrap x = x := by rw [IntKind.wrap_u64]; omega
      have wx2 : IntKind.i64.wrap x = x := by rw [IntKind.wrap_i64]; omega
      obtain ⟨S, hS⟩ : ∃ S, IntKind.u64.wrap (IntKind.u64.wrap (IntKind.u64.wrap (s * 6364136223846793005) + x) + 1442695040888963407) = S := ⟨_, rfl⟩
      have hS2 := wb (IntKind.u64.wrap (IntKind.u64.wrap (s * 6364136223846793005) + x) + 1442695040888963407)
      rw [hS] at hS2
      have CU : Hid (∀ w2 : World, Only b w w2 → Box3 w2 b (.slice (some ⟨pb, po, none⟩) n cap) (.int .i64 i) (.int .u64 s) → Cur ((w2.setCell ⟨b, 1, none⟩ (.int .i64 ((i : Int) + 1))).setCell ⟨b, 2, none⟩ (.int .u64 S)) b base (K + 1) ∧ Only b w ((w2.setCell ⟨b, 1, none⟩ (.int .i64 ((i : Int) + 1))).setCell ⟨b, 2, none⟩ (.int .u64 S))) := fun w2 o bx =>
        ⟨⟨_, n, (i : Int) + 1, S, (bx.put1c _).put2c _, CodeIn.only (.inr ⟨pb, po, cap, hpb, rfl, hnc, hx⟩) ((o.set _).set _) hbb, hn, by omega, by omega, hS2.1, hS2.2, hbb⟩, (o.set _).set _⟩
      have BB : Hid (∀ k, Box3 (w.drewN k) b (.slice (some ⟨pb, po, none⟩) n cap) (.int .i64 i) (.int .u64 s)) := fun k => B.later (xdNc (xr _) k)
      clear B wb hx
      go_enter Tryz.func40, Tryz.ntmps40
      go_wp2_with fail
      go_quiet (fail)
      go_wp2_with fail
      go_quiet (fail)
      go_wp2_with fail
      go_quiet (fail)
      go_wp2_with fail
      go_ret
      have cu := fun a' => CU.out (w.drewN a') ((Only.refl b w).drewN a') (BB.out a')
      exact ⟨x, rfl, ⟨x0, x1⟩, (cu _).1.drewN _, (cu _).2.drewN _⟩
    · have f1 : decide (a < (n : Int)) = false := by simp; omega
      have f2 : decide (a + 1 ≤ (n : Int)) = false := by simp; omega
      obtain ⟨S, hS⟩ : ∃ S, IntKind.u64.wrap (IntKind.u64.wrap (IntKind.u64.wrap (s * 6364136223846793005)) + 1442695040888963407) = S := ⟨_, rfl⟩
      have hS2 := wb (IntKind.u64.wrap (IntKind.u64.wrap (s * 6364136223846793005)) + 1442695040888963407)
      rw [hS] at hS2
      have ON : Hid (∀ k, Only b w (((w.drewN k).setCell ⟨b, 1, none⟩ (.int .i64 (a + 1))).setCell ⟨b, 2, none⟩ (.int .u64 S))) := fun k => (((Only.refl b w).drewN k).set _).set _
      have CU : Hid (∀ k, Cur (((w.drewN k).setCell ⟨b, 1, none⟩ (.int .i64 (a + 1))).setCell ⟨b, 2, none⟩ (.int .u64 S)) b base (K + 1)) := fun k =>
        ⟨_, n, a + 1, S, ((B.later (xdNc (xr _) k)).put1c _).put2c _, CodeIn.only (.inr ⟨pb, po, cap, hpb, rfl, hnc, hx⟩) (ON.out k) hbb, hn, by omega, by omega, hS2.1, hS2.2, hbb⟩
      clear B wb hx
      go_enter Tryz.func40, Tryz.ntmps40
      go_wp2_with fail
      go_quiet (fail)
      go_wp2_with fail
      go_quiet (fail)
      go_wp2_with fail
      obtain ⟨V, hV⟩ : ∃ V, bits BinOp.and IntKind.u64 (S / 1099511627776) 255 = V := ⟨_, rfl⟩
      have bv := and255 (S / 1099511627776) (by omega) (by omega)
      rw [hV] at bv
      go_ret
      refine ⟨V, ?_, bv, (CU.out _).drewN _, (ON.out _).drewN _⟩
      rw [hV]
      exact ret_int (by unfold wrap64; omega)

theorem Cur.ext {w w' : World} {b base K : Nat} (h : Cur w b base K) (x : Ext w w') : Cur w' b base K := by
  obtain ⟨v, k, a, s, B, hc, r⟩ := h
  exact ⟨v, k, a, s, B.later x, hc.only (b := b) (Only.of_ext x) r.2.2.2.2.2, r⟩
theorem Cur.lt {w : World} {b base K : Nat} (h : Cur w b base K) : b < w.heap.size := by
  obtain ⟨v, k, a, s, B, _⟩ := h
  exact World.block_lt_of_cell? _ _ B.1.1
theorem Cur.more {w : World} {b base K K' : Nat} (h : Cur w b base K) (hk : K ≤ K') : Cur w b base K' := by
  obtain ⟨v, k, a, s, B, hc, h1, h2, h3, r⟩ := h
  exact ⟨v, k, a, s, B, hc, h1, h2, by omega, r⟩

set_option maxRecDepth 8000 in
set_option maxHeartbeats 1000000 in
theorem pickC (b base K : Nat) (n : Int) (w : World) (h : Cur w b base K) (hK : K ≤ 100000000) (n0 : 1 < n) (n1 : n ≤ 100000000) :
    Calls Tryz.prog 14 #[.pointer (some ⟨b, 0, none⟩), .int .i64 n] w fun e w' => ∃ v : Int, e = .returned (.int .i64 v) ∧ (0 ≤ v ∧ v < n) ∧ Cur w' b base (K + 2) ∧ Only b w w' := by
  have f1 : decide (n ≤ 1) = false := by simp; omega
  by_cases h2 : n > 200
  · have f2 : decide (n > 200) = true := by simp; omega
    go_enter Tryz.func14, Tryz.ntmps14
    go_wp2_with fail
    refine (nextC b base K w h (by omega)).mono ?_
    rintro e w1 ⟨x, rfl, ⟨x0, x1⟩, c1, o1⟩
    go_wp2_with fail
    refine (nextC b base (K + 1) w1 c1 (by omega)).mono ?_
    rintro e w2 ⟨y, rfl, ⟨y0, y1⟩, c2, o2⟩
    have hm : (x * 256 + y).tmod n = (x * 256 + y) % n := Int.tmod_eq_emod_of_nonneg (by omega)
    have b1 := Int.emod_nonneg (x * 256 + y) (show n ≠ 0 by omega)
    have b2 := Int.emod_lt_of_pos (x * 256 + y) (show 0 < n by omega)
    go_wp2_with fail
    go_ret
    exact ⟨_, rfl, ⟨b1, b2⟩, c2, o1.trans o2⟩
  · have f2 : decide (n > 200) = false := by simp; omega
    go_enter Tryz.func14, Tryz.ntmps14
    go_wp2_with fail
    refine (nextC b base K w h (by omega)).mono ?_
    rintro e w1 ⟨x, rfl, ⟨x0, x1⟩, c1, o1⟩
    have b1 := Int.emod_nonneg x (show n ≠ 0 by omega)
    have b2 := Int.emod_lt_of_pos x (show 0 < n by omega)
    go_wp2_with fail
    go_ret
    exact ⟨_, rfl, ⟨b1, b2⟩, c1.more (by omega), o1⟩

set_option maxHeartbeats 400000 in
theorem oneC (b base K : Nat) (n : Int) (w : World) (h : Cur w b base K) (hK : K ≤ 100000000) (n0 : 1 < n) (n1 : n ≤ 100000000) :
    Calls Tryz.prog 67 #[.pointer (some ⟨b, 0, none⟩), .int .i64 n] w fun e w' => ∃ v : Bool, e = .returned (.bool v) ∧ Cur w' b base (K + 2) ∧ Only b w w' := by
  go_enter Tryz.func67, Tryz.ntmps67
  go_wp2_with fail
  refine (pickC b base K n w h hK n0 n1).mono ?_
  rintro e w1 ⟨x, rfl, _, c1, o1⟩
  go_wp2_with fail
  go_ret
  exact ⟨_, rfl, c1, o1⟩

set_option maxRecDepth 8000 in
set_option maxHeartbeats 1000000 in
theorem wideC (b base K : Nat) (w : World) (h : Cur w b base K) (hK : K ≤ 10000000) :
    Calls Tryz.prog 104 #[.pointer (some ⟨b, 0, none⟩)] w fun e w' => ∃ v : Int, e = .returned (.int .u64 v) ∧ (0 ≤ v ∧ v < 18446744073709551616) ∧ Cur w' b base (K + 8) ∧ Only b w w' := by
  go_enter Tryz.func104, Tryz.ntmps104
  go_wp2_with fail
  go_loopw [3, 4] (fun a i wr => ∃ (k : Nat) (x : Int), k ≤ 8 ∧ i = .int .i64 k ∧ a = .int .u64 x ∧ 0 ≤ x ∧ x < 18446744073709551616 ∧ Cur wr b base (K + k) ∧ Only b w wr) (fun _ i _ => 8 - (intOf i).toNat)
  case atStart => exact ⟨0, 0, by omega, rfl, rfl, by omega, by omega, h, Only.refl b w⟩
  case round =>
    obtain ⟨k, x, hk, rfl, rfl, x0, x1, c, o⟩ := hrel
    by_cases hlt : k < 8
    · have hlt' : (k : Int) < 8 := by omega
      go_wp2_with fail
      refine (nextC b base (K + k) wr c (by omega)).mono ?_
      rintro e w2 ⟨y, rfl, ⟨y0, y1⟩, c2, o2⟩
      have wy : IntKind.u64.wrap y = y := by rw [IntKind.wrap_u64]; omega
      have wz : 0 ≤ IntKind.u64.wrap (x * 256) ∧ IntKind.u64.wrap (x * 256) < 18446744073709551616 := by rw [IntKind.wrap_u64]; omega
      have oz := or_fits (IntKind.u64.wrap (x * 256)) y wz.1 wz.2 y0 (by omega)
      have HO : Hid (0 ≤ bits BinOp.or IntKind.u64 (IntKind.u64.wrap (x * 256)) y ∧ bits BinOp.or IntKind.u64 (IntKind.u64.wrap (x * 256)) y < 18446744073709551616) := oz
      clear wz oz
      go_wp2_with fail
      go_roundw
      case rel => exact ⟨k + 1, _, by omega, by go_num, rfl, HO.out.1, HO.out.2, c2, o.trans o2⟩
      case measure => simp [intOf]; omega
    · obtain rfl : k = 8 := by omega
      go_wp2_with fail
      go_ret
      exact ⟨x, rfl, ⟨x0, x1⟩, c, o⟩

end Go.Proofs.YtbomplppgobkdaaGreatDoor

namespace Go.Proofs.YtbomplppgobkdaaGreatDoor
open Go.ChangeShapes Go.WideShapes Go.ChangeAt Go.RowKit

theorem open_code {H : Type} {enc : TypeId × Value → H} {P : Program} {t e : TypeId} (ht : P.underlying t = some (.slice e)) (he : P.underlying e = some (.int .u8)) (hc : P.cellsOf e = 1) {W : World} {base : Nat} {v : Value} {d : DataW H} {p : List MemPlace}
    (hv : Value.okWide P W .any base t v) (h : DataW.Trod enc P W 0 (fun _ => true) true t v d p) : ∃ n, CodeIn W W.heap.size v n := by
  obtain ⟨a0, len, cap, rfl⟩ := okWide_slice ht hv
  obtain ⟨fuel, hf⟩ := h
  rcases open_ints ht he hc hf with ⟨hcs, hx⟩ | ⟨a, len', cap', zs, hcs, _, hl, hm, hz, hx, hcell, hwz⟩
  · simp [Value.cells] at hcs
    obtain ⟨rfl, rfl, rfl⟩ := hcs
    exact ⟨0, .inl ⟨⟨_, _, rfl⟩, rfl⟩⟩
  · simp [Value.cells] at hcs
    obtain ⟨rfl, rfl, rfl⟩ := hcs
    simp only [if_true] at hz
    by_cases h0 : len = 0
    · subst h0
      exact ⟨0, .inl ⟨⟨_, _, rfl⟩, rfl⟩⟩
    · obtain ⟨pb, po, sp⟩ := a
      have hc0 := hcell 0 (by omega)
      have hsp : sp = none := by simpa [Addr.add] using World.cell?_spot hc0
      subst hsp
      have hlt : pb < W.heap.size := by
        have := World.block_lt_of_cell? _ _ hc0
        simpa [Addr.add] using this
      refine ⟨len, .inr ⟨pb, po, cap, hlt, rfl, hl, fun i hi => ?_⟩⟩
      have hci := hcell i (by omega)
      have hi' : i < zs.length := by omega
      have hmem : zs.getD i 0 ∈ zs := by
        rw [List.getD, List.getElem?_eq_getElem hi', Option.getD_some]
        exact List.getElem_mem hi'
      have hw := hwz _ hmem
      have b1 : IntKind.u8.min = 0 := rfl
      have b2 : IntKind.u8.max = 255 := rfl
      simp only [Lit.wf, Bool.and_eq_true, decide_eq_true_eq] at hw
      refine ⟨zs.getD i 0, by omega, by omega, ?_⟩
      rw [← hci]
      unfold Addr.add
      split
      · next e => subst e; rfl
      · rfl

end Go.Proofs.YtbomplppgobkdaaGreatDoor

namespace Go.Proofs.YtbomplppgobkdaaGreatDoor
open Go.RowKit

theorem Only.setNew {b g i : Nat} {w w' : World} (h : Only b w w') (hg : w.heap.size ≤ g) (u : Value) : Only b w (w'.setCell ⟨g, i, none⟩ u) := by
  refine ⟨h.os, h.tape, h.output, ?_, fun k hk hl => ?_⟩
  · have := h.size
    simpa [World.setCell] using this
  · rw [Below.heap_setCell _ _ _ _ (by show k ≠ g; omega)]
    exact h.block k hk hl
theorem addr_offc {b g i j : Nat} (h : b ≠ g) : (⟨g, i, none⟩ : Addr) ≠ ⟨b, j, none⟩ := fun e => h (by cases e; rfl)
theorem Box3.farc {w : World} {b g i : Nat} {v0 v1 v2 : Value} (h : Box3 w b v0 v1 v2) (hb : b ≠ g) (u : Value) : Box3 (w.setCell ⟨g, i, none⟩ u) b v0 v1 v2 := by
  obtain ⟨⟨q0, q1, q2⟩, f0, f1, f2⟩ := h
  refine ⟨⟨?_, ?_, ?_⟩, ?_, ?_, ?_⟩
  · rw [World.cell?_setCell_other _ _ _ _ (addr_offc hb)]; exact q0
  · rw [World.cell?_setCell_other _ _ _ _ (addr_offc hb)]; exact q1
  · rw [World.cell?_setCell_other _ _ _ _ (addr_offc hb)]; exact q2
  · simp [World.frozen?_setCell, f0]
  · simp [World.frozen?_setCell, f1]
  · simp [World.frozen?_setCell, f2]
theorem Cur.far {w : World} {b base K g i : Nat} (h : Cur w b base K) (hb : b ≠ g) (hg : base ≤ g) (u : Value) : Cur (w.setCell ⟨g, i, none⟩ u) b base K := by
  obtain ⟨v, k, a, s, B, hc, r⟩ := h
  exact ⟨v, k, a, s, B.farc hb u, hc.only (b := g) ((Only.refl g w).set u) hg, r⟩

/-- The reader as it is made. -/
theorem Cur.made (w : World) (v : Value) (n base : Nat) (t : TypeId) (hc : CodeIn w base v n) (hn : n ≤ 1048576) (hb : base ≤ w.heap.size) : Cur (w.alloc (.cells #[v, .int .i64 0, .int .u64 0] t)) w.heap.size base 0 :=
  ⟨v, n, 0, 0, Box3.made w _ _ _ _, hc.only (b := w.heap.size) (Only.of_ext (x1 _ _)) hb, hn, by omega, by omega, by omega, by omega, hb⟩

/-- What put gives is good, or it is none. -/
theorem strip_bd {P : Nat} (e : Int) : (P ≠ 0 → (strip P e).1 % 10 ≠ 0) ∧ (strip P e).1 ≤ P := by
  induction P using Nat.strongRecOn generalizing e with
  | ind P ih =>
    by_cases h : P ≠ 0 ∧ P % 10 = 0
    · rw [strip_ten h.1 h.2]
      obtain ⟨h1, h2⟩ := ih (P / 10) (by omega) (e + 1)
      exact ⟨fun _ => h1 (by omega), by omega⟩
    · rw [strip]
      simp only [h, dite_false]
      exact ⟨fun h0 => by omega, Nat.le_refl _⟩
theorem fit_ok {neg : Bool} {P : Nat} {e : Int} (hP : P ≤ 1000000000000000) (h : (fitR neg P e).ok = true) : goodB (fitR neg P e).neg (fitR neg P e).d (fitR neg P e).e = true := by
  unfold fitR at h ⊢
  split
  · rfl
  · rename_i h0
    simp only [h0, if_false] at h
    split
    · rename_i h1; simp [h1] at h
    · split
      · rfl
      · rename_i h1 h2
        obtain ⟨hm, hl⟩ := strip_bd (P := P) e
        have hm' := hm h0
        unfold goodB
        simp only
        have hne : ((strip P e).1 : Int) ≠ 0 := by omega
        rw [if_neg hne]
        have : (strip P e).1 ≠ 1000000000000000 := by omega
        simp
        omega
theorem put_ok {neg : Bool} {P : Nat} {e : Int} {more : Bool} (h : (putR neg P e more).ok = true) : goodB (putR neg P e more).neg (putR neg P e more).d (putR neg P e more).e = true := by
  unfold putR at h ⊢
  split
  · rename_i h15
    rw [if_pos h15] at h
    exact fit_ok (rnd_lt h15) h
  · rename_i h15
    rw [if_neg h15] at h
    refine fit_ok ?_ h
    have h1 := (nd_dig P).1
    have h2 := pow10_le (show nd P ≤ 15 by omega)
    have e15 : (10 : Nat) ^ 15 = 1000000000000000 := by decide
    omega

end Go.Proofs.YtbomplppgobkdaaGreatDoor

