/-
  Several texts in one: Qp, Qm.
-/
import Derived.Test.YtbomplppgobkdaaGreatDoorMg38
import Derived.Test.YtbomplppgobkdaaGreatDoorMg28
import Derived.Test.YtbomplppgobkdaaGreatDoorMg32
import Derived.BigRegion
import Derived.Shelf.Abstract
namespace Go.Proofs.YtbomplppgobkdaaGreatDoor
open Go.RowKit

/-- The keys' columns are the grid's. -/
def KeysOK (c : Nat) (ks : List YT) : Prop := ∀ k ∈ ks, 1 ≤ k.cl ∧ k.cl ≤ (c : Int)
theorem lexK_skip {l : List VT} {c x y : Nat} {k : YT} {ks : List YT} (h : standB (celK l c x k) (celK l c y k) (sgnK k) = 0) : lexK l c x y (k :: ks) = lexK l c x y ks := by
  show (if _ then _ else _) = _
  rw [if_neg (fun q => q h)]
theorem lexK_take {l : List VT} {c x y : Nat} {k : YT} {ks : List YT} (h : standB (celK l c x k) (celK l c y k) (sgnK k) ≠ 0) : lexK l c x y (k :: ks) = standB (celK l c x k) (celK l c y k) (sgnK k) := by
  show (if _ then _ else _) = _
  rw [if_pos h]
theorem drop_at {ks : List YT} {i : Nat} {k : YT} (h : ks[i]? = some k) : ks.drop i = k :: ks.drop (i + 1) := by
  obtain ⟨hi, rfl⟩ := List.getElem?_eq_some_iff.1 h
  exact List.drop_eq_getElem_cons hi
set_option maxRecDepth 8000 in
set_option maxHeartbeats 8000000 in
theorem compareRowI (r c : Nat) (v kv : Value) (l : List VT) (ks : List YT) (x y : Nat) (w : World) (h : ValsIn w v l) (hk : SortKeysIn w kv ks) (hl : l.length = r * c) (h2 : l.length ≤ 2000) (hx : x < r) (hy : y < r) (hK : KeysOK c ks) (h8 : ks.length ≤ 8) (c2 : c ≤ 2000) (_r2 : r ≤ 2000)
    (hr : ∀ e ∈ l, e.room) (hT : Tens w) (hE : ErrTab w) :
    Calls Tryz.prog 25 #[.agg #[.int .i64 r, .int .i64 c, v, kv], numV x, numV y] w fun e w' => e = .returned (.int .i64 (cmpRow l c ks x y)) ∧ Ext w w' := by
  have HV : Hid (ValsIn w v l) := h
  obtain ⟨pv, nv, rfl⟩ : ∃ p n, v = .slice p l.length n := by obtain ⟨p, n, h, _⟩ := h; exact ⟨p, n, h⟩
  obtain ⟨pk, nk, rfl, hck, hrow⟩ := hk
  have HAT : Hid (∀ W j q, Ext w W → j < c → q < r → Calls Tryz.prog 51 #[grV r c (.slice pv l.length nv), numV q, .int .i64 j] W fun e w' => e = .returned (cel l (q * c + j)).val ∧ Ext W w') := fun W j q hW hj hq => atI r c _ l q j W (HV.out.later hW) h2 (by rw [hl]; exact place_lt hq hj)
  have HTE : Hid (Tens w ∧ ErrTab w) := ⟨hT, hE⟩
  have HRM : Hid (∀ q j, q < r → j < c → (cel l (q * c + j)).room) := fun q j hq hj => hr _ (cel_mem (by rw [hl]; exact place_lt hq hj))
  have HKO : Hid (KeysOK c ks) := hK
  have HROW : Hid (0 < ks.length → ∃ b o, pk = some ⟨b, o, none⟩ ∧ RowY w b o ks) := hrow
  have HCR : Hid (cmpRow l c ks x y = if lexK l c x y ks ≠ 0 then lexK l c x y ks else cmpI x y) := rfl
  obtain ⟨R, hR⟩ : ∃ R, cmpRow l c ks x y = R := ⟨_, rfl⟩
  rw [hR] at HCR ⊢
  obtain ⟨N, hN⟩ : ∃ N, l.length = N := ⟨_, rfl⟩
  obtain ⟨LK, hL⟩ : ∃ LK, ks.length = LK := ⟨_, rfl⟩
  have HL : Hid (ks.length = LK) := hL
  rw [hN] at HAT ⊢
  rw [hL] at h8 hck HROW ⊢
  have X0 := x1 w (.cells #[.int .i64 r, .int .i64 c, .slice pv N nv, .slice pk LK nk] 60)
  have B0 := vec_made w [.int .i64 r, .int .i64 c, .slice pv N nv, .slice pk LK nk] 60
  change Vec (w.alloc (.cells #[.int .i64 r, .int .i64 c, .slice pv N nv, .slice pk LK nk] 60)) _ _ at B0
  obtain ⟨u0, hu0⟩ : ∃ u, w.alloc (.cells #[.int .i64 r, .int .i64 c, .slice pv N nv, .slice pk LK nk] 60) = u := ⟨_, rfl⟩
  rw [hu0] at X0 B0
  have b3 := (B0 3 _ rfl).1
  clear h hrow hR hN hL hl h2 hr hT hE hK HV
  go_enter Tryz.func25, Tryz.ntmps25
  go_wp2_with fail
  clear b3 hu0
  go_loopw [14] (fun s wr => ∃ k : Nat, s = .int .i64 k ∧ k ≤ LK ∧ Hid (lexK l c x y ks = lexK l c x y (ks.drop k) ∧ Ext u0 wr)) (fun s _ => LK - (intOf s).toNat)
  case atStart => exact ⟨0, rfl, by omega, rfl, xr _⟩
  case round =>
    obtain ⟨k, rfl, hkL, HX⟩ := hrel
    by_cases hlt : k < LK
    · have i2 : (k : Int) < (LK : Int) := by omega
      obtain ⟨⟨z, dn⟩, he⟩ : ∃ e, ks[k]? = some e := ⟨_, List.getElem?_eq_getElem (by rw [HL.out]; exact hlt)⟩
      obtain ⟨b, o, rfl, RW⟩ := HROW.out (by omega)
      obtain ⟨c0, c1⟩ := (RW.later (xt X0 HX.out.2)).all he
      have hz := HKO.out _ (List.mem_of_getElem? he)
      simp only at hz c0 c1
      obtain ⟨j, hj⟩ : ∃ j : Nat, z.toNat - 1 = j := ⟨_, rfl⟩
      have jc : j < c := by omega
      have wz : IntKind.i64.wrap (z - 1) = (j : Int) := by rw [IntKind.wrap_i64]; omega
      have HDR : Hid (ks.drop k = ⟨z, dn⟩ :: ks.drop (k + 1)) := drop_at he
      have HCE : Hid (∀ q, celK l c q ⟨z, dn⟩ = cel l (q * c + j)) := fun q => by unfold celK; rw [hj]
      -- the box of the key
      have KB := vec_made wr [.int .i64 z, .bool dn] 34
      change Vec (wr.alloc (.cells #[.int .i64 z, .bool dn] 34)) _ _ at KB
      have KX := x1 wr (.cells #[.int .i64 z, .bool dn] 34)
      have k1 := (KB 1 _ rfl).1
      clear RW he hj
      cases dn
      · go_wp2_with fail
        obtain ⟨wk, hwk⟩ : ∃ wk, wr.alloc (.cells #[.int .i64 z, .bool false] 34) = wk := ⟨_, rfl⟩
        rw [hwk] at KB KX k1 ⊢
        have YW := xt X0 (xt HX.out.2 KX)
        have B1 := B0.later (xt HX.out.2 KX)
        have a0 := (B1 0 _ rfl).1
        have a1 := (B1 1 _ rfl).1
        have a2 := (B1 2 _ rfl).1
        have a3 := (KB 0 _ rfl).1
        have CX : Hid (∀ W, Ext wk W → Calls Tryz.prog 51 #[grV r c (.slice pv N nv), numV x, .int .i64 j] W fun e w' => e = .returned (cel l (x * c + j)).val ∧ Ext W w') := fun W hW => HAT.out W j x (xt YW hW) jc hx
        have CY : Hid (∀ W, Ext wk W → Calls Tryz.prog 51 #[grV r c (.slice pv N nv), numV y, .int .i64 j] W fun e w' => e = .returned (cel l (y * c + j)).val ∧ Ext W w') := fun W hW => HAT.out W j y (xt YW hW) jc hy
        have CT : Hid (∀ W, Ext wk W → Calls Tryz.prog 52 #[(cel l (x * c + j)).val, (cel l (y * c + j)).val, .int .i64 1] W fun e w' => e = .returned (.int .i64 (standB (cel l (x * c + j)) (cel l (y * c + j)) 1)) ∧ Ext W w') := fun W hW => standI _ _ 1 (by decide) W (HRM.out x j hx jc) (HRM.out y j hy jc) (HTE.out.1.later (xt YW hW)) (HTE.out.2.later (xt YW hW))
        obtain ⟨Q, hQ⟩ : ∃ Q, standB (cel l (x * c + j)) (cel l (y * c + j)) 1 = Q := ⟨_, rfl⟩
        have HQ : Hid (standB (celK l c x ⟨z, false⟩) (celK l c y ⟨z, false⟩) (sgnK ⟨z, false⟩) = Q) := by show _ = _; rw [HCE.out, HCE.out]; exact hQ
        rw [hQ] at CT
        obtain ⟨⟨q0, q1, q2, q3, q4⟩, hA⟩ : ∃ A, cel l (x * c + j) = A := ⟨_, rfl⟩
        obtain ⟨⟨p0, p1, p2, p3, p4⟩, hB⟩ : ∃ B, cel l (y * c + j) = B := ⟨_, rfl⟩
        rw [hA] at CX CT
        rw [hB] at CY CT
        clear hA hB hQ hwk k1 c0 c1 a0 a1 a2 a3
        refine wp_region_letters (fun lx : Nat → Value => { tmps := #[Value.agg #[Value.int .i64 (r : Int), Value.int .i64 (c : Int), Value.slice pv N nv, Value.slice (some ⟨b, o, none⟩) LK nk], numV x, numV y, Value.pointer (some ⟨w.heap.size, 0, none⟩), undef, undef, u6, undef, Value.pointer (some ⟨wr.heap.size, 0, none⟩), Value.int .i64 1, lx 10, Value.pointer (some ⟨w.heap.size, 3, none⟩), Value.slice (some ⟨b, o, none⟩) LK nk, Value.int .i64 (LK : Int), Value.int .i64 (k : Int), Value.bool true, Value.pointer (some ⟨b, o + k * 2, none⟩), Value.agg #[Value.int .i64 z, Value.bool false], Value.pointer (some ⟨wr.heap.size, 1, none⟩), Value.bool false, lx 20, lx 21, lx 22, lx 23, lx 24, lx 25, lx 26, lx 27, lx 28, lx 29, lx 30, lx 31, lx 32, lx 33, lx 34, lx 35, u36, u37, u38, u39, undef, undef, undef], defers := [] }) (fun L lx lw => Hid (Ext wk lw ∧ Vec lw (w.heap.size) [.int .i64 r, .int .i64 c, .slice pv N nv, .slice (some ⟨b, o, none⟩) LK nk] ∧ Vec lw (wr.heap.size) [.int .i64 z, .bool false] ∧ (L 0 = true → lx 20 = Value.pointer (some ⟨w.heap.size, 0, none⟩)) ∧ (L 1 = true → lx 21 = grV r c (.slice pv N nv)) ∧ (L 2 = true → lx 22 = numV x) ∧ (L 3 = true → lx 23 = Value.pointer (some ⟨wr.heap.size, 0, none⟩)) ∧ (L 4 = true → lx 24 = .int .i64 z) ∧ (L 5 = true → lx 25 = .int .i64 (j : Int)) ∧ (L 6 = true → lx 26 = valV q0 q1 q2 q3 q4) ∧ (L 7 = true → lx 27 = Value.pointer (some ⟨w.heap.size, 0, none⟩)) ∧ (L 8 = true → lx 28 = grV r c (.slice pv N nv)) ∧ (L 9 = true → lx 29 = numV y) ∧ (L 10 = true → lx 30 = Value.pointer (some ⟨wr.heap.size, 0, none⟩)) ∧ (L 11 = true → lx 31 = .int .i64 z) ∧ (L 12 = true → lx 32 = .int .i64 (j : Int)) ∧ (L 13 = true → lx 33 = valV p0 p1 p2 p3 p4) ∧ (L 14 = true → lx 34 = .int .i64 1) ∧ (L 15 = true → lx 35 = .int .i64 Q) ∧ (L 16 = true → lx 10 = .int .i64 Q))) rfl (by kernel_rfl) (fun jj => if jj = 10 then u10 else if jj = 20 then u20 else if jj = 21 then u21 else if jj = 22 then u22 else if jj = 23 then u23 else if jj = 24 then u24 else if jj = 25 then u25 else if jj = 26 then u26 else if jj = 27 then u27 else if jj = 28 then u28 else if jj = 29 then u29 else if jj = 30 then u30 else if jj = 31 then u31 else if jj = 32 then u32 else if jj = 33 then u33 else if jj = 34 then u34 else if jj = 35 then u35 else undef) rfl ?_ ?_ ?_
        · exact ⟨xd (xr wk), B1.later (xd (xr _)), KB.later (xd (xr _)), (fun h => by cases h), (fun h => by cases h), (fun h => by cases h), (fun h => by cases h), (fun h => by cases h), (fun h => by cases h), (fun h => by cases h), (fun h => by cases h), (fun h => by cases h), (fun h => by cases h), (fun h => by cases h), (fun h => by cases h), (fun h => by cases h), (fun h => by cases h), (fun h => by cases h), (fun h => by cases h), (fun h => by cases h)⟩
        · intro L lx wl i o K hK ho hL haf hI
          obtain ⟨X, f0, f1, f2, f3, f4, f5, f6, f7, f8, f9, f10, f11, f12, f13, f14, f15, f16, f17, f18⟩ := hI.out
          match i, ho, hL, haf, hK with
          | 0, ho, hL, haf, hK =>
            cases ho
            (try dsimp only)
            go_wp2_with fail
            exact hK (fun jj => if jj = 20 then Value.pointer (some ⟨w.heap.size, 0, none⟩) else lx jj) _ ⟨X, f0, f1, (fun _ => rfl), f3, f4, f5, f6, f7, f8, f9, f10, f11, f12, f13, f14, f15, f16, f17, f18⟩
          | 1, ho, hL, haf, hK =>
            cases ho
            (try dsimp only)
            rw [f2 (haf ⟨0, .data⟩ (by simp) rfl)]
            have a0 := (f0 0 _ rfl).1
            have a1 := (f0 1 _ rfl).1
            have a2 := (f0 2 _ rfl).1
            go_wp2_with fail
            exact hK (fun jj => if jj = 21 then grV r c (.slice pv N nv) else if jj = 20 then Value.pointer (some ⟨w.heap.size, 0, none⟩) else lx jj) _ ⟨X, f0, f1, (fun _ => rfl), (fun _ => rfl), f4, f5, f6, f7, f8, f9, f10, f11, f12, f13, f14, f15, f16, f17, f18⟩
          | 2, ho, hL, haf, hK =>
            cases ho
            (try dsimp only)
            go_wp2_with fail
            exact hK (fun jj => if jj = 22 then numV x else lx jj) _ ⟨X, f0, f1, f2, f3, (fun _ => rfl), f5, f6, f7, f8, f9, f10, f11, f12, f13, f14, f15, f16, f17, f18⟩
          | 3, ho, hL, haf, hK =>
            cases ho
            (try dsimp only)
            go_wp2_with fail
            exact hK (fun jj => if jj = 23 then Value.pointer (some ⟨wr.heap.size, 0, none⟩) else lx jj) _ ⟨X, f0, f1, f2, f3, f4, (fun _ => rfl), f6, f7, f8, f9, f10, f11, f12, f13, f14, f15, f16, f17, f18⟩
          | 4, ho, hL, haf, hK =>
            cases ho
            (try dsimp only)
            rw [f5 (haf ⟨3, .data⟩ (by simp) rfl)]
            have a0 := (f1 0 _ rfl).1
            go_wp2_with fail
            exact hK (fun jj => if jj = 24 then .int .i64 z else if jj = 23 then Value.pointer (some ⟨wr.heap.size, 0, none⟩) else lx jj) _ ⟨X, f0, f1, f2, f3, f4, (fun _ => rfl), (fun _ => rfl), f7, f8, f9, f10, f11, f12, f13, f14, f15, f16, f17, f18⟩
          | 5, ho, hL, haf, hK =>
            cases ho
            (try dsimp only)
            rw [f6 (haf ⟨4, .data⟩ (by simp) rfl)]
            go_wp2_with fail
            exact hK (fun jj => if jj = 25 then .int .i64 (j : Int) else if jj = 24 then .int .i64 z else lx jj) _ ⟨X, f0, f1, f2, f3, f4, f5, (fun _ => rfl), (fun _ => rfl), f8, f9, f10, f11, f12, f13, f14, f15, f16, f17, f18⟩
          | 6, ho, hL, haf, hK =>
            cases ho
            (try dsimp only)
            rw [f3 (haf ⟨1, .data⟩ (by simp) rfl), f4 (haf ⟨2, .data⟩ (by simp) rfl), f7 (haf ⟨5, .data⟩ (by simp) rfl)]
            go_wp2_with fail
            refine (CX.out wl X).mono ?_
            rintro rr w' ⟨rfl, E⟩
            go_wp2_with fail
            exact hK (fun jj => if jj = 26 then valV q0 q1 q2 q3 q4 else if jj = 21 then grV r c (.slice pv N nv) else if jj = 22 then numV x else if jj = 25 then .int .i64 (j : Int) else lx jj) _ ⟨xt X E, (f0.later E), (f1.later E), f2, (fun _ => rfl), (fun _ => rfl), f5, f6, (fun _ => rfl), (fun _ => rfl), f9, f10, f11, f12, f13, f14, f15, f16, f17, f18⟩
          | 7, ho, hL, haf, hK =>
            cases ho
            (try dsimp only)
            go_wp2_with fail
            exact hK (fun jj => if jj = 27 then Value.pointer (some ⟨w.heap.size, 0, none⟩) else lx jj) _ ⟨X, f0, f1, f2, f3, f4, f5, f6, f7, f8, (fun _ => rfl), f10, f11, f12, f13, f14, f15, f16, f17, f18⟩
          | 8, ho, hL, haf, hK =>
            cases ho
            (try dsimp only)
            rw [f9 (haf ⟨7, .data⟩ (by simp) rfl)]
            have a0 := (f0 0 _ rfl).1
            have a1 := (f0 1 _ rfl).1
            have a2 := (f0 2 _ rfl).1
            go_wp2_with fail
            exact hK (fun jj => if jj = 28 then grV r c (.slice pv N nv) else if jj = 27 then Value.pointer (some ⟨w.heap.size, 0, none⟩) else lx jj) _ ⟨X, f0, f1, f2, f3, f4, f5, f6, f7, f8, (fun _ => rfl), (fun _ => rfl), f11, f12, f13, f14, f15, f16, f17, f18⟩
          | 9, ho, hL, haf, hK =>
            cases ho
            (try dsimp only)
            go_wp2_with fail
            exact hK (fun jj => if jj = 29 then numV y else lx jj) _ ⟨X, f0, f1, f2, f3, f4, f5, f6, f7, f8, f9, f10, (fun _ => rfl), f12, f13, f14, f15, f16, f17, f18⟩
          | 10, ho, hL, haf, hK =>
            cases ho
            (try dsimp only)
            go_wp2_with fail
            exact hK (fun jj => if jj = 30 then Value.pointer (some ⟨wr.heap.size, 0, none⟩) else lx jj) _ ⟨X, f0, f1, f2, f3, f4, f5, f6, f7, f8, f9, f10, f11, (fun _ => rfl), f13, f14, f15, f16, f17, f18⟩
          | 11, ho, hL, haf, hK =>
            cases ho
            (try dsimp only)
            rw [f12 (haf ⟨10, .data⟩ (by simp) rfl)]
            have a0 := (f1 0 _ rfl).1
            go_wp2_with fail
            exact hK (fun jj => if jj = 31 then .int .i64 z else if jj = 30 then Value.pointer (some ⟨wr.heap.size, 0, none⟩) else lx jj) _ ⟨X, f0, f1, f2, f3, f4, f5, f6, f7, f8, f9, f10, f11, (fun _ => rfl), (fun _ => rfl), f14, f15, f16, f17, f18⟩
          | 12, ho, hL, haf, hK =>
            cases ho
            (try dsimp only)
            rw [f13 (haf ⟨11, .data⟩ (by simp) rfl)]
            go_wp2_with fail
            exact hK (fun jj => if jj = 32 then .int .i64 (j : Int) else if jj = 31 then .int .i64 z else lx jj) _ ⟨X, f0, f1, f2, f3, f4, f5, f6, f7, f8, f9, f10, f11, f12, (fun _ => rfl), (fun _ => rfl), f15, f16, f17, f18⟩
          | 13, ho, hL, haf, hK =>
            cases ho
            (try dsimp only)
            rw [f10 (haf ⟨8, .data⟩ (by simp) rfl), f11 (haf ⟨9, .data⟩ (by simp) rfl), f14 (haf ⟨12, .data⟩ (by simp) rfl)]
            go_wp2_with fail
            refine (CY.out wl X).mono ?_
            rintro rr w' ⟨rfl, E⟩
            go_wp2_with fail
            exact hK (fun jj => if jj = 33 then valV p0 p1 p2 p3 p4 else if jj = 28 then grV r c (.slice pv N nv) else if jj = 29 then numV y else if jj = 32 then .int .i64 (j : Int) else lx jj) _ ⟨xt X E, (f0.later E), (f1.later E), f2, f3, f4, f5, f6, f7, f8, f9, (fun _ => rfl), (fun _ => rfl), f12, f13, (fun _ => rfl), (fun _ => rfl), f16, f17, f18⟩
          | 14, ho, hL, haf, hK =>
            cases ho
            (try dsimp only)
            go_wp2_with fail
            exact hK (fun jj => if jj = 34 then .int .i64 1 else lx jj) _ ⟨X, f0, f1, f2, f3, f4, f5, f6, f7, f8, f9, f10, f11, f12, f13, f14, f15, (fun _ => rfl), f17, f18⟩
          | 15, ho, hL, haf, hK =>
            cases ho
            (try dsimp only)
            rw [f8 (haf ⟨6, .data⟩ (by simp) rfl), f15 (haf ⟨13, .data⟩ (by simp) rfl), f16 (haf ⟨14, .data⟩ (by simp) rfl)]
            go_wp2_with fail
            refine (CT.out wl X).mono ?_
            rintro rr w' ⟨rfl, E⟩
            go_wp2_with fail
            exact hK (fun jj => if jj = 35 then .int .i64 Q else if jj = 26 then valV q0 q1 q2 q3 q4 else if jj = 33 then valV p0 p1 p2 p3 p4 else if jj = 34 then .int .i64 1 else lx jj) _ ⟨xt X E, (f0.later E), (f1.later E), f2, f3, f4, f5, f6, f7, (fun _ => rfl), f9, f10, f11, f12, f13, f14, (fun _ => rfl), (fun _ => rfl), (fun _ => rfl), f18⟩
          | 16, ho, hL, haf, hK =>
            cases ho
            (try dsimp only)
            rw [f17 (haf ⟨15, .data⟩ (by simp) rfl)]
            go_wp2_with fail
            exact hK (fun jj => if jj = 10 then .int .i64 Q else if jj = 35 then .int .i64 Q else lx jj) _ ⟨X, f0, f1, f2, f3, f4, f5, f6, f7, f8, f9, f10, f11, f12, f13, f14, f15, f16, (fun _ => rfl), (fun _ => rfl)⟩
          | k + 17, ho, _, _, _ => simp at ho
        · intro L lx wr hall hI
          obtain ⟨XR, f0, f1, f2, f3, f4, f5, f6, f7, f8, f9, f10, f11, f12, f13, f14, f15, f16, f17, f18⟩ := hI.out
          clear hI
          have G0 := f0
          have G1 := f1
          replace f2 := f2 (hall 0 (by simp))
          replace f3 := f3 (hall 1 (by simp))
          replace f4 := f4 (hall 2 (by simp))
          replace f5 := f5 (hall 3 (by simp))
          replace f6 := f6 (hall 4 (by simp))
          replace f7 := f7 (hall 5 (by simp))
          replace f8 := f8 (hall 6 (by simp))
          replace f9 := f9 (hall 7 (by simp))
          replace f10 := f10 (hall 8 (by simp))
          replace f11 := f11 (hall 9 (by simp))
          replace f12 := f12 (hall 10 (by simp))
          replace f13 := f13 (hall 11 (by simp))
          replace f14 := f14 (hall 12 (by simp))
          replace f15 := f15 (hall 13 (by simp))
          replace f16 := f16 (hall 14 (by simp))
          replace f17 := f17 (hall 15 (by simp))
          replace f18 := f18 (hall 16 (by simp))
          (try dsimp only)
          rw [f2, f3, f4, f5, f6, f7, f8, f9, f10, f11, f12, f13, f14, f15, f16, f17, f18]
          clear hall f0 f1 f2 f3 f4 f5 f6 f7 f8 f9 f10 f11 f12 f13 f14 f15 f16 f17 f18
          have YZ := xt YW XR
          by_cases hQ0 : Q = 0
          · subst hQ0
            have HN : Hid (lexK l c x y ks = lexK l c x y (ks.drop (k + 1)) ∧ Ext u0 wr) := ⟨by rw [HX.out.1, HDR.out, lexK_skip HQ.out], xt HX.out.2 (xt KX XR)⟩
            go_wp2_with fail
            go_roundw
            case rel => exact ⟨k + 1, by go_num, by omega, HN⟩
            case measure => simp [intOf]; omega
          · have hQb : (Q == 0) = false := by simpa using hQ0
            have HF : Hid (Q = R) := by
              show _ = _
              have e1 : lexK l c x y ks = Q := by rw [HX.out.1, HDR.out, lexK_take (by rw [HQ.out]; exact hQ0), HQ.out]
              rw [HCR.out, e1, if_pos hQ0]
            go_wp2_with fail
            go_ret
            exact ⟨ret_int HF.out, YZ⟩

      · go_wp2_with fail
        obtain ⟨wk, hwk⟩ : ∃ wk, wr.alloc (.cells #[.int .i64 z, .bool true] 34) = wk := ⟨_, rfl⟩
        rw [hwk] at KB KX k1 ⊢
        have YW := xt X0 (xt HX.out.2 KX)
        have B1 := B0.later (xt HX.out.2 KX)
        have a0 := (B1 0 _ rfl).1
        have a1 := (B1 1 _ rfl).1
        have a2 := (B1 2 _ rfl).1
        have a3 := (KB 0 _ rfl).1
        have CX : Hid (∀ W, Ext wk W → Calls Tryz.prog 51 #[grV r c (.slice pv N nv), numV x, .int .i64 j] W fun e w' => e = .returned (cel l (x * c + j)).val ∧ Ext W w') := fun W hW => HAT.out W j x (xt YW hW) jc hx
        have CY : Hid (∀ W, Ext wk W → Calls Tryz.prog 51 #[grV r c (.slice pv N nv), numV y, .int .i64 j] W fun e w' => e = .returned (cel l (y * c + j)).val ∧ Ext W w') := fun W hW => HAT.out W j y (xt YW hW) jc hy
        have CT : Hid (∀ W, Ext wk W → Calls Tryz.prog 52 #[(cel l (x * c + j)).val, (cel l (y * c + j)).val, .int .i64 (-1)] W fun e w' => e = .returned (.int .i64 (standB (cel l (x * c + j)) (cel l (y * c + j)) (-1))) ∧ Ext W w') := fun W hW => standI _ _ (-1) (by decide) W (HRM.out x j hx jc) (HRM.out y j hy jc) (HTE.out.1.later (xt YW hW)) (HTE.out.2.later (xt YW hW))
        obtain ⟨Q, hQ⟩ : ∃ Q, standB (cel l (x * c + j)) (cel l (y * c + j)) (-1) = Q := ⟨_, rfl⟩
        have HQ : Hid (standB (celK l c x ⟨z, true⟩) (celK l c y ⟨z, true⟩) (sgnK ⟨z, true⟩) = Q) := by show _ = _; rw [HCE.out, HCE.out]; exact hQ
        rw [hQ] at CT
        obtain ⟨⟨q0, q1, q2, q3, q4⟩, hA⟩ : ∃ A, cel l (x * c + j) = A := ⟨_, rfl⟩
        obtain ⟨⟨p0, p1, p2, p3, p4⟩, hB⟩ : ∃ B, cel l (y * c + j) = B := ⟨_, rfl⟩
        rw [hA] at CX CT
        rw [hB] at CY CT
        clear hA hB hQ hwk k1 c0 c1 a0 a1 a2 a3
        refine wp_region_letters (fun lx : Nat → Value => { tmps := #[Value.agg #[Value.int .i64 (r : Int), Value.int .i64 (c : Int), Value.slice pv N nv, Value.slice (some ⟨b, o, none⟩) LK nk], numV x, numV y, Value.pointer (some ⟨w.heap.size, 0, none⟩), undef, undef, u6, undef, Value.pointer (some ⟨wr.heap.size, 0, none⟩), Value.int .i64 (-1), lx 10, Value.pointer (some ⟨w.heap.size, 3, none⟩), Value.slice (some ⟨b, o, none⟩) LK nk, Value.int .i64 (LK : Int), Value.int .i64 (k : Int), Value.bool true, Value.pointer (some ⟨b, o + k * 2, none⟩), Value.agg #[Value.int .i64 z, Value.bool true], Value.pointer (some ⟨wr.heap.size, 1, none⟩), Value.bool true, lx 20, lx 21, lx 22, lx 23, lx 24, lx 25, lx 26, lx 27, lx 28, lx 29, lx 30, lx 31, lx 32, lx 33, lx 34, lx 35, u36, u37, u38, u39, undef, undef, undef], defers := [] }) (fun L lx lw => Hid (Ext wk lw ∧ Vec lw (w.heap.size) [.int .i64 r, .int .i64 c, .slice pv N nv, .slice (some ⟨b, o, none⟩) LK nk] ∧ Vec lw (wr.heap.size) [.int .i64 z, .bool true] ∧ (L 0 = true → lx 20 = Value.pointer (some ⟨w.heap.size, 0, none⟩)) ∧ (L 1 = true → lx 21 = grV r c (.slice pv N nv)) ∧ (L 2 = true → lx 22 = numV x) ∧ (L 3 = true → lx 23 = Value.pointer (some ⟨wr.heap.size, 0, none⟩)) ∧ (L 4 = true → lx 24 = .int .i64 z) ∧ (L 5 = true → lx 25 = .int .i64 (j : Int)) ∧ (L 6 = true → lx 26 = valV q0 q1 q2 q3 q4) ∧ (L 7 = true → lx 27 = Value.pointer (some ⟨w.heap.size, 0, none⟩)) ∧ (L 8 = true → lx 28 = grV r c (.slice pv N nv)) ∧ (L 9 = true → lx 29 = numV y) ∧ (L 10 = true → lx 30 = Value.pointer (some ⟨wr.heap.size, 0, none⟩)) ∧ (L 11 = true → lx 31 = .int .i64 z) ∧ (L 12 = true → lx 32 = .int .i64 (j : Int)) ∧ (L 13 = true → lx 33 = valV p0 p1 p2 p3 p4) ∧ (L 14 = true → lx 34 = .int .i64 (-1)) ∧ (L 15 = true → lx 35 = .int .i64 Q) ∧ (L 16 = true → lx 10 = .int .i64 Q))) rfl (by kernel_rfl) (fun jj => if jj = 10 then u10 else if jj = 20 then u20 else if jj = 21 then u21 else if jj = 22 then u22 else if jj = 23 then u23 else if jj = 24 then u24 else if jj = 25 then u25 else if jj = 26 then u26 else if jj = 27 then u27 else if jj = 28 then u28 else if jj = 29 then u29 else if jj = 30 then u30 else if jj = 31 then u31 else if jj = 32 then u32 else if jj = 33 then u33 else if jj = 34 then u34 else if jj = 35 then u35 else undef) rfl ?_ ?_ ?_
        · exact ⟨xd (xr wk), B1.later (xd (xr _)), KB.later (xd (xr _)), (fun h => by cases h), (fun h => by cases h), (fun h => by cases h), (fun h => by cases h), (fun h => by cases h), (fun h => by cases h), (fun h => by cases h), (fun h => by cases h), (fun h => by cases h), (fun h => by cases h), (fun h => by cases h), (fun h => by cases h), (fun h => by cases h), (fun h => by cases h), (fun h => by cases h), (fun h => by cases h), (fun h => by cases h)⟩
        · intro L lx wl i o K hK ho hL haf hI
          obtain ⟨X, f0, f1, f2, f3, f4, f5, f6, f7, f8, f9, f10, f11, f12, f13, f14, f15, f16, f17, f18⟩ := hI.out
          match i, ho, hL, haf, hK with
          | 0, ho, hL, haf, hK =>
            cases ho
            (try dsimp only)
            go_wp2_with fail
            exact hK (fun jj => if jj = 20 then Value.pointer (some ⟨w.heap.size, 0, none⟩) else lx jj) _ ⟨X, f0, f1, (fun _ => rfl), f3, f4, f5, f6, f7, f8, f9, f10, f11, f12, f13, f14, f15, f16, f17, f18⟩
          | 1, ho, hL, haf, hK =>
            cases ho
            (try dsimp only)
            rw [f2 (haf ⟨0, .data⟩ (by simp) rfl)]
            have a0 := (f0 0 _ rfl).1
            have a1 := (f0 1 _ rfl).1
            have a2 := (f0 2 _ rfl).1
            go_wp2_with fail
            exact hK (fun jj => if jj = 21 then grV r c (.slice pv N nv) else if jj = 20 then Value.pointer (some ⟨w.heap.size, 0, none⟩) else lx jj) _ ⟨X, f0, f1, (fun _ => rfl), (fun _ => rfl), f4, f5, f6, f7, f8, f9, f10, f11, f12, f13, f14, f15, f16, f17, f18⟩
          | 2, ho, hL, haf, hK =>
            cases ho
            (try dsimp only)
            go_wp2_with fail
            exact hK (fun jj => if jj = 22 then numV x else lx jj) _ ⟨X, f0, f1, f2, f3, (fun _ => rfl), f5, f6, f7, f8, f9, f10, f11, f12, f13, f14, f15, f16, f17, f18⟩
          | 3, ho, hL, haf, hK =>
            cases ho
            (try dsimp only)
            go_wp2_with fail
            exact hK (fun jj => if jj = 23 then Value.pointer (some ⟨wr.heap.size, 0, none⟩) else lx jj) _ ⟨X, f0, f1, f2, f3, f4, (fun _ => rfl), f6, f7, f8, f9, f10, f11, f12, f13, f14, f15, f16, f17, f18⟩
          | 4, ho, hL, haf, hK =>
            cases ho
            (try dsimp only)
            rw [f5 (haf ⟨3, .data⟩ (by simp) rfl)]
            have a0 := (f1 0 _ rfl).1
            go_wp2_with fail
            exact hK (fun jj => if jj = 24 then .int .i64 z else if jj = 23 then Value.pointer (some ⟨wr.heap.size, 0, none⟩) else lx jj) _ ⟨X, f0, f1, f2, f3, f4, (fun _ => rfl), (fun _ => rfl), f7, f8, f9, f10, f11, f12, f13, f14, f15, f16, f17, f18⟩
          | 5, ho, hL, haf, hK =>
            cases ho
            (try dsimp only)
            rw [f6 (haf ⟨4, .data⟩ (by simp) rfl)]
            go_wp2_with fail
            exact hK (fun jj => if jj = 25 then .int .i64 (j : Int) else if jj = 24 then .int .i64 z else lx jj) _ ⟨X, f0, f1, f2, f3, f4, f5, (fun _ => rfl), (fun _ => rfl), f8, f9, f10, f11, f12, f13, f14, f15, f16, f17, f18⟩
          | 6, ho, hL, haf, hK =>
            cases ho
            (try dsimp only)
            rw [f3 (haf ⟨1, .data⟩ (by simp) rfl), f4 (haf ⟨2, .data⟩ (by simp) rfl), f7 (haf ⟨5, .data⟩ (by simp) rfl)]
            go_wp2_with fail
            refine (CX.out wl X).mono ?_
            rintro rr w' ⟨rfl, E⟩
            go_wp2_with fail
            exact hK (fun jj => if jj = 26 then valV q0 q1 q2 q3 q4 else if jj = 21 then grV r c (.slice pv N nv) else if jj = 22 then numV x else if jj = 25 then .int .i64 (j : Int) else lx jj) _ ⟨xt X E, (f0.later E), (f1.later E), f2, (fun _ => rfl), (fun _ => rfl), f5, f6, (fun _ => rfl), (fun _ => rfl), f9, f10, f11, f12, f13, f14, f15, f16, f17, f18⟩
          | 7, ho, hL, haf, hK =>
            cases ho
            (try dsimp only)
            go_wp2_with fail
            exact hK (fun jj => if jj = 27 then Value.pointer (some ⟨w.heap.size, 0, none⟩) else lx jj) _ ⟨X, f0, f1, f2, f3, f4, f5, f6, f7, f8, (fun _ => rfl), f10, f11, f12, f13, f14, f15, f16, f17, f18⟩
          | 8, ho, hL, haf, hK =>
            cases ho
            (try dsimp only)
            rw [f9 (haf ⟨7, .data⟩ (by simp) rfl)]
            have a0 := (f0 0 _ rfl).1
            have a1 := (f0 1 _ rfl).1
            have a2 := (f0 2 _ rfl).1
            go_wp2_with fail
            exact hK (fun jj => if jj = 28 then grV r c (.slice pv N nv) else if jj = 27 then Value.pointer (some ⟨w.heap.size, 0, none⟩) else lx jj) _ ⟨X, f0, f1, f2, f3, f4, f5, f6, f7, f8, (fun _ => rfl), (fun _ => rfl), f11, f12, f13, f14, f15, f16, f17, f18⟩
          | 9, ho, hL, haf, hK =>
            cases ho
            (try dsimp only)
            go_wp2_with fail
            exact hK (fun jj => if jj = 29 then numV y else lx jj) _ ⟨X, f0, f1, f2, f3, f4, f5, f6, f7, f8, f9, f10, (fun _ => rfl), f12, f13, f14, f15, f16, f17, f18⟩
          | 10, ho, hL, haf, hK =>
            cases ho
            (try dsimp only)
            go_wp2_with fail
            exact hK (fun jj => if jj = 30 then Value.pointer (some ⟨wr.heap.size, 0, none⟩) else lx jj) _ ⟨X, f0, f1, f2, f3, f4, f5, f6, f7, f8, f9, f10, f11, (fun _ => rfl), f13, f14, f15, f16, f17, f18⟩
          | 11, ho, hL, haf, hK =>
            cases ho
            (try dsimp only)
            rw [f12 (haf ⟨10, .data⟩ (by simp) rfl)]
            have a0 := (f1 0 _ rfl).1
            go_wp2_with fail
            exact hK (fun jj => if jj = 31 then .int .i64 z else if jj = 30 then Value.pointer (some ⟨wr.heap.size, 0, none⟩) else lx jj) _ ⟨X, f0, f1, f2, f3, f4, f5, f6, f7, f8, f9, f10, f11, (fun _ => rfl), (fun _ => rfl), f14, f15, f16, f17, f18⟩
          | 12, ho, hL, haf, hK =>
            cases ho
            (try dsimp only)
            rw [f13 (haf ⟨11, .data⟩ (by simp) rfl)]
            go_wp2_with fail
            exact hK (fun jj => if jj = 32 then .int .i64 (j : Int) else if jj = 31 then .int .i64 z else lx jj) _ ⟨X, f0, f1, f2, f3, f4, f5, f6, f7, f8, f9, f10, f11, f12, (fun _ => rfl), (fun _ => rfl), f15, f16, f17, f18⟩
          | 13, ho, hL, haf, hK =>
            cases ho
            (try dsimp only)
            rw [f10 (haf ⟨8, .data⟩ (by simp) rfl), f11 (haf ⟨9, .data⟩ (by simp) rfl), f14 (haf ⟨12, .data⟩ (by simp) rfl)]
            go_wp2_with fail
            refine (CY.out wl X).mono ?_
            rintro rr w' ⟨rfl, E⟩
            go_wp2_with fail
            exact hK (fun jj => if jj = 33 then valV p0 p1 p2 p3 p4 else if jj = 28 then grV r c (.slice pv N nv) else if jj = 29 then numV y else if jj = 32 then .int .i64 (j : Int) else lx jj) _ ⟨xt X E, (f0.later E), (f1.later E), f2, f3, f4, f5, f6, f7, f8, f9, (fun _ => rfl), (fun _ => rfl), f12, f13, (fun _ => rfl), (fun _ => rfl), f16, f17, f18⟩
          | 14, ho, hL, haf, hK =>
            cases ho
            (try dsimp only)
            go_wp2_with fail
            exact hK (fun jj => if jj = 34 then .int .i64 (-1) else lx jj) _ ⟨X, f0, f1, f2, f3, f4, f5, f6, f7, f8, f9, f10, f11, f12, f13, f14, f15, (fun _ => rfl), f17, f18⟩
          | 15, ho, hL, haf, hK =>
            cases ho
            (try dsimp only)
            rw [f8 (haf ⟨6, .data⟩ (by simp) rfl), f15 (haf ⟨13, .data⟩ (by simp) rfl), f16 (haf ⟨14, .data⟩ (by simp) rfl)]
            go_wp2_with fail
            refine (CT.out wl X).mono ?_
            rintro rr w' ⟨rfl, E⟩
            go_wp2_with fail
            exact hK (fun jj => if jj = 35 then .int .i64 Q else if jj = 26 then valV q0 q1 q2 q3 q4 else if jj = 33 then valV p0 p1 p2 p3 p4 else if jj = 34 then .int .i64 (-1) else lx jj) _ ⟨xt X E, (f0.later E), (f1.later E), f2, f3, f4, f5, f6, f7, (fun _ => rfl), f9, f10, f11, f12, f13, f14, (fun _ => rfl), (fun _ => rfl), (fun _ => rfl), f18⟩
          | 16, ho, hL, haf, hK =>
            cases ho
            (try dsimp only)
            rw [f17 (haf ⟨15, .data⟩ (by simp) rfl)]
            go_wp2_with fail
            exact hK (fun jj => if jj = 10 then .int .i64 Q else if jj = 35 then .int .i64 Q else lx jj) _ ⟨X, f0, f1, f2, f3, f4, f5, f6, f7, f8, f9, f10, f11, f12, f13, f14, f15, f16, (fun _ => rfl), (fun _ => rfl)⟩
          | k + 17, ho, _, _, _ => simp at ho
        · intro L lx wr hall hI
          obtain ⟨XR, f0, f1, f2, f3, f4, f5, f6, f7, f8, f9, f10, f11, f12, f13, f14, f15, f16, f17, f18⟩ := hI.out
          clear hI
          have G0 := f0
          have G1 := f1
          replace f2 := f2 (hall 0 (by simp))
          replace f3 := f3 (hall 1 (by simp))
          replace f4 := f4 (hall 2 (by simp))
          replace f5 := f5 (hall 3 (by simp))
          replace f6 := f6 (hall 4 (by simp))
          replace f7 := f7 (hall 5 (by simp))
          replace f8 := f8 (hall 6 (by simp))
          replace f9 := f9 (hall 7 (by simp))
          replace f10 := f10 (hall 8 (by simp))
          replace f11 := f11 (hall 9 (by simp))
          replace f12 := f12 (hall 10 (by simp))
          replace f13 := f13 (hall 11 (by simp))
          replace f14 := f14 (hall 12 (by simp))
          replace f15 := f15 (hall 13 (by simp))
          replace f16 := f16 (hall 14 (by simp))
          replace f17 := f17 (hall 15 (by simp))
          replace f18 := f18 (hall 16 (by simp))
          (try dsimp only)
          rw [f2, f3, f4, f5, f6, f7, f8, f9, f10, f11, f12, f13, f14, f15, f16, f17, f18]
          clear hall f0 f1 f2 f3 f4 f5 f6 f7 f8 f9 f10 f11 f12 f13 f14 f15 f16 f17 f18
          have YZ := xt YW XR
          by_cases hQ0 : Q = 0
          · subst hQ0
            have HN : Hid (lexK l c x y ks = lexK l c x y (ks.drop (k + 1)) ∧ Ext u0 wr) := ⟨by rw [HX.out.1, HDR.out, lexK_skip HQ.out], xt HX.out.2 (xt KX XR)⟩
            go_wp2_with fail
            go_roundw
            case rel => exact ⟨k + 1, by go_num, by omega, HN⟩
            case measure => simp [intOf]; omega
          · have hQb : (Q == 0) = false := by simpa using hQ0
            have HF : Hid (Q = R) := by
              show _ = _
              have e1 : lexK l c x y ks = Q := by rw [HX.out.1, HDR.out, lexK_take (by rw [HQ.out]; exact hQ0), HQ.out]
              rw [HCR.out, e1, if_pos hQ0]
            go_wp2_with fail
            go_ret
            exact ⟨ret_int HF.out, YZ⟩

    · obtain rfl : k = LK := by omega
      have i2 : ¬ (k : Int) < (k : Int) := by omega
      have HF : Hid (cmpI x y = R) := by
        show _ = _
        rw [HCR.out, HX.out.1, List.drop_of_length_le (by rw [HL.out]; exact Nat.le_refl _), if_neg (by simp [lexK])]
      have CI := fun W => compare_int (x : Int) (y : Int) W
      go_wp2_with (go_at_call 53; refine (CI _).mono ?_; rintro e w1 ⟨rfl, rfl⟩)
      go_ret
      exact ⟨ret_int HF.out, xt X0 HX.out.2⟩

/-- A row of n numbers of one's own at a block. -/
abbrev OwnN (w : World) (base g n cap : Nat) (l : List Nat) : Prop := w.ownsRow base 3 1 (.slice (some ⟨g, 0, none⟩) n cap) n (l.map numV)
theorem ownN_len {w : World} {base g n cap : Nat} {l : List Nat} (h : OwnN w base g n cap l) : l.length = n := by
  have := h.1
  rw [List.length_map] at this
  omega
theorem ownN_vec {w : World} {base g n cap : Nat} {l : List Nat} (h : OwnN w base g n cap l) : Vec w g (l.map numV) := fun j u hu => by
  have hj := (List.getElem?_eq_some_iff.1 hu).1
  have := h.1
  exact ⟨by rw [h.cellAt j (by omega)]; exact hu, h.frozenAt j⟩
theorem ownN_set {w : World} {base g n cap : Nat} {l : List Nat} (h : OwnN w base g n cap l) (j x : Nat) : OwnN (w.setCell ⟨g, j, none⟩ (numV x)) base g n cap (l.set j x) := by
  have := (h.stored j (numV x)).1
  show World.ownsRow _ _ _ _ _ _ _
  rw [List.map_set]
  exact this
theorem ownN_later {w w' : World} {base g n cap : Nat} {l : List Nat} (h : OwnN w base g n cap l) (hx : Ext w w') : OwnN w' base g n cap l := by
  have hl := ownN_len h
  subst hl
  exact ownI_later h hx
theorem ownN_base {w : World} {base g n cap : Nat} {l : List Nat} (h : OwnN w base g n cap l) : base ≤ g := (h.lt g rfl).1
/-- The last ones are left off. -/
theorem ownN_cut {w : World} {base g n cap : Nat} {l : List Nat} (h : OwnN w base g n cap l) (m : Nat) (hm : m ≤ n) : OwnN w base g m cap (l.take m) := by
  have hn := ownN_len h
  rcases h.2 with ⟨h1, _⟩ | ⟨g', cap', cur, h1, h2, h3, h4, h5, h6, h7⟩
  · cases h1
  · cases h1
    have hl : (l.take m).length = m := by rw [List.length_take]; omega
    refine ⟨by rw [List.length_map, hl]; omega, Or.inr ⟨g, cap, cur, rfl, h2, h3, by omega, h5, h6, ?_⟩⟩
    rw [List.map_take, ← h7, List.take_take]
    congr 1
    omega
theorem ownN_far {w : World} {base g n cap : Nat} {l : List Nat} (h : OwnN w base g n cap l) {p : Addr} (hp : p.block < base) (u : Value) : OwnN (w.setCell p u) base g n cap l := by
  refine ⟨h.1, h.2.imp id ?_⟩
  rintro ⟨g, cap, cur, h1, h2, h3, h4⟩
  exact ⟨g, cap, cur, h1, h2, by rw [heap_setCell_other _ _ _ _ (by omega)]; exact h3, h4⟩
set_option maxRecDepth 8000 in
set_option maxHeartbeats 4000000 in
theorem swapI (hb g cap : Nat) (fv : Value) (h : List Nat) (i j : Nat) (w : World) (N : Nat) (H : Vec w hb [.slice (some ⟨g, 0, none⟩) N cap, fv]) (base : Nat) (OI : OwnN w base g N cap h) (hi : i < N) (hj : j < N) (hij : i ≠ j) :
    Calls Tryz.prog 55 #[.pointer (some ⟨hb, 0, none⟩), numV i, numV j] w fun e w' => e = .returned (.tuple #[]) ∧ OwnN w' base g N cap (swapL h i j) ∧ w.grownBy w' (some g) := by
  have V := ownN_vec OI
  have hN := ownN_len OI
  have a0 := (H 0 _ rfl).1
  obtain ⟨x, hx⟩ : ∃ x, nth h i = x := ⟨_, rfl⟩
  obtain ⟨y, hy⟩ : ∃ y, nth h j = y := ⟨_, rfl⟩
  have ex : (h.map numV)[i]? = some (numV x) := by rw [List.getElem?_map, nth_get (by omega), hx]; rfl
  have ey : (h.map numV)[j]? = some (numV y) := by rw [List.getElem?_map, nth_get (by omega), hy]; rfl
  obtain ⟨ci, fi⟩ := V i _ ex
  obtain ⟨cj, fj⟩ := V j _ ey
  have HV : Hid (OwnN ((w.setCell ⟨g, i, none⟩ (numV y)).setCell ⟨g, j, none⟩ (numV x)) base g N cap (swapL h i j)) := by
    have := ownN_set (ownN_set OI i y) j x
    unfold swapL
    rw [hx, hy]
    exact this
  have i1 : (i : Int) < (N : Int) := by omega
  have j1 : (j : Int) < (N : Int) := by omega
  have hne : ¬ (i = j) := hij
  clear H V ex ey hx hy hN OI
  go_enter Tryz.func55, Tryz.ntmps55
  go_wp2_with fail
  go_region
  go_wp2
  exact bodyPost_end (results_none rfl _ _ _) rfl ⟨rfl, ownN_later HV.out (xd (xr _)), grown_ext (grown_set (grown_set (grown_refl w _) _) _) (xd (xr _))⟩

/-- A function value compares the rows, wherever what it reads stands. -/
structure Orders (w : World) (fn : Nat) (rc : Array Value) (n : Nat) (K : Nat → Nat → Int) : Prop where
  ent : ∀ args w, (callFunc fn args).run Tryz.prog w = .ok (.enter fn args) w
  says : ∀ W x y, Ext w W → x < n → y < n → Calls Tryz.prog fn (rc ++ #[numV x, numV y]) W fun e w' => e = .returned (.int .i64 (K x y)) ∧ Ext W w'
set_option maxRecDepth 8000 in
set_option maxHeartbeats 4000000 in
theorem isAheadI (w0 : World) (fn : Nat) (rc : Value) (n : Nat) (K : Nat → Nat → Int) (O : Orders w0 fn #[rc] n K) (hb g cap : Nat) (h : List Nat) (i j : Nat) (w : World) (X : Ext w0 w) (H : Vec w hb [.slice (some ⟨g, 0, none⟩) h.length cap, .func (.func fn) #[rc] #[]]) (V : Vec w g (h.map numV)) (hn : ∀ x ∈ h, x < n)
    (hi : i < h.length) (hj : j < h.length) :
    Calls Tryz.prog 54 #[.pointer (some ⟨hb, 0, none⟩), numV i, numV j] w fun e w' => e = .returned (.bool (decide (K (nth h i) (nth h j) < 0))) ∧ Ext w w' := by
  have a0 := (H 0 _ rfl).1
  have a1 := (H 1 _ rfl).1
  have ent := O.ent
  have CK : Hid (∀ W, Ext w W → Calls Tryz.prog fn #[rc, numV (nth h i), numV (nth h j)] W fun e w' => e = .returned (.int .i64 (K (nth h i) (nth h j))) ∧ Ext W w') := fun W hW => O.says W _ _ (xt X hW) (hn _ (nth_mem hi)) (hn _ (nth_mem hj))
  obtain ⟨x, hx⟩ : ∃ x, nth h i = x := ⟨_, rfl⟩
  obtain ⟨y, hy⟩ : ∃ y, nth h j = y := ⟨_, rfl⟩
  have ci := (V i (numV x) (by rw [List.getElem?_map, nth_get hi, hx]; rfl)).1
  have cj := (V j (numV y) (by rw [List.getElem?_map, nth_get hj, hy]; rfl)).1
  rw [hx, hy] at CK ⊢
  obtain ⟨Z, hZ⟩ : ∃ Z, K x y = Z := ⟨_, rfl⟩
  rw [hZ] at CK ⊢
  obtain ⟨N, hN⟩ : ∃ N, h.length = N := ⟨_, rfl⟩
  rw [hN] at a0 hi hj
  have i1 : (i : Int) < (N : Int) := by omega
  have j1 : (j : Int) < (N : Int) := by omega
  clear H V hx hy hN hZ hn O X
  go_enter Tryz.func54, Tryz.ntmps54
  go_wp2_with fail
  go_region_held3 (fun w' => w'.cell? ⟨hb, 0, none⟩ = some (.slice (some ⟨g, 0, none⟩) N cap) ∧ w'.cell? ⟨hb, 1, none⟩ = some (.func (.func fn) #[rc] #[]) ∧ w'.cell? ⟨g, i, none⟩ = some (.int .i64 x) ∧ w'.cell? ⟨g, j, none⟩ = some (.int .i64 y)) (go_keep)
    (first
      | (go_at_fn fn; refine (CK.out _ (xd (xr _))).mono ?_; rintro e w' ⟨rfl, E⟩; have Y := xt (xd (xr _)) E; have r0 := cell_later Y a0; have r1 := cell_later Y a1; have r2 := cell_later Y ci; have r3 := cell_later Y cj))
  all_goals
    go_wp2_with fail
    go_ret
    exact ⟨rfl, Y⟩

end Go.Proofs.YtbomplppgobkdaaGreatDoor

