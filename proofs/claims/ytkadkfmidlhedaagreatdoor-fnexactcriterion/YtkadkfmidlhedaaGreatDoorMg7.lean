/-
  Several texts in one: V9m, V9n.
-/
import Derived.Test.YtkadkfmidlhedaaGreatDoorV6m
import Derived.Test.YtkadkfmidlhedaaGreatDoorFy
import Derived.Test.YtkadkfmidlhedaaGreatDoorMg6
namespace Go.Proofs.YtkadkfmidlhedaaGreatDoor
open Go.RowKit

def critL (t : List UInt8) : List UInt8 := if (aheadO t).2 = 1 then (aheadO t).1 else [61]
def critR (t : List UInt8) : List UInt8 := if (aheadO t).2 = 1 then t.drop (aheadO t).1.length else t
/-- What Criterion answers. -/
def critV (k : Int) (n : Bool) (d x : Int) (t : List UInt8) : Value :=
  if goodV k n d x t = true then (if k = 2 then .tuple #[sV (critL t), typedV (critR t)] else .tuple #[sV [61], valV k n d x t]) else .tuple #[sV [], valV 0 false 0 0 []]
theorem good_text {n : Bool} {d x : Int} {t : List UInt8} (h : goodV 2 n d x t = true) : t.length ≤ 1000 := by
  have : zeroD n d x = true ∧ printN 1000 t = true := by simpa [goodV] using h
  have h2 := this.2
  simp [printN] at h2
  omega
theorem prefix_len {l p : List UInt8} (h : Lib.hasPrefix l p = true) : p.length ≤ l.length := by
  rw [prefix_iff] at h
  simp at h
  exact h.1
theorem ahead_le (t : List UInt8) : (aheadO t).1.length ≤ t.length := by
  unfold aheadO
  cases h : opsT.find? fun o => Lib.hasPrefix t o.1 with
  | none => simp
  | some o => exact prefix_len (by simpa using List.find?_some h)
theorem Vec.putP {w : World} {b : Nat} {v0 v1 : Value} (h : Vec w b [v0, v1]) (u0 u1 : Value) : Vec ((w.setCell ⟨b, 0, none⟩ u0).setCell ⟨b, 1, none⟩ u1) b [u0, u1] :=
  (h.put 0 (by simp) u0).put 1 (by simp) u1
theorem ext_from (t : List UInt8) (n : Nat) : (⟨t.toArray⟩ : ByteArray).extract n t.length = ⟨(t.drop n).toArray⟩ := by
  have h := ext_bs t n t.length
  rw [List.take_of_length_le (by simp)] at h
  exact h
set_option maxRecDepth 8000 in
set_option maxHeartbeats 2000000 in
theorem critI (k : Int) (n : Bool) (d x : Int) (t : List UInt8) (w : World) (hl : t.length ≤ 2000000) (d1 : -9223372036854775808 ≤ d) (d2 : d ≤ 9223372036854775807) (hT : Tens w) (hE : ErrTab w) (hO : OpTab w) :
    Calls Tryz.prog 29 #[valV k n d x t] w fun e w' => e = .returned (critV k n d x t) ∧ Ext w w' := by
  obtain ⟨R, hR⟩ : ∃ R, critV k n d x t = R := ⟨_, rfl⟩
  have HR0 : Hid (critV k n d x t = R) := hR
  rw [hR]
  clear hR
  have X1 := x1 w (.cells #[.int .i64 k, .bool n, .int .i64 d, .int .i64 x, sV t] 26)
  have B1 := vec_made w (valL k n d x t) 26
  obtain ⟨wa, ha⟩ : ∃ wa, w.alloc (.cells #[.int .i64 k, .bool n, .int .i64 d, .int .i64 x, sV t] 26) = wa := ⟨_, rfl⟩
  have B2 := vec_made wa (valL 0 false 0 0 []) 26
  have X2 := x1 wa (.cells #[.int .i64 0, .bool false, .int .i64 0, .int .i64 0, sV []] 26)
  obtain ⟨wb, hb⟩ : ∃ wb, wa.alloc (.cells #[.int .i64 0, .bool false, .int .i64 0, .int .i64 0, sV []] 26) = wb := ⟨_, rfl⟩
  have sa : wa.heap.size = w.heap.size + 1 := by rw [← ha, World.size_alloc]
  change Vec (w.alloc (.cells #[.int .i64 k, .bool n, .int .i64 d, .int .i64 x, sV t] 26)) _ _ at B1
  change Vec (wa.alloc (.cells #[.int .i64 0, .bool false, .int .i64 0, .int .i64 0, sV []] 26)) _ _ at B2
  rw [ha] at X1 B1
  rw [hb] at X2 B2
  rw [sa] at B2
  have X := xt X1 X2
  have B1 := B1.later X2
  clear X1 X2
  have a0 := (B1 0 _ rfl).1
  have a1 := (B1 1 _ rfl).1
  have a2 := (B1 2 _ rfl).1
  have a3 := (B1 3 _ rfl).1
  have a4 := (B1 4 _ rfl).1
  go_enter Tryz.func29, Tryz.ntmps29
  go_wp2_with fail
  clear ha hb sa a0 a1 a2 a3 a4
  refine (goodVI k n d x t wb hl d1 d2 (hT.later X) (hE.later X)).mono ?_
  rintro e w1 ⟨rfl, e1⟩
  have C1 := B1.later e1
  have C2 := B2.later e1
  have X1 := xt X e1
  have T1 := hT.later X1
  have E1 := hE.later X1
  have O1 := hO.later X1
  clear B1 B2 hO d1 d2
  obtain ⟨g, hg⟩ : ∃ g, goodV k n d x t = g := ⟨_, rfl⟩
  rw [hg]
  cases g
  · have HR : Hid (.tuple #[sV [], valV 0 false 0 0 []] = R) := by show _ = _; rw [← HR0.out]; simp [critV, hg]
    clear hg T1 E1 O1
    have FV := C2
    have FG := FV.put5 (.int .i64 0) (.bool false) (.int .i64 0) (.int .i64 0) (sV [])
    have FX := Ext.setL (b := w.heap.size + 1) (by omega) [.int .i64 0, .bool false, .int .i64 0, .int .i64 0, sV []] 0 (X1)
    obtain ⟨wy, hy⟩ : ∃ wy, setL w1 (w.heap.size + 1) 0 [.int .i64 0, .bool false, .int .i64 0, .int .i64 0, sV []] = wy := ⟨_, rfl⟩
    rw [hy] at FG FX
    have hy : (((((w1.setCell ⟨w.heap.size + 1, 0, none⟩ (.int .i64 0)).setCell ⟨w.heap.size + 1, 1, none⟩ (.bool false)).setCell ⟨w.heap.size + 1, 2, none⟩ (.int .i64 0)).setCell ⟨w.heap.size + 1, 3, none⟩ (.int .i64 0)).setCell ⟨w.heap.size + 1, 4, none⟩ (sV [])) = wy := hy
    have b0 := (FV 0 _ rfl).1
    have b1 := (FV 1 _ rfl).1
    have b2 := (FV 2 _ rfl).1
    have b3 := (FV 3 _ rfl).1
    have b4 := (FV 4 _ rfl).1
    have fb0 := (FV 0 _ rfl).2
    have fb1 := (FV 1 _ rfl).2
    have fb2 := (FV 2 _ rfl).2
    have fb3 := (FV 3 _ rfl).2
    have fb4 := (FV 4 _ rfl).2
    have fd0 := (FG 0 _ rfl).1
    have fd1 := (FG 1 _ rfl).1
    have fd2 := (FG 2 _ rfl).1
    have fd3 := (FG 3 _ rfl).1
    have fd4 := (FG 4 _ rfl).1
    clear FV FG 
    go_wp2_with fail
    all_goals first
      | exact bodyPost_ret (v := .tuple #[sV [], valV 0 false 0 0 []]) (by simp [results, Tryz.results29, go_sem, fd0, fd1, fd2, fd3, fd4]) rfl ⟨congrArg Ending.returned HR.out, FX⟩
      | exact bodyPost_ret (v := .tuple #[sV [], valV 0 false 0 0 []]) (by simp [results, Tryz.results29, go_sem, fd0, fd1, fd2, fd3, fd4]) rfl ⟨congrArg Ending.returned HR.out, xd FX⟩
  · by_cases h2 : k = 2
    · subst h2
      have hle := good_text hg
      have HR2 : Hid (.tuple #[sV (critL t), typedV (critR t)] = R) := by show _ = _; rw [← HR0.out]; simp [critV, hg]
      clear hg
      have a0 := (C1 0 _ rfl).1
      have a1 := (C1 1 _ rfl).1
      have a2 := (C1 2 _ rfl).1
      have a3 := (C1 3 _ rfl).1
      have a4 := (C1 4 _ rfl).1
      go_wp2_with fail
      clear a0 a1 a2 a3 a4
      refine (aheadI t w1 O1).mono ?_
      rintro e w2 ⟨rfl, e2⟩
      have LE := ahead_le t
      have HC : Hid (critL t = (if (aheadO t).2 = 1 then (aheadO t).1 else [61]) ∧ critR t = (if (aheadO t).2 = 1 then t.drop (aheadO t).1.length else t)) := ⟨rfl, rfl⟩
      obtain ⟨o, ho⟩ : ∃ o, aheadO t = o := ⟨_, rfl⟩
      rw [ho] at LE HC ⊢
      clear ho
      obtain ⟨ol, ov⟩ := o
      dsimp only at LE HC ⊢
      have X2 := xt X1 e2
      have BO := vec_made w2 [sV [], .int .i64 0] 106
      have XO := x1 w2 (.cells #[sV [], .int .i64 0] 106)
      obtain ⟨wz, hz⟩ : ∃ wz, w2.alloc (.cells #[sV [], .int .i64 0] 106) = wz := ⟨_, rfl⟩
      change Vec (w2.alloc (.cells #[sV [], .int .i64 0] 106)) _ _ at BO
      rw [hz] at BO XO
      have BP := BO.putP (sV ol) (.int .i64 ov)
      have XP : Ext w2 ((wz.setCell ⟨w2.heap.size, 0, none⟩ (sV ol)).setCell ⟨w2.heap.size, 1, none⟩ (.int .i64 ov)) := xset (xset XO (Nat.le_refl _) _) (Nat.le_refl _) _
      obtain ⟨wq, hq⟩ : ∃ wq, (wz.setCell ⟨w2.heap.size, 0, none⟩ (sV ol)).setCell ⟨w2.heap.size, 1, none⟩ (.int .i64 ov) = wq := ⟨_, rfl⟩
      rw [hq] at BP XP
      have o0 := (BO 0 _ rfl).1
      have o1 := (BO 1 _ rfl).1
      have p0 := (BO 0 _ rfl).2
      have p1 := (BO 1 _ rfl).2
      have lt2 : w.heap.size + 1 < w2.heap.size := World.block_lt_of_cell? _ _ ((C2.later e2) 0 _ rfl).1
      have D1 := (C1.later e2).later XP
      have D2 := (C2.later e2).later XP
      have XQ := xt X2 XP
      have T2 := T1.later (xt e2 XP)
      have E2 := E1.later (xt e2 XP)
      clear C1 C2 T1 E1 O1 X1 X2 BO XO
      have q0 := (BP 0 _ rfl).1
      have q1 := (BP 1 _ rfl).1
      have a0 := (D1 0 _ rfl).1
      have a1 := (D1 1 _ rfl).1
      have a2 := (D1 2 _ rfl).1
      have a3 := (D1 3 _ rfl).1
      have a4 := (D1 4 _ rfl).1
      by_cases hv : ov = 1
      · subst hv
        obtain ⟨k2, n2, d2, x2, t2, hty⟩ := typedV_val (t.drop ol.length)
        have HR : Hid (.tuple #[sV ol, valV k2 n2 d2 x2 t2] = R) := by
          show _ = _
          rw [← HR2.out, HC.out.1, HC.out.2, if_pos rfl, if_pos rfl, hty]
        have HT : Hid (∀ W, Ext w W → Calls Tryz.prog 12 #[.string ((⟨t.toArray⟩ : ByteArray).extract ol.length t.length)] W fun e w' => e = .returned (valV k2 n2 d2 x2 t2) ∧ Ext W w') := fun W hW => by
          rw [ext_from, ← hty]
          exact typedI (t.drop ol.length) W (by simp; omega) (hT.later hW) (hE.later hW)
        clear HR2 HC hty T2 E2 hle hl HR0 e1 e2 hT hE
        go_wp2_with fail
        clear o0 o1 p0 p1 q0 q1 a0 a1 a2 a3 a4 hz hq
        have XQ0 : Ext wq wq := xr _
        refine wp_region_letters (fun lx : Nat → Value => { tmps := #[valV 2 n d x t, Value.pointer (some ⟨w.heap.size, 0, none⟩), lx 2, Value.pointer (some ⟨w.heap.size + 1, 0, none⟩), Value.pointer (some ⟨w2.heap.size, 0, none⟩), valV 2 n d x t, Value.bool true, Value.bool false, undef, Value.pointer (some ⟨w.heap.size, 0, none⟩), Value.int .i64 2, Value.bool false, undef, Value.pointer (some ⟨w.heap.size, 4, none⟩), sV t, opV (ol, 1), Value.pointer (some ⟨w2.heap.size, 1, none⟩), Value.int .i64 1, Value.bool true, lx 19, lx 20, lx 21, lx 22, lx 23, lx 24, lx 25, lx 26, lx 27, undef, undef, undef], defers := [] }) (fun L lx lw => Hid (Ext w lw ∧ Vec lw (w.heap.size) [.int .i64 2, .bool n, .int .i64 d, .int .i64 x, sV t] ∧ Vec lw (w2.heap.size) [sV ol, .int .i64 1] ∧ (L 0 = true → lx 19 = Value.pointer (some ⟨w2.heap.size, 0, none⟩)) ∧ (L 1 = true → lx 20 = sV ol) ∧ (L 2 = true → lx 21 = Value.pointer (some ⟨w.heap.size, 4, none⟩)) ∧ (L 3 = true → lx 22 = sV t) ∧ (L 4 = true → lx 23 = Value.pointer (some ⟨w2.heap.size, 0, none⟩)) ∧ (L 5 = true → lx 24 = sV ol) ∧ (L 6 = true → lx 25 = .int .i64 (ol.length : Int)) ∧ (L 7 = true → lx 26 = .string ((⟨t.toArray⟩ : ByteArray).extract ol.length t.length)) ∧ (L 8 = true → lx 27 = valV k2 n2 d2 x2 t2) ∧ (L 9 = true → lx 2 = sV ol) ∧ (L 10 = false → Vec lw (w.heap.size + 1) [.int .i64 0, .bool false, .int .i64 0, .int .i64 0, sV []]) ∧ (L 10 = true → Vec lw (w.heap.size + 1) [.int .i64 k2, .bool n2, .int .i64 d2, .int .i64 x2, sV t2]))) rfl (by kernel_rfl) (fun jj => if jj = 2 then sV [] else undef) rfl ?_ ?_ ?_
        · exact ⟨xd XQ, D1.later (xd (xr _)), BP.later (xd (xr _)), (fun h => by cases h), (fun h => by cases h), (fun h => by cases h), (fun h => by cases h), (fun h => by cases h), (fun h => by cases h), (fun h => by cases h), (fun h => by cases h), (fun h => by cases h), (fun h => by cases h), fun _ => D2.later (xd (xr _)), (fun h => by cases h)⟩
        · intro L lx wl i o K hK ho hL haf hI
          obtain ⟨X, f0, f1, f2, f3, f4, f5, f6, f7, f8, f9, f10, f11, f12, f13⟩ := hI.out
          match i, ho, hL, haf, hK with
          | 0, ho, hL, haf, hK =>
            simp only [List.getElem?_toArray, List.getElem?_cons_zero, Option.some.injEq] at ho
            subst ho
            (try dsimp only)
            go_wp2_with fail
            exact hK (fun jj => if jj = 19 then Value.pointer (some ⟨w2.heap.size, 0, none⟩) else lx jj) _ ⟨X, f0, f1, (fun _ => rfl), f3, f4, f5, f6, f7, f8, f9, f10, f11, f12, f13⟩
          | 1, ho, hL, haf, hK =>
            simp only [List.getElem?_toArray, List.getElem?_cons_zero, List.getElem?_cons_succ, Option.some.injEq] at ho
            subst ho
            (try dsimp only)
            rw [f2 (haf ⟨0, .data⟩ (by simp) rfl)]
            have a0 := (f1 0 _ rfl).1
            go_wp2_with fail
            exact hK (fun jj => if jj = 20 then sV ol else if jj = 19 then Value.pointer (some ⟨w2.heap.size, 0, none⟩) else lx jj) _ ⟨X, f0, f1, (fun _ => rfl), (fun _ => rfl), f4, f5, f6, f7, f8, f9, f10, f11, f12, f13⟩
          | 2, ho, hL, haf, hK =>
            simp only [List.getElem?_toArray, List.getElem?_cons_zero, List.getElem?_cons_succ, Option.some.injEq] at ho
            subst ho
            (try dsimp only)
            go_wp2_with fail
            exact hK (fun jj => if jj = 21 then Value.pointer (some ⟨w.heap.size, 4, none⟩) else lx jj) _ ⟨X, f0, f1, f2, f3, (fun _ => rfl), f5, f6, f7, f8, f9, f10, f11, f12, f13⟩
          | 3, ho, hL, haf, hK =>
            simp only [List.getElem?_toArray, List.getElem?_cons_zero, List.getElem?_cons_succ, Option.some.injEq] at ho
            subst ho
            (try dsimp only)
            rw [f4 (haf ⟨2, .data⟩ (by simp) rfl)]
            have a4 := (f0 4 _ rfl).1
            go_wp2_with fail
            exact hK (fun jj => if jj = 22 then sV t else if jj = 21 then Value.pointer (some ⟨w.heap.size, 4, none⟩) else lx jj) _ ⟨X, f0, f1, f2, f3, (fun _ => rfl), (fun _ => rfl), f6, f7, f8, f9, f10, f11, f12, f13⟩
          | 4, ho, hL, haf, hK =>
            simp only [List.getElem?_toArray, List.getElem?_cons_zero, List.getElem?_cons_succ, Option.some.injEq] at ho
            subst ho
            (try dsimp only)
            go_wp2_with fail
            exact hK (fun jj => if jj = 23 then Value.pointer (some ⟨w2.heap.size, 0, none⟩) else lx jj) _ ⟨X, f0, f1, f2, f3, f4, f5, (fun _ => rfl), f7, f8, f9, f10, f11, f12, f13⟩
          | 5, ho, hL, haf, hK =>
            simp only [List.getElem?_toArray, List.getElem?_cons_zero, List.getElem?_cons_succ, Option.some.injEq] at ho
            subst ho
            (try dsimp only)
            rw [f6 (haf ⟨4, .data⟩ (by simp) rfl)]
            have a0 := (f1 0 _ rfl).1
            go_wp2_with fail
            exact hK (fun jj => if jj = 24 then sV ol else if jj = 23 then Value.pointer (some ⟨w2.heap.size, 0, none⟩) else lx jj) _ ⟨X, f0, f1, f2, f3, f4, f5, (fun _ => rfl), (fun _ => rfl), f8, f9, f10, f11, f12, f13⟩
          | 6, ho, hL, haf, hK =>
            simp only [List.getElem?_toArray, List.getElem?_cons_zero, List.getElem?_cons_succ, Option.some.injEq] at ho
            subst ho
            (try dsimp only)
            rw [f7 (haf ⟨5, .data⟩ (by simp) rfl)]
            go_wp2_with fail
            exact hK (fun jj => if jj = 25 then .int .i64 (ol.length : Int) else if jj = 24 then sV ol else lx jj) _ ⟨X, f0, f1, f2, f3, f4, f5, f6, (fun _ => rfl), (fun _ => rfl), f9, f10, f11, f12, f13⟩
          | 7, ho, hL, haf, hK =>
            simp only [List.getElem?_toArray, List.getElem?_cons_zero, List.getElem?_cons_succ, Option.some.injEq] at ho
            subst ho
            (try dsimp only)
            rw [f5 (haf ⟨3, .data⟩ (by simp) rfl), f8 (haf ⟨6, .data⟩ (by simp) rfl)]
            have i1 : (0 : Int) ≤ (ol.length : Int) := by omega
            have i2 : (ol.length : Int) ≤ (t.length : Int) := by omega
            have i3 : (⟨t.toArray⟩ : ByteArray).size = t.length := rfl
            go_wp2_with fail
            exact hK (fun jj => if jj = 26 then .string ((⟨t.toArray⟩ : ByteArray).extract ol.length t.length) else if jj = 22 then sV t else if jj = 25 then .int .i64 (ol.length : Int) else lx jj) _ ⟨X, f0, f1, f2, f3, f4, (fun _ => rfl), f6, f7, (fun _ => rfl), (fun _ => rfl), f10, f11, f12, f13⟩
          | 8, ho, hL, haf, hK =>
            simp only [List.getElem?_toArray, List.getElem?_cons_zero, List.getElem?_cons_succ, Option.some.injEq] at ho
            subst ho
            (try dsimp only)
            rw [f9 (haf ⟨7, .data⟩ (by simp) rfl)]
            go_wp2_with fail
            refine (HT.out wl X).mono ?_
            rintro rr w' ⟨rfl, E⟩
            go_wp2_with fail
            exact hK (fun jj => if jj = 27 then valV k2 n2 d2 x2 t2 else if jj = 26 then .string ((⟨t.toArray⟩ : ByteArray).extract ol.length t.length) else lx jj) _ ⟨xt X E, (f0.later E), (f1.later E), f2, f3, f4, f5, f6, f7, f8, (fun _ => rfl), (fun _ => rfl), f11, (fun h => (f12 h).later E), (fun h => (f13 h).later E)⟩
          | 9, ho, hL, haf, hK =>
            simp only [List.getElem?_toArray, List.getElem?_cons_zero, List.getElem?_cons_succ, Option.some.injEq] at ho
            subst ho
            (try dsimp only)
            rw [f3 (haf ⟨1, .data⟩ (by simp) rfl)]
            go_wp2_with fail
            exact hK (fun jj => if jj = 2 then sV ol else if jj = 20 then sV ol else lx jj) _ ⟨X, f0, f1, f2, (fun _ => rfl), f4, f5, f6, f7, f8, f9, f10, (fun _ => rfl), f12, f13⟩
          | 10, ho, hL, haf, hK =>
            simp only [List.getElem?_toArray, List.getElem?_cons_zero, List.getElem?_cons_succ, Option.some.injEq] at ho
            subst ho
            (try dsimp only)
            rw [f10 (haf ⟨8, .data⟩ (by simp) rfl)]
            have bx := f12 hL
            have b0 := (bx 0 _ rfl).1
            have b1 := (bx 1 _ rfl).1
            have b2 := (bx 2 _ rfl).1
            have b3 := (bx 3 _ rfl).1
            have b4 := (bx 4 _ rfl).1
            have fb0 := (bx 0 _ rfl).2
            have fb1 := (bx 1 _ rfl).2
            have fb2 := (bx 2 _ rfl).2
            have fb3 := (bx 3 _ rfl).2
            have fb4 := (bx 4 _ rfl).2
            have hX := Ext.setL (b := w.heap.size + 1) (by omega) [.int .i64 k2, .bool n2, .int .i64 d2, .int .i64 x2, sV t2] 0 X
            have hB := bx.put5 (.int .i64 k2) (.bool n2) (.int .i64 d2) (.int .i64 x2) (sV t2)
            go_wp2_with fail
            exact hK (fun jj => if jj = 27 then valV k2 n2 d2 x2 t2 else lx jj) _ ⟨hX, (Vec.farL (k := w.heap.size + 1) (by omega) [.int .i64 k2, .bool n2, .int .i64 d2, .int .i64 x2, sV t2] 0 f0), (Vec.farL (k := w.heap.size + 1) (by omega) [.int .i64 k2, .bool n2, .int .i64 d2, .int .i64 x2, sV t2] 0 f1), f2, f3, f4, f5, f6, f7, f8, f9, (fun _ => rfl), f11, (fun h => by cases h), (fun _ => hB)⟩
          | k + 11, ho, _, _, _ => simp at ho
        · intro L lx wr hall hI
          obtain ⟨XR, f0, f1, f2, f3, f4, f5, f6, f7, f8, f9, f10, f11, f12, f13⟩ := hI.out
          clear hI
          have G0 := f0
          have G1 := f1
          replace f2 := f2 (hall 0 (by simp))
          replace f3 := f3 (hall 1 (by simp))
          replace f4 := f4 (hall 2 (by simp))
          replace f5 := f5 (hall 3 (by simp))
          replace f6 := f6 (hall 4 (by simp))
          replace f7 := f7 (hall 5 (by simp))
          replace f8 := f8 (hall 6 (by simp))
          replace f9 := f9 (hall 7 (by simp))
          replace f10 := f10 (hall 8 (by simp))
          replace f11 := f11 (hall 9 (by simp))
          have BR := f13 (hall 10 (by simp))
          (try dsimp only)
          rw [f2, f3, f4, f5, f6, f7, f8, f9, f10, f11]
          clear hall f0 f1 f2 f3 f4 f5 f6 f7 f8 f9 f10 f11 f12 f13
          have fd0 := (BR 0 _ rfl).1
          have fd1 := (BR 1 _ rfl).1
          have fd2 := (BR 2 _ rfl).1
          have fd3 := (BR 3 _ rfl).1
          have fd4 := (BR 4 _ rfl).1
          clear BR D1 D2 BP
          go_wp2_with fail
          exact bodyPost_ret (v := .tuple #[sV ol, valV k2 n2 d2 x2 t2]) (by simp [results, Tryz.results29, go_sem, fd0, fd1, fd2, fd3, fd4]) rfl ⟨congrArg Ending.returned HR.out, XR⟩
      · obtain ⟨k2, n2, d2, x2, t2, hty⟩ := typedV_val t
        have hvb : (ov == 1) = false := by simpa using hv
        have HR : Hid (.tuple #[sV [61], valV k2 n2 d2 x2 t2] = R) := by
          show _ = _
          rw [← HR2.out, HC.out.1, HC.out.2, if_neg hv, if_neg hv, hty]
        go_wp2_with fail
        clear o0 o1 p0 p1 q0 q1 a0 a1 a2 a3 a4 hz hq
        refine (typedI t wq (by omega) T2 E2).mono ?_
        rintro e w4 ⟨rfl, e4⟩
        rw [hty]
        have FV := D2.later e4
        have FG := FV.put5 (.int .i64 k2) (.bool n2) (.int .i64 d2) (.int .i64 x2) (sV t2)
        have FX := Ext.setL (b := w.heap.size + 1) (by omega) [.int .i64 k2, .bool n2, .int .i64 d2, .int .i64 x2, sV t2] 0 (xt XQ e4)
        obtain ⟨wy, hy⟩ : ∃ wy, setL w4 (w.heap.size + 1) 0 [.int .i64 k2, .bool n2, .int .i64 d2, .int .i64 x2, sV t2] = wy := ⟨_, rfl⟩
        rw [hy] at FG FX
        have hy : (((((w4.setCell ⟨w.heap.size + 1, 0, none⟩ (.int .i64 k2)).setCell ⟨w.heap.size + 1, 1, none⟩ (.bool n2)).setCell ⟨w.heap.size + 1, 2, none⟩ (.int .i64 d2)).setCell ⟨w.heap.size + 1, 3, none⟩ (.int .i64 x2)).setCell ⟨w.heap.size + 1, 4, none⟩ (sV t2)) = wy := hy
        have b0 := (FV 0 _ rfl).1
        have b1 := (FV 1 _ rfl).1
        have b2 := (FV 2 _ rfl).1
        have b3 := (FV 3 _ rfl).1
        have b4 := (FV 4 _ rfl).1
        have fb0 := (FV 0 _ rfl).2
        have fb1 := (FV 1 _ rfl).2
        have fb2 := (FV 2 _ rfl).2
        have fb3 := (FV 3 _ rfl).2
        have fb4 := (FV 4 _ rfl).2
        have fd0 := (FG 0 _ rfl).1
        have fd1 := (FG 1 _ rfl).1
        have fd2 := (FG 2 _ rfl).1
        have fd3 := (FG 3 _ rfl).1
        have fd4 := (FG 4 _ rfl).1
        clear FV FG HC HR2 hty
        go_wp2_with fail
        all_goals first
          | exact bodyPost_ret (v := .tuple #[sV [61], valV k2 n2 d2 x2 t2]) (by simp [results, Tryz.results29, go_sem, fd0, fd1, fd2, fd3, fd4]) rfl ⟨congrArg Ending.returned HR.out, FX⟩
          | exact bodyPost_ret (v := .tuple #[sV [61], valV k2 n2 d2 x2 t2]) (by simp [results, Tryz.results29, go_sem, fd0, fd1, fd2, fd3, fd4]) rfl ⟨congrArg Ending.returned HR.out, xd FX⟩
    · have HR : Hid (.tuple #[sV [61], valV k n d x t] = R) := by show _ = _; rw [← HR0.out]; simp [critV, hg, h2]
      have hkb : (k != 2) = true := by simpa using h2
      clear hg T1 E1 O1
      have a0 := (C1 0 _ rfl).1
      have a1 := (C1 1 _ rfl).1
      have a2 := (C1 2 _ rfl).1
      have a3 := (C1 3 _ rfl).1
      have a4 := (C1 4 _ rfl).1
      go_wp2_with fail
      clear a0 a1 a2 a3 a4
      refine wp_region_letters (fun lx : Nat → Value => { tmps := #[valV k n d x t, Value.pointer (some ⟨w.heap.size, 0, none⟩), lx 2, Value.pointer (some ⟨w.heap.size + 1, 0, none⟩), undef, valV k n d x t, Value.bool true, Value.bool false, undef, Value.pointer (some ⟨w.heap.size, 0, none⟩), Value.int .i64 k, Value.bool true, lx 12, undef, undef, undef, undef, undef, undef, undef, undef, undef, undef, undef, undef, undef, undef, undef, undef, undef, undef], defers := [] }) (fun L lx lw => Hid (Ext w lw ∧ Vec lw (w.heap.size) [.int .i64 k, .bool n, .int .i64 d, .int .i64 x, sV t] ∧ (L 0 = true → lx 12 = valV k n d x t) ∧ (L 1 = true → lx 2 = sV [61]) ∧ (L 2 = false → Vec lw (w.heap.size + 1) [.int .i64 0, .bool false, .int .i64 0, .int .i64 0, sV []]) ∧ (L 2 = true → Vec lw (w.heap.size + 1) [.int .i64 k, .bool n, .int .i64 d, .int .i64 x, sV t]))) rfl (by kernel_rfl) (fun jj => if jj = 2 then sV [] else undef) rfl ?_ ?_ ?_
      · exact ⟨xd X1, C1.later (xd (xr _)), (fun h => by cases h), (fun h => by cases h), fun _ => C2.later (xd (xr _)), (fun h => by cases h)⟩
      · intro L lx wl i o K hK ho hL haf hI
        obtain ⟨X, f0, f1, f2, f3, f4⟩ := hI.out
        match i, ho, hL, haf, hK with
        | 0, ho, hL, haf, hK =>
          simp only [List.getElem?_toArray, List.getElem?_cons_zero, Option.some.injEq] at ho
          subst ho
          (try dsimp only)
          have a0 := (f0 0 _ rfl).1
          have a1 := (f0 1 _ rfl).1
          have a2 := (f0 2 _ rfl).1
          have a3 := (f0 3 _ rfl).1
          have a4 := (f0 4 _ rfl).1
          go_wp2_with fail
          exact hK (fun jj => if jj = 12 then valV k n d x t else lx jj) _ ⟨X, f0, (fun _ => rfl), f2, f3, f4⟩
        | 1, ho, hL, haf, hK =>
          simp only [List.getElem?_toArray, List.getElem?_cons_zero, List.getElem?_cons_succ, Option.some.injEq] at ho
          subst ho
          (try dsimp only)
          go_wp2_with fail
          exact hK (fun jj => if jj = 2 then sV [61] else lx jj) _ ⟨X, f0, f1, (fun _ => rfl), f3, f4⟩
        | 2, ho, hL, haf, hK =>
          simp only [List.getElem?_toArray, List.getElem?_cons_zero, List.getElem?_cons_succ, Option.some.injEq] at ho
          subst ho
          (try dsimp only)
          rw [f1 (haf ⟨0, .data⟩ (by simp) rfl)]
          have bx := f3 hL
          have b0 := (bx 0 _ rfl).1
          have b1 := (bx 1 _ rfl).1
          have b2 := (bx 2 _ rfl).1
          have b3 := (bx 3 _ rfl).1
          have b4 := (bx 4 _ rfl).1
          have fb0 := (bx 0 _ rfl).2
          have fb1 := (bx 1 _ rfl).2
          have fb2 := (bx 2 _ rfl).2
          have fb3 := (bx 3 _ rfl).2
          have fb4 := (bx 4 _ rfl).2
          have hX := Ext.setL (b := w.heap.size + 1) (by omega) [.int .i64 k, .bool n, .int .i64 d, .int .i64 x, sV t] 0 X
          have hB := bx.put5 (.int .i64 k) (.bool n) (.int .i64 d) (.int .i64 x) (sV t)
          go_wp2_with fail
          exact hK (fun jj => if jj = 12 then valV k n d x t else lx jj) _ ⟨hX, (Vec.farL (k := w.heap.size + 1) (by omega) [.int .i64 k, .bool n, .int .i64 d, .int .i64 x, sV t] 0 f0), (fun _ => rfl), f2, (fun h => by cases h), (fun _ => hB)⟩
        | k + 3, ho, _, _, _ => simp at ho
      · intro L lx wr hall hI
        obtain ⟨XR, f0, f1, f2, f3, f4⟩ := hI.out
        clear hI
        have G0 := f0
        replace f1 := f1 (hall 0 (by simp))
        replace f2 := f2 (hall 1 (by simp))
        have BR := f4 (hall 2 (by simp))
        (try dsimp only)
        rw [f1, f2]
        clear hall f0 f1 f2 f3 f4
        have fd0 := (BR 0 _ rfl).1
        have fd1 := (BR 1 _ rfl).1
        have fd2 := (BR 2 _ rfl).1
        have fd3 := (BR 3 _ rfl).1
        have fd4 := (BR 4 _ rfl).1
        clear BR C1 C2
        go_wp2_with fail
        exact bodyPost_ret (v := .tuple #[sV [61], valV k n d x t]) (by simp [results, Tryz.results29, go_sem, fd0, fd1, fd2, fd3, fd4]) rfl ⟨congrArg Ending.returned HR.out, XR⟩

end Go.Proofs.YtkadkfmidlhedaaGreatDoor

namespace Go.Proofs.YtkadkfmidlhedaaGreatDoor
open Go.RowKit

def sixL : List (List UInt8) := [[60, 62], [60, 61], [62, 61], [61], [60], [62]]
theorem pre2 {t : List UInt8} {a b c e : UInt8} (h : Lib.hasPrefix t [a, b] = true) (hn : a ≠ c ∨ b ≠ e) : Lib.hasPrefix t [c, e] = false := by
  match t with
  | [] => rfl
  | [x] => simp [Lib.hasPrefix, List.isPrefixOf] at h
  | x :: y :: r =>
    simp [Lib.hasPrefix, List.isPrefixOf] at h ⊢
    obtain ⟨rfl, rfl⟩ := h
    intro h1
    rcases hn with hn | hn
    · exact absurd h1.symm hn
    · exact fun h2 => hn h2.symm
theorem pre1 {t : List UInt8} {a c : UInt8} (h : Lib.hasPrefix t [a] = true) (hn : a ≠ c) : Lib.hasPrefix t [c] = false := by
  match t with
  | [] => rfl
  | x :: r =>
    simp [Lib.hasPrefix, List.isPrefixOf] at h ⊢
    subst h
    exact fun h1 => hn h1.symm
theorem crit_of {t p : List UInt8} (h : aheadO t = (p, 1)) : critL t = p ∧ critR t = t.drop p.length := by
  unfold critL critR
  rw [h]
  exact ⟨rfl, rfl⟩
theorem six_yes {t p : List UInt8} {k : Nat} (hk : sixL[k]? = some p) (hp : Lib.hasPrefix t p = true) (hn : ∀ (j : Nat) q, j < k → sixL[j]? = some q → Lib.hasPrefix t q = false) : critL t = p ∧ critR t = t.drop p.length := by
  have hk6 : k < 6 := (List.getElem?_eq_some_iff.1 hk).1
  apply crit_of
  match k, hk6, hk, hn with
  | 0, _, hk, hn =>
    cases hk
    refine find_at (k := 2) rfl hp fun j o hj ho => ?_
    match j, hj, ho with
    | 0, _, ho => cases ho; exact pre2 hp (Or.inr (by decide))
    | 1, _, ho => cases ho; exact pre2 hp (Or.inl (by decide))
  | 1, _, hk, hn =>
    cases hk
    exact find_at (k := 0) rfl hp fun j o hj ho => absurd hj (Nat.not_lt_zero _)
  | 2, _, hk, hn =>
    cases hk
    refine find_at (k := 1) rfl hp fun j o hj ho => ?_
    match j, hj, ho with
    | 0, _, ho => cases ho; exact pre2 hp (Or.inl (by decide))
  | 3, _, hk, hn =>
    cases hk
    refine find_at (k := 5) rfl hp fun j o hj ho => ?_
    match j, hj, ho with
    | 0, _, ho => cases ho; exact hn 1 _ (by omega) rfl
    | 1, _, ho => cases ho; exact hn 2 _ (by omega) rfl
    | 2, _, ho => cases ho; exact hn 0 _ (by omega) rfl
    | 3, _, ho => cases ho; exact pre1 hp (by decide)
    | 4, _, ho => cases ho; exact pre1 hp (by decide)
  | 4, _, hk, hn =>
    cases hk
    refine find_at (k := 3) rfl hp fun j o hj ho => ?_
    match j, hj, ho with
    | 0, _, ho => cases ho; exact hn 1 _ (by omega) rfl
    | 1, _, ho => cases ho; exact hn 2 _ (by omega) rfl
    | 2, _, ho => cases ho; exact hn 0 _ (by omega) rfl
  | 5, _, hk, hn =>
    cases hk
    refine find_at (k := 4) rfl hp fun j o hj ho => ?_
    match j, hj, ho with
    | 0, _, ho => cases ho; exact hn 1 _ (by omega) rfl
    | 1, _, ho => cases ho; exact hn 2 _ (by omega) rfl
    | 2, _, ho => cases ho; exact hn 0 _ (by omega) rfl
    | 3, _, ho => cases ho; exact hn 4 _ (by omega) rfl
theorem six_no {t : List UInt8} (hn : ∀ (j : Nat) q, sixL[j]? = some q → Lib.hasPrefix t q = false) : critL t = [61] ∧ critR t = t := by
  have h : (aheadO t).2 ≠ 1 := by
    unfold aheadO
    cases h : opsT.find? fun o => Lib.hasPrefix t o.1 with
    | none => decide
    | some o =>
      have hm := List.mem_of_find?_eq_some h
      have hp : Lib.hasPrefix t o.1 = true := by simpa using List.find?_some h
      simp only [opsT, List.mem_cons, List.not_mem_nil, or_false] at hm
      rcases hm with rfl | rfl | rfl | rfl | rfl | rfl | rfl | rfl | rfl | rfl | rfl | rfl
      · rw [hn 1 _ rfl] at hp; cases hp
      · rw [hn 2 _ rfl] at hp; cases hp
      · rw [hn 0 _ rfl] at hp; cases hp
      · rw [hn 4 _ rfl] at hp; cases hp
      · rw [hn 5 _ rfl] at hp; cases hp
      · rw [hn 3 _ rfl] at hp; cases hp
      all_goals decide
  unfold critL critR
  rw [if_neg h, if_neg h]
  exact ⟨rfl, rfl⟩
set_option maxRecDepth 8000 in
set_option maxHeartbeats 2000000 in
theorem critS (k : Int) (n : Bool) (d x : Int) (t : List UInt8) (w : World) (hl : t.length ≤ 2000000) :
    Calls Tryz.prog 28 #[valV k n d x t] w fun e w' => e = .returned (critV k n d x t) ∧ Ext w w' := by
  obtain ⟨R, hR⟩ : ∃ R, critV k n d x t = R := ⟨_, rfl⟩
  have HR0 : Hid (critV k n d x t = R) := hR
  rw [hR]
  clear hR
  have X1 := x1 w (.cells #[.int .i64 k, .bool n, .int .i64 d, .int .i64 x, sV t] 26)
  have B1 := vec_made w (valL k n d x t) 26
  obtain ⟨wa, ha⟩ : ∃ wa, w.alloc (.cells #[.int .i64 k, .bool n, .int .i64 d, .int .i64 x, sV t] 26) = wa := ⟨_, rfl⟩
  have B2 := vec_made wa (valL 0 false 0 0 []) 26
  have X2 := x1 wa (.cells #[.int .i64 0, .bool false, .int .i64 0, .int .i64 0, sV []] 26)
  obtain ⟨wb, hb⟩ : ∃ wb, wa.alloc (.cells #[.int .i64 0, .bool false, .int .i64 0, .int .i64 0, sV []] 26) = wb := ⟨_, rfl⟩
  have sa : wa.heap.size = w.heap.size + 1 := by rw [← ha, World.size_alloc]
  change Vec (w.alloc (.cells #[.int .i64 k, .bool n, .int .i64 d, .int .i64 x, sV t] 26)) _ _ at B1
  change Vec (wa.alloc (.cells #[.int .i64 0, .bool false, .int .i64 0, .int .i64 0, sV []] 26)) _ _ at B2
  rw [ha] at X1 B1
  rw [hb] at X2 B2
  rw [sa] at B2
  have X := xt X1 X2
  have B1 := B1.later X2
  clear X1 X2
  have a0 := (B1 0 _ rfl).1
  have a1 := (B1 1 _ rfl).1
  have a2 := (B1 2 _ rfl).1
  have a3 := (B1 3 _ rfl).1
  have a4 := (B1 4 _ rfl).1
  go_enter Tryz.func28, Tryz.ntmps28
  go_wp2_with fail
  clear ha hb sa a0 a1 a2 a3 a4
  refine (goodVS k n d x t wb hl).mono ?_
  rintro e w1 ⟨rfl, e1⟩
  have C1 := B1.later e1
  have C2 := B2.later e1
  have X1 := xt X e1
  clear B1 B2
  obtain ⟨g, hg⟩ : ∃ g, goodV k n d x t = g := ⟨_, rfl⟩
  rw [hg]
  cases g
  · have HR : Hid (.tuple #[sV [], valV 0 false 0 0 []] = R) := by show _ = _; rw [← HR0.out]; simp [critV, hg]
    clear hg
    have FV := C2
    have FG := FV.put5 (.int .i64 0) (.bool false) (.int .i64 0) (.int .i64 0) (sV [])
    have FX := Ext.setL (b := w.heap.size + 1) (by omega) [.int .i64 0, .bool false, .int .i64 0, .int .i64 0, sV []] 0 (X1)
    obtain ⟨wy, hy⟩ : ∃ wy, setL w1 (w.heap.size + 1) 0 [.int .i64 0, .bool false, .int .i64 0, .int .i64 0, sV []] = wy := ⟨_, rfl⟩
    rw [hy] at FG FX
    have hy : (((((w1.setCell ⟨w.heap.size + 1, 0, none⟩ (.int .i64 0)).setCell ⟨w.heap.size + 1, 1, none⟩ (.bool false)).setCell ⟨w.heap.size + 1, 2, none⟩ (.int .i64 0)).setCell ⟨w.heap.size + 1, 3, none⟩ (.int .i64 0)).setCell ⟨w.heap.size + 1, 4, none⟩ (sV [])) = wy := hy
    have b0 := (FV 0 _ rfl).1
    have b1 := (FV 1 _ rfl).1
    have b2 := (FV 2 _ rfl).1
    have b3 := (FV 3 _ rfl).1
    have b4 := (FV 4 _ rfl).1
    have fb0 := (FV 0 _ rfl).2
    have fb1 := (FV 1 _ rfl).2
    have fb2 := (FV 2 _ rfl).2
    have fb3 := (FV 3 _ rfl).2
    have fb4 := (FV 4 _ rfl).2
    have fd0 := (FG 0 _ rfl).1
    have fd1 := (FG 1 _ rfl).1
    have fd2 := (FG 2 _ rfl).1
    have fd3 := (FG 3 _ rfl).1
    have fd4 := (FG 4 _ rfl).1
    clear FV FG 
    go_wp2_with fail
    all_goals first
      | exact bodyPost_ret (v := .tuple #[sV [], valV 0 false 0 0 []]) (by simp [results, Tryz.results28, go_sem, fd0, fd1, fd2, fd3, fd4]) rfl ⟨congrArg Ending.returned HR.out, FX⟩
      | exact bodyPost_ret (v := .tuple #[sV [], valV 0 false 0 0 []]) (by simp [results, Tryz.results28, go_sem, fd0, fd1, fd2, fd3, fd4]) rfl ⟨congrArg Ending.returned HR.out, xd FX⟩
  · by_cases h2 : k = 2
    · subst h2
      have hle := good_text hg
      have HR2 : Hid (.tuple #[sV (critL t), typedV (critR t)] = R) := by show _ = _; rw [← HR0.out]; simp [critV, hg]
      clear hg HR0
      have g0 := (C1 0 _ rfl).1
      have BS := vec_made w1 (sixL.map sV) 9
      have XS := x1 w1 (.cells #[sV [60, 62], sV [60, 61], sV [62, 61], sV [61], sV [60], sV [62]] 9)
      obtain ⟨ws, hs⟩ : ∃ ws, w1.alloc (.cells #[sV [60, 62], sV [60, 61], sV [62, 61], sV [61], sV [60], sV [62]] 9) = ws := ⟨_, rfl⟩
      change Vec (w1.alloc (.cells #[sV [60, 62], sV [60, 61], sV [62, 61], sV [61], sV [60], sV [62]] 9)) _ _ at BS
      rw [hs] at BS XS
      have D1 := C1.later XS
      have D2 := C2.later XS
      have X2 := xt X1 XS
      clear C1 C2 X1 XS
      have a0 := (D1 0 _ rfl).1
      have a1 := (D1 1 _ rfl).1
      have a2 := (D1 2 _ rfl).1
      have a3 := (D1 3 _ rfl).1
      have a4 := (D1 4 _ rfl).1
      have HV : Hid (Vec ws w1.heap.size (sixL.map sV)) := BS
      clear BS
      have hz : (⟨t.toArray⟩ : ByteArray).size = t.length := rfl
      obtain ⟨N, hN⟩ : ∃ N, t.length = N := ⟨_, rfl⟩
      have HN : Hid (t.length = N) := hN
      rw [hN] at hz hle
      clear hN hl
      go_wp2_with fail
      clear hs g0
      go_loop [16] (fun i => ∃ j : Nat, j ≤ 6 ∧ i = .int .i64 j ∧ Hid (∀ (jj : Nat) q, jj < j → sixL[jj]? = some q → Lib.hasPrefix t q = false)) (fun i => 6 - (intOf i).toNat)
      case atStart => exact ⟨0, by omega, rfl, fun j q hj => by omega⟩
      case round =>
        obtain ⟨j, hj, rfl, HA⟩ := hrel
        by_cases hlt : j < 6
        · obtain ⟨q, hq⟩ : ∃ q, sixL[j]? = some q := ⟨_, List.getElem?_eq_getElem hlt⟩
          have c0 := (HV.out j (sV q) (by rw [List.getElem?_map, hq]; rfl)).1
          have i2 : (j : Int) < 6 := by omega
          have i3 : (0 : Int) ≤ (j : Int) := by omega
          obtain ⟨p, hp⟩ : ∃ p, Lib.hasPrefix t q = p := ⟨_, rfl⟩
          have HNo : Hid (p = false → ∀ (jj : Nat) q, jj < j + 1 → sixL[jj]? = some q → Lib.hasPrefix t q = false) := fun h jj q2 hj2 h2 => by
            rcases Nat.lt_or_ge jj j with hjk | hjk
            · exact HA.out jj q2 hjk h2
            · obtain rfl : jj = j := by omega
              rw [hq] at h2
              cases h2
              exact hp.trans h
          have HYes : Hid (p = true → critL t = q ∧ critR t = t.drop q.length) := fun h => six_yes hq (hp.trans h) HA.out
          rw [prefix_iff] at hp
          have EX := ext_bs t 0 q.length
          rw [Nat.sub_zero, List.drop_zero] at EX
          have hqz : (⟨q.toArray⟩ : ByteArray).size = q.length := rfl
          have HE : Hid ((⟨t.toArray⟩ : ByteArray).extract q.length t.length = ⟨(t.drop q.length).toArray⟩) := ext_from t q.length
          obtain ⟨b, hb2⟩ : ∃ b, (t.take q.length == q) = b := ⟨_, rfl⟩
          change (⟨t.toArray⟩ : ByteArray).extract 0 q.length = ⟨(t.take q.length).toArray⟩ at EX
          have HB := hb2
          obtain ⟨tt, htt⟩ : ∃ xx, t.take q.length = xx := ⟨_, rfl⟩
          rw [htt] at EX HB hb2 hp
          obtain ⟨M, hM⟩ : ∃ M, q.length = M := ⟨_, rfl⟩
          rw [hM] at EX hqz HYes HE hp
          rw [hb2] at hp
          rw [HN.out] at hp HE
          clear hM hb2 htt HA hq
          by_cases hML : M ≤ N
          · have i4 : (M : Int) ≤ (N : Int) := by omega
            have i5 : (0 : Int) ≤ (M : Int) := by omega
            rw [decide_eq_true hML, Bool.true_and] at hp
            subst hp
            cases b
            · have HA2 := HNo.out rfl
              have HA3 : Hid (∀ (jj : Nat) q, jj < j + 1 → sixL[jj]? = some q → Lib.hasPrefix t q = false) := HA2
              clear HNo HYes HA2 HE
              go_wp2_with fail
              go_round
              case rel => exact ⟨j + 1, by omega, by go_num, HA3⟩
              case measure => simp [intOf]; omega
            · have hy1 := HYes.out rfl
              obtain ⟨k2, n2, d2, x2, t2, hty⟩ := typedV_val (t.drop M)
              have HR : Hid (.tuple #[sV q, valV k2 n2 d2 x2 t2] = R) := by
                show _ = _
                rw [← HR2.out, hy1.1, hy1.2, hty]
              have HT : Hid (∀ W, Calls Tryz.prog 78 #[.string ((⟨t.toArray⟩ : ByteArray).extract M N)] W fun e w' => e = .returned (valV k2 n2 d2 x2 t2) ∧ Ext W w') := fun W => by
                rw [HE.out, ← hty]
                exact typedS (t.drop M) W (by simp [HN.out]; omega)
              clear HNo HYes hy1 hty HE
              go_wp2_with fail
              clear a0 a1 a2 a3 a4 c0 EX HB
              refine (HT.out ws).mono ?_
              rintro e w4 ⟨rfl, e4⟩
              have FV := D2.later e4
              have FG := FV.put5 (.int .i64 k2) (.bool n2) (.int .i64 d2) (.int .i64 x2) (sV t2)
              have FX := Ext.setL (b := w.heap.size + 1) (by omega) [.int .i64 k2, .bool n2, .int .i64 d2, .int .i64 x2, sV t2] 0 (xt X2 e4)
              obtain ⟨wy, hy⟩ : ∃ wy, setL w4 (w.heap.size + 1) 0 [.int .i64 k2, .bool n2, .int .i64 d2, .int .i64 x2, sV t2] = wy := ⟨_, rfl⟩
              rw [hy] at FG FX
              have hy : (((((w4.setCell ⟨w.heap.size + 1, 0, none⟩ (.int .i64 k2)).setCell ⟨w.heap.size + 1, 1, none⟩ (.bool n2)).setCell ⟨w.heap.size + 1, 2, none⟩ (.int .i64 d2)).setCell ⟨w.heap.size + 1, 3, none⟩ (.int .i64 x2)).setCell ⟨w.heap.size + 1, 4, none⟩ (sV t2)) = wy := hy
              have b0 := (FV 0 _ rfl).1
              have b1 := (FV 1 _ rfl).1
              have b2 := (FV 2 _ rfl).1
              have b3 := (FV 3 _ rfl).1
              have b4 := (FV 4 _ rfl).1
              have fb0 := (FV 0 _ rfl).2
              have fb1 := (FV 1 _ rfl).2
              have fb2 := (FV 2 _ rfl).2
              have fb3 := (FV 3 _ rfl).2
              have fb4 := (FV 4 _ rfl).2
              have fd0 := (FG 0 _ rfl).1
              have fd1 := (FG 1 _ rfl).1
              have fd2 := (FG 2 _ rfl).1
              have fd3 := (FG 3 _ rfl).1
              have fd4 := (FG 4 _ rfl).1
              clear FV FG 
              go_wp2_with fail
              all_goals first
                | exact bodyPost_ret (v := .tuple #[sV q, valV k2 n2 d2 x2 t2]) (by simp [results, Tryz.results28, go_sem, fd0, fd1, fd2, fd3, fd4]) rfl ⟨congrArg Ending.returned HR.out, FX⟩
                | exact bodyPost_ret (v := .tuple #[sV q, valV k2 n2 d2 x2 t2]) (by simp [results, Tryz.results28, go_sem, fd0, fd1, fd2, fd3, fd4]) rfl ⟨congrArg Ending.returned HR.out, xd FX⟩
          · have i4 : (N : Int) < (M : Int) := by omega
            rw [decide_eq_false hML, Bool.false_and] at hp
            subst hp
            have HA2 := HNo.out rfl
            have HA3 : Hid (∀ (jj : Nat) q, jj < j + 1 → sixL[jj]? = some q → Lib.hasPrefix t q = false) := HA2
            clear HNo HYes HA2 HE EX HB
            go_wp2_with fail
            go_round
            case rel => exact ⟨j + 1, by omega, by go_num, HA3⟩
            case measure => simp [intOf]; omega
        · obtain rfl : j = 6 := by omega
          have hy1 := six_no (t := t) (fun jj q h => HA.out jj q (List.getElem?_eq_some_iff.1 h).1 h)
          obtain ⟨k2, n2, d2, x2, t2, hty⟩ := typedV_val t
          have HR : Hid (.tuple #[sV [61], valV k2 n2 d2 x2 t2] = R) := by
            show _ = _
            rw [← HR2.out, hy1.1, hy1.2, hty]
          clear HA hy1
          go_wp2_with fail
          clear a0 a1 a2 a3 a4
          refine (typedS t ws (by rw [HN.out]; omega)).mono ?_
          rintro e w4 ⟨rfl, e4⟩
          rw [hty]
          have FV := D2.later e4
          have FG := FV.put5 (.int .i64 k2) (.bool n2) (.int .i64 d2) (.int .i64 x2) (sV t2)
          have FX := Ext.setL (b := w.heap.size + 1) (by omega) [.int .i64 k2, .bool n2, .int .i64 d2, .int .i64 x2, sV t2] 0 (xt X2 e4)
          obtain ⟨wy, hy⟩ : ∃ wy, setL w4 (w.heap.size + 1) 0 [.int .i64 k2, .bool n2, .int .i64 d2, .int .i64 x2, sV t2] = wy := ⟨_, rfl⟩
          rw [hy] at FG FX
          have hy : (((((w4.setCell ⟨w.heap.size + 1, 0, none⟩ (.int .i64 k2)).setCell ⟨w.heap.size + 1, 1, none⟩ (.bool n2)).setCell ⟨w.heap.size + 1, 2, none⟩ (.int .i64 d2)).setCell ⟨w.heap.size + 1, 3, none⟩ (.int .i64 x2)).setCell ⟨w.heap.size + 1, 4, none⟩ (sV t2)) = wy := hy
          have b0 := (FV 0 _ rfl).1
          have b1 := (FV 1 _ rfl).1
          have b2 := (FV 2 _ rfl).1
          have b3 := (FV 3 _ rfl).1
          have b4 := (FV 4 _ rfl).1
          have fb0 := (FV 0 _ rfl).2
          have fb1 := (FV 1 _ rfl).2
          have fb2 := (FV 2 _ rfl).2
          have fb3 := (FV 3 _ rfl).2
          have fb4 := (FV 4 _ rfl).2
          have fd0 := (FG 0 _ rfl).1
          have fd1 := (FG 1 _ rfl).1
          have fd2 := (FG 2 _ rfl).1
          have fd3 := (FG 3 _ rfl).1
          have fd4 := (FG 4 _ rfl).1
          clear FV FG hty
          go_wp2_with fail
          all_goals first
            | exact bodyPost_ret (v := .tuple #[sV [61], valV k2 n2 d2 x2 t2]) (by simp [results, Tryz.results28, go_sem, fd0, fd1, fd2, fd3, fd4]) rfl ⟨congrArg Ending.returned HR.out, FX⟩
            | exact bodyPost_ret (v := .tuple #[sV [61], valV k2 n2 d2 x2 t2]) (by simp [results, Tryz.results28, go_sem, fd0, fd1, fd2, fd3, fd4]) rfl ⟨congrArg Ending.returned HR.out, xd FX⟩
    · have HR : Hid (.tuple #[sV [61], valV k n d x t] = R) := by show _ = _; rw [← HR0.out]; simp [critV, hg, h2]
      have hkb : (k != 2) = true := by simpa using h2
      clear hg
      have a0 := (C1 0 _ rfl).1
      have a1 := (C1 1 _ rfl).1
      have a2 := (C1 2 _ rfl).1
      have a3 := (C1 3 _ rfl).1
      have a4 := (C1 4 _ rfl).1
      go_wp2_with fail
      clear a0 a1 a2 a3 a4
      refine wp_region_letters (fun lx : Nat → Value => { tmps := #[valV k n d x t, Value.pointer (some ⟨w.heap.size, 0, none⟩), lx 2, Value.pointer (some ⟨w.heap.size + 1, 0, none⟩), undef, undef, valV k n d x t, Value.bool true, Value.bool false, undef, Value.pointer (some ⟨w.heap.size, 0, none⟩), Value.int .i64 k, Value.bool true, lx 13, undef, undef, undef, undef, undef, undef, undef, undef, undef, undef, undef, undef, undef, undef, undef, undef, undef, undef, undef, undef, undef, undef, undef, undef, undef, undef, undef, undef, undef, undef, undef, undef], defers := [] }) (fun L lx lw => Hid (Ext w lw ∧ Vec lw (w.heap.size) [.int .i64 k, .bool n, .int .i64 d, .int .i64 x, sV t] ∧ (L 0 = true → lx 13 = valV k n d x t) ∧ (L 1 = true → lx 2 = sV [61]) ∧ (L 2 = false → Vec lw (w.heap.size + 1) [.int .i64 0, .bool false, .int .i64 0, .int .i64 0, sV []]) ∧ (L 2 = true → Vec lw (w.heap.size + 1) [.int .i64 k, .bool n, .int .i64 d, .int .i64 x, sV t]))) rfl (by kernel_rfl) (fun jj => if jj = 2 then sV [] else undef) rfl ?_ ?_ ?_
      · exact ⟨xd X1, C1.later (xd (xr _)), (fun h => by cases h), (fun h => by cases h), fun _ => C2.later (xd (xr _)), (fun h => by cases h)⟩
      · intro L lx wl i o K hK ho hL haf hI
        obtain ⟨X, f0, f1, f2, f3, f4⟩ := hI.out
        match i, ho, hL, haf, hK with
        | 0, ho, hL, haf, hK =>
          simp only [List.getElem?_toArray, List.getElem?_cons_zero, Option.some.injEq] at ho
          subst ho
          (try dsimp only)
          have a0 := (f0 0 _ rfl).1
          have a1 := (f0 1 _ rfl).1
          have a2 := (f0 2 _ rfl).1
          have a3 := (f0 3 _ rfl).1
          have a4 := (f0 4 _ rfl).1
          go_wp2_with fail
          exact hK (fun jj => if jj = 13 then valV k n d x t else lx jj) _ ⟨X, f0, (fun _ => rfl), f2, f3, f4⟩
        | 1, ho, hL, haf, hK =>
          simp only [List.getElem?_toArray, List.getElem?_cons_zero, List.getElem?_cons_succ, Option.some.injEq] at ho
          subst ho
          (try dsimp only)
          go_wp2_with fail
          exact hK (fun jj => if jj = 2 then sV [61] else lx jj) _ ⟨X, f0, f1, (fun _ => rfl), f3, f4⟩
        | 2, ho, hL, haf, hK =>
          simp only [List.getElem?_toArray, List.getElem?_cons_zero, List.getElem?_cons_succ, Option.some.injEq] at ho
          subst ho
          (try dsimp only)
          rw [f1 (haf ⟨0, .data⟩ (by simp) rfl)]
          have bx := f3 hL
          have b0 := (bx 0 _ rfl).1
          have b1 := (bx 1 _ rfl).1
          have b2 := (bx 2 _ rfl).1
          have b3 := (bx 3 _ rfl).1
          have b4 := (bx 4 _ rfl).1
          have fb0 := (bx 0 _ rfl).2
          have fb1 := (bx 1 _ rfl).2
          have fb2 := (bx 2 _ rfl).2
          have fb3 := (bx 3 _ rfl).2
          have fb4 := (bx 4 _ rfl).2
          have hX := Ext.setL (b := w.heap.size + 1) (by omega) [.int .i64 k, .bool n, .int .i64 d, .int .i64 x, sV t] 0 X
          have hB := bx.put5 (.int .i64 k) (.bool n) (.int .i64 d) (.int .i64 x) (sV t)
          go_wp2_with fail
          exact hK (fun jj => if jj = 13 then valV k n d x t else lx jj) _ ⟨hX, (Vec.farL (k := w.heap.size + 1) (by omega) [.int .i64 k, .bool n, .int .i64 d, .int .i64 x, sV t] 0 f0), (fun _ => rfl), f2, (fun h => by cases h), (fun _ => hB)⟩
        | k + 3, ho, _, _, _ => simp at ho
      · intro L lx wr hall hI
        obtain ⟨XR, f0, f1, f2, f3, f4⟩ := hI.out
        clear hI
        have G0 := f0
        replace f1 := f1 (hall 0 (by simp))
        replace f2 := f2 (hall 1 (by simp))
        have BR := f4 (hall 2 (by simp))
        (try dsimp only)
        rw [f1, f2]
        clear hall f0 f1 f2 f3 f4
        have fd0 := (BR 0 _ rfl).1
        have fd1 := (BR 1 _ rfl).1
        have fd2 := (BR 2 _ rfl).1
        have fd3 := (BR 3 _ rfl).1
        have fd4 := (BR 4 _ rfl).1
        clear BR C1 C2
        go_wp2_with fail
        exact bodyPost_ret (v := .tuple #[sV [61], valV k n d x t]) (by simp [results, Tryz.results28, go_sem, fd0, fd1, fd2, fd3, fd4]) rfl ⟨congrArg Ending.returned HR.out, XR⟩
theorem critV_val (k : Int) (n : Bool) (d x : Int) (t : List UInt8) : ∃ lo k2 n2 d2 x2 t2, critV k n d x t = .tuple #[sV lo, valV k2 n2 d2 x2 t2] := by
  unfold critV
  split
  · split
    · obtain ⟨k2, n2, d2, x2, t2, h⟩ := typedV_val (critR t)
      exact ⟨_, k2, n2, d2, x2, t2, by rw [h]⟩
    · exact ⟨_, _, _, _, _, _, rfl⟩
  · exact ⟨_, _, _, _, _, _, rfl⟩
set_option maxRecDepth 8000 in
set_option maxHeartbeats 2000000 in
theorem lawCrit (k : Int) (n : Bool) (d x : Int) (t : List UInt8) (w : World) (hl : t.length ≤ 9223372036854775807) (d1 : -9223372036854775808 ≤ d) (d2 : d ≤ 9223372036854775807) (hT : Tens w) (hE : ErrTab w) (hO : OpTab w) :
    Calls Tryz.prog 6 #[valV k n d x t] w fun e w' => e = .returned (.bool true) ∧ Ext w w' := by
  have B := vec_made w (valL k n d x t) 44
  have X0 := x1 w (.cells #[.int .i64 k, .bool n, .int .i64 d, .int .i64 x, sV t] 44)
  go_enter Tryz.func6, Tryz.ntmps6
  go_wp2_with fail
  refine (szValue k n d x t 1048576 _ (by omega) (by omega) (by omega)).mono ?_
  rintro e w1 ⟨rfl, e1⟩
  have X1 := xt X0 e1
  by_cases hs : (1048576 : Int) < t.length
  · rw [if_pos hs]
    clear B hT hE hO hl d1 d2
    go_wp2_with fail
    go_ret
    exact ⟨rfl, X1⟩
  · rw [if_neg hs]
    have hl2 : t.length ≤ 2000000 := by omega
    obtain ⟨m, hm⟩ : ∃ m : Int, (1048576 : Int) - t.length = m := ⟨_, rfl⟩
    have hm0 : 0 ≤ m := by omega
    rw [hm]
    clear hm hs hl
    have B1 := B.later e1
    have a0 := (B1 0 _ rfl).1
    have a1 := (B1 1 _ rfl).1
    have a2 := (B1 2 _ rfl).1
    have a3 := (B1 3 _ rfl).1
    have a4 := (B1 4 _ rfl).1
    go_wp2_with fail
    clear a0 a1 a2 a3 a4
    refine (toValue k n d x t _).mono ?_
    rintro e w2 ⟨rfl, e2⟩
    go_wp2_with fail
    refine (critS k n d x t _ hl2).mono ?_
    rintro e w3 ⟨rfl, e3⟩
    have B3 := (B1.later e2).later e3
    have X3 := xt (xt X1 e2) e3
    obtain ⟨lo, k2, n2, d2', x2, t2, hv⟩ := critV_val k n d x t
    have HV : Hid (critV k n d x t = .tuple #[sV lo, valV k2 n2 d2' x2 t2]) := hv
    rw [hv]
    clear hv
    have Zb := vec_made w3 (valL 0 false 0 0 []) 26
    have YZ := x1 w3 (.cells #[.int .i64 0, .bool false, .int .i64 0, .int .i64 0, sV []] 26)
    obtain ⟨wz, hwz⟩ : ∃ wz, w3.alloc (.cells #[.int .i64 0, .bool false, .int .i64 0, .int .i64 0, sV []] 26) = wz := ⟨_, rfl⟩
    change Vec (w3.alloc (.cells #[.int .i64 0, .bool false, .int .i64 0, .int .i64 0, sV []] 26)) _ _ at Zb
    rw [hwz] at Zb YZ
    have Bw := Zb.put5 (.int .i64 k2) (.bool n2) (.int .i64 d2') (.int .i64 x2) (sV t2)
    have Y := Ext.setL (b := w3.heap.size) (Nat.le_refl _) [.int .i64 k2, .bool n2, .int .i64 d2', .int .i64 x2, sV t2] 0 YZ
    obtain ⟨wy, hwy⟩ : ∃ wy, setL wz w3.heap.size 0 [.int .i64 k2, .bool n2, .int .i64 d2', .int .i64 x2, sV t2] = wy := ⟨_, rfl⟩
    rw [hwy] at Bw Y
    have hwy : (((((wz.setCell ⟨w3.heap.size, 0, none⟩ (.int .i64 k2)).setCell ⟨w3.heap.size, 1, none⟩ (.bool n2)).setCell ⟨w3.heap.size, 2, none⟩ (.int .i64 d2')).setCell ⟨w3.heap.size, 3, none⟩ (.int .i64 x2)).setCell ⟨w3.heap.size, 4, none⟩ (sV t2)) = wy := hwy
    have b0 := (Zb 0 _ rfl).1
    have b1 := (Zb 1 _ rfl).1
    have b2 := (Zb 2 _ rfl).1
    have b3 := (Zb 3 _ rfl).1
    have b4 := (Zb 4 _ rfl).1
    have fb0 := (Zb 0 _ rfl).2
    have fb1 := (Zb 1 _ rfl).2
    have fb2 := (Zb 2 _ rfl).2
    have fb3 := (Zb 3 _ rfl).2
    have fb4 := (Zb 4 _ rfl).2
    clear Zb YZ
    have B4 := B3.later Y
    have a0 := (B4 0 _ rfl).1
    have a1 := (B4 1 _ rfl).1
    have a2 := (B4 2 _ rfl).1
    have a3 := (B4 3 _ rfl).1
    have a4 := (B4 4 _ rfl).1
    go_wp2_with fail
    clear b0 fb0 b1 fb1 b2 fb2 b3 fb3 b4 fb4 hwz hwy
    clear a0 a1 a2 a3 a4
    refine (toValue k n d x t wy).mono ?_
    rintro e w4 ⟨rfl, e4⟩
    have X4 := xt (xt X3 Y) e4
    go_wp2_with fail
    refine (critI k n d x t _ hl2 d1 d2 (hT.later X4) (hE.later X4) (hO.later X4)).mono ?_
    rintro e w5 ⟨rfl, e5⟩
    rw [HV.out]
    have X5 := xt X4 e5
    have Zb := vec_made w5 (valL 0 false 0 0 []) 26
    have YZ := x1 w5 (.cells #[.int .i64 0, .bool false, .int .i64 0, .int .i64 0, sV []] 26)
    obtain ⟨wt, hwt⟩ : ∃ wz, w5.alloc (.cells #[.int .i64 0, .bool false, .int .i64 0, .int .i64 0, sV []] 26) = wz := ⟨_, rfl⟩
    change Vec (w5.alloc (.cells #[.int .i64 0, .bool false, .int .i64 0, .int .i64 0, sV []] 26)) _ _ at Zb
    rw [hwt] at Zb YZ
    have Bg := Zb.put5 (.int .i64 k2) (.bool n2) (.int .i64 d2') (.int .i64 x2) (sV t2)
    have Y2 := Ext.setL (b := w5.heap.size) (Nat.le_refl _) [.int .i64 k2, .bool n2, .int .i64 d2', .int .i64 x2, sV t2] 0 YZ
    obtain ⟨wu, hwu⟩ : ∃ wy, setL wt w5.heap.size 0 [.int .i64 k2, .bool n2, .int .i64 d2', .int .i64 x2, sV t2] = wy := ⟨_, rfl⟩
    rw [hwu] at Bg Y2
    have hwu : (((((wt.setCell ⟨w5.heap.size, 0, none⟩ (.int .i64 k2)).setCell ⟨w5.heap.size, 1, none⟩ (.bool n2)).setCell ⟨w5.heap.size, 2, none⟩ (.int .i64 d2')).setCell ⟨w5.heap.size, 3, none⟩ (.int .i64 x2)).setCell ⟨w5.heap.size, 4, none⟩ (sV t2)) = wu := hwu
    have b0 := (Zb 0 _ rfl).1
    have b1 := (Zb 1 _ rfl).1
    have b2 := (Zb 2 _ rfl).1
    have b3 := (Zb 3 _ rfl).1
    have b4 := (Zb 4 _ rfl).1
    have fb0 := (Zb 0 _ rfl).2
    have fb1 := (Zb 1 _ rfl).2
    have fb2 := (Zb 2 _ rfl).2
    have fb3 := (Zb 3 _ rfl).2
    have fb4 := (Zb 4 _ rfl).2
    clear Zb YZ
    have Bv := ((Bw.later e4).later e5).later Y2
    have X6 := xt X5 Y2
    have a0 := (Bg 0 _ rfl).1
    have a1 := (Bg 1 _ rfl).1
    have a2 := (Bg 2 _ rfl).1
    have a3 := (Bg 3 _ rfl).1
    have a4 := (Bg 4 _ rfl).1
    have c0 := (Bv 0 _ rfl).1
    have c1 := (Bv 1 _ rfl).1
    have c2 := (Bv 2 _ rfl).1
    have c3 := (Bv 3 _ rfl).1
    have c4 := (Bv 4 _ rfl).1
    clear B B1 B3 B4 Bw Bg Bv hT hE hO e1 e2 e3 e4 e5 HV Y Y2
    go_wp2_with fail
    refine (eqValue_same k2 n2 d2' x2 t2 _).mono ?_
    rintro e w6 ⟨rfl, e6⟩
    go_wp2_with fail
    go_ret
    exact ⟨rfl, xt X6 e6⟩

end Go.Proofs.YtkadkfmidlhedaaGreatDoor

