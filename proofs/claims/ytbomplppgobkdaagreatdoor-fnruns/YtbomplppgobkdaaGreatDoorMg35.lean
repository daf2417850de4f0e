/-
  Several texts in one: Ru2, J2, J3, E6.
-/
import Derived.Test.YtbomplppgobkdaaGreatDoorMg28
import Derived.Test.YtbomplppgobkdaaGreatDoorMg27
import Derived.Lib.AppendZeros
import Derived.Test.YtbomplppgobkdaaGreatDoorMg32
import Derived.Test.YtbomplppgobkdaaGreatDoorMg11
import Derived.DeepKeys4
import Derived.MapKept
import Derived.Maps.Own
import Derived.Maps.OwnSet
import Derived.Deep.AppendSrc
import Derived.Deep.Upon
import Derived.OwnWalk
import Derived.Laws.OwnMore
import Derived.Test.YtbomplppgobkdaaGreatDoorMg33
import Derived.Maps.RangeWalk
import Derived.Laws.IdiomRangeMap
namespace Go.Proofs.YtbomplppgobkdaaGreatDoor
open Go.RowKit

def rowT (l : List VT) (C s : Nat) : List VT := (List.range C).map fun j => cel l (s * C + j)
def rowsT (l : List VT) (C : Nat) (S : List Nat) : List VT := S.flatMap (rowT l C)
theorem rowT_length (l : List VT) (C s : Nat) : (rowT l C s).length = C := by simp [rowT]
theorem rowsT_length (l : List VT) (C : Nat) (S : List Nat) : (rowsT l C S).length = S.length * C := by
  induction S with
  | nil => simp [rowsT]
  | cons s S ih =>
    show (rowT l C s ++ rowsT l C S).length = _
    rw [List.length_append, ih, rowT_length, List.length_cons, Nat.add_mul]
    omega
theorem rowsT_app (l : List VT) (C : Nat) (S T : List Nat) : rowsT l C (S ++ T) = rowsT l C S ++ rowsT l C T := by unfold rowsT; rw [List.flatMap_append]
/-- What the taking of rows has on its way. -/
structure OutR (w0 : World) (d : Nat) (A B : List Value) (n C : Nat) (l : List VT) (p : Option Addr) (cc : Nat) (wr : World) : Prop where
  ext : Ext w0 wr
  dd : w0.heap.size + 1 < d
  sz : d + 1 ≤ wr.heap.size
  va : Vec wr w0.heap.size A
  vb : Vec wr (w0.heap.size + 1) B
  vo : Vec wr (d) [.int .i64 (n : Int), .int .i64 (C : Int), .slice p l.length cc]
  ow : OwnW wr (d + 1) (.slice p l.length cc) l
theorem OutR.later {w0 wr w' : World} {d : Nat} {A B : List Value} {n C : Nat} {l : List VT} {p : Option Addr} {cc : Nat} (h : OutR w0 d A B n C l p cc wr) (x : Ext wr w') : OutR w0 d A B n C l p cc w' :=
  ⟨xt h.ext x, h.dd, Nat.le_trans h.sz x.size, h.va.later x, h.vb.later x, h.vo.later x, ownW_later h.ow x⟩
theorem ext_grownR {w a b : World} {r : Option Nat} (X : Ext w a) (G : a.grownBy b r) (hr : ∀ k, r = some k → w.heap.size ≤ k) : Ext w b := by
  refine ⟨by rw [← X.os]; exact G.os, by rw [← X.tape]; exact G.tape, by rw [← X.output]; exact G.output, Nat.le_trans X.size G.size, fun k hk => ?_⟩
  rw [G.block k (Nat.lt_of_lt_of_le hk X.size) (fun e => by have := hr k e.symm; omega)]
  exact X.block k hk
/-- Cells were put behind the others. -/
theorem OutR.grow {w0 wr w' : World} {d : Nat} {A B : List Value} {n C : Nat} {l l' : List VT} {p p' : Option Addr} {cc cc' : Nat} (h : OutR w0 d A B n C l p cc wr) (G : wr.grownBy w' (Value.slice p l.length cc).ownBlock) (O : OwnW w' (d + 1) (.slice p' l'.length cc') l') :
    OutR w0 d A B n C l' p' cc' (w'.setCell ⟨d, 2, none⟩ (.slice p' l'.length cc')) := by
  have hb := ownW_block h.ow
  have hdd := h.dd
  have X : Ext w0 w' := ext_grownR h.ext G (fun k hk => by have := hb k hk; omega)
  have ne : ∀ b, b < d + 1 → some b ≠ (Value.slice p l.length cc).ownBlock := fun b h q => by have := hb b q.symm; omega
  have vo := vec_keep h.vo G (ne _ (by omega))
  exact ⟨xset X (p := ⟨d, 2, none⟩) (by show _ ≤ d; omega) _, h.dd, by rw [World.size_setCell]; exact Nat.le_trans h.sz G.size, (vec_keep h.va G (ne _ (by omega))).far (p := ⟨d, 2, none⟩) (by have := h.dd; show d ≠ _; omega) _, (vec_keep h.vb G (ne _ (by omega))).far (p := ⟨d, 2, none⟩) (by have := h.dd; show d ≠ _; omega) _, vo.put 2 (by simp) _, ownW_far O (p := ⟨d, 2, none⟩) (by show d < _; omega) _⟩
set_option maxRecDepth 8000 in
set_option maxHeartbeats 4000000 in
theorem l7RowsS (R C : Nat) (v u : Value) (l : List VT) (S : List Nat) (w : World) (h : ValsIn w v l) (hlen : l.length = R * C) (h2 : R * C ≤ 2000) (hC : 1 ≤ C) (hR : R ≤ 2000) (hu : NumsAt w u S) (hS : ∀ s ∈ S, s < R) (hSl : S.length ≤ 2000) :
    Calls Tryz.prog 28 #[grV R C v, u] w fun e w' => ∃ sv, e = .returned (grV S.length C sv) ∧ OwnW w' w.heap.size sv (rowsT l C S) ∧ Ext w w' := by
  have hC2 : R ≠ 0 → C ≤ 2000 := fun h0 => by
    have : 1 * C ≤ R * C := Nat.mul_le_mul_right C (by omega)
    omega
  have HV : Hid (ValsIn w v l) := h
  have HU : Hid (NumsAt w u S) := hu
  have HSR : Hid (∀ s ∈ S, s < R) := hS
  obtain ⟨p, cap, rfl, hcap, -⟩ := h
  obtain ⟨pu, cu, rfl, hcu, -⟩ := hu
  obtain ⟨N, hN⟩ : ∃ N, l.length = N := ⟨_, rfl⟩
  obtain ⟨n, hn⟩ : ∃ n, S.length = n := ⟨_, rfl⟩
  have HN : Hid (l.length = N ∧ S.length = n) := ⟨hN, hn⟩
  rw [hN] at hlen hcap HV ⊢
  rw [hn] at hcu HU hSl ⊢
  have HLEN : Hid (N = R * C ∧ R * C ≤ 2000) := ⟨hlen, h2⟩
  clear hN hn hS hlen h2
  obtain ⟨u0, u1, u2, g0, g1, g2, s0, s1, s2, B0, B1, B2, X⟩ := mkB3 w [.int .i64 R, .int .i64 C, .slice p N cap] [.int .i64 0, .int .i64 0, .slice none 0 0] [.int .i64 n, .int .i64 C, .slice none 0 0] 25 25 25
  change w.alloc (.cells #[.int .i64 R, .int .i64 C, .slice p N cap] 25) = u0 at g0
  change u0.alloc (.cells #[.int .i64 0, .int .i64 0, .slice none 0 0] 25) = u1 at g1
  change u1.alloc (.cells #[.int .i64 n, .int .i64 C, .slice none 0 0] 25) = u2 at g2
  have a0 : u1.cell? ⟨w.heap.size, 1, none⟩ = some (.int .i64 C) := by
    have V0 := vec_made w [.int .i64 R, .int .i64 C, .slice p N cap] 25
    change Vec (w.alloc (.cells #[.int .i64 R, .int .i64 C, .slice p N cap] 25)) _ _ at V0
    rw [g0] at V0
    have := x1 u0 (.cells #[.int .i64 0, .int .i64 0, .slice none 0 0] 25)
    rw [g1] at this
    exact (V0.later this 1 _ rfl).1
  have HST : Hid (Vec u2 w.heap.size [.int .i64 R, .int .i64 C, .slice p N cap] ∧ Vec u2 (w.heap.size + 1) [.int .i64 0, .int .i64 0, .slice none 0 0] ∧ Vec u2 (w.heap.size + 1 + 1) [.int .i64 n, .int .i64 C, .slice none 0 0] ∧ Ext w u2) := ⟨B0, B1, B2, X⟩
  obtain ⟨d, hd⟩ : ∃ d, w.heap.size + 1 + 1 = d := ⟨_, rfl⟩
  rw [hd] at HST s2
  have HD : Hid (w.heap.size + 1 + 1 = d ∧ u2.heap.size = d + 1) := ⟨hd, by rw [s2]⟩
  have hdw : w.heap.size + 1 < d := by omega
  clear B0 B1 B2 X
  go_enter Tryz.func28, Tryz.ntmps28
  have HG2 : Hid (u1.alloc (.cells #[.int .i64 n, .int .i64 C, .slice none 0 0] 25) = u2) := g2
  clear g2
  go_wp2_with fail
  rw [HG2.out]
  clear g0 g1 HG2 s0 s1 s2 a0
  go_loopw [15] (fun i wr => ∃ (k c : Nat) (q : Option Addr), k ≤ n ∧ i = .int .i64 k ∧ Hid (OutR w d [.int .i64 (R : Int), .int .i64 (C : Int), .slice p N cap] [.int .i64 0, .int .i64 0, .slice none 0 0] n C (rowsT l C (S.take k)) q c wr)) (fun i _ => n - (intOf i).toNat)
  case atStart => exact ⟨0, 0, none, by omega, rfl, HST.out.2.2.2, hdw, by rw [HD.out.2]; exact Nat.le_refl _, HST.out.1, HST.out.2.1, HST.out.2.2.1, World.ownsRow_nil _ _ _ _⟩
  case round =>
    obtain ⟨k, cc, p1, hk, rfl, HI⟩ := hrel
    clear HST
    by_cases hlt : k < n
    · have i2 : (k : Int) < (n : Int) := by omega
      obtain ⟨s, hs⟩ : ∃ s, S[k]? = some s := ⟨_, List.getElem?_eq_getElem (by rw [HN.out.2]; exact hlt)⟩
      have hsR : s < R := HSR.out s (List.mem_of_getElem? hs)
      obtain ⟨pu', cu', hp', _, hrow⟩ := HU.out.later HI.out.ext
      rw [HN.out.2] at hp' hrow
      cases hp'
      obtain ⟨gu, rfl, VU⟩ := hrow (by omega)
      have c0 : wr.cell? ⟨gu, k, none⟩ = some (.int .i64 s) := (VU k (numV s) (by rw [List.getElem?_map, hs]; rfl)).1
      have hpl : s * C + C ≤ N := by
        rw [HLEN.out.1]
        have : (s + 1) * C ≤ R * C := Nat.mul_le_mul_right C (by omega)
        rw [Nat.add_mul] at this
        omega
      have hNs : N ≤ 2000 := by rw [HLEN.out.1]; exact HLEN.out.2
      obtain ⟨p', cap', hp2, hca', hrow2⟩ := HV.out
      rw [HN.out.1] at hp2 hrow2 hca'
      cases hp2
      obtain ⟨b, o, rfl, RW⟩ := hrow2 (by omega)
      have HRWA : Hid (RowV w b o l) := RW
      obtain ⟨m1, hm1⟩ : ∃ z, s * C = z := ⟨_, rfl⟩
      have HRT : Hid (rowsT l C (S.take (k + 1)) = rowsT l C (S.take k) ++ (List.range C).map fun j => cel l (m1 + j)) := by
        show _ = _
        rw [List.take_add_one, hs, rowsT_app]
        show _ ++ (rowT l C s ++ []) = _
        rw [List.append_nil, ← hm1]
        rfl
      have hm1' : (s : Int) * (C : Int) = (m1 : Int) := by rw [← hm1]; simp
      rw [hm1] at hpl
      have hm1b : m1 + C ≤ N := hpl
      have hCb : C ≤ 2000 := by omega
      obtain ⟨mE, hmE⟩ : ∃ z, m1 + C = z := ⟨_, rfl⟩
      have hmE1 : (m1 : Int) + (C : Int) = (mE : Int) := by omega
      have hmE2 : mE - m1 = C := by omega
      have hs1 : (m1 : Int) ≤ (mE : Int) := by omega
      have hs2 : (mE : Int) ≤ (cap : Int) := by omega
      have hs3 : ((mE : Int) - (m1 : Int)).toNat = C := by omega
      have hkl : (rowsT l C (S.take k)).length = k * C := by rw [rowsT_length, List.length_take, HN.out.2, Nat.min_eq_left (by omega)]
      have hk2 : k * C ≤ 2000 * 2000 := Nat.mul_le_mul (by omega) hCb
      obtain ⟨lo, hlo⟩ : ∃ q, rowsT l C (S.take k) = q := ⟨_, rfl⟩
      rw [hlo] at HI HRT hkl
      obtain ⟨NL, hNL⟩ : ∃ q, lo.length = q := ⟨_, rfl⟩
      have HNL : Hid (lo.length = NL) := hNL
      have hNLb : NL ≤ 4000000 := by omega
      have HNEW : Hid ((lo ++ (List.range C).map fun j => cel l (m1 + j)).length = NL + C) := by show _ = _; rw [List.length_append, HNL.out, List.length_map, List.length_range]
      obtain ⟨N2, hN2⟩ : ∃ z, NL + C = z := ⟨_, rfl⟩
      rw [hN2] at HNEW
      have hNbig : N2 ≤ 30000000 := by omega
      have hN21 : 1 ≤ N2 := by omega
      have HC5 : Hid (OutR w d [.int .i64 (R : Int), .int .i64 (C : Int), .slice (some ⟨b, o, none⟩) N cap] [.int .i64 0, .int .i64 0, .slice none 0 0] n C lo p1 cc wr) := HI.out
      clear VU hrow hrow2 RW hs hm1 hmE hk2 hkl hlo hNL HI
      go_wp2_with fail
      refine wp_region_letters_g (fun lx : Nat → Value => { tmps := #[grV ((R : Int)) ((C : Int)) (Value.slice (some ⟨b, o, none⟩) N cap), Value.slice (some ⟨gu, 0, none⟩) n cu, Value.pointer (some ⟨w.heap.size, 0, none⟩), undef, Value.pointer (some ⟨w.heap.size + 1, 0, none⟩), Value.pointer (some ⟨d, 0, none⟩), undef, Value.int .i64 (s : Int), Value.slice (some ⟨gu, 0, none⟩) n cu, Value.int .i64 (n : Int), Value.pointer (some ⟨w.heap.size, 1, none⟩), Value.int .i64 (C : Int), Value.agg #[Value.int .i64 (n : Int), Value.int .i64 (C : Int), Value.slice none 0 0], Value.slice (some ⟨gu, 0, none⟩) n cu, Value.int .i64 (n : Int), Value.int .i64 (k : Int), Value.bool true, Value.pointer (some ⟨gu, k, none⟩), Value.int .i64 (s : Int), lx 19, lx 20, lx 21, lx 22, lx 23, lx 24, lx 25, lx 26, lx 27, lx 28, lx 29, lx 30, lx 31, lx 32, lx 33, lx 34, lx 35, lx 36, u37, undef], defers := [] }) (fun L lx lw => Hid (Ext w lw ∧ d + 1 ≤ lw.heap.size ∧ Vec lw w.heap.size [.int .i64 (R : Int), .int .i64 (C : Int), .slice (some ⟨b, o, none⟩) N cap] ∧ Vec lw (w.heap.size + 1) [.int .i64 0, .int .i64 0, .slice none 0 0] ∧ (L 16 = false → OutR w d [.int .i64 (R : Int), .int .i64 (C : Int), .slice (some ⟨b, o, none⟩) N cap] [.int .i64 0, .int .i64 0, .slice none 0 0] n C lo p1 cc lw) ∧ (L 16 = true → L 18 = false → ∃ p' cc' wq, lx 35 = .slice p' N2 cc' ∧ OutR w d [.int .i64 (R : Int), .int .i64 (C : Int), .slice (some ⟨b, o, none⟩) N cap] [.int .i64 0, .int .i64 0, .slice none 0 0] n C lo p1 cc wq ∧ wq.grownBy lw (Value.slice p1 NL cc).ownBlock ∧ OwnW lw (d + 1) (.slice p' N2 cc') (lo ++ (List.range C).map fun j => cel l (m1 + j))) ∧ (L 18 = true → ∃ p' cc', lx 35 = .slice p' N2 cc' ∧ OutR w d [.int .i64 (R : Int), .int .i64 (C : Int), .slice (some ⟨b, o, none⟩) N cap] [.int .i64 0, .int .i64 0, .slice none 0 0] n C (lo ++ (List.range C).map fun j => cel l (m1 + j)) p' cc' lw) ∧ (L 16 = true → L 1 = true) ∧ (L 18 = true → L 16 = true) ∧ (L 0 = true → lx 19 = .pointer (some ⟨d, 2, none⟩)) ∧ (L 1 = true → lx 20 = .slice p1 NL cc) ∧ (L 2 = true → lx 21 = .pointer (some ⟨w.heap.size, 2, none⟩)) ∧ (L 3 = true → lx 22 = .slice (some ⟨b, o, none⟩) N cap) ∧ (L 4 = true → lx 23 = .int .i64 (s : Int)) ∧ (L 5 = true → lx 24 = .pointer (some ⟨w.heap.size, 1, none⟩)) ∧ (L 6 = true → lx 25 = .int .i64 (C : Int)) ∧ (L 7 = true → lx 26 = .int .i64 (m1 : Int)) ∧ (L 8 = true → lx 27 = .int .i64 (s : Int)) ∧ (L 9 = true → lx 28 = .pointer (some ⟨w.heap.size, 1, none⟩)) ∧ (L 10 = true → lx 29 = .int .i64 (C : Int)) ∧ (L 11 = true → lx 30 = .int .i64 (m1 : Int)) ∧ (L 12 = true → lx 31 = .pointer (some ⟨w.heap.size, 1, none⟩)) ∧ (L 13 = true → lx 32 = .int .i64 (C : Int)) ∧ (L 14 = true → lx 33 = .int .i64 (mE : Int)) ∧ (L 15 = true → lx 34 = .slice (some ⟨b, o + m1 * 5, none⟩) C (cap - m1)) ∧ (L 17 = true → lx 36 = .pointer (some ⟨d, 2, none⟩)))) rfl (by kernel_rfl) (fun jj => if jj = 19 then u19 else if jj = 20 then u20 else if jj = 21 then u21 else if jj = 22 then u22 else if jj = 23 then u23 else if jj = 24 then u24 else if jj = 25 then u25 else if jj = 26 then u26 else if jj = 27 then u27 else if jj = 28 then u28 else if jj = 29 then u29 else if jj = 30 then u30 else if jj = 31 then u31 else if jj = 32 then u32 else if jj = 33 then u33 else if jj = 34 then u34 else if jj = 35 then u35 else if jj = 36 then u36 else undef) rfl ?_ ?_ ?_
      · have O5 := HC5.out.later (xd (xr _))
        exact ⟨O5.ext, O5.sz, O5.va, O5.vb, (fun _ => O5), (fun h => by cases h), (fun h => by cases h), (fun h => by cases h), (fun h => by cases h), (fun h => by cases h), (fun h => by cases h), (fun h => by cases h), (fun h => by cases h), (fun h => by cases h), (fun h => by cases h), (fun h => by cases h), (fun h => by cases h), (fun h => by cases h), (fun h => by cases h), (fun h => by cases h), (fun h => by cases h), (fun h => by cases h), (fun h => by cases h), (fun h => by cases h), (fun h => by cases h), (fun h => by cases h)⟩
      · intro L lx wl i o K hK ho hL haf hI
        obtain ⟨X, SZ, V0, V1, OO, FA, FS, gl, gs, f0, f1, f2, f3, f4, f5, f6, f7, f8, f9, f10, f11, f12, f13, f14, f15, f17⟩ := hI.out
        match i, ho, hL, haf, hK with
        | 0, ho, hL, haf, hK =>
          cases ho
          (try dsimp only)
          refine Eq.mpr (if_pos (by rfl)) ?_
          go_wp2_with fail
          exact hK (fun jj => if jj = 19 then .pointer (some ⟨d, 2, none⟩) else lx jj) _ ⟨X, SZ, V0, V1, OO, FA, FS, gl, gs, (fun _ => rfl), f1, f2, f3, f4, f5, f6, f7, f8, f9, f10, f11, f12, f13, f14, f15, f17⟩
        | 1, ho, hL, haf, hK =>
          cases ho
          (try dsimp only)
          rw [f0 (haf ⟨0, .data⟩ (by simp) rfl)]
          refine Eq.mpr (if_pos (by rfl)) ?_
          have hA : L 16 = false := by
            cases hh : L 16 with
            | false => rfl
            | true => have := gl hh; rw [hL] at this; cases this
          have vo := (OO hA).vo
          rw [HNL.out] at vo
          obtain ⟨c0, c1, c2⟩ := Vec.three vo
          go_wp2_with fail
          exact hK (fun jj => if jj = 20 then .slice p1 NL cc else if jj = 19 then .pointer (some ⟨d, 2, none⟩) else lx jj) _ ⟨X, SZ, V0, V1, OO, FA, FS, (fun _ => rfl), gs, (fun _ => rfl), (fun _ => rfl), f2, f3, f4, f5, f6, f7, f8, f9, f10, f11, f12, f13, f14, f15, f17⟩
        | 2, ho, hL, haf, hK =>
          cases ho
          (try dsimp only)
          refine Eq.mpr (if_pos (by rfl)) ?_
          go_wp2_with fail
          exact hK (fun jj => if jj = 21 then .pointer (some ⟨w.heap.size, 2, none⟩) else lx jj) _ ⟨X, SZ, V0, V1, OO, FA, FS, gl, gs, f0, f1, (fun _ => rfl), f3, f4, f5, f6, f7, f8, f9, f10, f11, f12, f13, f14, f15, f17⟩
        | 3, ho, hL, haf, hK =>
          cases ho
          (try dsimp only)
          rw [f2 (haf ⟨2, .data⟩ (by simp) rfl)]
          refine Eq.mpr (if_pos (by rfl)) ?_
          obtain ⟨c0, c1, c2⟩ := Vec.three V0
          go_wp2_with fail
          exact hK (fun jj => if jj = 22 then .slice (some ⟨b, o, none⟩) N cap else if jj = 21 then .pointer (some ⟨w.heap.size, 2, none⟩) else lx jj) _ ⟨X, SZ, V0, V1, OO, FA, FS, gl, gs, f0, f1, (fun _ => rfl), (fun _ => rfl), f4, f5, f6, f7, f8, f9, f10, f11, f12, f13, f14, f15, f17⟩
        | 4, ho, hL, haf, hK =>
          cases ho
          (try dsimp only)
          refine Eq.mpr (if_pos (by rfl)) ?_
          go_wp2_with fail
          exact hK (fun jj => if jj = 23 then .int .i64 (s : Int) else lx jj) _ ⟨X, SZ, V0, V1, OO, FA, FS, gl, gs, f0, f1, f2, f3, (fun _ => rfl), f5, f6, f7, f8, f9, f10, f11, f12, f13, f14, f15, f17⟩
        | 5, ho, hL, haf, hK =>
          cases ho
          (try dsimp only)
          refine Eq.mpr (if_pos (by rfl)) ?_
          go_wp2_with fail
          exact hK (fun jj => if jj = 24 then .pointer (some ⟨w.heap.size, 1, none⟩) else lx jj) _ ⟨X, SZ, V0, V1, OO, FA, FS, gl, gs, f0, f1, f2, f3, f4, (fun _ => rfl), f6, f7, f8, f9, f10, f11, f12, f13, f14, f15, f17⟩
        | 6, ho, hL, haf, hK =>
          cases ho
          (try dsimp only)
          rw [f5 (haf ⟨5, .data⟩ (by simp) rfl)]
          refine Eq.mpr (if_pos (by rfl)) ?_
          obtain ⟨c0, c1, c2⟩ := Vec.three V0
          go_wp2_with fail
          exact hK (fun jj => if jj = 25 then .int .i64 (C : Int) else if jj = 24 then .pointer (some ⟨w.heap.size, 1, none⟩) else lx jj) _ ⟨X, SZ, V0, V1, OO, FA, FS, gl, gs, f0, f1, f2, f3, f4, (fun _ => rfl), (fun _ => rfl), f7, f8, f9, f10, f11, f12, f13, f14, f15, f17⟩
        | 7, ho, hL, haf, hK =>
          cases ho
          (try dsimp only)
          rw [f4 (haf ⟨4, .data⟩ (by simp) rfl), f6 (haf ⟨6, .data⟩ (by simp) rfl)]
          refine Eq.mpr (if_pos (by rfl)) ?_
          go_wp2_with fail
          exact hK (fun jj => if jj = 26 then .int .i64 (m1 : Int) else if jj = 23 then .int .i64 (s : Int) else if jj = 25 then .int .i64 (C : Int) else lx jj) _ ⟨X, SZ, V0, V1, OO, FA, FS, gl, gs, f0, f1, f2, f3, (fun _ => rfl), f5, (fun _ => rfl), (fun _ => rfl), f8, f9, f10, f11, f12, f13, f14, f15, f17⟩
        | 8, ho, hL, haf, hK =>
          cases ho
          (try dsimp only)
          refine Eq.mpr (if_pos (by rfl)) ?_
          go_wp2_with fail
          exact hK (fun jj => if jj = 27 then .int .i64 (s : Int) else lx jj) _ ⟨X, SZ, V0, V1, OO, FA, FS, gl, gs, f0, f1, f2, f3, f4, f5, f6, f7, (fun _ => rfl), f9, f10, f11, f12, f13, f14, f15, f17⟩
        | 9, ho, hL, haf, hK =>
          cases ho
          (try dsimp only)
          refine Eq.mpr (if_pos (by rfl)) ?_
          go_wp2_with fail
          exact hK (fun jj => if jj = 28 then .pointer (some ⟨w.heap.size, 1, none⟩) else lx jj) _ ⟨X, SZ, V0, V1, OO, FA, FS, gl, gs, f0, f1, f2, f3, f4, f5, f6, f7, f8, (fun _ => rfl), f10, f11, f12, f13, f14, f15, f17⟩
        | 10, ho, hL, haf, hK =>
          cases ho
          (try dsimp only)
          rw [f9 (haf ⟨9, .data⟩ (by simp) rfl)]
          refine Eq.mpr (if_pos (by rfl)) ?_
          obtain ⟨c0, c1, c2⟩ := Vec.three V0
          go_wp2_with fail
          exact hK (fun jj => if jj = 29 then .int .i64 (C : Int) else if jj = 28 then .pointer (some ⟨w.heap.size, 1, none⟩) else lx jj) _ ⟨X, SZ, V0, V1, OO, FA, FS, gl, gs, f0, f1, f2, f3, f4, f5, f6, f7, f8, (fun _ => rfl), (fun _ => rfl), f11, f12, f13, f14, f15, f17⟩
        | 11, ho, hL, haf, hK =>
          cases ho
          (try dsimp only)
          rw [f8 (haf ⟨8, .data⟩ (by simp) rfl), f10 (haf ⟨10, .data⟩ (by simp) rfl)]
          refine Eq.mpr (if_pos (by rfl)) ?_
          go_wp2_with fail
          exact hK (fun jj => if jj = 30 then .int .i64 (m1 : Int) else if jj = 27 then .int .i64 (s : Int) else if jj = 29 then .int .i64 (C : Int) else lx jj) _ ⟨X, SZ, V0, V1, OO, FA, FS, gl, gs, f0, f1, f2, f3, f4, f5, f6, f7, (fun _ => rfl), f9, (fun _ => rfl), (fun _ => rfl), f12, f13, f14, f15, f17⟩
        | 12, ho, hL, haf, hK =>
          cases ho
          (try dsimp only)
          refine Eq.mpr (if_pos (by rfl)) ?_
          go_wp2_with fail
          exact hK (fun jj => if jj = 31 then .pointer (some ⟨w.heap.size, 1, none⟩) else lx jj) _ ⟨X, SZ, V0, V1, OO, FA, FS, gl, gs, f0, f1, f2, f3, f4, f5, f6, f7, f8, f9, f10, f11, (fun _ => rfl), f13, f14, f15, f17⟩
        | 13, ho, hL, haf, hK =>
          cases ho
          (try dsimp only)
          rw [f12 (haf ⟨12, .data⟩ (by simp) rfl)]
          refine Eq.mpr (if_pos (by rfl)) ?_
          obtain ⟨c0, c1, c2⟩ := Vec.three V0
          go_wp2_with fail
          exact hK (fun jj => if jj = 32 then .int .i64 (C : Int) else if jj = 31 then .pointer (some ⟨w.heap.size, 1, none⟩) else lx jj) _ ⟨X, SZ, V0, V1, OO, FA, FS, gl, gs, f0, f1, f2, f3, f4, f5, f6, f7, f8, f9, f10, f11, (fun _ => rfl), (fun _ => rfl), f14, f15, f17⟩
        | 14, ho, hL, haf, hK =>
          cases ho
          (try dsimp only)
          rw [f11 (haf ⟨11, .data⟩ (by simp) rfl), f13 (haf ⟨13, .data⟩ (by simp) rfl)]
          refine Eq.mpr (if_pos (by rfl)) ?_
          go_wp2_with fail
          exact hK (fun jj => if jj = 33 then .int .i64 (mE : Int) else if jj = 30 then .int .i64 (m1 : Int) else if jj = 32 then .int .i64 (C : Int) else lx jj) _ ⟨X, SZ, V0, V1, OO, FA, FS, gl, gs, f0, f1, f2, f3, f4, f5, f6, f7, f8, f9, f10, (fun _ => rfl), f12, (fun _ => rfl), (fun _ => rfl), f15, f17⟩
        | 15, ho, hL, haf, hK =>
          cases ho
          (try dsimp only)
          rw [f3 (haf ⟨3, .data⟩ (by simp) rfl), f7 (haf ⟨7, .data⟩ (by simp) rfl), f14 (haf ⟨14, .data⟩ (by simp) rfl)]
          refine Eq.mpr (if_pos (by rfl)) ?_
          go_wp2_with fail
          exact hK (fun jj => if jj = 34 then .slice (some ⟨b, o + m1 * 5, none⟩) C (cap - m1) else if jj = 22 then .slice (some ⟨b, o, none⟩) N cap else if jj = 26 then .int .i64 (m1 : Int) else if jj = 33 then .int .i64 (mE : Int) else lx jj) _ ⟨X, SZ, V0, V1, OO, FA, FS, gl, gs, f0, f1, f2, (fun _ => rfl), f4, f5, f6, (fun _ => rfl), f8, f9, f10, f11, f12, f13, (fun _ => rfl), (fun _ => rfl), f17⟩
        | 16, ho, hL, haf, hK =>
          cases ho
          (try dsimp only)
          have O1 := OO hL
          rw [f1 (haf ⟨1, .data⟩ (by simp) rfl), f15 (haf ⟨15, .data⟩ (by simp) rfl)]
          refine Eq.mpr (if_pos (by rfl)) ?_
          obtain ⟨v', w', hrun, O2, GW⟩ := app_vals wl (d + 1) (.slice p1 NL cc) lo (by have := O1.ow; rw [HNL.out] at this; exact this) (.slice (some ⟨b, o + m1 * 5, none⟩) C (cap - m1)) _ (vals_sub (HRWA.out.later X) HN.out.1 hca' hm1b) (by rw [HNL.out, List.length_map, List.length_range]; omega) SZ
          obtain ⟨p', cc', ev⟩ : ∃ p' cc', v' = .slice p' N2 cc' := by
            rcases O2.2 with ⟨rfl, h0⟩ | ⟨g, cap, cur, e1, _⟩
            · exact absurd h0 (by rw [HNEW.out]; omega)
            · rw [HNEW.out] at e1; exact ⟨_, _, e1⟩
          subst ev
          have hrow := ownW_block O1.ow
          have hdd := O1.dd
          have ne : ∀ b, b < d + 1 → some b ≠ (Value.slice p1 NL cc).ownBlock := fun b h q => by have := hrow b (by rw [HNL.out]; exact q.symm); omega
          have hst : L 18 = false := by
            cases hh : L 18 with
            | false => rfl
            | true => have := gs hh; rw [hL] at this; cases this
          have X' : Ext w w' := ext_grownR X GW (fun k hk => by
            rcases Nat.lt_or_ge k (d + 1) with h | h
            · exact absurd hk.symm (ne k h)
            · omega)
          refine Lib.wpList_append_run _ rfl (.tmp 20) (.tmp 34) 23 23 rfl _ _ rfl rfl _ _ hrun ?_
          go_wp2_with fail
          exact hK (fun jj => if jj = 35 then .slice p' N2 cc' else if jj = 20 then .slice p1 NL cc else if jj = 34 then .slice (some ⟨b, o + m1 * 5, none⟩) C (cap - m1) else lx jj) _ ⟨(X'), (Nat.le_trans SZ GW.size), (vec_keep V0 GW (ne _ (by omega))), (vec_keep V1 GW (ne _ (by omega))), (fun h => by cases h), (fun _ _ => ⟨p', cc', wl, rfl, O1, GW, O2⟩), (fun h => by have h1 : L 18 = true := h; rw [hst] at h1; cases h1), (fun _ => haf ⟨1, .data⟩ (by simp) rfl), (fun _ => rfl), f0, (fun _ => rfl), f2, f3, f4, f5, f6, f7, f8, f9, f10, f11, f12, f13, f14, (fun _ => rfl), f17⟩
        | 17, ho, hL, haf, hK =>
          cases ho
          (try dsimp only)
          refine Eq.mpr (if_pos (by rfl)) ?_
          go_wp2_with fail
          exact hK (fun jj => if jj = 36 then .pointer (some ⟨d, 2, none⟩) else lx jj) _ ⟨X, SZ, V0, V1, OO, FA, FS, gl, gs, f0, f1, f2, f3, f4, f5, f6, f7, f8, f9, f10, f11, f12, f13, f14, f15, (fun _ => rfl)⟩
        | 18, ho, hL, haf, hK =>
          cases ho
          (try dsimp only)
          obtain ⟨p', cc', wq, ep, OQ, GQ, O2⟩ := FA (haf ⟨16, .data⟩ (by simp) rfl) hL
          have hlen : (lo ++ (List.range C).map fun j => cel l (m1 + j)).length = N2 := HNEW.out
          have OG := OQ.grow (by rw [HNL.out]; exact GQ) (by rw [hlen]; exact O2)
          rw [hlen] at OG
          have vd := vec_keep OQ.vo GQ (fun q => by have := ownW_block OQ.ow d (by rw [HNL.out]; exact q.symm); omega)
          rw [HNL.out] at vd
          obtain ⟨c0, c1, c2⟩ := Vec.three vd
          obtain ⟨z0, z1, z2⟩ := Vec.threeF vd
          have hdd := OQ.dd
          rw [f17 (haf ⟨17, .data⟩ (by simp) rfl), ep]
          refine Eq.mpr (if_pos (by rfl)) ?_
          go_wp2_with fail
          exact hK (fun jj => if jj = 36 then .pointer (some ⟨d, 2, none⟩) else if jj = 35 then .slice p' N2 cc' else lx jj) _ ⟨(OG.ext), (OG.sz), (OG.va), (OG.vb), (fun h => by have h1 : L 16 = false := h; rw [haf ⟨16, .data⟩ (by simp) rfl] at h1; cases h1), (fun _ h => by cases h), (fun _ => ⟨p', cc', rfl, OG⟩), gl, (fun _ => haf ⟨16, .data⟩ (by simp) rfl), f0, f1, f2, f3, f4, f5, f6, f7, f8, f9, f10, f11, f12, f13, f14, f15, (fun _ => rfl)⟩
        | k + 19, ho, _, _, _ => simp at ho
      · intro L lx w6 hall hI
        obtain ⟨X, SZ, V0, V1, OO, FA, FS, gl, gs, f0, f1, f2, f3, f4, f5, f6, f7, f8, f9, f10, f11, f12, f13, f14, f15, f17⟩ := hI.out
        obtain ⟨p', cc', ep, OG⟩ := FS (hall 18 (by simp))
        (try dsimp only)
        rw [f0 (hall 0 (by simp)), f1 (hall 1 (by simp)), f2 (hall 2 (by simp)), f3 (hall 3 (by simp)), f4 (hall 4 (by simp)), f5 (hall 5 (by simp)), f6 (hall 6 (by simp)), f7 (hall 7 (by simp)), f8 (hall 8 (by simp)), f9 (hall 9 (by simp)), f10 (hall 10 (by simp)), f11 (hall 11 (by simp)), f12 (hall 12 (by simp)), f13 (hall 13 (by simp)), f14 (hall 14 (by simp)), f15 (hall 15 (by simp)), ep, f17 (hall 17 (by simp))]
        clear hI hall ep  X SZ V0 V1 OO FA FS gl gs f0 f1 f2 f3 f4 f5 f6 f7 f8 f9 f10 f11 f12 f13 f14 f15 f17
        have HF2 : Hid (OutR w d [.int .i64 (R : Int), .int .i64 (C : Int), .slice (some ⟨b, o, none⟩) N cap] [.int .i64 0, .int .i64 0, .slice none 0 0] n C (rowsT l C (S.take (k + 1))) p' cc' w6) := by
          show OutR _ _ _ _ _ _ _ _ _ _
          rw [HRT.out]
          exact OG
        clear OG HC5
        go_wp2_with fail
        go_roundw
        case rel => exact ⟨k + 1, cc', p', by omega, by go_num, HF2⟩
        case measure => simp [intOf]; omega
    · obtain rfl : k = n := by omega
      have i2 : ¬ (k : Int) < (k : Int) := by omega
      have e9 : S.take k = S := by rw [← HN.out.2]; exact List.take_length
      rw [e9] at HI
      obtain ⟨lo, hlo⟩ : ∃ q, rowsT l C S = q := ⟨_, rfl⟩
      have HLO : Hid (rowsT l C S = lo) := hlo
      rw [hlo] at HI
      obtain ⟨NL, hNL⟩ : ∃ n, lo.length = n := ⟨_, rfl⟩
      have vo := HI.out.vo
      rw [hNL] at vo
      have ow : Hid (OwnW wr (d + 1) (.slice p1 NL cc) lo) := by rw [← hNL]; exact HI.out.ow
      obtain ⟨b0, b1, b2⟩ := Vec.three vo
      have vb := HI.out.vb
      have ex := HI.out.ext
      obtain ⟨wy, hy, FX, ⟨z0, z1, z2⟩, ⟨fz0, fz1, fz2⟩, fd0, fd1, fd2⟩ := finG vb ex (by omega) k C (.slice p1 NL cc)
      have FO : Hid (OwnW wy w.heap.size (.slice p1 NL cc) lo) := by
        have o1 := ownW_far ow.out (p := ⟨w.heap.size + 1, 0, none⟩) (by show w.heap.size + 1 < _; omega) (.int .i64 k)
        have o2 := ownW_far o1 (p := ⟨w.heap.size + 1, 1, none⟩) (by show w.heap.size + 1 < _; omega) (.int .i64 C)
        have o3 := ownW_far o2 (p := ⟨w.heap.size + 1, 2, none⟩) (by show w.heap.size + 1 < _; omega) (.slice p1 NL cc)
        show World.ownsRow _ _ _ _ _ _ _
        rw [← hy]
        exact ownW_base o3 (by omega)
      clear vo hlo hNL HI vb
      go_wp2_with fail
      exact bodyPost_ret (v := grV k C (.slice p1 NL cc)) (by simp [results, Tryz.results28, go_sem, fd0, fd1, fd2]) rfl ⟨_, rfl, by rw [HLO.out]; exact FO.out, FX⟩

/-- What a number of the machine is. -/
abbrev InJ (a : Int) : Prop := -9223372036854775808 ≤ a ∧ a ≤ 9223372036854775807
/-- A value that can be a key. -/
def InK (e : VT) : Prop := InJ e.k ∧ InJ e.d ∧ InJ e.x ∧ e.t.length ≤ 2000000
/-- A group: where its row of numbers lies, and what it holds. -/
structure GE where
  g : Nat
  cp : Nat
  ns : List Nat
abbrev GE.sl (e : GE) : Value := .slice (some ⟨e.g, 0, none⟩) e.ns.length e.cp
def glR (v : Value) : Option (DataW Unit × List MemPlace) := match v with
  | .slice none 0 0 => some (.nil, [])
  | .slice (some ⟨g, 0, none⟩) n c => some (.agg [.lit (.int .i64 g), .lit (.int .i64 n), .lit (.int .i64 c)], [])
  | _ => none
def GE.d (e : GE) : DataW Unit := .agg [.lit (.int .i64 e.g), .lit (.int .i64 e.ns.length), .lit (.int .i64 e.cp)]
theorem glR_of (e : GE) : glR e.sl = some (e.d, []) := rfl
theorem glR_inv {v : Value} {y : DataW Unit × List MemPlace} (h : glR v = some y) : (v = .slice none 0 0 ∧ y = (.nil, [])) ∨ ∃ g n c, v = .slice (some ⟨g, 0, none⟩) n c ∧ y = (.agg [.lit (.int .i64 (g : Nat)), .lit (.int .i64 (n : Nat)), .lit (.int .i64 (c : Nat))], []) := by
  unfold glR at h
  split at h
  · cases h; exact Or.inl ⟨rfl, rfl⟩
  · cases h; exact Or.inr ⟨_, _, _, rfl, rfl⟩
  · cases h
set_option maxRecDepth 20000 in
theorem zero_ints (w : World) : (zeroValue 28).run Tryz.prog w = .ok (.slice none 0 0) w := by
  first | rfl | kernel_rfl | (simp [zeroValue, Tryz.underlying28, go_sem])
theorem inK_nrm {e : VT} (hg : e.good = true) (hr : e.room) : InK (nrm e) := by
  obtain ⟨k, n, d, x, t⟩ := e
  obtain ⟨h1, h2, h3⟩ := hr
  have hg' : goodV k n d x t = true := hg
  simp only at h1 h2 h3
  refine ⟨?_, ⟨h2, h3⟩, ?_, ?_⟩
  · show InJ k
    rcases goodV_kinds hg' with h | h | h | ⟨h, _⟩ | ⟨h, _⟩ <;> (subst h; exact ⟨by omega, by omega⟩)
  · show InJ x
    by_cases hk : k = 1
    · subst hk
      obtain ⟨g, _⟩ := goodV_num hg'
      unfold goodB at g
      split at g
      · simp at g; rw [g.2]; exact ⟨by omega, by omega⟩
      · have := of_decide_eq_true g
        exact ⟨by omega, by omega⟩
    · obtain ⟨_, _, h⟩ := goodV_zero hg' hk
      rw [h]; exact ⟨by omega, by omega⟩
  · show (t.map upC).length ≤ 2000000
    rw [List.length_map]; exact h1

theorem ownI_far {w w' : World} {base : Nat} {v : Value} {l : List Nat} {row : Option Nat} (h : OwnI w base v l) (hg : w.grownBy w' row) (hr : ∀ k, v.ownBlock = some k → some k ≠ row) : OwnI w' base v l := by
  refine ⟨h.1, h.2.imp id ?_⟩
  rintro ⟨g, cap, cur, h1, h2, h3, h4⟩
  have hlt : g < w.heap.size := by
    rcases Nat.lt_or_ge g w.heap.size with h' | h'
    · exact h'
    · rw [Array.getElem?_eq_none h'] at h3; cases h3
  exact ⟨g, cap, cur, h1, h2, by rw [hg.block g hlt (hr g (by rw [h1]; rfl))]; exact h3, h4⟩

/-- Four values. -/
structure QT where
  a : VT
  b : VT
  c : VT
  d : VT
abbrev QT.cells (K : QT) : List Value := [.int .i64 K.a.k, .bool K.a.n, .int .i64 K.a.d, .int .i64 K.a.x, sV K.a.t, .int .i64 K.b.k, .bool K.b.n, .int .i64 K.b.d, .int .i64 K.b.x, sV K.b.t, .int .i64 K.c.k, .bool K.c.n, .int .i64 K.c.d, .int .i64 K.c.x, sV K.c.t, .int .i64 K.d.k, .bool K.d.n, .int .i64 K.d.d, .int .i64 K.d.x, sV K.d.t]
abbrev QT.val (K : QT) : Value := .agg #[.int .i64 K.a.k, .bool K.a.n, .int .i64 K.a.d, .int .i64 K.a.x, sV K.a.t, .int .i64 K.b.k, .bool K.b.n, .int .i64 K.b.d, .int .i64 K.b.x, sV K.b.t, .int .i64 K.c.k, .bool K.c.n, .int .i64 K.c.d, .int .i64 K.c.x, sV K.c.t, .int .i64 K.d.k, .bool K.d.n, .int .i64 K.d.d, .int .i64 K.d.x, sV K.d.t]
theorem quad_law : WideMaps.KeyLaw Tryz.prog 68 :=
  deep_law (m := 5) (by decide) (by kernel_rfl) (by kernel_rfl) (by kernel_rfl)
theorem quadK : Maps.Keyed Tryz.prog 68 := Maps.Keyed.of_law quad_law
theorem mapQ_type : Tryz.prog.underlying 67 = some (.map 68 28) := by kernel_rfl
def InQ (K : QT) : Prop := InK K.a ∧ InK K.b ∧ InK K.c ∧ InK K.d
theorem val_lits {e : VT} (h : InK e) (N : Nat) : ∃ l, Tryz.prog.keyLits (N + 1 + 1 + 1) 50 [.int .i64 e.k, .bool e.n, .int .i64 e.d, .int .i64 e.x, sV e.t] = some l := by
  obtain ⟨k, n, d, x, t⟩ := e
  obtain ⟨hk, hd, hx, ht⟩ := h
  simp only at hk hd hx ht
  have hu := Tryz.underlying50
  have hv := Tryz.underlying48
  have h3 := Tryz.underlying3
  have h4 := Tryz.underlying4
  have h9 := Tryz.underlying9
  have hc : Tryz.prog.cellsOf 50 = 5 := by kernel_rfl
  have hcd : Tryz.prog.cellsOf 48 = 3 := by kernel_rfl
  have hc3 : Tryz.prog.cellsOf 3 = 1 := by kernel_rfl
  have hc4 : Tryz.prog.cellsOf 4 = 1 := by kernel_rfl
  have hc9 : Tryz.prog.cellsOf 9 = 1 := by kernel_rfl
  have m0 : IntKind.i64.min = -9223372036854775808 := by decide
  have m1 : IntKind.i64.max = 9223372036854775807 := by decide
  have wk : (Lit.int .i64 k).wf = true := by simp [Lit.wf, m0, m1]; omega
  have wd : (Lit.int .i64 d).wf = true := by simp [Lit.wf, m0, m1]; omega
  have wx : (Lit.int .i64 x).wf = true := by simp [Lit.wf, m0, m1]; omega
  have ws : (⟨t.toArray⟩ : ByteArray).size ≤ maxLen := by show t.toArray.size ≤ maxLen; unfold maxLen; simp; omega
  simp [Program.keyLits, hu, hv, h3, h4, h9, hc, hcd, hc3, hc4, hc9, wk, wd, wx, ws]
  rw [if_pos (fun i hi => by
    match i, hi with
    | 0, _ => simp
    | 1, _ => simp
    | 2, _ => simp)]
  exact ⟨_, rfl⟩
theorem quad_key {K : QT} (h : InQ K) : ∃ l, keyOf Tryz.prog 68 K.val = some l := by
  obtain ⟨h0, h1, h2, h3⟩ := h
  have hu := Tryz.underlying68
  have hT : Tryz.prog.keyType 68 = true := by kernel_rfl
  have hc : Tryz.prog.cellsOf 68 = 20 := by kernel_rfl
  have hcv : Tryz.prog.cellsOf 50 = 5 := by kernel_rfl
  obtain ⟨N, hN⟩ : ∃ N, Tryz.prog.types.size = N + 1 + 1 + 1 := ⟨_, rfl⟩
  obtain ⟨l0, e0⟩ := val_lits h0 N
  obtain ⟨l1, e1⟩ := val_lits h1 N
  obtain ⟨l2, e2⟩ := val_lits h2 N
  obtain ⟨l3, e3⟩ := val_lits h3 N
  have hf : K.val.formed Tryz.prog 68 = true := by simp [Value.formed, hc]
  have hr : List.range 4 = [0, 1, 2, 3] := rfl
  have main : ∃ l, Tryz.prog.keyLits (N + 1 + 1 + 1 + 1) 68 K.cells = some l := by
    unfold Program.keyLits
    simp only [hu, hc, hcv, hr, List.mapM_cons, List.mapM_nil]
    simp [e0, e1, e2, e3]
  obtain ⟨l, hl⟩ := main
  unfold keyOf
  rw [hu]
  simp only [hT, hf, hN]
  have hcs : K.val.cells.toList = K.cells := rfl
  rw [hcs, hl]
  exact ⟨_, rfl⟩
noncomputable def kqOf (K : QT) : Lit := (keyOf Tryz.prog 68 K.val).getD (.bool false)
theorem kqOf_key {K : QT} (h : InQ K) : keyOf Tryz.prog 68 K.val = some (kqOf K) := by
  obtain ⟨l, hl⟩ := quad_key h
  unfold kqOf
  rw [hl]
  rfl
theorem kqOf_inj {a b : QT} (ha : InQ a) (hb : InQ b) (h : kqOf a = kqOf b) : a = b := by
  have := quadK.inj (kqOf_key ha) (by rw [h]; exact kqOf_key hb)
  obtain ⟨⟨k1, n1, d1, x1, t1⟩, ⟨k2, n2, d2, x2, t2⟩, ⟨k3, n3, d3, x3, t3⟩, ⟨k4, n4, d4, x4, t4⟩⟩ := a
  obtain ⟨⟨k5, n5, d5, x5, t5⟩, ⟨k6, n6, d6, x6, t6⟩, ⟨k7, n7, d7, x7, t7⟩, ⟨k8, n8, d8, x8, t8⟩⟩ := b
  simpa [and_assoc] using this
instance decQT : DecidableEq QT := fun a b => decidable_of_iff (a.a = b.a ∧ a.b = b.b ∧ a.c = b.c ∧ a.d = b.d) (by cases a; cases b; simp)
set_option maxRecDepth 20000 in
theorem kqOf_lit {K : QT} (h : InQ K) : WideAt.IsKeyLit (kqOf K) := quadK.key (kqOf_key h)
noncomputable def isKq (K : QT) (k : Lit) : Bool := @decide (kqOf K = k) (Classical.propDecidable _)
theorem isKq_iff {K : QT} {k : Lit} : isKq K k = true ↔ kqOf K = k := by unfold isKq; exact @decide_eq_true_iff _ (Classical.propDecidable _)
theorem isKq_false {K : QT} {k : Lit} : isKq K k = false ↔ kqOf K ≠ k := by rw [← Bool.not_eq_true, isKq_iff]

def updQ (f : QT → Option GE) (K : QT) (e : GE) : QT → Option GE := fun Q => if K = Q then some e else f Q
theorem updQ_same (f : QT → Option GE) (K : QT) (e : GE) : updQ f K e K = some e := by unfold updQ; rw [if_pos rfl]
theorem updQ_other {f : QT → Option GE} {K Q : QT} {e : GE} (h : K ≠ Q) : updQ f K e Q = f Q := by unfold updQ; rw [if_neg h]
/-- What a map says of keys, and which it has. -/
def HoldsQ (D : DataW Unit) (f : QT → Option GE) (T : List QT) : Prop :=
  Maps.IsMap D ∧ (∀ k, Maps.has D k = T.any fun K => isKq K k) ∧ ∀ K, InQ K → ∀ z, D.atKey (kqOf K) z = match f K with | some e => e.d | none => z
/-- One more key, if it is new. -/
def addK (T : List QT) (K : QT) : List QT := if K ∈ T then T else T ++ [K]
set_option maxRecDepth 20000 in
theorem HoldsQ.put {D : DataW Unit} {f : QT → Option GE} {T : List QT} (h : HoldsQ D f T) {K : QT} (hK : InQ K) (e : GE) : HoldsQ (D.put (kqOf K) e.d) (updQ f K e) (addK T K) := by
  obtain ⟨h1, h2, h3⟩ := h
  refine ⟨h1.put _ _, fun j => ?_, fun Q hQ z => ?_⟩
  · unfold addK
    by_cases q : kqOf K = j
    · subst q
      rw [Maps.has_put_same h1 (kqOf_lit hK)]
      symm
      rw [List.any_eq_true]
      refine ⟨K, ?_, isKq_iff.2 rfl⟩
      by_cases m : K ∈ T
      · rw [if_pos m]; exact m
      · rw [if_neg m]; simp
    · rw [Maps.has_put_other (Ne.symm q), h2]
      by_cases m : K ∈ T
      · rw [if_pos m]
      · rw [if_neg m, List.any_append, List.any_cons, List.any_nil, isKq_false.2 q]
        simp
  · by_cases q : K = Q
    · subst q
      rw [Maps.atKey_put_same h1 (kqOf_lit hK), updQ_same]
    · rw [Maps.atKey_put_other (fun e => q (kqOf_inj hK hQ e.symm)), h3 Q hQ, updQ_other q]
/-- The map at m says so of keys, and holds at most n. -/
def MapQ (w : World) (m n : Nat) (f : QT → Option GE) (T : List QT) : Prop := ∃ D, w.ownsMap Tryz.prog 68 glR m n D ∧ HoldsQ D f T
theorem MapQ.lt {w : World} {m n : Nat} {f : QT → Option GE} {T : List QT} (h : MapQ w m n f T) : m < w.heap.size := by
  obtain ⟨D, h1, h2⟩ := h
  exact h1.lt
theorem MapQ.later {w w' : World} {m n : Nat} {f : QT → Option GE} {T : List QT} (h : MapQ w m n f T) (x : Ext w w') : MapQ w' m n f T := by
  obtain ⟨D, h1, h2⟩ := h
  have hlt := h1.lt
  obtain ⟨es, c, hb, h3⟩ := h1
  exact ⟨D, ⟨es, c, by rw [x.block m hlt]; exact hb, h3⟩, h2⟩
theorem MapQ.kept {w w' : World} {m n : Nat} {f : QT → Option GE} {T : List QT} {row : Option Nat} (h : MapQ w m n f T) (g : w.grownBy w' row) (hne : some m ≠ row) : MapQ w' m n f T := by
  obtain ⟨D, h1, h2⟩ := h
  exact ⟨D, h1.kept g hne, h2⟩
theorem MapQ.made (w : World) : MapQ (w.alloc (.map #[] 0)) w.heap.size 0 (fun _ => none) [] := ⟨_, World.ownsMap_made w _ _ _, ⟨⟨[], rfl⟩, fun _ => rfl, fun _ _ _ => rfl⟩⟩
set_option maxRecDepth 20000 in
theorem MapQ.put {w : World} {m n : Nat} {f : QT → Option GE} {T : List QT} (h : MapQ w m n f T) (hn : n ≤ 2000000) {K : QT} (hK : InQ K) (e : GE) :
    ∃ u, (Instr.mapUpdate 67 (.map (some m)) K.val e.sl).run Tryz.prog w = .ok () u ∧ MapQ u m (n + 1) (updQ f K e) (addK T K) ∧ w.grownBy u (some m) := by
  obtain ⟨D, h1, h2⟩ := h
  obtain ⟨u, r, o, g⟩ := h1.update quadK mapQ_type (show n < maxLen by unfold maxLen; omega) (kqOf_key hK) (glR_of e)
  exact ⟨u, r, ⟨_, o, h2.put hK e⟩, g⟩
def lookQ (f : QT → Option GE) (K : QT) : Value := match f K with | some e => e.sl | none => .slice none 0 0
set_option maxRecDepth 20000 in
theorem MapQ.look {w : World} {m n : Nat} {f : QT → Option GE} {T : List QT} (h : MapQ w m n f T) {K : QT} (hK : InQ K) :
    (Instr.lookup 67 (.map (some m)) K.val false).run Tryz.prog w = .ok (lookQ f K) w := by
  obtain ⟨D, h1, h2⟩ := h
  obtain ⟨v, ps, hrun, hv⟩ := h1.lookup quadK mapQ_type (zero_ints w) (show glR (.slice none 0 0) = some (.nil, []) from rfl) (kqOf_key hK)
  rw [hrun]
  congr 1
  rw [h2.2.2 K hK] at hv
  unfold lookQ
  cases hf : f K with
  | none =>
    rw [hf] at hv
    rcases glR_inv hv with ⟨rfl, _⟩ | ⟨g, n, c, rfl, e⟩
    · rfl
    · cases congrArg Prod.fst e
  | some q =>
    rw [hf] at hv
    rcases glR_inv hv with ⟨rfl, e⟩ | ⟨g, n, c, rfl, e⟩
    · cases congrArg Prod.fst e
    · have e1 := congrArg Prod.fst e
      simp [GE.d] at e1
      obtain ⟨a, b, c'⟩ := e1
      have a' : q.g = g := by omega
      have b' : q.ns.length = n := by omega
      have c'' : q.cp = c := by omega
      simp only
      rw [← a', ← b', ← c'']

end Go.Proofs.YtbomplppgobkdaaGreatDoor

