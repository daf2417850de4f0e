/-
  Chapter 6: values handed over, compared, row by row.
-/
import Derived.Test.YtemmeglmcbehfaaDoorV7b
namespace Go.Proofs.YtemmeglmcbehfaaDoor
open Go.RowKit

theorem infoV : (Tryd.prog.info? 68).map (fun i => (i.zero, i.size, i.bytes)) = some (some (.agg #[.int .i64 0, .bool false, .int .i64 0, .int .i64 0, sV []]), 5, 48) := by kernel_rfl
theorem makeRowV (n : Nat) (hn : n ≤ 2000000) (w : World) :
    (Instr.makeSlice 32 (.int .i64 (n : Int)) (.int .i64 (n : Int))).run Tryd.prog w = .ok (.slice (some ⟨w.heap.size, 0, none⟩) n n) (w.alloc (.cells (madeCells #[.int .i64 0, .bool false, .int .i64 0, .int .i64 0, sV []] (n * 5)) 68)) := by
  obtain ⟨i, hi, hzz⟩ := Option.map_eq_some_iff.1 infoV
  simp only [Prod.mk.injEq] at hzz
  obtain ⟨hz, hs, hb⟩ := hzz
  have hr := run_make (P := Tryd.prog) w 32 68 i _ Tryd.underlying32 hi hz .i64 .i64 n n (by omega) (Int.le_refl _) (by rw [hb]; omega) (by omega)
  simp only [Int.toNat_natCast, hs] at hr
  exact hr
/-- What is handed over by an index. -/
def mixV (l : List VT) (k : Nat) : List VT := l.take k ++ List.replicate (l.length - k) zeroVT
theorem mixV_length (l : List VT) (k : Nat) (h : k ≤ l.length) : (mixV l k).length = l.length := by simp [mixV]; omega
theorem mixV_zero (l : List VT) : mixV l 0 = List.replicate l.length zeroVT := by simp [mixV]
theorem mixV_all (l : List VT) : mixV l l.length = l := by simp [mixV]
theorem mixV_at {l : List VT} {k : Nat} (h : k < l.length) : (mixV l k)[k]? = some zeroVT := by
  unfold mixV
  rw [List.getElem?_append_right (by simp; omega), List.getElem?_replicate, if_pos (by rw [List.length_take]; omega)]
theorem mixV_succ {l : List VT} {k : Nat} {e : VT} (h : l[k]? = some e) : (mixV l k).set k e = mixV l (k + 1) := by
  have hk : k < l.length := (List.getElem?_eq_some_iff.1 h).1
  apply List.ext_getElem?
  intro i
  rw [List.getElem?_set]
  unfold mixV
  by_cases e1 : k = i
  · subst e1
    rw [if_pos rfl, if_pos (by simp; omega), List.getElem?_append_left (by simp; omega), List.getElem?_take, if_pos (by omega), h]
  · rw [if_neg e1]
    rcases Nat.lt_or_ge i k with hi | hi
    · rw [List.getElem?_append_left (by simp; omega), List.getElem?_append_left (by simp; omega), List.getElem?_take, List.getElem?_take, if_pos hi, if_pos (by omega)]
    · rw [List.getElem?_append_right (by simp; omega), List.getElem?_append_right (by simp; omega), List.getElem?_replicate, List.getElem?_replicate]
      simp only [List.length_take]
      by_cases h2 : i < l.length
      · rw [if_pos (by omega), if_pos (by omega)]
      · rw [if_neg (by omega), if_neg (by omega)]

set_option maxRecDepth 8000 in
set_option maxHeartbeats 1000000 in
theorem toVals (v : Value) (l : List VT) (w : World) (h : ValsIn w v l) (hl : l.length ≤ 2000000) :
    Calls Tryd.prog 17 #[v] w fun e w' => (∃ g, e = .returned (.slice (some ⟨g, 0, none⟩) l.length l.length) ∧ w.heap.size ≤ g ∧ OwnV w' g l) ∧ Ext w w' := by
  obtain ⟨p, cap, rfl, hcap, hrow⟩ := h
  obtain ⟨n, hn⟩ : ∃ n, l.length = n := ⟨_, rfl⟩
  have HN : Hid (l.length = n) := hn
  have hmk := makeRowV n (by omega)
  have O0 := OwnV.made w n 68
  have X0 := x1 w (.cells (madeCells #[.int .i64 0, .bool false, .int .i64 0, .int .i64 0, sV []] (n * 5)) 68)
  rw [hn] at hcap hl hrow ⊢
  have HRow : Hid (0 < n → ∃ b o, p = some ⟨b, o, none⟩ ∧ RowV w b o l) := hrow
  obtain ⟨wa, ha⟩ : ∃ wa, w.alloc (.cells (madeCells #[.int .i64 0, .bool false, .int .i64 0, .int .i64 0, sV []] (n * 5)) 68) = wa := ⟨_, rfl⟩
  rw [ha] at O0 X0
  have HO : Hid (OwnV wa w.heap.size (mixV l 0)) := by show OwnV _ _ _; rw [mixV_zero, hn]; exact O0
  obtain ⟨g, hg⟩ : ∃ g, w.heap.size = g := ⟨_, rfl⟩
  have HG : Hid (w.heap.size ≤ g) := by show _ ≤ _; omega
  rw [hg] at HO
  clear hn hrow O0
  go_enter Tryd.func17, Tryd.ntmps17
  go_wp2_with fail
  clear hmk ha
  go_loopw [4] (fun i wr => ∃ k : Nat, k ≤ n ∧ i = .int .i64 k ∧ Hid (OwnV wr g (mixV l k)) ∧ Ext w wr) (fun i _ => n - (intOf i).toNat)
  case atStart => exact ⟨0, by omega, rfl, HO, X0⟩
  case round =>
    obtain ⟨k, hk, rfl, HK, X⟩ := hrel
    by_cases hlt : k < n
    · obtain ⟨e, he⟩ : ∃ e, l[k]? = some e := ⟨_, List.getElem?_eq_getElem (by rw [HN.out]; exact hlt)⟩
      obtain ⟨b, o, rfl, hR⟩ := HRow.out (by omega)
      obtain ⟨a0, a1, a2, a3, a4⟩ := (hR.later X).five he
      have HP : Hid (∀ W, OwnV W g (mixV l k) → OwnV (((((W.setCell ⟨g, k * 5, none⟩ (.int .i64 e.k)).setCell ⟨g, k * 5 + 1, none⟩ (.bool e.n)).setCell ⟨g, k * 5 + 2, none⟩ (.int .i64 e.d)).setCell ⟨g, k * 5 + 3, none⟩ (.int .i64 e.x)).setCell ⟨g, k * 5 + 4, none⟩ (sV e.t)) g (mixV l (k + 1))) := fun W hW => by
        rw [← mixV_succ he]
        exact hW.put (by rw [mixV_length _ _ (by rw [HN.out]; exact hk), HN.out]; exact hlt) e
      obtain ⟨ek, en, ed, ex, et⟩ := e
      have i2 : (k : Int) < (n : Int) := by omega
      clear hR he
      dsimp only at a0 a1 a2 a3 a4 HP
      go_wp2_with fail
      clear a0 a1 a2 a3 a4
      refine (toValue ek en ed ex et _).mono ?_
      rintro r w' ⟨rfl, E⟩
      have HK' := HK.out.later E
      obtain ⟨⟨b0, b1, b2, b3, b4⟩, f0, f1, f2, f3, f4⟩ := HK'.five (mixV_at (by rw [HN.out]; exact hlt))
      have X' := xt X E
      obtain ⟨wy, hy⟩ : ∃ wy, ((((w'.setCell ⟨g, k * 5, none⟩ (.int .i64 ek)).setCell ⟨g, k * 5 + 1, none⟩ (.bool en)).setCell ⟨g, k * 5 + 2, none⟩ (.int .i64 ed)).setCell ⟨g, k * 5 + 3, none⟩ (.int .i64 ex)).setCell ⟨g, k * 5 + 4, none⟩ (sV et) = wy := ⟨_, rfl⟩
      have HQ : Hid (OwnV wy g (mixV l (k + 1))) := by show OwnV _ _ _; rw [← hy]; exact HP.out _ HK'
      have HX : Hid (Ext w wy) := by
        show Ext _ _
        rw [← hy]
        exact xset (xset (xset (xset (xset X' HG.out _) HG.out _) HG.out _) HG.out _) HG.out _
      clear HK' HK HP X X' E
      go_wp2_with fail
      go_roundw
      case rel => exact ⟨k + 1, by omega, by go_num, HQ, HX.out⟩
      case measure => simp [intOf]; omega
    · obtain rfl : k = n := by omega
      have HF : Hid (OwnV wr g l) := by have := HK.out; rw [← HN.out, mixV_all] at this; exact this
      clear HK
      go_wp2_with fail
      go_ret
      exact ⟨⟨g, rfl, HG.out, HF.out⟩, X⟩

end Go.Proofs.YtemmeglmcbehfaaDoor
