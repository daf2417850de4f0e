/-
  Chapter 8: ValueAt on both sides.
-/
import Derived.Test.YtliebgimaabhdaaS8d
import Derived.Deep.DeepCutAuto
namespace Go.Proofs.Ytliebgimaabhdaa
open Go.RowKit

def ST.here (e : ST) (r c : Int) : Bool := decide (e.r = r) && decide (e.c = c)
/-- What stands at a place: the first that says so, an empty one where none does. -/
def valAt (l : List ST) (r c : Int) : Value :=
  match l.find? (fun e => e.here r c) with
  | some e => valV e.k e.n e.d e.x e.t
  | none => valV 0 false 0 0 []
theorem valAt_found {l : List ST} {r c : Int} {k : Nat} {e : ST} (h0 : ∀ q ∈ l.take k, q.here r c = false) (he : l[k]? = some e) (hh : e.here r c = true) : valAt l r c = valV e.k e.n e.d e.x e.t := by
  have h1 : l.find? (fun e => e.here r c) = some e := by
    rw [← List.take_append_drop k l, List.find?_append]
    have : (l.take k).find? (fun e => e.here r c) = none := by
      rw [List.find?_eq_none]
      intro q hq
      rw [h0 q hq]
      decide
    rw [this, List.drop_eq_getElem_cons (List.getElem?_eq_some_iff.1 he).1, (List.getElem?_eq_some_iff.1 he).2]
    simp [hh]
  unfold valAt
  rw [h1]
theorem valAt_none {l : List ST} {r c : Int} (h0 : ∀ q ∈ l, q.here r c = false) : valAt l r c = valV 0 false 0 0 [] := by
  have h1 : l.find? (fun e => e.here r c) = none := by
    rw [List.find?_eq_none]
    intro q hq
    rw [h0 q hq]
    decide
  unfold valAt
  rw [h1]
theorem here_take {l : List ST} {r c : Int} {k : Nat} {e : ST} (h0 : ∀ q ∈ l.take k, q.here r c = false) (he : l[k]? = some e) (hh : e.here r c = false) : ∀ q ∈ l.take (k + 1), q.here r c = false := by
  intro q hq
  rw [List.take_add_one, he] at hq
  rcases List.mem_append.1 hq with hq | hq
  · exact h0 q hq
  · simp at hq
    rw [hq]
    exact hh
set_option maxRecDepth 8000 in
set_option maxHeartbeats 2000000 in
theorem valueAtI (v : Value) (l : List ST) (row col : Int) (w : World) (h : ShownsIn w v l) (hl : l.length ≤ 2000000) :
    Calls Try.prog 7 #[v, .int .i64 row, .int .i64 col] w fun e w' => e = .returned (valAt l row col) ∧ Ext w w' := by
  obtain ⟨p, cap, rfl, hcap, hrow⟩ := h
  obtain ⟨n, hn⟩ : ∃ n, l.length = n := ⟨_, rfl⟩
  have HN : Hid (l.length = n) := hn
  rw [hn] at hcap hl hrow ⊢
  have HRow : Hid (0 < n → ∃ b o, p = some ⟨b, o, none⟩ ∧ RowS w b o l) := hrow
  obtain ⟨R, hR⟩ : ∃ R, valAt l row col = R := ⟨_, rfl⟩
  have HR : Hid (valAt l row col = R) := hR
  rw [hR]
  have X0 := x1 w (.cells #[.int .i64 0, .bool false, .int .i64 0, .int .i64 0, sV []] 27)
  have B0 := vec_made w [.int .i64 0, .bool false, .int .i64 0, .int .i64 0, sV []] 27
  obtain ⟨wa, ha⟩ : ∃ wa, w.alloc (.cells #[.int .i64 0, .bool false, .int .i64 0, .int .i64 0, sV []] 27) = wa := ⟨_, rfl⟩
  change Vec (w.alloc (.cells #[.int .i64 0, .bool false, .int .i64 0, .int .i64 0, sV []] 27)) _ _ at B0
  rw [ha] at X0 B0
  clear hn hrow hR
  go_enter Try.func7, Try.ntmps7
  go_wp2_with fail
  clear ha
  go_loopw [11] (fun i wr => ∃ k : Nat, k ≤ n ∧ i = .int .i64 k ∧ Hid (∀ q ∈ l.take k, q.here row col = false) ∧ Vec wr w.heap.size [.int .i64 0, .bool false, .int .i64 0, .int .i64 0, sV []] ∧ Ext w wr) (fun i _ => n - (intOf i).toNat)
  case atStart => exact ⟨0, by omega, rfl, fun q hq => by simp at hq, B0, X0⟩
  case round =>
    clear B0 X0
    obtain ⟨k, hk, rfl, HK, B, X⟩ := hrel
    by_cases hlt : k < n
    · obtain ⟨e, he⟩ : ∃ e, l[k]? = some e := ⟨_, List.getElem?_eq_getElem (by rw [HN.out]; exact hlt)⟩
      obtain ⟨b, o, rfl, hR⟩ := HRow.out (by omega)
      obtain ⟨a0, a1, a2, a3, a4, a5, a6, a7⟩ := (hR.later X).all he
      have HE : Hid (l[k]? = some e) := he
      obtain ⟨er, ec, ek, en, ed, ex, et, eq⟩ := e
      have i2 : (k : Int) < (n : Int) := by omega
      clear hR he
      dsimp only at a0 a1 a2 a3 a4 a5 a6 a7
      have X1 := x1 wr (.cells #[.int .i64 er, .int .i64 ec, .int .i64 ek, .bool en, .int .i64 ed, .int .i64 ex, sV et, .bool eq] 41)
      have B1 := vec_made wr [.int .i64 er, .int .i64 ec, .int .i64 ek, .bool en, .int .i64 ed, .int .i64 ex, sV et, .bool eq] 41
      obtain ⟨wb, hb⟩ : ∃ wb, wr.alloc (.cells #[.int .i64 er, .int .i64 ec, .int .i64 ek, .bool en, .int .i64 ed, .int .i64 ex, sV et, .bool eq] 41) = wb := ⟨_, rfl⟩
      change Vec (wr.alloc (.cells #[.int .i64 er, .int .i64 ec, .int .i64 ek, .bool en, .int .i64 ed, .int .i64 ex, sV et, .bool eq] 41)) _ _ at B1
      rw [hb] at X1 B1
      have B2 := B.later X1
      have X2 := xt X X1
      clear B X X1
      have k0 := (B1 0 _ rfl).1
      have k1 := (B1 1 _ rfl).1
      have k2 := (B1 2 _ rfl).1
      have k3 := (B1 3 _ rfl).1
      have k4 := (B1 4 _ rfl).1
      have k5 := (B1 5 _ rfl).1
      have k6 := (B1 6 _ rfl).1
      by_cases hh : er = row ∧ ec = col
      · obtain ⟨rfl, rfl⟩ := hh
        have HV : Hid (R = valV ek en ed ex et) := by show R = _; rw [← HR.out]; exact valAt_found HK.out HE.out (by simp [ST.here])
        have y0 := (B2 0 _ rfl).1
        have z0 := (B2 0 _ rfl).2
        have y1 := (B2 1 _ rfl).1
        have z1 := (B2 1 _ rfl).2
        have y2 := (B2 2 _ rfl).1
        have z2 := (B2 2 _ rfl).2
        have y3 := (B2 3 _ rfl).1
        have z3 := (B2 3 _ rfl).2
        have y4 := (B2 4 _ rfl).1
        have z4 := (B2 4 _ rfl).2
        obtain ⟨wy, hy⟩ : ∃ wy, (((((wb.setCell ⟨w.heap.size, 0, none⟩ (.int .i64 ek)).setCell ⟨w.heap.size, 1, none⟩ (.bool en)).setCell ⟨w.heap.size, 2, none⟩ (.int .i64 ed)).setCell ⟨w.heap.size, 3, none⟩ (.int .i64 ex)).setCell ⟨w.heap.size, 4, none⟩ (sV et)) = wy := ⟨_, rfl⟩
        have G : Vec (((((wb.setCell ⟨w.heap.size, 0, none⟩ (.int .i64 ek)).setCell ⟨w.heap.size, 1, none⟩ (.bool en)).setCell ⟨w.heap.size, 2, none⟩ (.int .i64 ed)).setCell ⟨w.heap.size, 3, none⟩ (.int .i64 ex)).setCell ⟨w.heap.size, 4, none⟩ (sV et)) w.heap.size [.int .i64 ek, .bool en, .int .i64 ed, .int .i64 ex, sV et] := (((((B2.put 0 (by simp) (.int .i64 ek)).put 1 (by simp) (.bool en)).put 2 (by simp) (.int .i64 ed)).put 3 (by simp) (.int .i64 ex)).put 4 (by simp) (sV et))
        have FX := (xset (xset (xset (xset (xset X2 (p := ⟨w.heap.size, 0, none⟩) (Nat.le_refl _) (.int .i64 ek)) (p := ⟨w.heap.size, 1, none⟩) (Nat.le_refl _) (.bool en)) (p := ⟨w.heap.size, 2, none⟩) (Nat.le_refl _) (.int .i64 ed)) (p := ⟨w.heap.size, 3, none⟩) (Nat.le_refl _) (.int .i64 ex)) (p := ⟨w.heap.size, 4, none⟩) (Nat.le_refl _) (sV et))
        rw [hy] at G FX
        have fd0 := (G 0 _ rfl).1
        have fd1 := (G 1 _ rfl).1
        have fd2 := (G 2 _ rfl).1
        have fd3 := (G 3 _ rfl).1
        have fd4 := (G 4 _ rfl).1
        clear G B1 B2 X2 HK HE
        go_wp2_with fail
        exact bodyPost_ret (v := valV ek en ed ex et) (by simp [results, Try.results7, go_sem, fd0, fd1, fd2, fd3, fd4]) rfl ⟨congrArg _ HV.out.symm, FX⟩
      · have HH : Hid (∀ q ∈ l.take (k + 1), q.here row col = false) := here_take HK.out HE.out (by simpa [ST.here] using hh)
        clear HK HE
        by_cases hr : er = row
        · subst hr
          have hc : ¬ ec = col := fun e => hh ⟨rfl, e⟩
          clear hh
          go_wp2_with fail
          go_roundw
          case rel => exact ⟨k + 1, by omega, by go_num, HH, B2, X2⟩
          case measure => simp [intOf]; omega
        · clear hh
          go_wp2_with fail
          go_roundw
          case rel => exact ⟨k + 1, by omega, by go_num, HH, B2, X2⟩
          case measure => simp [intOf]; omega
    · obtain rfl : k = n := by omega
      have HV : Hid (R = valV 0 false 0 0 []) := by
        show R = _
        rw [← HR.out]
        refine valAt_none fun q hq => HK.out q ?_
        rw [List.take_of_length_le (by rw [HN.out]; exact Nat.le_refl _)]
        exact hq
      have y0 := (B 0 _ rfl).1
      have z0 := (B 0 _ rfl).2
      have y1 := (B 1 _ rfl).1
      have z1 := (B 1 _ rfl).2
      have y2 := (B 2 _ rfl).1
      have z2 := (B 2 _ rfl).2
      have y3 := (B 3 _ rfl).1
      have z3 := (B 3 _ rfl).2
      have y4 := (B 4 _ rfl).1
      have z4 := (B 4 _ rfl).2
      obtain ⟨wy, hy⟩ : ∃ wy, (((((wr.setCell ⟨w.heap.size, 0, none⟩ (.int .i64 0)).setCell ⟨w.heap.size, 1, none⟩ (.bool false)).setCell ⟨w.heap.size, 2, none⟩ (.int .i64 0)).setCell ⟨w.heap.size, 3, none⟩ (.int .i64 0)).setCell ⟨w.heap.size, 4, none⟩ (sV [])) = wy := ⟨_, rfl⟩
      have G : Vec (((((wr.setCell ⟨w.heap.size, 0, none⟩ (.int .i64 0)).setCell ⟨w.heap.size, 1, none⟩ (.bool false)).setCell ⟨w.heap.size, 2, none⟩ (.int .i64 0)).setCell ⟨w.heap.size, 3, none⟩ (.int .i64 0)).setCell ⟨w.heap.size, 4, none⟩ (sV [])) w.heap.size [.int .i64 0, .bool false, .int .i64 0, .int .i64 0, sV []] := (((((B.put 0 (by simp) (.int .i64 0)).put 1 (by simp) (.bool false)).put 2 (by simp) (.int .i64 0)).put 3 (by simp) (.int .i64 0)).put 4 (by simp) (sV []))
      have FX := (xset (xset (xset (xset (xset X (p := ⟨w.heap.size, 0, none⟩) (Nat.le_refl _) (.int .i64 0)) (p := ⟨w.heap.size, 1, none⟩) (Nat.le_refl _) (.bool false)) (p := ⟨w.heap.size, 2, none⟩) (Nat.le_refl _) (.int .i64 0)) (p := ⟨w.heap.size, 3, none⟩) (Nat.le_refl _) (.int .i64 0)) (p := ⟨w.heap.size, 4, none⟩) (Nat.le_refl _) (sV []))
      rw [hy] at G FX
      have fd0 := (G 0 _ rfl).1
      have fd1 := (G 1 _ rfl).1
      have fd2 := (G 2 _ rfl).1
      have fd3 := (G 3 _ rfl).1
      have fd4 := (G 4 _ rfl).1
      clear G B X HK
      go_wp2_with fail
      exact bodyPost_ret (v := valV 0 false 0 0 []) (by simp [results, Try.results7, go_sem, fd0, fd1, fd2, fd3, fd4]) rfl ⟨congrArg _ HV.out.symm, FX⟩
set_option maxRecDepth 8000 in
set_option maxHeartbeats 2000000 in
theorem valueAtS (v : Value) (l : List ST) (row col : Int) (w : World) (h : ShownsIn w v l) (hl : l.length ≤ 2000000) :
    Calls Try.prog 5 #[v, .int .i64 row, .int .i64 col] w fun e w' => e = .returned (valAt l row col) ∧ Ext w w' := by
  obtain ⟨p, cap, rfl, hcap, hrow⟩ := h
  obtain ⟨n, hn⟩ : ∃ n, l.length = n := ⟨_, rfl⟩
  have HN : Hid (l.length = n) := hn
  rw [hn] at hcap hl hrow ⊢
  have HRow : Hid (0 < n → ∃ b o, p = some ⟨b, o, none⟩ ∧ RowS w b o l) := hrow
  obtain ⟨R, hR⟩ : ∃ R, valAt l row col = R := ⟨_, rfl⟩
  have HR : Hid (valAt l row col = R) := hR
  rw [hR]
  have X0 := x1 w (.cells #[.int .i64 0, .bool false, .int .i64 0, .int .i64 0, sV []] 27)
  have B0 := vec_made w [.int .i64 0, .bool false, .int .i64 0, .int .i64 0, sV []] 27
  obtain ⟨wa, ha⟩ : ∃ wa, w.alloc (.cells #[.int .i64 0, .bool false, .int .i64 0, .int .i64 0, sV []] 27) = wa := ⟨_, rfl⟩
  change Vec (w.alloc (.cells #[.int .i64 0, .bool false, .int .i64 0, .int .i64 0, sV []] 27)) _ _ at B0
  rw [ha] at X0 B0
  clear hn hrow hR
  go_enter Try.func5, Try.ntmps5
  go_wp2_with fail
  clear ha
  go_loopw [11] (fun i wr => ∃ k : Nat, k ≤ n ∧ i = .int .i64 k ∧ Hid (∀ q ∈ l.take k, q.here row col = false) ∧ Vec wr w.heap.size [.int .i64 0, .bool false, .int .i64 0, .int .i64 0, sV []] ∧ Ext w wr) (fun i _ => n - (intOf i).toNat)
  case atStart => exact ⟨0, by omega, rfl, fun q hq => by simp at hq, B0, X0⟩
  case round =>
    clear B0 X0
    obtain ⟨k, hk, rfl, HK, B, X⟩ := hrel
    by_cases hlt : k < n
    · obtain ⟨e, he⟩ : ∃ e, l[k]? = some e := ⟨_, List.getElem?_eq_getElem (by rw [HN.out]; exact hlt)⟩
      obtain ⟨b, o, rfl, hR⟩ := HRow.out (by omega)
      obtain ⟨a0, a1, a2, a3, a4, a5, a6, a7⟩ := (hR.later X).all he
      have HE : Hid (l[k]? = some e) := he
      obtain ⟨er, ec, ek, en, ed, ex, et, eq⟩ := e
      have i2 : (k : Int) < (n : Int) := by omega
      clear hR he
      dsimp only at a0 a1 a2 a3 a4 a5 a6 a7
      have X1 := x1 wr (.cells #[.int .i64 er, .int .i64 ec, .int .i64 ek, .bool en, .int .i64 ed, .int .i64 ex, sV et, .bool eq] 41)
      have B1 := vec_made wr [.int .i64 er, .int .i64 ec, .int .i64 ek, .bool en, .int .i64 ed, .int .i64 ex, sV et, .bool eq] 41
      obtain ⟨wb, hb⟩ : ∃ wb, wr.alloc (.cells #[.int .i64 er, .int .i64 ec, .int .i64 ek, .bool en, .int .i64 ed, .int .i64 ex, sV et, .bool eq] 41) = wb := ⟨_, rfl⟩
      change Vec (wr.alloc (.cells #[.int .i64 er, .int .i64 ec, .int .i64 ek, .bool en, .int .i64 ed, .int .i64 ex, sV et, .bool eq] 41)) _ _ at B1
      rw [hb] at X1 B1
      have B2 := B.later X1
      have X2 := xt X X1
      clear B X X1
      have k0 := (B1 0 _ rfl).1
      have k1 := (B1 1 _ rfl).1
      have k2 := (B1 2 _ rfl).1
      have k3 := (B1 3 _ rfl).1
      have k4 := (B1 4 _ rfl).1
      have k5 := (B1 5 _ rfl).1
      have k6 := (B1 6 _ rfl).1
      by_cases hh : er = row ∧ ec = col
      · obtain ⟨rfl, rfl⟩ := hh
        have HV : Hid (R = valV ek en ed ex et) := by show R = _; rw [← HR.out]; exact valAt_found HK.out HE.out (by simp [ST.here])
        have y0 := (B2 0 _ rfl).1
        have z0 := (B2 0 _ rfl).2
        have y1 := (B2 1 _ rfl).1
        have z1 := (B2 1 _ rfl).2
        have y2 := (B2 2 _ rfl).1
        have z2 := (B2 2 _ rfl).2
        have y3 := (B2 3 _ rfl).1
        have z3 := (B2 3 _ rfl).2
        have y4 := (B2 4 _ rfl).1
        have z4 := (B2 4 _ rfl).2
        obtain ⟨wy, hy⟩ : ∃ wy, (((((wb.setCell ⟨w.heap.size, 0, none⟩ (.int .i64 ek)).setCell ⟨w.heap.size, 1, none⟩ (.bool en)).setCell ⟨w.heap.size, 2, none⟩ (.int .i64 ed)).setCell ⟨w.heap.size, 3, none⟩ (.int .i64 ex)).setCell ⟨w.heap.size, 4, none⟩ (sV et)) = wy := ⟨_, rfl⟩
        have G : Vec (((((wb.setCell ⟨w.heap.size, 0, none⟩ (.int .i64 ek)).setCell ⟨w.heap.size, 1, none⟩ (.bool en)).setCell ⟨w.heap.size, 2, none⟩ (.int .i64 ed)).setCell ⟨w.heap.size, 3, none⟩ (.int .i64 ex)).setCell ⟨w.heap.size, 4, none⟩ (sV et)) w.heap.size [.int .i64 ek, .bool en, .int .i64 ed, .int .i64 ex, sV et] := (((((B2.put 0 (by simp) (.int .i64 ek)).put 1 (by simp) (.bool en)).put 2 (by simp) (.int .i64 ed)).put 3 (by simp) (.int .i64 ex)).put 4 (by simp) (sV et))
        have FX := (xset (xset (xset (xset (xset X2 (p := ⟨w.heap.size, 0, none⟩) (Nat.le_refl _) (.int .i64 ek)) (p := ⟨w.heap.size, 1, none⟩) (Nat.le_refl _) (.bool en)) (p := ⟨w.heap.size, 2, none⟩) (Nat.le_refl _) (.int .i64 ed)) (p := ⟨w.heap.size, 3, none⟩) (Nat.le_refl _) (.int .i64 ex)) (p := ⟨w.heap.size, 4, none⟩) (Nat.le_refl _) (sV et))
        rw [hy] at G FX
        have fd0 := (G 0 _ rfl).1
        have fd1 := (G 1 _ rfl).1
        have fd2 := (G 2 _ rfl).1
        have fd3 := (G 3 _ rfl).1
        have fd4 := (G 4 _ rfl).1
        clear G B1 B2 X2 HK HE
        go_wp2_with fail
        exact bodyPost_ret (v := valV ek en ed ex et) (by simp [results, Try.results5, go_sem, fd0, fd1, fd2, fd3, fd4]) rfl ⟨congrArg _ HV.out.symm, FX⟩
      · have HH : Hid (∀ q ∈ l.take (k + 1), q.here row col = false) := here_take HK.out HE.out (by simpa [ST.here] using hh)
        clear HK HE
        by_cases hr : er = row
        · subst hr
          have hc : ¬ ec = col := fun e => hh ⟨rfl, e⟩
          clear hh
          go_wp2_with fail
          go_roundw
          case rel => exact ⟨k + 1, by omega, by go_num, HH, B2, X2⟩
          case measure => simp [intOf]; omega
        · clear hh
          go_wp2_with fail
          go_roundw
          case rel => exact ⟨k + 1, by omega, by go_num, HH, B2, X2⟩
          case measure => simp [intOf]; omega
    · obtain rfl : k = n := by omega
      have HV : Hid (R = valV 0 false 0 0 []) := by
        show R = _
        rw [← HR.out]
        refine valAt_none fun q hq => HK.out q ?_
        rw [List.take_of_length_le (by rw [HN.out]; exact Nat.le_refl _)]
        exact hq
      have y0 := (B 0 _ rfl).1
      have z0 := (B 0 _ rfl).2
      have y1 := (B 1 _ rfl).1
      have z1 := (B 1 _ rfl).2
      have y2 := (B 2 _ rfl).1
      have z2 := (B 2 _ rfl).2
      have y3 := (B 3 _ rfl).1
      have z3 := (B 3 _ rfl).2
      have y4 := (B 4 _ rfl).1
      have z4 := (B 4 _ rfl).2
      obtain ⟨wy, hy⟩ : ∃ wy, (((((wr.setCell ⟨w.heap.size, 0, none⟩ (.int .i64 0)).setCell ⟨w.heap.size, 1, none⟩ (.bool false)).setCell ⟨w.heap.size, 2, none⟩ (.int .i64 0)).setCell ⟨w.heap.size, 3, none⟩ (.int .i64 0)).setCell ⟨w.heap.size, 4, none⟩ (sV [])) = wy := ⟨_, rfl⟩
      have G : Vec (((((wr.setCell ⟨w.heap.size, 0, none⟩ (.int .i64 0)).setCell ⟨w.heap.size, 1, none⟩ (.bool false)).setCell ⟨w.heap.size, 2, none⟩ (.int .i64 0)).setCell ⟨w.heap.size, 3, none⟩ (.int .i64 0)).setCell ⟨w.heap.size, 4, none⟩ (sV [])) w.heap.size [.int .i64 0, .bool false, .int .i64 0, .int .i64 0, sV []] := (((((B.put 0 (by simp) (.int .i64 0)).put 1 (by simp) (.bool false)).put 2 (by simp) (.int .i64 0)).put 3 (by simp) (.int .i64 0)).put 4 (by simp) (sV []))
      have FX := (xset (xset (xset (xset (xset X (p := ⟨w.heap.size, 0, none⟩) (Nat.le_refl _) (.int .i64 0)) (p := ⟨w.heap.size, 1, none⟩) (Nat.le_refl _) (.bool false)) (p := ⟨w.heap.size, 2, none⟩) (Nat.le_refl _) (.int .i64 0)) (p := ⟨w.heap.size, 3, none⟩) (Nat.le_refl _) (.int .i64 0)) (p := ⟨w.heap.size, 4, none⟩) (Nat.le_refl _) (sV []))
      rw [hy] at G FX
      have fd0 := (G 0 _ rfl).1
      have fd1 := (G 1 _ rfl).1
      have fd2 := (G 2 _ rfl).1
      have fd3 := (G 3 _ rfl).1
      have fd4 := (G 4 _ rfl).1
      clear G B X HK
      go_wp2_with fail
      exact bodyPost_ret (v := valV 0 false 0 0 []) (by simp [results, Try.results5, go_sem, fd0, fd1, fd2, fd3, fd4]) rfl ⟨congrArg _ HV.out.symm, FX⟩

end Go.Proofs.Ytliebgimaabhdaa
