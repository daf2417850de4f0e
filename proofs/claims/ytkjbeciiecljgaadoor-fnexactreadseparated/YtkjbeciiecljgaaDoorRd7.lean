/-
  Chapter 14: all rows, by the program.
-/
import Derived.Test.YtkjbeciiecljgaaDoorRd6
import Derived.Test.YtkjbeciiecljgaaDoorMk14
import Derived.Lib.AppendZeros
namespace Go.Proofs.YtkjbeciiecljgaaDoor
open Go.RowKit

/-- What the program answers of all rows. -/
def rdA (e1 e2 v : Value) (R : RU) : Value :=
  if R.e = 0 then .tuple #[v, .nilIface] else .tuple #[.slice none 0 0, faultV (if R.e = 1 then e1 else e2) R.at']
theorem rdA_ok (e1 e2 v : Value) (L : List (List (List UInt8))) : rdA e1 e2 v ⟨0, 0, L⟩ = .tuple #[v, .nilIface] := rfl
set_option maxRecDepth 8000 in
set_option maxHeartbeats 1000000 in
theorem readRange (t mk : List UInt8) (t3 : TypeId) (p3 : Value) (w : World) (hn : 20000 < t.length ∨ isMk mk = false)
    (he : w.cell? ⟨0, 0, none⟩ = some (.iface t3 p3)) :
    Calls Tryd.prog 11 #[sV t, sV mk] w fun e w' => e = .returned (.tuple #[.slice none 0 0, .iface t3 p3]) ∧ Ext w w' := by
  have CM := fun W => markI14 mk W
  have hsz : (⟨t.toArray⟩ : ByteArray).size = t.length := rfl
  obtain ⟨n, hN⟩ : ∃ n, t.length = n := ⟨_, rfl⟩
  rw [hN] at hsz hn
  by_cases hl : 20000 < n
  · have g1 : (20000 : Int) < (n : Int) := by omega
    clear hn
    go_enter Tryd.func11, Tryd.ntmps11
    go_wp2_with fail
    go_quiet (fail)
    go_wp2_with fail
    exact bodyPost_ret (v := .tuple #[.slice none 0 0, .iface t3 p3]) (by simp [results, Tryd.results11, go_sem]) rfl ⟨rfl, xdNr (xr _) _⟩
  · have hmk : isMk mk = false := by rcases hn with h | h; · omega
                                     · exact h
    rw [hmk] at CM
    have g1 : (n : Int) ≤ 20000 := by omega
    clear hn
    go_enter Tryd.func11, Tryd.ntmps11
    go_wp2_with fail
    refine (CM _).mono ?_
    rintro _ w1 ⟨rfl, rfl⟩
    go_wp2_with fail
    go_quiet (fail)
    go_wp2_with fail
    exact bodyPost_ret (v := .tuple #[.slice none 0 0, .iface t3 p3]) (by simp [results, Tryd.results11, go_sem]) rfl ⟨rfl, xdNr (xr _) _⟩
theorem fieldU_bad {m : UInt8} {s : List UInt8} {e n : Nat} (h : fieldU m s = .bad e n) : (e = 1 ∨ e = 2) ∧ n ≤ s.length := by
  unfold fieldU at h
  split at h
  · split at h
    · cases h; exact ⟨.inl rfl, by simp⟩
    · next f' n' hq =>
      have := quoU_le _ _ _ hq
      split at h
      · cases h
      · cases h; exact ⟨.inr rfl, by simp; omega⟩
  · split at h
    · cases h; exact ⟨.inr rfl, plnU_le m s⟩
    · cases h
theorem rowU_bad (m : UInt8) (t : List UInt8) : ∀ (k i : Nat) (row : List (List UInt8)) (e n : Nat), i ≤ t.length → t.length + 1 ≤ i + k → rowU m t k i row = .bad e n → (e = 1 ∨ e = 2) ∧ n ≤ t.length
  | 0, i, _, _, _, hi, hk, _ => by omega
  | k + 1, i, row, e, n, hi, hk, h => by
    unfold rowU at h
    split at h
    · next e' n' hf =>
      cases h
      have := fieldU_bad hf
      rw [List.length_drop] at this
      exact ⟨this.1, by omega⟩
    · next f n' hf =>
      have h1 := (fieldU_le hf).1
      rw [List.length_drop] at h1
      split at h
      · next hp =>
        have h3 : i + n' + 1 ≤ t.length := by
          rw [pfxB_one] at hp
          rcases Nat.lt_or_ge (i + n') t.length with h' | h'
          · omega
          · rw [List.drop_of_length_le h'] at hp; simp at hp
        exact rowU_bad m t k (i + n' + 1) (row ++ [f]) e n h3 (by omega) h
      · cases h
/-- Behind a row. -/
def nextU (m : UInt8) (t : List UInt8) (g : Nat) (L : List (List (List UInt8))) : WU → RU
  | .bad e n => ⟨e, n, []⟩
  | .ok l n => rowsU m t g n (L ++ [l])
theorem rowsU_next {m : UInt8} {t : List UInt8} {g i : Nat} {L : List (List (List UInt8))} (h : i < t.length) : rowsU m t (g + 1) i L = nextU m t g L (rowU m t (t.length - i + 1) i []) := by
  conv => lhs; unfold rowsU
  rw [if_neg (by omega)]
  cases rowU m t (t.length - i + 1) i [] <;> rfl
theorem own_base {w : World} {a b sz n : Nat} {e : TypeId} {v : Value} {l : List Value} (h : w.ownsRow a e sz v n l) (hb : b ≤ a) : w.ownsRow b e sz v n l := by
  refine ⟨h.1, h.2.imp id ?_⟩
  rintro ⟨g, cap, cur, h1, h2, h3, h4⟩
  exact ⟨g, cap, cur, h1, by omega, h3, h4⟩
set_option maxRecDepth 8000 in
set_option maxHeartbeats 4000000 in
theorem readGood (t : List UInt8) (m : UInt8) (t1 : TypeId) (p1 : Value) (t2 : TypeId) (p2 : Value) (w : World) (ht : t.length ≤ 20000) (hmk : isMk [m] = true) (hm : m.toNat < 128)
    (he : Flt w t1 p1 t2 p2) (hb : 9 ≤ w.heap.size) :
    Calls Tryd.prog 11 #[sV t, sV [m]] w fun e w' => ∃ v,
      e = .returned (rdA (.iface t1 p1) (.iface t2 p2) v (rowsU m t (t.length + 1) 0 [])) ∧ RowsX w' (w.heap.size + 1) v (rowsU m t (t.length + 1) 0 []).rows ∧ Ext w w' := by
  have CM := fun W => markI14 [m] W
  rw [hmk] at CM
  have hsz : (⟨t.toArray⟩ : ByteArray).size = t.length := rfl
  have HTN : Hid (t.length ≤ 20000) := ht
  obtain ⟨n, hN⟩ : ∃ n, t.length = n := ⟨_, rfl⟩
  rw [hN] at hsz ht
  have g1 : (n : Int) ≤ 20000 := by omega
  have HM : Hid (m.toNat < 128 ∧ Flt w t1 p1 t2 p2 ∧ 9 ≤ w.heap.size) := ⟨hm, he, hb⟩
  obtain ⟨R, hR⟩ : ∃ R, rowsU m t (t.length + 1) 0 [] = R := ⟨_, rfl⟩
  have HR : Hid (rowsU m t (t.length + 1) 0 [] = R) := hR
  rw [hR]
  obtain ⟨mv, hmv⟩ : ∃ s : ByteArray, (⟨[m].toArray⟩ : ByteArray) = s := ⟨_, rfl⟩
  obtain ⟨tv, htv⟩ : ∃ s : ByteArray, (⟨t.toArray⟩ : ByteArray) = s := ⟨_, rfl⟩
  change ∀ W, Calls Tryd.prog 17 #[.string ⟨[m].toArray⟩] W _ at CM
  change Calls Tryd.prog 11 #[.string ⟨t.toArray⟩, .string ⟨[m].toArray⟩] w _
  rw [htv] at hsz ⊢
  rw [hmv] at CM ⊢
  clear hm he hb hR hmk
  go_enter Tryd.func11, Tryd.ntmps11
  go_wp2_with fail
  refine (CM _).mono ?_
  rintro _ w1 ⟨rfl, rfl⟩
  clear CM
  have HS0 : Hid (RowsX (w1.alloc (.cells #[.string tv, .string mv, .int .i64 0] 41)) (w1.heap.size + 1) (.slice none 0 0) [] ∧ Rdr (w1.alloc (.cells #[.string tv, .string mv, .int .i64 0] 41)) w1.heap.size t m 0 ∧ Ext w1 (w1.alloc (.cells #[.string tv, .string mv, .int .i64 0] 41)) ∧ w1.heap.size + 1 ≤ (w1.alloc (.cells #[.string tv, .string mv, .int .i64 0] 41)).heap.size) := by
    have A0 := vec_made w1 [.string tv, .string mv, .int .i64 0] 41
    refine ⟨RowsX.nil _ _, ?_, x1 _ _, by simp⟩
    show Box3 _ _ (.string ⟨t.toArray⟩) (.string ⟨[m].toArray⟩) _
    rw [htv, hmv]
    exact ⟨⟨(A0 0 _ rfl).1, (A0 1 _ rfl).1, (A0 2 _ rfl).1⟩, (A0 0 _ rfl).2, (A0 1 _ rfl).2, (A0 2 _ rfl).2⟩
  have HG : Hid (t.length = n) := hN
  clear htv hmv hN
  go_wp2_with fail
  go_loopg [7] (n + 1) (fun g v wr => ∃ (i : Nat) (L : List (List (List UInt8))), Hid (RowsX wr (w1.heap.size + 1) v L ∧ i ≤ t.length ∧ Rdr wr w1.heap.size t m i ∧ Ext w1 wr ∧ L.length ≤ i ∧ w1.heap.size + 1 ≤ wr.heap.size) ∧ Hid (rowsU m t g i L = R ∧ t.length + 1 ≤ i + g))
  case atStart => exact ⟨0, [], ⟨HS0.out.1, by omega, HS0.out.2.1, HS0.out.2.2.1, by simp, HS0.out.2.2.2⟩, by rw [← HG.out]; exact HR.out, by rw [HG.out]; omega⟩
  case round =>
    clear HS0 HR
    obtain ⟨i, L, HI, HQ⟩ := hrel
    obtain ⟨p7, c7, hv7, hc7⟩ := HI.out.1.slice
    subst hv7
    obtain ⟨RX, hil, RW, XW, hLi, hsz1⟩ := id HI.out
    obtain ⟨hgR, hgi⟩ := HQ.out
    obtain ⟨g, rfl⟩ : ∃ g, gk = g + 1 := ⟨gk - 1, by omega⟩
    have CR := restI w1.heap.size t m i wr RW hil
    by_cases hlt : i < t.length
    · have hE : (t.drop i).isEmpty = false := by
        cases hd : t.drop i with
        | nil => have := congrArg List.length hd; rw [List.length_drop] at this; simp at this; omega
        | cons a l => rfl
      rw [rowsU_next hlt] at hgR
      obtain ⟨W, hW⟩ : ∃ W, rowU m t (t.length - i + 1) i [] = W := ⟨_, rfl⟩
      rw [hW] at hgR
      have HW : Hid (rowU m t (t.length - i + 1) i [] = W) := hW
      have HGR : Hid (nextU m t g L W = R) := hgR
      have XW2 : Hid (Ext w1 wr) := XW
      clear RX RW XW hW hgR HQ
      go_wp2_with fail
      refine CR.mono ?_
      rintro _ w2 ⟨rfl, e2⟩
      have X2 := xt XW2.out e2
      have CW := rowI w1.heap.size t m i t1 p1 t2 p2 w2 (HI.out.2.2.1.later e2) hil (by have := HTN.out; omega) HM.out.1 (HM.out.2.1.later X2) HM.out.2.2
      rw [HW.out] at CW
      have HX2 : Hid (Ext w1 w2 ∧ Ext wr w2) := ⟨X2, e2⟩
      clear CR X2 e2
      cases W with
      | bad e k =>
        have HRv : Hid (R = ⟨e, k, []⟩) := HGR.out.symm
        have hbad := rowU_bad m t _ i [] e k hil (by omega) HW.out
        change Calls Tryd.prog 19 #[.pointer (some ⟨w1.heap.size, 0, none⟩)] w2 fun e' w' => ∃ v : Value, e' = .returned (.tuple #[.slice none 0 0, .iface 47 (.agg #[if e = 1 then .iface t1 p1 else .iface t2 p2, .int .i64 (k : Int)])]) ∧ True ∧ Sole w1.heap.size w2 w' at CW
        obtain ⟨fv, hfv⟩ : ∃ fv : Value, .agg #[if e = 1 then .iface t1 p1 else .iface t2 p2, .int .i64 (k : Int)] = fv := ⟨_, rfl⟩
        rw [hfv] at CW
        have HA : Hid (rdA (.iface t1 p1) (.iface t2 p2) (.slice none 0 0) R = .tuple #[.slice none 0 0, .iface 47 fv]) := by
          show _ = _
          rw [HRv.out, ← hfv]
          unfold rdA
          rw [if_neg (by show ¬ e = 0; omega)]
        clear hfv HGR
        go_wp2_with fail
        refine CW.mono ?_
        rintro _ w3 ⟨_, rfl, -, S3⟩
        have HK : Hid (RowsX w3 (w1.heap.size + 1) (.slice none 0 0) R.rows ∧ Ext w1 w3) := ⟨by rw [HRv.out]; exact RowsX.nil _ _, Sole.ext HX2.out.1 S3 (Nat.le_refl _)⟩
        clear CW S3
        go_wp2_with fail
        exact bodyPost_ret (v := .tuple #[.slice none 0 0, .iface 47 fv]) (by simp [results, Tryd.results11, go_sem]) rfl ⟨_, by rw [HA.out], HK.out.1, HK.out.2⟩
      | ok l k =>
        have HRv : Hid (rowsU m t g k (L ++ [l]) = R) := HGR.out
        have hok := rowU_lt m t _ i [] l k hil HW.out
        have HOK : Hid (k ≤ t.length ∧ i < k ∧ 1 ≤ l.length) := ⟨hok.2.1, hok.2.2.1 hlt, hok.2.2.2.1⟩
        change Calls Tryd.prog 19 #[.pointer (some ⟨w1.heap.size, 0, none⟩)] w2 fun e' w' => ∃ v : Value, e' = .returned (.tuple #[v, .nilIface]) ∧ (Rdr w' w1.heap.size t m k ∧ OwnX w' w2.heap.size v l) ∧ Sole w1.heap.size w2 w' at CW
        clear HGR hok
        go_wp2_with fail
        refine CW.mono ?_
        rintro _ w3 ⟨u, rfl, ⟨R3, O3⟩, S3⟩
        have S13 : Sole w1.heap.size wr w3 := ((Sole.refl _ wr).step HX2.out.2).trans S3
        obtain ⟨v', w', hrun, RX', GW, hrb⟩ := RowsX.app (L := L) (l := l) HI.out.1 S13 (Nat.lt_succ_self _) (own_base O3 HX2.out.2.size) HOK.out.2.2 (by have := HTN.out; omega) hsz1
        have EA := x1 w3 (.cells #[u] 30)
        have X3 : Ext w1 w3 := Sole.ext HX2.out.1 S3 (Nat.le_refl _)
        have X4 : Ext w1 w' := (xt X3 EA).grown GW (xt X3 EA).size (fun q hq => by have := hrb q hq; omega)
        have R4 : Rdr w' w1.heap.size t m k := (R3.later EA).grown GW (fun r hr => by have := hrb r hr; omega)
        have hsz4 : w1.heap.size + 1 ≤ w'.heap.size := by have := GW.size; have := EA.size; have := S13.size; omega
        obtain ⟨p8, c8, hv8, hc8⟩ := RX'.slice
        subst hv8
        obtain ⟨pu, cu, hu, hcu⟩ := own_slice O3
        subst hu
        have HK : Hid (RowsX w' (w1.heap.size + 1) (.slice p8 (L ++ [l]).length c8) (L ++ [l]) ∧ k ≤ t.length ∧ Rdr w' w1.heap.size t m k ∧ Ext w1 w' ∧ (L ++ [l]).length ≤ k ∧ w1.heap.size + 1 ≤ w'.heap.size) := ⟨RX', HOK.out.1, R4, X4, by have := HOK.out.2.1; simp; omega, hsz4⟩
        have HK2 : Hid (rowsU m t g k (L ++ [l]) = R ∧ t.length + 1 ≤ k + g) := ⟨HRv.out, by have := HOK.out.2.1; omega⟩
        obtain ⟨L8, hL8⟩ : ∃ L8, (L ++ [l]).length = L8 := ⟨_, rfl⟩
        have HLE : Hid ((L ++ [l]).length = L8) := hL8
        rw [hL8] at hc8 hrun
        clear CW R3 O3 S3 S13 RX' GW hrb EA X3 X4 R4 HI HRv hL8
        go_wp2_with (at_builtin; refine Lib.wpList_append_run _ rfl _ _ _ _ rfl _ _ rfl rfl _ _ hrun ?_)
        go_roundg g
        case measure => omega
        case rel => exact ⟨k, L ++ [l], by rw [← HLE.out]; exact HK.out, HK2⟩
    · have hiE : t.drop i = [] := List.drop_of_length_le (by omega)
      rw [hiE] at CR
      have HRv : Hid (R = ⟨0, 0, L⟩) := by
        show _ = _
        rw [← hgR]
        unfold rowsU
        rw [if_pos (by omega)]
      have XW2 : Hid (Ext w1 wr) := XW
      have HRX : Hid (RowsX wr (w1.heap.size + 1) (.slice p7 L.length c7) L) := RX
      clear RX RW XW hgR HQ
      go_wp2_with fail
      refine CR.mono ?_
      rintro _ w2 ⟨rfl, e2⟩
      have HK : Hid (RowsX w2 (w1.heap.size + 1) (.slice p7 L.length c7) R.rows ∧ Ext w1 w2 ∧ rdA (.iface t1 p1) (.iface t2 p2) (.slice p7 L.length c7) R = .tuple #[.slice p7 L.length c7, .nilIface]) := ⟨by rw [HRv.out]; exact HRX.out.sole (b := w1.heap.size) ((Sole.refl _ wr).step e2) (Nat.lt_succ_self _), xt XW2.out e2, by rw [HRv.out]; rfl⟩
      clear CR e2
      go_wp2_with fail
      exact bodyPost_ret (v := .tuple #[.slice p7 L.length c7, .nilIface]) (by simp [results, Tryd.results11, go_sem]) rfl ⟨_, by rw [HK.out.2.2], HK.out.1, HK.out.2.1⟩
end Go.Proofs.YtkjbeciiecljgaaDoor
