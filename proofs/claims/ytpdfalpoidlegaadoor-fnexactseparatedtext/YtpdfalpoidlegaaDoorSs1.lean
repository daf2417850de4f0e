/-
  Rows of rows of texts that came in: measured, handed over, compared.
-/
import Derived.Test.YtpdfalpoidlegaaDoorSv1
import Derived.Laws.IdiomStrings
import Derived.BigQuiet
import Derived.RegionTactic
import Derived.Deep.OwnRows
import Derived.Deep.QuietTactic
import Derived.Deep.RegionHeld3
namespace Go.Proofs.YtpdfalpoidlegaaDoor
open Go.RowKit

/-- A slice of texts that lies in w. -/
def TxtsIn (w : World) (v : Value) (l : List (List UInt8)) : Prop :=
  ∃ p cap, v = .slice p l.length cap ∧ l.length ≤ cap ∧ (0 < l.length → ∃ b o, p = some ⟨b, o, none⟩ ∧ ∀ i e, l[i]? = some e → w.cell? ⟨b, o + i, none⟩ = some (sV e))
theorem TxtsIn.later {w w' : World} {v : Value} {l : List (List UInt8)} (h : TxtsIn w v l) (x : Ext w w') : TxtsIn w' v l := by
  obtain ⟨p, cap, h1, h2, h3⟩ := h
  refine ⟨p, cap, h1, h2, fun h0 => ?_⟩
  obtain ⟨b, o, h4, h5⟩ := h3 h0
  exact ⟨b, o, h4, fun i e hi => cell_later x (h5 i e hi)⟩
/-- A slice of slices of texts that lies in w. -/
def SsIn (w : World) (v : Value) (L : List (List (List UInt8))) : Prop :=
  ∃ (p : Option Addr) (cap : Nat) (vs : List Value), v = .slice p L.length cap ∧ L.length ≤ cap ∧ vs.length = L.length ∧ (0 < L.length → ∃ b o, p = some ⟨b, o, none⟩ ∧ ∀ (i : Nat) (u : Value), vs[i]? = some u → w.cell? ⟨b, o + i, none⟩ = some u) ∧ ∀ (i : Nat) (u : Value) (l : List (List UInt8)), vs[i]? = some u → L[i]? = some l → TxtsIn w u l
theorem SsIn.later {w w' : World} {v : Value} {L : List (List (List UInt8))} (h : SsIn w v L) (x : Ext w w') : SsIn w' v L := by
  obtain ⟨p, cap, vs, h1, h2, hv, h3, h6⟩ := h
  refine ⟨p, cap, vs, h1, h2, hv, fun h0 => ?_, fun i u l hi hl => (h6 i u l hi hl).later x⟩
  obtain ⟨b, o, h4, h5⟩ := h3 h0
  exact ⟨b, o, h4, fun i e hi => cell_later x (h5 i e hi)⟩
/-- A row of it. -/
theorem SsIn.row {w : World} {p : Option Addr} {n cap : Nat} {L : List (List (List UInt8))} (h : SsIn w (.slice p n cap) L) {i : Nat} {l : List (List UInt8)} (hi : L[i]? = some l) :
    ∃ b o u, p = some ⟨b, o, none⟩ ∧ w.cell? ⟨b, o + i, none⟩ = some u ∧ TxtsIn w u l := by
  obtain ⟨p', cap', vs, h1, h2, hv, h3, h6⟩ := h
  cases h1
  have hlt := (List.getElem?_eq_some_iff.1 hi).1
  obtain ⟨b, o, h4, h5⟩ := h3 (by omega)
  have hu : vs[i]? = some (vs[i]'(by omega)) := List.getElem?_eq_getElem (by omega)
  exact ⟨b, o, _, h4, h5 i _ hu, h6 i _ l hu hi⟩

def lenT (l : List (List UInt8)) (k : Nat) : Nat := ((l.take k).map List.length).sum
def szT (l : List (List UInt8)) : Nat := l.length + (l.map List.length).sum
theorem lenT_next {l : List (List UInt8)} {k : Nat} {e : List UInt8} (h : l[k]? = some e) : lenT l (k + 1) = lenT l k + e.length := by
  unfold lenT
  obtain ⟨hk, rfl⟩ := List.getElem?_eq_some_iff.1 h
  rw [← List.take_append_getElem hk, List.map_append, List.sum_append]
  simp
theorem sum_take_le (l : List Nat) (k : Nat) : (l.take k).sum ≤ l.sum := by
  have := List.sum_append (l₁ := l.take k) (l₂ := l.drop k)
  rw [List.take_append_drop] at this
  omega
theorem le_sum_mem {l : List Nat} {a : Nat} (h : a ∈ l) : a ≤ l.sum := by
  induction l with
  | nil => cases h
  | cons b l ih =>
    rcases List.mem_cons.1 h with rfl | h
    · simp
    · have := ih h; simp; omega
theorem lenT_le (l : List (List UInt8)) (k : Nat) : lenT l k ≤ (l.map List.length).sum := by
  unfold lenT; rw [List.map_take]; exact sum_take_le _ _
theorem lenT_all (l : List (List UInt8)) : lenT l l.length = (l.map List.length).sum := by unfold lenT; rw [List.take_length]
/-- What is left when so much is measured. -/
def leftR (left n : Nat) : Int := if n ≤ left then ((left - n : Nat) : Int) else -1

set_option maxRecDepth 8000 in
set_option maxHeartbeats 2000000 in
theorem szStrs (v : Value) (l : List (List UInt8)) (left : Nat) (w : World) (h : TxtsIn w v l) (hl : left ≤ 1048576) (hb : l.length ≤ 9223372036854775807) (ht : ∀ e ∈ l, e.length ≤ 9223372036854775807) :
    Calls Tryd.prog 9 #[v, .int .i64 left] w fun e w' => e = .returned (.int .i64 (leftR left (szT l))) ∧ w' = w := by
  obtain ⟨p, cap, rfl, hcap, hi⟩ := h
  obtain ⟨n, hn⟩ : ∃ n, l.length = n := ⟨_, rfl⟩
  obtain ⟨S, hS⟩ : ∃ S, (l.map List.length).sum = S := ⟨_, rfl⟩
  have hz : szT l = n + S := by unfold szT; omega
  have HN : Hid (l.length = n ∧ ∀ k, lenT l k ≤ S) := ⟨hn, fun k => hS ▸ lenT_le l k⟩
  have HA : Hid (lenT l n = S) := by show _ = _; rw [← hn, lenT_all, hS]
  rw [hn] at hcap hi hb ⊢
  rw [hz]
  have HT : Hid (∀ e ∈ l, e.length ≤ 9223372036854775807) := ht
  have HI : Hid (0 < n → ∃ b o, p = some ⟨b, o, none⟩ ∧ ∀ i e, l[i]? = some e → w.cell? ⟨b, o + i, none⟩ = some (sV e)) := hi
  clear hn hi hz hS ht
  by_cases h0 : n ≤ left
  · have f0 : decide ((left : Int) - n < 0) = false := by simp; omega
    have HR : Hid (left - n = left - n - lenT l 0) := by show _ = _; simp [lenT]
    go_enter Tryd.func9, Tryd.ntmps9
    go_wp2_with fail
    go_loopw [1, 5] (fun a i wr => ∃ k m : Nat, k ≤ n ∧ i = .int .i64 k ∧ a = .int .i64 m ∧ Hid (m = left - n - lenT l k ∧ n + lenT l k ≤ left) ∧ wr = w) (fun _ i _ => n - (intOf i).toNat)
    case atStart => exact ⟨0, left - n, by omega, rfl, by congr 1; omega, ⟨HR.out, by simp [lenT]; omega⟩, rfl⟩
    case round =>
      obtain ⟨k, m, hk, rfl, rfl, HM, rfl⟩ := hrel
      obtain ⟨hm, hle⟩ := HM.out
      have mb : m ≤ 1048576 := by omega
      by_cases hlt : k < n
      · obtain ⟨e, he⟩ : ∃ e, l[k]? = some e := ⟨_, List.getElem?_eq_getElem (by rw [HN.out.1]; exact hlt)⟩
        obtain ⟨b, o, rfl, hc⟩ := HI.out (by omega)
        have c1 := hc k e he
        have nx := lenT_next he
        have ub := HN.out.2 (k + 1)
        obtain ⟨z, hz⟩ : ∃ z, e.length = z := ⟨_, rfl⟩
        have zb := HT.out e (List.mem_of_getElem? he)
        rw [hz] at nx zb
        have i2 : (k : Int) < (n : Int) := by omega
        obtain ⟨s, hs⟩ : ∃ s : ByteArray, (⟨e.toArray⟩ : ByteArray) = s := ⟨_, rfl⟩
        have hsz : s.size = z := by rw [← hs, ← hz]; simp [ByteArray.size]
        have c2 : wr.cell? ⟨b, o + k, none⟩ = some (.string s) := by rw [← hs]; exact c1
        clear hc c1 he hz HI HA HR hs
        by_cases hzm : z ≤ m
        · have f1 : decide ((m : Int) - z < 0) = false := by simp; omega
          have F : Hid (m - z = left - n - lenT l (k + 1) ∧ n + lenT l (k + 1) ≤ left) := ⟨by omega, by omega⟩
          clear nx ub hm hle HM
          go_wp2_with fail
          go_roundw
          case rel => exact ⟨k + 1, m - z, by omega, by go_num, by congr 1; omega, F, trivial⟩
          case measure => simp [intOf]; omega
        · have f1 : decide ((m : Int) - z < 0) = true := by simp; omega
          have F : Hid (leftR left (n + S) = -1) := by show _ = _; unfold leftR; rw [if_neg (by omega)]
          clear nx ub hm hle HM
          go_wp2_with fail
          go_ret
          exact ⟨by rw [F.out] <;> rfl, rfl⟩
      · obtain rfl : k = n := by omega
        have F : Hid (leftR left (k + S) = m) := by
          show _ = _
          have := HA.out
          unfold leftR; rw [if_pos (by omega)]; congr 1; omega
        clear hm hle HI HA HR HM
        go_wp2_with fail
        go_ret
        exact ⟨by rw [F.out] <;> rfl, rfl⟩
  · have f0 : decide ((left : Int) - n < 0) = true := by simp; omega
    have F : Hid (leftR left (n + S) = -1) := by show _ = _; unfold leftR; rw [if_neg (by omega)]
    go_enter Tryd.func9, Tryd.ntmps9
    go_wp2_with fail
    go_ret
    exact ⟨by rw [F.out] <;> rfl, rfl⟩

def szTT (L : List (List (List UInt8))) : Nat := L.length + (L.map szT).sum
def lenTT (L : List (List (List UInt8))) (k : Nat) : Nat := ((L.take k).map szT).sum
theorem lenTT_next {L : List (List (List UInt8))} {k : Nat} {e : List (List UInt8)} (h : L[k]? = some e) : lenTT L (k + 1) = lenTT L k + szT e := by
  unfold lenTT
  obtain ⟨hk, rfl⟩ := List.getElem?_eq_some_iff.1 h
  rw [← List.take_append_getElem hk, List.map_append, List.sum_append]
  simp
theorem lenTT_le (L : List (List (List UInt8))) (k : Nat) : lenTT L k ≤ (L.map szT).sum := by
  unfold lenTT; rw [List.map_take]; exact sum_take_le _ _
theorem lenTT_all (L : List (List (List UInt8))) : lenTT L L.length = (L.map szT).sum := by unfold lenTT; rw [List.take_length]
/-- All lengths are the machine's. -/
def FitT (l : List (List UInt8)) : Prop := l.length ≤ 9223372036854775807 ∧ ∀ e ∈ l, e.length ≤ 9223372036854775807
def FitTT (L : List (List (List UInt8))) : Prop := L.length ≤ 9223372036854775807 ∧ ∀ l ∈ L, FitT l

set_option maxRecDepth 8000 in
set_option maxHeartbeats 2000000 in
theorem szSS (v : Value) (L : List (List (List UInt8))) (left : Nat) (w : World) (h : SsIn w v L) (hl : left ≤ 1048576) (hb : FitTT L) :
    Calls Tryd.prog 4 #[v, .int .i64 left] w fun e w' => e = .returned (.int .i64 (leftR left (szTT L))) ∧ w' = w := by
  have HI : Hid (SsIn w v L) := h
  obtain ⟨p, cap, vs, rfl, hcap, _, _, _⟩ := h
  obtain ⟨n, hn⟩ : ∃ n, L.length = n := ⟨_, rfl⟩
  obtain ⟨S, hS⟩ : ∃ S, (L.map szT).sum = S := ⟨_, rfl⟩
  have hz : szTT L = n + S := by unfold szTT; omega
  have HN : Hid (L.length = n ∧ ∀ k, lenTT L k ≤ S) := ⟨hn, fun k => hS ▸ lenTT_le L k⟩
  have HA : Hid (lenTT L n = S) := by show _ = _; rw [← hn, lenTT_all, hS]
  obtain ⟨hb1, hb2⟩ := hb
  rw [hn] at hcap hb1 HI ⊢
  rw [hz]
  have HT : Hid (∀ l ∈ L, FitT l) := hb2
  clear hn hz hS hb2
  by_cases h0 : n ≤ left
  · have f0 : decide ((left : Int) - n < 0) = false := by simp; omega
    have HR : Hid (left - n = left - n - lenTT L 0) := by show _ = _; simp [lenTT]
    go_enter Tryd.func4, Tryd.ntmps4
    go_wp2_with fail
    go_loopw [1, 5] (fun a i wr => ∃ k m : Nat, k ≤ n ∧ i = .int .i64 k ∧ a = .int .i64 m ∧ Hid (m = left - n - lenTT L k ∧ n + lenTT L k ≤ left) ∧ wr = w) (fun _ i _ => n - (intOf i).toNat)
    case atStart => exact ⟨0, left - n, by omega, rfl, by congr 1; omega, ⟨HR.out, by simp [lenTT]; omega⟩, rfl⟩
    case round =>
      obtain ⟨k, m, hk, rfl, rfl, HM, rfl⟩ := hrel
      obtain ⟨hm, hle⟩ := HM.out
      have mb : m ≤ 1048576 := by omega
      by_cases hlt : k < n
      · obtain ⟨e, he⟩ : ∃ e, L[k]? = some e := ⟨_, List.getElem?_eq_getElem (by rw [HN.out.1]; exact hlt)⟩
        obtain ⟨b, o, u, rfl, c1, I1⟩ := HI.out.row he
        have nx := lenTT_next he
        have ub := HN.out.2 (k + 1)
        have zb := HT.out e (List.mem_of_getElem? he)
        have CS := szStrs u e m wr I1 mb zb.1 zb.2
        have i2 : (k : Int) < (n : Int) := by omega
        obtain ⟨z, hz⟩ : ∃ z, szT e = z := ⟨_, rfl⟩
        rw [hz] at nx CS
        unfold leftR at CS
        clear he hz HI HA HR zb I1
        by_cases hzm : z ≤ m
        · rw [if_pos hzm] at CS
          obtain ⟨q, hq⟩ : ∃ q, m - z = q := ⟨_, rfl⟩
          rw [hq] at CS
          have F : Hid (q = left - n - lenTT L (k + 1) ∧ n + lenTT L (k + 1) ≤ left) := ⟨by omega, by omega⟩
          have f1 : decide ((q : Int) < 0) = false := by simp
          clear nx ub hm hle HM
          go_wp2_with fail
          refine CS.mono ?_
          rintro e w1 ⟨rfl, rfl⟩
          go_wp2_with fail
          go_roundw
          case rel => exact ⟨k + 1, q, by omega, by go_num, rfl, F, trivial⟩
          case measure => simp [intOf]; omega
        · rw [if_neg hzm] at CS
          have F : Hid (leftR left (n + S) = -1) := by show _ = _; unfold leftR; rw [if_neg (by omega)]
          clear nx ub hm hle HM
          go_wp2_with fail
          refine CS.mono ?_
          rintro e w1 ⟨rfl, rfl⟩
          go_wp2_with fail
          go_ret
          exact ⟨by rw [F.out] <;> rfl, rfl⟩
      · obtain rfl : k = n := by omega
        have F : Hid (leftR left (k + S) = m) := by
          show _ = _
          have := HA.out
          unfold leftR; rw [if_pos (by omega)]; congr 1; omega
        clear hm hle HI HA HR HM
        go_wp2_with fail
        go_ret
        exact ⟨by rw [F.out] <;> rfl, rfl⟩
  · have f0 : decide ((left : Int) - n < 0) = true := by simp; omega
    have F : Hid (leftR left (n + S) = -1) := by show _ = _; unfold leftR; rw [if_neg (by omega)]
    go_enter Tryd.func4, Tryd.ntmps4
    go_wp2_with fail
    go_ret
    exact ⟨by rw [F.out] <;> rfl, rfl⟩

/-- A row of texts of one's own, in a block. -/
def TxtsOwn (w : World) (v : Value) (l : List (List UInt8)) (b : Nat) : Prop :=
  ∃ p cap, v = .slice p l.length cap ∧ l.length ≤ cap ∧ (0 < l.length → p = some ⟨b, 0, none⟩) ∧ Vec w b (l.map sV)
theorem TxtsOwn.later {w w' : World} {v : Value} {l : List (List UInt8)} {b : Nat} (h : TxtsOwn w v l b) (x : Ext w w') : TxtsOwn w' v l b := by
  obtain ⟨p, cap, h1, h2, h3, h4⟩ := h
  exact ⟨p, cap, h1, h2, h3, h4.later x⟩
theorem TxtsOwn.far {w : World} {v : Value} {l : List (List UInt8)} {b : Nat} (h : TxtsOwn w v l b) {p : Addr} (hp : p.block ≠ b) (u : Value) : TxtsOwn (w.setCell p u) v l b := by
  obtain ⟨q, cap, h1, h2, h3, h4⟩ := h
  exact ⟨q, cap, h1, h2, h3, h4.far hp u⟩
theorem TxtsOwn.txts {w : World} {v : Value} {l : List (List UInt8)} {b : Nat} (h : TxtsOwn w v l b) : TxtsIn w v l := by
  obtain ⟨p, cap, h1, h2, h3, h4⟩ := h
  refine ⟨p, cap, h1, h2, fun h0 => ⟨b, 0, h3 h0, fun i e hi => ?_⟩⟩
  rw [Nat.zero_add]
  exact (h4 i (sV e) (by rw [List.getElem?_map, hi]; rfl)).1

theorem infoS : (Tryd.prog.info? 9).map (fun i => (i.zero, i.size, i.bytes)) = some (some (sV []), 1, 16) := by kernel_rfl
theorem infoSl : (Tryd.prog.info? 29).map (fun i => (i.zero, i.size, i.bytes)) = some (some (.slice none 0 0), 1, 24) := by kernel_rfl

set_option maxRecDepth 8000 in
set_option maxHeartbeats 2000000 in
theorem toStrs (v : Value) (l : List (List UInt8)) (w : World) (h : TxtsIn w v l) (hl : l.length ≤ 1048576) :
    Calls Tryd.prog 12 #[v] w fun e w' => ∃ u, e = .returned u ∧ TxtsOwn w' u l w.heap.size ∧ Ext w w' ∧ w.heap.size < w'.heap.size := by
  obtain ⟨p, cap, rfl, hcap, hi⟩ := h
  have hmk := run_make_row' (P := Tryd.prog) 29 9 (sV []) 16 Tryd.underlying29 infoS rfl .i64 .i64 l.length (by omega) (by omega)
  obtain ⟨L, hL⟩ : ∃ L, l.length = L := ⟨_, rfl⟩
  rw [hL] at hl hcap hi hmk ⊢
  have HL : Hid (l.length = L) := hL
  have H1 : Hid (0 < L → ∃ b o, p = some ⟨b, o, none⟩ ∧ ∀ i e, l[i]? = some e → w.cell? ⟨b, o + i, none⟩ = some (sV e)) := hi
  clear hL hi
  have R0 : (w.alloc (.cells (madeCells #[sV []] L) 9)).rowIs w.heap.size 9 L (fun j => sV (if j < 0 then l.getD j [] else [])) := (World.rowIs_made w (sV []) L 9).congr (fun i _ => by simp)
  have X0 := x1 w (.cells (madeCells #[sV []] L) 9)
  have Z0 : w.heap.size < (w.alloc (.cells (madeCells #[sV []] L) 9)).heap.size := by simp
  go_enter Tryd.func12, Tryd.ntmps12
  go_wp2_with fail
  go_loopw [4] (fun i wr => ∃ k : Nat, k ≤ L ∧ i = .int .i64 k ∧ Hid (wr.rowIs w.heap.size 9 L (fun j => sV (if j < k then l.getD j [] else []))) ∧ Ext w wr ∧ Hid (w.heap.size < wr.heap.size)) (fun i _ => L - (intOf i).toNat)
  case atStart => exact ⟨0, by omega, rfl, R0, X0, Z0⟩
  case round =>
    obtain ⟨k, hk, rfl, R, X, Z⟩ := hrel
    by_cases hlt : k < L
    · obtain ⟨b, o, rfl, hc⟩ := H1.out (by omega)
      obtain ⟨f, hf⟩ : ∃ f, l[k]? = some f := ⟨_, List.getElem?_eq_getElem (by rw [HL.out]; exact hlt)⟩
      have c1 := cell_later X (hc k f hf)
      have kf := World.rowIs.cell R.out (i := k) hlt
      have kz := World.rowIs.frozen R.out k
      simp only [Nat.lt_irrefl, if_false] at kf
      have R2 : Hid ((wr.setCell ⟨w.heap.size, k, none⟩ (sV f)).rowIs w.heap.size 9 L (fun j => sV (if j < k + 1 then l.getD j [] else []))) := (World.rowIs.set R.out k (sV f)).congr (fun j _ => by
        by_cases e : j = k
        · subst e; simp [List.getD, hf]
        · have : (j < k + 1) = (j < k) := by simp; omega
          simp only [this]
          first | rw [if_neg e] | rw [if_neg (fun h => e h.symm)])
      have Z2 : Hid (w.heap.size < (wr.setCell ⟨w.heap.size, k, none⟩ (sV f)).heap.size) := by have := Z.out; show _ < _; simpa [World.setCell] using this
      have hlt' : (k : Int) < (L : Int) := by omega
      clear hc hf H1 R R0 hmk
      go_wp2_with fail
      go_roundw
      case rel => exact ⟨k + 1, by omega, by simp, R2, xset X (Nat.le_refl _) _, Z2⟩
      case measure => simp [intOf]; omega
    · obtain rfl : k = L := by omega
      clear hmk R0
      go_wp2_with fail
      go_ret
      refine ⟨_, rfl, ⟨_, k, by rw [HL.out]; rfl, by rw [HL.out]; exact Nat.le_refl _, fun _ => rfl, fun i u hi => ?_⟩, X, Z.out⟩
      rw [List.getElem?_map] at hi
      obtain ⟨e, he, rfl⟩ := Option.map_eq_some_iff.1 hi
      have hik : i < k := by have := (List.getElem?_eq_some_iff.1 he).1; rw [HL.out] at this; exact this
      have := World.rowIs.cell R.out (i := i) hik
      simp only [if_pos hik, List.getD, he] at this
      exact ⟨this, World.rowIs.frozen R.out i⟩

/-- Rows of texts of one's own, each in a block of its own between two. -/
def SsOwn (w : World) (lo hi : Nat) (v : Value) (L : List (List (List UInt8))) : Prop :=
  ∃ (p : Option Addr) (cap : Nat) (vs : List Value) (bs : List Nat), v = .slice p L.length cap ∧ L.length ≤ cap ∧ vs.length = L.length ∧ bs.length = L.length ∧
    (0 < L.length → ∃ b o, p = some ⟨b, o, none⟩ ∧ (∀ (j c : Nat), bs[j]? = some c → c ≠ b) ∧ ∀ (i : Nat) (u : Value), vs[i]? = some u → w.cell? ⟨b, o + i, none⟩ = some u) ∧
    (∀ (i : Nat) (u : Value) (l : List (List UInt8)) (b : Nat), vs[i]? = some u → L[i]? = some l → bs[i]? = some b → TxtsOwn w u l b ∧ lo ≤ b ∧ b < hi) ∧
    ∀ (i j b : Nat), bs[i]? = some b → bs[j]? = some b → i = j
theorem SsOwn.ssIn {w : World} {lo hi : Nat} {v : Value} {L : List (List (List UInt8))} (h : SsOwn w lo hi v L) : SsIn w v L := by
  obtain ⟨p, cap, vs, bs, h1, h2, h3, h4, h5, h6, h7⟩ := h
  refine ⟨p, cap, vs, h1, h2, h3, fun h0 => by obtain ⟨b, o, q1, _, q2⟩ := h5 h0; exact ⟨b, o, q1, q2⟩, fun i u l hu hl => ?_⟩
  have hi := (List.getElem?_eq_some_iff.1 hl).1
  exact (h6 i u l _ hu hl (List.getElem?_eq_getElem (by omega))).1.txts
theorem SsOwn.later {w w' : World} {lo hi : Nat} {v : Value} {L : List (List (List UInt8))} (h : SsOwn w lo hi v L) (x : Ext w w') : SsOwn w' lo hi v L := by
  obtain ⟨p, cap, vs, bs, h1, h2, h3, h4, h5, h6, h7⟩ := h
  refine ⟨p, cap, vs, bs, h1, h2, h3, h4, fun h0 => ?_, fun i u l b hu hl hb => ⟨(h6 i u l b hu hl hb).1.later x, (h6 i u l b hu hl hb).2⟩, h7⟩
  obtain ⟨b, o, q1, qn, q2⟩ := h5 h0
  exact ⟨b, o, q1, qn, fun i u hu => cell_later x (q2 i u hu)⟩

set_option maxRecDepth 8000 in
set_option maxHeartbeats 2000000 in
theorem toSS (v : Value) (L : List (List (List UInt8))) (w : World) (h : SsIn w v L) (hl : L.length ≤ 1048576) (hr : ∀ l ∈ L, l.length ≤ 1048576) :
    Calls Tryd.prog 6 #[v] w fun e w' => ∃ u, e = .returned u ∧ SsOwn w' w.heap.size w'.heap.size u L ∧ Ext w w' := by
  have HI : Hid (SsIn w v L) := h
  obtain ⟨p, cap, _, rfl, hcap, _, _, _⟩ := h
  have hmk := run_make_row' (P := Tryd.prog) 22 29 (.slice none 0 0) 24 Tryd.underlying22 infoSl rfl .i64 .i64 L.length (by omega) (by omega)
  obtain ⟨n, hn⟩ : ∃ n, L.length = n := ⟨_, rfl⟩
  rw [hn] at hl hcap hmk HI ⊢
  have HN : Hid (L.length = n) := hn
  have HR : Hid (∀ l ∈ L, l.length ≤ 1048576) := hr
  clear hn hr
  have R0 : Hid (∃ (vs : List Value) (bs : List Nat), (w.alloc (.cells (madeCells #[.slice none 0 0] n) 29)).rowIs w.heap.size 29 n (fun j => vs.getD j (.slice none 0 0)) ∧ vs.length = 0 ∧ bs.length = 0 ∧
      (∀ (i : Nat) (u : Value) (l : List (List UInt8)) (b : Nat), vs[i]? = some u → L[i]? = some l → bs[i]? = some b → TxtsOwn (w.alloc (.cells (madeCells #[.slice none 0 0] n) 29)) u l b ∧ w.heap.size < b ∧ b < (w.alloc (.cells (madeCells #[.slice none 0 0] n) 29)).heap.size) ∧
      ∀ (i j b : Nat), bs[i]? = some b → bs[j]? = some b → i = j) :=
    ⟨[], [], (World.rowIs_made w (.slice none 0 0) n 29).congr (fun i _ => by simp), rfl, rfl, fun i u l b hu => by simp at hu, fun i j b hu => by simp at hu⟩
  have X0 := x1 w (.cells (madeCells #[.slice none 0 0] n) 29)
  go_enter Tryd.func6, Tryd.ntmps6
  go_wp2_with fail
  go_loopw [4] (fun i wr => ∃ k : Nat, k ≤ n ∧ i = .int .i64 k ∧ Hid (∃ (vs : List Value) (bs : List Nat), wr.rowIs w.heap.size 29 n (fun j => vs.getD j (.slice none 0 0)) ∧ vs.length = k ∧ bs.length = k ∧
      (∀ (i : Nat) (u : Value) (l : List (List UInt8)) (b : Nat), vs[i]? = some u → L[i]? = some l → bs[i]? = some b → TxtsOwn wr u l b ∧ w.heap.size < b ∧ b < wr.heap.size) ∧
      ∀ (i j b : Nat), bs[i]? = some b → bs[j]? = some b → i = j) ∧ Ext w wr) (fun i _ => n - (intOf i).toNat)
  case atStart => exact ⟨0, by omega, rfl, R0, X0⟩
  case round =>
    obtain ⟨k, hk, rfl, R, X⟩ := hrel
    by_cases hlt : k < n
    · obtain ⟨e, he⟩ : ∃ e, L[k]? = some e := ⟨_, List.getElem?_eq_getElem (by rw [HN.out]; exact hlt)⟩
      obtain ⟨b, o, u, rfl, c1, I1⟩ := (HI.out.later X).row he
      have CT := toStrs u e wr I1 (HR.out e (List.mem_of_getElem? he))
      have hlt' : (k : Int) < (n : Int) := by omega
      have HE : Hid (L[k]? = some e) := he
      clear he I1 hmk R0
      go_wp2_with fail
      refine CT.mono ?_
      rintro _ w1 ⟨u1, rfl, T1, e1, z1⟩
      obtain ⟨p1, cap1, hu1, _⟩ := id T1
      subst hu1
      obtain ⟨vs, bs, q1, q2, q3, q4, q5⟩ := R.out
      have sz := X.size
      have wlt : w.heap.size < wr.heap.size := by
        obtain ⟨c, hc, _⟩ := q1
        by_cases hx : w.heap.size < wr.heap.size
        · exact hx
        · rw [Array.getElem?_eq_none (by omega)] at hc; cases hc
      have q1' : w1.rowIs w.heap.size 29 n (fun j => vs.getD j (.slice none 0 0)) := by
        obtain ⟨c, hc, hz⟩ := q1
        exact ⟨c, by rw [e1.block _ wlt]; exact hc, hz⟩
      have kf := World.rowIs.cell q1' (i := k) hlt
      have kz := World.rowIs.frozen q1' k
      have hk0 : vs.getD k (.slice none 0 0) = .slice none 0 0 := by rw [List.getD, List.getElem?_eq_none (by omega)]; rfl
      simp only [hk0] at kf
      have R2 : Hid (∃ (vs : List Value) (bs : List Nat), (w1.setCell ⟨w.heap.size, k, none⟩ (.slice p1 e.length cap1)).rowIs w.heap.size 29 n (fun j => vs.getD j (.slice none 0 0)) ∧ vs.length = k + 1 ∧ bs.length = k + 1 ∧
          (∀ (i : Nat) (u : Value) (l : List (List UInt8)) (b : Nat), vs[i]? = some u → L[i]? = some l → bs[i]? = some b → TxtsOwn (w1.setCell ⟨w.heap.size, k, none⟩ (.slice p1 e.length cap1)) u l b ∧ w.heap.size < b ∧ b < (w1.setCell ⟨w.heap.size, k, none⟩ (.slice p1 e.length cap1)).heap.size) ∧
          ∀ (i j b : Nat), bs[i]? = some b → bs[j]? = some b → i = j) := by
        have hsz : (w1.setCell ⟨w.heap.size, k, none⟩ (.slice p1 e.length cap1)).heap.size = w1.heap.size := by simp [World.setCell]
        have old : ∀ i b, bs[i]? = some b → b < wr.heap.size ∧ w.heap.size < b := fun i b hb => by
          have hi := (List.getElem?_eq_some_iff.1 hb).1
          have hl : i < L.length := by rw [HN.out]; omega
          have := (q4 i _ _ b (List.getElem?_eq_getElem (by omega)) (List.getElem?_eq_getElem hl) hb).2
          exact ⟨this.2, this.1⟩
        refine ⟨vs ++ [.slice p1 e.length cap1], bs ++ [wr.heap.size], (World.rowIs.set q1' k (.slice p1 e.length cap1)).congr (fun j hj => ?_), by simp [q2], by simp [q3], fun i u l b hu hl hb => ?_, fun i j b hi hj => ?_⟩
        · by_cases e : j = k
          · subst e
            simp [List.getD, q2]
          · rw [if_neg (by first | exact e | exact fun h => e h.symm)]
            by_cases h2 : j < k
            · simp [List.getD, List.getElem?_append_left (show j < vs.length by omega)]
            · have : k + 1 ≤ j := by omega
              rw [List.getD, List.getElem?_eq_none (by omega), List.getD, List.getElem?_eq_none (by simp; omega)]
        · rw [hsz]
          by_cases h2 : i < k
          · rw [List.getElem?_append_left (by omega)] at hu hb
            have := q4 i u l b hu hl hb
            have hz := e1.size
            exact ⟨(this.1.later e1).far (p := ⟨w.heap.size, k, none⟩) (show w.heap.size ≠ b by omega) _, by omega, by omega⟩
          · have hi : i = k := by have := (List.getElem?_eq_some_iff.1 hu).1; simp at this; omega
            subst hi
            rw [HE.out] at hl
            cases hl
            have e1 : u = .slice p1 e.length cap1 := by simpa [← q2] using hu.symm
            have e2 : b = wr.heap.size := by simpa [← q3] using hb.symm
            subst e1 e2
            exact ⟨T1.far (p := ⟨w.heap.size, _, none⟩) (show w.heap.size ≠ wr.heap.size by omega) _, by omega, z1⟩
        · have li := (List.getElem?_eq_some_iff.1 hi).1
          have lj := (List.getElem?_eq_some_iff.1 hj).1
          simp at li lj
          by_cases h1 : i < k
          · rw [List.getElem?_append_left (by omega)] at hi
            have := old i b hi
            by_cases h2 : j < k
            · rw [List.getElem?_append_left (by omega)] at hj
              exact q5 i j b hi hj
            · obtain rfl : j = bs.length := by omega
              have e2 : b = wr.heap.size := by simpa using hj.symm
              omega
          · obtain rfl : i = bs.length := by omega
            have e2 : b = wr.heap.size := by simpa using hi.symm
            by_cases h2 : j < k
            · rw [List.getElem?_append_left (by omega)] at hj
              have := old j b hj
              omega
            · omega
      have X2 : Ext w (w1.setCell ⟨w.heap.size, k, none⟩ (.slice p1 e.length cap1)) := xset (xt X e1) (Nat.le_refl _) _
      clear R q1 q1' q4 q5 T1 hk0
      go_wp2_with fail
      go_roundw
      case rel => exact ⟨k + 1, by omega, by simp, R2, X2⟩
      case measure => simp [intOf]; omega
    · obtain rfl : k = n := by omega
      clear hmk R0
      go_wp2_with fail
      go_ret
      obtain ⟨vs, bs, q1, q2, q3, q4, q5⟩ := R.out
      refine ⟨_, rfl, ⟨_, k, vs, bs, by rw [HN.out]; rfl, by rw [HN.out]; exact Nat.le_refl _, by rw [HN.out]; exact q2, by rw [HN.out]; exact q3, fun _ => ⟨w.heap.size, 0, rfl, fun j c hc => ?_, fun i u hu => ?_⟩, fun i u l b hu hl hb => ?_, q5⟩, X⟩
      · have hj := (List.getElem?_eq_some_iff.1 hc).1
        have hjl : j < L.length := by rw [HN.out]; omega
        have := (q4 j _ _ c (List.getElem?_eq_getElem (by omega)) (List.getElem?_eq_getElem hjl) hc).2
        omega
      · have hik : i < k := by have := (List.getElem?_eq_some_iff.1 hu).1; omega
        have := World.rowIs.cell q1 (i := i) hik
        simp only [List.getD, hu] at this
        rw [Nat.zero_add]
        exact this
      · have := q4 i u l b hu hl hb
        exact ⟨this.1, by omega, this.2.2⟩

set_option maxRecDepth 8000 in
set_option maxHeartbeats 2000000 in
theorem eqStrs2 (u v : Value) (l : List (List UInt8)) (w : World) (hu : TxtsIn w u l) (hv : TxtsIn w v l) (hl : l.length ≤ 1048576) :
    Calls Tryd.prog 18 #[u, v] w fun e w' => e = .returned (.bool true) ∧ Ext w w' := by
  obtain ⟨p, cap, rfl, hcap, hi⟩ := hu
  obtain ⟨p2, cap2, rfl, hcap2, hi2⟩ := hv
  obtain ⟨n, hn⟩ : ∃ n, l.length = n := ⟨_, rfl⟩
  have HN : Hid (l.length = n) := hn
  rw [hn] at hl hcap hcap2 hi hi2 ⊢
  have H1 : Hid (0 < n → ∃ b o, p = some ⟨b, o, none⟩ ∧ ∀ i e, l[i]? = some e → w.cell? ⟨b, o + i, none⟩ = some (sV e)) := hi
  have H2 : Hid (0 < n → ∃ b o, p2 = some ⟨b, o, none⟩ ∧ ∀ i e, l[i]? = some e → w.cell? ⟨b, o + i, none⟩ = some (sV e)) := hi2
  clear hn hi hi2
  go_enter Tryd.func18, Tryd.ntmps18
  go_wp2_with fail
  go_loopw [5] (fun i wr => ∃ k : Nat, k ≤ n ∧ i = .int .i64 k ∧ Ext w wr) (fun i _ => n - (intOf i).toNat)
  case atStart => exact ⟨0, by omega, rfl, xr _⟩
  case round =>
    obtain ⟨k, hk, rfl, X⟩ := hrel
    by_cases hlt : k < n
    · obtain ⟨e, he⟩ : ∃ e, l[k]? = some e := ⟨_, List.getElem?_eq_getElem (by rw [HN.out]; exact hlt)⟩
      obtain ⟨b, o, rfl, hc⟩ := H1.out (by omega)
      obtain ⟨b2, o2, rfl, hc2⟩ := H2.out (by omega)
      have c1 := cell_later X (hc k e he)
      have c2 := cell_later X (hc2 k e he)
      have i2 : (k : Int) < (n : Int) := by omega
      have hp : (e == e) = true := by simp
      clear he hc hc2 H1 H2
      go_wp2_with fail
      go_quiet (fail)
      go_wp2_with fail
      go_roundw
      case rel => exact ⟨k + 1, by omega, by go_num, ⟨X.os, X.tape, X.output, X.size, X.block⟩⟩
      case measure => simp [intOf]; omega
    · obtain rfl : k = n := by omega
      go_wp2_with fail
      go_ret
      exact ⟨rfl, X⟩

set_option maxRecDepth 8000 in
set_option maxHeartbeats 2000000 in
theorem eqSS (u v : Value) (L : List (List (List UInt8))) (w : World) (hu : SsIn w u L) (hv : SsIn w v L) (hl : L.length ≤ 1048576) (hr : ∀ l ∈ L, l.length ≤ 1048576) :
    Calls Tryd.prog 8 #[u, v] w fun e w' => e = .returned (.bool true) ∧ Ext w w' := by
  have H1 : Hid (SsIn w u L) := hu
  have H2 : Hid (SsIn w v L) := hv
  obtain ⟨p, cap, _, rfl, hcap, _, _, _⟩ := hu
  obtain ⟨p2, cap2, _, rfl, hcap2, _, _, _⟩ := hv
  obtain ⟨n, hn⟩ : ∃ n, L.length = n := ⟨_, rfl⟩
  have HN : Hid (L.length = n) := hn
  have HR : Hid (∀ l ∈ L, l.length ≤ 1048576) := hr
  rw [hn] at hl hcap hcap2 H1 H2 ⊢
  clear hn hr
  go_enter Tryd.func8, Tryd.ntmps8
  go_wp2_with fail
  go_loopw [5] (fun i wr => ∃ k : Nat, k ≤ n ∧ i = .int .i64 k ∧ Ext w wr) (fun i _ => n - (intOf i).toNat)
  case atStart => exact ⟨0, by omega, rfl, xr _⟩
  case round =>
    obtain ⟨k, hk, rfl, X⟩ := hrel
    by_cases hlt : k < n
    · obtain ⟨e, he⟩ : ∃ e, L[k]? = some e := ⟨_, List.getElem?_eq_getElem (by rw [HN.out]; exact hlt)⟩
      obtain ⟨b, o, u1, rfl, c1, I1⟩ := (H1.out.later X).row he
      obtain ⟨b2, o2, u2, rfl, c2, I2⟩ := (H2.out.later X).row he
      have i2 : (k : Int) < (n : Int) := by omega
      have CE : Hid (∀ W, Ext wr W → Calls Tryd.prog 18 #[u1, u2] W fun e w' => e = .returned (.bool true) ∧ Ext W w') := fun W x => eqStrs2 u1 u2 e W (I1.later x) (I2.later x) (HR.out e (List.mem_of_getElem? he))
      clear he I1 I2 H1 H2
      go_wp2_with fail
      go_region_held3 (fun w' => w'.cell? ⟨b, o + k, none⟩ = some u1 ∧ w'.cell? ⟨b2, o2 + k, none⟩ = some u2) (go_keep)
        (first
          | (go_at_call 18; refine (CE.out _ (xd (xr _))).mono ?_; rintro e w' ⟨rfl, E⟩; have Y := xt (xd (xr _)) E; have r0 := cell_later Y c1; have r1 := cell_later Y c2))
      all_goals
        go_wp2_with fail
        go_roundw
        case rel => exact ⟨k + 1, by omega, by go_num, xt X Y⟩
        case measure => simp [intOf]; omega
    · obtain rfl : k = n := by omega
      go_wp2_with fail
      go_ret
      exact ⟨rfl, X⟩

end Go.Proofs.YtpdfalpoidlegaaDoor
