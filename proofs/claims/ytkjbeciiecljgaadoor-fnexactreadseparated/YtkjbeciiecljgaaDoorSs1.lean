/-
  Rows of rows of texts that came in: measured, handed over, compared.
-/
import Derived.Test.YtkjbeciiecljgaaDoorSv1
import Derived.Laws.IdiomStrings
import Derived.BigQuiet
import Derived.RegionTactic
import Derived.Deep.OwnRows
import Derived.Deep.QuietTactic
import Derived.Deep.RegionHeld3
namespace Go.Proofs.YtkjbeciiecljgaaDoor
open Go.RowKit

/-- A slice of texts that lies in w. -/
def TxtsIn (w : World) (v : Value) (l : List (List UInt8)) : Prop :=
  ∃ p cap, v = .slice p l.length cap ∧ l.length ≤ cap ∧ (0 < l.length → ∃ b o, p = some ⟨b, o, none⟩ ∧ ∀ i e, l[i]? = some e → w.cell? ⟨b, o + i, none⟩ = some (sV e))
theorem TxtsIn.later {w w' : World} {v : Value} {l : List (List UInt8)} (h : TxtsIn w v l) (x : Ext w w') : TxtsIn w' v l := by
  obtain ⟨p, cap, h1, h2, h3⟩ := h
  refine ⟨p, cap, h1, h2, fun h0 => ?_⟩
  obtain ⟨b, o, h4, h5⟩ := h3 h0
  exact ⟨b, o, h4, fun i e hi => cell_later x (h5 i e hi)⟩
/-- A slice of slices of texts that lies in w. -/
def SsIn (w : World) (v : Value) (L : List (List (List UInt8))) : Prop :=
  ∃ (p : Option Addr) (cap : Nat) (vs : List Value), v = .slice p L.length cap ∧ L.length ≤ cap ∧ vs.length = L.length ∧ (0 < L.length → ∃ b o, p = some ⟨b, o, none⟩ ∧ ∀ (i : Nat) (u : Value), vs[i]? = some u → w.cell? ⟨b, o + i, none⟩ = some u) ∧ ∀ (i : Nat) (u : Value) (l : List (List UInt8)), vs[i]? = some u → L[i]? = some l → TxtsIn w u l
theorem SsIn.later {w w' : World} {v : Value} {L : List (List (List UInt8))} (h : SsIn w v L) (x : Ext w w') : SsIn w' v L := by
  obtain ⟨p, cap, vs, h1, h2, hv, h3, h6⟩ := h
  refine ⟨p, cap, vs, h1, h2, hv, fun h0 => ?_, fun i u l hi hl => (h6 i u l hi hl).later x⟩
  obtain ⟨b, o, h4, h5⟩ := h3 h0
  exact ⟨b, o, h4, fun i e hi => cell_later x (h5 i e hi)⟩
/-- A row of it. -/
theorem SsIn.row {w : World} {p : Option Addr} {n cap : Nat} {L : List (List (List UInt8))} (h : SsIn w (.slice p n cap) L) {i : Nat} {l : List (List UInt8)} (hi : L[i]? = some l) :
    ∃ b o u, p = some ⟨b, o, none⟩ ∧ w.cell? ⟨b, o + i, none⟩ = some u ∧ TxtsIn w u l := by
  obtain ⟨p', cap', vs, h1, h2, hv, h3, h6⟩ := h
  cases h1
  have hlt := (List.getElem?_eq_some_iff.1 hi).1
  obtain ⟨b, o, h4, h5⟩ := h3 (by omega)
  have hu : vs[i]? = some (vs[i]'(by omega)) := List.getElem?_eq_getElem (by omega)
  exact ⟨b, o, _, h4, h5 i _ hu, h6 i _ l hu hi⟩

def lenT (l : List (List UInt8)) (k : Nat) : Nat := ((l.take k).map List.length).sum
def szT (l : List (List UInt8)) : Nat := l.length + (l.map List.length).sum
theorem lenT_next {l : List (List UInt8)} {k : Nat} {e : List UInt8} (h : l[k]? = some e) : lenT l (k + 1) = lenT l k + e.length := by
  unfold lenT
  obtain ⟨hk, rfl⟩ := List.getElem?_eq_some_iff.1 h
  rw [← List.take_append_getElem hk, List.map_append, List.sum_append]
  simp
theorem sum_take_le (l : List Nat) (k : Nat) : (l.take k).sum ≤ l.sum := by
  have := List.sum_append (l₁ := l.take k) (l₂ := l.drop k)
  rw [List.take_append_drop] at this
  omega
theorem le_sum_mem {l : List Nat} {a : Nat} (h : a ∈ l) : a ≤ l.sum := by
  induction l with
  | nil => cases h
  | cons b l ih =>
    rcases List.mem_cons.1 h with rfl | h
    · simp
    · have := ih h; simp; omega
theorem lenT_le (l : List (List UInt8)) (k : Nat) : lenT l k ≤ (l.map List.length).sum := by
  unfold lenT; rw [List.map_take]; exact sum_take_le _ _
theorem lenT_all (l : List (List UInt8)) : lenT l l.length = (l.map List.length).sum := by unfold lenT; rw [List.take_length]
/-- What is left when so much is measured. -/
def leftR (left n : Nat) : Int := if n ≤ left then ((left - n : Nat) : Int) else -1


def szTT (L : List (List (List UInt8))) : Nat := L.length + (L.map szT).sum
def lenTT (L : List (List (List UInt8))) (k : Nat) : Nat := ((L.take k).map szT).sum
theorem lenTT_next {L : List (List (List UInt8))} {k : Nat} {e : List (List UInt8)} (h : L[k]? = some e) : lenTT L (k + 1) = lenTT L k + szT e := by
  unfold lenTT
  obtain ⟨hk, rfl⟩ := List.getElem?_eq_some_iff.1 h
  rw [← List.take_append_getElem hk, List.map_append, List.sum_append]
  simp
theorem lenTT_le (L : List (List (List UInt8))) (k : Nat) : lenTT L k ≤ (L.map szT).sum := by
  unfold lenTT; rw [List.map_take]; exact sum_take_le _ _
theorem lenTT_all (L : List (List (List UInt8))) : lenTT L L.length = (L.map szT).sum := by unfold lenTT; rw [List.take_length]
/-- All lengths are the machine's. -/
def FitT (l : List (List UInt8)) : Prop := l.length ≤ 9223372036854775807 ∧ ∀ e ∈ l, e.length ≤ 9223372036854775807
def FitTT (L : List (List (List UInt8))) : Prop := L.length ≤ 9223372036854775807 ∧ ∀ l ∈ L, FitT l


/-- A row of texts of one's own, in a block. -/
def TxtsOwn (w : World) (v : Value) (l : List (List UInt8)) (b : Nat) : Prop :=
  ∃ p cap, v = .slice p l.length cap ∧ l.length ≤ cap ∧ (0 < l.length → p = some ⟨b, 0, none⟩) ∧ Vec w b (l.map sV)
theorem TxtsOwn.later {w w' : World} {v : Value} {l : List (List UInt8)} {b : Nat} (h : TxtsOwn w v l b) (x : Ext w w') : TxtsOwn w' v l b := by
  obtain ⟨p, cap, h1, h2, h3, h4⟩ := h
  exact ⟨p, cap, h1, h2, h3, h4.later x⟩
theorem TxtsOwn.far {w : World} {v : Value} {l : List (List UInt8)} {b : Nat} (h : TxtsOwn w v l b) {p : Addr} (hp : p.block ≠ b) (u : Value) : TxtsOwn (w.setCell p u) v l b := by
  obtain ⟨q, cap, h1, h2, h3, h4⟩ := h
  exact ⟨q, cap, h1, h2, h3, h4.far hp u⟩
theorem TxtsOwn.txts {w : World} {v : Value} {l : List (List UInt8)} {b : Nat} (h : TxtsOwn w v l b) : TxtsIn w v l := by
  obtain ⟨p, cap, h1, h2, h3, h4⟩ := h
  refine ⟨p, cap, h1, h2, fun h0 => ⟨b, 0, h3 h0, fun i e hi => ?_⟩⟩
  rw [Nat.zero_add]
  exact (h4 i (sV e) (by rw [List.getElem?_map, hi]; rfl)).1

theorem infoS : (Tryd.prog.info? 9).map (fun i => (i.zero, i.size, i.bytes)) = some (some (sV []), 1, 16) := by kernel_rfl
theorem infoSl : (Tryd.prog.info? 30).map (fun i => (i.zero, i.size, i.bytes)) = some (some (.slice none 0 0), 1, 24) := by kernel_rfl


/-- Rows of texts of one's own, each in a block of its own between two. -/
def SsOwn (w : World) (lo hi : Nat) (v : Value) (L : List (List (List UInt8))) : Prop :=
  ∃ (p : Option Addr) (cap : Nat) (vs : List Value) (bs : List Nat), v = .slice p L.length cap ∧ L.length ≤ cap ∧ vs.length = L.length ∧ bs.length = L.length ∧
    (0 < L.length → ∃ b o, p = some ⟨b, o, none⟩ ∧ (∀ (j c : Nat), bs[j]? = some c → c ≠ b) ∧ ∀ (i : Nat) (u : Value), vs[i]? = some u → w.cell? ⟨b, o + i, none⟩ = some u) ∧
    (∀ (i : Nat) (u : Value) (l : List (List UInt8)) (b : Nat), vs[i]? = some u → L[i]? = some l → bs[i]? = some b → TxtsOwn w u l b ∧ lo ≤ b ∧ b < hi) ∧
    ∀ (i j b : Nat), bs[i]? = some b → bs[j]? = some b → i = j
theorem SsOwn.ssIn {w : World} {lo hi : Nat} {v : Value} {L : List (List (List UInt8))} (h : SsOwn w lo hi v L) : SsIn w v L := by
  obtain ⟨p, cap, vs, bs, h1, h2, h3, h4, h5, h6, h7⟩ := h
  refine ⟨p, cap, vs, h1, h2, h3, fun h0 => by obtain ⟨b, o, q1, _, q2⟩ := h5 h0; exact ⟨b, o, q1, q2⟩, fun i u l hu hl => ?_⟩
  have hi := (List.getElem?_eq_some_iff.1 hl).1
  exact (h6 i u l _ hu hl (List.getElem?_eq_getElem (by omega))).1.txts
theorem SsOwn.later {w w' : World} {lo hi : Nat} {v : Value} {L : List (List (List UInt8))} (h : SsOwn w lo hi v L) (x : Ext w w') : SsOwn w' lo hi v L := by
  obtain ⟨p, cap, vs, bs, h1, h2, h3, h4, h5, h6, h7⟩ := h
  refine ⟨p, cap, vs, bs, h1, h2, h3, h4, fun h0 => ?_, fun i u l b hu hl hb => ⟨(h6 i u l b hu hl hb).1.later x, (h6 i u l b hu hl hb).2⟩, h7⟩
  obtain ⟨b, o, q1, qn, q2⟩ := h5 h0
  exact ⟨b, o, q1, qn, fun i u hu => cell_later x (q2 i u hu)⟩


set_option maxRecDepth 8000 in
set_option maxHeartbeats 2000000 in
theorem eqStrs2 (u v : Value) (l : List (List UInt8)) (w : World) (hu : TxtsIn w u l) (hv : TxtsIn w v l) (hl : l.length ≤ 1048576) :
    Calls Tryd.prog 22 #[u, v] w fun e w' => e = .returned (.bool true) ∧ Ext w w' := by
  obtain ⟨p, cap, rfl, hcap, hi⟩ := hu
  obtain ⟨p2, cap2, rfl, hcap2, hi2⟩ := hv
  obtain ⟨n, hn⟩ : ∃ n, l.length = n := ⟨_, rfl⟩
  have HN : Hid (l.length = n) := hn
  rw [hn] at hl hcap hcap2 hi hi2 ⊢
  have H1 : Hid (0 < n → ∃ b o, p = some ⟨b, o, none⟩ ∧ ∀ i e, l[i]? = some e → w.cell? ⟨b, o + i, none⟩ = some (sV e)) := hi
  have H2 : Hid (0 < n → ∃ b o, p2 = some ⟨b, o, none⟩ ∧ ∀ i e, l[i]? = some e → w.cell? ⟨b, o + i, none⟩ = some (sV e)) := hi2
  clear hn hi hi2
  go_enter Tryd.func22, Tryd.ntmps22
  go_wp2_with fail
  go_loopw [5] (fun i wr => ∃ k : Nat, k ≤ n ∧ i = .int .i64 k ∧ Ext w wr) (fun i _ => n - (intOf i).toNat)
  case atStart => exact ⟨0, by omega, rfl, xr _⟩
  case round =>
    obtain ⟨k, hk, rfl, X⟩ := hrel
    by_cases hlt : k < n
    · obtain ⟨e, he⟩ : ∃ e, l[k]? = some e := ⟨_, List.getElem?_eq_getElem (by rw [HN.out]; exact hlt)⟩
      obtain ⟨b, o, rfl, hc⟩ := H1.out (by omega)
      obtain ⟨b2, o2, rfl, hc2⟩ := H2.out (by omega)
      have c1 := cell_later X (hc k e he)
      have c2 := cell_later X (hc2 k e he)
      have i2 : (k : Int) < (n : Int) := by omega
      have hp : (e == e) = true := by simp
      clear he hc hc2 H1 H2
      go_wp2_with fail
      go_quiet (fail)
      go_wp2_with fail
      go_roundw
      case rel => exact ⟨k + 1, by omega, by go_num, ⟨X.os, X.tape, X.output, X.size, X.block⟩⟩
      case measure => simp [intOf]; omega
    · obtain rfl : k = n := by omega
      go_wp2_with fail
      go_ret
      exact ⟨rfl, X⟩

set_option maxRecDepth 8000 in
set_option maxHeartbeats 2000000 in
theorem eqSS (u v : Value) (L : List (List (List UInt8))) (w : World) (hu : SsIn w u L) (hv : SsIn w v L) (hl : L.length ≤ 1048576) (hr : ∀ l ∈ L, l.length ≤ 1048576) :
    Calls Tryd.prog 14 #[u, v] w fun e w' => e = .returned (.bool true) ∧ Ext w w' := by
  have H1 : Hid (SsIn w u L) := hu
  have H2 : Hid (SsIn w v L) := hv
  obtain ⟨p, cap, _, rfl, hcap, _, _, _⟩ := hu
  obtain ⟨p2, cap2, _, rfl, hcap2, _, _, _⟩ := hv
  obtain ⟨n, hn⟩ : ∃ n, L.length = n := ⟨_, rfl⟩
  have HN : Hid (L.length = n) := hn
  have HR : Hid (∀ l ∈ L, l.length ≤ 1048576) := hr
  rw [hn] at hl hcap hcap2 H1 H2 ⊢
  clear hn hr
  go_enter Tryd.func14, Tryd.ntmps14
  go_wp2_with fail
  go_loopw [5] (fun i wr => ∃ k : Nat, k ≤ n ∧ i = .int .i64 k ∧ Ext w wr) (fun i _ => n - (intOf i).toNat)
  case atStart => exact ⟨0, by omega, rfl, xr _⟩
  case round =>
    obtain ⟨k, hk, rfl, X⟩ := hrel
    by_cases hlt : k < n
    · obtain ⟨e, he⟩ : ∃ e, L[k]? = some e := ⟨_, List.getElem?_eq_getElem (by rw [HN.out]; exact hlt)⟩
      obtain ⟨b, o, u1, rfl, c1, I1⟩ := (H1.out.later X).row he
      obtain ⟨b2, o2, u2, rfl, c2, I2⟩ := (H2.out.later X).row he
      have i2 : (k : Int) < (n : Int) := by omega
      have CE : Hid (∀ W, Ext wr W → Calls Tryd.prog 22 #[u1, u2] W fun e w' => e = .returned (.bool true) ∧ Ext W w') := fun W x => eqStrs2 u1 u2 e W (I1.later x) (I2.later x) (HR.out e (List.mem_of_getElem? he))
      clear he I1 I2 H1 H2
      go_wp2_with fail
      go_region_held3 (fun w' => w'.cell? ⟨b, o + k, none⟩ = some u1 ∧ w'.cell? ⟨b2, o2 + k, none⟩ = some u2) (go_keep)
        (first
          | (go_at_call 22; refine (CE.out _ (xd (xr _))).mono ?_; rintro e w' ⟨rfl, E⟩; have Y := xt (xd (xr _)) E; have r0 := cell_later Y c1; have r1 := cell_later Y c2))
      all_goals
        go_wp2_with fail
        go_roundw
        case rel => exact ⟨k + 1, by omega, by go_num, xt X Y⟩
        case measure => simp [intOf]; omega
    · obtain rfl : k = n := by omega
      go_wp2_with fail
      go_ret
      exact ⟨rfl, X⟩

end Go.Proofs.YtkjbeciiecljgaaDoor
