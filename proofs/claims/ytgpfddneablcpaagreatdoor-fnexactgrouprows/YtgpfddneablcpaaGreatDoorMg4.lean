/-
  Several texts in one: V7c, V7d, FrameG, Iv, Y2a, Y2b, Y2d, V6d.
-/
import Derived.Test.YtgpfddneablcpaaGreatDoorMg3
import Derived.BigQuiet
import Derived.Deep.QuietTactic
import Derived.Test.YtgpfddneablcpaaGreatDoorMg2
import Derived.Deep.Slices
import Derived.ChangeSlices
import Derived.Test.YtgpfddneablcpaaGreatDoorMg1
import Derived.Deep.OwnRows
import Derived.Laws.MakeOwn
import Derived.Deep.RegionHeld3
namespace Go.Proofs.YtgpfddneablcpaaGreatDoor
open Go.RowKit

theorem infoV : (Tryz.prog.info? 51).map (fun i => (i.zero, i.size, i.bytes)) = some (some (.agg #[.int .i64 0, .bool false, .int .i64 0, .int .i64 0, sV []]), 5, 48) := by kernel_rfl
theorem makeRowV (n : Nat) (hn : n ≤ 2000000) (w : World) :
  (Instr.makeSlice 29 (.int .i64 (n : Int)) (.int .i64 (n : Int))).run Tryz.prog w = .ok (.slice (some ⟨w.heap.size, 0, none⟩) n n) (w.alloc (.cells (madeCells #[.int .i64 0, .bool false, .int .i64 0, .int .i64 0, sV []] (n * 5)) 51)) := by
 obtain ⟨i, hi, hzz⟩ := Option.map_eq_some_iff.1 infoV
 simp only [Prod.mk.injEq] at hzz
 obtain ⟨hz, hs, hb⟩ := hzz
 have hr := run_make (P := Tryz.prog) w 29 51 i _ Tryz.underlying29 hi hz .i64 .i64 n n (by omega) (Int.le_refl _) (by rw [hb]; omega) (by omega)
 simp only [Int.toNat_natCast, hs] at hr
 exact hr
/-- What is handed over by an index. -/
def mixV (l : List VT) (k : Nat) : List VT := l.take k ++ List.replicate (l.length - k) zeroVT
theorem mixV_length (l : List VT) (k : Nat) (h : k ≤ l.length) : (mixV l k).length = l.length := by simp [mixV]; omega
theorem mixV_zero (l : List VT) : mixV l 0 = List.replicate l.length zeroVT := by simp [mixV]
theorem mixV_all (l : List VT) : mixV l l.length = l := by simp [mixV]
theorem mixV_at {l : List VT} {k : Nat} (h : k < l.length) : (mixV l k)[k]? = some zeroVT := by
 unfold mixV
 rw [List.getElem?_append_right (by simp; omega), List.getElem?_replicate, if_pos (by rw [List.length_take]; omega)]
theorem mixV_succ {l : List VT} {k : Nat} {e : VT} (h : l[k]? = some e) : (mixV l k).set k e = mixV l (k + 1) := by
 have hk : k < l.length := (List.getElem?_eq_some_iff.1 h).1
 apply List.ext_getElem?
 intro i
 rw [List.getElem?_set]
 unfold mixV
 by_cases e1 : k = i
 ·
  subst e1
  rw [if_pos rfl, if_pos (by simp; omega), List.getElem?_append_left (by simp; omega), List.getElem?_take, if_pos (by omega), h]
 ·
  rw [if_neg e1]
  rcases Nat.lt_or_ge i k with hi | hi
  ·
   rw [List.getElem?_append_left (by simp; omega), List.getElem?_append_left (by simp; omega), List.getElem?_take, List.getElem?_take, if_pos hi, if_pos (by omega)]
  ·
   rw [List.getElem?_append_right (by simp; omega), List.getElem?_append_right (by simp; omega), List.getElem?_replicate, List.getElem?_replicate]
   simp only [List.length_take]
   by_cases h2 : i < l.length
   ·
    rw [if_pos (by omega), if_pos (by omega)]
   ·
    rw [if_neg (by omega), if_neg (by omega)]

set_option maxRecDepth 8000 in
set_option maxHeartbeats 1000000 in
theorem toVals (v : Value) (l : List VT) (w : World) (h : ValsIn w v l) (hl : l.length ≤ 2000000) :
  Calls Tryz.prog 20 #[v] w fun e w' => (∃ g, e = .returned (.slice (some ⟨g, 0, none⟩) l.length l.length) ∧ w.heap.size ≤ g ∧ OwnV w' g l) ∧ Ext w w' := by
 obtain ⟨p, cap, rfl, hcap, hrow⟩ := h
 obtain ⟨n, hn⟩ : ∃ n, l.length = n := ⟨_, rfl⟩
 have HN : Hid (l.length = n) := hn
 have hmk := makeRowV n (by omega)
 have O0 := OwnV.made w n 51
 have X0 := x1 w (.cells (madeCells #[.int .i64 0, .bool false, .int .i64 0, .int .i64 0, sV []] (n * 5)) 51)
 rw [hn] at hcap hl hrow ⊢
 have HRow : Hid (0 < n → ∃ b o, p = some ⟨b, o, none⟩ ∧ RowV w b o l) := hrow
 obtain ⟨wa, ha⟩ : ∃ wa, w.alloc (.cells (madeCells #[.int .i64 0, .bool false, .int .i64 0, .int .i64 0, sV []] (n * 5)) 51) = wa := ⟨_, rfl⟩
 rw [ha] at O0 X0
 have HO : Hid (OwnV wa w.heap.size (mixV l 0)) := by show OwnV _ _ _; rw [mixV_zero, hn]; exact O0
 obtain ⟨g, hg⟩ : ∃ g, w.heap.size = g := ⟨_, rfl⟩
 have HG : Hid (w.heap.size ≤ g) := by show _ ≤ _; omega
 rw [hg] at HO
 clear hn hrow O0
 go_enter Tryz.func20, Tryz.ntmps20
 go_wp2_with fail
 clear hmk ha
 go_loopw [4] (fun i wr => ∃ k : Nat, k ≤ n ∧ i = .int .i64 k ∧ Hid (OwnV wr g (mixV l k)) ∧ Ext w wr) (fun i _ => n - (intOf i).toNat)
 case atStart => exact ⟨0, by omega, rfl, HO, X0⟩
 case round =>
  obtain ⟨k, hk, rfl, HK, X⟩ := hrel
  by_cases hlt : k < n
  ·
   obtain ⟨e, he⟩ : ∃ e, l[k]? = some e := ⟨_, List.getElem?_eq_getElem (by rw [HN.out]; exact hlt)⟩
   obtain ⟨b, o, rfl, hR⟩ := HRow.out (by omega)
   obtain ⟨a0, a1, a2, a3, a4⟩ := (hR.later X).five he
   have HP : Hid (∀ W, OwnV W g (mixV l k) → OwnV (((((W.setCell ⟨g, k * 5, none⟩ (.int .i64 e.k)).setCell ⟨g, k * 5 + 1, none⟩ (.bool e.n)).setCell ⟨g, k * 5 + 2, none⟩ (.int .i64 e.d)).setCell ⟨g, k * 5 + 3, none⟩ (.int .i64 e.x)).setCell ⟨g, k * 5 + 4, none⟩ (sV e.t)) g (mixV l (k + 1))) := fun W hW => by
    rw [← mixV_succ he]
    exact hW.put (by rw [mixV_length _ _ (by rw [HN.out]; exact hk), HN.out]; exact hlt) e
   obtain ⟨ek, en, ed, ex, et⟩ := e
   have i2 : (k : Int) < (n : Int) := by omega
   clear hR he
   dsimp only at a0 a1 a2 a3 a4 HP
   go_wp2_with fail
   clear a0 a1 a2 a3 a4
   refine (toValue ek en ed ex et _).mono ?_
   rintro r w' ⟨rfl, E⟩
   have HK' := HK.out.later E
   obtain ⟨⟨b0, b1, b2, b3, b4⟩, f0, f1, f2, f3, f4⟩ := HK'.five (mixV_at (by rw [HN.out]; exact hlt))
   have X' := xt X E
   obtain ⟨wy, hy⟩ : ∃ wy, ((((w'.setCell ⟨g, k * 5, none⟩ (.int .i64 ek)).setCell ⟨g, k * 5 + 1, none⟩ (.bool en)).setCell ⟨g, k * 5 + 2, none⟩ (.int .i64 ed)).setCell ⟨g, k * 5 + 3, none⟩ (.int .i64 ex)).setCell ⟨g, k * 5 + 4, none⟩ (sV et) = wy := ⟨_, rfl⟩
   have HQ : Hid (OwnV wy g (mixV l (k + 1))) := by show OwnV _ _ _; rw [← hy]; exact HP.out _ HK'
   have HX : Hid (Ext w wy) := by
    show Ext _ _
    rw [← hy]
    exact xset (xset (xset (xset (xset X' HG.out _) HG.out _) HG.out _) HG.out _) HG.out _
   clear HK' HK HP X X' E
   go_wp2_with fail
   go_roundw
   case rel => exact ⟨k + 1, by omega, by go_num, HQ, HX.out⟩
   case measure => simp [intOf]; omega
  ·
   obtain rfl : k = n := by omega
   have HF : Hid (OwnV wr g l) := by have := HK.out; rw [← HN.out, mixV_all] at this; exact this
   clear HK
   go_wp2_with fail
   go_ret
   exact ⟨⟨g, rfl, HG.out, HF.out⟩, X⟩

abbrev grV (r c : Int) (v : Value) : Value := .agg #[.int .i64 r, .int .i64 c, v]
def gsidesB (r c n : Int) : Bool := decide (1 ≤ r ∧ 1 ≤ c ∧ r * c ≤ 2000 ∧ n = r * c)
def VT.good (e : VT) : Bool := goodV e.k e.n e.d e.x e.t
def goodG (r c : Int) (l : List VT) : Bool := gsidesB r c l.length && l.all VT.good
theorem all_step {l : List VT} {k : Nat} {e : VT} (he : l[k]? = some e) : (l.take (k + 1)).all VT.good = ((l.take k).all VT.good && e.good) := by
 rw [List.take_add_one, he]
 simp
theorem all_bad {l : List VT} {k : Nat} {e : VT} (he : l[k]? = some e) (hb : e.good = false) : l.all VT.good = false := by
 cases h : l.all VT.good with
 | false => rfl
 | true => have := (List.all_eq_true.1 h) e (List.mem_of_getElem? he); rw [hb] at this; cases this

set_option maxRecDepth 8000 in
set_option maxHeartbeats 2000000 in
theorem goodGS (r c : Int) (v : Value) (l : List VT) (w : World) (h : ValsIn w v l) (hl : l.length ≤ 2000000) (ht : ∀ e ∈ l, e.t.length ≤ 2000000) :
  Calls Tryz.prog 17 #[grV r c v] w fun e w' => e = .returned (.bool (goodG r c l)) ∧ Ext w w' := by
 obtain ⟨p, cap, rfl, hcap, hrow⟩ := h
 obtain ⟨n, hn⟩ : ∃ n, l.length = n := ⟨_, rfl⟩
 have HN : Hid (l.length = n) := hn
 have HG : Hid (goodG r c l = (gsidesB r c n && l.all VT.good)) := by show _ = _; unfold goodG; rw [hn]
 obtain ⟨R, hR⟩ : ∃ R, goodG r c l = R := ⟨_, rfl⟩
 rw [hR] at HG ⊢
 rw [hn] at hcap hl hrow ⊢
 have HRow : Hid (0 < n → ∃ b o, p = some ⟨b, o, none⟩ ∧ RowV w b o l) := hrow
 have HT : Hid (∀ e ∈ l, e.t.length ≤ 2000000) := ht
 have X0 := x1 w (.cells #[.int .i64 r, .int .i64 c, .slice p n cap] 31)
 clear hn hrow hR ht
 by_cases h1 : r < 1
 ·
  have HF : Hid (false = R) := by show _ = _; rw [HG.out, show gsidesB r c n = false by simp [gsidesB]; omega]; rfl
  go_enter Tryz.func17, Tryz.ntmps17
  go_wp2_with fail
  go_ret
  exact ⟨ret_bool HF.out, X0⟩
 by_cases h2 : c < 1
 ·
  have HF : Hid (false = R) := by show _ = _; rw [HG.out, show gsidesB r c n = false by simp [gsidesB]; omega]; rfl
  go_enter Tryz.func17, Tryz.ntmps17
  go_wp2_with fail
  go_ret
  exact ⟨ret_bool HF.out, X0⟩
 have grow1 : r ≤ r * c := by have := Int.mul_le_mul_of_nonneg_left (show (1 : Int) ≤ c by omega) (show 0 ≤ r by omega); omega
 have grow2 : c ≤ r * c := by have := Int.mul_le_mul_of_nonneg_right (show (1 : Int) ≤ r by omega) (show 0 ≤ c by omega); omega
 by_cases h3 : 2000 < r
 ·
  have HF : Hid (false = R) := by show _ = _; rw [HG.out, show gsidesB r c n = false by simp [gsidesB]; omega]; rfl
  clear grow1 grow2
  go_enter Tryz.func17, Tryz.ntmps17
  go_wp2_with fail
  go_ret
  exact ⟨ret_bool HF.out, X0⟩
 by_cases h4 : 2000 < c
 ·
  have HF : Hid (false = R) := by show _ = _; rw [HG.out, show gsidesB r c n = false by simp [gsidesB]; omega]; rfl
  clear grow1 grow2
  go_enter Tryz.func17, Tryz.ntmps17
  go_wp2_with fail
  go_ret
  exact ⟨ret_bool HF.out, X0⟩
 obtain ⟨m, hm⟩ : ∃ m, r * c = m := ⟨_, rfl⟩
 have m0 : m ≤ 4000000 := by rw [← hm]; have := Int.mul_le_mul (show r ≤ 2000 by omega) (show c ≤ 2000 by omega) (by omega) (by omega); omega
 have m1 : 1 ≤ m := by omega
 have hwr : IntKind.i64.wrap (r * c) = m := by rw [hm, IntKind.wrap_i64]; omega
 have HS : Hid (gsidesB r c n = decide (m ≤ 2000 ∧ (n : Int) = m)) := by
  show _ = _
  unfold gsidesB
  rw [hm]
  exact decide_eq_decide.2 (by omega)
 clear grow1 grow2
 by_cases h5 : 2000 < m
 ·
  have HF : Hid (false = R) := by show _ = _; rw [HG.out, HS.out, decide_eq_false (by omega)]; rfl
  clear hm
  go_enter Tryz.func17, Tryz.ntmps17
  go_wp2_with fail
  go_ret
  exact ⟨ret_bool HF.out, X0⟩
 by_cases h6 : (n : Int) ≠ m
 ·
  have HF : Hid (false = R) := by show _ = _; rw [HG.out, HS.out, decide_eq_false (by omega)]; rfl
  clear hm
  go_enter Tryz.func17, Tryz.ntmps17
  go_wp2_with fail
  go_ret
  exact ⟨ret_bool HF.out, X0⟩
 have h6' : (n : Int) = m := by omega
 have HF : Hid (l.all VT.good = R) := by show _ = _; rw [HG.out, HS.out, decide_eq_true (by omega)]; rfl
 clear hm h6 HS HG
 subst h6'
 go_enter Tryz.func17, Tryz.ntmps17
 go_wp2_with fail
 clear hwr
 go_loopw [45] (fun i wr => ∃ k : Nat, k ≤ n ∧ i = .int .i64 k ∧ Hid ((l.take k).all VT.good = true) ∧ Ext w wr) (fun i _ => n - (intOf i).toNat)
 case atStart => exact ⟨0, by omega, rfl, by show _ = _; simp, X0⟩
 case round =>
  obtain ⟨k, hk, rfl, HA, X⟩ := hrel
  by_cases hlt : k < n
  ·
   obtain ⟨e, he⟩ : ∃ e, l[k]? = some e := ⟨_, List.getElem?_eq_getElem (by rw [HN.out]; exact hlt)⟩
   obtain ⟨b, o, rfl, hR⟩ := HRow.out (by omega)
   obtain ⟨a0, a1, a2, a3, a4⟩ := (hR.later X).five he
   have het := HT.out e (List.mem_of_getElem? he)
   have HY : Hid ((l.take (k + 1)).all VT.good = e.good) := by show _ = _; rw [all_step he, HA.out]; rfl
   have HZ : Hid (e.good = false → l.all VT.good = false) := fun hb => all_bad he hb
   have Y := x1 wr (.cells #[.int .i64 e.k, .bool e.n, .int .i64 e.d, .int .i64 e.x, sV e.t] 51)
   have C := fun W => goodVS e.k e.n e.d e.x e.t W het
   change ∀ W, Calls _ _ _ _ fun r w' => r = .returned (.bool e.good) ∧ _ at C
   obtain ⟨q, hq⟩ : ∃ q, e.good = q := ⟨_, rfl⟩
   rw [hq] at C HY HZ
   clear hq
   obtain ⟨ek, en, ed, ex, et⟩ := e
   have i2 : (k : Int) < (n : Int) := by omega
   clear hR he HA
   dsimp only at a0 a1 a2 a3 a4 C Y
   go_wp2_with fail
   clear a0 a1 a2 a3 a4
   refine (C _).mono ?_
   rintro rr w' ⟨rfl, E⟩
   cases q
   ·
    have HB : Hid (false = R) := by show _ = _; rw [← HF.out]; exact (HZ.out rfl).symm
    go_wp2_with fail
    go_ret
    exact ⟨ret_bool HB.out, xt (xt X Y) E⟩
   ·
    go_wp2_with fail
    go_roundw
    case rel => exact ⟨k + 1, by omega, by go_num, HY, xt (xt X Y) E⟩
    case measure => simp [intOf]; omega
  ·
   obtain rfl : k = n := by omega
   have HB : Hid (true = R) := by
    show _ = _
    rw [← HF.out]
    have := HA.out
    rw [List.take_of_length_le (by rw [HN.out]; exact Nat.le_refl _)] at this
    exact this.symm
   clear HA
   go_wp2_with fail
   go_ret
   exact ⟨ret_bool HB.out, X⟩
/-- What is asked of a value's room. -/
def VT.room (e : VT) : Prop := e.t.length ≤ 2000000 ∧ -9223372036854775808 ≤ e.d ∧ e.d ≤ 9223372036854775807

end Go.Proofs.YtgpfddneablcpaaGreatDoor

namespace Go.Proofs.YtgpfddneablcpaaGreatDoor
open Go.ChangeShapes Go.WideShapes Go.ChangeAt Go.RowKit

set_option maxRecDepth 100000 in
theorem value_parts {H : Type} {enc : TypeId × Value → H} {W : World} {base : Nat} {sp : Nat → Bool} {held : Bool} {fuel : Nat} {cs : List Value} {y : DataW H × List MemPlace} (hlen : cs.length = 5)
  (h : DataW.trod enc Tryz.prog W base sp held fuel 67 cs = some y) : ∃ e : VT, cs = e.cells ∧ (-9223372036854775808 ≤ e.d ∧ e.d ≤ 9223372036854775807) ∧ e.t.length ≤ maxLen := by
 obtain ⟨c0, c1, c2, c3, c4, rfl⟩ : ∃ c0 c1 c2 c3 c4, cs = [c0, c1, c2, c3, c4] := by
  match cs, hlen with
  | [c0, c1, c2, c3, c4], _ => exact ⟨c0, c1, c2, c3, c4, rfl⟩
 obtain ⟨y0, y1, y2, n, _, _, h0, h1, h2⟩ := Deep.trod_struct3 Tryz.underlying67 h
 have k3 : Tryz.prog.cellsOf 3 = 1 := by kernel_rfl
 have k4 : Tryz.prog.cellsOf 4 = 1 := by kernel_rfl
 have k9 : Tryz.prog.cellsOf 9 = 1 := by kernel_rfl
 have kd : Tryz.prog.cellsOf 65 = 3 := by kernel_rfl
 obtain ⟨z0, z1, z2, n', _, _, g0, g1, g2⟩ := Deep.trod_struct3 Tryz.underlying65 h1
 obtain ⟨a0, e0, _, w0⟩ := DataW.trod_int Tryz.underlying3 h0
 obtain ⟨b1, e1, _⟩ := DataW.trod_bool Tryz.underlying4 g0
 obtain ⟨a2, e2, _, w2⟩ := DataW.trod_int Tryz.underlying3 g1
 obtain ⟨a3, e3, _, w3⟩ := DataW.trod_int Tryz.underlying3 g2
 obtain ⟨s, e4, _, w4⟩ := DataW.trod_string Tryz.underlying9 h2
 simp [k3, k4, k9, kd] at e0 e1 e2 e3 e4
 subst e0 e1 e2 e3 e4
 exact ⟨⟨a0, b1, a2, a3, s.data.toList⟩, rfl, bounds_i64 w2, w4⟩
set_option maxRecDepth 100000 in
/-- A grid that came in. -/
theorem open_grid {H : Type} {enc : TypeId × Value → H} {W : World} {base : Nat} {v : Value} {d : DataW H} {p : List MemPlace}
  (hv : Value.okWide Tryz.prog W .any base 24 v) (h : DataW.Trod enc Tryz.prog W 0 (fun _ => true) true 24 v d p) :
  ∃ (r c : Int) (sv : Value) (l : List VT), v = grV r c sv ∧ ValsIn W sv l ∧ l.length ≤ maxLen ∧ (∀ e ∈ l, e.t.length ≤ maxLen) ∧ ∀ e ∈ l, -9223372036854775808 ≤ e.d ∧ e.d ≤ 9223372036854775807 := by
 obtain ⟨cs, rfl, hsz⟩ := okWide_struct Tryz.underlying24 hv
 have h3 : cs.size = 3 := hsz.trans (show Tryz.prog.cellsOf 24 = 3 by kernel_rfl)
 obtain ⟨c0, c1, c2, rfl⟩ : ∃ c0 c1 c2, cs = #[c0, c1, c2] := by
  obtain ⟨l⟩ := cs
  match l, h3 with
  | [c0, c1, c2], _ => exact ⟨c0, c1, c2, rfl⟩
 obtain ⟨fuel, hf⟩ := h
 obtain ⟨y0, y1, y2, n, _, _, g0, g1, g2⟩ := Deep.trod_struct3 Tryz.underlying24 hf
 have k3 : Tryz.prog.cellsOf 3 = 1 := by kernel_rfl
 have ks : Tryz.prog.cellsOf 22 = 1 := by kernel_rfl
 have kv : Tryz.prog.cellsOf 67 = 5 := by kernel_rfl
 obtain ⟨a0, e0, _, w0⟩ := DataW.trod_int Tryz.underlying3 g0
 obtain ⟨a1, e1, _, w1⟩ := DataW.trod_int Tryz.underlying3 g1
 simp [Value.cells, k3] at e0 e1
 subst e0 e1
 rcases Deep.open_slice Tryz.underlying22 g2 with ⟨hcs, hx⟩ | ⟨a, len, cap, m, n', D, Pl, hcs, _, hl, hm, hmm, _, hx⟩
 ·
  simp [Value.cells, ks] at hcs
  subst hcs
  exact ⟨a0, a1, _, [], rfl, ⟨none, 0, rfl, Nat.le_refl _, fun h => by simp at h⟩, by simp, by simp, by simp⟩
 ·
  simp [Value.cells, ks] at hcs
  subst hcs
  simp only [if_true] at hmm
  subst hmm
  have each : ∀ i, i < len → ∃ e : VT, (∀ (c : Nat) (u : Value), e.cells[c]? = some u → W.cell? ((a.add (i * 5)).add c) = some u) ∧ (-9223372036854775808 ≤ e.d ∧ e.d ≤ 9223372036854775807) ∧ e.t.length ≤ maxLen := by
   intro i hi
   obtain ⟨cs', q1, q2⟩ := hx i (by omega)
   rw [kv] at q1
   obtain ⟨_, hlen, hcell⟩ := World.cells?_some q1
   obtain ⟨e, rfl, b1, b2⟩ := value_parts hlen q2
   refine ⟨e, fun c u hc => ?_, b1, b2⟩
   have := hcell c (cells_lt hc)
   rw [this, hc]
  obtain ⟨q, hq⟩ := @Deep.choose_lt VT ⟨zeroVT⟩ _ _ each
  refine ⟨a0, a1, _, (List.range len).map q, rfl, ⟨some a, m, by simp, by simpa using hl, fun h0 => ?_⟩, by simp; omega, ?_, ?_⟩
  ·
   have h0' : 0 < len := by simpa using h0
   obtain ⟨pb, po, spt⟩ := a
   have hc0 := (hq 0 h0').1 0 _ rfl
   have hsp : spt = none := by simpa [Addr.add] using World.cell?_spot hc0
   subst hsp
   refine ⟨pb, po, rfl, fun i e hi c u hc => ?_⟩
   rw [List.getElem?_map] at hi
   obtain ⟨j, hj, rfl⟩ := Option.map_eq_some_iff.1 hi
   have hji : j = i ∧ i < len := by
    rw [List.getElem?_eq_some_iff] at hj
    obtain ⟨hlt, hj⟩ := hj
    simp at hlt hj
    exact ⟨hj.symm, hlt⟩
   obtain ⟨rfl, hlt⟩ := hji
   have := (hq j hlt).1 c u hc
   rw [Addr.add_lit, Addr.add_lit] at this
   exact this
  ·
   intro e he
   obtain ⟨i, hi, rfl⟩ := List.mem_map.1 he
   exact (hq i (List.mem_range.1 hi)).2.2
  ·
   intro e he
   obtain ⟨i, hi, rfl⟩ := List.mem_map.1 he
   exact (hq i (List.mem_range.1 hi)).2.1

end Go.Proofs.YtgpfddneablcpaaGreatDoor

namespace Go.Proofs.YtgpfddneablcpaaGreatDoor
open Go.RowKit

/-- A slice of ints that lies in w. -/
def IntsIn (w : World) (v : Value) (l : List Int) : Prop :=
 ∃ p cap, v = .slice p l.length cap ∧ l.length ≤ cap ∧ (0 < l.length → ∃ b o, p = some ⟨b, o, none⟩ ∧ ∀ i, i < l.length → w.cell? ⟨b, o + i, none⟩ = some (.int .i64 (l.getD i 0)))
theorem IntsIn.later {w w' : World} {v : Value} {l : List Int} (h : IntsIn w v l) (x : Ext w w') : IntsIn w' v l := by
 obtain ⟨p, cap, h1, h2, h3⟩ := h
 refine ⟨p, cap, h1, h2, fun h0 => ?_⟩
 obtain ⟨b, o, h4, h5⟩ := h3 h0
 exact ⟨b, o, h4, fun i hi => cell_later x (h5 i hi)⟩
/-- Ints of a row of one's own. -/
def IntsAt (w : World) (g : Nat) (l : List Int) : Prop := ∀ i, i < l.length → w.cell? ⟨g, i, none⟩ = some (.int .i64 (l.getD i 0))
theorem IntsAt.later {w w' : World} {g : Nat} {l : List Int} (h : IntsAt w g l) (x : Ext w w') : IntsAt w' g l := fun i hi => cell_later x (h i hi)
theorem IntsAt.ints {w : World} {g : Nat} {l : List Int} (h : IntsAt w g l) : IntsIn w (.slice (some ⟨g, 0, none⟩) l.length l.length) l :=
 ⟨_, _, rfl, Nat.le_refl _, fun _ => ⟨g, 0, rfl, fun i hi => by rw [Nat.zero_add]; exact h i hi⟩⟩
theorem infoInt : (Tryz.prog.info? 3).map (fun i => (i.zero, i.size, i.bytes)) = some (some (.int .i64 0), 1, 8) := by kernel_rfl

set_option maxRecDepth 8000 in
set_option maxHeartbeats 1000000 in
/-- The same ints are the same. -/
theorem eqInts (u v : Value) (l : List Int) (w : World) (hu : IntsIn w u l) (hv : IntsIn w v l) (hl : l.length ≤ 1048576) :
  Calls Tryz.prog 11 #[u, v] w fun e w' => e = .returned (.bool true) ∧ Ext w w' := by
 obtain ⟨p, cap, rfl, hcap, hi⟩ := hu
 obtain ⟨p2, cap2, rfl, hcap2, hi2⟩ := hv
 obtain ⟨L, hL⟩ : ∃ L, l.length = L := ⟨_, rfl⟩
 rw [hL] at hl hcap hcap2 hi hi2 ⊢
 have H1 : Hid (0 < L → ∃ b o, p = some ⟨b, o, none⟩ ∧ ∀ i, i < L → w.cell? ⟨b, o + i, none⟩ = some (.int .i64 (l.getD i 0))) := hi
 have H2 : Hid (0 < L → ∃ b o, p2 = some ⟨b, o, none⟩ ∧ ∀ i, i < L → w.cell? ⟨b, o + i, none⟩ = some (.int .i64 (l.getD i 0))) := hi2
 clear hL hi hi2
 go_enter Tryz.func11, Tryz.ntmps11
 go_wp2_with fail
 go_loopw [5] (fun i wr => ∃ k : Nat, k ≤ L ∧ i = .int .i64 k ∧ Ext w wr) (fun i _ => L - (intOf i).toNat)
 case atStart => exact ⟨0, by omega, rfl, xr _⟩
 case round =>
  obtain ⟨k, hk, rfl, X⟩ := hrel
  by_cases hlt : k < L
  ·
   obtain ⟨b, o, rfl, hc⟩ := H1.out (by omega)
   obtain ⟨b2, o2, rfl, hc2⟩ := H2.out (by omega)
   have c1 := cell_later X (hc k hlt)
   have c2 := cell_later X (hc2 k hlt)
   obtain ⟨f, hf⟩ : ∃ f, l.getD k 0 = f := ⟨_, rfl⟩
   rw [hf] at c1 c2
   have hlt' : (k : Int) < (L : Int) := by omega
   clear hc hc2 hf H1 H2
   go_wp2_with fail
   go_quiet (fail)
   go_wp2_with fail
   go_roundw
   case rel => exact ⟨k + 1, by omega, by go_num, ⟨X.os, X.tape, X.output, X.size, X.block⟩⟩
   case measure => simp [intOf]; omega
  ·
   obtain rfl : k = L := by omega
   go_wp2_with fail
   go_ret
   exact ⟨rfl, X⟩

structure MT where
 cl : Int
 fd : Int
abbrev MT.cells (e : MT) : List Value := [.int .i64 e.cl, .int .i64 e.fd]
abbrev measureV (cl : Int) (fd : Int) : Value := .agg #[.int .i64 cl, .int .i64 fd]

abbrev errT : List UInt8 := [35, 86, 65, 76, 85, 69, 33]
abbrev trueT : List UInt8 := [84, 82, 85, 69]
abbrev falseT : List UInt8 := [70, 65, 76, 83, 69]
abbrev boolW (b : Bool) : Value := valV 3 false 0 0 (if b then trueT else falseT)
abbrev errW : Value := valV 4 false 0 0 errT
set_option maxHeartbeats 1000000 in
theorem textVI (l : List UInt8) (w : World) : Calls Tryz.prog 124 #[sV l] w fun e w' => e = .returned (valV 2 false 0 0 l) ∧ Ext w w' := by
 go_enter Tryz.func124, Tryz.ntmps124
 go_wp2
 exact bodyPost_ret (v := valV 2 false 0 0 l) (by simp [results, Tryz.results124, go_sem]) rfl ⟨rfl, by first | exact x1 _ _ | exact xa (x1 _ _) _⟩
set_option maxHeartbeats 1000000 in
theorem textVS (l : List UInt8) (w : World) : Calls Tryz.prog 101 #[sV l] w fun e w' => e = .returned (valV 2 false 0 0 l) ∧ Ext w w' := by
 go_enter Tryz.func101, Tryz.ntmps101
 go_wp2
 exact bodyPost_ret (v := valV 2 false 0 0 l) (by simp [results, Tryz.results101, go_sem]) rfl ⟨rfl, by first | exact x1 _ _ | exact xa (x1 _ _) _⟩
set_option maxHeartbeats 1000000 in
theorem numVI (n : Bool) (d x : Int) (w : World) : Calls Tryz.prog 121 #[decV n d x] w fun e w' => e = .returned (valV 1 n d x []) ∧ Ext w w' := by
 go_enter Tryz.func121, Tryz.ntmps121
 go_wp2
 exact bodyPost_ret (v := valV 1 n d x []) (by simp [results, Tryz.results121, go_sem]) rfl ⟨rfl, by first | exact x1 _ _ | exact xa (x1 _ _) _⟩
set_option maxHeartbeats 1000000 in
theorem numVS (n : Bool) (d x : Int) (w : World) : Calls Tryz.prog 100 #[decV n d x] w fun e w' => e = .returned (valV 1 n d x []) ∧ Ext w w' := by
 go_enter Tryz.func100, Tryz.ntmps100
 go_wp2
 exact bodyPost_ret (v := valV 1 n d x []) (by simp [results, Tryz.results100, go_sem]) rfl ⟨rfl, by first | exact x1 _ _ | exact xa (x1 _ _) _⟩
set_option maxHeartbeats 1000000 in
theorem boolVI (b : Bool) (w : World) : Calls Tryz.prog 123 #[.bool b] w fun e w' => e = .returned (boolW b) ∧ Ext w w' := by
 cases b
 ·
  go_enter Tryz.func123, Tryz.ntmps123
  go_wp2
  exact bodyPost_ret (v := valV 3 false 0 0 falseT) (by simp [results, Tryz.results123, go_sem, falseT]) rfl ⟨rfl, x1 _ _⟩
 ·
  go_enter Tryz.func123, Tryz.ntmps123
  go_wp2
  exact bodyPost_ret (v := valV 3 false 0 0 trueT) (by simp [results, Tryz.results123, go_sem, trueT]) rfl ⟨rfl, x1 _ _⟩
set_option maxHeartbeats 1000000 in
theorem boolVS (b : Bool) (w : World) : Calls Tryz.prog 102 #[.bool b] w fun e w' => e = .returned (boolW b) ∧ Ext w w' := by
 cases b
 ·
  go_enter Tryz.func102, Tryz.ntmps102
  go_wp2
  exact bodyPost_ret (v := valV 3 false 0 0 falseT) (by simp [results, Tryz.results102, go_sem, falseT]) rfl ⟨rfl, x1 _ _⟩
 ·
  go_enter Tryz.func102, Tryz.ntmps102
  go_wp2
  exact bodyPost_ret (v := valV 3 false 0 0 trueT) (by simp [results, Tryz.results102, go_sem, trueT]) rfl ⟨rfl, x1 _ _⟩
theorem goodV_num {n : Bool} {d x : Int} {t : List UInt8} (h : goodV 1 n d x t = true) : goodB n d x = true ∧ t = [] := by simpa [goodV] using h
theorem goodV_zero {k : Int} {n : Bool} {d x : Int} {t : List UInt8} (h : goodV k n d x t = true) (h1 : k ≠ 1) : n = false ∧ d = 0 ∧ x = 0 := by
 simp only [goodV, h1, if_false, Bool.and_eq_true] at h
 have := h.1
 simpa [zeroD, and_assoc] using this
theorem goodV_empty {n : Bool} {d x : Int} {t : List UInt8} (h : goodV 0 n d x t = true) : t = [] := by simpa [goodV] using (show _ ∧ _ by simpa [goodV] using h).2
end Go.Proofs.YtgpfddneablcpaaGreatDoor

