/-
  Several texts in one: Cf0, Cf1, Cf2, Cf3, Cf4.
-/
import Derived.Test.YtbebmjiopijheaaDoorFa
import Derived.Test.YtbebmjiopijheaaDoorLibC
import Derived.Laws.IdiomStrings
import Derived.Laws.IdiomCopy
import Derived.RegionTactic
import Derived.Deep.OwnRows
import Derived.Test.YtbebmjiopijheaaDoorV9e
import Derived.Test.YtbebmjiopijheaaDoorV6h
import Derived.Test.YtbebmjiopijheaaDoorV8n
namespace Go.Proofs.YtbebmjiopijheaaDoor
open Go.RowKit

abbrev blk (n : Nat) : List UInt8 := List.replicate n 32
/-- How many of the blanks beside a text stand ahead of it. -/
def aheadN (k : Int) (r : Nat) : Nat := if k = 1 then r else if k = 3 ∨ k = 4 then r / 2 else 0
theorem aheadN_le (k : Int) (r : Nat) : aheadN k r ≤ r := by unfold aheadN; split; · omega
                                                             · split <;> omega
/-- A text in a field of n bytes. -/
def fieldT (k : Int) (t : List UInt8) (n : Nat) : List UInt8 :=
  if k = 1 ∧ n < t.length then List.replicate n 35 else blk (aheadN k (n - t.length)) ++ (t.take n ++ blk (n - t.length - aheadN k (n - t.length)))

theorem Ext.setCells {a : World} {b : Nat} (hb : a.heap.size ≤ b) : ∀ (us : List Value) (o : Nat) {w : World}, Ext a w → Ext a (w.setCells b o us)
  | [], _, _, h => h
  | u :: us, o, _, h => Ext.setCells hb us (o + 1) (xset h (by exact hb) u)
theorem Vec.setCells {w : World} {b : Nat} {l : List Value} (h : Vec w b l) (o : Nat) (us : List Value) (hu : o + us.length ≤ l.length) :
    Vec (w.setCells b o us) b (l.take o ++ (us ++ l.drop (o + us.length))) := fun i v hi => by
  rw [World.frozen?_setCells]
  have some_at : ∀ j, j < l.length → (w.cell? ⟨b, j, none⟩).isSome = true := fun j hj => by rw [(h j l[j] (List.getElem?_eq_getElem hj)).1]; rfl
  have fz : ∀ j, j < l.length → w.frozen? ⟨b, j, none⟩ = false := fun j hj => (h j l[j] (List.getElem?_eq_getElem hj)).2
  have hlen : i < l.length := by
    have := (List.getElem?_eq_some_iff.1 hi).1
    simp at this
    omega
  refine ⟨?_, fz i hlen⟩
  by_cases h1 : i < o
  · rw [List.getElem?_append_left (by simp; omega), List.getElem?_take_of_lt h1] at hi
    rw [World.cell?_setCells_out b us o w _ (fun _ _ => .inl h1)]
    exact (h i v hi).1
  · rw [List.getElem?_append_right (by simp; omega)] at hi
    simp only [List.length_take, Nat.min_eq_left (show o ≤ l.length by omega)] at hi
    by_cases h2 : i - o < us.length
    · rw [List.getElem?_append_left h2] at hi
      have := World.cell?_setCells_in b us o w (fun j hj => some_at (o + j) (by omega)) (i - o) h2
      rw [show o + (i - o) = i by omega] at this
      rw [this, ← hi, List.getElem?_eq_getElem h2]
    · rw [List.getElem?_append_right (by omega), List.getElem?_drop, show o + us.length + (i - o - us.length) = i by omega] at hi
      rw [World.cell?_setCells_out b us o w _ (fun _ _ => .inr (by show o + us.length ≤ i; omega))]
      exact (h i v hi).1
/-- A copy of a text into bytes: what is too long is left out. -/
theorem run_copy_text (w : World) (b o dLen dCap : Nat) (t : List UInt8) (l : List Value) (h : Vec w b l) (hd : o + dLen ≤ l.length) (ty : TypeId) :
    (Builtin.copy_ #[37, 9] ty #[.slice (some ⟨b, o, none⟩) dLen dCap, sV t]).run Tryd.prog w = .ok (.int .i64 ((min t.length dLen : Nat) : Int)) (w.setCells b o (encB (t.take dLen))) := by
  have some_at : ∀ j, j < l.length → (w.cell? ⟨b, j, none⟩).isSome = true := fun j hj => by rw [(h j l[j] (List.getElem?_eq_getElem hj)).1]; rfl
  have fz : ∀ j, j < l.length → w.frozen? ⟨b, j, none⟩ = false := fun j hj => (h j l[j] (List.getElem?_eq_getElem hj)).2
  have hz : ∀ w : World, (Go.sizeOf 5).run Tryd.prog w = .ok 1 w := fun w => by
    have : (Tryd.prog.info? 5).map (·.size) = some 1 := by kernel_rfl
    cases hq : Tryd.prog.info? 5 with
    | none => rw [hq] at this; cases this
    | some i =>
      rw [hq] at this
      simp at this
      simp [sizeOf, typeInfo, hq, this]
  have hlen : (encB (t.take dLen)).length = min t.length dLen := by rw [encB_length, List.length_take, Nat.min_comm]
  have hst := run_storeCells_cells (P := Tryd.prog) b o (encB (t.take dLen)) 0 w (fun j hj => by rw [hlen] at hj; exact some_at _ (by omega)) (fun j hj => by rw [hlen] at hj; exact fz _ (by omega)) (by
    intro v hv
    obtain ⟨x, _, rfl⟩ := List.mem_map.1 hv
    rfl)
  have hsz : (⟨t.toArray⟩ : ByteArray).size = t.length := rfl
  have htk : List.take (min t.length dLen) (List.map (fun b : UInt8 => Value.int IntKind.u8 (b.toNat : Int)) t) = encB (t.take dLen) := by
    rw [← List.map_take, encB]
    congr 1
    rw [Nat.min_comm, ← List.take_take, List.take_of_length_le (Nat.le_refl _)]
  show (Builtin.copy_ #[37, 9] ty #[.slice (some ⟨b, o, none⟩) dLen dCap, .string ⟨t.toArray⟩]).run Tryd.prog w = _
  simp [Builtin.copy_, run_underlying Tryd.underlying37, Builtin.lenOf, Builtin.firstCells, hz, hsz]
  rw [show Nat.min t.length dLen = min t.length dLen from rfl, htk, hst]
  rfl
/-- A text as bytes of one's own. -/
theorem run_bytes_text (w : World) (t : List UInt8) : ∃ c w', (convert 9 37 (sV t)).run Tryd.prog w = .ok (.slice (some ⟨w.heap.size, 0, none⟩) t.length c) w' ∧ t.length ≤ c ∧ Vec w' w.heap.size (encB t) ∧ Ext w w' := by
  have h := run_bytes_of_string (P := Tryd.prog) w 9 37 5 ⟨t.toArray⟩ Tryd.underlying9 Tryd.underlying37 Tryd.underlying5
  refine ⟨_, _, h, ?_, ?_, ?_⟩
  · exact grownCap_ge _ _ _ _
  · intro i v hi
    have hi' : i < t.length := by have := (List.getElem?_eq_some_iff.1 hi).1; rwa [encB_length] at this
    have hv : v = .int .u8 (t[i].toNat : Int) := by
      rw [encB_at (List.getElem?_eq_getElem hi')] at hi
      exact (Option.some.inj hi).symm
    subst hv
    refine ⟨?_, ?_⟩
    · rw [show (⟨w.heap.size, i, none⟩ : Addr) = ⟨w.drew.heap.size, i, none⟩ from rfl, World.cell?_alloc_mark, bytesRow_at ⟨t.toArray⟩ _ i hi']
      rfl
    · rw [show (⟨w.heap.size, i, none⟩ : Addr) = ⟨w.drew.heap.size, i, none⟩ from rfl, World.frozen?_alloc_mark]
      have : i < (bytesRow ⟨t.toArray⟩ (grownCap w (⟨t.toArray⟩ : ByteArray).size 0 5)).size := by
        have hz : (⟨t.toArray⟩ : ByteArray).size = t.length := rfl
        simp only [bytesRow, Array.size_append, Array.size_map, Array.size_replicate]
        simp
        omega
      simp
      omega
  · exact xa (xd (xr w)) _
/-- Bytes of one's own as a text. -/
theorem conv_vec {w : World} {b : Nat} {l : List UInt8} (h : Vec w b (encB l)) (c : Nat) : (convert 37 9 (.slice (some ⟨b, 0, none⟩) l.length c)).run Tryd.prog w = .ok (sV l) w :=
  run_convert_bytes_back (P := Tryd.prog) w 37 9 5 ⟨b, 0, none⟩ c l Tryd.underlying37 Tryd.underlying5 Tryd.underlying9 (fun j hj => by
    have := (h j _ (encB_at (List.getElem?_eq_getElem hj))).1
    rw [Addr.add_lit, Nat.zero_add]
    exact this)
/-- strings.Repeat at one byte. -/
theorem repeat_byte (c : UInt8) (n : Nat) (hn : n ≤ 1000) (w : World) :
    Calls Tryd.prog 13 #[sV [c], .int .i64 (n : Int)] w fun e w' => e = .returned (sV (List.replicate n c)) ∧ Ext w w' := by
  have h := Any.strings_Repeat layRepeat shelfExtra ⟨#[c]⟩ n w (by omega) (by show 1 * n ≤ _; omega)
  rw [fRepeat] at h
  refine h.mono fun e w' ⟨he, hw⟩ => ⟨?_, hw⟩
  rw [he]
  have e := Lib.repeatL_replicate c 1 n
  simp only [Nat.mul_one] at e
  rw [← e]
  rfl

end Go.Proofs.YtbebmjiopijheaaDoor

namespace Go.Proofs.YtbebmjiopijheaaDoor
open Go.RowKit

theorem app_str17 (a b : List UInt8) : (⟨a.toArray⟩ ++ ⟨b.toArray⟩ : ByteArray) = ⟨(a ++ b).toArray⟩ := by
  apply ByteArray.ext
  rw [ByteArray.data_append]
  apply Array.ext'
  simp
set_option maxRecDepth 8000 in
set_option maxHeartbeats 1000000 in
/-- l10Rep at one byte. -/
theorem repS1 (c : UInt8) (m : Nat) (hmn : m ≤ 1000) (w : World) : Calls Tryd.prog 21 #[sV [c], .int .i64 (m : Int)] w fun e w' => e = .returned (sV (List.replicate m c)) ∧ w' = w := by
  go_enter Tryd.func21, Tryd.ntmps21
  go_wp2_with fail
  go_loopw [5, 6] (fun o i wr => ∃ k : Nat, k ≤ m ∧ i = .int .i64 k ∧ o = sV (List.replicate k c) ∧ wr = w) (fun _ i _ => m - (intOf i).toNat)
  case atStart => exact ⟨0, by omega, rfl, rfl, rfl⟩
  case round =>
    obtain ⟨k, hk, rfl, rfl, rfl⟩ := hrel
    by_cases hlt : k < m
    · have i2 : (k : Int) < m := by omega
      have hz1 : (⟨(List.replicate k c).toArray⟩ : ByteArray).size = k := by show (List.replicate k c).toArray.size = k; simp
      have hz2 : (⟨[c].toArray⟩ : ByteArray).size = 1 := rfl
      have HA : Hid ((⟨(List.replicate k c).toArray⟩ ++ ⟨[c].toArray⟩ : ByteArray) = ⟨(List.replicate (k + 1) c).toArray⟩) := by
        show _ = _
        rw [app_str17, List.replicate_succ']
      have hss : (⟨(List.replicate k c).toArray⟩ : ByteArray).size + (⟨[c].toArray⟩ : ByteArray).size ≤ 9223372036854775807 := by rw [hz1, hz2]; omega
      clear hz1 hz2
      obtain ⟨L, hL⟩ : ∃ L, List.replicate k c = L := ⟨_, rfl⟩
      rw [hL] at HA hss ⊢
      clear hL
      go_wp2_with fail
      go_roundw
      case rel => exact ⟨k + 1, by omega, by go_num, by rw [HA.out], trivial⟩
      case measure => simp [intOf]; omega
    · obtain rfl : k = m := by omega
      have i2 : ¬ (k : Int) < k := by omega
      go_wp2_with fail
      go_ret
      exact ⟨rfl, rfl⟩

theorem infoB17 : (Tryd.prog.info? 5).map (fun i => (i.zero, i.size, i.bytes)) = some (some (.int .u8 0), 1, 1) := by kernel_rfl
set_option maxRecDepth 8000 in
set_option maxHeartbeats 1000000 in
theorem blanksS (n : Nat) (hn : n ≤ 1000) (w : World) : Calls Tryd.prog 22 #[.int .i64 (n : Int)] w fun e w' => e = .returned (sV (blk n)) ∧ Ext w w' := by
  have hmk := run_make_row' (P := Tryd.prog) 37 5 (.int .u8 0) 1 Tryd.underlying37 infoB17 rfl .i64 .i64 n (by omega) (by omega)
  have R0 : (w.alloc (.cells (madeCells #[.int .u8 0] n) 5)).rowIs w.heap.size 5 n (fun j => .int .u8 (if j < 0 then 32 else 0)) := (World.rowIs_made w (.int .u8 0) n 5).congr (fun i _ => by simp)
  have X0 := x1 w (.cells (madeCells #[.int .u8 0] n) 5)
  go_enter Tryd.func22, Tryd.ntmps22
  go_wp2_with fail
  go_loopw [9] (fun i wr => ∃ k : Nat, k ≤ n ∧ i = .int .i64 k ∧ Hid (wr.rowIs w.heap.size 5 n (fun j => .int .u8 (if j < k then 32 else 0))) ∧ Ext w wr) (fun i _ => n - (intOf i).toNat)
  case atStart => exact ⟨0, by omega, rfl, R0, X0⟩
  case round =>
    obtain ⟨k, hk, rfl, R, X⟩ := hrel
    by_cases hlt : k < n
    · have kf := World.rowIs.cell R.out (i := k) hlt
      have kz := World.rowIs.frozen R.out k
      simp only [Nat.lt_irrefl, if_false] at kf
      have R2 : Hid ((wr.setCell ⟨w.heap.size, k, none⟩ (.int .u8 32)).rowIs w.heap.size 5 n (fun j => .int .u8 (if j < k + 1 then 32 else 0))) := (World.rowIs.set R.out k (.int .u8 32)).congr (fun j _ => by
        by_cases e : j = k
        · subst e; simp
        · have : (j < k + 1) = (j < k) := by simp; omega
          simp only [this]
          first | rw [if_neg e] | rw [if_neg (fun h => e h.symm)])
      have hlt' : (k : Int) < (n : Int) := by omega
      clear R R0 hmk
      go_wp2_with fail
      go_roundw
      case rel => exact ⟨k + 1, by omega, by simp, R2, xset X (Nat.le_refl _) _⟩
      case measure => simp [intOf]; omega
    · obtain rfl : k = n := by omega
      have V : Vec wr w.heap.size (encB (blk k)) := fun i v hi => by
        have hi' : i < k := by have := (List.getElem?_eq_some_iff.1 hi).1; rw [encB_length] at this; simpa using this
        have := World.rowIs.cell R.out (i := i) hi'
        rw [if_pos hi'] at this
        refine ⟨?_, World.rowIs.frozen R.out i⟩
        rw [this, ← hi, encB_at (c := 32) (by simp [hi'])]
        rfl
      have hcv := conv_vec V k
      have hl : (blk k).length = k := by simp
      rw [hl] at hcv
      obtain ⟨L, hL⟩ : ∃ L, blk k = L := ⟨_, rfl⟩
      have HL : Hid (blk k = L) := hL
      rw [hL] at hcv
      clear hmk R0 V hl hL
      go_wp2_with fail
      go_ret
      exact ⟨congrArg (fun l => Ending.returned (sV l)) HL.out.symm, X⟩

set_option maxRecDepth 8000 in
set_option maxHeartbeats 1000000 in
theorem blanksI (n : Nat) (hn : n ≤ 1000) (w : World) : Calls Tryd.prog 14 #[.int .i64 (n : Int)] w fun e w' => ∃ b c, e = .returned (.slice (some ⟨b, 0, none⟩) n c) ∧ w.heap.size ≤ b ∧ n ≤ c ∧ Vec w' b (encB (blk n)) ∧ Ext w w' := by
  go_enter Tryd.func14, Tryd.ntmps14
  go_wp2_with fail
  refine (repeat_byte 32 n hn _).mono ?_
  rintro e w1 ⟨rfl, e1⟩
  obtain ⟨c, w2, hrun, hc, V, e2⟩ := run_bytes_text w1 (blk n)
  have hl : (blk n).length = n := by simp
  rw [hl] at hrun hc
  obtain ⟨L, hL⟩ : ∃ L : List UInt8, List.replicate n 32 = L := ⟨_, rfl⟩
  have HV : Hid (Vec w2 w1.heap.size (encB (blk n))) := V
  change (convert _ _ (sV (List.replicate n 32))).run _ _ = _ at hrun
  rw [hL] at hrun ⊢
  clear hL V hl
  go_wp2_with fail
  go_ret
  exact ⟨_, c, rfl, e1.size, hc, HV.out, xt e1 e2⟩

end Go.Proofs.YtbebmjiopijheaaDoor

namespace Go.Proofs.YtbebmjiopijheaaDoor
open Go.RowKit

theorem ret17 {a : ByteArray} {l R : List UInt8} (h : a = ⟨l.toArray⟩) (e : l = R) : Ending.returned (.string a) = Ending.returned (sV R) := by rw [h, e]
theorem ext17 (u : List UInt8) (m : Nat) : (⟨u.toArray⟩ : ByteArray).extract 0 m = ⟨(u.take m).toArray⟩ := by
  apply ByteArray.ext
  rw [ByteArray.data_extract]
  apply Array.ext'
  simp
theorem take17 (u : List UInt8) (m : Nat) (h : u.length ≤ m) : u.take m = u := List.take_of_length_le h
set_option maxRecDepth 8000 in
set_option maxHeartbeats 2000000 in
theorem fieldS (k : Int) (n : Bool) (d x : Int) (t u : List UInt8) (m : Nat) (hm : m ≤ 40) (hu : u.length ≤ 3000000) (w : World)
    (SH : Hid (∀ w, Calls Tryd.prog 20 #[valV k n d x t] w fun e w' => e = .returned (sV u) ∧ Ext w w')) :
    Calls Tryd.prog 9 #[valV k n d x t, .int .i64 (m : Int)] w fun e w' => e = .returned (sV (fieldT k u m)) ∧ Ext w w' := by
  obtain ⟨R, hR⟩ : ∃ R, fieldT k u m = R := ⟨_, rfl⟩
  have HR : Hid (fieldT k u m = R) := hR
  rw [hR]
  clear hR
  have X := x1 w (.cells #[.int .i64 k, .bool n, .int .i64 d, .int .i64 x, sV t] 30)
  have B1 := vec_made w (valL k n d x t) 30
  obtain ⟨wa, ha⟩ : ∃ wa, w.alloc (.cells #[.int .i64 k, .bool n, .int .i64 d, .int .i64 x, sV t] 30) = wa := ⟨_, rfl⟩
  change Vec (w.alloc (.cells #[.int .i64 k, .bool n, .int .i64 d, .int .i64 x, sV t] 30)) _ _ at B1
  rw [ha] at X B1
  obtain ⟨a0, a1, a2, a3, a4⟩ := Vec.five B1
  go_enter Tryd.func9, Tryd.ntmps9
  go_wp2_with fail
  clear ha a0 a1 a2 a3 a4
  refine (SH.out wa).mono ?_
  rintro e w1 ⟨rfl, e1⟩
  have B2 := B1.later e1
  have X1 := xt X e1
  clear B1 X e1 SH
  obtain ⟨q, hq⟩ : ∃ q, u.length = q := ⟨_, rfl⟩
  have hz : (⟨u.toArray⟩ : ByteArray).size = q := hq
  have HQ : Hid (u.length = q) := hq
  rw [hq] at hu
  clear hq
  by_cases hlt : m < q
  · have hlt' : (m : Int) < (q : Int) := by omega
    by_cases h1 : k = 1
    · subst h1
      have a0 := (B2 0 _ rfl).1
      have HX : Hid (fieldT 1 u m = List.replicate m 35) := by
        show _ = _
        rw [fieldT, if_pos ⟨rfl, by rw [HQ.out]; exact hlt⟩]
      go_wp2_with fail
      refine (repS1 35 m (by omega) _).mono ?_
      rintro e w2 ⟨rfl, rfl⟩
      obtain ⟨L, hL⟩ : ∃ L : List UInt8, List.replicate m 35 = L := ⟨_, rfl⟩
      have HL : Hid (L = R) := by show _ = _; rw [← HR.out, HX.out, hL]
      rw [hL]
      clear hL
      go_wp2_with fail
      go_ret
      exact ⟨congrArg (fun l => Ending.returned (sV l)) HL.out, X1⟩
    · have HX : Hid (fieldT k u m = u.take m) := by
        show _ = _
        rw [fieldT, if_neg (fun h => h1 h.1), show m - u.length = 0 by rw [HQ.out]; omega]
        have : aheadN k 0 = 0 := Nat.le_zero.1 (aheadN_le k 0)
        rw [this]
        simp
      have hex := ext17 u m
      obtain ⟨v, hv⟩ : ∃ v, u.take m = v := ⟨_, rfl⟩
      have hvl : v.length = m := by rw [← hv, List.length_take, HQ.out]; omega
      have HXV : Hid (v = R) := by show _ = _; rw [← HR.out, HX.out, hv]
      have hzv : (⟨v.toArray⟩ : ByteArray).size = m := hvl
      rw [hv] at hex
      clear hv hvl HX HR
      have C0 : ∀ w, Calls Tryd.prog 22 #[.int .i64 0] w fun e w' => e = .returned (sV []) ∧ Ext w w' := fun w => blanksS 0 (by omega) w
      by_cases hk3 : k = 3
      · subst hk3
        have a0 := (B2 0 _ rfl).1
        go_wp2_with fail
        refine (C0 _).mono ?_
        rintro e w2 ⟨rfl, e2⟩
        have X2 := xt X1 e2
        go_wp2_with fail
        refine (C0 _).mono ?_
        rintro e w3 ⟨rfl, e3⟩
        have X3 := xt X2 e3
        go_wp2_with fail
        go_ret
        exact ⟨ret17 (l := [] ++ v ++ []) (by simp only [app_str17]) (by rw [← HXV.out]; simp), X3⟩
      · by_cases hk4 : k = 4
        · subst hk4
          have a0 := (B2 0 _ rfl).1
          go_wp2_with fail
          refine (C0 _).mono ?_
          rintro e w2 ⟨rfl, e2⟩
          have X2 := xt X1 e2
          go_wp2_with fail
          refine (C0 _).mono ?_
          rintro e w3 ⟨rfl, e3⟩
          have X3 := xt X2 e3
          go_wp2_with fail
          go_ret
          exact ⟨ret17 (l := [] ++ v ++ []) (by simp only [app_str17]) (by rw [← HXV.out]; simp), X3⟩
        · have a0 := (B2 0 _ rfl).1
          go_wp2_with fail
          refine (C0 _).mono ?_
          rintro e w2 ⟨rfl, e2⟩
          have X2 := xt X1 e2
          go_wp2_with fail
          go_ret
          exact ⟨ret17 (l := v ++ []) (by simp only [app_str17]) (by rw [← HXV.out]; simp), X2⟩
  · have hlt' : ¬ (m : Int) < (q : Int) := by omega
    have HF : Hid (fieldT k u m = blk (aheadN k (m - q)) ++ (u ++ blk (m - q - aheadN k (m - q)))) := by
      show _ = _
      rw [fieldT, HQ.out, if_neg (fun h => hlt h.2), take17 u m (by rw [HQ.out]; omega)]
    obtain ⟨r, hr⟩ : ∃ r, m - q = r := ⟨_, rfl⟩
    have hr1 : (m : Int) - (q : Int) = (r : Int) := by omega
    obtain ⟨h, hh⟩ : ∃ h, r / 2 = h := ⟨_, rfl⟩
    have hh1 : (r : Int) / 2 = (h : Int) := by omega
    obtain ⟨g, hg⟩ : ∃ g, r - h = g := ⟨_, rfl⟩
    have hg1 : (r : Int) - (h : Int) = (g : Int) := by omega
    have hr3 : r ≤ 40 := by omega
    have hh3 : h ≤ 40 := by omega
    have hg3 : g ≤ 40 := by omega
    rw [hr] at HF
    have HH : Hid (r / 2 = h) := hh
    have HG : Hid (r - h = g) := hg
    clear hr hh hg
    by_cases hk1 : k = 1
    · subst hk1
      have a0 := (B2 0 _ rfl).1
      obtain ⟨Lr, hLr⟩ : ∃ L : List UInt8, blk r = L := ⟨_, rfl⟩
      have Cr : ∀ w, Calls Tryd.prog 22 #[.int .i64 (r : Int)] w fun e w' => e = .returned (sV Lr) ∧ Ext w w' := fun w => by rw [← hLr]; exact blanksS r (by omega) w
      have hzr : (⟨Lr.toArray⟩ : ByteArray).size = r := by rw [← hLr]; show (List.replicate r 32).toArray.size = r; simp
      have HE : Hid (Lr ++ u = R) := by show _ = _; rw [← HR.out, HF.out, show aheadN 1 r = r from rfl, hLr]; simp
      clear HR HF HH HG hLr
      go_wp2_with fail
      refine (Cr _).mono ?_
      rintro e w2 ⟨rfl, e2⟩
      have X2 := xt X1 e2
      go_wp2_with fail
      go_ret
      exact ⟨ret17 (l := Lr ++ u) (by simp only [app_str17]) HE.out, X2⟩
    · by_cases hk3 : k = 3
      · subst hk3
        have a0 := (B2 0 _ rfl).1
        obtain ⟨Lh, hLh⟩ : ∃ L : List UInt8, blk h = L := ⟨_, rfl⟩
        have Ch : ∀ w, Calls Tryd.prog 22 #[.int .i64 (h : Int)] w fun e w' => e = .returned (sV Lh) ∧ Ext w w' := fun w => by rw [← hLh]; exact blanksS h (by omega) w
        have hzh : (⟨Lh.toArray⟩ : ByteArray).size = h := by rw [← hLh]; show (List.replicate h 32).toArray.size = h; simp
        obtain ⟨Lg, hLg⟩ : ∃ L : List UInt8, blk g = L := ⟨_, rfl⟩
        have Cg : ∀ w, Calls Tryd.prog 22 #[.int .i64 (g : Int)] w fun e w' => e = .returned (sV Lg) ∧ Ext w w' := fun w => by rw [← hLg]; exact blanksS g (by omega) w
        have hzg : (⟨Lg.toArray⟩ : ByteArray).size = g := by rw [← hLg]; show (List.replicate g 32).toArray.size = g; simp
        have HE : Hid (Lh ++ u ++ Lg = R) := by show _ = _; rw [← HR.out, HF.out, show aheadN 3 r = r / 2 by simp [aheadN], HH.out, HG.out, hLh, hLg]; simp
        clear HR HF HH HG hLh hLg
        go_wp2_with fail
        refine (Ch _).mono ?_
        rintro e w2 ⟨rfl, e2⟩
        have X2 := xt X1 e2
        go_wp2_with fail
        refine (Cg _).mono ?_
        rintro e w3 ⟨rfl, e3⟩
        have X3 := xt X2 e3
        go_wp2_with fail
        go_ret
        exact ⟨ret17 (l := Lh ++ u ++ Lg) (by simp only [app_str17]) HE.out, X3⟩
      · by_cases hk4 : k = 4
        · subst hk4
          have a0 := (B2 0 _ rfl).1
          obtain ⟨Lh, hLh⟩ : ∃ L : List UInt8, blk h = L := ⟨_, rfl⟩
          have Ch : ∀ w, Calls Tryd.prog 22 #[.int .i64 (h : Int)] w fun e w' => e = .returned (sV Lh) ∧ Ext w w' := fun w => by rw [← hLh]; exact blanksS h (by omega) w
          have hzh : (⟨Lh.toArray⟩ : ByteArray).size = h := by rw [← hLh]; show (List.replicate h 32).toArray.size = h; simp
          obtain ⟨Lg, hLg⟩ : ∃ L : List UInt8, blk g = L := ⟨_, rfl⟩
          have Cg : ∀ w, Calls Tryd.prog 22 #[.int .i64 (g : Int)] w fun e w' => e = .returned (sV Lg) ∧ Ext w w' := fun w => by rw [← hLg]; exact blanksS g (by omega) w
          have hzg : (⟨Lg.toArray⟩ : ByteArray).size = g := by rw [← hLg]; show (List.replicate g 32).toArray.size = g; simp
          have HE : Hid (Lh ++ u ++ Lg = R) := by show _ = _; rw [← HR.out, HF.out, show aheadN 4 r = r / 2 by simp [aheadN], HH.out, HG.out, hLh, hLg]; simp
          clear HR HF HH HG hLh hLg
          go_wp2_with fail
          refine (Ch _).mono ?_
          rintro e w2 ⟨rfl, e2⟩
          have X2 := xt X1 e2
          go_wp2_with fail
          refine (Cg _).mono ?_
          rintro e w3 ⟨rfl, e3⟩
          have X3 := xt X2 e3
          go_wp2_with fail
          go_ret
          exact ⟨ret17 (l := Lh ++ u ++ Lg) (by simp only [app_str17]) HE.out, X3⟩
        · have a0 := (B2 0 _ rfl).1
          obtain ⟨Lr, hLr⟩ : ∃ L : List UInt8, blk r = L := ⟨_, rfl⟩
          have Cr : ∀ w, Calls Tryd.prog 22 #[.int .i64 (r : Int)] w fun e w' => e = .returned (sV Lr) ∧ Ext w w' := fun w => by rw [← hLr]; exact blanksS r (by omega) w
          have hzr : (⟨Lr.toArray⟩ : ByteArray).size = r := by rw [← hLr]; show (List.replicate r 32).toArray.size = r; simp
          have HE : Hid (u ++ Lr = R) := by show _ = _; rw [← HR.out, HF.out, show aheadN k r = 0 by simp [aheadN, hk1, hk3, hk4], Nat.sub_zero, hLr]; simp
          clear HR HF HH HG hLr
          go_wp2_with fail
          refine (Cr _).mono ?_
          rintro e w2 ⟨rfl, e2⟩
          have X2 := xt X1 e2
          go_wp2_with fail
          go_ret
          exact ⟨ret17 (l := u ++ Lr) (by simp only [app_str17]) HE.out, X2⟩

end Go.Proofs.YtbebmjiopijheaaDoor

namespace Go.Proofs.YtbebmjiopijheaaDoor
open Go.RowKit

set_option maxRecDepth 8000 in
set_option maxHeartbeats 2000000 in
theorem aheadI17 (k : Int) (n : Bool) (d x : Int) (t : List UInt8) (r : Nat) (hr : r ≤ 1000) (w : World) :
    Calls Tryd.prog 15 #[valV k n d x t, .int .i64 (r : Int)] w fun e w' => e = .returned (.int .i64 (aheadN k r : Int)) ∧ Ext w w' := by
  have X := x1 w (.cells #[.int .i64 k, .bool n, .int .i64 d, .int .i64 x, sV t] 30)
  obtain ⟨a, ha⟩ : ∃ a, aheadN k r = a := ⟨_, rfl⟩
  have HA : Hid (aheadN k r = a) := ha
  rw [ha]
  clear ha
  by_cases h1 : k = 1
  · subst h1
    have h : a = r := HA.out.symm
    subst h
    go_enter Tryd.func15, Tryd.ntmps15
    go_wp2_with fail
    go_ret
    exact ⟨rfl, X⟩
  · by_cases h34 : k = 3 ∨ k = 4
    · have h : (r : Int) / 2 = (a : Int) := by
        have := HA.out
        rw [aheadN, if_neg h1, if_pos h34] at this
        omega
      rcases h34 with rfl | rfl
      all_goals
        go_enter Tryd.func15, Tryd.ntmps15
        go_wp2_with fail
        go_ret
        exact ⟨rfl, X⟩
    · have h3 : ¬ k = 3 := fun e => h34 (.inl e)
      have h4 : ¬ k = 4 := fun e => h34 (.inr e)
      have h : a = 0 := by
        have := HA.out
        rw [aheadN, if_neg h1, if_neg h34] at this
        exact this.symm
      subst h
      clear h34 HA
      go_enter Tryd.func15, Tryd.ntmps15
      go_wp2_with fail
      go_ret
      exact ⟨rfl, X⟩

/-- What CellField answers. -/
def cellF (k : Int) (n : Bool) (d x : Int) (t : List UInt8) (m : Int) : List UInt8 :=
  if goodV k n d x t = true ∧ 1 ≤ m ∧ m ≤ 40 then fieldT k (showV k n d x t) m.toNat else []

/-- What is copied into a row of blanks. -/
theorem copied17 (k : Int) (u : List UInt8) (m : Nat) (h : ¬ (k = 1 ∧ m < u.length)) :
    (encB (blk m)).take (aheadN k (m - u.length)) ++ (encB (u.take (m - aheadN k (m - u.length))) ++ (encB (blk m)).drop (aheadN k (m - u.length) + (encB (u.take (m - aheadN k (m - u.length)))).length)) = encB (fieldT k u m) := by
  have ha := aheadN_le k (m - u.length)
  obtain ⟨a, e⟩ : ∃ a, aheadN k (m - u.length) = a := ⟨_, rfl⟩
  rw [fieldT, if_neg h]
  rw [e] at ha ⊢
  have ht : u.take (m - a) = u.take m := by
    by_cases hl : u.length ≤ m
    · rw [List.take_of_length_le (by omega), List.take_of_length_le hl]
    · rw [show a = 0 by omega, Nat.sub_zero]
  rw [ht]
  simp only [encB, ← List.map_take, ← List.map_drop, ← List.map_append, List.length_map]
  congr 2
  · rw [List.take_replicate, Nat.min_eq_left (by omega)]
  · congr 1
    rw [List.drop_replicate, List.length_take]
    congr 1
    omega

set_option maxRecDepth 8000 in
set_option maxHeartbeats 2000000 in
theorem cellI (k : Int) (n : Bool) (d x : Int) (t : List UInt8) (m : Int) (w : World) (hl : t.length ≤ 2000000) (hsu : (showV k n d x t).length ≤ 3000000) (d1 : -9223372036854775808 ≤ d) (d2 : d ≤ 9223372036854775807) (hT : Tens w) (hE : ErrTab w) (hI : ItoaC w) :
    Calls Tryd.prog 7 #[valV k n d x t, .int .i64 m] w fun e w' => e = .returned (sV (cellF k n d x t m)) ∧ Ext w w' := by
  obtain ⟨R, hR⟩ : ∃ R, cellF k n d x t m = R := ⟨_, rfl⟩
  have HR0 : Hid (cellF k n d x t m = R) := hR
  rw [hR]
  clear hR
  have X := x1 w (.cells #[.int .i64 k, .bool n, .int .i64 d, .int .i64 x, sV t] 30)
  have B1 := vec_made w (valL k n d x t) 30
  obtain ⟨wa, ha⟩ : ∃ wa, w.alloc (.cells #[.int .i64 k, .bool n, .int .i64 d, .int .i64 x, sV t] 30) = wa := ⟨_, rfl⟩
  change Vec (w.alloc (.cells #[.int .i64 k, .bool n, .int .i64 d, .int .i64 x, sV t] 30)) _ _ at B1
  rw [ha] at X B1
  obtain ⟨a0, a1, a2, a3, a4⟩ := Vec.five B1
  go_enter Tryd.func7, Tryd.ntmps7
  go_wp2_with fail
  clear ha a0 a1 a2 a3 a4
  refine (goodVI k n d x t wa hl d1 d2 (hT.later X) (hE.later X)).mono ?_
  rintro e w1 ⟨rfl, e1⟩
  have C1 := B1.later e1
  have X1 := xt X e1
  clear B1
  obtain ⟨g, hg⟩ : ∃ g, goodV k n d x t = g := ⟨_, rfl⟩
  rw [hg]
  by_cases hno : ¬ (g = true ∧ 1 ≤ m ∧ m ≤ 40)
  · have HR : Hid ([] = R) := by show _ = _; rw [← HR0.out, cellF, hg, if_neg hno]
    clear hg HR0
    cases g
    · clear hno
      go_wp2_with fail
      go_ret
      exact ⟨congrArg (fun l => Ending.returned (sV l)) HR.out, X1⟩
    · by_cases hm1 : m < 1
      · clear hno
        go_wp2_with fail
        go_ret
        exact ⟨congrArg (fun l => Ending.returned (sV l)) HR.out, X1⟩
      · have hm2 : 40 < m := by
          by_cases h : 40 < m
          · exact h
          · exact absurd ⟨rfl, by omega, by omega⟩ hno
        clear hno
        go_wp2_with fail
        go_ret
        exact ⟨congrArg (fun l => Ending.returned (sV l)) HR.out, X1⟩
  · obtain ⟨rfl, hm1, hm2⟩ := Decidable.not_not.1 hno
    clear hno
    obtain ⟨u, hu⟩ : ∃ u, showV k n d x t = u := ⟨_, rfl⟩
    rw [hu] at hsu
    obtain ⟨j, rfl⟩ : ∃ j : Nat, m = (j : Int) := ⟨m.toNat, by omega⟩
    have HR : Hid (fieldT k u j = R) := by show _ = _; rw [← HR0.out, cellF, hg, if_pos ⟨rfl, hm1, hm2⟩, hu]; rfl
    have SH : Hid (∀ w', Ext w w' → Calls Tryd.prog 12 #[valV k n d x t] w' fun e w'' => e = .returned (sV u) ∧ Ext w' w'') := fun w' X' => by rw [← hu]; exact showI k n d x t w' hl d1 d2 (hT.later X') (hE.later X') (hI.later X')
    clear hg HR0 hu hT hE hI d1 d2 hl
    have n1 : ¬ (j : Int) < 1 := by omega
    have n2 : ¬ 40 < (j : Int) := by omega
    obtain ⟨a0, a1, a2, a3, a4⟩ := Vec.five C1
    go_wp2_with fail
    clear a0 a1 a2 a3 a4
    refine (SH.out _ X1).mono ?_
    rintro e w2 ⟨rfl, e2⟩
    have C2 := C1.later e2
    have X2 := xt X1 e2
    clear SH C1 e1 X
    obtain ⟨q, hq⟩ : ∃ q, u.length = q := ⟨_, rfl⟩
    have hz : (⟨u.toArray⟩ : ByteArray).size = q := hq
    have HQ : Hid (u.length = q) := hq
    rw [hq] at hsu
    clear hq
    by_cases hlong : k = 1 ∧ j < q
    · obtain ⟨rfl, hlt⟩ := hlong
      have hlt' : (j : Int) < (q : Int) := by omega
      have a0 := (C2 0 _ rfl).1
      have HX : Hid (fieldT 1 u j = List.replicate j 35) := by
        show _ = _
        rw [fieldT, if_pos ⟨rfl, by rw [HQ.out]; exact hlt⟩]
      go_wp2_with fail
      refine (repeat_byte 35 j (by omega) _).mono ?_
      rintro e w3 ⟨rfl, e3⟩
      obtain ⟨L, hL⟩ : ∃ L : List UInt8, List.replicate j 35 = L := ⟨_, rfl⟩
      have HL : Hid (L = R) := by show _ = _; rw [← HR.out, HX.out, hL]
      rw [hL]
      clear hL
      go_wp2_with fail
      go_ret
      exact ⟨congrArg (fun l => Ending.returned (sV l)) HL.out, xt X2 e3⟩
    · obtain ⟨r, hr⟩ : ∃ r, j - q = r := ⟨_, rfl⟩
      obtain ⟨a, ha⟩ : ∃ a, aheadN k r = a := ⟨_, rfl⟩
      have AH : Hid (∀ w', Calls Tryd.prog 15 #[valV k n d x t, .int .i64 (r : Int)] w' fun e w'' => e = .returned (.int .i64 (a : Int)) ∧ Ext w' w'') := fun w' => by rw [← ha]; exact aheadI17 k n d x t r (by omega) w'
      have hle : a ≤ r := by rw [← ha]; exact aheadN_le k r
      have HC := copied17 k u j (by rw [HQ.out]; exact hlong)
      rw [HQ.out, hr, ha, HR.out] at HC
      have hrj : r ≤ j := by omega
      have haj : a ≤ j := by omega
      have HRJ : Hid (j - q = r) := hr
      clear HR ha hr
      have a0 := (C2 0 _ rfl).1
      by_cases hk1 : k = 1
      all_goals
        first | (have hq' : ¬ (j : Int) < (q : Int) := by omega) | skip
        first | subst hk1 | skip
        go_wp2_with fail
        refine (blanksI j (by omega) _).mono ?_
        rintro e w3 ⟨b, c, rfl, hb, hc, V, e3⟩
        obtain ⟨a0, a1, a2, a3, a4⟩ := Vec.five (C2.later e3)
        go_wp2_with fail
        clear a0 a1 a2 a3 a4
        have hmx : max ((j : Int) - (q : Int)) 0 = (r : Int) := by have := HRJ.out; omega
        rw [hmx]
        clear hmx
        refine (AH.out _).mono ?_
        rintro e w4 ⟨rfl, e4⟩
        have V4 := V.later e4
        by_cases hca : c = a
        · obtain rfl : j = a := by omega
          subst hca
          have hcp := run_copy_text w4 b 0 (c - c) 0 u _ V4 (by rw [encB_length, List.length_replicate]; omega) 3
          rw [Nat.sub_self, List.take_zero, Nat.min_zero] at hcp
          have HC' : encB (blk c) = encB R := by
            rw [← HC, Nat.sub_self, List.take_zero]
            show _ = List.take c (encB (blk c)) ++ ([] ++ List.drop (c + 0) (encB (blk c)))
            rw [List.nil_append, Nat.add_zero, List.take_append_drop]
          rw [HC'] at V4
          have X5 := xt (xt X2 e3) e4
          have hlR : R.length = c := by
            have := congrArg List.length HC'
            simpa [encB_length] using this.symm
          have hcv := conv_vec V4 c
          rw [hlR] at hcv
          have hcp' : (Builtin.copy_ #[37, 9] 3 #[.slice (some ⟨b, 0, none⟩) 0 0, sV u]).run Tryd.prog w4 = .ok (.int .i64 0) w4 := hcp
          clear HC V V4 hlong HC' hcp
          go_wp2_with fail
          go_ret
          exact ⟨rfl, X5⟩
        · have hcp := run_copy_text w4 b a (j - a) (c - a) u _ V4 (by rw [encB_length, List.length_replicate]; omega) 3
          have V5 := V4.setCells a (encB (u.take (j - a))) (by rw [encB_length, encB_length, List.length_take, List.length_replicate]; omega)
          rw [HC] at V5
          have X5 := Ext.setCells (a := w) (b := b) (Nat.le_trans X2.size hb) (encB (u.take (j - a))) a (xt (xt X2 e3) e4)
          obtain ⟨w5, h5⟩ : ∃ w5, w4.setCells b a (encB (u.take (j - a))) = w5 := ⟨_, rfl⟩
          rw [h5] at hcp V5 X5
          have hlR : R.length = j := by
            have := congrArg List.length HC
            simp [encB_length] at this
            omega
          have hcv := conv_vec V5 c
          rw [hlR] at hcv
          have ha1 : (a : Int) ≤ (j : Int) := by omega
          have ha2 : (j : Int) ≤ (c : Int) := by omega
          obtain ⟨M, hM⟩ : ∃ M : Int, (((min u.length (j - a) : Nat)) : Int) = M := ⟨_, rfl⟩
          rw [hM] at hcp
          clear HC V V4 V5 h5 hM hlong
          go_wp2_with fail
          go_ret
          exact ⟨rfl, X5⟩

end Go.Proofs.YtbebmjiopijheaaDoor

namespace Go.Proofs.YtbebmjiopijheaaDoor
open Go.RowKit

theorem showV_len (k : Int) (n : Bool) (d x : Int) (t : List UInt8) : (showV k n d x t).length ≤ 2000 := by
  unfold showV
  split
  · next h => exact (showT_plain h).2
  · simp
set_option maxRecDepth 8000 in
set_option maxHeartbeats 2000000 in
theorem cellS17 (k : Int) (n : Bool) (d x : Int) (t : List UInt8) (m : Int) (w : World) (hl : t.length ≤ 2000000) :
    Calls Tryd.prog 5 #[valV k n d x t, .int .i64 m] w fun e w' => e = .returned (sV (cellF k n d x t m)) ∧ Ext w w' := by
  obtain ⟨R, hR⟩ : ∃ R, cellF k n d x t m = R := ⟨_, rfl⟩
  have HR0 : Hid (cellF k n d x t m = R) := hR
  rw [hR]
  clear hR
  have X := x1 w (.cells #[.int .i64 k, .bool n, .int .i64 d, .int .i64 x, sV t] 30)
  have B1 := vec_made w (valL k n d x t) 30
  obtain ⟨wa, ha⟩ : ∃ wa, w.alloc (.cells #[.int .i64 k, .bool n, .int .i64 d, .int .i64 x, sV t] 30) = wa := ⟨_, rfl⟩
  change Vec (w.alloc (.cells #[.int .i64 k, .bool n, .int .i64 d, .int .i64 x, sV t] 30)) _ _ at B1
  rw [ha] at X B1
  obtain ⟨a0, a1, a2, a3, a4⟩ := Vec.five B1
  go_enter Tryd.func5, Tryd.ntmps5
  go_wp2_with fail
  clear ha a0 a1 a2 a3 a4
  refine (goodVS k n d x t wa hl).mono ?_
  rintro e w1 ⟨rfl, e1⟩
  have C1 := B1.later e1
  have X1 := xt X e1
  clear B1
  obtain ⟨g, hg⟩ : ∃ g, goodV k n d x t = g := ⟨_, rfl⟩
  rw [hg]
  by_cases hno : ¬ (g = true ∧ 1 ≤ m ∧ m ≤ 40)
  · have HR : Hid ([] = R) := by show _ = _; rw [← HR0.out, cellF, hg, if_neg hno]
    clear hg HR0
    cases g
    · clear hno
      go_wp2_with fail
      go_ret
      exact ⟨congrArg (fun l => Ending.returned (sV l)) HR.out, X1⟩
    · by_cases hm1 : m < 1
      · clear hno
        go_wp2_with fail
        go_ret
        exact ⟨congrArg (fun l => Ending.returned (sV l)) HR.out, X1⟩
      · have hm2 : 40 < m := by
          by_cases h : 40 < m
          · exact h
          · exact absurd ⟨rfl, by omega, by omega⟩ hno
        clear hno
        go_wp2_with fail
        go_ret
        exact ⟨congrArg (fun l => Ending.returned (sV l)) HR.out, X1⟩
  · obtain ⟨rfl, hm1, hm2⟩ := Decidable.not_not.1 hno
    clear hno
    obtain ⟨u, hu⟩ : ∃ u, showV k n d x t = u := ⟨_, rfl⟩
    obtain ⟨j, rfl⟩ : ∃ j : Nat, m = (j : Int) := ⟨m.toNat, by omega⟩
    have HR : Hid (fieldT k u j = R) := by show _ = _; rw [← HR0.out, cellF, hg, if_pos ⟨rfl, hm1, hm2⟩, hu]; rfl
    have FS : Hid (∀ w', Calls Tryd.prog 9 #[valV k n d x t, .int .i64 (j : Int)] w' fun e w'' => e = .returned (sV R) ∧ Ext w' w'') := fun w' => by
      rw [← HR.out]
      exact fieldS k n d x t u j (by omega) (by have := showV_len k n d x t; rw [hu] at this; omega) w' (fun w'' => by rw [← hu]; exact showS k n d x t w'' hl)
    clear hg HR0 hu hl HR
    have n1 : ¬ (j : Int) < 1 := by omega
    have n2 : ¬ 40 < (j : Int) := by omega
    obtain ⟨a0, a1, a2, a3, a4⟩ := Vec.five C1
    go_wp2_with fail
    clear a0 a1 a2 a3 a4
    refine (FS.out _).mono ?_
    rintro e w2 ⟨rfl, e2⟩
    go_wp2_with fail
    go_ret
    exact ⟨rfl, xt X1 e2⟩

set_option maxRecDepth 8000 in
set_option maxHeartbeats 2000000 in
theorem lawCell (k : Int) (n : Bool) (d x : Int) (t : List UInt8) (m : Int) (w : World) (hl : t.length ≤ 9223372036854775807) (d1 : -9223372036854775808 ≤ d) (d2 : d ≤ 9223372036854775807) (hT : Tens w) (hE : ErrTab w) (hI : ItoaC w) :
    Calls Tryd.prog 3 #[valV k n d x t, .int .i64 m] w fun e w' => e = .returned (.bool true) ∧ Ext w w' := by
  have B := vec_made w (valL k n d x t) 25
  have X0 := x1 w (.cells #[.int .i64 k, .bool n, .int .i64 d, .int .i64 x, sV t] 25)
  go_enter Tryd.func3, Tryd.ntmps3
  go_wp2_with fail
  refine (szValue k n d x t 1048576 _ (by omega) (by omega) (by omega)).mono ?_
  rintro e w1 ⟨rfl, e1⟩
  have X1 := xt X0 e1
  by_cases hs : (1048576 : Int) < t.length
  · rw [if_pos hs]
    clear B hT hE hl d1 d2
    go_wp2_with fail
    go_ret
    exact ⟨rfl, X1⟩
  · rw [if_neg hs]
    have hl2 : t.length ≤ 2000000 := by omega
    obtain ⟨z, hz⟩ : ∃ z : Int, (1048576 : Int) - t.length = z := ⟨_, rfl⟩
    have hz0 : 0 ≤ z := by omega
    rw [hz]
    clear hz hs hl
    have B1 := B.later e1
    obtain ⟨a0, a1, a2, a3, a4⟩ := Vec.five B1
    go_wp2_with fail
    clear a0 a1 a2 a3 a4
    refine (toValue k n d x t _).mono ?_
    rintro e w2 ⟨rfl, e2⟩
    go_wp2_with fail
    refine (cellS17 k n d x t m _ hl2).mono ?_
    rintro e w3 ⟨rfl, e3⟩
    have B3 := (B1.later e2).later e3
    have X3 := xt (xt X1 e2) e3
    obtain ⟨u, hu⟩ : ∃ u, cellF k n d x t m = u := ⟨_, rfl⟩
    have HV : Hid (cellF k n d x t m = u) := hu
    rw [hu]
    clear hu
    obtain ⟨a0, a1, a2, a3, a4⟩ := Vec.five B3
    go_wp2_with fail
    clear a0 a1 a2 a3 a4
    refine (toValue k n d x t _).mono ?_
    rintro e w4 ⟨rfl, e4⟩
    have X4 := xt X3 e4
    go_wp2_with fail
    refine (cellI k n d x t m _ hl2 (Nat.le_trans (showV_len k n d x t) (by omega)) d1 d2 (hT.later X4) (hE.later X4) (hI.later X4)).mono ?_
    rintro e w5 ⟨rfl, e5⟩
    rw [HV.out]
    have X5 := xt X4 e5
    have hp : (u == u) = true := by simp
    clear B B1 B3 hT hE hI e1 e2 e3 e4 e5 HV
    go_wp2_with fail
    go_ret
    exact ⟨rfl, X5⟩

end Go.Proofs.YtbebmjiopijheaaDoor

