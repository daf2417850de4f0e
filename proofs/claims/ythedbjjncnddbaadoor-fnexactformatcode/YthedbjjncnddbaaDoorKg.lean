/-
  Rows of formats measured.
-/
import Derived.Test.YthedbjjncnddbaaDoorKd
namespace Go.Proofs.YthedbjjncnddbaaDoor
open Go.RowKit

set_option maxRecDepth 8000 in
set_option maxHeartbeats 2000000 in
theorem szFormat (f : KT) (m : Int) (w : World) (h0 : 0 ≤ m) (h1 : m ≤ 1048576) (hb : (f.bf.length : Int) ≤ 9223372036854775807) (ha : (f.af.length : Int) ≤ 9223372036854775807) (hd : (f.dt.length : Int) ≤ 9223372036854775807) :
    Calls Tryd.prog 19 #[.agg f.cells.toArray, .int .i64 m] w fun e w' => (∃ z : Int, e = .returned (.int .i64 z) ∧ -1 ≤ z ∧ z ≤ m ∧ (0 ≤ z → (f.bf.length : Int) + f.af.length + f.dt.length = m - z)) ∧ Ext w w' := by
  obtain ⟨ng, bf, af, wh, pl, mb, gr, tm, dt⟩ := f
  dsimp only at hb ha hd ⊢
  have X0 := x1 w (.cells #[.bool ng, sV bf, sV af, .int .i64 wh, .int .i64 pl, .int .i64 mb, .bool gr, .int .i64 tm, sV dt] 41)
  have s1 : (⟨bf.toArray⟩ : ByteArray).size = bf.length := rfl
  have s2 : (⟨af.toArray⟩ : ByteArray).size = af.length := rfl
  have s3 : (⟨dt.toArray⟩ : ByteArray).size = dt.length := rfl
  by_cases c1 : m < bf.length
  · go_enter Tryd.func19, Tryd.ntmps19
    go_wp2_with fail
    go_ret
    exact ⟨⟨-1, rfl, by omega, by omega, fun h => by omega⟩, X0⟩
  by_cases c2 : m - bf.length < af.length
  · have d1 : 0 ≤ m - (bf.length : Int) := by omega
    go_enter Tryd.func19, Tryd.ntmps19
    go_wp2_with fail
    go_ret
    exact ⟨⟨-1, rfl, by omega, by omega, fun h => by omega⟩, X0⟩
  by_cases c3 : m - bf.length - af.length < dt.length
  · have d1 : 0 ≤ m - (bf.length : Int) := by omega
    have d2 : 0 ≤ m - (bf.length : Int) - (af.length : Int) := by omega
    go_enter Tryd.func19, Tryd.ntmps19
    go_wp2_with fail
    go_ret
    exact ⟨⟨-1, rfl, by omega, by omega, fun h => by omega⟩, X0⟩
  · have d1 : 0 ≤ m - (bf.length : Int) := by omega
    have d2 : 0 ≤ m - (bf.length : Int) - (af.length : Int) := by omega
    have d3 : 0 ≤ m - (bf.length : Int) - (af.length : Int) - (dt.length : Int) := by omega
    go_enter Tryd.func19, Tryd.ntmps19
    go_wp2_with fail
    go_ret
    exact ⟨⟨m - (bf.length : Int) - (af.length : Int) - (dt.length : Int), rfl, by omega, by omega, fun h => by omega⟩, X0⟩

/-- What the texts of formats weigh. -/
def wgt (f : KT) : Int := (f.bf.length : Int) + f.af.length + f.dt.length
set_option maxRecDepth 8000 in
set_option maxHeartbeats 2000000 in
theorem szFormats (v : Value) (l : List KT) (m : Int) (w : World) (h : FormatsIn w v l) (h0 : 0 ≤ m) (h1 : m ≤ 1048576) (hl : l.length ≤ 9223372036854775807) (ht : ∀ f ∈ l, (f.bf.length : Int) ≤ 9223372036854775807 ∧ (f.af.length : Int) ≤ 9223372036854775807 ∧ (f.dt.length : Int) ≤ 9223372036854775807) :
    Calls Tryd.prog 10 #[v, .int .i64 m] w fun e w' => (∃ z : Int, e = .returned (.int .i64 z) ∧ -1 ≤ z ∧ z ≤ m ∧ (0 ≤ z → (l.length : Int) ≤ m ∧ ∀ f ∈ l, wgt f ≤ m)) ∧ Ext w w' := by
  obtain ⟨p, cap, rfl, hcap, hrow⟩ := h
  obtain ⟨n, hn⟩ : ∃ n, l.length = n := ⟨_, rfl⟩
  have HN : Hid (l.length = n) := hn
  rw [hn] at hcap hl hrow ⊢
  have HRow : Hid (0 < n → ∃ b o, p = some ⟨b, o, none⟩ ∧ RowK w b o l) := hrow
  have HTx : Hid (∀ f ∈ l, (f.bf.length : Int) ≤ 9223372036854775807 ∧ (f.af.length : Int) ≤ 9223372036854775807 ∧ (f.dt.length : Int) ≤ 9223372036854775807) := ht
  clear hn hrow ht
  by_cases c1 : m < n
  · go_enter Tryd.func10, Tryd.ntmps10
    go_wp2_with fail
    go_ret
    exact ⟨⟨-1, rfl, by omega, by omega, fun h => by omega⟩, xr _⟩
  · have d1 : 0 ≤ m - (n : Int) := by omega
    go_enter Tryd.func10, Tryd.ntmps10
    go_wp2_with fail
    go_loopw [1, 5] (fun q i wr => ∃ (k : Nat) (z : Int), k ≤ n ∧ i = .int .i64 k ∧ q = .int .i64 z ∧ 0 ≤ z ∧ z ≤ m ∧ Hid (∀ f ∈ l.take k, wgt f ≤ m) ∧ Ext w wr) (fun _ i _ => n - (intOf i).toNat)
    case atStart => exact ⟨0, m - (n : Int), by omega, rfl, rfl, by omega, by omega, fun f hf => by simp at hf, xr _⟩
    case round =>
      obtain ⟨k, z, hk, rfl, rfl, z0, z1, HW, X⟩ := hrel
      by_cases hlt : k < n
      · obtain ⟨f, hf⟩ : ∃ f, l[k]? = some f := ⟨_, List.getElem?_eq_getElem (by rw [HN.out]; exact hlt)⟩
        have hmem : f ∈ l := List.mem_of_getElem? hf
        obtain ⟨b, o, rfl, hRw⟩ := HRow.out (by omega)
        obtain ⟨a0, a1, a2, a3, a4, a5, a6, a7, a8⟩ := (hRw.later X).all hf
        obtain ⟨t1, t2, t3⟩ := HTx.out f hmem
        have CZ := fun W => szFormat f z W z0 (by omega) t1 t2 t3
        have HS : Hid (∀ y : Int, (f.bf.length : Int) + f.af.length + f.dt.length = z - y → 0 ≤ y → ∀ g ∈ l.take (k + 1), wgt g ≤ m) := fun y hy hy0 g hg => by
          rw [List.take_add_one, hf] at hg
          rcases List.mem_append.1 hg with hg | hg
          · exact HW.out g hg
          · have : g = f := by simpa using hg
            rw [this]; unfold wgt; omega
        have j2 : (k : Int) < (n : Int) := by omega
        have j1 : (0 : Int) ≤ (k : Int) := by omega
        clear hf hmem hRw t1 t2 t3 HW
        go_wp2_with fail
        refine (CZ _).mono ?_
        rintro e w2 ⟨⟨y, rfl, y0, y1, hy⟩, e2⟩
        have HY : Hid (0 ≤ y → (f.bf.length : Int) + f.af.length + f.dt.length = z - y) := hy
        clear hy CZ a0 a1 a2 a3 a4 a5 a6 a7 a8
        by_cases hneg : y < 0
        · go_wp2_with fail
          go_ret
          exact ⟨⟨-1, rfl, by omega, by omega, fun h => by omega⟩, xt X e2⟩
        · have y2 : 0 ≤ y := by omega
          have HW2 : Hid (∀ g ∈ l.take (k + 1), wgt g ≤ m) := HS.out y (HY.out y2) y2
          clear HS HY
          go_wp2_with fail
          go_roundw
          case rel => exact ⟨k + 1, y, by omega, by go_num, rfl, y2, by omega, HW2, xt X e2⟩
          case measure => simp [intOf]; omega
      · obtain rfl : k = n := by omega
        have HA : Hid (∀ f ∈ l, wgt f ≤ m) := fun f hf => HW.out f (by rw [List.take_of_length_le (by rw [HN.out]; exact Nat.le_refl _)]; exact hf)
        clear HW
        go_wp2_with fail
        go_ret
        exact ⟨⟨z, rfl, by omega, z1, fun _ => ⟨by omega, HA.out⟩⟩, X⟩

end Go.Proofs.YthedbjjncnddbaaDoor
