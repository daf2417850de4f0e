/-
  A text drawn.
-/
import Derived.Test.YtifangkifpnnpaaGreatDoorZb
import Derived.Test.YtifangkifpnnpaaGreatDoorRc
namespace Go.Proofs.YtifangkifpnnpaaGreatDoor
open Go.RowKit

theorem refT_good {r c : Int} {rf cf : Bool} (h : GoodR r c) : refT r c rf cf = refL r c rf cf := by unfold refT; rw [if_pos h]
theorem refL_len {r c : Int} (rf cf : Bool) (h : GoodR r c) : 2 ≤ (refL r c rf cf).length ∧ (refL r c rf cf).length ≤ 100 := by
  obtain ⟨⟨r0, r1⟩, c0, c1⟩ := h
  have a1 := fixT_len rf
  have a2 := fixT_len cf
  have a3 := colName_len c
  have a4 := intT_len (n := r) (by omega) (by omega)
  have a5 : 1 ≤ (intT r).length := by
    rw [intT_nat (by omega)]
    exact (whole_dN r.toNat (by omega)).2.2.2.2.1
  have a6 : 1 ≤ (colName c).length := by
    unfold colName colN
    rw [if_pos ⟨c0, c1⟩]
    split <;> simp
  unfold refL
  simp only [List.length_append]
  omega

def sevenT (j : Nat) : ByteArray := ([⟨#[36]⟩, ⟨#[]⟩, ⟨#[48]⟩, ⟨#[65]⟩, ⟨#[49]⟩, ⟨#[97]⟩, ⟨#[45]⟩] : List ByteArray).getD j ⟨#[]⟩
theorem sevenT_size (j : Nat) : (sevenT j).size ≤ 10 := by
  unfold sevenT
  match j with
  | 0 | 1 | 2 | 3 | 4 | 5 | 6 => decide
  | n + 7 => simp [List.getD]; decide

set_option maxRecDepth 8000 in
set_option maxHeartbeats 4000000 in
theorem drawRead (v : Value) (n : Nat) (w : World) (hc : CodeIn w w.heap.size v n) (hn : n ≤ 1048576) :
    Calls Tryz.prog 13 #[v] w fun e w' => ∃ (l : List UInt8), e = .returned (.string (bs l)) ∧ l.length ≤ 1000 ∧ Ext w w' := by
  have C0 := Cur.made w v n w.heap.size 39 hc hn (Nat.le_refl _)
  have X0 := x1 w (.cells #[v, .int .i64 0, .int .u64 0] 39)
  have hv : ∃ p cap, v = .slice p n cap := by
    rcases hc with ⟨⟨p, cap, h⟩, rfl⟩ | ⟨pb, po, cap, _, h, _⟩
    · exact ⟨p, cap, h⟩
    · exact ⟨_, cap, h⟩
  clear hc
  obtain ⟨p, cap, rfl⟩ := hv
  go_enter Tryz.func13, Tryz.ntmps13
  go_wp2_with fail
  refine (refC w.heap.size w.heap.size _ _ C0 (by omega)).mono ?_
  rintro e w1 ⟨r, c, rf, cf, K1, rfl, hr, hcc, hK1, c1, o1⟩
  go_wp2_with fail
  refine (refTextS r c rf cf w1).mono ?_
  rintro e w2 ⟨rfl, e2⟩
  obtain ⟨l, hl⟩ : ∃ l, refT r c rf cf = l := ⟨_, rfl⟩
  have hlen : 2 ≤ l.length ∧ l.length ≤ 100 := by rw [← hl, refT_good ⟨hr, hcc⟩]; exact refL_len rf cf ⟨hr, hcc⟩
  have c2 := c1.ext e2
  have O2 : Only w.heap.size w w2 := (Only.of_ext X0).trans (o1.trans (Only.of_ext e2))
  rw [hl]
  clear hl e2 o1 c1 C0 X0
  go_wp2_with fail
  have c3 := c2.ext (x1 w2 (.cells #[.string ⟨#[36]⟩, .string ⟨#[]⟩, .string ⟨#[48]⟩, .string ⟨#[65]⟩, .string ⟨#[49]⟩, .string ⟨#[97]⟩, .string ⟨#[45]⟩] 9))
  have lt2 := c2.lt
  refine (bentC w.heap.size w.heap.size K1 l w2.heap.size _ c3 (by omega) hlen.1 hlen.2 (by omega) sevenT (fun j hj => ?_) sevenT_size).mono ?_
  · unfold World.cell?
    rw [heap_alloc_new w2]
    match j, hj with
    | 0, _ | 1, _ | 2, _ | 3, _ | 4, _ | 5, _ | 6, _ => rfl
  rintro e w4 ⟨l', rfl, hl', o4⟩
  have XE : Ext w w4 := Only.ext (xr w) (O2.trans ((Only.of_ext (x1 w2 _)).trans o4)) (Nat.le_refl _)
  clear c2 c3 O2 o4
  go_wp2_with fail
  go_ret
  exact ⟨l', rfl, hl', XE⟩

end Go.Proofs.YtifangkifpnnpaaGreatDoor
