/-
  Workdays, the specification's.
-/
import Derived.Test.YthmdfephafpdnaaWn
import Derived.Test.YthmdfephafpdnaaDatS
import Derived.RegionTactic
namespace Go.Proofs.Ythmdfephafpdnaa
open Go.RowKit

/-- A slice of ints that lies in w. -/
def IntsIn (w : World) (v : Value) (l : List Int) : Prop :=
  (∃ p cap, v = .slice p l.length cap ∧ l.length ≤ cap ∧ (0 < l.length → ∃ b o, p = some ⟨b, o, none⟩ ∧ ∀ i, i < l.length → w.cell? ⟨b, o + i, none⟩ = some (.int .i64 (l.getD i 0))))
theorem IntsIn.later {w w' : World} {v : Value} {l : List Int} (h : IntsIn w v l) (x : Ext w w') : IntsIn w' v l := by
  obtain ⟨p, cap, h1, h2, h3⟩ := h
  refine ⟨p, cap, h1, h2, fun h0 => ?_⟩
  obtain ⟨b, o, h4, h5⟩ := h3 h0
  exact ⟨b, o, h4, fun i hi => cell_later x (h5 i hi)⟩

def goodDay (n : Int) : Prop := -1000000 ≤ n ∧ n ≤ 1000000
instance (n : Int) : Decidable (goodDay n) := by unfold goodDay; infer_instance
/-- What Workdays answers. -/
def workN (a b : Int) (l : List Int) : Int := aheadW (b + 1) - aheadW a - cntD a b l l.length
def workR (a b : Int) (l : List Int) : Int := if (goodDay a ∧ goodDay b) ∧ l.length ≤ 1000 then (if b < a then -workN b a l else workN a b l) else 0

set_option maxRecDepth 8000 in
set_option maxHeartbeats 4000000 in
theorem workS_go (a b : Int) (p : Option Addr) (l : List Int) (cap : Nat) (w : World) (hl : l.length ≤ 1000) (hcap : l.length ≤ cap)
    (hi : 0 < l.length → ∃ b o, p = some ⟨b, o, none⟩ ∧ ∀ i, i < l.length → w.cell? ⟨b, o + i, none⟩ = some (.int .i64 (l.getD i 0)))
    (ha : goodDay a) (hb : goodDay b) (hab : a ≤ b) :
    Calls Try.prog 7 #[.int .i64 a, .int .i64 b, .slice p l.length cap] w fun e w' => e = .returned (.int .i64 (workN a b l)) ∧ Ext w w' := by
  have DA : decide (-1000000 ≤ a ∧ a ≤ 1000000) = true := decide_eq_true ha
  have DB : decide (-1000000 ≤ b ∧ b ≤ 1000000) = true := decide_eq_true hb
  obtain ⟨a0, a1⟩ := ha
  obtain ⟨b0, b1⟩ := hb
  obtain ⟨L, hL⟩ : ∃ L, l.length = L := ⟨_, rfl⟩
  rw [hL] at hl hcap hi ⊢
  have HL : Hid (l.length = L) := hL
  have HI : Hid (0 < L → ∃ b o, p = some ⟨b, o, none⟩ ∧ ∀ i, i < L → w.cell? ⟨b, o + i, none⟩ = some (.int .i64 (l.getD i 0))) := hi
  clear hL hi
  have fL : decide ((L : Int) > 1000) = false := by simp; omega
  have fab : decide (b < a) = false := by simp; omega
  obtain ⟨W, hW⟩ : ∃ W, (b - a + 1) / 7 = W := ⟨_, rfl⟩
  have hq : (b - a + 1).tdiv 7 = W := by rw [Int.tdiv_eq_ediv_of_nonneg (by omega), hW]
  have w0 : 0 ≤ W := by omega
  have w1 : 7 * W ≤ b - a + 1 := by omega
  clear hW
  obtain ⟨N0, hN0⟩ : ∃ N, aheadW (b + 1) - aheadW a = N := ⟨_, rfl⟩
  have nb := aheadW_near (b + 1)
  have na := aheadW_near a
  have n0 : -10000000 ≤ N0 ∧ N0 ≤ 10000000 := by omega
  have HN : Hid (aheadW (b + 1) - aheadW a = N0) := hN0
  clear hN0 nb
  go_enter Try.func7, Try.ntmps7
  go_wp2_with fail
  refine (dayS a w).mono ?_
  rintro e w2 ⟨rfl, rfl⟩
  rw [DA]
  go_wp2_with fail
  refine (dayS b w2).mono ?_
  rintro e w3 ⟨rfl, rfl⟩
  rw [DB]
  go_wp2_with fail
  go_loop [10, 11] (fun n d => ∃ x : Int, d = .int .i64 x ∧ n = .int .i64 (aheadW x - aheadW a) ∧ a ≤ x ∧ x ≤ b + 1) (fun _ d => (b + 1 - intOf d).toNat)
  case atStart => exact ⟨a + 7 * W, rfl, congrArg _ (by rw [aheadW_week]; omega), by omega, by omega⟩
  case round =>
    obtain ⟨x, rfl, rfl, x0, x1⟩ := hrel
    have nx := aheadW_near x
    by_cases hx : x ≤ b
    · have xn := aheadW_next x
      obtain ⟨y, hy⟩ : ∃ y, aheadW x - aheadW a = y := ⟨_, rfl⟩
      have yb : -10000000 ≤ y ∧ y ≤ 10000000 := by omega
      rw [hy]
      have HY : Hid (aheadW (x + 1) = y + aheadW a + (if wkd x = true then 1 else 0)) := by rw [← hy, xn]; unfold Hid; omega
      clear hy xn nx na
      go_wp2_with fail
      refine (fmodS (x + 5) 7 w3 (by omega) (by omega) (by omega) (by omega)).mono ?_
      rintro e w4 ⟨rfl, rfl⟩
      by_cases hk : (x + 5) % 7 < 5
      · have fk : decide ((x + 5) % 7 < 5) = true := decide_eq_true hk
        have HY := HY.out
        rw [if_pos (by unfold wkd; exact fk)] at HY
        have HY : Hid (aheadW (x + 1) = y + aheadW a + 1) := HY
        go_wp2_with fail
        go_round
        case rel => exact ⟨x + 1, rfl, congrArg _ (by have := HY.out; omega), by omega, by omega⟩
        case measure => simp [intOf]; omega
      · have fk : decide ((x + 5) % 7 < 5) = false := decide_eq_false hk
        have HY := HY.out
        rw [if_neg (by unfold wkd; rw [fk]; simp)] at HY
        have HY : Hid (aheadW (x + 1) = y + aheadW a + 0) := HY
        go_wp2_with fail
        go_round
        case rel => exact ⟨x + 1, rfl, congrArg _ (by have := HY.out; omega), by omega, by omega⟩
        case measure => simp [intOf]; omega
    · obtain rfl : x = b + 1 := by omega
      rw [HN.out]
      clear nx na
      go_wp2_with fail
      go_loop [10, 60] (fun n j => ∃ k : Nat, k ≤ L ∧ j = .int .i64 k ∧ n = .int .i64 (N0 - cntD a b l k)) (fun _ j => L - (intOf j).toNat)
      case atStart => exact ⟨0, by omega, rfl, by simp [cntD]⟩
      case round =>
        obtain ⟨k, hk, rfl, rfl⟩ := hrel
        have cb := cntD_bounds a b l k
        obtain ⟨C, hC⟩ : ∃ C, cntD a b l k = C := ⟨_, rfl⟩
        rw [hC] at cb ⊢
        by_cases hlt : k < L
        · obtain ⟨sb, so, rfl, hcell⟩ := HI.out (by omega)
          have hcc := hcell k hlt
          have HCL : Hid (∀ i, i < L → w3.cell? ⟨sb, so + i, none⟩ = some (.int .i64 (l.getD i 0))) := hcell
          obtain ⟨f, hf⟩ : ∃ f, l.getD k 0 = f := ⟨_, rfl⟩
          rw [hf] at hcc
          have HC : Hid (cntD a b l (k + 1) = C + (if (l.take k).contains f = false ∧ okD a b f = true then 1 else 0)) := by
            unfold Hid
            rw [← hC, ← hf]
            rfl
          have hlt' : (k : Int) < (L : Int) := by omega
          have hkc : (k : Int) ≤ (cap : Int) := by omega
          clear hcell hC hf HI
          go_wp2_with fail
          go_loop [14, 69] (fun g j => ∃ m : Nat, m ≤ k ∧ j = .int .i64 m ∧ g = .bool ((l.take m).contains f)) (fun _ j => k - (intOf j).toNat)
          case atStart => exact ⟨0, by omega, rfl, by simp⟩
          case round =>
            obtain ⟨m, hm, rfl, rfl⟩ := hrel
            obtain ⟨g, hg⟩ : ∃ g, (l.take m).contains f = g := ⟨_, rfl⟩
            rw [hg]
            by_cases hml : m < k
            · have hcm := HCL.out m (by omega)
              have HT : Hid (l.take (m + 1) = l.take m ++ [l.getD m 0]) := by
                have hml' : m < l.length := by rw [HL.out]; omega
                unfold Hid
                rw [List.take_succ_eq_append_getElem hml']
                simp [List.getD, List.getElem?_eq_getElem hml']
              obtain ⟨e, he⟩ : ∃ e, l.getD m 0 = e := ⟨_, rfl⟩
              rw [he] at hcm HT
              have HG : Hid ((l.take (m + 1)).contains f = (g || (e == f))) := by
                unfold Hid
                rw [HT.out, ← hg, List.contains_append]
                congr 1
                show (f == e || false) = (e == f)
                rw [Bool.or_false]
                exact BEq.comm
              have hml'' : (m : Int) < (k : Int) := by omega
              clear hg he HT
              cases g
              · go_wp2_with fail
                go_round
                case rel => exact ⟨m + 1, by omega, by simp, by rw [HG.out]; simp⟩
                case measure => simp [intOf]; omega
              · go_wp2_with fail
                go_round
                case rel => exact ⟨m + 1, by omega, by simp, by rw [HG.out]; simp⟩
                case measure => simp [intOf]; omega
            · have hmk : m = k := by omega
              subst hmk
              have HCo := HC.out
              rw [hg] at HCo
              clear hg HCL HC
              cases g
              · by_cases fa : a ≤ f
                · by_cases fb : f ≤ b
                  · by_cases fk : (f + 5) % 7 < 5
                    · have HC : Hid (cntD a b l (m + 1) = C + 1) := by
                        rw [if_pos ⟨rfl, by unfold okD wkd; simp [fa, fb, fk]⟩] at HCo
                        exact HCo
                      clear HCo
                      have fk' : decide ((f + 5) % 7 < 5) = true := decide_eq_true fk
                      go_wp2_with fail
                      refine (fmodS (f + 5) 7 w3 (by omega) (by omega) (by omega) (by omega)).mono ?_
                      rintro e w4 ⟨rfl, rfl⟩
                      go_wp2_with fail
                      go_round
                      case rel => exact ⟨m + 1, by omega, by simp, congrArg _ (by rw [HC.out]; omega)⟩
                      case measure => simp [intOf]; omega
                    · have HC : Hid (cntD a b l (m + 1) = C + 0) := by
                        rw [if_neg (fun h => fk (by have := h.2; unfold okD wkd at this; simp at this; omega))] at HCo
                        exact HCo
                      clear HCo
                      have fk' : decide ((f + 5) % 7 < 5) = false := decide_eq_false fk
                      go_wp2_with fail
                      refine (fmodS (f + 5) 7 w3 (by omega) (by omega) (by omega) (by omega)).mono ?_
                      rintro e w4 ⟨rfl, rfl⟩
                      go_wp2_with fail
                      go_round
                      case rel => exact ⟨m + 1, by omega, by simp, congrArg _ (by rw [HC.out]; omega)⟩
                      case measure => simp [intOf]; omega
                  · have HC : Hid (cntD a b l (m + 1) = C + 0) := by
                      rw [if_neg (fun h => fb (by have := h.2; unfold okD wkd at this; simp at this; omega))] at HCo
                      exact HCo
                    clear HCo
                    go_wp2_with fail
                    go_round
                    case rel => exact ⟨m + 1, by omega, by simp, congrArg _ (by rw [HC.out]; omega)⟩
                    case measure => simp [intOf]; omega
                · have HC : Hid (cntD a b l (m + 1) = C + 0) := by
                    rw [if_neg (fun h => fa (by have := h.2; unfold okD wkd at this; simp at this; omega))] at HCo
                    exact HCo
                  clear HCo
                  go_wp2_with fail
                  go_round
                  case rel => exact ⟨m + 1, by omega, by simp, congrArg _ (by rw [HC.out]; omega)⟩
                  case measure => simp [intOf]; omega
              · have HC : Hid (cntD a b l (m + 1) = C + 0) := by
                  rw [if_neg (fun h => by cases h.1)] at HCo
                  exact HCo
                clear HCo
                go_wp2_with fail
                go_round
                case rel => exact ⟨m + 1, by omega, by simp, congrArg _ (by rw [HC.out]; omega)⟩
                case measure => simp [intOf]; omega
        · obtain rfl : k = L := by omega
          have HR : Hid (workN a b l = N0 - C) := by
            unfold Hid workN
            rw [HN.out, HL.out, hC]
          clear hC
          go_wp2_with fail
          go_ret
          exact ⟨ret_int HR.out.symm, xr _⟩
set_option maxRecDepth 8000 in
set_option maxHeartbeats 4000000 in
theorem workS_back (a b : Int) (p : Option Addr) (l : List Int) (cap : Nat) (w : World) (hl : l.length ≤ 1000) (hcap : l.length ≤ cap)
    (hi : 0 < l.length → ∃ b o, p = some ⟨b, o, none⟩ ∧ ∀ i, i < l.length → w.cell? ⟨b, o + i, none⟩ = some (.int .i64 (l.getD i 0)))
    (ha : goodDay a) (hb : goodDay b) (hab : a < b) :
    Calls Try.prog 7 #[.int .i64 b, .int .i64 a, .slice p l.length cap] w fun e w' => e = .returned (.int .i64 (-workN a b l)) ∧ Ext w w' := by
  have DA : decide (-1000000 ≤ a ∧ a ≤ 1000000) = true := decide_eq_true ha
  have DB : decide (-1000000 ≤ b ∧ b ≤ 1000000) = true := decide_eq_true hb
  obtain ⟨a0, a1⟩ := ha
  obtain ⟨b0, b1⟩ := hb
  obtain ⟨L, hL⟩ : ∃ L, l.length = L := ⟨_, rfl⟩
  rw [hL] at hl hcap hi ⊢
  have HL : Hid (l.length = L) := hL
  have HI : Hid (0 < L → ∃ b o, p = some ⟨b, o, none⟩ ∧ ∀ i, i < L → w.cell? ⟨b, o + i, none⟩ = some (.int .i64 (l.getD i 0))) := hi
  clear hL hi
  have fL : decide ((L : Int) > 1000) = false := by simp; omega
  have fab : decide (a < b) = true := by simp; omega
  obtain ⟨W, hW⟩ : ∃ W, (b - a + 1) / 7 = W := ⟨_, rfl⟩
  have hq : (b - a + 1).tdiv 7 = W := by rw [Int.tdiv_eq_ediv_of_nonneg (by omega), hW]
  have w0 : 0 ≤ W := by omega
  have w1 : 7 * W ≤ b - a + 1 := by omega
  clear hW
  obtain ⟨N0, hN0⟩ : ∃ N, aheadW (b + 1) - aheadW a = N := ⟨_, rfl⟩
  have nb := aheadW_near (b + 1)
  have na := aheadW_near a
  have n0 : -10000000 ≤ N0 ∧ N0 ≤ 10000000 := by omega
  have HN : Hid (aheadW (b + 1) - aheadW a = N0) := hN0
  clear hN0 nb
  go_enter Try.func7, Try.ntmps7
  go_wp2_with fail
  refine (dayS b w).mono ?_
  rintro e w2 ⟨rfl, rfl⟩
  rw [DB]
  go_wp2_with fail
  refine (dayS a w2).mono ?_
  rintro e w3 ⟨rfl, rfl⟩
  rw [DA]
  go_wp2_with fail
  go_loop [10, 11] (fun n d => ∃ x : Int, d = .int .i64 x ∧ n = .int .i64 (aheadW x - aheadW a) ∧ a ≤ x ∧ x ≤ b + 1) (fun _ d => (b + 1 - intOf d).toNat)
  case atStart => exact ⟨a + 7 * W, rfl, congrArg _ (by rw [aheadW_week]; omega), by omega, by omega⟩
  case round =>
    obtain ⟨x, rfl, rfl, x0, x1⟩ := hrel
    have nx := aheadW_near x
    by_cases hx : x ≤ b
    · have xn := aheadW_next x
      obtain ⟨y, hy⟩ : ∃ y, aheadW x - aheadW a = y := ⟨_, rfl⟩
      have yb : -10000000 ≤ y ∧ y ≤ 10000000 := by omega
      rw [hy]
      have HY : Hid (aheadW (x + 1) = y + aheadW a + (if wkd x = true then 1 else 0)) := by rw [← hy, xn]; unfold Hid; omega
      clear hy xn nx na
      go_wp2_with fail
      refine (fmodS (x + 5) 7 w3 (by omega) (by omega) (by omega) (by omega)).mono ?_
      rintro e w4 ⟨rfl, rfl⟩
      by_cases hk : (x + 5) % 7 < 5
      · have fk : decide ((x + 5) % 7 < 5) = true := decide_eq_true hk
        have HY := HY.out
        rw [if_pos (by unfold wkd; exact fk)] at HY
        have HY : Hid (aheadW (x + 1) = y + aheadW a + 1) := HY
        go_wp2_with fail
        go_round
        case rel => exact ⟨x + 1, rfl, congrArg _ (by have := HY.out; omega), by omega, by omega⟩
        case measure => simp [intOf]; omega
      · have fk : decide ((x + 5) % 7 < 5) = false := decide_eq_false hk
        have HY := HY.out
        rw [if_neg (by unfold wkd; rw [fk]; simp)] at HY
        have HY : Hid (aheadW (x + 1) = y + aheadW a + 0) := HY
        go_wp2_with fail
        go_round
        case rel => exact ⟨x + 1, rfl, congrArg _ (by have := HY.out; omega), by omega, by omega⟩
        case measure => simp [intOf]; omega
    · obtain rfl : x = b + 1 := by omega
      rw [HN.out]
      clear nx na
      go_wp2_with fail
      go_loop [10, 60] (fun n j => ∃ k : Nat, k ≤ L ∧ j = .int .i64 k ∧ n = .int .i64 (N0 - cntD a b l k)) (fun _ j => L - (intOf j).toNat)
      case atStart => exact ⟨0, by omega, rfl, by simp [cntD]⟩
      case round =>
        obtain ⟨k, hk, rfl, rfl⟩ := hrel
        have cb := cntD_bounds a b l k
        obtain ⟨C, hC⟩ : ∃ C, cntD a b l k = C := ⟨_, rfl⟩
        rw [hC] at cb ⊢
        by_cases hlt : k < L
        · obtain ⟨sb, so, rfl, hcell⟩ := HI.out (by omega)
          have hcc := hcell k hlt
          have HCL : Hid (∀ i, i < L → w3.cell? ⟨sb, so + i, none⟩ = some (.int .i64 (l.getD i 0))) := hcell
          obtain ⟨f, hf⟩ : ∃ f, l.getD k 0 = f := ⟨_, rfl⟩
          rw [hf] at hcc
          have HC : Hid (cntD a b l (k + 1) = C + (if (l.take k).contains f = false ∧ okD a b f = true then 1 else 0)) := by
            unfold Hid
            rw [← hC, ← hf]
            rfl
          have hlt' : (k : Int) < (L : Int) := by omega
          have hkc : (k : Int) ≤ (cap : Int) := by omega
          clear hcell hC hf HI
          go_wp2_with fail
          go_loop [14, 69] (fun g j => ∃ m : Nat, m ≤ k ∧ j = .int .i64 m ∧ g = .bool ((l.take m).contains f)) (fun _ j => k - (intOf j).toNat)
          case atStart => exact ⟨0, by omega, rfl, by simp⟩
          case round =>
            obtain ⟨m, hm, rfl, rfl⟩ := hrel
            obtain ⟨g, hg⟩ : ∃ g, (l.take m).contains f = g := ⟨_, rfl⟩
            rw [hg]
            by_cases hml : m < k
            · have hcm := HCL.out m (by omega)
              have HT : Hid (l.take (m + 1) = l.take m ++ [l.getD m 0]) := by
                have hml' : m < l.length := by rw [HL.out]; omega
                unfold Hid
                rw [List.take_succ_eq_append_getElem hml']
                simp [List.getD, List.getElem?_eq_getElem hml']
              obtain ⟨e, he⟩ : ∃ e, l.getD m 0 = e := ⟨_, rfl⟩
              rw [he] at hcm HT
              have HG : Hid ((l.take (m + 1)).contains f = (g || (e == f))) := by
                unfold Hid
                rw [HT.out, ← hg, List.contains_append]
                congr 1
                show (f == e || false) = (e == f)
                rw [Bool.or_false]
                exact BEq.comm
              have hml'' : (m : Int) < (k : Int) := by omega
              clear hg he HT
              cases g
              · go_wp2_with fail
                go_round
                case rel => exact ⟨m + 1, by omega, by simp, by rw [HG.out]; simp⟩
                case measure => simp [intOf]; omega
              · go_wp2_with fail
                go_round
                case rel => exact ⟨m + 1, by omega, by simp, by rw [HG.out]; simp⟩
                case measure => simp [intOf]; omega
            · have hmk : m = k := by omega
              subst hmk
              have HCo := HC.out
              rw [hg] at HCo
              clear hg HCL HC
              cases g
              · by_cases fa : a ≤ f
                · by_cases fb : f ≤ b
                  · by_cases fk : (f + 5) % 7 < 5
                    · have HC : Hid (cntD a b l (m + 1) = C + 1) := by
                        rw [if_pos ⟨rfl, by unfold okD wkd; simp [fa, fb, fk]⟩] at HCo
                        exact HCo
                      clear HCo
                      have fk' : decide ((f + 5) % 7 < 5) = true := decide_eq_true fk
                      go_wp2_with fail
                      refine (fmodS (f + 5) 7 w3 (by omega) (by omega) (by omega) (by omega)).mono ?_
                      rintro e w4 ⟨rfl, rfl⟩
                      go_wp2_with fail
                      go_round
                      case rel => exact ⟨m + 1, by omega, by simp, congrArg _ (by rw [HC.out]; omega)⟩
                      case measure => simp [intOf]; omega
                    · have HC : Hid (cntD a b l (m + 1) = C + 0) := by
                        rw [if_neg (fun h => fk (by have := h.2; unfold okD wkd at this; simp at this; omega))] at HCo
                        exact HCo
                      clear HCo
                      have fk' : decide ((f + 5) % 7 < 5) = false := decide_eq_false fk
                      go_wp2_with fail
                      refine (fmodS (f + 5) 7 w3 (by omega) (by omega) (by omega) (by omega)).mono ?_
                      rintro e w4 ⟨rfl, rfl⟩
                      go_wp2_with fail
                      go_round
                      case rel => exact ⟨m + 1, by omega, by simp, congrArg _ (by rw [HC.out]; omega)⟩
                      case measure => simp [intOf]; omega
                  · have HC : Hid (cntD a b l (m + 1) = C + 0) := by
                      rw [if_neg (fun h => fb (by have := h.2; unfold okD wkd at this; simp at this; omega))] at HCo
                      exact HCo
                    clear HCo
                    go_wp2_with fail
                    go_round
                    case rel => exact ⟨m + 1, by omega, by simp, congrArg _ (by rw [HC.out]; omega)⟩
                    case measure => simp [intOf]; omega
                · have HC : Hid (cntD a b l (m + 1) = C + 0) := by
                    rw [if_neg (fun h => fa (by have := h.2; unfold okD wkd at this; simp at this; omega))] at HCo
                    exact HCo
                  clear HCo
                  go_wp2_with fail
                  go_round
                  case rel => exact ⟨m + 1, by omega, by simp, congrArg _ (by rw [HC.out]; omega)⟩
                  case measure => simp [intOf]; omega
              · have HC : Hid (cntD a b l (m + 1) = C + 0) := by
                  rw [if_neg (fun h => by cases h.1)] at HCo
                  exact HCo
                clear HCo
                go_wp2_with fail
                go_round
                case rel => exact ⟨m + 1, by omega, by simp, congrArg _ (by rw [HC.out]; omega)⟩
                case measure => simp [intOf]; omega
        · obtain rfl : k = L := by omega
          have HR : Hid (workN a b l = N0 - C) := by
            unfold Hid workN
            rw [HN.out, HL.out, hC]
          clear hC
          go_wp2_with fail
          go_ret
          exact ⟨ret_int (by rw [HR.out]), xr _⟩

set_option maxRecDepth 8000 in
set_option maxHeartbeats 1000000 in
theorem workS (a b : Int) (v : Value) (l : List Int) (w : World) (h : IntsIn w v l) :
    Calls Try.prog 7 #[.int .i64 a, .int .i64 b, v] w fun e w' => e = .returned (.int .i64 (workR a b l)) ∧ Ext w w' := by
  obtain ⟨p, cap, rfl, hcap, hi⟩ := h
  unfold workR
  by_cases ha : goodDay a
  · by_cases hb : goodDay b
    · by_cases hl : l.length ≤ 1000
      · rw [if_pos ⟨⟨ha, hb⟩, hl⟩]
        by_cases hab : b < a
        · rw [if_pos hab]
          exact workS_back b a p l cap w hl hcap hi hb ha hab
        · rw [if_neg hab]
          exact workS_go a b p l cap w hl hcap hi ha hb (by omega)
      · rw [if_neg (fun h => hl h.2)]
        obtain ⟨L, hL⟩ : ∃ L, l.length = L := ⟨_, rfl⟩
        rw [hL] at hl ⊢
        have DA : decide (-1000000 ≤ a ∧ a ≤ 1000000) = true := decide_eq_true ha
        have DB : decide (-1000000 ≤ b ∧ b ≤ 1000000) = true := decide_eq_true hb
        have fL : decide ((L : Int) > 1000) = true := by simp; omega
        clear hL hi hcap ha hb
        go_enter Try.func7, Try.ntmps7
        go_wp2_with fail
        refine (dayS a w).mono ?_
        rintro e w2 ⟨rfl, rfl⟩
        rw [DA]
        go_wp2_with fail
        refine (dayS b w2).mono ?_
        rintro e w3 ⟨rfl, rfl⟩
        rw [DB]
        go_wp2_with fail
        go_ret
        exact ⟨rfl, xr _⟩
    · rw [if_neg (fun h => hb h.1.2)]
      have DA : decide (-1000000 ≤ a ∧ a ≤ 1000000) = true := decide_eq_true ha
      have DB : decide (-1000000 ≤ b ∧ b ≤ 1000000) = false := decide_eq_false hb
      clear hi hcap ha hb
      go_enter Try.func7, Try.ntmps7
      go_wp2_with fail
      refine (dayS a w).mono ?_
      rintro e w2 ⟨rfl, rfl⟩
      rw [DA]
      go_wp2_with fail
      refine (dayS b w2).mono ?_
      rintro e w3 ⟨rfl, rfl⟩
      rw [DB]
      go_wp2_with fail
      go_ret
      exact ⟨rfl, xr _⟩
  · rw [if_neg (fun h => ha h.1.1)]
    have DA : decide (-1000000 ≤ a ∧ a ≤ 1000000) = false := decide_eq_false ha
    clear hi hcap ha
    go_enter Try.func7, Try.ntmps7
    go_wp2_with fail
    refine (dayS a w).mono ?_
    rintro e w2 ⟨rfl, rfl⟩
    rw [DA]
    go_wp2_with fail
    go_ret
    exact ⟨rfl, xr _⟩

end Go.Proofs.Ythmdfephafpdnaa
