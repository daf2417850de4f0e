/-
  FnDecimals: the law's own function.
-/
import Derived.Test.YtfkihaihbaobeaaGreatDoorCd4
import Derived.Test.YtfkihaihbaobeaaGreatDoorCd5
import Derived.Test.YtfkihaihbaobeaaGreatDoorMg40
import Derived.Test.YtfkihaihbaobeaaGreatDoorMg44
import Derived.Test.YtfkihaihbaobeaaGreatDoorTxLaw
import Derived.Test.YtfkihaihbaobeaaGreatDoorMuS
namespace Go.Proofs.YtfkihaihbaobeaaGreatDoor
open Go.RowKit

theorem round_d (n : Bool) (d e p m : Int) : 0 ≤ (roundR n d e p m).d ∧ (roundR n d e p m).d < 1000000000000000 := by
  unfold roundR
  split
  · rename_i h
    simp only [Bool.and_eq_true] at h
    have g := h.1.1
    unfold rndR
    split
    · unfold goodB at g
      split at g
      · rename_i d0; show 0 ≤ d ∧ d < _; omega
      · simp only [decide_eq_true_eq] at g; show 0 ≤ d ∧ d < _; omega
    · exact put_d _ _ _ _
  · constructor <;> decide
theorem text_len (n : Bool) (d x : Int) : (textT n d x).length ≤ 1048576 := by
  unfold textT
  split
  · rename_i g
    by_cases d0 : d = 0
    · rw [if_pos d0]; decide
    · rw [if_neg d0]
      have gd : 0 < d ∧ d < 1000000000000000 ∧ -300 ≤ x ∧ x ≤ 300 := by
        unfold goodB at g
        rw [if_neg d0] at g
        simp only [decide_eq_true_eq] at g
        omega
      have hl := dec_len_le 14 d.toNat (by have : (10 : Nat) ^ (14 + 1) = 1000000000000000 := by decide
                                           omega)
      have hz := size_len (Lib.decDigits d.toNat) x hl.2 hl.1 gd.2.2.1 gd.2.2.2
      cases n <;> simp <;> omega
  · decide
theorem text_good {n : Bool} {d x : Int} (h : textT n d x ≠ []) : goodB n d x = true := by
  unfold textT at h
  cases g : goodB n d x with
  | true => rfl
  | false => rw [g] at h; exact absurd rfl h
theorem CodeIn.laterD {w w' : World} {v : Value} {n : Nat} (h : CodeIn w w.heap.size v n) (x : Ext w w') : CodeIn w' w'.heap.size v n := by
  rcases h with h | ⟨pb, po, cap, h1, h2, h3, h4⟩
  · exact .inl h
  · refine .inr ⟨pb, po, cap, Nat.lt_of_lt_of_le h1 x.size, h2, h3, fun i hi => ?_⟩
    obtain ⟨z, z0, z1, hz⟩ := h4 i hi
    exact ⟨z, z0, z1, cell_later x hz⟩
theorem lawDec_big (p : Option Addr) (n cap : Nat) (w : World) (hb : ¬ n ≤ 1048576) :
    Calls Tryz.prog 3 #[.slice p n cap] w fun e w' => e = .returned (.bool true) ∧ Ext w w' := by
  have fl : decide ((n : Int) > 1048576) = true := by simp; omega
  go_enter Tryz.func3, Tryz.ntmps3
  go_wp2_with fail
  go_ret
  exact ⟨rfl, xr _⟩

set_option maxRecDepth 8000 in
set_option maxHeartbeats 16000000 in
theorem lawDec_p (p : Option Addr) (k cap : Nat) (w : World) (hc : CodeIn w w.heap.size (.slice p k cap) k) (hb : k ≤ 1048576) (hT : Tens w) (hI : ItoaC w) :
    Calls Tryz.prog 3 #[.slice p k cap] w fun e w' => e = .returned (.bool true) ∧ Ext w w' := by
  have CD := drawAdd _ k w hc hb
  have CA : Hid (∀ w', Ext w w' → Calls Tryz.prog 13 #[.slice p k cap] w' fun e w'' => (∃ n d x p m, e = .returned (.tuple #[decV n d x, .int .i64 p, .int .i64 m]) ∧ -1000000000000000000 ≤ d ∧ d ≤ 1000000000000000000) ∧ Ext w' w'') := fun w' x => drawRound _ k w' (hc.laterD x) hb
  have fl : decide ((k : Int) > 1048576) = false := by simp; omega
  have HT : Hid (∀ V, Ext w V → Tens V) := fun V x => hT.later x
  have HI : Hid (∀ V, Ext w V → ItoaC V) := fun V x => hI.later x
  clear hc hT hb hI
  go_enter Tryz.func3, Tryz.ntmps3
  go_wp2_with fail
  refine CD.mono ?_
  clear CD
  rintro e w1 ⟨⟨n, d, x, m, f, y, rfl, d0, d1, f0, f1⟩, e1⟩
  -- the sum and the product as letters
  have S1 : Hid (∀ W, Tens W → Calls Tryz.prog 5 #[.agg #[.bool n, .int .i64 d, .int .i64 x], .agg #[.bool m, .int .i64 f, .int .i64 y]] W fun r w' => r = .returned (resV (addR n d x m f y)) ∧ Ext W w') := fun W h => addI n m d x f y W (by omega) (by omega) (by omega) (by omega) h
  have S2 : Hid (∀ W, Tens W → Calls Tryz.prog 5 #[.agg #[.bool m, .int .i64 f, .int .i64 y], .agg #[.bool n, .int .i64 d, .int .i64 x]] W fun r w' => r = .returned (resV (addR n d x m f y)) ∧ Ext W w') := fun W h => by rw [addR_comm]; exact addI m n f y d x W (by omega) (by omega) (by omega) (by omega) h
  have S3 : Hid (∀ W, Calls Tryz.prog 7 #[.agg #[.bool n, .int .i64 d, .int .i64 x], .agg #[.bool m, .int .i64 f, .int .i64 y]] W fun r w' => r = .returned (resV (addR n d x m f y)) ∧ Ext W w') := fun W => addSpec n m d x f y W
  have M1 : Hid (∀ W, Tens W → Calls Tryz.prog 6 #[.agg #[.bool n, .int .i64 d, .int .i64 x], .agg #[.bool m, .int .i64 f, .int .i64 y]] W fun r w' => r = .returned (resV (mulR n d x m f y)) ∧ Ext W w') := fun W h => mulI n m d x f y W (by omega) (by omega) (by omega) (by omega) h
  have M2 : Hid (∀ W, Tens W → Calls Tryz.prog 6 #[.agg #[.bool m, .int .i64 f, .int .i64 y], .agg #[.bool n, .int .i64 d, .int .i64 x]] W fun r w' => r = .returned (resV (mulR n d x m f y)) ∧ Ext W w') := fun W h => by rw [mulR_comm]; exact mulI m n f y d x W (by omega) (by omega) (by omega) (by omega) h
  have M3 : Hid (∀ W, Calls Tryz.prog 8 #[.agg #[.bool n, .int .i64 d, .int .i64 x], .agg #[.bool m, .int .i64 f, .int .i64 y]] W fun r w' => r = .returned (resV (mulR n d x m f y)) ∧ Ext W w') := fun W => mulS n m d x f y W
  have B1 : Hid (∀ W, Tens W → Calls Tryz.prog 9 #[.agg #[.bool n, .int .i64 d, .int .i64 x], .agg #[.bool n, .int .i64 d, .int .i64 x]] W fun r w' => r = .returned (.agg #[.bool (goodB n d x), .bool false, .int .i64 0, .int .i64 0]) ∧ Ext W w') := fun W h => (subI n n d x d x W (by omega) (by omega) (by omega) (by omega) h).mono (fun r w' hr => by rw [subR_self] at hr; exact hr)
  have G1 : Hid (∀ W, Calls Tryz.prog 10 #[.agg #[.bool n, .int .i64 d, .int .i64 x]] W fun r w' => r = .returned (.bool (goodB n d x)) ∧ Ext W w') := fun W => goodS n d x W
  have T1 : Hid (∀ W, Ext w W → Calls Tryz.prog 11 #[.agg #[.bool n, .int .i64 d, .int .i64 x]] W fun r w' => r = .returned (.string (bs (textT n d x))) ∧ Ext W w') := fun W h => (textI repC n d x W (HI.out W h) (by omega) (by omega) (HT.out W h)).mono (fun r w' ⟨s, hr, hs, E⟩ => ⟨by rw [hr]; exact congrArg (fun z => Ending.returned (Value.string z)) (string_ext hs), E⟩)
  have R1 : Hid (textT n d x ≠ [] → ∀ W, Tens W → Calls Tryz.prog 12 #[.string (bs (textT n d x))] W fun r w' => r = .returned (.agg #[.bool true, .bool n, .int .i64 d, .int .i64 x]) ∧ Ext W w') := fun h W t => (readI (textT n d x) W (text_len n d x) t).mono (fun r w' hr => by rw [read_text n d x (text_good h)] at hr; exact hr)
  obtain ⟨S, hS⟩ : ∃ S, addR n d x m f y = S := ⟨_, rfl⟩
  obtain ⟨M, hM⟩ : ∃ M, mulR n d x m f y = M := ⟨_, rfl⟩
  obtain ⟨G, hG⟩ : ∃ G, goodB n d x = G := ⟨_, rfl⟩
  obtain ⟨l, hl⟩ : ∃ l, textT n d x = l := ⟨_, rfl⟩
  rw [hS] at S1 S2 S3
  rw [hM] at M1 M2 M3
  rw [hG] at B1 G1
  rw [hl] at T1 R1
  obtain ⟨So, Sn, Sd, Se⟩ := S
  obtain ⟨Mo, Mn, Md, Me⟩ := M
  simp only [resV] at S1 S2 S3 M1 M2 M3
  clear hS hM hG hl d0 d1 f0 f1
  obtain ⟨ua, ub, ha, hb, sa, sb, VA, VB, XA⟩ := mkB2 w1 [.bool n, .int .i64 d, .int .i64 x] [.bool m, .int .i64 f, .int .i64 y] 24 24
  change w1.alloc (.cells #[.bool n, .int .i64 d, .int .i64 x] 24) = ua at ha
  change ua.alloc (.cells #[.bool m, .int .i64 f, .int .i64 y] 24) = ub at hb
  have X1 := xt e1 XA
  have S1 := S1.out ub (HT.out _ X1)
  obtain ⟨a0, a1, a2⟩ := VA.three
  obtain ⟨b0, b1, b2⟩ := VB.three
  go_wp2_with fail
  refine S1.mono ?_
  clear S1 a0 a1 a2 b0 b1 b2
  rintro e w2 ⟨rfl, e2⟩
  have VA := VA.later e2
  have VB := VB.later e2
  have X2 := xt X1 e2
  have l2 : w1.heap.size + 1 < w2.heap.size := by have := e2.size; omega
  have VS := vec_made w2 [.bool So, .bool Sn, .int .i64 Sd, .int .i64 Se] 28
  change Vec (w2.alloc (.cells #[.bool So, .bool Sn, .int .i64 Sd, .int .i64 Se] 28)) _ _ at VS
  have Y2 := x1 w2 (.cells #[.bool So, .bool Sn, .int .i64 Sd, .int .i64 Se] 28)
  obtain ⟨uc, hc⟩ : ∃ u, w2.alloc (.cells #[.bool So, .bool Sn, .int .i64 Sd, .int .i64 Se] 28) = u := ⟨_, rfl⟩
  rw [hc] at VS Y2
  have VA := VA.later Y2
  have VB := VB.later Y2
  have X2 := xt X2 Y2
  have M1 := M1.out uc (HT.out _ X2)
  obtain ⟨a0, a1, a2⟩ := VA.three
  obtain ⟨b0, b1, b2⟩ := VB.three
  clear ha hb sa sb XA X1 e2 Y2
  go_wp2_with fail
  refine M1.mono ?_
  clear M1 a0 a1 a2 b0 b1 b2
  rintro e w3 ⟨rfl, e3⟩
  have l3 : w2.heap.size < w3.heap.size := World.block_lt_of_cell? _ _ (VS.later e3).four.1
  have VM := vec_made w3 [.bool Mo, .bool Mn, .int .i64 Md, .int .i64 Me] 28
  change Vec (w3.alloc (.cells #[.bool Mo, .bool Mn, .int .i64 Md, .int .i64 Me] 28)) _ _ at VM
  have Y3 := x1 w3 (.cells #[.bool Mo, .bool Mn, .int .i64 Md, .int .i64 Me] 28)
  obtain ⟨w4, h4⟩ : ∃ u, w3.alloc (.cells #[.bool Mo, .bool Mn, .int .i64 Md, .int .i64 Me] 28) = u := ⟨_, rfl⟩
  rw [h4] at VM Y3
  have E3 := xt e3 Y3
  have VA := VA.later E3
  have VB := VB.later E3
  have VS := VS.later E3
  have X4 := xt X2 E3
  clear X2 E3 e3 Y3 hc
  go_upto_region 6 with fail
  clear h4
  go_cut [53] (fun v wc => v = .bool false ∧ Ext w4 wc)
  case first =>
    have HAB : Hid (Vec w4 w1.heap.size [.bool n, .int .i64 d, .int .i64 x] ∧ Vec w4 (w1.heap.size + 1) [.bool m, .int .i64 f, .int .i64 y] ∧ Vec w4 w2.heap.size [.bool So, .bool Sn, .int .i64 Sd, .int .i64 Se] ∧ Vec w4 w3.heap.size [.bool Mo, .bool Mn, .int .i64 Md, .int .i64 Me]) := ⟨VA, VB, VS, VM⟩
    obtain ⟨a0, a1, a2⟩ := VA.three
    obtain ⟨b0, b1, b2⟩ := VB.three
    obtain ⟨c0, c1, c2, c3⟩ := VS.four
    obtain ⟨g0, g1, g2, g3⟩ := VM.four
    have YY := xr w4
    have HTT : Hid (∀ V, Ext w4 V → Tens V) := fun V x => HT.out V (xt X4 x)
    clear VA VB VS VM B1 G1 T1 R1 CA HI HT X4
    go_region_held3 (fun w' => w'.cell? ⟨w1.heap.size, 0, none⟩ = some (.bool n) ∧ w'.cell? ⟨w1.heap.size, 1, none⟩ = some (.int .i64 d) ∧ w'.cell? ⟨w1.heap.size, 2, none⟩ = some (.int .i64 x) ∧ w'.cell? ⟨w1.heap.size + 1, 0, none⟩ = some (.bool m) ∧ w'.cell? ⟨w1.heap.size + 1, 1, none⟩ = some (.int .i64 f) ∧ w'.cell? ⟨w1.heap.size + 1, 2, none⟩ = some (.int .i64 y) ∧ w'.cell? ⟨w2.heap.size, 0, none⟩ = some (.bool So) ∧ w'.cell? ⟨w2.heap.size, 1, none⟩ = some (.bool Sn) ∧ w'.cell? ⟨w2.heap.size, 2, none⟩ = some (.int .i64 Sd) ∧ w'.cell? ⟨w2.heap.size, 3, none⟩ = some (.int .i64 Se) ∧ w'.cell? ⟨w3.heap.size, 0, none⟩ = some (.bool Mo) ∧ w'.cell? ⟨w3.heap.size, 1, none⟩ = some (.bool Mn) ∧ w'.cell? ⟨w3.heap.size, 2, none⟩ = some (.int .i64 Md) ∧ w'.cell? ⟨w3.heap.size, 3, none⟩ = some (.int .i64 Me)) (go_keep) (first
      | (go_at_call 5; refine (S2.out _ (by first | exact HTT.out _ YY | exact HTT.out _ (xd YY))).mono ?_; rintro e w7 ⟨rfl, e7⟩; have YY : Ext w4 w7 := (by first | exact xt YY e7 | exact xt (xd YY) e7); obtain ⟨k0, k1, k2⟩ := (HAB.out.1.later YY).three; obtain ⟨j0, j1, j2⟩ := (HAB.out.2.1.later YY).three; obtain ⟨i0, i1, i2, i3⟩ := (HAB.out.2.2.1.later YY).four; obtain ⟨q0, q1, q2, q3⟩ := (HAB.out.2.2.2.later YY).four)
      | (go_at_call 6; refine (M2.out _ (by first | exact HTT.out _ YY | exact HTT.out _ (xd YY))).mono ?_; rintro e w7 ⟨rfl, e7⟩; have YY : Ext w4 w7 := (by first | exact xt YY e7 | exact xt (xd YY) e7); obtain ⟨k0, k1, k2⟩ := (HAB.out.1.later YY).three; obtain ⟨j0, j1, j2⟩ := (HAB.out.2.1.later YY).three; obtain ⟨i0, i1, i2, i3⟩ := (HAB.out.2.2.1.later YY).four; obtain ⟨q0, q1, q2, q3⟩ := (HAB.out.2.2.2.later YY).four)
      | (go_at_call 7; refine (S3.out _).mono ?_; rintro e w7 ⟨rfl, e7⟩; have YY : Ext w4 w7 := (by first | exact xt YY e7 | exact xt (xd YY) e7); obtain ⟨k0, k1, k2⟩ := (HAB.out.1.later YY).three; obtain ⟨j0, j1, j2⟩ := (HAB.out.2.1.later YY).three; obtain ⟨i0, i1, i2, i3⟩ := (HAB.out.2.2.1.later YY).four; obtain ⟨q0, q1, q2, q3⟩ := (HAB.out.2.2.2.later YY).four)
      | (go_at_call 8; refine (M3.out _).mono ?_; rintro e w7 ⟨rfl, e7⟩; have YY : Ext w4 w7 := (by first | exact xt YY e7 | exact xt (xd YY) e7); obtain ⟨k0, k1, k2⟩ := (HAB.out.1.later YY).three; obtain ⟨j0, j1, j2⟩ := (HAB.out.2.1.later YY).three; obtain ⟨i0, i1, i2, i3⟩ := (HAB.out.2.2.1.later YY).four; obtain ⟨q0, q1, q2, q3⟩ := (HAB.out.2.2.2.later YY).four))
    all_goals go_wp2_with fail
    all_goals
      go_meet
      case rel => exact ⟨rfl, by first | exact YY | exact xd YY⟩
  case rest =>
    obtain ⟨rfl, x4⟩ := hcut
    rename World => w5
    have VA := VA.later x4
    have X5 := xt X4 x4
    have B1 := B1.out w5 (HT.out _ X5)
    obtain ⟨a0, a1, a2⟩ := VA.three
    clear VB VS VM S2 S3 M2 M3 X4 x4 l2 l3
    go_wp2_with fail
    refine B1.mono ?_
    clear B1 a0 a1 a2
    rintro e w6 ⟨rfl, e6⟩
    have l6 : w1.heap.size < w6.heap.size := World.block_lt_of_cell? _ _ (VA.later e6).three.1
    have VD := vec_made w6 [.bool G, .bool false, .int .i64 0, .int .i64 0] 28
    change Vec (w6.alloc (.cells #[.bool G, .bool false, .int .i64 0, .int .i64 0] 28)) _ _ at VD
    have Y6 := x1 w6 (.cells #[.bool G, .bool false, .int .i64 0, .int .i64 0] 28)
    have VA := VA.later (xt e6 Y6)
    have X7 := xt X5 (xt e6 Y6)
    clear X5 e6 Y6
    go_upto_region 9 with fail
    obtain ⟨w7, h7⟩ : ∃ u, w6.alloc (.cells #[.bool G, .bool false, .int .i64 0, .int .i64 0] 28) = u := ⟨_, rfl⟩
    rw [h7] at VD VA X7 ⊢
    clear h7
    go_cut [67] (fun v wc => v = .bool false ∧ Ext w7 wc)
    case first =>
      have HAB : Hid (Vec w7 w1.heap.size [.bool n, .int .i64 d, .int .i64 x] ∧ Vec w7 w6.heap.size [.bool G, .bool false, .int .i64 0, .int .i64 0]) := ⟨VA, VD⟩
      clear T1 R1 CA HI HT X7
      cases G
      all_goals
        obtain ⟨a0, a1, a2⟩ := HAB.out.1.three
        obtain ⟨c0, c1, c2, c3⟩ := HAB.out.2.four
        have YY := xr w7
      · go_region_held3 (fun w' => w'.cell? ⟨w1.heap.size, 0, none⟩ = some (.bool n) ∧ w'.cell? ⟨w1.heap.size, 1, none⟩ = some (.int .i64 d) ∧ w'.cell? ⟨w1.heap.size, 2, none⟩ = some (.int .i64 x) ∧ w'.cell? ⟨w6.heap.size, 0, none⟩ = some (.bool false) ∧ w'.cell? ⟨w6.heap.size, 1, none⟩ = some (.bool false) ∧ w'.cell? ⟨w6.heap.size, 2, none⟩ = some (.int .i64 0) ∧ w'.cell? ⟨w6.heap.size, 3, none⟩ = some (.int .i64 0)) (go_keep) (
          (go_at_call 10; refine (G1.out _).mono ?_; rintro e w8 ⟨rfl, e8⟩; have YY : Ext w7 w8 := (by first | exact xt YY e8 | exact xt (xd YY) e8); obtain ⟨k0, k1, k2⟩ := (HAB.out.1.later YY).three; obtain ⟨i0, i1, i2, i3⟩ := (HAB.out.2.later YY).four))
        all_goals go_wp2_with fail
        all_goals
          go_meet
          case rel => exact ⟨rfl, by first | exact YY | exact xd YY⟩
      · go_region_held3 (fun w' => w'.cell? ⟨w1.heap.size, 0, none⟩ = some (.bool n) ∧ w'.cell? ⟨w1.heap.size, 1, none⟩ = some (.int .i64 d) ∧ w'.cell? ⟨w1.heap.size, 2, none⟩ = some (.int .i64 x) ∧ w'.cell? ⟨w6.heap.size, 0, none⟩ = some (.bool true) ∧ w'.cell? ⟨w6.heap.size, 1, none⟩ = some (.bool false) ∧ w'.cell? ⟨w6.heap.size, 2, none⟩ = some (.int .i64 0) ∧ w'.cell? ⟨w6.heap.size, 3, none⟩ = some (.int .i64 0)) (go_keep) (
          (go_at_call 10; refine (G1.out _).mono ?_; rintro e w8 ⟨rfl, e8⟩; have YY : Ext w7 w8 := (by first | exact xt YY e8 | exact xt (xd YY) e8); obtain ⟨k0, k1, k2⟩ := (HAB.out.1.later YY).three; obtain ⟨i0, i1, i2, i3⟩ := (HAB.out.2.later YY).four))
        all_goals go_wp2_with fail
        all_goals
          go_meet
          case rel => exact ⟨rfl, by first | exact YY | exact xd YY⟩
    case rest =>
      obtain ⟨rfl, x7⟩ := hcut
      rename World => w8
      have VA := VA.later x7
      have X8 := xt X7 x7
      have T1 := T1.out w8 X8
      obtain ⟨a0, a1, a2⟩ := VA.three
      clear VD G1 X7 x7 l6
      go_wp2_with fail
      refine T1.mono ?_
      clear T1 a0 a1 a2
      rintro e w9 ⟨rfl, e9⟩
      have VA := VA.later e9
      have X9 := xt X8 e9
      clear X8 e9
      obtain ⟨E, hE⟩ : ∃ E, (bs l).toList.isEmpty = E := ⟨_, rfl⟩
      have HE : Hid (E = false → l ≠ []) := by
        rintro h rfl
        rw [← hE] at h
        revert h
        decide +kernel
      go_upto_if 71 with fail
      clear hE
      go_cut [] (fun wc => Ext w wc)
      case first =>
        clear CA HI
        cases E
        · have R1 := R1.out (HE.out rfl) w9 (HT.out _ X9)
          go_wp2_with fail
          refine R1.mono ?_
          clear R1
          rintro e w10 ⟨rfl, e10⟩
          have Y10 := x1 w10 (.cells #[.bool true, .bool n, .int .i64 d, .int .i64 x] 28)
          have VR := vec_made w10 [.bool true, .bool n, .int .i64 d, .int .i64 x] 28
          change Vec (w10.alloc (.cells #[.bool true, .bool n, .int .i64 d, .int .i64 x] 28)) _ _ at VR
          have VA := VA.later (xt e10 Y10)
          obtain ⟨a0, a1, a2⟩ := VA.three
          obtain ⟨c0, c1, c2, c3⟩ := VR.four
          have X10 := xt X9 (xt e10 Y10)
          go_wp2_with fail
          go_meet
          case rel => exact X10
        · go_wp2_with fail
          go_meet
          case rel => exact X9
      case rest =>
        rename World => w10
        have X10 : Ext w w10 := hcut
        clear hcut VA R1 HE X9 HI
        have CA := CA.out w10 X10
        go_wp2_with fail
        refine CA.mono ?_
        clear CA
        rintro e w11 ⟨⟨n, d, x, pl, md, rfl, d0, d1⟩, e11⟩
        have D1 : Hid (∀ W, Tens W → Calls Tryz.prog 14 #[.agg #[.bool n, .int .i64 d, .int .i64 x], .int .i64 pl, .int .i64 md] W fun r w' => r = .returned (resV (roundR n d x pl md)) ∧ Ext W w') := fun W h => roundI n d x pl md W (by omega) (by omega) h
        have D2 : Hid (∀ W, Calls Tryz.prog 15 #[.agg #[.bool n, .int .i64 d, .int .i64 x], .int .i64 pl, .int .i64 md] W fun r w' => r = .returned (resV (roundR n d x pl md)) ∧ Ext W w') := fun W => roundS n d x pl md W
        have D3 : Hid ((roundR n d x pl md).ok = true → ∀ W, Tens W → Calls Tryz.prog 14 #[.agg #[.bool (roundR n d x pl md).neg, .int .i64 (roundR n d x pl md).d, .int .i64 (roundR n d x pl md).e], .int .i64 pl, .int .i64 md] W fun r w' => r = .returned (resV (roundR n d x pl md)) ∧ Ext W w') := fun ho W h => by
          have hb := round_d n d x pl md
          refine (roundI _ _ _ pl md W (by omega) (by omega) h).mono (fun r w' hr => ?_)
          rw [round_again n d x pl md ho] at hr
          exact hr
        obtain ⟨R, hR⟩ : ∃ R, roundR n d x pl md = R := ⟨_, rfl⟩
        rw [hR] at D1 D2 D3
        obtain ⟨Ro, Rn, Rd, Re⟩ := R
        simp only [resV] at D1 D2 D3
        clear hR d0 d1
        have A1 := vec_made w11 [.bool n, .int .i64 d, .int .i64 x] 24
        change Vec (w11.alloc (.cells #[.bool n, .int .i64 d, .int .i64 x] 24)) _ _ at A1
        have Y1 := x1 w11 (.cells #[.bool n, .int .i64 d, .int .i64 x] 24)
        obtain ⟨a0, a1, a2⟩ := A1.three
        have X11 := xt X10 (xt e11 Y1)
        have D1 := D1.out _ (HT.out _ X11)
        go_wp2_with fail
        refine D1.mono ?_
        clear D1 a0 a1 a2
        rintro e w12 ⟨rfl, e12⟩
        have A2 := A1.later e12
        have l12 : w11.heap.size < w12.heap.size := World.block_lt_of_cell? _ _ A2.three.1
        have B2 := vec_made w12 [.bool Ro, .bool Rn, .int .i64 Rd, .int .i64 Re] 28
        change Vec (w12.alloc (.cells #[.bool Ro, .bool Rn, .int .i64 Rd, .int .i64 Re] 28)) _ _ at B2
        have Y2 := x1 w12 (.cells #[.bool Ro, .bool Rn, .int .i64 Rd, .int .i64 Re] 28)
        have A2 := A2.later Y2
        have X12 := xt X11 (xt e12 Y2)
        clear A1 X10 X11 Y1 e11 e12 Y2
        go_upto_region 18 with fail
        obtain ⟨w13, h13⟩ : ∃ u, w12.alloc (.cells #[.bool Ro, .bool Rn, .int .i64 Rd, .int .i64 Re] 28) = u := ⟨_, rfl⟩
        rw [h13] at A2 B2 X12 ⊢
        clear h13
        go_cut [98] (fun v wc => v = .bool false ∧ Ext w13 wc)
        case first =>
          have HAB : Hid (Vec w13 w11.heap.size [.bool n, .int .i64 d, .int .i64 x] ∧ Vec w13 w12.heap.size [.bool Ro, .bool Rn, .int .i64 Rd, .int .i64 Re]) := ⟨A2, B2⟩
          obtain ⟨a0, a1, a2⟩ := A2.three
          obtain ⟨b0, b1, b2, b3⟩ := B2.four
          have YY := xr w13
          clear A2 B2 HT D3 X12
          go_region_held3 (fun w' => w'.cell? ⟨w11.heap.size, 0, none⟩ = some (.bool n) ∧ w'.cell? ⟨w11.heap.size, 1, none⟩ = some (.int .i64 d) ∧ w'.cell? ⟨w11.heap.size, 2, none⟩ = some (.int .i64 x) ∧ w'.cell? ⟨w12.heap.size, 0, none⟩ = some (.bool Ro) ∧ w'.cell? ⟨w12.heap.size, 1, none⟩ = some (.bool Rn) ∧ w'.cell? ⟨w12.heap.size, 2, none⟩ = some (.int .i64 Rd) ∧ w'.cell? ⟨w12.heap.size, 3, none⟩ = some (.int .i64 Re)) (go_keep) (
            (go_at_call 15; refine (D2.out _).mono ?_; rintro e w7 ⟨rfl, e7⟩; have YY : Ext w13 w7 := (by first | exact xt YY e7 | exact xt (xd YY) e7); obtain ⟨k0, k1, k2⟩ := (HAB.out.1.later YY).three; obtain ⟨j0, j1, j2, j3⟩ := (HAB.out.2.later YY).four))
          all_goals go_wp2_with fail
          all_goals
            go_meet
            case rel => exact ⟨rfl, by first | exact YY | exact xd YY⟩
        case rest =>
          obtain ⟨rfl, x13⟩ := hcut
          rename World => w14
          have B3 := B2.later x13
          have X14 := xt X12 x13
          clear A2 B2 X12 x13 D2
          obtain ⟨b0, b1, b2, b3⟩ := B3.four
          cases Ro
          · go_wp2_with fail
            go_ret
            exact ⟨rfl, X14⟩
          · have D3 : Hid (∀ W, Tens W → Calls Tryz.prog 14 #[.agg #[.bool Rn, .int .i64 Rd, .int .i64 Re], .int .i64 pl, .int .i64 md] W fun r w' => r = .returned (.agg #[.bool true, .bool Rn, .int .i64 Rd, .int .i64 Re]) ∧ Ext W w') := D3.out rfl
            go_upto_region 22 with fail
            go_cut [2] (fun v wc => v = .bool true ∧ Ext w14 wc)
            case first =>
              have HAB : Hid (Vec w14 w12.heap.size [.bool true, .bool Rn, .int .i64 Rd, .int .i64 Re]) := B3
              have YY := xr w14
              have HTT : Hid (∀ V, Ext w14 V → Tens V) := fun V x => HT.out V (xt X14 x)
              clear HT X14 B3
              go_region_held3 (fun w' => w'.cell? ⟨w12.heap.size, 0, none⟩ = some (.bool true) ∧ w'.cell? ⟨w12.heap.size, 1, none⟩ = some (.bool Rn) ∧ w'.cell? ⟨w12.heap.size, 2, none⟩ = some (.int .i64 Rd) ∧ w'.cell? ⟨w12.heap.size, 3, none⟩ = some (.int .i64 Re)) (go_keep) (
                (go_at_call 14; refine (D3.out _ (by first | exact HTT.out _ YY | exact HTT.out _ (xd YY))).mono ?_; rintro e w7 ⟨rfl, e7⟩; have YY : Ext w14 w7 := (by first | exact xt YY e7 | exact xt (xd YY) e7); obtain ⟨j0, j1, j2, j3⟩ := (HAB.out.later YY).four))
              all_goals go_wp2_with fail
              all_goals
                go_meet
                case rel => exact ⟨rfl, by first | exact YY | exact xd YY⟩
            case rest =>
              obtain ⟨rfl, x14⟩ := hcut
              rename World => w15
              go_wp2_with fail
              go_ret
              exact ⟨rfl, xt X14 x14⟩
theorem lawDecimals (v : Value) (k : Nat) (w : World) (hc : CodeIn w w.heap.size v k) (hT : Tens w) (hI : ItoaC w) :
    Calls Tryz.prog 3 #[v] w fun e w' => e = .returned (.bool true) ∧ Ext w w' := by
  have hv : ∃ p cap, v = .slice p k cap := by
    rcases hc with ⟨⟨p, cap, h⟩, rfl⟩ | ⟨pb, po, cap, _, h, _⟩
    · exact ⟨p, cap, h⟩
    · exact ⟨_, cap, h⟩
  obtain ⟨p, cap, rfl⟩ := hv
  by_cases hb : k ≤ 1048576
  · exact lawDec_p p k cap w hc hb hT hI
  · exact lawDec_big p k cap w hb
end Go.Proofs.YtfkihaihbaobeaaGreatDoor

