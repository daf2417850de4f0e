/-
  The specification's date of a day.
-/
import Derived.Test.YtmcmohooodpfeaaGreatDoorDatZ
namespace Go.Proofs.YtmcmohooodpfeaaGreatDoor
open Go.RowKit

theorem start_hi {cal day : Int} (hc : cal = 1 ∨ cal = 2) (h0 : 0 ≤ day) : ahead cal (2000 + day / 366 - 1) ≤ day + off cal := by
  rcases hc with rfl | rfl
  · simp [ahead, off]; omega
  · simp [ahead, off]; omega
theorem start_lo {cal day : Int} (hc : cal = 1 ∨ cal = 2) (h0 : day < 0) : ahead cal (2000 + day / 365 - 2) ≤ day + off cal := by
  rcases hc with rfl | rfl
  · simp [ahead, off]; omega
  · simp [ahead, off]; omega

/-- The number that a cell holds. -/
def cellInt (w : World) (b o : Nat) : Int :=
  match w.cell? ⟨b, o, none⟩ with
  | some v => intOf v
  | none => 0
theorem cellInt_of {w : World} {b o : Nat} {z : Int} (h : w.cell? ⟨b, o, none⟩ = some (.int .i64 z)) : cellInt w b o = z := by
  unfold cellInt
  rw [h]
  rfl

theorem addr_near {b i j : Nat} (h : i ≠ j) : (⟨b, i, none⟩ : Addr) ≠ ⟨b, j, none⟩ := fun e => h (by cases e; rfl)
theorem addr_off {b g i j : Nat} (h : b ≠ g) : (⟨g, i, none⟩ : Addr) ≠ ⟨b, j, none⟩ := fun e => h (by cases e; rfl)
theorem Box3.put0 {w : World} {b : Nat} {v0 v1 v2 : Value} (h : Box3 w b v0 v1 v2) (u : Value) : Box3 (w.setCell ⟨b, 0, none⟩ u) b u v1 v2 := by
  obtain ⟨⟨q0, q1, q2⟩, f0, f1, f2⟩ := h
  refine ⟨⟨World.cell?_setCell_same _ _ _ q0, ?_, ?_⟩, ?_, ?_, ?_⟩
  · rw [World.cell?_setCell_other _ _ _ _ (addr_near (by decide))]; exact q1
  · rw [World.cell?_setCell_other _ _ _ _ (addr_near (by decide))]; exact q2
  · simp [World.frozen?_setCell, f0]
  · simp [World.frozen?_setCell, f1]
  · simp [World.frozen?_setCell, f2]
theorem Box3.put1 {w : World} {b : Nat} {v0 v1 v2 : Value} (h : Box3 w b v0 v1 v2) (u : Value) : Box3 (w.setCell ⟨b, 1, none⟩ u) b v0 u v2 := by
  obtain ⟨⟨q0, q1, q2⟩, f0, f1, f2⟩ := h
  refine ⟨⟨?_, World.cell?_setCell_same _ _ _ q1, ?_⟩, ?_, ?_, ?_⟩
  · rw [World.cell?_setCell_other _ _ _ _ (addr_near (by decide))]; exact q0
  · rw [World.cell?_setCell_other _ _ _ _ (addr_near (by decide))]; exact q2
  · simp [World.frozen?_setCell, f0]
  · simp [World.frozen?_setCell, f1]
  · simp [World.frozen?_setCell, f2]
theorem Box3.put2 {w : World} {b : Nat} {v0 v1 v2 : Value} (h : Box3 w b v0 v1 v2) (u : Value) : Box3 (w.setCell ⟨b, 2, none⟩ u) b v0 v1 u := by
  obtain ⟨⟨q0, q1, q2⟩, f0, f1, f2⟩ := h
  refine ⟨⟨?_, ?_, World.cell?_setCell_same _ _ _ q2⟩, ?_, ?_, ?_⟩
  · rw [World.cell?_setCell_other _ _ _ _ (addr_near (by decide))]; exact q0
  · rw [World.cell?_setCell_other _ _ _ _ (addr_near (by decide))]; exact q1
  · simp [World.frozen?_setCell, f0]
  · simp [World.frozen?_setCell, f1]
  · simp [World.frozen?_setCell, f2]
theorem Box3.far {w : World} {b g i : Nat} {v0 v1 v2 : Value} (h : Box3 w b v0 v1 v2) (hb : b ≠ g) (u : Value) : Box3 (w.setCell ⟨g, i, none⟩ u) b v0 v1 v2 := by
  obtain ⟨⟨q0, q1, q2⟩, f0, f1, f2⟩ := h
  refine ⟨⟨?_, ?_, ?_⟩, ?_, ?_, ?_⟩
  · rw [World.cell?_setCell_other _ _ _ _ (addr_off hb)]; exact q0
  · rw [World.cell?_setCell_other _ _ _ _ (addr_off hb)]; exact q1
  · rw [World.cell?_setCell_other _ _ _ _ (addr_off hb)]; exact q2
  · simp [World.frozen?_setCell, f0]
  · simp [World.frozen?_setCell, f1]
  · simp [World.frozen?_setCell, f2]
theorem Box3.lt {w : World} {b : Nat} {v0 v1 v2 : Value} (h : Box3 w b v0 v1 v2) : b < w.heap.size := World.block_lt_of_cell? _ _ h.1.1

theorem hi_of {cal day : Int} (hc : cal = 1 ∨ cal = 2) (n1 : day ≤ 1000100) : Hid (day + off cal < ahead cal 20000) := by
  rcases hc with rfl | rfl
  · have : ahead 1 20000 = 7304850 := by decide
    simp [Hid, off, this]; omega
  · have : ahead 2 20000 = 7305000 := by decide
    simp [Hid, off, this]; omega

set_option maxHeartbeats 2000000 in
theorem dateOfS_lo (cal day : Int) (w : World) (hc : cal = 1 ∨ cal = 2) (n0 : -1000100 ≤ day) (n1 : day ≤ 1000100) (hd : day < 0) :
    Calls Tryz.prog 27 #[.int .i64 cal, .int .i64 day] w fun e w' => ∃ y m d, e = .returned (.agg #[.int .i64 y, .int .i64 m, .int .i64 d]) ∧ (IsDt cal day y m d ∧ -20000 ≤ y ∧ y ≤ 20000) ∧ Ext w w' := by
  have hi : Hid (day + off cal < ahead cal 20000) := hi_of hc n1
  have FS : Hid (∀ (y : Int) (w : World), -20000 ≤ y → y ≤ 20001 → Calls Tryz.prog 35 #[.int .i64 cal, .int .i64 y] w fun e w' => e = .returned (.tuple #[.int .i64 (ahead cal y - off cal), .bool true]) ∧ w' = w) := fun y w h1 h2 => firstS cal y w hc (by omega) (by omega)
  have ML : Hid (∀ (y : Int) (k : Nat) (w : World), k ≤ 11 → -20000 ≤ y → y ≤ 20000 → Calls Tryz.prog 46 #[.int .i64 cal, .int .i64 y, .int .i64 ((k : Int) + 1)] w fun e w' => e = .returned (.int .i64 (mlen cal y ((k : Int) + 1))) ∧ Ext w w') := fun y k w h1 h2 h3 => mlenS cal y ((k : Int) + 1) w hc (by omega) (by omega) (by omega) (by omega)
  have C1 := fun w => fdivS day 366 w (by omega) (by omega) (by omega)
  have C2 := fun w => fdivS day 365 w (by omega) (by omega) (by omega)
  have hd0 : decide (day < 0) = true := by simp; omega
  have HS : Hid (ahead cal (2000 + day / 365 - 2) ≤ day + off cal) := start_lo hc hd
  have hY : -20000 ≤ 2000 + day / 365 - 2 ∧ 2000 + day / 365 - 2 ≤ 20000 := by omega
  have oc : 730485 ≤ off cal ∧ off cal ≤ 730487 := by rcases hc with rfl | rfl <;> simp [off]
  have q6 : -5000 ≤ day / 366 ∧ day / 366 ≤ 5000 := by omega
  have q5 : -5000 ≤ day / 365 ∧ day / 365 ≤ 5000 := by omega
  obtain ⟨Q6, h6⟩ : ∃ Q, day / 366 = Q := ⟨_, rfl⟩
  obtain ⟨Q5, h5⟩ : ∃ Q, day / 365 = Q := ⟨_, rfl⟩
  rw [h5] at HS hY
  rw [h6] at C1 q6
  rw [h5] at C2 q5
  clear h5 h6 hd hc
  go_enter Tryz.func27, Tryz.ntmps27
  go_wp2_with fail
  refine (C1 _).mono ?_
  rintro e w1 ⟨rfl, rfl⟩
  go_wp2_with fail
  refine (C2 _).mono ?_
  rintro e w1 ⟨rfl, rfl⟩
  go_wp2_with fail
  clear C1 C2 hd0
  have hy2 : 2000 + Q5 - 2 < 20000 := by omega
  go_loopw [7] (fun _ wr => ∃ y : Int, Box3 wr (w.heap.size + 1) (.int .i64 y) (.int .i64 1) (.int .i64 1) ∧ Box3 wr w.heap.size (.int .i64 0) (.int .i64 0) (.int .i64 0) ∧ Hid (ahead cal y ≤ day + off cal) ∧ -20000 ≤ y ∧ y < 20000 ∧ Ext w wr) (fun _ wr => (20000 - cellInt wr (w.heap.size + 1) 0).toNat)
  case atStart =>
    have B1 := Box3.made (w.alloc (.cells #[.int .i64 0, .int .i64 0, .int .i64 0] 26)) (.int .i64 (2000 + Q5 - 2)) (.int .i64 1) (.int .i64 1) 26
    rw [World.size_alloc] at B1
    exact ⟨_, B1, (Box3.made w _ _ _ _).later (x1 _ _), HS, hY.1, hy2, xa (x1 _ _) _⟩
  case round =>
    obtain ⟨y, Bd, Br, HA, y0, y1, X⟩ := hrel
    have Bd' := Bd
    obtain ⟨⟨q0, q1, q2⟩, g0, g1, g2⟩ := Bd'
    have ne0 := World.new_ne wr _ q0
    have qa0 := fun o => (Bd.later (x1 wr o)).1.1
    have qa1 := fun o => (Bd.later (x1 wr o)).1.2.1
    have qa2 := fun o => (Bd.later (x1 wr o)).1.2.2
    have fa0 := fun o => (Bd.later (x1 wr o)).2.1
    have fa1 := fun o => (Bd.later (x1 wr o)).2.2.1
    have fa2 := fun o => (Bd.later (x1 wr o)).2.2.2
    have F1 : Hid (∀ w : World, Calls Tryz.prog 35 #[.int .i64 cal, .int .i64 (y + 1)] w fun e w' => e = .returned (.tuple #[.int .i64 (ahead cal (y + 1) - off cal), .bool true]) ∧ w' = w) := fun w => FS.out (y + 1) w (by omega) (by omega)
    have F0 : Hid (∀ w : World, Calls Tryz.prog 35 #[.int .i64 cal, .int .i64 y] w fun e w' => e = .returned (.tuple #[.int .i64 (ahead cal y - off cal), .bool true]) ∧ w' = w) := fun w => FS.out y w (by omega) (by omega)
    have hwy : wrap64 (y + 1) = y + 1 := by unfold wrap64; omega
    obtain ⟨A1, hA1⟩ : ∃ A1, ahead cal (y + 1) - off cal = A1 := ⟨_, rfl⟩
    have HA1 : Hid (ahead cal (y + 1) - off cal = A1) := hA1
    rw [hA1] at F1
    clear hA1 HS hY hy2 FS
    by_cases hle : A1 ≤ day
    · have hf : decide (A1 > day) = false := by simp; omega
      have y2 : y + 1 < 20000 := by have h1 := hi.out; have h2 := HA1.out; exact ahead_lt (cal := cal) (by omega)
      have HN : Hid (ahead cal (y + 1) ≤ day + off cal) := by have h2 := HA1.out; show ahead cal (y + 1) ≤ day + off cal; omega
      have RB : Hid (∀ o : Obj, Box3 ((((wr.alloc o).setCell ⟨w.heap.size + 1, 0, none⟩ (.int .i64 (y + 1))).setCell ⟨w.heap.size + 1, 1, none⟩ (.int .i64 1)).setCell ⟨w.heap.size + 1, 2, none⟩ (.int .i64 1)) (w.heap.size + 1) (.int .i64 (y + 1)) (.int .i64 1) (.int .i64 1) ∧ Box3 ((((wr.alloc o).setCell ⟨w.heap.size + 1, 0, none⟩ (.int .i64 (y + 1))).setCell ⟨w.heap.size + 1, 1, none⟩ (.int .i64 1)).setCell ⟨w.heap.size + 1, 2, none⟩ (.int .i64 1)) w.heap.size (.int .i64 0) (.int .i64 0) (.int .i64 0)) := fun o =>
        ⟨(((Bd.later (x1 _ _)).put0 _).put1 _).put2 _, (((Br.later (x1 _ _)).far (by omega) _).far (by omega) _).far (by omega) _⟩
      have HM : Hid (cellInt wr (w.heap.size + 1) 0 = y) := cellInt_of q0
      clear Bd Br hle
      go_wp2_with fail
      refine (F1.out _).mono ?_
      rintro e w' ⟨rfl, rfl⟩
      go_wp2_with fail
      go_roundw
      case rel => exact ⟨y + 1, (RB.out _).1, (RB.out _).2, HN, by omega, y2, xset (xset (xset (xa X _) (Nat.le_succ _) _) (Nat.le_succ _) _) (Nat.le_succ _) _⟩
      case measure => rw [cellInt_of (RB.out _).1.1.1, HM.out]; omega
    · have hf : decide (A1 > day) = true := by simp; omega
      have HH : Hid (Holds cal y (day + off cal)) := ⟨HA.out, by have h2 := HA1.out; omega⟩
      have Bd1 : ∀ o, Box3 (wr.alloc o) (w.heap.size + 1) (.int .i64 y) (.int .i64 1) (.int .i64 1) := fun o => Bd.later (x1 _ _)
      have Br1 : ∀ o, Box3 (wr.alloc o) w.heap.size (.int .i64 0) (.int .i64 0) (.int .i64 0) := fun o => Br.later (x1 _ _)
      go_wp2_with fail
      refine (F1.out _).mono ?_
      rintro e w' ⟨rfl, rfl⟩
      go_wp2_with fail
      refine (F0.out _).mono ?_
      rintro e w' ⟨rfl, rfl⟩
      have af := ahead_fitsS (cal := cal) (y := y) (by omega) (by omega)
      have Z0 : Hid (MonAt cal y (day + off cal) (day - (ahead cal y - off cal)) 0) := by
        have h := MonAt.zero HH.out
        have e : day + off cal - ahead cal y = day - (ahead cal y - off cal) := by omega
        rw [e] at h
        exact h
      obtain ⟨L0, hL⟩ : ∃ L, ahead cal y - off cal = L := ⟨_, rfl⟩
      have hL2 : -500000000 ≤ L0 ∧ L0 ≤ 500000000 := by omega
      rw [hL] at Z0 ⊢
      clear hL af F0 F1 HA1 hf hle HA hwy q0 q1 q2 g0 g1 g2 ne0 qa0 qa1 qa2 fa0 fa1 fa2 Bd Br
      go_wp2_with fail
      go_loopw [11] (fun a wq => ∃ (k : Nat) (l : Int), a = .int .i64 l ∧ k ≤ 11 ∧ Hid (MonAt cal y (day + off cal) l k) ∧ Box3 wq (w.heap.size + 1) (.int .i64 y) (.int .i64 ((k : Int) + 1)) (.int .i64 1) ∧ Box3 wq w.heap.size (.int .i64 0) (.int .i64 0) (.int .i64 0) ∧ Ext w wq) (fun _ wq => (13 - cellInt wq (w.heap.size + 1) 1).toNat)
      case atStart => exact ⟨0, _, by go_num, by omega, Z0, Bd1 _, Br1 _, xa X _⟩
      case round =>
        obtain ⟨k, l, rfl, hk, HM, Bq, Bs, Xq⟩ := hrel
        have L := fun w => ML.out y k w hk y0 (by omega)
        have l1 := MonAt.le HH.out HM.out
        have l0 := HM.out.2.2
        have mp := mlen_pos cal y ((k : Int) + 1)
        have HN := fun h => MonAt.next HH.out HM.out h
        have HD : Hid (l < mlen cal y ((k : Int) + 1) → IsDt cal day y ((k : Int) + 1) (l + 1)) := fun g => HM.out.done g
        obtain ⟨D, hD⟩ : ∃ D, mlen cal y ((k : Int) + 1) = D := ⟨_, rfl⟩
        simp only [hD] at L HN HD mp
        have HN' : Hid (D ≤ l → MonAt cal y (day + off cal) (l - D) (k + 1)) := HN
        have Bq' := Bq
        obtain ⟨⟨q0, q1, q2⟩, _⟩ := Bq'
        clear hD HN Bd1 Br1 Z0 hL2
        by_cases hl : D ≤ l
        · have HC : Hid (cellInt wr (w.heap.size + 1) 1 = (k : Int) + 1) := cellInt_of q1
          go_wp2_with fail
          refine (L _).mono ?_
          rintro e w1 ⟨rfl, e1⟩
          have B1 := Bq.later e1
          obtain ⟨⟨r0, r1, r2⟩, _⟩ := B1
          go_wp2_with fail
          refine (L _).mono ?_
          rintro e w2 ⟨rfl, e2⟩
          have B2 := Bq.later (xt e1 e2)
          have B2' := B2
          obtain ⟨⟨t0, t1, t2⟩, f0, f1, f2⟩ := B2'
          have RB : Hid (Box3 (w2.setCell ⟨w.heap.size + 1, 1, none⟩ (.int .i64 ((k : Int) + 1 + 1))) (w.heap.size + 1) (.int .i64 y) (.int .i64 ((k : Int) + 1 + 1)) (.int .i64 1) ∧ Box3 (w2.setCell ⟨w.heap.size + 1, 1, none⟩ (.int .i64 ((k : Int) + 1 + 1))) w.heap.size (.int .i64 0) (.int .i64 0) (.int .i64 0)) := ⟨B2.put1 _, (Bs.later (xt e1 e2)).far (by omega) _⟩
          clear B2 Bq Bs
          go_wp2_with fail
          go_roundw
          case rel => exact ⟨k + 1, l - D, by go_num, (HN'.out hl).1, HN'.out hl, RB.out.1, RB.out.2, xset (xt Xq (xt e1 e2)) (Nat.le_succ _) _⟩
          case measure => rw [cellInt_of RB.out.1.1.2.1, HC.out]; omega
        · go_wp2_with fail
          refine (L _).mono ?_
          rintro e w1 ⟨rfl, e1⟩
          have B1 := Bq.later e1
          have B1' := B1
          obtain ⟨⟨r0, r1, r2⟩, f0, f1, f2⟩ := B1'
          obtain ⟨⟨s0, s1, s2⟩, h0, h1, h2⟩ := Bs.later e1
          have hw : wrap64 (1 + l) = l + 1 := by unfold wrap64; omega
          clear B1 Bq Bs
          go_wp2_with fail
          exact bodyPost_ret (v := .agg #[.int .i64 y, .int .i64 ((k : Int) + 1), .int .i64 (1 + l)]) (by simp [results, Tryz.results27, go_sem, s0, s1, s2]) rfl ⟨y, (k : Int) + 1, 1 + l, rfl, ⟨by rw [Int.add_comm 1 l]; exact HD.out (by omega), y0, by omega⟩, xset (xset (xset (xset (xt Xq e1) (Nat.le_succ _) _) (Nat.le_refl _) _) (Nat.le_refl _) _) (Nat.le_refl _) _⟩

set_option maxHeartbeats 2000000 in
theorem dateOfS_hi (cal day : Int) (w : World) (hc : cal = 1 ∨ cal = 2) (n0 : -1000100 ≤ day) (n1 : day ≤ 1000100) (hd : 0 ≤ day) :
    Calls Tryz.prog 27 #[.int .i64 cal, .int .i64 day] w fun e w' => ∃ y m d, e = .returned (.agg #[.int .i64 y, .int .i64 m, .int .i64 d]) ∧ (IsDt cal day y m d ∧ -20000 ≤ y ∧ y ≤ 20000) ∧ Ext w w' := by
  have hi : Hid (day + off cal < ahead cal 20000) := hi_of hc n1
  have FS : Hid (∀ (y : Int) (w : World), -20000 ≤ y → y ≤ 20001 → Calls Tryz.prog 35 #[.int .i64 cal, .int .i64 y] w fun e w' => e = .returned (.tuple #[.int .i64 (ahead cal y - off cal), .bool true]) ∧ w' = w) := fun y w h1 h2 => firstS cal y w hc (by omega) (by omega)
  have ML : Hid (∀ (y : Int) (k : Nat) (w : World), k ≤ 11 → -20000 ≤ y → y ≤ 20000 → Calls Tryz.prog 46 #[.int .i64 cal, .int .i64 y, .int .i64 ((k : Int) + 1)] w fun e w' => e = .returned (.int .i64 (mlen cal y ((k : Int) + 1))) ∧ Ext w w') := fun y k w h1 h2 h3 => mlenS cal y ((k : Int) + 1) w hc (by omega) (by omega) (by omega) (by omega)
  have C1 := fun w => fdivS day 366 w (by omega) (by omega) (by omega)
  have C2 := fun w => fdivS day 365 w (by omega) (by omega) (by omega)
  have hd0 : decide (day < 0) = false := by simp; omega
  have HS : Hid (ahead cal (2000 + day / 366 - 1) ≤ day + off cal) := start_hi hc hd
  have hY : -20000 ≤ 2000 + day / 366 - 1 ∧ 2000 + day / 366 - 1 ≤ 20000 := by omega
  have oc : 730485 ≤ off cal ∧ off cal ≤ 730487 := by rcases hc with rfl | rfl <;> simp [off]
  have q6 : -5000 ≤ day / 366 ∧ day / 366 ≤ 5000 := by omega
  have q5 : -5000 ≤ day / 365 ∧ day / 365 ≤ 5000 := by omega
  obtain ⟨Q6, h6⟩ : ∃ Q, day / 366 = Q := ⟨_, rfl⟩
  obtain ⟨Q5, h5⟩ : ∃ Q, day / 365 = Q := ⟨_, rfl⟩
  rw [h6] at HS hY
  rw [h6] at C1 q6
  rw [h5] at C2 q5
  clear h5 h6 hd hc
  go_enter Tryz.func27, Tryz.ntmps27
  go_wp2_with fail
  refine (C1 _).mono ?_
  rintro e w1 ⟨rfl, rfl⟩
  go_wp2_with fail
  clear C1 C2 hd0
  have hy2 : 2000 + Q6 - 1 < 20000 := by omega
  go_loopw [7] (fun _ wr => ∃ y : Int, Box3 wr (w.heap.size + 1) (.int .i64 y) (.int .i64 1) (.int .i64 1) ∧ Box3 wr w.heap.size (.int .i64 0) (.int .i64 0) (.int .i64 0) ∧ Hid (ahead cal y ≤ day + off cal) ∧ -20000 ≤ y ∧ y < 20000 ∧ Ext w wr) (fun _ wr => (20000 - cellInt wr (w.heap.size + 1) 0).toNat)
  case atStart =>
    have B1 := Box3.made (w.alloc (.cells #[.int .i64 0, .int .i64 0, .int .i64 0] 26)) (.int .i64 (2000 + Q6 - 1)) (.int .i64 1) (.int .i64 1) 26
    rw [World.size_alloc] at B1
    exact ⟨_, B1, (Box3.made w _ _ _ _).later (x1 _ _), HS, hY.1, hy2, xa (x1 _ _) _⟩
  case round =>
    obtain ⟨y, Bd, Br, HA, y0, y1, X⟩ := hrel
    have Bd' := Bd
    obtain ⟨⟨q0, q1, q2⟩, g0, g1, g2⟩ := Bd'
    have ne0 := World.new_ne wr _ q0
    have qa0 := fun o => (Bd.later (x1 wr o)).1.1
    have qa1 := fun o => (Bd.later (x1 wr o)).1.2.1
    have qa2 := fun o => (Bd.later (x1 wr o)).1.2.2
    have fa0 := fun o => (Bd.later (x1 wr o)).2.1
    have fa1 := fun o => (Bd.later (x1 wr o)).2.2.1
    have fa2 := fun o => (Bd.later (x1 wr o)).2.2.2
    have F1 : Hid (∀ w : World, Calls Tryz.prog 35 #[.int .i64 cal, .int .i64 (y + 1)] w fun e w' => e = .returned (.tuple #[.int .i64 (ahead cal (y + 1) - off cal), .bool true]) ∧ w' = w) := fun w => FS.out (y + 1) w (by omega) (by omega)
    have F0 : Hid (∀ w : World, Calls Tryz.prog 35 #[.int .i64 cal, .int .i64 y] w fun e w' => e = .returned (.tuple #[.int .i64 (ahead cal y - off cal), .bool true]) ∧ w' = w) := fun w => FS.out y w (by omega) (by omega)
    have hwy : wrap64 (y + 1) = y + 1 := by unfold wrap64; omega
    obtain ⟨A1, hA1⟩ : ∃ A1, ahead cal (y + 1) - off cal = A1 := ⟨_, rfl⟩
    have HA1 : Hid (ahead cal (y + 1) - off cal = A1) := hA1
    rw [hA1] at F1
    clear hA1 HS hY hy2 FS
    by_cases hle : A1 ≤ day
    · have hf : decide (A1 > day) = false := by simp; omega
      have y2 : y + 1 < 20000 := by have h1 := hi.out; have h2 := HA1.out; exact ahead_lt (cal := cal) (by omega)
      have HN : Hid (ahead cal (y + 1) ≤ day + off cal) := by have h2 := HA1.out; show ahead cal (y + 1) ≤ day + off cal; omega
      have RB : Hid (∀ o : Obj, Box3 ((((wr.alloc o).setCell ⟨w.heap.size + 1, 0, none⟩ (.int .i64 (y + 1))).setCell ⟨w.heap.size + 1, 1, none⟩ (.int .i64 1)).setCell ⟨w.heap.size + 1, 2, none⟩ (.int .i64 1)) (w.heap.size + 1) (.int .i64 (y + 1)) (.int .i64 1) (.int .i64 1) ∧ Box3 ((((wr.alloc o).setCell ⟨w.heap.size + 1, 0, none⟩ (.int .i64 (y + 1))).setCell ⟨w.heap.size + 1, 1, none⟩ (.int .i64 1)).setCell ⟨w.heap.size + 1, 2, none⟩ (.int .i64 1)) w.heap.size (.int .i64 0) (.int .i64 0) (.int .i64 0)) := fun o =>
        ⟨(((Bd.later (x1 _ _)).put0 _).put1 _).put2 _, (((Br.later (x1 _ _)).far (by omega) _).far (by omega) _).far (by omega) _⟩
      have HM : Hid (cellInt wr (w.heap.size + 1) 0 = y) := cellInt_of q0
      clear Bd Br hle
      go_wp2_with fail
      refine (F1.out _).mono ?_
      rintro e w' ⟨rfl, rfl⟩
      go_wp2_with fail
      go_roundw
      case rel => exact ⟨y + 1, (RB.out _).1, (RB.out _).2, HN, by omega, y2, xset (xset (xset (xa X _) (Nat.le_succ _) _) (Nat.le_succ _) _) (Nat.le_succ _) _⟩
      case measure => rw [cellInt_of (RB.out _).1.1.1, HM.out]; omega
    · have hf : decide (A1 > day) = true := by simp; omega
      have HH : Hid (Holds cal y (day + off cal)) := ⟨HA.out, by have h2 := HA1.out; omega⟩
      have Bd1 : ∀ o, Box3 (wr.alloc o) (w.heap.size + 1) (.int .i64 y) (.int .i64 1) (.int .i64 1) := fun o => Bd.later (x1 _ _)
      have Br1 : ∀ o, Box3 (wr.alloc o) w.heap.size (.int .i64 0) (.int .i64 0) (.int .i64 0) := fun o => Br.later (x1 _ _)
      go_wp2_with fail
      refine (F1.out _).mono ?_
      rintro e w' ⟨rfl, rfl⟩
      go_wp2_with fail
      refine (F0.out _).mono ?_
      rintro e w' ⟨rfl, rfl⟩
      have af := ahead_fitsS (cal := cal) (y := y) (by omega) (by omega)
      have Z0 : Hid (MonAt cal y (day + off cal) (day - (ahead cal y - off cal)) 0) := by
        have h := MonAt.zero HH.out
        have e : day + off cal - ahead cal y = day - (ahead cal y - off cal) := by omega
        rw [e] at h
        exact h
      obtain ⟨L0, hL⟩ : ∃ L, ahead cal y - off cal = L := ⟨_, rfl⟩
      have hL2 : -500000000 ≤ L0 ∧ L0 ≤ 500000000 := by omega
      rw [hL] at Z0 ⊢
      clear hL af F0 F1 HA1 hf hle HA hwy q0 q1 q2 g0 g1 g2 ne0 qa0 qa1 qa2 fa0 fa1 fa2 Bd Br
      go_wp2_with fail
      go_loopw [11] (fun a wq => ∃ (k : Nat) (l : Int), a = .int .i64 l ∧ k ≤ 11 ∧ Hid (MonAt cal y (day + off cal) l k) ∧ Box3 wq (w.heap.size + 1) (.int .i64 y) (.int .i64 ((k : Int) + 1)) (.int .i64 1) ∧ Box3 wq w.heap.size (.int .i64 0) (.int .i64 0) (.int .i64 0) ∧ Ext w wq) (fun _ wq => (13 - cellInt wq (w.heap.size + 1) 1).toNat)
      case atStart => exact ⟨0, _, by go_num, by omega, Z0, Bd1 _, Br1 _, xa X _⟩
      case round =>
        obtain ⟨k, l, rfl, hk, HM, Bq, Bs, Xq⟩ := hrel
        have L := fun w => ML.out y k w hk y0 (by omega)
        have l1 := MonAt.le HH.out HM.out
        have l0 := HM.out.2.2
        have mp := mlen_pos cal y ((k : Int) + 1)
        have HN := fun h => MonAt.next HH.out HM.out h
        have HD : Hid (l < mlen cal y ((k : Int) + 1) → IsDt cal day y ((k : Int) + 1) (l + 1)) := fun g => HM.out.done g
        obtain ⟨D, hD⟩ : ∃ D, mlen cal y ((k : Int) + 1) = D := ⟨_, rfl⟩
        simp only [hD] at L HN HD mp
        have HN' : Hid (D ≤ l → MonAt cal y (day + off cal) (l - D) (k + 1)) := HN
        have Bq' := Bq
        obtain ⟨⟨q0, q1, q2⟩, _⟩ := Bq'
        clear hD HN Bd1 Br1 Z0 hL2
        by_cases hl : D ≤ l
        · have HC : Hid (cellInt wr (w.heap.size + 1) 1 = (k : Int) + 1) := cellInt_of q1
          go_wp2_with fail
          refine (L _).mono ?_
          rintro e w1 ⟨rfl, e1⟩
          have B1 := Bq.later e1
          obtain ⟨⟨r0, r1, r2⟩, _⟩ := B1
          go_wp2_with fail
          refine (L _).mono ?_
          rintro e w2 ⟨rfl, e2⟩
          have B2 := Bq.later (xt e1 e2)
          have B2' := B2
          obtain ⟨⟨t0, t1, t2⟩, f0, f1, f2⟩ := B2'
          have RB : Hid (Box3 (w2.setCell ⟨w.heap.size + 1, 1, none⟩ (.int .i64 ((k : Int) + 1 + 1))) (w.heap.size + 1) (.int .i64 y) (.int .i64 ((k : Int) + 1 + 1)) (.int .i64 1) ∧ Box3 (w2.setCell ⟨w.heap.size + 1, 1, none⟩ (.int .i64 ((k : Int) + 1 + 1))) w.heap.size (.int .i64 0) (.int .i64 0) (.int .i64 0)) := ⟨B2.put1 _, (Bs.later (xt e1 e2)).far (by omega) _⟩
          clear B2 Bq Bs
          go_wp2_with fail
          go_roundw
          case rel => exact ⟨k + 1, l - D, by go_num, (HN'.out hl).1, HN'.out hl, RB.out.1, RB.out.2, xset (xt Xq (xt e1 e2)) (Nat.le_succ _) _⟩
          case measure => rw [cellInt_of RB.out.1.1.2.1, HC.out]; omega
        · go_wp2_with fail
          refine (L _).mono ?_
          rintro e w1 ⟨rfl, e1⟩
          have B1 := Bq.later e1
          have B1' := B1
          obtain ⟨⟨r0, r1, r2⟩, f0, f1, f2⟩ := B1'
          obtain ⟨⟨s0, s1, s2⟩, h0, h1, h2⟩ := Bs.later e1
          have hw : wrap64 (1 + l) = l + 1 := by unfold wrap64; omega
          clear B1 Bq Bs
          go_wp2_with fail
          exact bodyPost_ret (v := .agg #[.int .i64 y, .int .i64 ((k : Int) + 1), .int .i64 (1 + l)]) (by simp [results, Tryz.results27, go_sem, s0, s1, s2]) rfl ⟨y, (k : Int) + 1, 1 + l, rfl, ⟨by rw [Int.add_comm 1 l]; exact HD.out (by omega), y0, by omega⟩, xset (xset (xset (xset (xt Xq e1) (Nat.le_succ _) _) (Nat.le_refl _) _) (Nat.le_refl _) _) (Nat.le_refl _) _⟩

theorem dateOfS (cal day : Int) (w : World) (hc : cal = 1 ∨ cal = 2) (n0 : -1000100 ≤ day) (n1 : day ≤ 1000100) :
    Calls Tryz.prog 27 #[.int .i64 cal, .int .i64 day] w fun e w' => ∃ y m d, e = .returned (.agg #[.int .i64 y, .int .i64 m, .int .i64 d]) ∧ (IsDt cal day y m d ∧ -20000 ≤ y ∧ y ≤ 20000) ∧ Ext w w' := by
  by_cases hd : day < 0
  · exact dateOfS_lo cal day w hc n0 n1 hd
  · exact dateOfS_hi cal day w hc n0 n1 (by omega)

end Go.Proofs.YtmcmohooodpfeaaGreatDoor
