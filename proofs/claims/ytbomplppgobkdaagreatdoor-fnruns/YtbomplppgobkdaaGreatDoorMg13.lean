/-
  Several texts in one: V6q, V6r, V6s.
-/
import Derived.Test.YtbomplppgobkdaaGreatDoorMg11
import Derived.Test.YtbomplppgobkdaaGreatDoorCmpLaw
import Derived.Test.YtbomplppgobkdaaGreatDoorShelf
import Derived.Deep.RegionHeld3
namespace Go.Proofs.YtbomplppgobkdaaGreatDoor
open Go.RowKit

theorem fCompare : layCompare_ren.f 106 = 78 := by kernel_rfl
theorem strCmpI (a b : List UInt8) (w : World) :
    Calls Tryz.prog 78 #[sV a, sV b] w fun e w' => e = .returned (.int .i64 (Lib.compareBytes a b)) ∧ w' = w := by
  have h := Any.strings_Compare layCompare ⟨a.toArray⟩ ⟨b.toArray⟩ w
  rw [fCompare] at h
  exact h
set_option maxHeartbeats 1000000 in
theorem orderS (a b : List UInt8) (w : World) :
    Calls Tryz.prog 84 #[sV a, sV b] w fun e w' => e = .returned (.int .i64 (Lib.compareBytes a b)) ∧ w' = w := by
  have h1 := cmp_less a b
  have h2 := cmp_same a b
  rcases cmp_three a b with h | h | h
  all_goals
    rw [h] at h1 h2 ⊢
    simp only [Int.reduceNeg, decide_true, decide_false, Int.reduceEq] at h1 h2
    go_enter Tryz.func84, Tryz.ntmps84
    go_wp2_with fail
    go_ret
    exact ⟨rfl, rfl⟩
/-- The first that is not nought. -/
def orR : List Int → Int
  | [] => 0
  | a :: l => if a = 0 then orR l else a
theorem orR_skip : ∀ (l : List Int) (k : Nat), (∀ (j : Nat) (z : Int), j < k → l[j]? = some z → z = 0) → orR l = orR (l.drop k)
  | _, 0, _ => rfl
  | [], k + 1, _ => by simp
  | a :: l, k + 1, h => by
    have ha : a = 0 := h 0 a (by omega) rfl
    rw [orR, if_pos ha, List.drop_succ_cons]
    exact orR_skip l k fun j z hj hz => h (j + 1) z (by omega) (by simpa using hz)
set_option maxRecDepth 8000 in
set_option maxHeartbeats 1000000 in
theorem orI (l : List Int) (g cap : Nat) (w : World) (hl : l.length ≤ 100) (V : Vec w g (l.map (Value.int .i64 ·))) :
    Calls Tryz.prog 76 #[.slice (some ⟨g, 0, none⟩) l.length cap] w fun e w' => e = .returned (.int .i64 (orR l)) ∧ w' = w := by
  obtain ⟨n, hn⟩ : ∃ n, l.length = n := ⟨_, rfl⟩
  have HN : Hid (l.length = n) := hn
  have HV : Hid (Vec w g (l.map (Value.int .i64 ·))) := V
  obtain ⟨R, hR⟩ : ∃ R, orR l = R := ⟨_, rfl⟩
  have HR : Hid (orR l = R) := hR
  rw [hR]
  rw [hn] at hl ⊢
  clear hn V hR
  go_enter Tryz.func76, Tryz.ntmps76
  go_wp2_with fail
  go_loop [8] (fun i => ∃ k : Nat, k ≤ n ∧ i = .int .i64 k ∧ Hid (∀ (j : Nat) (z : Int), j < k → l[j]? = some z → z = 0)) (fun i => n - (intOf i).toNat)
  case atStart => exact ⟨0, by omega, rfl, fun j t hj => by omega⟩
  case round =>
    obtain ⟨k, hk, rfl, HA⟩ := hrel
    by_cases hlt : k < n
    · obtain ⟨z, hz⟩ : ∃ z, l[k]? = some z := ⟨_, List.getElem?_eq_getElem (by rw [HN.out]; exact hlt)⟩
      have a0 := (HV.out k (.int .i64 z) (by rw [List.getElem?_map, hz]; rfl)).1
      have i2 : (k : Int) < (n : Int) := by omega
      by_cases hp : z = 0
      · subst hp
        have HA2 : Hid (∀ (j : Nat) (z : Int), j < k + 1 → l[j]? = some z → z = 0) := fun j t' hj h => by
          rcases Nat.lt_or_ge j k with hjk | hjk
          · exact HA.out j t' hjk h
          · obtain rfl : j = k := by omega
            rw [hz] at h
            cases h
            rfl
        clear HA hz
        go_wp2_with fail
        go_round
        case rel => exact ⟨k + 1, by omega, by go_num, HA2⟩
        case measure => simp [intOf]; omega
      · have HT : Hid (z = R) := by
          show _ = _
          rw [← HR.out, orR_skip l k HA.out]
          have : l.drop k = z :: l.drop (k + 1) := by
            have hkl : k < l.length := (List.getElem?_eq_some_iff.1 hz).1
            rw [List.drop_eq_getElem_cons hkl]
            rw [List.getElem?_eq_getElem hkl] at hz
            cases hz
            rfl
          rw [this, orR, if_neg hp]
        clear HA hz
        have hpb : (z != 0) = true := by simpa using hp
        go_wp2_with fail
        go_ret
        exact ⟨congrArg (fun z => Ending.returned (.int .i64 z)) HT.out, rfl⟩
    · obtain rfl : k = n := by omega
      have HT : Hid (0 = R) := by
        show _ = _
        rw [← HR.out, orR_skip l k HA.out, List.drop_eq_nil_of_le (by rw [HN.out]; omega)]
        rfl
      clear HA
      go_wp2_with fail
      go_ret
      exact ⟨congrArg (fun z => Ending.returned (.int .i64 z)) HT.out, rfl⟩

/-- How two values of the same standing stand to each other. -/
def cmpR (k : Int) (n : Bool) (d x : Int) (t : List UInt8) (k' : Int) (n' : Bool) (d' x' : Int) (t' : List UInt8) : Int :=
  if k ≠ k' then (if k < k' then -1 else 1) else
  if k = 1 then cmpI (sgn n d * 10 ^ (x - min x x').toNat) (sgn n' d' * 10 ^ (x' - min x x').toNat) else
  if k = 2 then Lib.compareBytes (t.map upC) (t'.map upC) else if k = 3 then Lib.compareBytes t t' else 0
theorem goodB_bd {n : Bool} {d x : Int} (h : goodB n d x = true) : 0 ≤ d ∧ d < 1000000000000000 ∧ -300 ≤ x ∧ x ≤ 300 := by
  by_cases hd : d = 0
  · have : n = false ∧ x = 0 := by simpa [goodB, hd] using h
    omega
  · have : 0 < d ∧ d < 1000000000000000 ∧ ¬ d % 10 = 0 ∧ -300 ≤ x ∧ x ≤ 300 := by simpa [goodB, hd] using h
    omega
set_option maxRecDepth 8000 in
set_option maxHeartbeats 2000000 in
theorem cmpS6 (k : Int) (n : Bool) (d x : Int) (t : List UInt8) (k' : Int) (n' : Bool) (d' x' : Int) (t' : List UInt8) (w : World)
    (p : Int) (q : Bool) (r s : Int) (u : List UInt8) (hv : besideV k n d x t k' = valV p q r s u) (gv : goodV p q r s u = true) (lu : u.length ≤ 2000000)
    (p' : Int) (q' : Bool) (r' s' : Int) (u' : List UInt8) (hv' : besideV k' n' d' x' t' k = valV p' q' r' s' u') (gv' : goodV p' q' r' s' u' = true) (lu' : u'.length ≤ 2000000) :
    Calls Tryz.prog 48 #[valV k n d x t, valV k' n' d' x' t'] w fun e w' => e = .returned (.int .i64 (cmpR p q r s u p' q' r' s' u')) ∧ Ext w w' := by
  obtain ⟨R, hR⟩ : ∃ R, cmpR p q r s u p' q' r' s' u' = R := ⟨_, rfl⟩
  have HR0 : Hid (cmpR p q r s u p' q' r' s' u' = R) := hR
  rw [hR]
  clear hR
  have X1 := x1 w (.cells #[.int .i64 k, .bool n, .int .i64 d, .int .i64 x, sV t] 50)
  have B1 := vec_made w (valL k n d x t) 50
  obtain ⟨wa, ha⟩ : ∃ wa, w.alloc (.cells #[.int .i64 k, .bool n, .int .i64 d, .int .i64 x, sV t] 50) = wa := ⟨_, rfl⟩
  have X2 := x1 wa (.cells #[.int .i64 k', .bool n', .int .i64 d', .int .i64 x', sV t'] 50)
  have B2 := vec_made wa (valL k' n' d' x' t') 50
  obtain ⟨wb, hb⟩ : ∃ wb, wa.alloc (.cells #[.int .i64 k', .bool n', .int .i64 d', .int .i64 x', sV t'] 50) = wb := ⟨_, rfl⟩
  have sa : wa.heap.size = w.heap.size + 1 := by rw [← ha, World.size_alloc]
  have sb : wb.heap.size = w.heap.size + 1 + 1 := by rw [← hb, World.size_alloc, sa]
  change Vec (w.alloc (.cells #[.int .i64 k, .bool n, .int .i64 d, .int .i64 x, sV t] 50)) _ _ at B1
  change Vec (wa.alloc (.cells #[.int .i64 k', .bool n', .int .i64 d', .int .i64 x', sV t'] 50)) _ _ at B2
  rw [ha] at X1 B1
  rw [hb] at X2 B2
  rw [sa] at B2
  have B1 := B1.later X2
  have X := xt X1 X2
  obtain ⟨a0, a1, a2, a3, a4⟩ := Vec.five B1
  obtain ⟨c0, c1, c2, c3, c4⟩ := Vec.five B2
  go_enter Tryz.func48, Tryz.ntmps48
  go_wp2_with fail
  clear ha hb sa sb a0 a1 a2 a3 a4 c0 c1 c2 c3 c4
  refine (likeS k n d x t k' n' d' x' t' wb).mono ?_
  rintro e w1 ⟨rfl, e1⟩
  rw [hv]
  obtain ⟨wz, hz⟩ : ∃ wz, w1.alloc (.cells #[.int .i64 p, .bool q, .int .i64 r, .int .i64 s, sV u] 50) = wz := ⟨_, rfl⟩
  have Y := x1 w1 (.cells #[.int .i64 p, .bool q, .int .i64 r, .int .i64 s, sV u] 50)
  have Bx := vec_made w1 (valL p q r s u) 50
  change Vec (w1.alloc (.cells #[.int .i64 p, .bool q, .int .i64 r, .int .i64 s, sV u] 50)) _ _ at Bx
  rw [hz] at Y Bx
  have C1 := (B1.later e1).later Y
  have C2 := (B2.later e1).later Y
  have XZ := xt (xt X e1) Y
  clear B1 B2
  obtain ⟨a0, a1, a2, a3, a4⟩ := Vec.five C1
  obtain ⟨c0, c1, c2, c3, c4⟩ := Vec.five C2
  go_wp2_with fail
  clear hz a0 a1 a2 a3 a4 c0 c1 c2 c3 c4
  refine (likeS k' n' d' x' t' k n d x t wz).mono ?_
  rintro e w2 ⟨rfl, e2⟩
  rw [hv']
  obtain ⟨wu, hu⟩ : ∃ wu, w2.alloc (.cells #[.int .i64 p', .bool q', .int .i64 r', .int .i64 s', sV u'] 50) = wu := ⟨_, rfl⟩
  have Y2 := x1 w2 (.cells #[.int .i64 p', .bool q', .int .i64 r', .int .i64 s', sV u'] 50)
  have By := vec_made w2 (valL p' q' r' s' u') 50
  change Vec (w2.alloc (.cells #[.int .i64 p', .bool q', .int .i64 r', .int .i64 s', sV u'] 50)) _ _ at By
  rw [hu] at Y2 By
  have Bx := (Bx.later e2).later Y2
  have XU := xt (xt XZ e2) Y2
  clear C1 C2 X XZ Y e1 e2 Y2 hv hv'
  obtain ⟨gx, hgx⟩ : ∃ gx, w1.heap.size = gx := ⟨_, rfl⟩
  obtain ⟨gy, hgy⟩ : ∃ gy, w2.heap.size = gy := ⟨_, rfl⟩
  rw [hgx] at Bx ⊢
  rw [hgy] at By
  obtain ⟨a0, a1, a2, a3, a4⟩ := Vec.five Bx
  obtain ⟨c0, c1, c2, c3, c4⟩ := Vec.five By
  by_cases hk : p = p'
  · subst hk
    by_cases h1 : p = 1
    · subst h1
      have HR : Hid (cmpI (sgn q r * 10 ^ (s - min s s').toNat) (sgn q' r' * 10 ^ (s' - min s s').toNat) = R) := by show _ = _; rw [← HR0.out]; simp [cmpR]
      obtain ⟨b0, b1, b2, b3⟩ := goodB_bd (goodV_num gv).1
      obtain ⟨m0, m1, m2, m3⟩ := goodB_bd (goodV_num gv').1
      clear gv gv'
      go_wp2_with fail
      refine (sized_any q q' r s r' s' _ b0 b1 m0 m1 b2 b3 m2 m3).mono ?_
      rintro e w3 ⟨rfl, e3⟩
      go_wp2_with fail
      go_ret
      exact ⟨congrArg (fun z => Ending.returned (.int .i64 z)) HR.out, xt XU e3⟩
    · by_cases h2 : p = 2
      · subst h2
        have HR : Hid (Lib.compareBytes (u.map upC) (u'.map upC) = R) := by show _ = _; rw [← HR0.out]; simp [cmpR]
        clear gv gv' h1
        go_wp2_with fail
        go_region_held3 (fun w' => w'.cell? ⟨gx, 4, none⟩ = some (sV u) ∧ w'.cell? ⟨gy, 4, none⟩ = some (sV u')) (go_keep)
          (first
            | (go_at_call_of 85 (sV u); refine (capsS u _ lu).mono ?_; rintro e w3 ⟨rfl, e3⟩; have X3 := xt (xd (xr _)) e3; have m3 := ((Bx.later X3) 4 _ rfl).1; have n3 := ((By.later X3) 4 _ rfl).1)
            | (go_at_call_of 85 (sV u'); refine (capsS u' _ lu').mono ?_; rintro e w4 ⟨rfl, e4⟩; have X4 := xt X3 e4; have m4 := ((Bx.later X4) 4 _ rfl).1; have n4 := ((By.later X4) 4 _ rfl).1)
            | (go_at_call 84; refine (orderS _ _ _).mono ?_; rintro e w5 ⟨rfl, rfl⟩))
        go_wp2_with fail
        go_ret
        exact ⟨congrArg (fun z => Ending.returned (.int .i64 z)) HR.out, xt XU X4⟩
      · by_cases h3 : p = 3
        · subst h3
          have HR : Hid (Lib.compareBytes u u' = R) := by show _ = _; rw [← HR0.out]; simp [cmpR]
          clear gv gv' h1 h2
          go_wp2_with fail
          refine (orderS u u' _).mono ?_
          rintro e w3 ⟨rfl, rfl⟩
          go_wp2_with fail
          go_ret
          exact ⟨congrArg (fun z => Ending.returned (.int .i64 z)) HR.out, XU⟩
        · have HR : Hid (0 = R) := by show _ = _; rw [← HR0.out]; simp [cmpR, h1, h2, h3]
          clear gv gv'
          go_wp2_with fail
          go_ret
          exact ⟨congrArg (fun z => Ending.returned (.int .i64 z)) HR.out, XU⟩
  · by_cases hlt : p < p'
    · have HR : Hid (-1 = R) := by show _ = _; rw [← HR0.out]; simp [cmpR, hk, hlt]
      clear gv gv'
      go_wp2_with fail
      go_ret
      exact ⟨congrArg (fun z => Ending.returned (.int .i64 z)) HR.out, XU⟩
    · have HR : Hid (1 = R) := by show _ = _; rw [← HR0.out]; simp [cmpR, hk, hlt]
      clear gv gv'
      go_wp2_with fail
      go_ret
      exact ⟨congrArg (fun z => Ending.returned (.int .i64 z)) HR.out, XU⟩

def bk (k k' : Int) : Int := if k ≠ 0 then k else if k' = 1 then 1 else if k' = 2 then 2 else if k' = 3 then 3 else 0
def bt (k : Int) (t : List UInt8) (k' : Int) : List UInt8 := if k = 0 ∧ k' = 3 then falseT else t
theorem beside_eq {k : Int} {n : Bool} {d x : Int} {t : List UInt8} (hg : goodV k n d x t = true) (k' : Int) : besideV k n d x t k' = valV (bk k k') n d x (bt k t k') ∧ goodV (bk k k') n d x (bt k t k') = true := by
  by_cases h0 : k = 0
  · subst h0
    obtain ⟨rfl, rfl, rfl⟩ := goodV_zero hg (by decide)
    obtain rfl := goodV_empty hg
    unfold besideV bk bt
    by_cases h1 : k' = 1
    · subst h1; exact ⟨rfl, by decide⟩
    · by_cases h2 : k' = 2
      · subst h2; exact ⟨rfl, by decide⟩
      · by_cases h3 : k' = 3
        · subst h3; exact ⟨rfl, by decide⟩
        · simp [h1, h2, h3]
          decide
  · unfold besideV bk bt
    simp [h0, hg]
theorem bt_len {t : List UInt8} (k k' : Int) (hl : t.length ≤ 2000000) : (bt k t k').length ≤ 2000000 := by
  unfold bt
  split
  · decide
  · exact hl
theorem bk_four {k : Int} (k' : Int) (h : k ≠ 4) : bk k k' ≠ 4 := by
  unfold bk
  split
  · exact h
  · split
    · decide
    · split
      · decide
      · split <;> decide
/-- What Compare answers. -/
def compareV (k : Int) (n : Bool) (d x : Int) (t : List UInt8) (k' : Int) (n' : Bool) (d' x' : Int) (t' : List UInt8) : Int :=
  if goodV k n d x t = true ∧ goodV k' n' d' x' t' = true ∧ k ≠ 4 ∧ k' ≠ 4 then cmpR (bk k k') n d x (bt k t k') (bk k' k) n' d' x' (bt k' t' k) else 2
theorem upC_bool {u : List UInt8} (h : boolB u = true) : u.map upC = u := by
  have : u = [84, 82, 85, 69] ∨ u = [70, 65, 76, 83, 69] := by simpa [boolB] using h
  rcases this with rfl | rfl <;> decide
theorem or_cmpR {p : Int} {q : Bool} {r s : Int} {u : List UInt8} {p' : Int} {q' : Bool} {r' s' : Int} {u' : List UInt8} (g : goodV p q r s u = true) (g' : goodV p' q' r' s' u' = true) (h4 : p ≠ 4) :
    orR [cmpI p p', cmpDec q r s q' r' s', Lib.compareBytes (u.map upC) (u'.map upC)] = cmpR p q r s u p' q' r' s' u' := by
  by_cases hp : p = p'
  · subst hp
    have c0 : cmpI p p = 0 := by unfold cmpI; simp
    rw [orR, if_pos c0]
    by_cases h1 : p = 1
    · subst h1
      obtain ⟨ga, rfl⟩ := goodV_num g
      obtain ⟨gb, rfl⟩ := goodV_num g'
      rw [cmpDec_good ga gb]
      simp [orR, cmpR, Lib.compareBytes]
      intro h; exact h.symm
    · obtain ⟨rfl, rfl, rfl⟩ := goodV_zero g h1
      obtain ⟨rfl, rfl, rfl⟩ := goodV_zero g' h1
      have z0 : cmpDec false 0 0 false 0 0 = 0 := by decide
      rw [orR, if_pos z0]
      have e : orR [Lib.compareBytes (u.map upC) (u'.map upC)] = Lib.compareBytes (u.map upC) (u'.map upC) := by
        unfold orR
        split
        · next h => rw [h]; rfl
        · rfl
      rw [e]
      by_cases h2 : p = 2
      · subst h2; simp [cmpR]
      · by_cases h3 : p = 3
        · subst h3
          have b1 : boolB u = true := by simpa [goodV, zeroD] using g
          have b2 : boolB u' = true := by simpa [goodV, zeroD] using g'
          rw [upC_bool b1, upC_bool b2]
          simp [cmpR]
        · by_cases h0 : p = 0
          · subst h0
            obtain rfl := goodV_empty g
            obtain rfl := goodV_empty g'
            simp [cmpR, Lib.compareBytes]
          · simp [goodV, h1, h2, h3, h0, h4] at g
  · have c1 : cmpI p p' = if p < p' then -1 else 1 := by
      unfold cmpI
      by_cases hl : p < p'
      · simp [hl]
      · have : p' < p := by omega
        simp [hl, this]
    have c2 : cmpI p p' ≠ 0 := by rw [c1]; split <;> decide
    rw [orR, if_neg c2, c1]
    simp [cmpR, hp]

end Go.Proofs.YtbomplppgobkdaaGreatDoor

