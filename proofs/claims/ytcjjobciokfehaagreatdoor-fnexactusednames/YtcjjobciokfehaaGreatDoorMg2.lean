/-
  Several texts in one: Fe, Fk.
-/
import Derived.Test.YtcjjobciokfehaaGreatDoorMg1
namespace Go.Proofs.YtcjjobciokfehaaGreatDoor
open Go.RowKit

def shownC (c : UInt8) : Bool := decide (32 ≤ c.toNat ∧ c.toNat ≤ 126)
def plainB (l : List UInt8) : Bool := l.all shownC
def printN (m : Nat) (l : List UInt8) : Bool := l.all shownC && decide (l.length ≤ m)
def printB (l : List UInt8) : Bool := printN 200 l

set_option maxHeartbeats 1000000 in
theorem plainByteI (N : Int) (q : Bool) (w : World) (h : (decide (32 ≤ N) && decide (N ≤ 126)) = q) : Calls Tryz.prog 106 #[.int .u8 N] w fun e w' => e = .returned (.bool q) ∧ w' = w := by
 subst h
 by_cases h1 : 32 ≤ N
 ·
  by_cases h2 : N ≤ 126
  ·
   go_enter Tryz.func106, Tryz.ntmps106
   go_wp2_with fail
   go_ret
   exact ⟨ret_bool (by simp [h1, h2]), rfl⟩
  ·
   go_enter Tryz.func106, Tryz.ntmps106
   go_wp2_with fail
   go_ret
   exact ⟨ret_bool (by simp; omega), rfl⟩
 ·
  go_enter Tryz.func106, Tryz.ntmps106
  go_wp2_with fail
  go_ret
  exact ⟨ret_bool (by simp; omega), rfl⟩
set_option maxRecDepth 8000 in
set_option maxHeartbeats 1000000 in
theorem plainI (l : List UInt8) (w : World) (hl : l.length ≤ 2000000) : Calls Tryz.prog 85 #[sV l] w fun e w' => e = .returned (.bool (plainB l)) ∧ w' = w := by
 obtain ⟨s, hs⟩ : ∃ s : ByteArray, (⟨l.toArray⟩ : ByteArray) = s := ⟨_, rfl⟩
 have hsl : s.data.toList = l := by rw [← hs]
 have hsz := size_ofL' hsl
 show Calls Tryz.prog 85 #[.string ⟨l.toArray⟩] w _
 rw [hs]
 clear hs
 obtain ⟨n, hn⟩ : ∃ n, l.length = n := ⟨_, rfl⟩
 have HN : Hid (l.length = n) := hn
 have HS : Hid (s.data.toList = l) := hsl
 rw [hn] at hl hsz
 clear hn hsl
 go_enter Tryz.func85, Tryz.ntmps85
 go_wp2_with fail
 go_loop [6] (fun i => ∃ k : Nat, k ≤ n ∧ i = .int .i64 k ∧ Hid ((l.take k).all shownC = true)) (fun i => n - (intOf i).toNat)
 case atStart => exact ⟨0, by omega, rfl, by show _ = _; simp⟩
 case round =>
  obtain ⟨k, hk, rfl, HA⟩ := hrel
  by_cases hlt : k < n
  ·
   have hks : k < s.size := by omega
   have hb0 := byte_atA HS.out hks
   have htk := take_at (l := l) (i := k) (by rw [HN.out]; exact hlt)
   obtain ⟨c, hcc⟩ : ∃ c, l.getD k 0 = c := ⟨_, rfl⟩
   rw [hcc] at hb0 htk
   have hb : ((s[k]'hks).toNat : Int) = (c.toNat : Int) := by rw [hb0]
   have i2 : (k : Int) < (n : Int) := by omega
   by_cases hc : shownC c = true
   ·
    have hc' : 32 ≤ c.toNat ∧ c.toNat ≤ 126 := by simpa [shownC] using hc
    have HA2 : Hid ((l.take (k + 1)).all shownC = true) := by
     show _ = _
     rw [htk, List.all_append, HA.out, List.all_cons, hc]
     rfl
    obtain ⟨N, hN⟩ : ∃ N : Int, (c.toNat : Int) = N := ⟨_, rfl⟩
    rw [hN] at hb
    have n1 : 32 ≤ N := by omega
    have n2 : N ≤ 126 := by omega
    have PB : (decide (32 ≤ N) && decide (N ≤ 126)) = true := by simp; omega
    clear hN hc hc' hb0 htk hcc HA
    go_wp2_with (go_at_call 106; refine (plainByteI N _ _ PB).mono ?_; rintro e w' ⟨rfl, rfl⟩)
    go_round
    case rel => exact ⟨k + 1, by omega, by go_num, HA2⟩
    case measure => simp [intOf]; omega
   ·
    have HF : Hid (plainB l = false) := by
     show _ = _
     have hm : c ∈ l := by
      have : c ∈ l.take (k + 1) := by rw [htk]; simp
      exact List.mem_of_mem_take this
     have hf : l.all shownC = false := by
      cases hq : l.all shownC with
      | false => rfl
      | true => exact absurd ((List.all_eq_true.1 hq) c hm) hc
     unfold plainB
     rw [hf]
    have hc' : c.toNat < 32 ∨ 126 < c.toNat := by
     have : ¬ (32 ≤ c.toNat ∧ c.toNat ≤ 126) := by simpa [shownC] using hc
     omega
    obtain ⟨N, hN⟩ : ∃ N : Int, (c.toNat : Int) = N := ⟨_, rfl⟩
    rw [hN] at hb
    have n1 : N < 32 ∨ 126 < N := by omega
    have PB : (decide (32 ≤ N) && decide (N ≤ 126)) = false := by simp; omega
    clear hN hc hc' hb0 htk hcc HA
    go_wp2_with (go_at_call 106; refine (plainByteI N _ _ PB).mono ?_; rintro e w' ⟨rfl, rfl⟩)
    go_ret
    exact ⟨ret_bool (by rw [HF.out]), rfl⟩
  ·
   obtain rfl : k = n := by omega
   have HT : Hid (plainB l = true) := by
    show _ = _
    have h1 := HA.out
    rw [List.take_of_length_le (by rw [HN.out]; omega)] at h1
    exact h1
   clear HA
   go_wp2_with fail
   go_ret
   exact ⟨ret_bool (by rw [HT.out]), rfl⟩
set_option maxHeartbeats 1000000 in
theorem quotI (l : List UInt8) (w : World) (hl : l.length ≤ 2000000) : Calls Tryz.prog 64 #[sV l] w fun e w' => e = .returned (.bool (printB l)) ∧ w' = w := by
 have C := fun W => plainI l W hl
 obtain ⟨n, hn⟩ : ∃ n, l.length = n := ⟨_, rfl⟩
 have hs : (⟨l.toArray⟩ : ByteArray).size = n := hn
 have e : printB l = (plainB l && decide ((n : Int) ≤ 200)) := by unfold printB printN plainB; rw [hn]; congr 1; simp; omega
 rw [e]
 rw [hn] at hl
 clear e
 obtain ⟨p, hp⟩ : ∃ p, plainB l = p := ⟨_, rfl⟩
 rw [hp] at C ⊢
 clear hp hn
 go_enter Tryz.func64, Tryz.ntmps64
 cases p
 all_goals go_wp2_with (go_at_call 85; refine (C _).mono ?_; rintro e w' ⟨rfl, rfl⟩)
 all_goals go_ret
 all_goals exact ⟨ret_bool (by simp), rfl⟩

set_option maxRecDepth 8000 in
set_option maxHeartbeats 1000000 in
theorem printS (m : Nat) (l : List UInt8) (w : World) (hl : l.length ≤ 2000000) : Calls Tryz.prog 77 #[sV l, .int .i64 (m : Int)] w fun e w' => e = .returned (.bool (printN m l)) ∧ w' = w := by
 obtain ⟨s, hs⟩ : ∃ s : ByteArray, (⟨l.toArray⟩ : ByteArray) = s := ⟨_, rfl⟩
 have hsl : s.data.toList = l := by rw [← hs]
 have hsz := size_ofL' hsl
 show Calls Tryz.prog 77 #[.string ⟨l.toArray⟩, .int .i64 (m : Int)] w _
 rw [hs]
 clear hs
 obtain ⟨n, hn⟩ : ∃ n, l.length = n := ⟨_, rfl⟩
 have HN : Hid (l.length = n) := hn
 have HS : Hid (s.data.toList = l) := hsl
 rw [hn] at hl hsz
 clear hn hsl
 go_enter Tryz.func77, Tryz.ntmps77
 go_wp2_with fail
 go_loop [5] (fun i => ∃ k : Nat, k ≤ n ∧ i = .int .i64 k ∧ Hid ((l.take k).all shownC = true)) (fun i => n - (intOf i).toNat)
 case atStart => exact ⟨0, by omega, rfl, by show _ = _; simp⟩
 case round =>
  obtain ⟨k, hk, rfl, HA⟩ := hrel
  by_cases hlt : k < n
  ·
   have hks : k < s.size := by omega
   have hb0 := byte_atA HS.out hks
   have htk := take_at (l := l) (i := k) (by rw [HN.out]; exact hlt)
   obtain ⟨c, hcc⟩ : ∃ c, l.getD k 0 = c := ⟨_, rfl⟩
   rw [hcc] at hb0 htk
   have hb : ((s[k]'hks).toNat : Int) = (c.toNat : Int) := by rw [hb0]
   have i2 : (k : Int) < (n : Int) := by omega
   by_cases hc : shownC c = true
   ·
    have hc' : 32 ≤ c.toNat ∧ c.toNat ≤ 126 := by simpa [shownC] using hc
    have HA2 : Hid ((l.take (k + 1)).all shownC = true) := by
     show _ = _
     rw [htk, List.all_append, HA.out, List.all_cons, hc]
     rfl
    obtain ⟨N, hN⟩ : ∃ N : Int, (c.toNat : Int) = N := ⟨_, rfl⟩
    rw [hN] at hb
    have n1 : 32 ≤ N := by omega
    have n2 : N ≤ 126 := by omega
    clear hN hc hc' hb0 htk hcc HA
    go_wp2_with fail
    go_round
    case rel => exact ⟨k + 1, by omega, by go_num, HA2⟩
    case measure => simp [intOf]; omega
   ·
    have HF : Hid (printN m l = false) := by
     show _ = _
     have hm : c ∈ l := by
      have : c ∈ l.take (k + 1) := by rw [htk]; simp
      exact List.mem_of_mem_take this
     have hf : l.all shownC = false := by
      cases hq : l.all shownC with
      | false => rfl
      | true => exact absurd ((List.all_eq_true.1 hq) c hm) hc
     unfold printN
     rw [hf]
     rfl
    have hc' : c.toNat < 32 ∨ 126 < c.toNat := by
     have : ¬ (32 ≤ c.toNat ∧ c.toNat ≤ 126) := by simpa [shownC] using hc
     omega
    obtain ⟨N, hN⟩ : ∃ N : Int, (c.toNat : Int) = N := ⟨_, rfl⟩
    rw [hN] at hb
    have n1 : N < 32 ∨ 126 < N := by omega
    clear hN hc hc' hb0 htk hcc HA
    rcases n1 with n1 | n1
    ·
     go_wp2_with fail
     go_ret
     exact ⟨ret_bool (by rw [HF.out]), rfl⟩
    ·
     have n2 : 32 ≤ N := by omega
     go_wp2_with fail
     go_ret
     exact ⟨ret_bool (by rw [HF.out]), rfl⟩
  ·
   obtain rfl : k = n := by omega
   have HT : Hid (printN m l = decide ((k : Int) ≤ (m : Int))) := by
    show _ = _
    have h1 := HA.out
    rw [List.take_of_length_le (by rw [HN.out]; omega)] at h1
    unfold printN
    rw [h1, HN.out]
    simp
   clear HA
   go_wp2_with fail
   go_ret
   exact ⟨ret_bool (by rw [HT.out]; simp), rfl⟩

/-- TRUE or FALSE. -/
def boolB (l : List UInt8) : Bool := (l == [84, 82, 85, 69]) || (l == [70, 65, 76, 83, 69])
set_option maxHeartbeats 1000000 in
theorem boolI (l : List UInt8) (w : World) : Calls Tryz.prog 65 #[sV l] w fun e w' => e = .returned (.bool (boolB l)) ∧ w' = w := by
 obtain ⟨p, hp⟩ : ∃ p, (l == [84, 82, 85, 69]) = p := ⟨_, rfl⟩
 obtain ⟨q, hq⟩ : ∃ q, (l == [70, 65, 76, 83, 69]) = q := ⟨_, rfl⟩
 have e : boolB l = (p || q) := by unfold boolB; rw [hp, hq]
 rw [e]
 clear e
 cases p <;> cases q
 all_goals
  go_enter Tryz.func65, Tryz.ntmps65
  go_wp2_with fail
  go_ret
  exact ⟨rfl, rfl⟩

/-- Whether a text stands in a list. -/
def memB (L : List (List UInt8)) (l : List UInt8) : Bool := L.any fun t => t == l
theorem memB_yes {L : List (List UInt8)} {l t : List UInt8} {k : Nat} (h : L[k]? = some t) (e : (t == l) = true) : memB L l = true := by
 unfold memB
 rw [List.any_eq_true]
 exact ⟨t, List.mem_of_getElem? h, e⟩
theorem memB_no {L : List (List UInt8)} {l : List UInt8} (h : ∀ (j : Nat) (t : List UInt8), L[j]? = some t → (t == l) = false) : memB L l = false := by
 unfold memB
 rw [List.any_eq_false]
 intro t ht
 obtain ⟨j, hj⟩ := List.getElem?_of_mem ht
 rw [h j t hj]
 decide
def errL : List (List UInt8) := [[35, 78, 85, 76, 76, 33], [35, 68, 73, 86, 47, 48, 33], [35, 86, 65, 76, 85, 69, 33], [35, 82, 69, 70, 33], [35, 78, 65, 77, 69, 63], [35, 78, 85, 77, 33], [35, 78, 47, 65], [35, 83, 80, 73, 76, 76, 33], [35, 67, 89, 67, 76, 69, 33]]
def opsL : List (List UInt8) := [[94], [42], [47], [43], [45], [38], [61], [60], [62], [60, 61], [62, 61], [60, 62]]

set_option maxRecDepth 8000 in
set_option maxHeartbeats 1000000 in
theorem inS (L : List (List UInt8)) (l : List UInt8) (g cap : Nat) (w : World) (hL : L.length ≤ 100) (V : Vec w g (L.map sV)) :
  Calls Tryz.prog 34 #[.slice (some ⟨g, 0, none⟩) L.length cap, sV l] w fun e w' => e = .returned (.bool (memB L l)) ∧ w' = w := by
 obtain ⟨n, hn⟩ : ∃ n, L.length = n := ⟨_, rfl⟩
 have HN : Hid (L.length = n) := hn
 have HV : Hid (Vec w g (L.map sV)) := V
 have HY : Hid (∀ t (k : Nat), L[k]? = some t → (t == l) = true → memB L l = true) := fun t k h e => memB_yes h e
 have HX : Hid ((∀ (j : Nat) t, L[j]? = some t → (t == l) = false) → memB L l = false) := fun h => memB_no h
 obtain ⟨R, hR⟩ : ∃ R, memB L l = R := ⟨_, rfl⟩
 rw [hR] at HY HX ⊢
 rw [hn] at hL ⊢
 clear hn V hR
 go_enter Tryz.func34, Tryz.ntmps34
 go_wp2_with fail
 go_loop [9] (fun i => ∃ k : Nat, k ≤ n ∧ i = .int .i64 k ∧ Hid (∀ (j : Nat) t, j < k → L[j]? = some t → (t == l) = false)) (fun i => n - (intOf i).toNat)
 case atStart => exact ⟨0, by omega, rfl, fun j t hj => by omega⟩
 case round =>
  obtain ⟨k, hk, rfl, HA⟩ := hrel
  by_cases hlt : k < n
  ·
   obtain ⟨t, ht⟩ : ∃ t, L[k]? = some t := ⟨_, List.getElem?_eq_getElem (by rw [HN.out]; exact hlt)⟩
   have a0 := (HV.out k (sV t) (by rw [List.getElem?_map, ht]; rfl)).1
   have i2 : (k : Int) < (n : Int) := by omega
   obtain ⟨p, hp⟩ : ∃ p, (t == l) = p := ⟨_, rfl⟩
   cases p
   ·
    have HA2 : Hid (∀ (j : Nat) t, j < k + 1 → L[j]? = some t → (t == l) = false) := fun j t' hj h => by
     rcases Nat.lt_or_ge j k with hjk | hjk
     ·
      exact HA.out j t' hjk h
     ·
      obtain rfl : j = k := by omega
      rw [ht] at h
      cases h
      exact hp
    clear HA ht
    go_wp2_with fail
    go_round
    case rel => exact ⟨k + 1, by omega, by go_num, HA2⟩
    case measure => simp [intOf]; omega
   ·
    have hr := HY.out t k ht hp
    subst hr
    clear HA ht
    go_wp2_with fail
    go_ret
    exact ⟨rfl, rfl⟩
  ·
   obtain rfl : k = n := by omega
   have hr := HX.out (fun j t h => HA.out j t (by have := (List.getElem?_eq_some_iff.1 h).1; rw [HN.out] at this; exact this) h)
   subst hr
   clear HA
   go_wp2_with fail
   go_ret
   exact ⟨rfl, rfl⟩

set_option maxRecDepth 8000 in
set_option maxHeartbeats 1000000 in
theorem errorsS (w : World) : Calls Tryz.prog 78 #[] w fun e w' => ∃ g, e = .returned (.slice (some ⟨g, 0, none⟩) 9 9) ∧ Vec w' g (errL.map sV) ∧ Ext w w' := by
 go_enter Tryz.func78, Tryz.ntmps78
 go_wp2_with fail
 go_ret
 exact ⟨_, rfl, vec_made w (errL.map sV) 9, x1 _ _⟩
set_option maxRecDepth 8000 in
set_option maxHeartbeats 1000000 in
theorem opsS (w : World) : Calls Tryz.prog 80 #[] w fun e w' => ∃ g, e = .returned (.slice (some ⟨g, 0, none⟩) 12 12) ∧ Vec w' g (opsL.map sV) ∧ Ext w w' := by
 go_enter Tryz.func80, Tryz.ntmps80
 go_wp2_with fail
 go_ret
 exact ⟨_, rfl, vec_made w (opsL.map sV) 9, x1 _ _⟩

/-- The errors as they are laid. -/
def ErrTab (w : World) : Prop := ∀ i t, errL[i]? = some t → w.cell? ⟨1, i, none⟩ = some (sV t)
theorem ErrTab.later {w w' : World} (h : ErrTab w) (e : Ext w w') : ErrTab w' := fun i t ht => cell_later e (h i t ht)
abbrev errV : Value := .agg #[sV [35, 78, 85, 76, 76, 33], sV [35, 68, 73, 86, 47, 48, 33], sV [35, 86, 65, 76, 85, 69, 33], sV [35, 82, 69, 70, 33], sV [35, 78, 65, 77, 69, 63], sV [35, 78, 85, 77, 33], sV [35, 78, 47, 65], sV [35, 83, 80, 73, 76, 76, 33], sV [35, 67, 89, 67, 76, 69, 33]]
theorem err_at0 (W : World) : (Instr.index 129 errV (.int .i64 0)).run Tryz.prog W = .ok (sV [35, 78, 85, 76, 76, 33]) W := by kernel_rfl
theorem err_at1 (W : World) : (Instr.index 129 errV (.int .i64 1)).run Tryz.prog W = .ok (sV [35, 68, 73, 86, 47, 48, 33]) W := by kernel_rfl
theorem err_at2 (W : World) : (Instr.index 129 errV (.int .i64 2)).run Tryz.prog W = .ok (sV [35, 86, 65, 76, 85, 69, 33]) W := by kernel_rfl
theorem err_at3 (W : World) : (Instr.index 129 errV (.int .i64 3)).run Tryz.prog W = .ok (sV [35, 82, 69, 70, 33]) W := by kernel_rfl
theorem err_at4 (W : World) : (Instr.index 129 errV (.int .i64 4)).run Tryz.prog W = .ok (sV [35, 78, 65, 77, 69, 63]) W := by kernel_rfl
theorem err_at5 (W : World) : (Instr.index 129 errV (.int .i64 5)).run Tryz.prog W = .ok (sV [35, 78, 85, 77, 33]) W := by kernel_rfl
theorem err_at6 (W : World) : (Instr.index 129 errV (.int .i64 6)).run Tryz.prog W = .ok (sV [35, 78, 47, 65]) W := by kernel_rfl
theorem err_at7 (W : World) : (Instr.index 129 errV (.int .i64 7)).run Tryz.prog W = .ok (sV [35, 83, 80, 73, 76, 76, 33]) W := by kernel_rfl
theorem err_at8 (W : World) : (Instr.index 129 errV (.int .i64 8)).run Tryz.prog W = .ok (sV [35, 67, 89, 67, 76, 69, 33]) W := by kernel_rfl
theorem err_at (k : Nat) (hk : k < 9) : ∃ t, errL[k]? = some t ∧ ∀ W : World, (Instr.index 129 errV (.int .i64 k)).run Tryz.prog W = .ok (sV t) W := by
 match k, hk with
 | 0, _ => exact ⟨_, rfl, err_at0⟩
 | 1, _ => exact ⟨_, rfl, err_at1⟩
 | 2, _ => exact ⟨_, rfl, err_at2⟩
 | 3, _ => exact ⟨_, rfl, err_at3⟩
 | 4, _ => exact ⟨_, rfl, err_at4⟩
 | 5, _ => exact ⟨_, rfl, err_at5⟩
 | 6, _ => exact ⟨_, rfl, err_at6⟩
 | 7, _ => exact ⟨_, rfl, err_at7⟩
 | 8, _ => exact ⟨_, rfl, err_at8⟩
set_option maxRecDepth 8000 in
set_option maxHeartbeats 1000000 in
theorem errI (l : List UInt8) (w : World) (hE : ErrTab w) : Calls Tryz.prog 66 #[sV l] w fun e w' => e = .returned (.bool (memB errL l)) ∧ w' = w := by
 have e0 := hE 0 _ rfl
 have e1 := hE 1 _ rfl
 have e2 := hE 2 _ rfl
 have e3 := hE 3 _ rfl
 have e4 := hE 4 _ rfl
 have e5 := hE 5 _ rfl
 have e6 := hE 6 _ rfl
 have e7 := hE 7 _ rfl
 have e8 := hE 8 _ rfl
 have HY : Hid (∀ t (k : Nat), errL[k]? = some t → (t == l) = true → memB errL l = true) := fun t k h e => memB_yes h e
 have HX : Hid ((∀ (j : Nat) t, errL[j]? = some t → (t == l) = false) → memB errL l = false) := fun h => memB_no h
 obtain ⟨R, hR⟩ : ∃ R, memB errL l = R := ⟨_, rfl⟩
 rw [hR] at HY HX ⊢
 clear hR hE
 go_enter Tryz.func66, Tryz.ntmps66
 go_wp2_with fail
 clear e0 e1 e2 e3 e4 e5 e6 e7 e8
 go_loop [6] (fun i => ∃ k : Nat, k ≤ 9 ∧ i = .int .i64 k ∧ Hid (∀ (j : Nat) t, j < k → errL[j]? = some t → (t == l) = false)) (fun i => 9 - (intOf i).toNat)
 case atStart => exact ⟨0, by omega, rfl, fun j t hj => by omega⟩
 case round =>
  obtain ⟨k, hk, rfl, HA⟩ := hrel
  by_cases hlt : k < 9
  ·
   obtain ⟨t, ht, hix⟩ := err_at k hlt
   have i2 : (k : Int) < 9 := by omega
   obtain ⟨p, hp⟩ : ∃ p, (t == l) = p := ⟨_, rfl⟩
   cases p
   ·
    have HA2 : Hid (∀ (j : Nat) t, j < k + 1 → errL[j]? = some t → (t == l) = false) := fun j t' hj h => by
     rcases Nat.lt_or_ge j k with hjk | hjk
     ·
      exact HA.out j t' hjk h
     ·
      obtain rfl : j = k := by omega
      rw [ht] at h
      cases h
      exact hp
    clear HA ht
    go_wp2_with fail
    go_round
    case rel => exact ⟨k + 1, by omega, by go_num, HA2⟩
    case measure => simp [intOf]; omega
   ·
    have hr := HY.out t k ht hp
    subst hr
    clear HA ht
    go_wp2_with fail
    go_ret
    exact ⟨rfl, rfl⟩
  ·
   obtain rfl : k = 9 := by omega
   have hr := HX.out (fun j t h => HA.out j t (by have := (List.getElem?_eq_some_iff.1 h).1; simpa [errL] using this) h)
   subst hr
   clear HA
   go_wp2_with fail
   go_ret
   exact ⟨rfl, rfl⟩

end Go.Proofs.YtcjjobciokfehaaGreatDoor

