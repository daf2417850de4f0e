/-
  Several texts in one: Dd1, TxI.
-/
import Derived.Test.YtfkihaihbaobeaaGreatDoorReM
import Derived.Test.YtfkihaihbaobeaaGreatDoorMg43
import Derived.Test.YtfkihaihbaobeaaGreatDoorMg28
namespace Go.Proofs.YtfkihaihbaobeaaGreatDoor

theorem dvN_app2 (a b : List UInt8) : dvN (a ++ b) = dvN a * 10 ^ b.length + dvN b := by
  unfold dvN
  rw [List.foldl_append]
  exact foldl_dv b _
theorem dec_digit (u : Nat) (h : u < 10) : isD (UInt8.ofNat (48 + u)) = true ∧ (UInt8.ofNat (48 + u)).toNat - 48 = u := by
  have hu : (UInt8.ofNat (48 + u)).toNat = 48 + u := by
    simp only [UInt8.toNat_ofNat']
    omega
  unfold isD
  rw [hu]
  exact ⟨decide_eq_true (by omega), by omega⟩
theorem dec_all (u : Nat) : (∀ c ∈ Lib.decDigits u, isD c = true) ∧ dvN (Lib.decDigits u) = u ∧ Lib.decDigits u ≠ [] := by
  induction u using Nat.strongRecOn with
  | ind u ih =>
    rw [Lib.decDigits]
    split
    · rename_i h
      have := dec_digit u h
      refine ⟨fun c hc => ?_, ?_, by simp⟩
      · rw [List.mem_singleton.1 hc]; exact this.1
      · simp only [dvN, List.foldl_cons, List.foldl_nil]; omega
    · rename_i h
      obtain ⟨i1, i2, i3⟩ := ih (u / 10) (by omega)
      have hd := dec_digit (u % 10) (by omega)
      refine ⟨fun c hc => ?_, ?_, by simp⟩
      · rcases List.mem_append.1 hc with hc | hc
        · exact i1 c hc
        · rw [List.mem_singleton.1 hc]; exact hd.1
      · rw [dvN_app2, i2]
        simp only [List.length_singleton, Nat.pow_one, dvN, List.foldl_cons, List.foldl_nil]
        omega
theorem take_all (l r : List UInt8) (h : ∀ c ∈ l, isD c = true) (hr : r = [] ∨ ∃ c t, r = c :: t ∧ isD c = false) : (l ++ r).takeWhile isD = l ∧ (l ++ r).dropWhile isD = r := by
  induction l with
  | nil =>
    rcases hr with rfl | ⟨c, t, rfl, hc⟩
    · exact ⟨rfl, rfl⟩
    · simp [hc]
  | cons a l ih =>
    have ha := h a (by simp)
    obtain ⟨i1, i2⟩ := ih (fun c hc => h c (by simp [hc]))
    simp only [List.cons_append, List.takeWhile_cons, List.dropWhile_cons, ha, if_true, i1, i2]
    exact ⟨trivial, trivial⟩
theorem zeros_D (m : Nat) : (∀ c ∈ List.replicate m (48 : UInt8), isD c = true) ∧ dvN (List.replicate m (48 : UInt8)) = 0 := by
  refine ⟨fun c hc => by rw [(List.mem_replicate.1 hc).2]; decide, ?_⟩
  induction m with
  | zero => rfl
  | succ m ih =>
    rw [List.replicate_succ', dvN_app2, ih]
    rfl
theorem dot_no : isD 46 = false := by decide
theorem e_no : isD 69 = false := by decide
/-- Digits, a point and digits, and nothing else. -/
theorem mant_point (n : Bool) (A B r : List UInt8) (x : Int) (hA : ∀ c ∈ A, isD c = true) (hB : ∀ c ∈ B, isD c = true) (a0 : A ≠ []) (b0 : B ≠ []) (hr : r = [] ∨ ∃ c t, r = c :: t ∧ isD c = false) (hx : expR r = some x) :
    mantR n (A ++ 46 :: (B ++ r)) = putR n (dvN (A ++ B)) (x - B.length) false := by
  obtain ⟨t1, t2⟩ := take_all A (46 :: (B ++ r)) hA (.inr ⟨46, _, rfl, dot_no⟩)
  obtain ⟨s1, s2⟩ := take_all B r hB hr
  have hp : Lib.hasPrefix (46 :: (B ++ r)) [46] = true := by simp [Lib.hasPrefix, List.isPrefixOf]
  have ht : Lib.trimPrefix (46 :: (B ++ r)) [46] = B ++ r := by unfold Lib.trimPrefix; rw [hp]; rfl
  unfold mantR
  rw [t1, t2, hp]
  simp only [if_true, ht, s1, s2, hx]
  rw [if_neg (by simp [a0, b0])]
/-- Digits alone, and what stands behind them. -/
theorem mant_whole (n : Bool) (A r : List UInt8) (x : Int) (hA : ∀ c ∈ A, isD c = true) (a0 : A ≠ []) (hr : r = [] ∨ ∃ t, r = 69 :: t) (hx : expR r = some x) :
    mantR n (A ++ r) = putR n (dvN A) x false := by
  obtain ⟨t1, t2⟩ := take_all A r hA (by rcases hr with h | ⟨t, h⟩; exact .inl h; exact .inr ⟨69, t, h, e_no⟩)
  have hp : Lib.hasPrefix r [46] = false := by
    rcases hr with h | ⟨t, h⟩
    · rw [h]; rfl
    · rw [h]; simp [Lib.hasPrefix, List.isPrefixOf]
  unfold mantR
  rw [t1, t2, hp]
  simp only [Bool.false_eq_true, if_false, hx]
  rw [if_neg (by simp [a0])]
theorem exp_read (neg : Bool) (u : Nat) (h : u < 10000) : expR (69 :: (if neg = true then 45 else 43) :: Lib.decDigits u) = some (if neg = true then -(u : Int) else u) := by
  obtain ⟨h1, h2, h3⟩ := dec_all u
  have hl := (dec_len_le 3 u (by omega)).2
  obtain ⟨t1, t2⟩ := take_all (Lib.decDigits u) [] h1 (.inl rfl)
  rw [List.append_nil] at t1 t2
  have ex : ∀ b, expT b (Lib.decDigits u) = some (if b = true then -(u : Int) else u) := by
    intro b
    unfold expT
    rw [t1, t2, h2, if_neg (by simp [h3]; omega)]
  cases neg
  · simp only [Bool.false_eq_true, if_false]
    have hp : Lib.hasPrefix (43 :: Lib.decDigits u) [45] = false := by simp [Lib.hasPrefix, List.isPrefixOf]
    have hq : Lib.hasPrefix (43 :: Lib.decDigits u) [43] = true := by simp [Lib.hasPrefix, List.isPrefixOf]
    have ht : Lib.trimPrefix (43 :: Lib.decDigits u) [43] = Lib.decDigits u := by unfold Lib.trimPrefix; rw [hq]; rfl
    show (if (69 : UInt8) = 69 ∨ (69 : UInt8) = 101 then _ else none) = _
    rw [if_pos (.inl rfl), hp, ht]
    simp only [Bool.false_eq_true, if_false]
    exact ex false
  · simp only [if_true]
    have hp : Lib.hasPrefix (45 :: Lib.decDigits u) [45] = true := by simp [Lib.hasPrefix, List.isPrefixOf]
    have ht : Lib.trimPrefix (45 :: Lib.decDigits u) [45] = Lib.decDigits u := by unfold Lib.trimPrefix; rw [hp]; rfl
    show (if (69 : UInt8) = 69 ∨ (69 : UInt8) = 101 then _ else none) = _
    rw [if_pos (.inl rfl), hp, ht]
    simp only [if_true]
    exact ex true
theorem size_read (n : Bool) (d : Nat) (x : Int) (g : goodB n d x = true) (d0 : d ≠ 0) : mantR n (sizeT (Lib.decDigits d) x) = ⟨true, n, d, x⟩ := by
  obtain ⟨h1, h2, h3⟩ := dec_all d
  have gb : (d : Int) < 1000000000000000 ∧ (d : Int) % 10 ≠ 0 ∧ -300 ≤ x ∧ x ≤ 300 := by
    unfold goodB at g
    rw [if_neg (by omega)] at g
    simp only [decide_eq_true_eq] at g
    omega
  have hl := dec_len_le 14 d (by have : (10 : Nat) ^ (14 + 1) = 1000000000000000 := by decide
                                 omega)
  obtain ⟨D, hD⟩ : ∃ D, Lib.decDigits d = D := ⟨_, rfl⟩
  rw [hD] at h1 h2 h3 hl ⊢
  have fin : putR n d x false = ⟨true, n, d, x⟩ := put_good n d x (by omega) (by omega) gb.2.2.1 gb.2.2.2
  unfold sizeT
  split
  · rename_i hx
    have hz := zeros_D x.toNat
    have := mant_whole n (D ++ List.replicate x.toNat 48) [] 0 (fun c hc => by rcases List.mem_append.1 hc with h | h; exact h1 c h; exact hz.1 c h) (by simp [h3]) (.inl rfl) rfl
    rw [List.append_nil] at this
    rw [this, dvN_app2, h2, hz.2, List.length_replicate, Nat.add_zero, put_scale]
    have e0 : (0 : Int) + (x.toNat : Int) = x := by omega
    rw [e0]
    exact fin
  · split
    · rename_i hx
      obtain ⟨k, hk⟩ : ∃ k, ((D.length : Int) - 1 + x + 1).toNat = k := ⟨_, rfl⟩
      rw [hk]
      have := mant_point n (D.take k) (D.drop k) [] 0 (fun c hc => h1 c (List.mem_of_mem_take hc)) (fun c hc => h1 c (List.mem_of_mem_drop hc)) (by
        intro e
        have := congrArg List.length e
        rw [List.length_take, List.length_nil] at this
        omega) (by
        intro e
        have := congrArg List.length e
        rw [List.length_drop, List.length_nil] at this
        omega) (.inl rfl) rfl
      rw [List.append_nil] at this
      rw [this, List.take_append_drop, h2, List.length_drop]
      have e0 : (0 : Int) - ((D.length - k : Nat) : Int) = x := by omega
      rw [e0]
      exact fin
    · split
      · rename_i hx
        obtain ⟨m, hm⟩ : ∃ m, (-((D.length : Int) - 1 + x) - 1).toNat = m := ⟨_, rfl⟩
        rw [hm]
        have hz := zeros_D m
        have := mant_point n [48] (List.replicate m 48 ++ D) [] 0 (fun c hc => by rw [List.mem_singleton.1 hc]; decide) (fun c hc => by rcases List.mem_append.1 hc with h | h; exact hz.1 c h; exact h1 c h) (by simp) (by simp [h3]) (.inl rfl) rfl
        rw [List.append_nil] at this
        show mantR n ([48] ++ 46 :: (List.replicate m 48 ++ D)) = _
        rw [this]
        have e1 : dvN ([48] ++ (List.replicate m 48 ++ D)) = d := by
          rw [dvN_app2, dvN_app2, hz.2, h2]
          have : dvN [48] = 0 := by decide
          rw [this]
          simp
        rw [e1, List.length_append, List.length_replicate]
        have e0 : (0 : Int) - ((m + D.length : Nat) : Int) = x := by omega
        rw [e0]
        exact fin
      · rename_i c1 c2 c3
        have hb : -1000 ≤ (D.length : Int) - 1 + x ∧ (D.length : Int) - 1 + x ≤ 1000 := by omega
        obtain ⟨r, hr, hx⟩ : ∃ r, (if (D.length : Int) - 1 + x < 0 then (69 : UInt8) :: 45 :: Lib.decDigits (-((D.length : Int) - 1 + x)).toNat else 69 :: 43 :: Lib.decDigits ((D.length : Int) - 1 + x).toNat) = 69 :: r ∧ expR (69 :: r) = some ((D.length : Int) - 1 + x) := by
          split
          · rename_i hn
            refine ⟨_, rfl, ?_⟩
            have := exp_read true (-((D.length : Int) - 1 + x)).toNat (by omega)
            simp only [if_true] at this
            rw [this]
            congr 1
            omega
          · rename_i hn
            refine ⟨_, rfl, ?_⟩
            have := exp_read false ((D.length : Int) - 1 + x).toNat (by omega)
            simp only [Bool.false_eq_true, if_false] at this
            rw [this]
            congr 1
            omega
        rw [hr]
        by_cases h4 : 1 < D.length
        · rw [if_pos h4]
          have := mant_point n (D.take 1) (D.drop 1) (69 :: r) ((D.length : Int) - 1 + x) (fun c hc => h1 c (List.mem_of_mem_take hc)) (fun c hc => h1 c (List.mem_of_mem_drop hc)) (by
            intro e
            have := congrArg List.length e
            rw [List.length_take, List.length_nil] at this
            omega) (by
            intro e
            have := congrArg List.length e
            rw [List.length_drop, List.length_nil] at this
            omega) (.inr ⟨69, r, rfl, e_no⟩) hx
          rw [List.append_assoc, List.cons_append, this, List.take_append_drop, h2, List.length_drop]
          have e0 : (D.length : Int) - 1 + x - ((D.length - 1 : Nat) : Int) = x := by omega
          rw [e0]
          exact fin
        · rw [if_neg h4, List.append_nil]
          have e1 : D.take 1 = D := List.take_of_length_le (by omega)
          rw [e1, mant_whole n D (69 :: r) _ h1 h3 (.inr ⟨r, rfl⟩) hx, h2]
          have e0 : (D.length : Int) - 1 + x = x := by omega
          rw [e0]
          exact fin
theorem size_len (D : List UInt8) (x : Int) (hl : D.length ≤ 15) (hl0 : 1 ≤ D.length) (h1 : -300 ≤ x) (h2 : x ≤ 300) : (sizeT D x).length ≤ 60 := by
  unfold sizeT
  split
  · simp; omega
  · split
    · simp; omega
    · split
      · simp; omega
      · have ha := (dec_len_le 3 (-((D.length : Int) - 1 + x)).toNat)
        have hb := (dec_len_le 3 ((D.length : Int) - 1 + x).toNat)
        simp only [List.length_append, List.length_take]
        split <;> split <;> simp <;> first | (have := (ha (by omega)).2; omega) | (have := (hb (by omega)).2; omega)
theorem size_head (D : List UInt8) (x : Int) (h1 : ∀ c ∈ D, isD c = true) (h3 : D ≠ []) : ∃ c t, sizeT D x = c :: t ∧ isD c = true := by
  obtain ⟨a, D', rfl⟩ : ∃ a D', D = a :: D' := by
    cases D with
    | nil => exact absurd rfl h3
    | cons a D' => exact ⟨a, D', rfl⟩
  have ha := h1 a (by simp)
  unfold sizeT
  split
  · exact ⟨a, _, rfl, ha⟩
  · split
    · rename_i hx
      obtain ⟨k, hk⟩ : ∃ k, (((a :: D').length : Int) - 1 + x + 1).toNat = k + 1 := ⟨(((a :: D').length : Int) - 1 + x + 1).toNat - 1, by omega⟩
      rw [hk]
      exact ⟨a, _, rfl, ha⟩
    · split
      · exact ⟨48, _, rfl, by decide⟩
      · exact ⟨a, _, rfl, ha⟩
/-- A number's text is read as what it was. -/
theorem read_text (n : Bool) (d x : Int) (g : goodB n d x = true) : readR (textT n d x) = ⟨true, n, d, x⟩ := by
  unfold textT
  rw [if_pos g]
  by_cases d0 : d = 0
  · subst d0
    unfold goodB at g
    simp at g
    obtain ⟨rfl, rfl⟩ := g
    rw [if_pos rfl]
    have := mant_whole false [48] [] 0 (fun c hc => by rw [List.mem_singleton.1 hc]; decide) (by simp) (.inl rfl) rfl
    unfold readR
    rw [if_neg (by decide)]
    have e1 : Lib.hasPrefix [48] [45] = false := by decide
    have e2 : Lib.trimPrefix [48] [45] = [48] := by decide
    rw [e1, e2]
    rw [List.append_nil] at this
    rw [this]
    have : dvN [48] = 0 := by decide
    rw [this]
    unfold putR
    rw [nd_zero, if_neg (by decide)]
    unfold fitR
    rfl
  · rw [if_neg d0]
    have gd : 0 < d ∧ d < 1000000000000000 ∧ -300 ≤ x ∧ x ≤ 300 := by
      unfold goodB at g
      rw [if_neg d0] at g
      simp only [decide_eq_true_eq] at g
      omega
    obtain ⟨u, rfl⟩ : ∃ u : Nat, d = u := ⟨d.toNat, by omega⟩
    rw [Int.toNat_natCast]
    have hs := size_read n u x g (by omega)
    obtain ⟨h1, _, h3⟩ := dec_all u
    obtain ⟨c, t, hc, hd⟩ := size_head (Lib.decDigits u) x h1 h3
    have hl := dec_len_le 14 u (by have : (10 : Nat) ^ (14 + 1) = 1000000000000000 := by decide
                                   omega)
    have hz := size_len (Lib.decDigits u) x hl.2 hl.1 gd.2.2.1 gd.2.2.2
    have c45 : c ≠ 45 := by intro e; rw [e] at hd; exact absurd hd (by decide)
    unfold readR
    cases n
    · simp only [Bool.false_eq_true, if_false, List.nil_append]
      rw [if_neg (by omega)]
      have e1 : Lib.hasPrefix (sizeT (Lib.decDigits u) x) [45] = false := by
        rw [hc]
        simp [Lib.hasPrefix, List.isPrefixOf, Ne.symm c45]
      have e2 : Lib.trimPrefix (sizeT (Lib.decDigits u) x) [45] = sizeT (Lib.decDigits u) x := by unfold Lib.trimPrefix; rw [e1]; rfl
      rw [e1, e2]
      exact hs
    · simp only [if_true]
      rw [if_neg (by simp; omega)]
      have e1 : Lib.hasPrefix ([45] ++ sizeT (Lib.decDigits u) x) [45] = true := by simp [Lib.hasPrefix, List.isPrefixOf]
      have e2 : Lib.trimPrefix ([45] ++ sizeT (Lib.decDigits u) x) [45] = sizeT (Lib.decDigits u) x := by unfold Lib.trimPrefix; rw [e1]; rfl
      rw [e1, e2]
      exact hs

end Go.Proofs.YtfkihaihbaobeaaGreatDoor

namespace Go.Proofs.YtfkihaihbaobeaaGreatDoor
open Go.RowKit

theorem size_of {s : ByteArray} {l : List UInt8} (h : s.data.toList = l) : s.size = l.length := by
  rw [← h, Array.length_toList]
  rfl

set_option maxRecDepth 8000 in
set_option maxHeartbeats 1000000 in
theorem pointed_any (RP : RepC) (s : ByteArray) (D : List UInt8) (m : Int) (w : World) (hs : s.data.toList = D) (l1 : D.length ≤ 15) (m0 : -300 ≤ m) (m1 : m ≤ D.length) :
    Calls Tryz.prog 62 #[.string s, .int .i64 m] w fun e w' => ∃ t, e = .returned (.string t) ∧ t.data.toList = (if m ≤ 0 then 48 :: 46 :: (List.replicate (-m).toNat 48 ++ D) else D.take m.toNat ++ 46 :: D.drop m.toNat) ∧ Ext w w' := by
  have hsz := size_of hs
  obtain ⟨L, hL⟩ : ∃ L, D.length = L := ⟨_, rfl⟩
  have HL : Hid (D.length = L) := hL
  have HS : Hid (s.data.toList = D) := hs
  rw [hL] at hsz l1 m1
  clear hL hs
  by_cases hm : m ≤ 0
  · rw [if_pos hm]
    have R : Hid (∀ w : World, Calls Tryz.prog 61 #[.string ⟨#[48]⟩, .int .i64 (-m)] w fun e w' => ∃ s, e = .returned (.string s) ∧ s.data.toList = List.replicate (-m).toNat 48 ∧ Ext w w') := fun w => RP (-m) w (by omega) (by omega)
    go_enter Tryz.func62, Tryz.ntmps62
    go_wp2_with fail
    refine (R.out _).mono ?_
    rintro e w1 ⟨t, rfl, ht, e1⟩
    have htz := size_of ht
    rw [List.length_replicate] at htz
    have HT : Hid (t.data.toList = List.replicate (-m).toNat 48) := ht
    clear ht R
    go_wp2_with fail
    go_ret
    exact ⟨_, rfl, by simp [HS.out, HT.out], e1⟩
  · rw [if_neg hm]
    obtain ⟨k, rfl⟩ := Int.eq_ofNat_of_zero_le (show 0 ≤ m by omega)
    have hk0 : (0 : Int) ≤ (k : Int) := by omega
    have hks : (k : Int) ≤ (L : Int) := by omega
    have hkn : k ≤ L := by omega
    have A1 : ∀ w' : World, (Op.stringOp .add (s.extract 0 k) ⟨#[46]⟩).run Tryz.prog w' = .ok (.string (s.extract 0 k ++ ⟨#[46]⟩)) w' := fun w' => run_string_add_sum w' _ _ (by rw [ByteArray.size_extract, hsz]; show min k L - 0 + 1 ≤ _; omega)
    have A2 : ∀ w' : World, (Op.stringOp .add (s.extract 0 k ++ ⟨#[46]⟩) (s.extract k L)).run Tryz.prog w' = .ok (.string (s.extract 0 k ++ ⟨#[46]⟩ ++ s.extract k L)) w' := fun w' => run_string_add_sum w' _ _ (by rw [ByteArray.size_append, ByteArray.size_extract, ByteArray.size_extract, hsz]; show min k L - 0 + 1 + (min L L - k) ≤ _; omega)
    have HE : Hid ((s.extract 0 k ++ (⟨#[46]⟩ : ByteArray) ++ s.extract k L).data.toList = D.take (k : Int).toNat ++ 46 :: D.drop (k : Int).toNat) := by
      have e5 : List.take (L - k) (List.drop k D) = List.drop k D := List.take_of_length_le (by simp [HL.out])
      simp [HS.out, e5, Hid]
    clear m0 m1
    go_enter Tryz.func62, Tryz.ntmps62
    go_wp2_with fail
    go_region_held3 (fun _ => True) (trivial) (fail)
    go_wp2_with fail
    go_ret
    exact ⟨_, rfl, HE.out, xd (xr _)⟩

/-- What poweredText adds behind the digits. -/
def powT (f : Int) : List UInt8 := if f < 0 then 69 :: 45 :: Lib.decDigits (-f).toNat else 69 :: 43 :: Lib.decDigits f.toNat
theorem itoa_len {n : Int} (h1 : -1000000000000000 < n) (h2 : n < 1000000000000000) : (Lib.itoa n).length ≤ 16 := by
  unfold Lib.itoa
  have e : (10 : Nat) ^ (14 + 1) = 1000000000000000 := by decide
  split
  · have := (dec_len_le 14 n.natAbs (by omega)).2
    simp
    omega
  · have := (dec_len_le 14 n.toNat (by omega)).2
    omega

set_option maxRecDepth 8000 in
set_option maxHeartbeats 1000000 in
theorem powered_any (s : ByteArray) (D : List UInt8) (f : Int) (w0 w : World) (IT : ItoaC w0) (X0 : Ext w0 w) (hs : s.data.toList = D) (l0 : 1 ≤ D.length) (l1 : D.length ≤ 15) (f0 : -1000 ≤ f) (f1 : f ≤ 1000) :
    Calls Tryz.prog 63 #[.string s, .int .i64 f] w fun e w' => ∃ t, e = .returned (.string t) ∧ t.data.toList = D.take 1 ++ (if 1 < D.length then 46 :: D.drop 1 else []) ++ powT f ∧ Ext w w' := by
  have hsz := size_of hs
  obtain ⟨L, hL⟩ : ∃ L, D.length = L := ⟨_, rfl⟩
  have HL : Hid (D.length = L) := hL
  have HS : Hid (s.data.toList = D) := hs
  rw [hL] at hsz l1 l0
  have I : Hid (Calls Tryz.prog 26 #[.int .i64 f] w fun e w' => ∃ s, e = .returned (.string s) ∧ s.data.toList = Lib.itoa f ∧ Ext w w') := IT f w (by omega) (by omega) X0
  have IL : Hid ((Lib.itoa f).length ≤ 16) := itoa_len (by omega) (by omega)
  rw [hL]
  clear hL hs IT X0
  have hs1 : (1 : Int) ≤ (L : Int) := by omega
  by_cases h1 : 1 < L
  · have h1' : (1 : Int) < (L : Int) := by omega
    have HE : Hid ((s.extract 0 1 ++ ((⟨#[46]⟩ : ByteArray) ++ s.extract 1 L)).data.toList = D.take 1 ++ 46 :: D.drop 1) := by
      have e5 : List.take (L - 1) D.tail = D.tail := List.take_of_length_le (by simp [HL.out])
      simp [HS.out, e5, Hid]
    have esz : (s.extract 0 1 ++ ((⟨#[46]⟩ : ByteArray) ++ s.extract 1 L)).size ≤ 100 := by
      rw [ByteArray.size_append, ByteArray.size_append, ByteArray.size_extract, ByteArray.size_extract, hsz]
      show min 1 L - 0 + (1 + (min L L - 1)) ≤ _
      omega
    rw [if_pos h1]
    by_cases hf : 0 ≤ f
    · have HP : Hid (powT f = 69 :: 43 :: Lib.itoa f) := by unfold powT Lib.itoa; rw [if_neg (by omega), if_neg (by omega)]; rfl
      go_enter Tryz.func63, Tryz.ntmps63
      go_wp2_with fail
      refine (I.out).mono ?_
      rintro e w1 ⟨t, rfl, ht, e1⟩
      have htl : t.size ≤ 16 := by rw [size_of ht]; exact IL.out
      have HT : Hid (t.data.toList = Lib.itoa f) := ht
      obtain ⟨o, ho⟩ : ∃ o, s.extract 0 1 ++ ((⟨#[46]⟩ : ByteArray) ++ s.extract 1 L) = o := ⟨_, rfl⟩
      rw [ho] at HE esz
      rw [ho]
      clear ht I IL ho
      go_wp2_with fail
      go_ret
      exact ⟨_, rfl, by rw [HP.out]; simp [HE.out, HT.out], e1⟩
    · have HP : Hid (powT f = 69 :: Lib.itoa f) := by unfold powT Lib.itoa; rw [if_pos (by omega), if_pos (by omega)]; show _ = _; congr 4; omega
      go_enter Tryz.func63, Tryz.ntmps63
      go_wp2_with fail
      refine (I.out).mono ?_
      rintro e w1 ⟨t, rfl, ht, e1⟩
      have htl : t.size ≤ 16 := by rw [size_of ht]; exact IL.out
      have HT : Hid (t.data.toList = Lib.itoa f) := ht
      obtain ⟨o, ho⟩ : ∃ o, s.extract 0 1 ++ ((⟨#[46]⟩ : ByteArray) ++ s.extract 1 L) = o := ⟨_, rfl⟩
      rw [ho] at HE esz
      rw [ho]
      clear ht I IL ho
      go_wp2_with fail
      go_ret
      exact ⟨_, rfl, by rw [HP.out]; simp [HE.out, HT.out], e1⟩
  · have h1' : ¬ (1 : Int) < (L : Int) := by omega
    have HE : Hid ((s.extract 0 1).data.toList = D.take 1) := by simp [HS.out, Hid]
    have esz : (s.extract 0 1).size ≤ 100 := by
      rw [ByteArray.size_extract, hsz]
      omega
    rw [if_neg h1]
    by_cases hf : 0 ≤ f
    · have HP : Hid (powT f = 69 :: 43 :: Lib.itoa f) := by unfold powT Lib.itoa; rw [if_neg (by omega), if_neg (by omega)]; rfl
      go_enter Tryz.func63, Tryz.ntmps63
      go_wp2_with fail
      refine (I.out).mono ?_
      rintro e w1 ⟨t, rfl, ht, e1⟩
      have htl : t.size ≤ 16 := by rw [size_of ht]; exact IL.out
      have HT : Hid (t.data.toList = Lib.itoa f) := ht
      obtain ⟨o, ho⟩ : ∃ o, s.extract 0 1 = o := ⟨_, rfl⟩
      rw [ho] at HE esz
      rw [ho]
      clear ht I IL ho
      go_wp2_with fail
      go_ret
      exact ⟨_, rfl, by rw [HP.out]; simp [HE.out, HT.out], e1⟩
    · have HP : Hid (powT f = 69 :: Lib.itoa f) := by unfold powT Lib.itoa; rw [if_pos (by omega), if_pos (by omega)]; show _ = _; congr 4; omega
      go_enter Tryz.func63, Tryz.ntmps63
      go_wp2_with fail
      refine (I.out).mono ?_
      rintro e w1 ⟨t, rfl, ht, e1⟩
      have htl : t.size ≤ 16 := by rw [size_of ht]; exact IL.out
      have HT : Hid (t.data.toList = Lib.itoa f) := ht
      obtain ⟨o, ho⟩ : ∃ o, s.extract 0 1 = o := ⟨_, rfl⟩
      rw [ho] at HE esz
      rw [ho]
      clear ht I IL ho
      go_wp2_with fail
      go_ret
      exact ⟨_, rfl, by rw [HP.out]; simp [HE.out, HT.out], e1⟩

end Go.Proofs.YtfkihaihbaobeaaGreatDoor

