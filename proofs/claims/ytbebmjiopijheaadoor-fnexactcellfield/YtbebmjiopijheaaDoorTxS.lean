/-
  The specification's DecText.
-/
import Derived.Test.YtbebmjiopijheaaDoorNumT
import Derived.Test.YtbebmjiopijheaaDoorNought
import Derived.Test.YtbebmjiopijheaaDoorTxNum
import Derived.Test.YtbebmjiopijheaaDoorIntNum
import Derived.Deep.RegionHeld3
namespace Go.Proofs.YtbebmjiopijheaaDoor
open Go.RowKit

/-- What DecText shows, the sign apart: D the digits, x the exponent. -/
def sizeT (D : List UInt8) (x : Int) : List UInt8 :=
  if 0 ≤ x ∧ (D.length : Int) - 1 + x < 15 then D ++ List.replicate x.toNat 48
  else if x < 0 ∧ 0 ≤ (D.length : Int) - 1 + x then D.take ((D.length : Int) - 1 + x + 1).toNat ++ 46 :: D.drop ((D.length : Int) - 1 + x + 1).toNat
  else if x < 0 ∧ -5 ≤ (D.length : Int) - 1 + x then 48 :: 46 :: (List.replicate (-((D.length : Int) - 1 + x) - 1).toNat 48 ++ D)
  else D.take 1 ++ (if 1 < D.length then 46 :: D.drop 1 else []) ++
    (if (D.length : Int) - 1 + x < 0 then 69 :: 45 :: Lib.decDigits (-((D.length : Int) - 1 + x)).toNat else 69 :: 43 :: Lib.decDigits ((D.length : Int) - 1 + x).toNat)
def textT (n : Bool) (d x : Int) : List UInt8 :=
  if goodB n d x then (if d = 0 then [48] else (if n then [45] else []) ++ sizeT (Lib.decDigits d.toNat) x) else []

theorem good_exp {n : Bool} {d e : Int} (h : goodB n d e = true) : -300 ≤ e ∧ e ≤ 300 := by
  unfold goodB at h
  split at h
  · simp at h; omega
  · simp at h; omega
theorem dec_len_le : ∀ (k u : Nat), u < 10 ^ (k + 1) → 1 ≤ (Lib.decDigits u).length ∧ (Lib.decDigits u).length ≤ k + 1
  | 0, u, h => by rw [Lib.decDigits, dif_pos (by simpa using h)]; simp
  | k + 1, u, h => by
    rw [Lib.decDigits]
    split
    · simp
    · have := dec_len_le k (u / 10) (by rw [Nat.pow_succ] at h; omega)
      simp
      omega
theorem dec_len {d : Int} (h0 : 0 < d) (h1 : d < 1000000000000000) : 1 ≤ (Lib.decDigits d.toNat).length ∧ (Lib.decDigits d.toNat).length ≤ 15 :=
  dec_len_le 14 d.toNat (by
    have : (10 : Nat) ^ (14 + 1) = 1000000000000000 := by decide
    omega)

theorem nought_int (n : Int) (w : World) (h0 : 0 ≤ n) (hn : n ≤ 1000000) :
    Calls Tryd.prog 52 #[.int .i64 n] w fun e w' => e = .returned (.string ⟨(List.replicate n.toNat (48 : UInt8)).toArray⟩) ∧ Ext w w' := by
  obtain ⟨m, rfl⟩ := Int.eq_ofNat_of_zero_le h0
  exact nought_any m w (by omega)
theorem num_dec (n : Int) (w : World) (n0 : 0 ≤ n) (n1 : n < 1000000000000000) :
    Calls Tryd.prog 51 #[.int .i64 n] w fun e w' => e = .returned (.string ⟨(Lib.decDigits n.toNat).toArray⟩) ∧ Ext w w' := by
  refine (num_any n w n0 n1).mono ?_
  rintro e w1 ⟨l, rfl, ht, e1⟩
  rw [ht.dec n0]
  exact ⟨rfl, e1⟩

set_option maxRecDepth 8000 in
set_option maxHeartbeats 1000000 in
theorem textS (n : Bool) (d x : Int) (w : World) :
    Calls Tryd.prog 46 #[.agg #[.bool n, .int .i64 d, .int .i64 x]] w fun e w' => ∃ s, e = .returned (.string s) ∧ s.data.toList = textT n d x ∧ Ext w w' := by
  go_enter Tryd.func46, Tryd.ntmps46
  go_wp2_with fail
  refine (goodS n d x _).mono ?_
  rintro r w1 ⟨rfl, e1⟩
  have B := (Box3.made w (.bool n) (.int .i64 d) (.int .i64 x) 28).later e1
  have X1 := xt (x1 _ _) e1
  clear e1
  have B' := B
  obtain ⟨⟨p0, p1, p2⟩, _⟩ := B'
  cases hg : goodB n d x
  · have HT : Hid (textT n d x = []) := by simp [textT, hg, Hid]
    clear hg
    go_wp2_with fail
    go_ret
    exact ⟨_, rfl, by rw [HT.out], X1⟩
  · by_cases hd : d = 0
    · subst hd
      have HT : Hid (textT n 0 x = [48]) := by simp [textT, hg, Hid]
      clear hg
      go_wp2_with fail
      go_ret
      exact ⟨_, rfl, by rw [HT.out], X1⟩
    · obtain ⟨D, eD⟩ : ∃ D, Lib.decDigits d.toNat = D := ⟨_, rfl⟩
      have HT : Hid (textT n d x = (if n then [45] else []) ++ sizeT D x) := by simp [textT, hg, hd, Hid, eD]
      obtain ⟨g0, g1, _⟩ := good_range hg
      have gx : -300 ≤ x ∧ x ≤ 300 := good_exp hg
      obtain ⟨gx0, gx1⟩ := gx
      have hl := dec_len (d := d) (by omega) g1
      rw [eD] at hl
      obtain ⟨l0, l1⟩ := hl
      have ND : Hid (∀ w2 : World, Calls Tryd.prog 51 #[.int .i64 d] w2 fun e w' => e = .returned (.string ⟨D.toArray⟩) ∧ Ext w2 w') := fun w2 => by
        have := num_dec d w2 g0 g1
        rwa [eD] at this
      have hd' : (d == 0) = false := by rw [beq_eq_false_iff_ne]; exact hd
      clear hg hd g0 g1 eD
      go_wp2_with fail
      refine (ND.out _).mono ?_
      rintro r w2 ⟨rfl, e2⟩
      obtain ⟨s, hs⟩ : ∃ s : ByteArray, s = ⟨D.toArray⟩ := ⟨_, rfl⟩
      have hsz : s.size = D.length := by rw [hs]; simp [ByteArray.size]
      have HS : Hid (s.data.toList = D) := by rw [hs]; simp [Hid]
      rw [← hs]
      have B2 := B.later e2
      have X2 := xt X1 e2
      obtain ⟨L, hL⟩ : ∃ L, D.length = L := ⟨_, rfl⟩
      rw [hL] at hsz l0 l1
      have HL : Hid (D.length = L) := hL
      clear hs e2 B X1 ND p0 p1 p2 hd' hL
      have B3 := B2
      obtain ⟨⟨p0, p1, p2⟩, _⟩ := B3
      have l0' : (1 : Int) ≤ (L : Int) := by omega
      have l1' : (L : Int) ≤ 15 := by omega
      by_cases ca : 0 ≤ x ∧ (L : Int) - 1 + x < 15
      · obtain ⟨c1, c2⟩ := ca
        have HZ : Hid (sizeT D x = D ++ List.replicate x.toNat 48) := by unfold sizeT; rw [HL.out, if_pos ⟨c1, c2⟩]; rfl
        have NO : Hid (∀ w2 : World, Calls Tryd.prog 52 #[.int .i64 x] w2 fun e w' => e = .returned (.string ⟨(List.replicate x.toNat (48 : UInt8)).toArray⟩) ∧ Ext w2 w') := fun w2 => nought_int x w2 c1 (by omega)
        go_wp2_with fail
        refine (NO.out _).mono ?_
        rintro r w3 ⟨rfl, e3⟩
        have X3 := xt X2 e3
        obtain ⟨t, ht⟩ : ∃ t : ByteArray, t = ⟨(List.replicate x.toNat (48 : UInt8)).toArray⟩ := ⟨_, rfl⟩
        have htz : t.size = x.toNat := by rw [ht]; simp [ByteArray.size]
        have HTT : Hid (t.data.toList = List.replicate x.toNat 48) := by rw [ht]; simp [Hid]
        rw [← ht]
        obtain ⟨⟨q0, q1, q2⟩, _⟩ := B2.later e3
        clear ht NO p0 p1 p2 B2 e3 X2
        cases n
        · go_wp2_with fail
          go_ret
          exact ⟨_, rfl, by rw [HT.out, HZ.out]; simp [HS.out, HTT.out], X3⟩
        · go_wp2_with fail
          go_ret
          exact ⟨_, rfl, by rw [HT.out, HZ.out]; simp [HS.out, HTT.out], X3⟩
      · have HA : Hid (¬ (0 ≤ x ∧ (L : Int) - 1 + x < 15)) := ca
        by_cases cb : x < 0 ∧ 0 ≤ (L : Int) - 1 + x
        · obtain ⟨c1, c2⟩ := cb
          obtain ⟨k, hk⟩ : ∃ k : Nat, (L : Int) - 1 + x + 1 = (k : Int) := ⟨((L : Int) - 1 + x + 1).toNat, by omega⟩
          have HZ : Hid (sizeT D x = D.take k ++ 46 :: D.drop k) := by unfold sizeT; rw [HL.out, if_neg (by omega), if_pos ⟨c1, c2⟩, hk]; rfl
          have k1 : k ≤ L := by omega
          have hk' : (L : Int) - 1 + x = (k : Int) - 1 := by omega
          clear ca HA
          have hw : IntKind.i64.wrap ((k : Int) - 1 + 1) = (k : Int) := by rw [IntKind.wrap_i64]; omega
          have hk0 : (0 : Int) ≤ (k : Int) := by omega
          have hks : (k : Int) ≤ (L : Int) := by omega
          have hwk : IntKind.i64.wrap (k : Int) = (k : Int) := by rw [IntKind.wrap_i64]; omega
          have hwk' : wrap64 (k : Int) = (k : Int) := by unfold wrap64; omega
          have A1 : ∀ w' : World, (Op.stringOp .add (s.extract 0 k) ⟨#[46]⟩).run Tryd.prog w' = .ok (.string (s.extract 0 k ++ ⟨#[46]⟩)) w' := fun w' => run_string_add_sum w' _ _ (by rw [ByteArray.size_extract, hsz]; show min k L - 0 + 1 ≤ _; omega)
          have A2 : ∀ w' : World, (Op.stringOp .add (s.extract 0 k ++ ⟨#[46]⟩) (s.extract k L)).run Tryd.prog w' = .ok (.string (s.extract 0 k ++ ⟨#[46]⟩ ++ s.extract k L)) w' := fun w' => run_string_add_sum w' _ _ (by rw [ByteArray.size_append, ByteArray.size_extract, ByteArray.size_extract, hsz]; show min k L - 0 + 1 + (min L L - k) ≤ _; omega)
          go_wp2_with fail
          go_region_held3 (fun _ => True) (trivial) (fail)
          have HE : Hid (∀ p : List UInt8, p ++ (s.extract 0 k ++ (⟨#[46]⟩ : ByteArray) ++ s.extract k L).data.toList = p ++ sizeT D x) := fun p => by
            rw [HZ.out]
            have e5 : List.take (L - k) (List.drop k D) = List.drop k D := List.take_of_length_le (by simp [HL.out])
            simp [HS.out, e5]
          have esz : (s.extract 0 k ++ (⟨#[46]⟩ : ByteArray) ++ s.extract k L).size ≤ 100 := by
            rw [ByteArray.size_append, ByteArray.size_append, ByteArray.size_extract, ByteArray.size_extract, hsz]
            show min k L - 0 + 1 + (min L L - k) ≤ _
            omega
          obtain ⟨o, ho⟩ : ∃ o, s.extract 0 k ++ (⟨#[46]⟩ : ByteArray) ++ s.extract k L = o := ⟨_, rfl⟩
          rw [ho] at HE esz
          rw [ho]
          clear ho A1 A2
          cases n
          · go_wp2_with fail
            go_ret
            exact ⟨_, rfl, by rw [HT.out]; simpa using HE.out [], xd X2⟩
          · go_wp2_with fail
            go_ret
            exact ⟨_, rfl, by rw [HT.out]; simpa using HE.out [45], xd X2⟩
        · by_cases cc : x < 0 ∧ -5 ≤ (L : Int) - 1 + x
          · obtain ⟨c1, c2⟩ := cc
            have c3 : (L : Int) - 1 + x < 0 := by omega
            have HZ : Hid (sizeT D x = 48 :: 46 :: (List.replicate (-((L : Int) - 1 + x) - 1).toNat 48 ++ D)) := by unfold sizeT; rw [HL.out, if_neg (by omega), if_neg (by omega), if_pos ⟨c1, c2⟩]; rfl
            have NO : Hid (∀ w2 : World, Calls Tryd.prog 52 #[.int .i64 (-((L : Int) - 1 + x) - 1)] w2 fun e w' => e = .returned (.string ⟨(List.replicate (-((L : Int) - 1 + x) - 1).toNat (48 : UInt8)).toArray⟩) ∧ Ext w2 w') := fun w2 => nought_int _ w2 (by omega) (by omega)
            clear ca HA cb
            go_wp2_with fail
            refine (NO.out _).mono ?_
            rintro r w3 ⟨rfl, e3⟩
            have X3 := xt X2 e3
            obtain ⟨t, ht⟩ : ∃ t : ByteArray, t = ⟨(List.replicate (-((L : Int) - 1 + x) - 1).toNat (48 : UInt8)).toArray⟩ := ⟨_, rfl⟩
            have htz : t.size ≤ 1000 := by rw [ht]; simp [ByteArray.size]; omega
            have HTT : Hid (t.data.toList = List.replicate (-((L : Int) - 1 + x) - 1).toNat 48) := by rw [ht]; simp [Hid]
            rw [← ht]
            obtain ⟨⟨q0, q1, q2⟩, _⟩ := B2.later e3
            clear ht NO p0 p1 p2 B2 e3 X2
            cases n
            · go_wp2_with fail
              go_ret
              exact ⟨_, rfl, by rw [HT.out, HZ.out]; simp [HS.out, HTT.out], X3⟩
            · go_wp2_with fail
              go_ret
              exact ⟨_, rfl, by rw [HT.out, HZ.out]; simp [HS.out, HTT.out], X3⟩
          · have HZ : Hid (sizeT D x = D.take 1 ++ (if 1 < L then 46 :: D.drop 1 else []) ++ (if (L : Int) - 1 + x < 0 then 69 :: 45 :: Lib.decDigits (-((L : Int) - 1 + x)).toNat else 69 :: 43 :: Lib.decDigits ((L : Int) - 1 + x).toNat)) := by
              unfold sizeT; rw [HL.out, if_neg (by omega), if_neg (by omega), if_neg (by omega)]; rfl
            have hs1 : (1 : Int) ≤ (s.size : Int) := by omega
            by_cases hx : x < 0
            · have ct : (L : Int) - 1 + x < -5 := by omega
              have ct2 : ¬ (-5 ≤ (L : Int) - 1 + x) := by omega
              have ct3 : ¬ (0 ≤ (L : Int) - 1 + x) := by omega
              have NU : Hid (∀ w2 : World, Calls Tryd.prog 51 #[.int .i64 (-((L : Int) - 1 + x))] w2 fun e w' => e = .returned (.string ⟨(Lib.decDigits (-((L : Int) - 1 + x)).toNat).toArray⟩) ∧ Ext w2 w') := fun w2 => num_dec _ w2 (by omega) (by omega)
              clear ca HA cb cc
              by_cases hL1 : 1 < L
              · have hL1' : (1 : Int) < (L : Int) := by omega
                go_wp2_with fail
                refine (NU.out _).mono ?_
                rintro r w3 ⟨rfl, e3⟩
                have X3 := xt X2 e3
                obtain ⟨t, ht⟩ : ∃ t : ByteArray, t = ⟨(Lib.decDigits (-((L : Int) - 1 + x)).toNat).toArray⟩ := ⟨_, rfl⟩
                have htz : t.size ≤ 15 := by rw [ht]; simp only [ByteArray.size, List.size_toArray]; exact (dec_len (by omega) (by omega)).2
                have HTT : Hid (t.data.toList = Lib.decDigits (-((L : Int) - 1 + x)).toNat) := by rw [ht]; simp [Hid]
                rw [← ht]
                obtain ⟨⟨q0, q1, q2⟩, _⟩ := B2.later e3
                have HE : Hid (∀ p : List UInt8, p ++ ((s.extract 0 1 ++ ((⟨#[46]⟩ : ByteArray) ++ s.extract 1 L)).data.toList ++ ((⟨#[69, 45]⟩ : ByteArray) ++ t).data.toList) = p ++ sizeT D x) := fun p => by
                  rw [HZ.out, if_pos hL1, if_pos (by omega)]
                  have e5 : List.take (L - 1) D.tail = D.tail := List.take_of_length_le (by simp [HL.out])
                  simp [HS.out, HTT.out, e5]
                have esz : (s.extract 0 1 ++ ((⟨#[46]⟩ : ByteArray) ++ s.extract 1 L)).size ≤ 100 := by
                  rw [ByteArray.size_append, ByteArray.size_append, ByteArray.size_extract, ByteArray.size_extract, hsz]
                  show min 1 L - 0 + (1 + (min L L - 1)) ≤ _
                  omega
                obtain ⟨o, ho⟩ : ∃ o, s.extract 0 1 ++ ((⟨#[46]⟩ : ByteArray) ++ s.extract 1 L) = o := ⟨_, rfl⟩
                rw [ho] at HE esz
                rw [ho]
                clear ht NU p0 p1 p2 B2 e3 X2 ho
                cases n
                · go_wp2_with fail
                  go_ret
                  exact ⟨_, rfl, by rw [HT.out]; simpa using HE.out [], X3⟩
                · go_wp2_with fail
                  go_ret
                  exact ⟨_, rfl, by rw [HT.out]; simpa using HE.out [45], X3⟩
              · have hL1' : ¬ (1 : Int) < (L : Int) := by omega
                go_wp2_with fail
                refine (NU.out _).mono ?_
                rintro r w3 ⟨rfl, e3⟩
                have X3 := xt X2 e3
                obtain ⟨t, ht⟩ : ∃ t : ByteArray, t = ⟨(Lib.decDigits (-((L : Int) - 1 + x)).toNat).toArray⟩ := ⟨_, rfl⟩
                have htz : t.size ≤ 15 := by rw [ht]; simp only [ByteArray.size, List.size_toArray]; exact (dec_len (by omega) (by omega)).2
                have HTT : Hid (t.data.toList = Lib.decDigits (-((L : Int) - 1 + x)).toNat) := by rw [ht]; simp [Hid]
                rw [← ht]
                obtain ⟨⟨q0, q1, q2⟩, _⟩ := B2.later e3
                have HE : Hid (∀ p : List UInt8, p ++ ((s.extract 0 1).data.toList ++ ((⟨#[69, 45]⟩ : ByteArray) ++ t).data.toList) = p ++ sizeT D x) := fun p => by
                  rw [HZ.out, if_neg hL1, if_pos (by omega)]
                  simp [HS.out, HTT.out]
                have esz : (s.extract 0 1).size ≤ 100 := by
                  rw [ByteArray.size_extract, hsz]
                  omega
                obtain ⟨o, ho⟩ : ∃ o, s.extract 0 1 = o := ⟨_, rfl⟩
                rw [ho] at HE esz
                rw [ho]
                clear ht NU p0 p1 p2 B2 e3 X2 ho
                cases n
                · go_wp2_with fail
                  go_ret
                  exact ⟨_, rfl, by rw [HT.out]; simpa using HE.out [], X3⟩
                · go_wp2_with fail
                  go_ret
                  exact ⟨_, rfl, by rw [HT.out]; simpa using HE.out [45], X3⟩
            · have ct : 15 ≤ (L : Int) - 1 + x := by omega
              have ct2 : ¬ ((L : Int) - 1 + x < 15) := by omega
              have ct3 : ¬ ((L : Int) - 1 + x < 0) := by omega
              have NU : Hid (∀ w2 : World, Calls Tryd.prog 51 #[.int .i64 ((L : Int) - 1 + x)] w2 fun e w' => e = .returned (.string ⟨(Lib.decDigits ((L : Int) - 1 + x).toNat).toArray⟩) ∧ Ext w2 w') := fun w2 => num_dec _ w2 (by omega) (by omega)
              clear ca HA cb cc
              by_cases hL1 : 1 < L
              · have hL1' : (1 : Int) < (L : Int) := by omega
                go_wp2_with fail
                refine (NU.out _).mono ?_
                rintro r w3 ⟨rfl, e3⟩
                have X3 := xt X2 e3
                obtain ⟨t, ht⟩ : ∃ t : ByteArray, t = ⟨(Lib.decDigits ((L : Int) - 1 + x).toNat).toArray⟩ := ⟨_, rfl⟩
                have htz : t.size ≤ 15 := by rw [ht]; simp only [ByteArray.size, List.size_toArray]; exact (dec_len (by omega) (by omega)).2
                have HTT : Hid (t.data.toList = Lib.decDigits ((L : Int) - 1 + x).toNat) := by rw [ht]; simp [Hid]
                rw [← ht]
                obtain ⟨⟨q0, q1, q2⟩, _⟩ := B2.later e3
                have HE : Hid (∀ p : List UInt8, p ++ ((s.extract 0 1 ++ ((⟨#[46]⟩ : ByteArray) ++ s.extract 1 L)).data.toList ++ ((⟨#[69, 43]⟩ : ByteArray) ++ t).data.toList) = p ++ sizeT D x) := fun p => by
                  rw [HZ.out, if_pos hL1, if_neg (show ¬ ((L : Int) - 1 + x < 0) by omega)]
                  have e5 : List.take (L - 1) D.tail = D.tail := List.take_of_length_le (by simp [HL.out])
                  simp [HS.out, HTT.out, e5]
                have esz : (s.extract 0 1 ++ ((⟨#[46]⟩ : ByteArray) ++ s.extract 1 L)).size ≤ 100 := by
                  rw [ByteArray.size_append, ByteArray.size_append, ByteArray.size_extract, ByteArray.size_extract, hsz]
                  show min 1 L - 0 + (1 + (min L L - 1)) ≤ _
                  omega
                obtain ⟨o, ho⟩ : ∃ o, s.extract 0 1 ++ ((⟨#[46]⟩ : ByteArray) ++ s.extract 1 L) = o := ⟨_, rfl⟩
                rw [ho] at HE esz
                rw [ho]
                clear ht NU p0 p1 p2 B2 e3 X2 ho
                cases n
                · go_wp2_with fail
                  go_ret
                  exact ⟨_, rfl, by rw [HT.out]; simpa using HE.out [], X3⟩
                · go_wp2_with fail
                  go_ret
                  exact ⟨_, rfl, by rw [HT.out]; simpa using HE.out [45], X3⟩
              · have hL1' : ¬ (1 : Int) < (L : Int) := by omega
                go_wp2_with fail
                refine (NU.out _).mono ?_
                rintro r w3 ⟨rfl, e3⟩
                have X3 := xt X2 e3
                obtain ⟨t, ht⟩ : ∃ t : ByteArray, t = ⟨(Lib.decDigits ((L : Int) - 1 + x).toNat).toArray⟩ := ⟨_, rfl⟩
                have htz : t.size ≤ 15 := by rw [ht]; simp only [ByteArray.size, List.size_toArray]; exact (dec_len (by omega) (by omega)).2
                have HTT : Hid (t.data.toList = Lib.decDigits ((L : Int) - 1 + x).toNat) := by rw [ht]; simp [Hid]
                rw [← ht]
                obtain ⟨⟨q0, q1, q2⟩, _⟩ := B2.later e3
                have HE : Hid (∀ p : List UInt8, p ++ ((s.extract 0 1).data.toList ++ ((⟨#[69, 43]⟩ : ByteArray) ++ t).data.toList) = p ++ sizeT D x) := fun p => by
                  rw [HZ.out, if_neg hL1, if_neg (show ¬ ((L : Int) - 1 + x < 0) by omega)]
                  simp [HS.out, HTT.out]
                have esz : (s.extract 0 1).size ≤ 100 := by
                  rw [ByteArray.size_extract, hsz]
                  omega
                obtain ⟨o, ho⟩ : ∃ o, s.extract 0 1 = o := ⟨_, rfl⟩
                rw [ho] at HE esz
                rw [ho]
                clear ht NU p0 p1 p2 B2 e3 X2 ho
                cases n
                · go_wp2_with fail
                  go_ret
                  exact ⟨_, rfl, by rw [HT.out]; simpa using HE.out [], X3⟩
                · go_wp2_with fail
                  go_ret
                  exact ⟨_, rfl, by rw [HT.out]; simpa using HE.out [45], X3⟩

end Go.Proofs.YtbebmjiopijheaaDoor

