/-
  Several texts in one: TxI, TxJ, TxLaw, V6g, V6h, V8n.
-/
import Derived.Test.YtkadkfmidlhedaaGreatDoorMg41
import Derived.Test.YtkadkfmidlhedaaGreatDoorLibD
import Derived.Test.YtkadkfmidlhedaaGreatDoorMg4
import Derived.Test.YtkadkfmidlhedaaGreatDoorMg40
namespace Go.Proofs.YtkadkfmidlhedaaGreatDoor
open Go.RowKit

theorem size_of {s : ByteArray} {l : List UInt8} (h : s.data.toList = l) : s.size = l.length := by
 rw [← h, Array.length_toList]
 rfl

set_option maxRecDepth 8000 in
set_option maxHeartbeats 1000000 in
theorem pointed_any (RP : RepC) (s : ByteArray) (D : List UInt8) (m : Int) (w : World) (hs : s.data.toList = D) (l1 : D.length ≤ 15) (m0 : -300 ≤ m) (m1 : m ≤ D.length) :
  Calls Tryz.prog 200 #[.string s, .int .i64 m] w fun e w' => ∃ t, e = .returned (.string t) ∧ t.data.toList = (if m ≤ 0 then 48 :: 46 :: (List.replicate (-m).toNat 48 ++ D) else D.take m.toNat ++ 46 :: D.drop m.toNat) ∧ Ext w w' := by
 have hsz := size_of hs
 obtain ⟨L, hL⟩ : ∃ L, D.length = L := ⟨_, rfl⟩
 have HL : Hid (D.length = L) := hL
 have HS : Hid (s.data.toList = D) := hs
 rw [hL] at hsz l1 m1
 clear hL hs
 by_cases hm : m ≤ 0
 ·
  rw [if_pos hm]
  have R : Hid (∀ w : World, Calls Tryz.prog 199 #[.string ⟨#[48]⟩, .int .i64 (-m)] w fun e w' => ∃ s, e = .returned (.string s) ∧ s.data.toList = List.replicate (-m).toNat 48 ∧ Ext w w') := fun w => RP (-m) w (by omega) (by omega)
  go_enter Tryz.func200, Tryz.ntmps200
  go_wp2_with fail
  refine (R.out _).mono ?_
  rintro e w1 ⟨t, rfl, ht, e1⟩
  have htz := size_of ht
  rw [List.length_replicate] at htz
  have HT : Hid (t.data.toList = List.replicate (-m).toNat 48) := ht
  clear ht R
  go_wp2_with fail
  go_ret
  exact ⟨_, rfl, by simp [HS.out, HT.out], e1⟩
 ·
  rw [if_neg hm]
  obtain ⟨k, rfl⟩ := Int.eq_ofNat_of_zero_le (show 0 ≤ m by omega)
  have hk0 : (0 : Int) ≤ (k : Int) := by omega
  have hks : (k : Int) ≤ (L : Int) := by omega
  have hkn : k ≤ L := by omega
  have A1 : ∀ w' : World, (Op.stringOp .add (s.extract 0 k) ⟨#[46]⟩).run Tryz.prog w' = .ok (.string (s.extract 0 k ++ ⟨#[46]⟩)) w' := fun w' => run_string_add_sum w' _ _ (by rw [ByteArray.size_extract, hsz]; show min k L - 0 + 1 ≤ _; omega)
  have A2 : ∀ w' : World, (Op.stringOp .add (s.extract 0 k ++ ⟨#[46]⟩) (s.extract k L)).run Tryz.prog w' = .ok (.string (s.extract 0 k ++ ⟨#[46]⟩ ++ s.extract k L)) w' := fun w' => run_string_add_sum w' _ _ (by rw [ByteArray.size_append, ByteArray.size_extract, ByteArray.size_extract, hsz]; show min k L - 0 + 1 + (min L L - k) ≤ _; omega)
  have HE : Hid ((s.extract 0 k ++ (⟨#[46]⟩ : ByteArray) ++ s.extract k L).data.toList = D.take (k : Int).toNat ++ 46 :: D.drop (k : Int).toNat) := by
   have e5 : List.take (L - k) (List.drop k D) = List.drop k D := List.take_of_length_le (by simp [HL.out])
   simp [HS.out, e5, Hid]
  clear m0 m1
  go_enter Tryz.func200, Tryz.ntmps200
  go_wp2_with fail
  go_region_held3 (fun _ => True) (trivial) (fail)
  go_wp2_with fail
  go_ret
  exact ⟨_, rfl, HE.out, xd (xr _)⟩

/-- What poweredText adds behind the digits. -/
def powT (f : Int) : List UInt8 := if f < 0 then 69 :: 45 :: Lib.decDigits (-f).toNat else 69 :: 43 :: Lib.decDigits f.toNat
theorem itoa_len {n : Int} (h1 : -1000000000000000 < n) (h2 : n < 1000000000000000) : (Lib.itoa n).length ≤ 16 := by
 unfold Lib.itoa
 have e : (10 : Nat) ^ (14 + 1) = 1000000000000000 := by decide
 split
 ·
  have := (dec_len_le 14 n.natAbs (by omega)).2
  simp
  omega
 ·
  have := (dec_len_le 14 n.toNat (by omega)).2
  omega

set_option maxRecDepth 8000 in
set_option maxHeartbeats 1000000 in
theorem powered_any (s : ByteArray) (D : List UInt8) (f : Int) (w0 w : World) (IT : ItoaC w0) (X0 : Ext w0 w) (hs : s.data.toList = D) (l0 : 1 ≤ D.length) (l1 : D.length ≤ 15) (f0 : -1000 ≤ f) (f1 : f ≤ 1000) :
  Calls Tryz.prog 201 #[.string s, .int .i64 f] w fun e w' => ∃ t, e = .returned (.string t) ∧ t.data.toList = D.take 1 ++ (if 1 < D.length then 46 :: D.drop 1 else []) ++ powT f ∧ Ext w w' := by
 have hsz := size_of hs
 obtain ⟨L, hL⟩ : ∃ L, D.length = L := ⟨_, rfl⟩
 have HL : Hid (D.length = L) := hL
 have HS : Hid (s.data.toList = D) := hs
 rw [hL] at hsz l1 l0
 have I : Hid (Calls Tryz.prog 149 #[.int .i64 f] w fun e w' => ∃ s, e = .returned (.string s) ∧ s.data.toList = Lib.itoa f ∧ Ext w w') := IT f w (by omega) (by omega) X0
 have IL : Hid ((Lib.itoa f).length ≤ 16) := itoa_len (by omega) (by omega)
 rw [hL]
 clear hL hs IT X0
 have hs1 : (1 : Int) ≤ (L : Int) := by omega
 by_cases h1 : 1 < L
 ·
  have h1' : (1 : Int) < (L : Int) := by omega
  have HE : Hid ((s.extract 0 1 ++ ((⟨#[46]⟩ : ByteArray) ++ s.extract 1 L)).data.toList = D.take 1 ++ 46 :: D.drop 1) := by
   have e5 : List.take (L - 1) D.tail = D.tail := List.take_of_length_le (by simp [HL.out])
   simp [HS.out, e5, Hid]
  have esz : (s.extract 0 1 ++ ((⟨#[46]⟩ : ByteArray) ++ s.extract 1 L)).size ≤ 100 := by
   rw [ByteArray.size_append, ByteArray.size_append, ByteArray.size_extract, ByteArray.size_extract, hsz]
   show min 1 L - 0 + (1 + (min L L - 1)) ≤ _
   omega
  rw [if_pos h1]
  by_cases hf : 0 ≤ f
  ·
   have HP : Hid (powT f = 69 :: 43 :: Lib.itoa f) := by unfold powT Lib.itoa; rw [if_neg (by omega), if_neg (by omega)]; rfl
   go_enter Tryz.func201, Tryz.ntmps201
   go_wp2_with fail
   refine (I.out).mono ?_
   rintro e w1 ⟨t, rfl, ht, e1⟩
   have htl : t.size ≤ 16 := by rw [size_of ht]; exact IL.out
   have HT : Hid (t.data.toList = Lib.itoa f) := ht
   obtain ⟨o, ho⟩ : ∃ o, s.extract 0 1 ++ ((⟨#[46]⟩ : ByteArray) ++ s.extract 1 L) = o := ⟨_, rfl⟩
   rw [ho] at HE esz
   rw [ho]
   clear ht I IL ho
   go_wp2_with fail
   go_ret
   exact ⟨_, rfl, by rw [HP.out]; simp [HE.out, HT.out], e1⟩
  ·
   have HP : Hid (powT f = 69 :: Lib.itoa f) := by unfold powT Lib.itoa; rw [if_pos (by omega), if_pos (by omega)]; show _ = _; congr 4; omega
   go_enter Tryz.func201, Tryz.ntmps201
   go_wp2_with fail
   refine (I.out).mono ?_
   rintro e w1 ⟨t, rfl, ht, e1⟩
   have htl : t.size ≤ 16 := by rw [size_of ht]; exact IL.out
   have HT : Hid (t.data.toList = Lib.itoa f) := ht
   obtain ⟨o, ho⟩ : ∃ o, s.extract 0 1 ++ ((⟨#[46]⟩ : ByteArray) ++ s.extract 1 L) = o := ⟨_, rfl⟩
   rw [ho] at HE esz
   rw [ho]
   clear ht I IL ho
   go_wp2_with fail
   go_ret
   exact ⟨_, rfl, by rw [HP.out]; simp [HE.out, HT.out], e1⟩
 ·
  have h1' : ¬ (1 : Int) < (L : Int) := by omega
  have HE : Hid ((s.extract 0 1).data.toList = D.take 1) := by simp [HS.out, Hid]
  have esz : (s.extract 0 1).size ≤ 100 := by
   rw [ByteArray.size_extract, hsz]
   omega
  rw [if_neg h1]
  by_cases hf : 0 ≤ f
  ·
   have HP : Hid (powT f = 69 :: 43 :: Lib.itoa f) := by unfold powT Lib.itoa; rw [if_neg (by omega), if_neg (by omega)]; rfl
   go_enter Tryz.func201, Tryz.ntmps201
   go_wp2_with fail
   refine (I.out).mono ?_
   rintro e w1 ⟨t, rfl, ht, e1⟩
   have htl : t.size ≤ 16 := by rw [size_of ht]; exact IL.out
   have HT : Hid (t.data.toList = Lib.itoa f) := ht
   obtain ⟨o, ho⟩ : ∃ o, s.extract 0 1 = o := ⟨_, rfl⟩
   rw [ho] at HE esz
   rw [ho]
   clear ht I IL ho
   go_wp2_with fail
   go_ret
   exact ⟨_, rfl, by rw [HP.out]; simp [HE.out, HT.out], e1⟩
  ·
   have HP : Hid (powT f = 69 :: Lib.itoa f) := by unfold powT Lib.itoa; rw [if_pos (by omega), if_pos (by omega)]; show _ = _; congr 4; omega
   go_enter Tryz.func201, Tryz.ntmps201
   go_wp2_with fail
   refine (I.out).mono ?_
   rintro e w1 ⟨t, rfl, ht, e1⟩
   have htl : t.size ≤ 16 := by rw [size_of ht]; exact IL.out
   have HT : Hid (t.data.toList = Lib.itoa f) := ht
   obtain ⟨o, ho⟩ : ∃ o, s.extract 0 1 = o := ⟨_, rfl⟩
   rw [ho] at HE esz
   rw [ho]
   clear ht I IL ho
   go_wp2_with fail
   go_ret
   exact ⟨_, rfl, by rw [HP.out]; simp [HE.out, HT.out], e1⟩

theorem sizeT_a {D : List UInt8} {x : Int} (h : 0 ≤ x ∧ (D.length : Int) - 1 + x < 15) : sizeT D x = D ++ List.replicate x.toNat 48 := by unfold sizeT; rw [if_pos h]
theorem sizeT_b {D : List UInt8} {x : Int} (h0 : x < 0) (h : -5 ≤ (D.length : Int) - 1 + x) :
  sizeT D x = (if (D.length : Int) + x ≤ 0 then 48 :: 46 :: (List.replicate (-((D.length : Int) + x)).toNat 48 ++ D) else D.take ((D.length : Int) + x).toNat ++ 46 :: D.drop ((D.length : Int) + x).toNat) := by
 unfold sizeT
 rw [if_neg (by omega)]
 by_cases h1 : (D.length : Int) + x ≤ 0
 ·
  rw [if_neg (by omega), if_pos ⟨h0, h⟩, if_pos h1]
  have e : -((D.length : Int) - 1 + x) - 1 = -((D.length : Int) + x) := by omega
  rw [e]
 ·
  rw [if_pos ⟨h0, by omega⟩, if_neg h1]
  have e : (D.length : Int) - 1 + x + 1 = (D.length : Int) + x := by omega
  rw [e]
theorem sizeT_c {D : List UInt8} {x : Int} (h1 : ¬ (0 ≤ x ∧ (D.length : Int) - 1 + x < 15)) (h2 : ¬ (x < 0 ∧ -5 ≤ (D.length : Int) - 1 + x)) :
  sizeT D x = D.take 1 ++ (if 1 < D.length then 46 :: D.drop 1 else []) ++ powT ((D.length : Int) - 1 + x) := by
 unfold sizeT powT
 rw [if_neg h1, if_neg (by omega), if_neg h2]

theorem itoa_len0 {d : Int} (h0 : 0 ≤ d) (h1 : d < 1000000000000000) : 1 ≤ (Lib.itoa d).length ∧ (Lib.itoa d).length ≤ 15 := by
 unfold Lib.itoa
 rw [if_neg (by omega)]
 exact dec_len_le 14 d.toNat (by
  have : (10 : Nat) ^ (14 + 1) = 1000000000000000 := by decide
  omega)
theorem sizeT_len {D : List UInt8} {x : Int} (l1 : D.length ≤ 15) (x0 : -300 ≤ x) (x1 : x ≤ 300) : (sizeT D x).length ≤ 1000 := by
 have e : (10 : Nat) ^ (14 + 1) = 1000000000000000 := by decide
 have h1 := (dec_len_le 14 (-((D.length : Int) - 1 + x)).toNat (by omega)).2
 have h2 := (dec_len_le 14 ((D.length : Int) - 1 + x).toNat (by omega)).2
 unfold sizeT
 split
 ·
  simp; omega
 ·
  split
  ·
   simp; omega
  ·
   split
   ·
    simp; omega
   ·
    split <;> split <;> simp <;> omega

set_option maxRecDepth 8000 in
set_option maxHeartbeats 1000000 in
theorem sizeText_any (RP : RepC) (s : ByteArray) (D : List UInt8) (x : Int) (w0 w : World) (IT : ItoaC w0) (X0 : Ext w0 w) (hs : s.data.toList = D) (l0 : 1 ≤ D.length) (l1 : D.length ≤ 15) (x0 : -300 ≤ x) (x1' : x ≤ 300) :
  Calls Tryz.prog 148 #[.string s, .int .i64 x] w fun e w' => ∃ t, e = .returned (.string t) ∧ t.data.toList = sizeT D x ∧ Ext w w' := by
 have hsz := size_of hs
 obtain ⟨L, hL⟩ : ∃ L, D.length = L := ⟨_, rfl⟩
 by_cases ca : 0 ≤ x ∧ (L : Int) - 1 + x < 15
 ·
  have HZ : Hid (sizeT D x = D ++ List.replicate x.toNat 48) := sizeT_a (by rw [hL]; exact ca)
  obtain ⟨c1, c2⟩ := ca
  have R : Hid (∀ w : World, Calls Tryz.prog 199 #[.string ⟨#[48]⟩, .int .i64 x] w fun e w' => ∃ s, e = .returned (.string s) ∧ s.data.toList = List.replicate x.toNat 48 ∧ Ext w w') := fun w => RP x w c1 (by omega)
  have HS : Hid (s.data.toList = D) := hs
  rw [hL] at hsz l0 l1
  clear RP IT X0 hs hL
  go_enter Tryz.func148, Tryz.ntmps148
  go_wp2_with fail
  refine (R.out _).mono ?_
  rintro e w1 ⟨t, rfl, ht, e1⟩
  have htz := size_of ht
  rw [List.length_replicate] at htz
  have HT : Hid (t.data.toList = List.replicate x.toNat 48) := ht
  clear ht R
  go_wp2_with fail
  go_ret
  exact ⟨_, rfl, by rw [HZ.out]; simp [HS.out, HT.out], e1⟩
 ·
  by_cases cb : x < 0 ∧ -5 ≤ (L : Int) - 1 + x
  ·
   have HZ := sizeT_b (D := D) cb.1 (by rw [hL]; exact cb.2)
   have P := pointed_any RP s D ((D.length : Int) + x) w hs l1 (by omega) (by omega)
   rw [← HZ, hL] at P
   obtain ⟨c1, c2⟩ := cb
   have HP : Hid (Calls Tryz.prog 200 #[.string s, .int .i64 ((L : Int) + x)] w fun e w' => ∃ t, e = .returned (.string t) ∧ t.data.toList = sizeT D x ∧ Ext w w') := P
   rw [hL] at hsz l0 l1
   clear RP IT X0 hs hL HZ P ca
   go_enter Tryz.func148, Tryz.ntmps148
   go_wp2_with fail
   refine (HP.out).mono ?_
   rintro e w1 ⟨t, rfl, ht, e1⟩
   have HT : Hid (t.data.toList = sizeT D x) := ht
   clear ht HP
   go_wp2_with fail
   go_ret
   exact ⟨_, rfl, HT.out, e1⟩
  ·
   have HZ := sizeT_c (D := D) (x := x) (by rw [hL]; exact ca) (by rw [hL]; exact cb)
   have P := powered_any s D ((D.length : Int) - 1 + x) w0 w IT X0 hs l0 l1 (by omega) (by omega)
   rw [← HZ, hL] at P
   have HP : Hid (Calls Tryz.prog 201 #[.string s, .int .i64 ((L : Int) - 1 + x)] w fun e w' => ∃ t, e = .returned (.string t) ∧ t.data.toList = sizeT D x ∧ Ext w w') := P
   rw [hL] at hsz l0 l1
   clear RP IT X0 hs hL HZ P
   by_cases hx : x < 0
   ·
    have ct : (L : Int) - 1 + x < -5 := by omega
    clear ca cb
    go_enter Tryz.func148, Tryz.ntmps148
    go_wp2_with fail
    refine (HP.out).mono ?_
    rintro e w1 ⟨t, rfl, ht, e1⟩
    have HT : Hid (t.data.toList = sizeT D x) := ht
    clear ht HP
    go_wp2_with fail
    go_ret
    exact ⟨_, rfl, HT.out, e1⟩
   ·
    have ct : 15 ≤ (L : Int) - 1 + x := by omega
    clear ca cb
    go_enter Tryz.func148, Tryz.ntmps148
    go_wp2_with fail
    refine (HP.out).mono ?_
    rintro e w1 ⟨t, rfl, ht, e1⟩
    have HT : Hid (t.data.toList = sizeT D x) := ht
    clear ht HP
    go_wp2_with fail
    go_ret
    exact ⟨_, rfl, HT.out, e1⟩

theorem textT_good {n : Bool} {d x : Int} (h : goodB n d x = true) : textT n d x = (if n then [45] else []) ++ sizeT (Lib.itoa d) x := by
 obtain ⟨g0, g1, g2⟩ := good_range h
 have e : Lib.itoa d = Lib.decDigits d.toNat := by unfold Lib.itoa; rw [if_neg (by omega)]
 unfold textT
 rw [if_pos h, e]
 by_cases hd : d = 0
 ·
  obtain ⟨rfl, rfl⟩ := g2 hd
  subst hd
  rw [if_pos rfl]
  have e0 : Lib.decDigits (0 : Int).toNat = [48] := by rw [Lib.decDigits, dif_pos (by decide)]; rfl
  rw [e0]
  rfl
 ·
  rw [if_neg hd]

set_option maxRecDepth 8000 in
set_option maxHeartbeats 1000000 in
theorem textI (RP : RepC) (n : Bool) (d x : Int) (w : World) (IT : ItoaC w) (d1 : -9223372036854775808 ≤ d) (d2 : d ≤ 9223372036854775807) (hT : Tens w) :
  Calls Tryz.prog 104 #[.agg #[.bool n, .int .i64 d, .int .i64 x]] w fun e w' => ∃ s, e = .returned (.string s) ∧ s.data.toList = textT n d x ∧ Ext w w' := by
 go_enter Tryz.func104, Tryz.ntmps104
 go_wp2_with fail
 refine (goodI n d x _ d1 d2 (hT.later (x1 _ _))).mono ?_
 rintro r w1 ⟨rfl, e1⟩
 have B := (Box3.made w (.bool n) (.int .i64 d) (.int .i64 x) 24).later e1
 have X1 := xt (x1 _ _) e1
 clear e1 hT
 have B' := B
 obtain ⟨⟨p0, p1, p2⟩, _⟩ := B'
 cases hg : goodB n d x
 ·
  have HT : Hid (textT n d x = []) := by simp [textT, hg, Hid]
  clear hg
  go_wp2_with fail
  go_ret
  exact ⟨_, rfl, by rw [HT.out], X1⟩
 ·
  have HT : Hid (textT n d x = (if n then [45] else []) ++ sizeT (Lib.itoa d) x) := textT_good hg
  obtain ⟨g0, g1, g2⟩ := good_range hg
  obtain ⟨gx0, gx1⟩ := good_exp hg
  have IC : Hid (∀ w2, Ext w1 w2 → Calls Tryz.prog 149 #[.int .i64 d] w2 fun e w' => ∃ s, e = .returned (.string s) ∧ s.data.toList = Lib.itoa d ∧ Ext w2 w') := fun w2 hx => IT d w2 (by omega) (by omega) (xt X1 hx)
  have SC : Hid (∀ w2 s, Ext w1 w2 → s.data.toList = Lib.itoa d → Calls Tryz.prog 148 #[.string s, .int .i64 x] w2 fun e w' => ∃ t, e = .returned (.string t) ∧ t.data.toList = sizeT (Lib.itoa d) x ∧ Ext w2 w') := fun w2 s hx hs =>
   sizeText_any RP s (Lib.itoa d) x w w2 IT (xt X1 hx) hs (itoa_len0 g0 g1).1 (itoa_len0 g0 g1).2 gx0 gx1
  have SZ : Hid ((sizeT (Lib.itoa d) x).length ≤ 1000) := sizeT_len (itoa_len0 g0 g1).2 gx0 gx1
  clear hg g0 g1 g2 gx0 gx1 d1 d2 IT
  go_wp2_with fail
  go_region_held3 (fun w' => w'.cell? ⟨w.heap.size, 0, none⟩ = some (.bool n) ∧ w'.cell? ⟨w.heap.size, 1, none⟩ = some (.int .i64 d) ∧ w'.cell? ⟨w.heap.size, 2, none⟩ = some (.int .i64 x)) (go_keep)
   (first
    | (go_at_call 149; refine (IC.out _ (by first | exact xd (xr _) | exact xr _)).mono ?_; rintro r w2 ⟨s, rfl, hs, e2⟩; have X2 : Ext w1 w2 := xt (by first | exact xd (xr _) | exact xr _) e2; have HS : Hid (s.data.toList = Lib.itoa d) := hs; clear hs; obtain ⟨⟨a20, a21, a22⟩, _⟩ := B.later X2)
    | (go_at_call 148; refine (SC.out _ _ (xt X2 (by first | exact xr _ | exact xd (xr _))) HS.out).mono ?_; rintro r w3 ⟨t, rfl, ht, e3⟩; have X3 : Ext w1 w3 := xt (xt X2 (by first | exact xr _ | exact xd (xr _))) e3; have htz : t.size ≤ 1000 := (by rw [size_of ht]; exact SZ.out); have HTT : Hid (t.data.toList = sizeT (Lib.itoa d) x) := ht; clear ht; obtain ⟨⟨a30, a31, a32⟩, _⟩ := B.later X3))
  all_goals
   cases n
   ·
    go_wp2_with fail
    go_ret
    exact ⟨_, rfl, by rw [HT.out]; simp [HTT.out], xt X1 X3⟩
   ·
    go_wp2_with fail
    go_ret
    exact ⟨_, rfl, by rw [HT.out]; simp [HTT.out], xt X1 X3⟩

theorem ItoaC.later {w0 w : World} (h : ItoaC w0) (x : Ext w0 w) : ItoaC w := fun n w1 a b c => h n w1 a b (xt x c)

/-- The text that a value is. -/
def textOf (k : Int) (n : Bool) (d x : Int) (t : List UInt8) : Value :=
 if k = 0 then valV 2 false 0 0 [] else if k = 1 then valV 2 false 0 0 (textT n d x) else if k = 3 then valV 2 false 0 0 t else valV k n d x t
def textOfV (k : Int) (n : Bool) (d x : Int) (t : List UInt8) : Value := if goodV k n d x t then textOf k n d x t else errW
theorem sV_of {s : ByteArray} {l : List UInt8} (h : s.data.toList = l) : (.string s : Value) = sV l := by
 subst h
 rfl
set_option maxRecDepth 8000 in
set_option maxHeartbeats 2000000 in
theorem textOfI (k : Int) (n : Bool) (d x : Int) (t : List UInt8) (w : World) (hl : t.length ≤ 2000000) (d1 : -9223372036854775808 ≤ d) (d2 : d ≤ 9223372036854775807) (hT : Tens w) (hE : ErrTab w) (hI : ItoaC w) :
  Calls Tryz.prog 55 #[valV k n d x t] w fun e w' => e = .returned (textOfV k n d x t) ∧ Ext w w' := by
 obtain ⟨R, hR⟩ : ∃ R, textOfV k n d x t = R := ⟨_, rfl⟩
 have HR0 : Hid (textOfV k n d x t = R) := hR
 rw [hR]
 clear hR
 obtain ⟨wa, wb, ha, hb, sa, _, B1, B2, X⟩ := mkB2 w [.int .i64 k, .bool n, .int .i64 d, .int .i64 x, sV t] [.int .i64 0, .bool false, .int .i64 0, .int .i64 0, sV []] 26 26
 obtain ⟨a0, a1, a2, a3, a4⟩ := Vec.five B1
 go_enter Tryz.func55, Tryz.ntmps55
 go_wp2_with fail
 clear ha hb sa a0 a1 a2 a3 a4
 refine (goodVI k n d x t wb hl d1 d2 (hT.later X) (hE.later X)).mono ?_
 rintro e w1 ⟨rfl, e1⟩
 have C1 := B1.later e1
 have C2 := B2.later e1
 have X1 := xt X e1
 clear B1 B2 hE
 obtain ⟨g, hg⟩ : ∃ g, goodV k n d x t = g := ⟨_, rfl⟩
 rw [hg]
 cases g
 ·
  have HR : Hid (errW = R) := by show _ = _; rw [← HR0.out]; simp [textOfV, hg]
  clear hg hT hI d1 d2
  go_wp2_with fail
  refine (errVI errT _).mono ?_
  rintro e w2 ⟨rfl, e2⟩
  obtain ⟨wy, hy, FX, ⟨b0, b1, b2, b3, b4⟩, ⟨fb0, fb1, fb2, fb3, fb4⟩, fd0, fd1, fd2, fd3, fd4⟩ := fin5 (C2.later e2) (xt X1 e2) (by omega) (4) (false) (0) (0) (errT)
  go_wp2_with fail
  exact bodyPost_ret (v := errW) (by simp [results, Tryz.results55, go_sem, fd0, fd1, fd2, fd3, fd4]) rfl ⟨congrArg Ending.returned HR.out, FX⟩
 ·
  have HR1 : Hid (textOf k n d x t = R) := by show _ = _; rw [← HR0.out]; simp [textOfV, hg]
  obtain ⟨a0, a1, a2, a3, a4⟩ := Vec.five C1
  by_cases h1 : k = 1
  ·
   subst h1
   clear hg
   go_wp2_with fail
   clear a0 a1 a2 a3 a4
   refine (textI repC n d x w1 (hI.later X1) d1 d2 (hT.later X1)).mono ?_
   rintro e w2 ⟨s, rfl, hs, e2⟩
   have es := sV_of hs
   rw [es]
   clear hs es hT hI d1 d2 s
   have HR : Hid (valV 2 false 0 0 (textT n d x) = R) := by show _ = _; rw [← HR1.out]; simp [textOf]
   obtain ⟨u, hu⟩ : ∃ u, textT n d x = u := ⟨_, rfl⟩
   rw [hu] at HR ⊢
   clear hu
   go_wp2_with fail
   refine (textVI u _).mono ?_
   rintro e w3 ⟨rfl, e3⟩
   obtain ⟨wy, hy, FX, ⟨b0, b1, b2, b3, b4⟩, ⟨fb0, fb1, fb2, fb3, fb4⟩, fd0, fd1, fd2, fd3, fd4⟩ := fin5 ((C2.later e2).later e3) (xt (xt X1 e2) e3) (by omega) (2) (false) (0) (0) (u)
   go_wp2_with fail
   exact bodyPost_ret (v := valV 2 false 0 0 u) (by simp [results, Tryz.results55, go_sem, fd0, fd1, fd2, fd3, fd4]) rfl ⟨congrArg Ending.returned HR.out, FX⟩
  ·
   obtain ⟨rfl, rfl, rfl⟩ := goodV_zero hg h1
   clear hT hI d1 d2
   by_cases h4 : k = 4
   ·
    subst h4
    clear hg
    have HR : Hid (valV 4 false 0 0 t = R) := by show _ = _; rw [← HR1.out]; simp [textOf]
    obtain ⟨wy, hy, FX, ⟨b0, b1, b2, b3, b4⟩, ⟨fb0, fb1, fb2, fb3, fb4⟩, fd0, fd1, fd2, fd3, fd4⟩ := fin5 (C2) (X1) (by omega) (4) (false) (0) (0) (t)
    go_wp2_with fail
    exact bodyPost_ret (v := valV 4 false 0 0 t) (by simp [results, Tryz.results55, go_sem, fd0, fd1, fd2, fd3, fd4]) rfl ⟨congrArg Ending.returned HR.out, FX⟩
   ·
    have HR : Hid (valV 2 false 0 0 t = R) := by
     show _ = _
     rw [← HR1.out]
     by_cases h0 : k = 0
     ·
      subst h0
      rw [goodV_empty hg]
      simp [textOf]
     ·
      by_cases h3 : k = 3
      ·
       simp [textOf, h3]
      ·
       have h2 : k = 2 := by
        simp only [goodV, h1, if_false, h0, h3, h4] at hg
        by_cases h2 : k = 2
        ·
         exact h2
        ·
         simp [h2] at hg
       simp [textOf, h2]
    clear hg
    go_wp2_with fail
    clear a0 a1 a2 a3 a4
    refine (textVI t _).mono ?_
    rintro e w3 ⟨rfl, e3⟩
    obtain ⟨wy, hy, FX, ⟨b0, b1, b2, b3, b4⟩, ⟨fb0, fb1, fb2, fb3, fb4⟩, fd0, fd1, fd2, fd3, fd4⟩ := fin5 (C2.later e3) (xt X1 e3) (by omega) (2) (false) (0) (0) (t)
    go_wp2_with fail
    exact bodyPost_ret (v := valV 2 false 0 0 t) (by simp [results, Tryz.results55, go_sem, fd0, fd1, fd2, fd3, fd4]) rfl ⟨congrArg Ending.returned HR.out, FX⟩
set_option maxRecDepth 8000 in
set_option maxHeartbeats 2000000 in
theorem asTextS (k : Int) (n : Bool) (d x : Int) (t : List UInt8) (w : World)  :
  Calls Tryz.prog 118 #[valV k n d x t] w fun e w' => e = .returned (textOf k n d x t) ∧ Ext w w' := by
 obtain ⟨R, hR⟩ : ∃ R, textOf k n d x t = R := ⟨_, rfl⟩
 have HR0 : Hid (textOf k n d x t = R) := hR
 rw [hR]
 clear hR
 obtain ⟨wa, wb, ha, hb, sa, _, B1, B2, X⟩ := mkB2 w [.int .i64 k, .bool n, .int .i64 d, .int .i64 x, sV t] [.int .i64 0, .bool false, .int .i64 0, .int .i64 0, sV []] 26 26
 obtain ⟨a0, a1, a2, a3, a4⟩ := Vec.five B1
 go_enter Tryz.func118, Tryz.ntmps118
 by_cases h0 : k = 0
 ·
  subst h0
  have HR : Hid (valV 2 false 0 0 [] = R) := by show _ = _; rw [← HR0.out]; simp [textOf]
  go_wp2_with fail
  clear ha hb sa a0 a1 a2 a3 a4
  refine (textVS [] wb).mono ?_
  rintro e w2 ⟨rfl, e2⟩
  obtain ⟨wy, hy, FX, ⟨b0, b1, b2, b3, b4⟩, ⟨fb0, fb1, fb2, fb3, fb4⟩, fd0, fd1, fd2, fd3, fd4⟩ := fin5 (B2.later e2) (xt X e2) (by omega) (2) (false) (0) (0) ([])
  go_wp2_with fail
  exact bodyPost_ret (v := valV 2 false 0 0 []) (by simp [results, Tryz.results118, go_sem, fd0, fd1, fd2, fd3, fd4]) rfl ⟨congrArg Ending.returned HR.out, FX⟩
 ·
  by_cases h1 : k = 1
  ·
   subst h1
   go_wp2_with fail
   clear ha hb sa a0 a1 a2 a3 a4
   refine (textS n d x wb).mono ?_
   rintro e w2 ⟨s, rfl, hs, e2⟩
   have es := sV_of hs
   rw [es]
   clear hs es s
   have HR : Hid (valV 2 false 0 0 (textT n d x) = R) := by show _ = _; rw [← HR0.out]; simp [textOf]
   obtain ⟨u, hu⟩ : ∃ u, textT n d x = u := ⟨_, rfl⟩
   rw [hu] at HR ⊢
   clear hu
   go_wp2_with fail
   refine (textVS u w2).mono ?_
   rintro e w3 ⟨rfl, e3⟩
   obtain ⟨wy, hy, FX, ⟨b0, b1, b2, b3, b4⟩, ⟨fb0, fb1, fb2, fb3, fb4⟩, fd0, fd1, fd2, fd3, fd4⟩ := fin5 ((B2.later e2).later e3) (xt (xt X e2) e3) (by omega) (2) (false) (0) (0) (u)
   go_wp2_with fail
   exact bodyPost_ret (v := valV 2 false 0 0 u) (by simp [results, Tryz.results118, go_sem, fd0, fd1, fd2, fd3, fd4]) rfl ⟨congrArg Ending.returned HR.out, FX⟩
  ·
   by_cases h3 : k = 3
   ·
    subst h3
    have HR : Hid (valV 2 false 0 0 t = R) := by show _ = _; rw [← HR0.out]; simp [textOf]
    go_wp2_with fail
    clear ha hb sa a0 a1 a2 a3 a4
    refine (textVS t wb).mono ?_
    rintro e w2 ⟨rfl, e2⟩
    obtain ⟨wy, hy, FX, ⟨b0, b1, b2, b3, b4⟩, ⟨fb0, fb1, fb2, fb3, fb4⟩, fd0, fd1, fd2, fd3, fd4⟩ := fin5 (B2.later e2) (xt X e2) (by omega) (2) (false) (0) (0) (t)
    go_wp2_with fail
    exact bodyPost_ret (v := valV 2 false 0 0 t) (by simp [results, Tryz.results118, go_sem, fd0, fd1, fd2, fd3, fd4]) rfl ⟨congrArg Ending.returned HR.out, FX⟩
   ·
    have HR : Hid (valV k n d x t = R) := by show _ = _; rw [← HR0.out]; simp [textOf, h0, h1, h3]
    obtain ⟨wy, hy, FX, ⟨b0, b1, b2, b3, b4⟩, ⟨fb0, fb1, fb2, fb3, fb4⟩, fd0, fd1, fd2, fd3, fd4⟩ := fin5 (B2) (X) (by omega) (k) (n) (d) (x) (t)
    go_wp2_with fail
    exact bodyPost_ret (v := valV k n d x t) (by simp [results, Tryz.results118, go_sem, fd0, fd1, fd2, fd3, fd4]) rfl ⟨congrArg Ending.returned HR.out, FX⟩

/-- What a value shows. -/
def showT (k : Int) (n : Bool) (d x : Int) (t : List UInt8) : List UInt8 := if k = 0 then [] else if k = 1 then textT n d x else t
theorem field_text (k : Int) (n : Bool) (d x : Int) (t : List UInt8) (W : World) : (Instr.field 26 (valV k n d x t) 2).run Tryz.prog W = .ok (sV t) W := by kernel_rfl
theorem textOf_show (k : Int) (n : Bool) (d x : Int) (t : List UInt8) : ∃ k2 n2 d2 x2, textOf k n d x t = valV k2 n2 d2 x2 (showT k n d x t) := by
 unfold textOf showT
 split
 ·
  exact ⟨_, _, _, _, rfl⟩
 ·
  split
  ·
   exact ⟨_, _, _, _, rfl⟩
  ·
   split
   ·
    exact ⟨_, _, _, _, rfl⟩
   ·
    exact ⟨_, _, _, _, rfl⟩

theorem shown_dec (u : Nat) : (Lib.decDigits u).all shownC = true := by
 induction u using Nat.strongRecOn with
 | ind u ih =>
  rw [Lib.decDigits]
  split
  ·
   next h =>
   have : shownC (UInt8.ofNat (48 + u)) = true := by
    have e : (UInt8.ofNat (48 + u)).toNat = 48 + u := by rw [UInt8.toNat_ofNat']; omega
    unfold shownC
    rw [e]
    exact decide_eq_true (by omega)
   rw [List.all_cons, this]; rfl
  ·
   next h =>
   have e : (UInt8.ofNat (48 + u % 10)).toNat = 48 + u % 10 := by rw [UInt8.toNat_ofNat']; omega
   have : shownC (UInt8.ofNat (48 + u % 10)) = true := by
    unfold shownC
    rw [e]
    exact decide_eq_true (by omega)
   rw [List.all_append, ih (u / 10) (by omega), List.all_cons, this]; rfl
theorem shown_rep (k : Nat) : (List.replicate k (48 : UInt8)).all shownC = true := by
 rw [List.all_eq_true]
 intro c hc
 rw [(List.mem_replicate.1 hc).2]
 decide
theorem shown_take {D : List UInt8} (h : D.all shownC = true) (k : Nat) : (D.take k).all shownC = true := by
 rw [List.all_eq_true] at h ⊢
 exact fun c hc => h c (List.mem_of_mem_take hc)
theorem shown_drop {D : List UInt8} (h : D.all shownC = true) (k : Nat) : (D.drop k).all shownC = true := by
 rw [List.all_eq_true] at h ⊢
 exact fun c hc => h c (List.mem_of_mem_drop hc)
theorem shown_sizeT {D : List UInt8} (h : D.all shownC = true) (x : Int) : (sizeT D x).all shownC = true := by
 have t := fun k => shown_take h k
 have p := fun k => shown_drop h k
 have c46 : shownC 46 = true := by decide
 have c48 : shownC 48 = true := by decide
 have c69 : shownC 69 = true := by decide
 have c45 : shownC 45 = true := by decide
 have c43 : shownC 43 = true := by decide
 unfold sizeT
 split
 ·
  rw [List.all_append, h, shown_rep]; rfl
 ·
  split
  ·
   rw [List.all_append, t, List.all_cons, c46, p]; rfl
  ·
   split
   ·
    rw [List.all_cons, c48, List.all_cons, c46, List.all_append, shown_rep, h]; rfl
   ·
    have a1 : (if 1 < D.length then 46 :: D.drop 1 else ([] : List UInt8)).all shownC = true := by
     split
     ·
      rw [List.all_cons, c46, p]; rfl
     ·
      rfl
    have a2 : (if (D.length : Int) - 1 + x < 0 then 69 :: 45 :: Lib.decDigits (-((D.length : Int) - 1 + x)).toNat else 69 :: 43 :: Lib.decDigits ((D.length : Int) - 1 + x).toNat).all shownC = true := by
     split
     ·
      rw [List.all_cons, c69, List.all_cons, c45, shown_dec]; rfl
     ·
      rw [List.all_cons, c69, List.all_cons, c43, shown_dec]; rfl
    rw [List.all_append, List.all_append, t, a1, a2]; rfl
theorem shown_textT (n : Bool) (d x : Int) : (textT n d x).all shownC = true := by
 unfold textT
 split
 ·
  split
  ·
   decide
  ·
   rw [List.all_append, shown_sizeT (shown_dec _)]
   cases n <;> decide
 ·
  rfl
theorem textT_len (n : Bool) (d x : Int) : (textT n d x).length ≤ 2000 := by
 unfold textT
 split
 ·
  next hg =>
  split
  ·
   decide
  ·
   next hd =>
   have hgd : 0 < d ∧ d < 1000000000000000 ∧ ¬ d % 10 = 0 ∧ -300 ≤ x ∧ x ≤ 300 := by simpa [goodB, hd] using hg
   have hl := sizeT_len (dec_len hgd.1 hgd.2.1).2 hgd.2.2.2.1 hgd.2.2.2.2
   rw [List.length_append]
   cases n <;> simp <;> omega
 ·
  simp
/-- What a good value shows is plain, and short. -/
theorem showT_plain {k : Int} {n : Bool} {d x : Int} {t : List UInt8} (hg : goodV k n d x t = true) : (showT k n d x t).all shownC = true ∧ (showT k n d x t).length ≤ 2000 := by
 unfold showT
 split
 ·
  exact ⟨rfl, by simp⟩
 ·
  next h0 =>
  split
  ·
   exact ⟨shown_textT _ _ _, by have := textT_len n d x; omega⟩
  ·
   next h1 =>
   simp only [goodV, h1, h0, if_false, Bool.and_eq_true] at hg
   have hr := hg.2
   split at hr
   ·
    have : t.all shownC = true ∧ t.length ≤ 1000 := by simpa [printN] using hr
    exact ⟨this.1, by omega⟩
   ·
    split at hr
    ·
     have : t = [84, 82, 85, 69] ∨ t = [70, 65, 76, 83, 69] := by simpa [boolB] using hr
     rcases this with rfl | rfl <;> exact ⟨by decide, by decide⟩
    ·
     split at hr
     ·
      have hm : t ∈ errL := by
       unfold memB at hr
       rw [List.any_eq_true] at hr
       obtain ⟨u, hu, he⟩ := hr
       have : u = t := by simpa using he
       rw [← this]; exact hu
      have : ∀ u ∈ errL, u.all shownC = true ∧ u.length ≤ 2000 := by decide
      exact this t hm
     ·
      cases hr

end Go.Proofs.YtkadkfmidlhedaaGreatDoor

