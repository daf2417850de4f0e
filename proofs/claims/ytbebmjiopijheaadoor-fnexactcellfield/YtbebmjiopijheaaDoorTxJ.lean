/-
  sizeText and the program's DecText, over what strings.Repeat and strconv.Itoa give.
-/
import Derived.Test.YtbebmjiopijheaaDoorTxI
namespace Go.Proofs.YtbebmjiopijheaaDoor
open Go.RowKit

theorem sizeT_a {D : List UInt8} {x : Int} (h : 0 ≤ x ∧ (D.length : Int) - 1 + x < 15) : sizeT D x = D ++ List.replicate x.toNat 48 := by unfold sizeT; rw [if_pos h]
theorem sizeT_b {D : List UInt8} {x : Int} (h0 : x < 0) (h : -5 ≤ (D.length : Int) - 1 + x) :
    sizeT D x = (if (D.length : Int) + x ≤ 0 then 48 :: 46 :: (List.replicate (-((D.length : Int) + x)).toNat 48 ++ D) else D.take ((D.length : Int) + x).toNat ++ 46 :: D.drop ((D.length : Int) + x).toNat) := by
  unfold sizeT
  rw [if_neg (by omega)]
  by_cases h1 : (D.length : Int) + x ≤ 0
  · rw [if_neg (by omega), if_pos ⟨h0, h⟩, if_pos h1]
    have e : -((D.length : Int) - 1 + x) - 1 = -((D.length : Int) + x) := by omega
    rw [e]
  · rw [if_pos ⟨h0, by omega⟩, if_neg h1]
    have e : (D.length : Int) - 1 + x + 1 = (D.length : Int) + x := by omega
    rw [e]
theorem sizeT_c {D : List UInt8} {x : Int} (h1 : ¬ (0 ≤ x ∧ (D.length : Int) - 1 + x < 15)) (h2 : ¬ (x < 0 ∧ -5 ≤ (D.length : Int) - 1 + x)) :
    sizeT D x = D.take 1 ++ (if 1 < D.length then 46 :: D.drop 1 else []) ++ powT ((D.length : Int) - 1 + x) := by
  unfold sizeT powT
  rw [if_neg h1, if_neg (by omega), if_neg h2]

theorem itoa_len0 {d : Int} (h0 : 0 ≤ d) (h1 : d < 1000000000000000) : 1 ≤ (Lib.itoa d).length ∧ (Lib.itoa d).length ≤ 15 := by
  unfold Lib.itoa
  rw [if_neg (by omega)]
  exact dec_len_le 14 d.toNat (by
    have : (10 : Nat) ^ (14 + 1) = 1000000000000000 := by decide
    omega)
theorem sizeT_len {D : List UInt8} {x : Int} (l1 : D.length ≤ 15) (x0 : -300 ≤ x) (x1 : x ≤ 300) : (sizeT D x).length ≤ 1000 := by
  have e : (10 : Nat) ^ (14 + 1) = 1000000000000000 := by decide
  have h1 := (dec_len_le 14 (-((D.length : Int) - 1 + x)).toNat (by omega)).2
  have h2 := (dec_len_le 14 ((D.length : Int) - 1 + x).toNat (by omega)).2
  unfold sizeT
  split
  · simp; omega
  · split
    · simp; omega
    · split
      · simp; omega
      · split <;> split <;> simp <;> omega

set_option maxRecDepth 8000 in
set_option maxHeartbeats 1000000 in
theorem sizeText_any (RP : RepC) (s : ByteArray) (D : List UInt8) (x : Int) (w0 w : World) (IT : ItoaC w0) (X0 : Ext w0 w) (hs : s.data.toList = D) (l0 : 1 ≤ D.length) (l1 : D.length ≤ 15) (x0 : -300 ≤ x) (x1' : x ≤ 300) :
    Calls Tryd.prog 47 #[.string s, .int .i64 x] w fun e w' => ∃ t, e = .returned (.string t) ∧ t.data.toList = sizeT D x ∧ Ext w w' := by
  have hsz := size_of hs
  obtain ⟨L, hL⟩ : ∃ L, D.length = L := ⟨_, rfl⟩
  by_cases ca : 0 ≤ x ∧ (L : Int) - 1 + x < 15
  · have HZ : Hid (sizeT D x = D ++ List.replicate x.toNat 48) := sizeT_a (by rw [hL]; exact ca)
    obtain ⟨c1, c2⟩ := ca
    have R : Hid (∀ w : World, Calls Tryd.prog 13 #[.string ⟨#[48]⟩, .int .i64 x] w fun e w' => ∃ s, e = .returned (.string s) ∧ s.data.toList = List.replicate x.toNat 48 ∧ Ext w w') := fun w => RP x w c1 (by omega)
    have HS : Hid (s.data.toList = D) := hs
    rw [hL] at hsz l0 l1
    clear RP IT X0 hs hL
    go_enter Tryd.func47, Tryd.ntmps47
    go_wp2_with fail
    refine (R.out _).mono ?_
    rintro e w1 ⟨t, rfl, ht, e1⟩
    have htz := size_of ht
    rw [List.length_replicate] at htz
    have HT : Hid (t.data.toList = List.replicate x.toNat 48) := ht
    clear ht R
    go_wp2_with fail
    go_ret
    exact ⟨_, rfl, by rw [HZ.out]; simp [HS.out, HT.out], e1⟩
  · by_cases cb : x < 0 ∧ -5 ≤ (L : Int) - 1 + x
    · have HZ := sizeT_b (D := D) cb.1 (by rw [hL]; exact cb.2)
      have P := pointed_any RP s D ((D.length : Int) + x) w hs l1 (by omega) (by omega)
      rw [← HZ, hL] at P
      obtain ⟨c1, c2⟩ := cb
      have HP : Hid (Calls Tryd.prog 53 #[.string s, .int .i64 ((L : Int) + x)] w fun e w' => ∃ t, e = .returned (.string t) ∧ t.data.toList = sizeT D x ∧ Ext w w') := P
      rw [hL] at hsz l0 l1
      clear RP IT X0 hs hL HZ P ca
      go_enter Tryd.func47, Tryd.ntmps47
      go_wp2_with fail
      refine (HP.out).mono ?_
      rintro e w1 ⟨t, rfl, ht, e1⟩
      have HT : Hid (t.data.toList = sizeT D x) := ht
      clear ht HP
      go_wp2_with fail
      go_ret
      exact ⟨_, rfl, HT.out, e1⟩
    · have HZ := sizeT_c (D := D) (x := x) (by rw [hL]; exact ca) (by rw [hL]; exact cb)
      have P := powered_any s D ((D.length : Int) - 1 + x) w0 w IT X0 hs l0 l1 (by omega) (by omega)
      rw [← HZ, hL] at P
      have HP : Hid (Calls Tryd.prog 54 #[.string s, .int .i64 ((L : Int) - 1 + x)] w fun e w' => ∃ t, e = .returned (.string t) ∧ t.data.toList = sizeT D x ∧ Ext w w') := P
      rw [hL] at hsz l0 l1
      clear RP IT X0 hs hL HZ P
      by_cases hx : x < 0
      · have ct : (L : Int) - 1 + x < -5 := by omega
        clear ca cb
        go_enter Tryd.func47, Tryd.ntmps47
        go_wp2_with fail
        refine (HP.out).mono ?_
        rintro e w1 ⟨t, rfl, ht, e1⟩
        have HT : Hid (t.data.toList = sizeT D x) := ht
        clear ht HP
        go_wp2_with fail
        go_ret
        exact ⟨_, rfl, HT.out, e1⟩
      · have ct : 15 ≤ (L : Int) - 1 + x := by omega
        clear ca cb
        go_enter Tryd.func47, Tryd.ntmps47
        go_wp2_with fail
        refine (HP.out).mono ?_
        rintro e w1 ⟨t, rfl, ht, e1⟩
        have HT : Hid (t.data.toList = sizeT D x) := ht
        clear ht HP
        go_wp2_with fail
        go_ret
        exact ⟨_, rfl, HT.out, e1⟩

theorem textT_good {n : Bool} {d x : Int} (h : goodB n d x = true) : textT n d x = (if n then [45] else []) ++ sizeT (Lib.itoa d) x := by
  obtain ⟨g0, g1, g2⟩ := good_range h
  have e : Lib.itoa d = Lib.decDigits d.toNat := by unfold Lib.itoa; rw [if_neg (by omega)]
  unfold textT
  rw [if_pos h, e]
  by_cases hd : d = 0
  · obtain ⟨rfl, rfl⟩ := g2 hd
    subst hd
    rw [if_pos rfl]
    have e0 : Lib.decDigits (0 : Int).toNat = [48] := by rw [Lib.decDigits, dif_pos (by decide)]; rfl
    rw [e0]
    rfl
  · rw [if_neg hd]

set_option maxRecDepth 8000 in
set_option maxHeartbeats 1000000 in
theorem textI (RP : RepC) (n : Bool) (d x : Int) (w : World) (IT : ItoaC w) (d1 : -9223372036854775808 ≤ d) (d2 : d ≤ 9223372036854775807) (hT : Tens w) :
    Calls Tryd.prog 39 #[.agg #[.bool n, .int .i64 d, .int .i64 x]] w fun e w' => ∃ s, e = .returned (.string s) ∧ s.data.toList = textT n d x ∧ Ext w w' := by
  go_enter Tryd.func39, Tryd.ntmps39
  go_wp2_with fail
  refine (goodI n d x _ d1 d2 (hT.later (x1 _ _))).mono ?_
  rintro r w1 ⟨rfl, e1⟩
  have B := (Box3.made w (.bool n) (.int .i64 d) (.int .i64 x) 28).later e1
  have X1 := xt (x1 _ _) e1
  clear e1 hT
  have B' := B
  obtain ⟨⟨p0, p1, p2⟩, _⟩ := B'
  cases hg : goodB n d x
  · have HT : Hid (textT n d x = []) := by simp [textT, hg, Hid]
    clear hg
    go_wp2_with fail
    go_ret
    exact ⟨_, rfl, by rw [HT.out], X1⟩
  · have HT : Hid (textT n d x = (if n then [45] else []) ++ sizeT (Lib.itoa d) x) := textT_good hg
    obtain ⟨g0, g1, g2⟩ := good_range hg
    obtain ⟨gx0, gx1⟩ := good_exp hg
    have IC : Hid (∀ w2, Ext w1 w2 → Calls Tryd.prog 48 #[.int .i64 d] w2 fun e w' => ∃ s, e = .returned (.string s) ∧ s.data.toList = Lib.itoa d ∧ Ext w2 w') := fun w2 hx => IT d w2 (by omega) (by omega) (xt X1 hx)
    have SC : Hid (∀ w2 s, Ext w1 w2 → s.data.toList = Lib.itoa d → Calls Tryd.prog 47 #[.string s, .int .i64 x] w2 fun e w' => ∃ t, e = .returned (.string t) ∧ t.data.toList = sizeT (Lib.itoa d) x ∧ Ext w2 w') := fun w2 s hx hs =>
      sizeText_any RP s (Lib.itoa d) x w w2 IT (xt X1 hx) hs (itoa_len0 g0 g1).1 (itoa_len0 g0 g1).2 gx0 gx1
    have SZ : Hid ((sizeT (Lib.itoa d) x).length ≤ 1000) := sizeT_len (itoa_len0 g0 g1).2 gx0 gx1
    clear hg g0 g1 g2 gx0 gx1 d1 d2 IT
    go_wp2_with fail
    go_region_held3 (fun w' => w'.cell? ⟨w.heap.size, 0, none⟩ = some (.bool n) ∧ w'.cell? ⟨w.heap.size, 1, none⟩ = some (.int .i64 d) ∧ w'.cell? ⟨w.heap.size, 2, none⟩ = some (.int .i64 x)) (go_keep)
      (first
        | (go_at_call 48; refine (IC.out _ (by first | exact xd (xr _) | exact xr _)).mono ?_; rintro r w2 ⟨s, rfl, hs, e2⟩; have X2 : Ext w1 w2 := xt (by first | exact xd (xr _) | exact xr _) e2; have HS : Hid (s.data.toList = Lib.itoa d) := hs; clear hs; obtain ⟨⟨a20, a21, a22⟩, _⟩ := B.later X2)
        | (go_at_call 47; refine (SC.out _ _ (xt X2 (by first | exact xr _ | exact xd (xr _))) HS.out).mono ?_; rintro r w3 ⟨t, rfl, ht, e3⟩; have X3 : Ext w1 w3 := xt (xt X2 (by first | exact xr _ | exact xd (xr _))) e3; have htz : t.size ≤ 1000 := (by rw [size_of ht]; exact SZ.out); have HTT : Hid (t.data.toList = sizeT (Lib.itoa d) x) := ht; clear ht; obtain ⟨⟨a30, a31, a32⟩, _⟩ := B.later X3))
    all_goals
      cases n
      · go_wp2_with fail
        go_ret
        exact ⟨_, rfl, by rw [HT.out]; simp [HTT.out], xt X1 X3⟩
      · go_wp2_with fail
        go_ret
        exact ⟨_, rfl, by rw [HT.out]; simp [HTT.out], xt X1 X3⟩

end Go.Proofs.YtbebmjiopijheaaDoor

