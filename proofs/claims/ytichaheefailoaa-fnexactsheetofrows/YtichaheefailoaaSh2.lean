/-
  Chapter 14: what the program asks of a field and of a cell.
-/
import Derived.Test.YtichaheefailoaaSh1
import Derived.Test.YtichaheefailoaaHpx
import Derived.BigQuiet
namespace Go.Proofs.Ytichaheefailoaa
open Go.RowKit

theorem hasOne (l : List UInt8) (c : UInt8) (w : World) : Calls Try.prog 33 #[sV l, sV [c]] w fun e w' => e = .returned (.bool (l.head? == some c)) ∧ w' = w := by
  have h := hasPrefI l [c] w
  rw [pfxB_one] at h
  exact h

set_option maxHeartbeats 1000000 in
theorem rowOkI (n : Int) (w : World) : Calls Try.prog 50 #[.int .i64 n] w fun e w' => e = .returned (.bool (decide (1 ≤ n) && decide (n ≤ 1000))) ∧ w' = w := by
  by_cases h1 : 1 ≤ n
  · go_enter Try.func50, Try.ntmps50
    go_wp2_with fail
    go_ret
    exact ⟨ret_bool (by simp [h1]), rfl⟩
  · go_enter Try.func50, Try.ntmps50
    go_wp2_with fail
    go_ret
    exact ⟨ret_bool (by simp; omega), rfl⟩
set_option maxHeartbeats 1000000 in
theorem colOkI (n : Int) (w : World) : Calls Try.prog 51 #[.int .i64 n] w fun e w' => e = .returned (.bool (decide (1 ≤ n) && decide (n ≤ 200))) ∧ w' = w := by
  by_cases h1 : 1 ≤ n
  · go_enter Try.func51, Try.ntmps51
    go_wp2_with fail
    go_ret
    exact ⟨ret_bool (by simp [h1]), rfl⟩
  · go_enter Try.func51, Try.ntmps51
    go_wp2_with fail
    go_ret
    exact ⟨ret_bool (by simp; omega), rfl⟩
set_option maxHeartbeats 1000000 in
theorem goodRefC (r c : Int) (w : World) : Calls Try.prog 34 #[.agg #[.int .i64 r, .int .i64 c, .bool false, .bool false]] w fun e w' => e = .returned (.bool ((decide (1 ≤ r) && decide (r ≤ 1000)) && (decide (1 ≤ c) && decide (c ≤ 200)))) ∧ Ext w w' := by
  have C1 := fun W => rowOkI r W
  have C2 := fun W => colOkI c W
  obtain ⟨p, hp⟩ : ∃ p, (decide (1 ≤ r) && decide (r ≤ 1000)) = p := ⟨_, rfl⟩
  obtain ⟨q, hq⟩ : ∃ q, (decide (1 ≤ c) && decide (c ≤ 200)) = q := ⟨_, rfl⟩
  rw [hp] at C1
  rw [hq] at C2
  rw [hp, hq]
  clear hp hq
  have X := x1 w (.cells #[.int .i64 r, .int .i64 c, .bool false, .bool false] 56)
  go_enter Try.func34, Try.ntmps34
  cases p
  all_goals go_wp2_with (first | (go_at_call 50; refine (C1 _).mono ?_; rintro e w' ⟨rfl, rfl⟩) | (go_at_call 51; refine (C2 _).mono ?_; rintro e w' ⟨rfl, rfl⟩))
  all_goals go_ret
  all_goals exact ⟨ret_bool (by simp), X⟩

set_option maxHeartbeats 1000000 in
theorem formI (l : List UInt8) (w : World) : Calls Try.prog 32 #[sV l] w fun e w' => e = .returned (.bool (l.head? == some 61)) ∧ w' = w := by
  have H := hasOne l 61 w
  obtain ⟨q, hq⟩ : ∃ q, (l.head? == some 61) = q := ⟨_, rfl⟩
  rw [hq] at H ⊢
  clear hq
  go_enter Try.func32, Try.ntmps32
  go_wp2_with fail
  refine H.mono ?_
  rintro e w1 ⟨rfl, rfl⟩
  go_wp2_with fail
  go_ret
  exact ⟨rfl, rfl⟩
set_option maxHeartbeats 1000000 in
theorem typedI (l : List UInt8) (w : World) (hl : l.length ≤ 2000000) : Calls Try.prog 16 #[sV l] w fun e w' => e = .returned (sV (typT l)) ∧ w' = w := by
  have H1 := fun W => formI l W
  have H2 := fun W => hasOne l 39 W
  have HT : Hid (typT l = if (l.head? == some 61) = true ∨ (l.head? == some 39) = true then 39 :: l else l) := by show _ = _; unfold typT; simp
  obtain ⟨p, hp⟩ : ∃ q, (l.head? == some 61) = q := ⟨_, rfl⟩
  obtain ⟨q, hq⟩ : ∃ q, (l.head? == some 39) = q := ⟨_, rfl⟩
  rw [hp] at H1 HT
  rw [hq] at H2 HT
  have HS : Hid ((⟨#[39]⟩ ++ (⟨l.toArray⟩ : ByteArray) : ByteArray) = ⟨(39 :: l).toArray⟩) := by
    show _ = _
    apply ByteArray.ext
    rw [ByteArray.data_append]
    apply Array.ext'
    simp
  obtain ⟨s, hs⟩ : ∃ s : ByteArray, (⟨l.toArray⟩ : ByteArray) = s := ⟨_, rfl⟩
  have HE : Hid ((⟨l.toArray⟩ : ByteArray) = s) := hs
  have hsz : s.size = l.length := by rw [← hs]; rfl
  have hss : (⟨#[39]⟩ : ByteArray).size + s.size ≤ 9223372036854775807 := by show 1 + _ ≤ _; omega
  obtain ⟨R, hR⟩ : ∃ R, typT l = R := ⟨_, rfl⟩
  rw [hR] at HT ⊢
  have HR : Hid (typT l = R) := hR
  change ∀ W, Calls Try.prog 32 #[.string ⟨l.toArray⟩] W _ at H1
  change ∀ W, Calls Try.prog 33 #[.string ⟨l.toArray⟩, sV [39]] W _ at H2
  show Calls Try.prog 16 #[.string ⟨l.toArray⟩] w _
  rw [hs] at H1 H2 HS ⊢
  clear hp hq hs hR
  cases p
  · cases q
    · go_enter Try.func16, Try.ntmps16
      go_wp2_with (first | (go_at_call 32; refine (H1 _).mono ?_; rintro e w' ⟨rfl, rfl⟩) | (go_at_call 33; refine (H2 _).mono ?_; rintro e w' ⟨rfl, rfl⟩))
      go_ret
      exact ⟨by rw [HT.out, ← HE.out]; rfl, rfl⟩
    · go_enter Try.func16, Try.ntmps16
      go_wp2_with (first | (go_at_call 32; refine (H1 _).mono ?_; rintro e w' ⟨rfl, rfl⟩) | (go_at_call 33; refine (H2 _).mono ?_; rintro e w' ⟨rfl, rfl⟩))
      go_ret
      exact ⟨by rw [HT.out]; exact congrArg (fun z => Ending.returned (Value.string z)) HS.out, rfl⟩
  · go_enter Try.func16, Try.ntmps16
    go_wp2_with (first | (go_at_call 32; refine (H1 _).mono ?_; rintro e w' ⟨rfl, rfl⟩) | (go_at_call 33; refine (H2 _).mono ?_; rintro e w' ⟨rfl, rfl⟩))
    go_ret
    exact ⟨by rw [HT.out]; exact congrArg (fun z => Ending.returned (Value.string z)) HS.out, rfl⟩

set_option maxHeartbeats 1000000 in
theorem cellTextI (l : List UInt8) (w : World) (hl : l.length ≤ 2000000) (h1 : 1 ≤ l.length) : Calls Try.prog 37 #[sV l] w fun e w' => e = .returned (.bool (decide (l.length ≤ 2000) && plainB l)) ∧ w' = w := by
  have C := fun W => plainI l W hl
  obtain ⟨n, hn⟩ : ∃ n, l.length = n := ⟨_, rfl⟩
  have hne : (l == []) = false := by cases l with
    | nil => simp at h1
    | cons b l => rfl
  have hs : (⟨l.toArray⟩ : ByteArray).size = n := hn
  rw [hn] at hl h1 ⊢
  obtain ⟨p, hp⟩ : ∃ p, plainB l = p := ⟨_, rfl⟩
  rw [hp] at C ⊢
  clear hp hn
  by_cases h2 : n ≤ 2000
  · have f1 : decide ((n : Int) ≤ 2000) = true := by simp; omega
    rw [decide_eq_true h2]
    go_enter Try.func37, Try.ntmps37
    go_wp2_with (go_at_call 52; refine (C _).mono ?_; rintro e w' ⟨rfl, rfl⟩)
    go_ret
    exact ⟨ret_bool (by simp), rfl⟩
  · have f1 : decide ((n : Int) ≤ 2000) = false := by simp; omega
    rw [decide_eq_false h2]
    go_enter Try.func37, Try.ntmps37
    go_wp2_with (go_at_call 52; refine (C _).mono ?_; rintro e w' ⟨rfl, rfl⟩)
    go_ret
    exact ⟨ret_bool (by simp), rfl⟩
set_option maxHeartbeats 1000000 in
theorem spotI (r c : Int) (l : List UInt8) (w : World) : Calls Try.prog 35 #[.agg #[.int .i64 r, .int .i64 c, sV l]] w fun e w' => e = .returned (.agg #[.int .i64 r, .int .i64 c]) ∧ Ext w w' := by
  have X : ∀ o1 o2 : Obj, Ext w ((w.alloc o1).alloc o2) := fun o1 o2 => xa (x1 w o1) o2
  go_enter Try.func35, Try.ntmps35
  go_wp2_with fail
  exact bodyPost_ret (v := .agg #[.int .i64 r, .int .i64 c]) (by simp [results, Try.results35, go_sem]) rfl ⟨rfl, X _ _⟩
set_option maxHeartbeats 1000000 in
theorem refI (r c : Int) (w : World) : Calls Try.prog 36 #[.agg #[.int .i64 r, .int .i64 c]] w fun e w' => e = .returned (.agg #[.int .i64 r, .int .i64 c, .bool false, .bool false]) ∧ Ext w w' := by
  have X : ∀ o1 o2 : Obj, Ext w ((w.alloc o1).alloc o2) := fun o1 o2 => xa (x1 w o1) o2
  go_enter Try.func36, Try.ntmps36
  go_wp2_with fail
  exact bodyPost_ret (v := .agg #[.int .i64 r, .int .i64 c, .bool false, .bool false]) (by simp [results, Try.results36, go_sem]) rfl ⟨rfl, X _ _⟩
set_option maxHeartbeats 1000000 in
theorem isGoodI (e : CE) (w : World) (h1 : 1 ≤ e.r) (h2 : 1 ≤ e.c) (h3 : 1 ≤ e.t.length) (hl : e.t.length ≤ 2000000) : Calls Try.prog 17 #[.agg #[.int .i64 e.r, .int .i64 e.c, sV e.t]] w fun z w' => z = .returned (.bool e.good) ∧ Ext w w' := by
  obtain ⟨r, c, t⟩ := e
  dsimp only at h1 h2 h3 hl ⊢
  have C1 := fun W => spotI r c t W
  have C2 := fun W => refI r c W
  have C3 := fun W => goodRefC r c W
  have C4 := fun W => cellTextI t W hl h3
  have HG : Hid ((⟨r, c, t⟩ : CE).good = ((decide (1 ≤ (r : Int)) && decide ((r : Int) ≤ 1000)) && (decide (1 ≤ (c : Int)) && decide ((c : Int) ≤ 200)) && (decide (t.length ≤ 2000) && plainB t))) := by
    show _ = _
    unfold CE.good
    have a1 : decide (1 ≤ (r : Int)) = true := by simp; omega
    have a2 : decide (1 ≤ (c : Int)) = true := by simp; omega
    have a3 : decide ((r : Int) ≤ 1000) = decide (r ≤ 1000) := by congr 1; simp; omega
    have a4 : decide ((c : Int) ≤ 200) = decide (c ≤ 200) := by congr 1; simp; omega
    rw [a1, a2, a3, a4]
    simp [Bool.and_assoc]
  obtain ⟨p, hp⟩ : ∃ p, ((decide (1 ≤ (r : Int)) && decide ((r : Int) ≤ 1000)) && (decide (1 ≤ (c : Int)) && decide ((c : Int) ≤ 200))) = p := ⟨_, rfl⟩
  obtain ⟨q, hq⟩ : ∃ q, (decide (t.length ≤ 2000) && plainB t) = q := ⟨_, rfl⟩
  rw [hp] at C3 HG
  rw [hq] at C4 HG
  obtain ⟨g, hg⟩ : ∃ g, (⟨r, c, t⟩ : CE).good = g := ⟨_, rfl⟩
  rw [hg] at HG ⊢
  clear hp hq h1 h2 h3 hl hg
  have B1 := vec_made w [.int .i64 r, .int .i64 c, sV t] 37
  have X1 := x1 w (.cells #[.int .i64 r, .int .i64 c, sV t] 37)
  change Vec (w.alloc (.cells #[.int .i64 r, .int .i64 c, sV t] 37)) _ _ at B1
  obtain ⟨wa, ha⟩ : ∃ wa, w.alloc (.cells #[.int .i64 r, .int .i64 c, sV t] 37) = wa := ⟨_, rfl⟩
  rw [ha] at B1 X1
  have a0 := (B1 0 _ rfl).1
  have a1 := (B1 1 _ rfl).1
  have a2 := (B1 2 _ rfl).1
  go_enter Try.func17, Try.ntmps17
  go_wp2_with fail
  refine (C1 _).mono ?_
  rintro z w1 ⟨rfl, e1⟩
  go_wp2_with fail
  refine (C2 _).mono ?_
  rintro z w2 ⟨rfl, e2⟩
  go_wp2_with fail
  refine (C3 _).mono ?_
  rintro z w3 ⟨rfl, e3⟩
  have XX := xt e1 (xt e2 e3)
  have b2 := cell_later XX a2
  cases p
  · go_wp2_with fail
    go_ret
    exact ⟨ret_bool (by rw [HG.out]; simp), xt X1 XX⟩
  · go_wp2_with fail
    refine (C4 _).mono ?_
    rintro z w4 ⟨rfl, rfl⟩
    go_wp2_with fail
    go_ret
    exact ⟨ret_bool (by rw [HG.out]; simp), xt X1 XX⟩
theorem isGoodI2 (e : CE) (r c : Int) (w : World) (hr : r = e.r) (hc : c = e.c) (h1 : 1 ≤ e.r) (h2 : 1 ≤ e.c) (h3 : 1 ≤ e.t.length) (hl : e.t.length ≤ 2000000) : Calls Try.prog 17 #[.agg #[.int .i64 r, .int .i64 c, sV e.t]] w fun z w' => z = .returned (.bool e.good) ∧ Ext w w' := by
  subst hr hc
  exact isGoodI e w h1 h2 h3 hl
theorem le_sum_mem {l : List Nat} {a : Nat} (h : a ∈ l) : a ≤ l.sum := by
  induction l with
  | nil => cases h
  | cons b l ih =>
    rcases List.mem_cons.1 h with rfl | h
    · simp
    · have := ih h; simp; omega

end Go.Proofs.Ytichaheefailoaa
