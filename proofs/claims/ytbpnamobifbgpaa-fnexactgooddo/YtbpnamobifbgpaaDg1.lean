/-
  Chapter 16: operations that are good, by the program.
-/
import Derived.Test.YtbpnamobifbgpaaRef
import Derived.Test.YtbpnamobifbgpaaTg
import Derived.Test.YtbpnamobifbgpaaFe
import Derived.Test.YtbpnamobifbgpaaH1b
import Derived.Test.YtbpnamobifbgpaaH1c
namespace Go.Proofs.Ytbpnamobifbgpaa
open Go.RowKit

abbrev doV (k o r c : Int) (t : List UInt8) (a b m : Int) (d : Bool) : Value := .agg #[.int .i64 k, .int .i64 o, .int .i64 r, .int .i64 c, sV t, .int .i64 a, .int .i64 b, .int .i64 m, .bool d]
/-- A turn that is zero. -/
def zeroT (a b m : Int) (d : Bool) : Bool := decide (a = 0 ∧ b = 0 ∧ m = 0 ∧ d = false)
/-- A change that is zero. -/
def zeroC (r c : Int) (t : List UInt8) : Bool := decide (r = 0 ∧ c = 0 ∧ t = [])
/-- All of an operation zero. -/
def zeroD (k o r c : Int) (t : List UInt8) (a b m : Int) (d : Bool) : Bool := decide (k = 0 ∧ o = 0 ∧ r = 0 ∧ c = 0 ∧ t = [] ∧ a = 0 ∧ b = 0 ∧ m = 0 ∧ d = false)
def whoB (o : Int) : Bool := decide (0 ≤ o ∧ o ≤ 99)
/-- A change that may be made. -/
def goodCB (r c : Int) (t : List UInt8) : Bool := goodRB r c && printN 2000 t
/-- Whether an operation is good. -/
def goodDB (k o r c : Int) (t : List UInt8) (a b m : Int) (d : Bool) : Bool :=
  if k = 1 then whoB o && zeroT a b m d && goodCB r c t
  else if k = 2 then whoB o && zeroC r c t && goodTB a b m d
  else zeroD k o r c t a b m d

set_option maxHeartbeats 1000000 in
theorem turn_eql (a b m : Int) (d : Bool) (W : World) :
    (binOp BinOp.eql 31 (tuV a b m d) (tuV 0 0 0 false)).run Try.prog W = .ok (.bool (zeroT a b m d)) W := by
  unfold zeroT
  by_cases h : a = 0 ∧ b = 0 ∧ m = 0 ∧ d = false
  · obtain ⟨rfl, rfl, rfl, rfl⟩ := h
    go_simp
  · rw [decide_eq_false h]
    have H : Hid (¬ (a = 0 ∧ b = 0 ∧ m = 0 ∧ d = false)) := h
    clear h
    go_simp
    intros
    have := H.out
    simp_all
set_option maxHeartbeats 1000000 in
theorem change_eql (r c : Int) (t : List UInt8) (W : World) :
    (binOp BinOp.eql 30 (changeV r c t) (changeV 0 0 [])).run Try.prog W = .ok (.bool (zeroC r c t)) W := by
  unfold zeroC
  by_cases h : r = 0 ∧ c = 0 ∧ t = []
  · obtain ⟨rfl, rfl, rfl⟩ := h
    go_simp
  · rw [decide_eq_false h]
    have H : Hid (¬ (r = 0 ∧ c = 0 ∧ t = [])) := h
    clear h
    go_simp
    intros
    have := H.out
    simp_all
set_option maxHeartbeats 1000000 in
theorem do_eql (k o r c : Int) (t : List UInt8) (a b m : Int) (d : Bool) (W : World) :
    (binOp BinOp.eql 33 (doV k o r c t a b m d) (doV 0 0 0 0 [] 0 0 0 false)).run Try.prog W = .ok (.bool (zeroD k o r c t a b m d)) W := by
  unfold zeroD
  by_cases h : k = 0 ∧ o = 0 ∧ r = 0 ∧ c = 0 ∧ t = [] ∧ a = 0 ∧ b = 0 ∧ m = 0 ∧ d = false
  · obtain ⟨rfl, rfl, rfl, rfl, rfl, rfl, rfl, rfl, rfl⟩ := h
    go_simp
  · rw [decide_eq_false h]
    have H : Hid (¬ (k = 0 ∧ o = 0 ∧ r = 0 ∧ c = 0 ∧ t = [] ∧ a = 0 ∧ b = 0 ∧ m = 0 ∧ d = false)) := h
    clear h
    go_simp
    intros
    have := H.out
    simp_all

set_option maxHeartbeats 1000000 in
theorem cellTextD (l : List UInt8) (w : World) (hl : l.length ≤ 2000000) (h1 : 1 ≤ l.length) : Calls Try.prog 21 #[sV l] w fun e w' => e = .returned (.bool (printN 2000 l)) ∧ w' = w := by
  have C := fun W => plainI l W hl
  have E : printN 2000 l = (decide (l.length ≤ 2000) && plainB l) := by unfold printN plainB; rw [Bool.and_comm]
  rw [E]
  clear E
  obtain ⟨n, hn⟩ : ∃ n, l.length = n := ⟨_, rfl⟩
  have hne : (l == []) = false := by cases l with
    | nil => simp at h1
    | cons b l => rfl
  have hs : (⟨l.toArray⟩ : ByteArray).size = n := hn
  rw [hn] at hl h1 ⊢
  obtain ⟨p, hp⟩ : ∃ p, plainB l = p := ⟨_, rfl⟩
  rw [hp] at C ⊢
  clear hp hn
  by_cases h2 : n ≤ 2000
  · have f1 : decide ((n : Int) ≤ 2000) = true := by simp; omega
    rw [decide_eq_true h2]
    go_enter Try.func21, Try.ntmps21
    go_wp2_with (go_at_call 25; refine (C _).mono ?_; rintro e w' ⟨rfl, rfl⟩)
    go_ret
    exact ⟨ret_bool (by simp), rfl⟩
  · have f1 : decide ((n : Int) ≤ 2000) = false := by simp; omega
    rw [decide_eq_false h2]
    go_enter Try.func21, Try.ntmps21
    go_wp2_with (go_at_call 25; refine (C _).mono ?_; rintro e w' ⟨rfl, rfl⟩)
    go_ret
    exact ⟨ret_bool (by simp), rfl⟩
set_option maxHeartbeats 1000000 in
theorem spotCI (r c : Int) (l : List UInt8) (w : World) : Calls Try.prog 19 #[changeV r c l] w fun e w' => e = .returned (.agg #[.int .i64 r, .int .i64 c]) ∧ Ext w w' := by
  have X : ∀ o1 o2 : Obj, Ext w ((w.alloc o1).alloc o2) := fun o1 o2 => xa (x1 w o1) o2
  go_enter Try.func19, Try.ntmps19
  go_wp2_with fail
  exact bodyPost_ret (v := .agg #[.int .i64 r, .int .i64 c]) (by simp [results, Try.results19, go_sem]) rfl ⟨rfl, X _ _⟩
set_option maxHeartbeats 1000000 in
theorem refDI (r c : Int) (w : World) : Calls Try.prog 20 #[.agg #[.int .i64 r, .int .i64 c]] w fun e w' => e = .returned (refV r c false false) ∧ Ext w w' := by
  have X : ∀ o1 o2 : Obj, Ext w ((w.alloc o1).alloc o2) := fun o1 o2 => xa (x1 w o1) o2
  go_enter Try.func20, Try.ntmps20
  go_wp2_with fail
  exact bodyPost_ret (v := refV r c false false) (by simp [results, Try.results20, go_sem]) rfl ⟨rfl, X _ _⟩
set_option maxHeartbeats 1000000 in
theorem goodCI (r c : Int) (t : List UInt8) (w : World) (hl : t.length ≤ 2000000) : Calls Try.prog 14 #[changeV r c t] w fun z w' => z = .returned (.bool (goodCB r c t)) ∧ Ext w w' := by
  have C1 := fun W => spotCI r c t W
  have C2 := fun W => refDI r c W
  have C3 := fun W => goodRI r c false false W
  have C4 : Hid (1 ≤ t.length → ∀ W, Calls Try.prog 21 #[sV t] W fun e w' => e = .returned (.bool (printN 2000 t)) ∧ w' = W) := fun h1 W => cellTextD t W hl h1
  have HG : Hid (goodCB r c t = (goodRB r c && printN 2000 t)) := rfl
  obtain ⟨p, hp⟩ : ∃ p, goodRB r c = p := ⟨_, rfl⟩
  rw [hp] at C3 HG
  obtain ⟨g, hg⟩ : ∃ g, goodCB r c t = g := ⟨_, rfl⟩
  rw [hg] at HG ⊢
  clear hp hl hg
  have B1 := vec_made w [.int .i64 r, .int .i64 c, sV t] 30
  have X1 := x1 w (.cells #[.int .i64 r, .int .i64 c, sV t] 30)
  change Vec (w.alloc (.cells #[.int .i64 r, .int .i64 c, sV t] 30)) _ _ at B1
  obtain ⟨wa, ha⟩ : ∃ wa, w.alloc (.cells #[.int .i64 r, .int .i64 c, sV t] 30) = wa := ⟨_, rfl⟩
  rw [ha] at B1 X1
  have a0 := (B1 0 _ rfl).1
  have a1 := (B1 1 _ rfl).1
  have a2 := (B1 2 _ rfl).1
  go_enter Try.func14, Try.ntmps14
  go_wp2_with fail
  refine (C1 _).mono ?_
  rintro z w1 ⟨rfl, e1⟩
  go_wp2_with fail
  refine (C2 _).mono ?_
  rintro z w2 ⟨rfl, e2⟩
  go_wp2_with fail
  refine (C3 _).mono ?_
  rintro z w3 ⟨rfl, e3⟩
  have XX := xt e1 (xt e2 e3)
  have b2 := cell_later XX a2
  cases p
  · go_wp2_with fail
    go_ret
    exact ⟨ret_bool (by rw [HG.out]; simp), xt X1 XX⟩
  · cases t with
    | nil =>
      go_wp2_with fail
      go_ret
      exact ⟨ret_bool (by rw [HG.out]; rfl), xt X1 XX⟩
    | cons b l =>
      have C5 := C4.out (by simp)
      have hne : ((b :: l) == []) = false := rfl
      go_wp2_with fail
      refine (C5 _).mono ?_
      rintro z w4 ⟨rfl, rfl⟩
      go_wp2_with fail
      go_ret
      exact ⟨ret_bool (by rw [HG.out]; simp), xt X1 XX⟩

end Go.Proofs.Ytbpnamobifbgpaa
