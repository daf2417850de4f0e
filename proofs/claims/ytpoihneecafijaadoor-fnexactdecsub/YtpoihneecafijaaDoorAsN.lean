/-
  The plain mathematics of a sum of decimals.
-/
import Derived.Test.YtpoihneecafijaaDoorPutM
import Derived.Test.YtpoihneecafijaaDoorZval
namespace Go.Proofs.YtpoihneecafijaaDoor

/-- The whole number that a sum is, at the lesser power. -/
def sumI (na : Bool) (da ea : Int) (nb : Bool) (db eb : Int) : Int := sgn na da * 10 ^ (ea - min ea eb).toNat + sgn nb db * 10 ^ (eb - min ea eb).toNat
def sumZ (na : Bool) (da ea : Int) (nb : Bool) (db eb : Int) : DR := putR (decide (sumI na da ea nb db eb < 0)) (sumI na da ea nb db eb).natAbs (min ea eb) false
theorem sum_comm (na : Bool) (da ea : Int) (nb : Bool) (db eb : Int) : sumZ na da ea nb db eb = sumZ nb db eb na da ea := by
  unfold sumZ sumI
  rw [Int.min_comm eb ea, Int.add_comm]
theorem sumI_ge {na nb : Bool} {A B m : Nat} {ea eb : Int} (h : ea = eb + m) : sumI na A ea nb B eb = sgn na ((A * 10 ^ m : Nat) : Int) + sgn nb B ∧ min ea eb = eb := by
  have e1 : min ea eb = eb := by omega
  refine ⟨?_, e1⟩
  unfold sumI
  have e2 : (ea - min ea eb).toNat = m := by omega
  have e3 : (eb - min ea eb).toNat = 0 := by omega
  rw [e2, e3]
  have e4 : ((A * 10 ^ m : Nat) : Int) = (A : Int) * 10 ^ m := by rw [Int.natCast_mul, Int.natCast_pow]; rfl
  rw [e4]
  cases na <;> simp [sgn, Int.neg_mul]
theorem put_sign0 {s t : Bool} {P : Nat} {e : Int} {m : Bool} (h : P ≠ 0 → s = t) : putR s P e m = putR t P e m := by
  by_cases h0 : P = 0
  · subst h0
    unfold putR fitR
    simp [nd_zero]
  · rw [h h0]
theorem sum_same {n : Bool} {A B m : Nat} {ea eb : Int} (h : ea = eb + m) : sumZ n A ea n B eb = putR n (A * 10 ^ m + B) eb false := by
  obtain ⟨e1, e2⟩ := sumI_ge (na := n) (nb := n) (A := A) (B := B) h
  unfold sumZ
  rw [e1, e2]
  generalize A * 10 ^ m = X
  cases n
  · have e3 : (sgn false (X : Int) + sgn false (B : Int)).natAbs = X + B := by simp [sgn]; omega
    rw [e3]
    exact put_sign0 (fun _ => by simp [sgn]; omega)
  · have e3 : (sgn true (X : Int) + sgn true (B : Int)).natAbs = X + B := by simp [sgn]; omega
    rw [e3]
    exact put_sign0 (fun _ => by simp [sgn]; omega)
theorem sum_more {na nb : Bool} {A B m : Nat} {ea eb : Int} (h : ea = eb + m) (hn : na ≠ nb) (hge : B ≤ A * 10 ^ m) : sumZ na A ea nb B eb = putR na (A * 10 ^ m - B) eb false := by
  obtain ⟨e1, e2⟩ := sumI_ge (na := na) (nb := nb) (A := A) (B := B) h
  unfold sumZ
  rw [e1, e2]
  generalize A * 10 ^ m = X at *
  cases na <;> cases nb
  · exact absurd rfl hn
  · have e3 : (sgn false (X : Int) + sgn true (B : Int)).natAbs = X - B := by simp [sgn]; omega
    rw [e3]
    exact put_sign0 (fun _ => by simp [sgn]; omega)
  · have e3 : (sgn true (X : Int) + sgn false (B : Int)).natAbs = X - B := by simp [sgn]; omega
    rw [e3]
    exact put_sign0 (fun _ => by simp [sgn]; omega)
  · exact absurd rfl hn
theorem sum_less {na nb : Bool} {A B m : Nat} {ea eb : Int} (h : ea = eb + m) (hn : na ≠ nb) (hlt : A * 10 ^ m < B) : sumZ na A ea nb B eb = putR nb (B - A * 10 ^ m) eb false := by
  obtain ⟨e1, e2⟩ := sumI_ge (na := na) (nb := nb) (A := A) (B := B) h
  unfold sumZ
  rw [e1, e2]
  generalize A * 10 ^ m = X at *
  cases na <;> cases nb
  · exact absurd rfl hn
  · have e3 : (sgn false (X : Int) + sgn true (B : Int)).natAbs = B - X := by simp [sgn]; omega
    rw [e3]
    exact put_sign0 (fun _ => by simp [sgn]; omega)
  · have e3 : (sgn true (X : Int) + sgn false (B : Int)).natAbs = B - X := by simp [sgn]; omega
    rw [e3]
    exact put_sign0 (fun _ => by simp [sgn]; omega)
  · exact absurd rfl hn
/-- What lies far apart: the greater one stays. -/
theorem sum_far {na nb : Bool} {A B m : Nat} {ea eb : Int} (h : ea = eb + m) (hA : A % 10 ≠ 0) (hA1 : A < 1000000000000000) (hB : 0 < B) (hB1 : B < 1000000000000000) (hm : 38 < nd A + m) (e0 : -300 ≤ ea) (e1 : ea ≤ 300) : sumZ na A ea nb B eb = ⟨true, na, A, ea⟩ := by
  have hbig : B ≤ A * 10 ^ m := by
    have h1 := nd_mul A m (by omega)
    have h2 := nd_lt (a := A * 10 ^ m) (k := 38) (by omega)
    have := far_pow
    omega
  by_cases hn : na = nb
  · subst hn
    rw [sum_same h]
    have := put_far na false A B m eb hA hA1 hB hB1 hm (by omega) (by omega)
    rw [h]
    exact this
  · rw [sum_more h hn hbig]
    have := put_far na true A B m eb hA hA1 hB hB1 hm (by omega) (by omega)
    rw [h]
    exact this
/-- Nothing added. -/
theorem sum_zero {na nb : Bool} {d e : Int} (d0 : 0 ≤ d) (d1 : d < 1000000000000000) (hg : d = 0 → e = 0 ∧ nb = false) (hd : d ≠ 0 → d % 10 ≠ 0 ∧ -300 ≤ e ∧ e ≤ 300) : sumZ na 0 e nb d e = ⟨true, nb, d, e⟩ := by
  obtain ⟨D, rfl⟩ := Int.eq_ofNat_of_zero_le d0
  have e1 : sumI na 0 e nb (D : Int) e = sgn nb (D : Int) := by
    unfold sumI
    have : (e - min e e).toNat = 0 := by omega
    rw [this]
    cases na <;> simp [sgn]
  have e2 : min e e = e := by omega
  unfold sumZ
  rw [e1, e2]
  have e3 : (sgn nb (D : Int)).natAbs = D := by cases nb <;> simp [sgn]
  rw [e3]
  by_cases h0 : D = 0
  · subst h0
    obtain ⟨rfl, rfl⟩ := hg rfl
    unfold putR fitR
    simp [nd_zero]
  · obtain ⟨g1, g2, g3⟩ := hd (by omega)
    rw [put_sign0 (t := nb) (fun _ => by cases nb <;> simp [sgn] <;> omega)]
    exact put_good nb D e (by omega) (by omega) g2 g3

end Go.Proofs.YtpoihneecafijaaDoor
