/-
  Chapter 9: what is left of the first list, as the map has it; what is left of the map, as it is gone through.
-/
import Derived.Test.YtbipmeldmgpknaaD9s
import Derived.Test.YtbipmeldmgpknaaD9f
namespace Go.Proofs.Ytbipmeldmgpknaa
open Go.RowKit

theorem hit_swap (n o : ST) : n.hit o.r o.c = o.hit n.r n.c := by simp only [ST.hit, eq_comm]
def restM (A B : List ST) : List ST := A.reverse.filter fun o => !B.any fun n => n.hit o.r o.c
theorem restM_nil (A : List ST) : restM A [] = A.reverse := by simp [restM]
theorem restM_next (A B : List ST) (n : ST) : (restM A B).filter (fun e => !e.hit n.r n.c) = restM A (B ++ [n]) := by
  unfold restM
  rw [List.filter_filter]
  apply List.filter_congr
  intro o _
  rw [List.any_append, List.any_cons, List.any_nil, Bool.or_false, Bool.not_or, hit_swap n o, Bool.and_comm]
theorem restM_mem {A B : List ST} {e : ST} (h : e ∈ restM A B) : e ∈ A := by
  have := (List.mem_filter.1 h).1
  simpa using this
theorem restM_perm (A B : List ST) : (restM A B).Perm (leftA A B) := (List.reverse_perm A).filter _
theorem look_uniq {L : List ST} {r c : Int} {e : ST} (he : e ∈ L) (hh : e.hit r c = true) (hu : ∀ f ∈ L, f.hit r c = true → f = e) : lookAt L r c = e := by
  unfold lookAt
  cases h : L.find? fun e => e.hit r c with
  | none => exact absurd hh (by simpa using List.find?_eq_none.1 h e he)
  | some f => exact hu f (List.mem_of_find?_eq_some h) (by simpa using List.find?_some h)
theorem ris_uniq {A : List ST} (hA : RisL A) {e f : ST} (he : e ∈ A) (hf : f ∈ A) (hr : e.r = f.r) (hc : e.c = f.c) : e = f := by
  obtain ⟨i, hi, rfl⟩ := List.mem_iff_getElem.1 he
  obtain ⟨j, hj, rfl⟩ := List.mem_iff_getElem.1 hf
  rw [RisL, List.pairwise_iff_getElem] at hA
  rcases Nat.lt_trichotomy i j with h | h | h
  · have := lt_iff.1 (hA i j hi hj h); omega
  · subst h; rfl
  · have := lt_iff.1 (hA j i hj hi h); omega
theorem look_rest {A B : List ST} (hA : RisL A) {r c : Int} (hB : ∀ m ∈ B, m.hit r c = false) : lookAt (restM A B) r c = lookAt A r c := by
  by_cases h : ∃ e ∈ A, e.hit r c = true
  · obtain ⟨e, he, hh⟩ := h
    have hp := hit_iff.1 hh
    have uq : ∀ f ∈ A, f.hit r c = true → f = e := fun f hf hq => by
      have := hit_iff.1 hq
      exact ris_uniq hA hf he (by omega) (by omega)
    rw [look_uniq he hh uq]
    refine look_uniq (List.mem_filter.2 ⟨by simpa using he, ?_⟩) hh fun f hf hq => uq f (restM_mem hf) hq
    have : (B.any fun n => n.hit e.r e.c) = false := by
      rw [List.any_eq_false]
      intro m hm
      have := hB m hm
      rw [hp.1, hp.2, this]
      simp
    simp [this]
  · have h : ∀ e ∈ A, e.hit r c = false := fun e he => by
      cases q : e.hit r c with
      | false => rfl
      | true => exact absurd ⟨e, he, q⟩ h
    rw [lookAt_none h, lookAt_none fun e he => h e (restM_mem he)]
theorem take_hits {B : List ST} (hB : RisL B) {k : Nat} {n : ST} (hn : B[k]? = some n) : ∀ m ∈ B.take k, m.hit n.r n.c = false := by
  intro m hm
  obtain ⟨i, hi, rfl⟩ := List.mem_iff_getElem.1 hm
  have hik : i < k := by have := hi; simp at this; omega
  obtain ⟨hk, rfl⟩ := List.getElem?_eq_some_iff.1 hn
  rw [RisL, List.pairwise_iff_getElem] at hB
  have hil : i < B.length := by omega
  have := hB i k hil hk hik
  rw [List.getElem_take]
  exact (not_hit_of_lt this).1
theorem take_next {B : List ST} {k : Nat} {n : ST} (hn : B[k]? = some n) : B.take (k + 1) = B.take k ++ [n] := by
  rw [List.take_add_one, hn]
  rfl
theorem diffB_next (A B : List ST) (n : ST) : diffB A (B ++ [n]) = diffB A B ++ (if n.like (lookAt A n.r n.c) then [] else [n]) := by
  unfold diffB
  rw [List.filter_append, List.filter_cons]
  cases n.like (lookAt A n.r n.c) <;> simp
theorem rest_apart {A B : List ST} (hA : RisL A) (hI : ∀ e ∈ A, InS e) : (restM A B).Pairwise fun e f => klOf e.r e.c ≠ klOf f.r f.c := by
  have h1 : A.reverse.Pairwise fun e f => klOf e.r e.c ≠ klOf f.r f.c := by
    rw [List.pairwise_reverse]
    refine List.Pairwise.imp_of_mem (fun {e f} he hf h q => ?_) hA
    obtain ⟨q1, q2⟩ := klOf_inj (hI f hf).1 (hI f hf).2 (hI e he).1 (hI e he).2 q
    have := lt_iff.1 h
    omega
  exact h1.filter _

/-- What is still to come. -/
def Todo (left : Lit → Bool) (T : List ST) : Prop := (T.Pairwise fun e f => klOf e.r e.c ≠ klOf f.r f.c) ∧ ∀ k, left k = T.any fun e => isKl e k
theorem Todo.none {left : Lit → Bool} {T : List ST} (h : Todo left T) (hl : ∀ k, left k = false) : T = [] := by
  cases T with
  | nil => rfl
  | cons e T =>
    have := h.2 (klOf e.r e.c)
    rw [hl, List.any_cons, isKl_iff.2 rfl] at this
    cases this
theorem Todo.some {left : Lit → Bool} {T : List ST} (h : Todo left T) {k : Lit} (hk : left k = true) : ∃ e ∈ T, klOf e.r e.c = k := by
  rw [h.2, List.any_eq_true] at hk
  obtain ⟨e, he, hq⟩ := hk
  exact ⟨e, he, isKl_iff.1 hq⟩
theorem perm_pick {T : List ST} (h : T.Pairwise fun e f => klOf e.r e.c ≠ klOf f.r f.c) {e : ST} (he : e ∈ T) : T.Perm (e :: T.filter fun f => !isKl f (klOf e.r e.c)) := by
  induction T with
  | nil => cases he
  | cons x T ih =>
    obtain ⟨h1, h2⟩ := List.pairwise_cons.1 h
    rw [List.filter_cons]
    rcases List.mem_cons.1 he with rfl | he
    · rw [isKl_iff.2 rfl]
      have : (T.filter fun f => !isKl f (klOf e.r e.c)) = T := List.filter_eq_self.2 fun f hf => by rw [isKl_false.2 (h1 f hf).symm]; rfl
      rw [this]
      exact List.Perm.refl _
    · rw [isKl_false.2 (h1 e he)]
      exact ((ih h2 he).cons x).trans (List.Perm.swap _ _ _)
theorem Todo.next {left : Lit → Bool} {T : List ST} (h : Todo left T) {e : ST} (hI : InS e) : Todo (fun z => left z && !z.sameKey (klOf e.r e.c)) (T.filter fun f => !isKl f (klOf e.r e.c)) := by
  refine ⟨h.1.filter _, fun k => ?_⟩
  show (left k && !k.sameKey (klOf e.r e.c)) = _
  rw [h.2, List.any_filter]
  by_cases q : k = klOf e.r e.c
  · subst q
    rw [WideAt.sameKey_self (klOf_lit hI), Bool.not_true, Bool.and_false]
    symm
    rw [List.any_eq_false]
    intro f _
    cases isKl f (klOf e.r e.c) <;> simp
  · have : k.sameKey (klOf e.r e.c) = false := by
      cases p : k.sameKey (klOf e.r e.c) with
      | false => rfl
      | true => exact absurd (WideAt.sameKey_eq p) q
    rw [this, Bool.not_false, Bool.and_true]
    congr 1
    funext f
    cases p : isKl f k with
    | false => simp
    | true =>
      rw [isKl_false.2 (by rw [isKl_iff.1 p]; exact q)]
      rfl
theorem Todo.start {D : DataW Unit} {M : List ST} (h : HoldsS D M) (hM : M.Pairwise fun e f => klOf e.r e.c ≠ klOf f.r f.c) : Todo (Maps.has D) M := ⟨hM, h.2.1⟩
/-- What comes up of the map: the place, and what was there. -/
theorem HoldsS.entry {D : DataW Unit} {M : List ST} (h : HoldsS D M) (hM : M.Pairwise fun e f => klOf e.r e.c ≠ klOf f.r f.c) {e : ST} (he : e ∈ M) {v : Value} {y : DataW Unit × List MemPlace}
    (hv : shR v = some y) (hat : ∀ z, D.atKey (klOf e.r e.c) z = y.1) : v = .agg e.cells.toArray := by
  obtain ⟨f, rfl, rfl⟩ := shR_inv hv
  have h1 := hat (shD zeroST)
  rw [h.2.2] at h1
  cases hf : M.find? fun g => isKl g (klOf e.r e.c) with
  | none =>
    have := List.find?_eq_none.1 hf e he
    rw [isKl_iff.2 rfl] at this
    exact absurd rfl this
  | some g =>
    rw [hf] at h1
    have hg := List.mem_of_find?_eq_some hf
    have hk : klOf g.r g.c = klOf e.r e.c := isKl_iff.1 (by simpa using List.find?_some hf)
    have : g = e := by
      obtain ⟨i, hi, rfl⟩ := List.mem_iff_getElem.1 hg
      obtain ⟨j, hj, rfl⟩ := List.mem_iff_getElem.1 he
      rw [List.pairwise_iff_getElem] at hM
      rcases Nat.lt_trichotomy i j with q | q | q
      · exact absurd hk (hM i j hi hj q)
      · subst q; rfl
      · exact absurd hk.symm (hM j i hj hi q)
    subst this
    rw [shD_inj h1]

end Go.Proofs.Ytbipmeldmgpknaa
