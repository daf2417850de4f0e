/-
  Several texts in one: G1, V6n.
-/
import Derived.Test.YtfgohahfppabbaaGreatDoorMg2
import Derived.Test.YtfgohahfppabbaaGreatDoorMg3
import Derived.Shelf.Abstract
import Derived.Test.YtfgohahfppabbaaGreatDoorMg0
import Derived.Lib.Bytealg
namespace Go.Proofs.YtfgohahfppabbaaGreatDoor
open Go.RowKit

theorem foldB (f : Int) (w : World) : Calls Tryz.prog 17 #[.int .i64 f] w fun e w' => e = .returned (.bool (decide (1 ≤ f ∧ f ≤ 5))) ∧ w' = w := by
 by_cases h1 : 1 ≤ f
 ·
  have f1 : decide (1 ≤ f) = true := decide_eq_true h1
  have e : decide (1 ≤ f ∧ f ≤ 5) = decide (f ≤ 5) := decide_eq_decide.2 ⟨fun h => h.2, fun h => ⟨h1, h⟩⟩
  rw [e]
  go_enter Tryz.func17, Tryz.ntmps17
  go_wp2_with fail
  go_ret
  exact ⟨rfl, rfl⟩
 ·
  have f1 : decide (1 ≤ f) = false := decide_eq_false h1
  rw [decide_eq_false (p := 1 ≤ f ∧ f ≤ 5) (fun h => h1 h.1)]
  go_enter Tryz.func17, Tryz.ntmps17
  go_wp2_with fail
  go_ret
  exact ⟨rfl, rfl⟩
set_option maxHeartbeats 2000000 in
theorem badF (e : VT) (w : World) (hr : e.room) (hT : Tens w) (hE : ErrTab w) :
  Calls Tryz.prog 15 #[e.val] w fun z w' => z = .returned (.bool (!e.good)) ∧ Ext w w' := by
 obtain ⟨k, n, d, x, t⟩ := e
 have X0 := x1 w (.cells #[.int .i64 k, .bool n, .int .i64 d, .int .i64 x, sV t] 27)
 have B0 := vec_made w (valL k n d x t) 27
 change Vec (w.alloc (.cells #[.int .i64 k, .bool n, .int .i64 d, .int .i64 x, sV t] 27)) _ _ at B0
 have CG := goodVI k n d x t (w.alloc (.cells #[.int .i64 k, .bool n, .int .i64 d, .int .i64 x, sV t] 27)) hr.1 hr.2.1 hr.2.2 (hT.later X0) (hE.later X0)
 obtain ⟨R, hR⟩ : ∃ R, goodV k n d x t = R := ⟨_, rfl⟩
 have e1 : VT.good ⟨k, n, d, x, t⟩ = R := hR
 rw [hR] at CG
 rw [e1]
 obtain ⟨a0, a1, a2, a3, a4⟩ := Vec.five B0
 clear hR e1 hT hE hr
 go_enter Tryz.func15, Tryz.ntmps15
 go_wp2_with (go_at_call 16; refine CG.mono ?_; rintro e w1 ⟨rfl, e1⟩)
 go_ret
 exact ⟨rfl, xt X0 e1⟩
theorem fullF (e : VT) (w : World) : Calls Tryz.prog 22 #[e.val] w fun z w' => z = .returned (.bool (e.k != 0)) ∧ Ext w w' := by
 obtain ⟨k, n, d, x, t⟩ := e
 have X0 := x1 w (.cells #[.int .i64 k, .bool n, .int .i64 d, .int .i64 x, sV t] 27)
 have B0 := vec_made w (valL k n d x t) 27
 change Vec (w.alloc (.cells #[.int .i64 k, .bool n, .int .i64 d, .int .i64 x, sV t] 27)) _ _ at B0
 obtain ⟨a0, a1, a2, a3, a4⟩ := Vec.five B0
 go_enter Tryz.func22, Tryz.ntmps22
 go_wp2_with fail
 go_ret
 exact ⟨rfl, X0⟩
theorem otherF (e : VT) (w : World) : Calls Tryz.prog 25 #[e.val] w fun z w' => z = .returned (.bool (e.k != 1)) ∧ Ext w w' := by
 obtain ⟨k, n, d, x, t⟩ := e
 have X0 := x1 w (.cells #[.int .i64 k, .bool n, .int .i64 d, .int .i64 x, sV t] 27)
 have B0 := vec_made w (valL k n d x t) 27
 change Vec (w.alloc (.cells #[.int .i64 k, .bool n, .int .i64 d, .int .i64 x, sV t] 27)) _ _ at B0
 obtain ⟨a0, a1, a2, a3, a4⟩ := Vec.five B0
 go_enter Tryz.func25, Tryz.ntmps25
 go_wp2_with fail
 go_ret
 exact ⟨rfl, X0⟩
/-- What a function says of values. -/
structure AsksF (w : World) (f : Nat) (L : List VT) (p : VT → Bool) : Prop where
 ent : ∀ args w, (callFunc f args).run Tryz.prog w = .ok (.enter f args) w
 says : ∀ W e, Ext w W → e ∈ L → Calls Tryz.prog f #[e.val] W fun z w' => z = .returned (.bool (p e)) ∧ Ext W w'
/-- What slices.IndexFunc answers. -/
def FirstF (l : List VT) (p : VT → Bool) (e : Ending) : Prop :=
 (e = .returned (.int .i64 (-1)) ∧ ∀ x ∈ l, p x = false) ∨ ∃ (m : Nat) (x : VT), e = .returned (.int .i64 m) ∧ l[m]? = some x ∧ p x = true ∧ ∀ j y, j < m → l[j]? = some y → p y = false
set_option maxRecDepth 8000 in
set_option maxHeartbeats 2000000 in
theorem indexF (f : Nat) (v : Value) (l : List VT) (p : VT → Bool) (w : World) (A : AsksF w f l p) (h : ValsIn w v l) (hl : l.length ≤ 1048576) :
  Calls Tryz.prog 23 #[v, .func (.func f) #[] #[]] w fun e w' => FirstF l p e ∧ Ext w w' := by
 have ent := A.ent
 have HA : Hid (∀ W e, Ext w W → e ∈ l → Calls Tryz.prog f #[e.val] W fun z w' => z = .returned (.bool (p e)) ∧ Ext W w') := A.says
 obtain ⟨pk, nk, rfl, hc, hrow⟩ := h
 have HV : Hid (0 < l.length → ∃ b o, pk = some ⟨b, o, none⟩ ∧ RowV w b o l) := hrow
 obtain ⟨n, hn⟩ : ∃ n, l.length = n := ⟨_, rfl⟩
 have HN : Hid (l.length = n) := hn
 rw [hn] at hc hl HV ⊢
 clear hrow A hn
 go_enter Tryz.func23, Tryz.ntmps23
 go_wp2_with fail
 go_loopw [8] (fun i wr => ∃ k : Nat, k ≤ n ∧ i = .int .i64 k ∧ Hid (Ext w wr ∧ ∀ j x, j < k → l[j]? = some x → p x = false)) (fun i _ => n - (intOf i).toNat)
 case atStart => exact ⟨0, by omega, rfl, xr _, fun j x hj => absurd hj (by omega)⟩
 case round =>
  obtain ⟨k, hk, rfl, HO⟩ := hrel
  by_cases hlt : k < n
  ·
   have i2 : (k : Int) < (n : Int) := by omega
   obtain ⟨⟨vk, vn, vd, vx, vt⟩, hx⟩ : ∃ x, l[k]? = some x := ⟨_, List.getElem?_eq_getElem (by rw [HN.out]; exact hlt)⟩
   obtain ⟨b, o, rfl, RW⟩ := HV.out (by omega)
   obtain ⟨a0, a1, a2, a3, a4⟩ := (RW.later HO.out.1).five hx
   have CA := HA.out wr ⟨vk, vn, vd, vx, vt⟩ HO.out.1 (List.mem_of_getElem? hx)
   have HX : Hid (l[k]? = some ⟨vk, vn, vd, vx, vt⟩) := hx
   obtain ⟨q, hq⟩ : ∃ q, p ⟨vk, vn, vd, vx, vt⟩ = q := ⟨_, rfl⟩
   have HQ : Hid (p ⟨vk, vn, vd, vx, vt⟩ = q) := hq
   rw [hq] at CA
   simp only at a0 a1 a2 a3 a4
   clear hx hq RW
   cases q
   ·
    go_wp2_with (go_at_fn f; refine CA.mono ?_; rintro e w1 ⟨rfl, e1⟩)
    have HM : Hid (Ext w w1 ∧ ∀ j x, j < k + 1 → l[j]? = some x → p x = false) := ⟨xt HO.out.1 e1, fun j y hj hy => by
     by_cases e : j = k
     ·
      subst e
      rw [HX.out] at hy
      cases hy
      exact HQ.out
     ·
      exact HO.out.2 j y (by omega) hy⟩
    go_roundw
    case rel => exact ⟨k + 1, by omega, by go_num, HM⟩
    case measure => simp [intOf]; omega
   ·
    go_wp2_with (go_at_fn f; refine CA.mono ?_; rintro e w1 ⟨rfl, e1⟩)
    go_ret
    exact ⟨Or.inr ⟨k, _, rfl, HX.out, HQ.out, HO.out.2⟩, xt HO.out.1 e1⟩
  ·
   obtain rfl : k = n := by omega
   have i2 : ¬ (k : Int) < (k : Int) := by omega
   go_wp2_with fail
   go_ret
   refine ⟨Or.inl ⟨rfl, fun x hx => ?_⟩, HO.out.1⟩
   obtain ⟨j, hj, rfl⟩ := List.getElem_of_mem hx
   exact HO.out.2 j _ (by rw [← HN.out]; exact hj) (List.getElem?_eq_getElem hj)
set_option maxHeartbeats 2000000 in
theorem containsF (f : Nat) (v : Value) (l : List VT) (p : VT → Bool) (w : World) (A : AsksF w f l p) (h : ValsIn w v l) (hl : l.length ≤ 1048576) :
  Calls Tryz.prog 18 #[v, .func (.func f) #[] #[]] w fun e w' => e = .returned (.bool (l.any p)) ∧ Ext w w' := by
 have C0 := indexF f v l p w A h hl
 obtain ⟨pk, nk, rfl, _, _⟩ := h
 have HR : Hid ((∀ x ∈ l, p x = false) → l.any p = false) := fun h => by
  rw [Bool.eq_false_iff]
  intro hc
  obtain ⟨x, hx, hp⟩ := List.any_eq_true.1 hc
  rw [h x hx] at hp
  cases hp
 have HS : Hid (∀ (m : Nat) x, l[m]? = some x → p x = true → l.any p = true) := fun m x hm hp => List.any_eq_true.2 ⟨x, List.mem_of_getElem? hm, hp⟩
 obtain ⟨R, hR⟩ : ∃ R, l.any p = R := ⟨_, rfl⟩
 rw [hR] at HR HS ⊢
 obtain ⟨n, hn⟩ : ∃ n, l.length = n := ⟨_, rfl⟩
 rw [hn] at C0 hl ⊢
 clear A hR hn
 go_enter Tryz.func18, Tryz.ntmps18
 go_wp2_with fail
 refine C0.mono ?_
 rintro e w1 ⟨⟨rfl, h⟩ | ⟨m, x, rfl, hm, hp, -⟩, e1⟩
 ·
  obtain rfl := HR.out h
  clear h
  go_wp2_with fail
  go_ret
  exact ⟨rfl, e1⟩
 ·
  obtain rfl := HS.out m x hm hp
  clear hm hp
  have m0 : (0 : Int) ≤ (m : Int) := by omega
  have m1 : decide ((m : Int) ≥ 0) = true := decide_eq_true m0
  go_wp2_with fail
  go_ret
  exact ⟨rfl, e1⟩

end Go.Proofs.YtfgohahfppabbaaGreatDoor

