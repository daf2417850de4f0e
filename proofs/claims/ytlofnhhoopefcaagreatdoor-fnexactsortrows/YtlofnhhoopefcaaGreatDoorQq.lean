/-
  Chapter 11: whether a key's column is none, of the program.
-/
import Derived.Test.YtlofnhhoopefcaaGreatDoorQc
import Derived.Test.YtlofnhhoopefcaaGreatDoorY1d
namespace Go.Proofs.YtlofnhhoopefcaaGreatDoor
open Go.RowKit

abbrev YT.val (e : YT) : Value := sortKeyV e.cl e.dn
set_option maxHeartbeats 2000000 in
theorem lackingI (r c : Int) (v : Value) (e : YT) (B : Nat) (w : World) (H : Vec w B [.int .i64 r, .int .i64 c, v]) (hv : ∃ p n k, v = .slice p n k) :
  Calls Tryz.prog 25 #[e.val, .pointer (some ⟨B, 0, none⟩)] w fun z w' => z = .returned (.bool (decide (e.cl < 1 ∨ c < e.cl))) ∧ Ext w w' := by
 obtain ⟨z, d⟩ := e
 obtain ⟨p, n, k, rfl⟩ := hv
 have X0 := x1 w (.cells #[.int .i64 z, .bool d] 48)
 have K0 := vec_made w [.int .i64 z, .bool d] 48
 change Vec (w.alloc (.cells #[.int .i64 z, .bool d] 48)) _ _ at K0
 have CL := fun W => lacksI r c (.slice p n k) z W
 obtain ⟨R, hR⟩ : ∃ R, decide (z < 1 ∨ c < z) = R := ⟨_, rfl⟩
 rw [hR] at CL
 simp only
 rw [hR]
 have k0 := (K0 0 _ rfl).1
 obtain ⟨a0, a1, a2⟩ := Vec.three (H.later X0)
 clear hR
 go_enter Tryz.func25, Tryz.ntmps25
 go_wp2_with (go_at_call 26; refine (CL _).mono ?_; rintro e w1 ⟨rfl, e1⟩)
 go_ret
 exact ⟨rfl, xt X0 e1⟩

/-- What a function says of keys. -/
structure AsksK (w : World) (f : Nat) (lb : Array Value) (p : YT → Bool) : Prop where
 ent : ∀ args w, (callFunc f args).run Tryz.prog w = .ok (.enter f args) w
 says : ∀ W e, Ext w W → Calls Tryz.prog f (#[YT.val e] ++ lb) W fun z w' => z = .returned (.bool (p e)) ∧ Ext W w'
set_option maxRecDepth 8000 in
set_option maxHeartbeats 2000000 in
theorem indexKI (f : Nat) (lb : Array Value) (v : Value) (l : List YT) (p : YT → Bool) (w : World) (A : AsksK w f lb p) (h : SortKeysIn w v l) (hl : l.length ≤ 2000) :
  Calls Tryz.prog 44 #[v, .func (.func f) #[] lb] w fun e w' =>
   ((e = .returned (.int .i64 (-1)) ∧ l.any p = false) ∨ ∃ m : Nat, e = .returned (.int .i64 m) ∧ l.any p = true ∧ m < 2000) ∧ Ext w w' := by
 have ent := A.ent
 have HA : Hid (AsksK w f lb p) := A
 obtain ⟨pk, nk, rfl, hc, hrow⟩ := h
 have HV : Hid (0 < l.length → ∃ b o, pk = some ⟨b, o, none⟩ ∧ RowY w b o l) := hrow
 obtain ⟨n, hn⟩ : ∃ n, l.length = n := ⟨_, rfl⟩
 have HN : Hid (l.length = n) := hn
 rw [hn] at hc hl HV ⊢
 clear hrow A hn
 go_enter Tryz.func44, Tryz.ntmps44
 go_wp2_with fail
 go_loopw [8] (fun i wr => ∃ k : Nat, k ≤ n ∧ i = .int .i64 k ∧ Hid (Ext w wr ∧ ∀ j x, j < k → l[j]? = some x → p x = false)) (fun i _ => n - (intOf i).toNat)
 case atStart => exact ⟨0, by omega, rfl, xr _, fun j x hj => absurd hj (by omega)⟩
 case round =>
  obtain ⟨k, hk, rfl, HO⟩ := hrel
  by_cases hlt : k < n
  ·
   have i2 : (k : Int) < (n : Int) := by omega
   obtain ⟨⟨z, d⟩, hx⟩ : ∃ x, l[k]? = some x := ⟨_, List.getElem?_eq_getElem (by rw [HN.out]; exact hlt)⟩
   obtain ⟨b, o, rfl, RW⟩ := HV.out (by omega)
   obtain ⟨a0, a1⟩ := (RW.later HO.out.1).all hx
   have CA := HA.out.says wr ⟨z, d⟩ HO.out.1
   have HX : Hid (l[k]? = some ⟨z, d⟩) := hx
   obtain ⟨q, hq⟩ : ∃ q, p ⟨z, d⟩ = q := ⟨_, rfl⟩
   have HQ : Hid (p ⟨z, d⟩ = q) := hq
   rw [hq] at CA
   simp only at a0 a1
   clear hx hq RW
   cases q
   ·
    go_wp2_with (go_at_fn f; refine CA.mono ?_; rintro e w1 ⟨rfl, e1⟩)
    have HM : Hid (Ext w w1 ∧ ∀ j x, j < k + 1 → l[j]? = some x → p x = false) := ⟨xt HO.out.1 e1, fun j y hj hy => by
     by_cases e : j = k
     ·
      subst e
      rw [HX.out] at hy
      cases hy
      exact HQ.out
     ·
      exact HO.out.2 j y (by omega) hy⟩
    go_roundw
    case rel => exact ⟨k + 1, by omega, by go_num, HM⟩
    case measure => simp [intOf]; omega
   ·
    go_wp2_with (go_at_fn f; refine CA.mono ?_; rintro e w1 ⟨rfl, e1⟩)
    go_ret
    exact ⟨Or.inr ⟨k, rfl, List.any_eq_true.2 ⟨_, List.mem_of_getElem? HX.out, HQ.out⟩, by omega⟩, xt HO.out.1 e1⟩
  ·
   obtain rfl : k = n := by omega
   have i2 : ¬ (k : Int) < (k : Int) := by omega
   go_wp2_with fail
   go_ret
   refine ⟨Or.inl ⟨rfl, ?_⟩, HO.out.1⟩
   intro x hx
   obtain ⟨j, hj, rfl⟩ := List.getElem_of_mem hx
   exact HO.out.2 j _ (by rw [← HN.out]; exact hj) (List.getElem?_eq_getElem hj)
set_option maxHeartbeats 2000000 in
theorem containsKI (f : Nat) (lb : Array Value) (v : Value) (l : List YT) (p : YT → Bool) (w : World) (A : AsksK w f lb p) (h : SortKeysIn w v l) (hl : l.length ≤ 2000) :
  Calls Tryz.prog 28 #[v, .func (.func f) #[] lb] w fun e w' => e = .returned (.bool (l.any p)) ∧ Ext w w' := by
 have C0 := indexKI f lb v l p w A h hl
 obtain ⟨pk, nk, rfl, _, _⟩ := h
 obtain ⟨R, hR⟩ : ∃ R, l.any p = R := ⟨_, rfl⟩
 rw [hR] at C0 ⊢
 obtain ⟨n, hn⟩ : ∃ n, l.length = n := ⟨_, rfl⟩
 rw [hn] at C0 hl ⊢
 clear A hR hn
 go_enter Tryz.func28, Tryz.ntmps28
 go_wp2_with fail
 refine C0.mono ?_
 rintro e w1 ⟨⟨rfl, rfl⟩ | ⟨m, rfl, rfl, hm⟩, e1⟩
 ·
  go_wp2_with fail
  go_ret
  exact ⟨rfl, e1⟩
 ·
  have m0 : (0 : Int) ≤ (m : Int) := by omega
  have m1 : decide ((m : Int) ≥ 0) = true := decide_eq_true m0
  go_wp2_with fail
  go_ret
  exact ⟨rfl, e1⟩

end Go.Proofs.YtlofnhhoopefcaaGreatDoor

