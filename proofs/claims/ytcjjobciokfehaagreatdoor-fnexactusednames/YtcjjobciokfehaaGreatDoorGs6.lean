/-
  Chapter 4: trees taken of nodes, of the specification.
-/
import Derived.Test.YtcjjobciokfehaaGreatDoorMg31
import Derived.Deep.DeepCutAuto
namespace Go.Proofs.YtcjjobciokfehaaGreatDoor
open Go.RowKit

theorem take_suffix : ∀ (F : Nat) (l : List NT) (t : ET) (r : List NT), takeF F l = some (t, r) → r <:+ l
 | 0, _, _, _, h => by cases h
 | F + 1, [], _, _, h => by cases h
 | F + 1, n :: rest, t, r, h => by
  rw [takeF] at h
  split at h
  ·
   split at h
   ·
    cases h
   ·
    next ks r1 h1 =>
    cases h
    exact (manyF_suffix (take_suffix F) _ _ _ _ h1).trans (List.suffix_cons _ _)
  ·
   cases h
theorem heap_setCellsG {b : Nat} : ∀ (us : List Value) (o : Nat) (w : World) (k : Nat), k ≠ b → (w.setCells b o us).heap[k]? = w.heap[k]?
 | [], _, _, _, _ => rfl
 | _ :: us, o, _, k, h => (heap_setCellsG us (o + 1) _ k h).trans (Below.heap_setCell _ _ _ _ h)
theorem size_setCellsG {b : Nat} : ∀ (us : List Value) (o : Nat) (w : World), (w.setCells b o us).heap.size = w.heap.size
 | [], _, _ => rfl
 | _ :: us, o, _ => (size_setCellsG us (o + 1) _).trans (World.size_setCell _ _ _)
/-- What taking a tree promises: of nodes f, the rest of which is known. -/
def TakePost (f : List NT) (F : Nat) (rest : List NT) (w : World) (e : Ending) (w' : World) : Prop :=
 Ext w w' ∧ ((∃ t r s, takeF F rest = some (t, r) ∧ e = .returned (.tuple #[t.n.ex s, .int .i64 ((f.length - r.length : Nat) : Int)]) ∧ KidsS w' (fun k => w.heap.size ≤ k ∧ k < w'.heap.size) s t.kids) ∨ (takeF F rest = none ∧ e = .returned (.tuple #[.agg #[.int .i64 0, .string ⟨#[]⟩, .bool false, .int .i64 0, .int .i64 0, .int .i64 0, .int .i64 0, .bool false, .bool false, .int .i64 0, .int .i64 0, .bool false, .bool false, .int .i64 0, .slice none 0 0], .int .i64 (-1)])))
/-- While kids are taken. -/
def TakeL (f : List NT) (F : Nat) (r : List NT) (x : NT) (gR gE : Nat) (w : World) (j at' : Nat) (wr : World) : Prop :=
 ∃ (L : List (ET × Value)) (r' : List NT) (p : Option Addr) (c : Nat), manyF (takeF F) j r = some (L.map (·.1), r') ∧ L.length = j ∧ at' = f.length - r'.length ∧ OwnE wr (gE + 1) (.slice p j c) L ∧ Vec wr gE (x.cells ++ [.slice p j c]) ∧ Vec wr gR [.int .i64 0, .string ⟨#[]⟩, .bool false, .int .i64 0, .int .i64 0, .int .i64 0, .int .i64 0, .bool false, .bool false, .int .i64 0, .int .i64 0, .bool false, .bool false, .int .i64 0, .slice none 0 0] ∧ Ext w wr ∧ gE < wr.heap.size ∧ (∀ (i : Nat) q, L[i]? = some q → KidsS wr (fun k => gE < k ∧ k < wr.heap.size ∧ some k ≠ (Value.slice p j c).ownBlock) q.2 q.1.kids)
set_option maxRecDepth 8000 in
set_option maxHeartbeats 16000000 in
theorem take_nil (f : List NT) (p : Option Addr) (cap : Nat) (F : Nat) (w : World) :
  Calls Tryz.prog 38 #[.slice p f.length cap, .int .i64 ((f.length - ([] : List NT).length : Nat) : Int), .int .i64 (41 - (F : Int))] w fun e w' => TakePost f F ([] : List NT) w e w' := by
  rw [List.length_nil, Nat.sub_zero]
  obtain ⟨n, hn⟩ : ∃ n, f.length = n := ⟨_, rfl⟩
  rw [hn]
  obtain ⟨D, hD⟩ : ∃ D : Int, 41 - (F : Int) = D := ⟨_, rfl⟩
  rw [hD]
  have i0 : decide ((n : Int) ≥ (n : Int)) = true := decide_eq_true (by omega)
  have i1 : (n : Int) ≤ (n : Int) := by omega
  have TN : Hid (takeF F [] = none) := by cases F <;> rfl
  clear hn hD
  go_enter Tryz.func38, Tryz.ntmps38
  go_wp2_with fail
  exact bodyPost_ret (v := .tuple #[.agg #[.int .i64 0, .string ⟨#[]⟩, .bool false, .int .i64 0, .int .i64 0, .int .i64 0, .int .i64 0, .bool false, .bool false, .int .i64 0, .int .i64 0, .bool false, .bool false, .int .i64 0, .slice none 0 0], .int .i64 (-1)]) (by simp [results, Tryz.results38, go_sem]) rfl ⟨x1 _ _, Or.inr ⟨TN.out, rfl⟩⟩
set_option maxRecDepth 8000 in
set_option maxHeartbeats 16000000 in
theorem take_zero (f : List NT) (p : Option Addr) (cap : Nat) (x : NT) (r : List NT) (w : World) (hs : x :: r <:+ f) :
  Calls Tryz.prog 38 #[.slice p f.length cap, .int .i64 ((f.length - (x :: r).length : Nat) : Int), .int .i64 (41 - (((0 : Nat)) : Int))] w fun e w' => TakePost f 0 (x :: r) w e w' := by
  have hsl := hs.length_le
  rw [List.length_cons] at hsl
  obtain ⟨q, hq⟩ : ∃ q, f.length - (x :: r).length = q := ⟨_, rfl⟩
  have hqn : q < f.length := by rw [← hq, List.length_cons]; omega
  rw [hq]
  obtain ⟨n, hn⟩ : ∃ n, f.length = n := ⟨_, rfl⟩
  rw [hn] at hqn ⊢
  have i1 : ¬ (n : Int) ≤ (q : Int) := by omega
  have i2 : (q : Int) < (n : Int) := by omega
  have i3 : decide ((q : Int) ≥ (n : Int)) = false := decide_eq_false (by omega)
  have TN : Hid (takeF 0 (x :: r) = none) := rfl
  clear hn hq hs hsl hqn
  show Calls _ _ #[_, _, .int .i64 41] _ _
  go_enter Tryz.func38, Tryz.ntmps38
  go_wp2_with fail
  exact bodyPost_ret (v := .tuple #[.agg #[.int .i64 0, .string ⟨#[]⟩, .bool false, .int .i64 0, .int .i64 0, .int .i64 0, .int .i64 0, .bool false, .bool false, .int .i64 0, .int .i64 0, .bool false, .bool false, .int .i64 0, .slice none 0 0], .int .i64 (-1)]) (by simp [results, Tryz.results38, go_sem]) rfl ⟨x1 _ _, Or.inr ⟨TN.out, rfl⟩⟩
set_option maxRecDepth 8000 in
set_option maxHeartbeats 16000000 in
theorem take_succ (w0 : World) (f : List NT) (p : Option Addr) (cap : Nat) (hf : NodesIn w0 (.slice p f.length cap) f) (hfl : f.length ≤ 300) (F : Nat) (hF : F + 1 ≤ 41)
  (ih : ∀ (rest : List NT) (w : World), rest <:+ f → Ext w0 w → Calls Tryz.prog 38 #[.slice p f.length cap, .int .i64 ((f.length - rest.length : Nat) : Int), .int .i64 (41 - (F : Int))] w fun e w' => TakePost f F rest w e w') (x : NT) (r : List NT) (w : World) (hs : x :: r <:+ f) (X : Ext w0 w) :
  Calls Tryz.prog 38 #[.slice p f.length cap, .int .i64 ((f.length - (x :: r).length : Nat) : Int), .int .i64 (41 - (((F + 1 : Nat)) : Int))] w fun e w' => TakePost f (F + 1) (x :: r) w e w' := by
  have IH : Hid (∀ (rest : List NT) (w : World), rest <:+ f → Ext w0 w → Calls Tryz.prog 38 #[.slice p f.length cap, .int .i64 ((f.length - rest.length : Nat) : Int), .int .i64 (41 - (F : Int))] w fun e w' => TakePost f F rest w e w') := ih
  obtain ⟨D, hD⟩ : ∃ D : Int, 41 - ((F + 1 : Nat) : Int) = D := ⟨_, rfl⟩
  have hD1 : D + 1 = 41 - (F : Int) := by omega
  have hD2 : ¬ (40 < D) := by omega
  have hD3 : decide (40 < D) = false := decide_eq_false hD2
  have hD4 : -100 ≤ D ∧ D ≤ 100 := by omega
  rw [hD]
  rw [← hD1] at IH
  clear hD hD1
  obtain ⟨pre, hpre⟩ := hs
  have hlen : f.length = pre.length + (r.length + 1) := by rw [← hpre, List.length_append, List.length_cons]
  have hat : f.length - (x :: r).length = pre.length := by rw [List.length_cons]; omega
  have hxa : f[pre.length]? = some x := by rw [← hpre, List.getElem?_append_right (Nat.le_refl _), Nat.sub_self]; rfl
  obtain ⟨p', cap', he, hc, hrow⟩ := hf
  obtain ⟨bn, o, hp', RN⟩ := hrow (by omega)
  obtain rfl : p = some ⟨bn, o, none⟩ := (Value.slice.inj he).1.trans hp'
  rw [hat]
  obtain ⟨n, hn⟩ : ∃ n, f.length = n := ⟨_, rfl⟩
  obtain ⟨q, hq⟩ : ∃ q, pre.length = q := ⟨_, rfl⟩
  rw [hn] at hlen hfl IH ⊢
  rw [hq] at hlen hxa hat ⊢
  have HLEN : Hid (n = q + (r.length + 1)) := hlen
  have HN : Hid (f.length = n) := hn
  have HQ : Hid (pre.length = q) := hq
  have HPR : Hid (pre ++ x :: r = f) := hpre
  have i1 : ¬ (n : Int) ≤ (q : Int) := by omega
  have i2 : (q : Int) < (n : Int) := by omega
  have i3 : decide ((q : Int) ≥ (n : Int)) = false := decide_eq_false (by omega)
  obtain ⟨xk, xt', xn, xd', xx, xr', xc, xf, xg, xr2, xc2, xf2, xg2, xq⟩ := x
  have HRA : Hid (∀ W, Ext w0 W → W.rangeAt bn (o + q * 14) [.int .i64 xk, sV xt', .bool xn, .int .i64 xd', .int .i64 xx, .int .i64 xr', .int .i64 xc, .bool xf, .bool xg, .int .i64 xr2, .int .i64 xc2, .bool xf2, .bool xg2, .int .i64 xq]) := fun W XW c u hu => cell_later XW (RN q _ hxa c u hu)
  have HXA : Hid (f[q]? = some ⟨xk, xt', xn, xd', xx, xr', xc, xf, xg, xr2, xc2, xf2, xg2, xq⟩) := hxa
  clear he hc hrow hp' hpre hn hq hat hxa hlen
  have VZ := vec_made w [.int .i64 0, .string ⟨#[]⟩, .bool false, .int .i64 0, .int .i64 0, .int .i64 0, .int .i64 0, .bool false, .bool false, .int .i64 0, .int .i64 0, .bool false, .bool false, .int .i64 0, .slice none 0 0] 51
  have XZ := x1 w (.cells [.int .i64 0, .string ⟨#[]⟩, .bool false, .int .i64 0, .int .i64 0, .int .i64 0, .int .i64 0, .bool false, .bool false, .int .i64 0, .int .i64 0, .bool false, .bool false, .int .i64 0, .slice none 0 0].toArray 51)
  obtain ⟨wa, ha⟩ : ∃ z, w.alloc (.cells [.int .i64 0, .string ⟨#[]⟩, .bool false, .int .i64 0, .int .i64 0, .int .i64 0, .int .i64 0, .bool false, .bool false, .int .i64 0, .int .i64 0, .bool false, .bool false, .int .i64 0, .slice none 0 0].toArray 51) = z := ⟨_, rfl⟩
  rw [ha] at VZ XZ
  have c13 : wa.cell? ⟨bn, o + q * 14 + 13, none⟩ = some (.int .i64 xq) := HRA.out wa (xt X XZ) 13 _ rfl
  go_enter Tryz.func38, Tryz.ntmps38
  by_cases hbad : ¬ (0 ≤ xq ∧ xq ≤ 100)
  ·
   have TN : Hid (takeF (F + 1) ((⟨xk, xt', xn, xd', xx, xr', xc, xf, xg, xr2, xc2, xf2, xg2, xq⟩ : NT) :: r) = none) := by
    show takeF (F + 1) _ = none
    rw [takeF, if_neg hbad]
   have HXW : Hid (Ext w wa) := XZ
   have HWA : Hid (w.alloc (.cells #[.int .i64 0, .string ⟨#[]⟩, .bool false, .int .i64 0, .int .i64 0, .int .i64 0, .int .i64 0, .bool false, .bool false, .int .i64 0, .int .i64 0, .bool false, .bool false, .int .i64 0, .slice none 0 0] 51) = wa) := ha
   have d13 : (w.alloc (.cells #[.int .i64 0, .string ⟨#[]⟩, .bool false, .int .i64 0, .int .i64 0, .int .i64 0, .int .i64 0, .bool false, .bool false, .int .i64 0, .int .i64 0, .bool false, .bool false, .int .i64 0, .slice none 0 0] 51)).cell? ⟨bn, o + q * 14 + 13, none⟩ = some (.int .i64 xq) := by rw [HWA.out]; exact c13
   by_cases hneg : xq < 0
   ·
    clear ha VZ XZ c13 hbad
    go_wp2_with fail
    exact bodyPost_ret (v := .tuple #[.agg #[.int .i64 0, .string ⟨#[]⟩, .bool false, .int .i64 0, .int .i64 0, .int .i64 0, .int .i64 0, .bool false, .bool false, .int .i64 0, .int .i64 0, .bool false, .bool false, .int .i64 0, .slice none 0 0], .int .i64 (-1)]) (by simp [results, Tryz.results38, go_sem]) rfl ⟨x1 _ _, Or.inr ⟨TN.out, rfl⟩⟩
   ·
    have hbig : 100 < xq := by omega
    clear ha VZ XZ c13 hbad
    go_wp2_with fail
    exact bodyPost_ret (v := .tuple #[.agg #[.int .i64 0, .string ⟨#[]⟩, .bool false, .int .i64 0, .int .i64 0, .int .i64 0, .int .i64 0, .bool false, .bool false, .int .i64 0, .int .i64 0, .bool false, .bool false, .int .i64 0, .slice none 0 0], .int .i64 (-1)]) (by simp [results, Tryz.results38, go_sem]) rfl ⟨x1 _ _, Or.inr ⟨TN.out, rfl⟩⟩
  have hgood : 0 ≤ xq ∧ xq ≤ 100 := Decidable.not_not.1 hbad
  obtain ⟨m, rfl⟩ : ∃ m : Nat, xq = (m : Int) := ⟨xq.toNat, by omega⟩
  have j1 : ¬ (m : Int) < 0 := by omega
  have j2 : ¬ 100 < (m : Int) := by omega
  have hm100 : m ≤ 100 := by omega
  have HRN : wa.rangeAt bn (o + q * 14) [.int .i64 xk, sV xt', .bool xn, .int .i64 xd', .int .i64 xx, .int .i64 xr', .int .i64 xc, .bool xf, .bool xg, .int .i64 xr2, .int .i64 xc2, .bool xf2, .bool xg2, .int .i64 (m : Int)] := HRA.out wa (xt X XZ)
  clear hbad hgood
  go_wp2_with (refine wpList_load_mid rfl 48 (.tmp 39) rfl bn (o + q * 14) rfl [.int .i64 xk, sV xt', .bool xn, .int .i64 xd', .int .i64 xx, .int .i64 xr', .int .i64 xc, .bool xf, .bool xg, .int .i64 xr2, .int .i64 xc2, .bool xf2, .bool xg2, .int .i64 (m : Int)] _ HRN Tryz.underlying48 rfl hi14N ?_)
  obtain ⟨gR, hgR⟩ : ∃ z, w.heap.size = z := ⟨_, rfl⟩
  obtain ⟨gE, hgE⟩ : ∃ z, wa.heap.size = z := ⟨_, rfl⟩
  have VE := vec_made wa (([.int .i64 xk, sV xt', .bool xn, .int .i64 xd', .int .i64 xx, .int .i64 xr', .int .i64 xc, .bool xf, .bool xg, .int .i64 xr2, .int .i64 xc2, .bool xf2, .bool xg2, .int .i64 (m : Int)] : List Value) ++ [Value.slice none 0 0]) 51
  have XE := x1 wa (.cells (([.int .i64 xk, sV xt', .bool xn, .int .i64 xd', .int .i64 xx, .int .i64 xr', .int .i64 xc, .bool xf, .bool xg, .int .i64 xr2, .int .i64 xc2, .bool xf2, .bool xg2, .int .i64 (m : Int)] : List Value) ++ [Value.slice none 0 0]).toArray 51)
  have hgg : gE = gR + 1 := by rw [← hgE, ← ha, World.size_alloc, hgR]
  have SB : (wa.alloc (.cells (([.int .i64 xk, sV xt', .bool xn, .int .i64 xd', .int .i64 xx, .int .i64 xr', .int .i64 xc, .bool xf, .bool xg, .int .i64 xr2, .int .i64 xc2, .bool xf2, .bool xg2, .int .i64 (m : Int)] : List Value) ++ [Value.slice none 0 0]).toArray 51)).heap.size = gE + 1 := by rw [World.size_alloc, hgE]
  change Vec (wa.alloc (.cells #[.int .i64 xk, sV xt', .bool xn, .int .i64 xd', .int .i64 xx, .int .i64 xr', .int .i64 xc, .bool xf, .bool xg, .int .i64 xr2, .int .i64 xc2, .bool xf2, .bool xg2, .int .i64 (m : Int), .slice none 0 0] 51)) _ _ at VE
  change Ext wa (wa.alloc (.cells #[.int .i64 xk, sV xt', .bool xn, .int .i64 xd', .int .i64 xx, .int .i64 xr', .int .i64 xc, .bool xf, .bool xg, .int .i64 xr2, .int .i64 xc2, .bool xf2, .bool xg2, .int .i64 (m : Int), .slice none 0 0] 51)) at XE
  change (wa.alloc (.cells #[.int .i64 xk, sV xt', .bool xn, .int .i64 xd', .int .i64 xx, .int .i64 xr', .int .i64 xc, .bool xf, .bool xg, .int .i64 xr2, .int .i64 xc2, .bool xf2, .bool xg2, .int .i64 (m : Int), .slice none 0 0] 51)).heap.size = _ at SB
  obtain ⟨wb, hb⟩ : ∃ z, wa.alloc (.cells #[.int .i64 xk, sV xt', .bool xn, .int .i64 xd', .int .i64 xx, .int .i64 xr', .int .i64 xc, .bool xf, .bool xg, .int .i64 xr2, .int .i64 xc2, .bool xf2, .bool xg2, .int .i64 (m : Int), .slice none 0 0] 51) = z := ⟨_, rfl⟩
  rw [hgR] at VZ
  rw [hb, hgE] at VE
  rw [hb] at XE SB
  change Code.wp _ _ _ _ (wa.alloc (.cells #[.int .i64 xk, sV xt', .bool xn, .int .i64 xd', .int .i64 xx, .int .i64 xr', .int .i64 xc, .bool xf, .bool xg, .int .i64 xr2, .int .i64 xc2, .bool xf2, .bool xg2, .int .i64 (m : Int), .slice none 0 0] 51))
  rw [hb, hgR, hgE]
  have HL0 : Hid (TakeL f F r ⟨xk, xt', xn, xd', xx, xr', xc, xf, xg, xr2, xc2, xf2, xg2, (m : Int)⟩ gR gE w 0 (q + 1) wb) := by
   refine ⟨[], r, none, 0, rfl, rfl, ?_, ownE_nil _ _, VE, VZ.later XE, xt XZ XE, by omega, fun i z hz => by cases hz⟩
   rw [HN.out, HLEN.out]
   omega
  have hgl : gR < gE := by omega
  have hwE : w.heap.size ≤ gE := by omega
  have hwR : w.heap.size ≤ gR := by omega
  clear VZ VE HRN c13 hb SB ha hgg hgR hgE
  go_loopw [1, 9] (fun av i wr => ∃ j at' : Nat, j ≤ m ∧ i = .int .i64 j ∧ av = .int .i64 (at' : Int) ∧ Hid (TakeL f F r ⟨xk, xt', xn, xd', xx, xr', xc, xf, xg, xr2, xc2, xf2, xg2, (m : Int)⟩ gR gE w j at' wr)) (fun _ i _ => m - (intOf i).toNat)
  case atStart => exact ⟨0, q + 1, by omega, rfl, by simp, HL0⟩
  case round =>
   obtain ⟨j, at', hj, rfl, rfl, HL⟩ := hrel
   obtain ⟨L, r', p1, c1, l1, l2, l3, l4, l5, l6, l7, l8, l9⟩ := HL.out
   have e13 := (l5 13 _ rfl).1
   have e14 := (l5 14 _ rfl).1
   by_cases hlt : j < m
   ·
    have k2 : (j : Int) < (m : Int) := by omega
    have suf : r' <:+ f := (manyF_suffix (take_suffix F) _ _ _ _ l1).trans ((List.suffix_cons _ _).trans ⟨pre, HPR.out⟩)
    have IC := IH.out r' wr suf (xt X l7)
    rw [← HN.out, ← l3] at IC
    rw [HN.out] at IC
    have HTL : Hid (manyF (takeF F) j r = some (L.map (·.1), r') ∧ L.length = j ∧ OwnE wr (gE + 1) (.slice p1 j c1) L ∧ Vec wr gE (([.int .i64 xk, sV xt', .bool xn, .int .i64 xd', .int .i64 xx, .int .i64 xr', .int .i64 xc, .bool xf, .bool xg, .int .i64 xr2, .int .i64 xc2, .bool xf2, .bool xg2, .int .i64 (m : Int)] : List Value) ++ [.slice p1 j c1]) ∧ Vec wr gR [.int .i64 0, .string ⟨#[]⟩, .bool false, .int .i64 0, .int .i64 0, .int .i64 0, .int .i64 0, .bool false, .bool false, .int .i64 0, .int .i64 0, .bool false, .bool false, .int .i64 0, .slice none 0 0] ∧ Ext w wr ∧ gE < wr.heap.size ∧ (∀ (i : Nat) q, L[i]? = some q → KidsS wr (fun k => gE < k ∧ k < wr.heap.size ∧ some k ≠ (Value.slice p1 j c1).ownBlock) q.2 q.1.kids)) := ⟨l1, l2, l4, l5, l6, l7, l8, l9⟩
    clear HL l1 l2 l3 l4 l5 l6 l7 l8 l9 suf HL0 e14
    go_wp2_with fail
    refine IC.mono ?_
    rintro e w3 ⟨e3, HP⟩
    rcases HP with ⟨tr, r2, s, hg, rfl, hks⟩ | ⟨hg, rfl⟩
    ·
     obtain ⟨pk, nk, ck, rfl⟩ : ∃ pk nk ck, s = .slice pk nk ck := by obtain ⟨q1, q2, q3, _⟩ := hks.slice; exact ⟨_, _, _, q3⟩
     obtain ⟨⟨ek, et, en, ed, ex, er, ec, ef, eg, er2, ec2, ef2, eg2, eq⟩, ekids⟩ := tr
     obtain ⟨at2, hat2⟩ : ∃ z, f.length - r2.length = z := ⟨_, rfl⟩
     rw [hat2]
     have V4 := vec_made w3 (NT.exL ⟨ek, et, en, ed, ex, er, ec, ef, eg, er2, ec2, ef2, eg2, eq⟩ (.slice pk nk ck)) 51
     have X4 := x1 w3 (.cells (NT.exL ⟨ek, et, en, ed, ex, er, ec, ef, eg, er2, ec2, ef2, eg2, eq⟩ (.slice pk nk ck)).toArray 51)
     obtain ⟨w4, h4⟩ : ∃ z, w3.alloc (.cells (NT.exL ⟨ek, et, en, ed, ex, er, ec, ef, eg, er2, ec2, ef2, eg2, eq⟩ (.slice pk nk ck)).toArray 51) = z := ⟨_, rfl⟩
     rw [h4] at V4 X4
     have V5 := vec_made w4 (NT.exL ⟨ek, et, en, ed, ex, er, ec, ef, eg, er2, ec2, ef2, eg2, eq⟩ (.slice pk nk ck)) 51
     have X5 := x1 w4 (.cells (NT.exL ⟨ek, et, en, ed, ex, er, ec, ef, eg, er2, ec2, ef2, eg2, eq⟩ (.slice pk nk ck)).toArray 51)
     have S5 : (w4.alloc (.cells (NT.exL ⟨ek, et, en, ed, ex, er, ec, ef, eg, er2, ec2, ef2, eg2, eq⟩ (.slice pk nk ck)).toArray 51)).heap.size = w4.heap.size + 1 := by rw [World.size_alloc]
     obtain ⟨w5, h5⟩ : ∃ z, w4.alloc (.cells (NT.exL ⟨ek, et, en, ed, ex, er, ec, ef, eg, er2, ec2, ef2, eg2, eq⟩ (.slice pk nk ck)).toArray 51) = z := ⟨_, rfl⟩
     rw [h5] at V5 X5 S5
     have E35 := xt X4 X5
     obtain ⟨l1, l2, l4, l5, l6, l7, l8, l9⟩ := HTL.out
     have l4' : OwnE wr (gE + 1) (.slice p1 j c1) L := l4
     have O5 := ownE_keep l4' (fun k _ hk2 => (xt e3 E35).block k hk2)
     obtain ⟨v', w6, hrun, O6, GW, hbl⟩ := app_ex w5 (gE + 1) (.slice p1 j c1) L O5 (.mk ⟨ek, et, en, ed, ex, er, ec, ef, eg, er2, ec2, ef2, eg2, eq⟩ ekids, .slice pk nk ck) pk nk ck rfl w4.heap.size (fun c u hu => by rw [Nat.zero_add]; exact (V5 c u hu).1) (by omega) (by have := e3.size; have := E35.size; omega)
     obtain ⟨p2, c2, ev⟩ : ∃ p2 c2, v' = .slice p2 (j + 1) c2 := by
      obtain ⟨q1, q2, q3, _⟩ := ownE_slice O6
      rw [List.length_append, l2] at q3
      exact ⟨q1, q2, q3⟩
     subst ev
     have rb : ∀ k, (Value.slice p1 j c1).ownBlock = some k → gE + 1 ≤ k ∧ k < wr.heap.size := fun k hk => ownE_block l4' k hk
     have VE6 : Vec w6 gE (([.int .i64 xk, sV xt', .bool xn, .int .i64 xd', .int .i64 xx, .int .i64 xr', .int .i64 xc, .bool xf, .bool xg, .int .i64 xr2, .int .i64 xc2, .bool xf2, .bool xg2, .int .i64 (m : Int)] : List Value) ++ [.slice p1 j c1]) := vec_grownT ((l5.later e3).later E35) GW (fun k hk => by have := rb k hk; omega)
     have VZ6 : Vec w6 gR [.int .i64 0, .string ⟨#[]⟩, .bool false, .int .i64 0, .int .i64 0, .int .i64 0, .int .i64 0, .bool false, .bool false, .int .i64 0, .int .i64 0, .bool false, .bool false, .int .i64 0, .slice none 0 0] := vec_grownT ((l6.later e3).later E35) GW (fun k hk => by have := rb k hk; omega)
     have a14 := (VE6 14 _ rfl).1
     have f14 := (VE6 14 _ rfl).2
     have b14 := (((l5.later e3).later X4) 14 _ rfl).1
     have hk0 := V4 0 _ rfl
     have VR4 : w4.rangeAt w3.heap.size 0 (NT.exL ⟨ek, et, en, ed, ex, er, ec, ef, eg, er2, ec2, ef2, eg2, eq⟩ (.slice pk nk ck)) := fun c u hu => by rw [Nat.zero_add]; exact (V4 c u hu).1
     have sz1 := e3.size
     have sz2 := X4.size
     have sz3 := X5.size
     have sz4 := GW.size
     have HL1 : Hid (TakeL f F r ⟨xk, xt', xn, xd', xx, xr', xc, xf, xg, xr2, xc2, xf2, xg2, (m : Int)⟩ gR gE w (j + 1) at2 (w6.setCell ⟨gE, 14, none⟩ (.slice p2 (j + 1) c2))) := by
      refine ⟨L ++ [(.mk ⟨ek, et, en, ed, ex, er, ec, ef, eg, er2, ec2, ef2, eg2, eq⟩ ekids, .slice pk nk ck)], r2, p2, c2, ?_, by rw [List.length_append, l2]; rfl, hat2.symm, ?_, VE6.put 14 (by simp) _, VZ6.far (p := ⟨gE, 14, none⟩) (by show gE ≠ gR; omega) _, ?_, by rw [World.size_setCell]; omega, fun i z hz => ?_⟩
      ·
       rw [manyF, l1]
       simp [hg]
      ·
       exact ownE_keep O6 (fun k hk1 _ => Below.heap_setCell _ _ _ _ (fun e => by have e2 : k = gE := e; omega))
      ·
       refine xset (p := ⟨gE, 14, none⟩) ?_ (by show w.heap.size ≤ gE; omega) _
       have XA := xt (xt l7 e3) E35
       exact ⟨GW.os.trans XA.os, GW.tape.trans XA.tape, GW.output.trans XA.output, Nat.le_trans XA.size GW.size, fun k hk => (GW.block k (Nat.lt_of_lt_of_le hk XA.size) (fun e => by have := rb k e.symm; omega)).trans (XA.block k hk)⟩
      ·
       have kp : ∀ k, k ≠ gE → k < w3.heap.size → some k ≠ (Value.slice p1 j c1).ownBlock → (w6.setCell ⟨gE, 14, none⟩ (.slice p2 (j + 1) c2)).heap[k]? = w3.heap[k]? := fun k h1 h2 h3 => by
        rw [Below.heap_setCell _ _ _ _ (fun e => h1 e), GW.block k (by omega) (fun e => h3 e), E35.block k h2]
       by_cases hi : i < L.length
       ·
        rw [List.getElem?_append_left hi] at hz
        refine (l9 i z hz).keep (fun k hk => ?_) (fun k hk => ⟨hk.1, by rw [World.size_setCell]; omega, fun e => ?_⟩)
        ·
         rw [kp k (by omega) (by omega) hk.2.2, e3.block k hk.2.1]
        ·
         rcases hbl with hb1 | hb1
         ·
          exact hk.2.2 (e.trans hb1)
         ·
          have := e.trans hb1
          have := Option.some.inj this
          omega
       ·
        have hz2 : z = (.mk ⟨ek, et, en, ed, ex, er, ec, ef, eg, er2, ec2, ef2, eg2, eq⟩ ekids, .slice pk nk ck) := by
         rw [List.getElem?_append_right (by omega)] at hz
         have : i - L.length = 0 := by have := (List.getElem?_eq_some_iff.1 hz).1; simp at this; exact this
         rw [this] at hz
         simpa using hz.symm
        subst hz2
        refine hks.keep (fun k hk => ?_) (fun k hk => ⟨by omega, by rw [World.size_setCell]; omega, fun e => ?_⟩)
        ·
         exact kp k (by omega) hk.2 (fun e => by have := rb k e.symm; omega)
        ·
         rcases hbl with hb1 | hb1
         ·
          have := rb k (e.trans hb1).symm
          omega
         ·
          have := Option.some.inj (e.trans hb1)
          omega
     have k3 : ¬ (at2 : Int) < 0 := by omega
     clear HTL l1 l2 l4 l4' l5 l6 l7 l8 l9 O5 O6 GW hbl rb VE6 VZ6 V4 V5 X4 X5 S5 E35 hks hg hk0 sz1 sz2 sz3 sz4 IC
     have hex : (ET.mk ⟨ek, et, en, ed, ex, er, ec, ef, eg, er2, ec2, ef2, eg2, eq⟩ ekids).n.ex (.slice pk nk ck) = .agg #[.int .i64 ek, sV et, .bool en, .int .i64 ed, .int .i64 ex, .int .i64 er, .int .i64 ec, .bool ef, .bool eg, .int .i64 er2, .int .i64 ec2, .bool ef2, .bool eg2, .int .i64 eq, .slice pk nk ck] := rfl
     rw [hex]
     have H4 : Hid (w3.alloc (.cells #[.int .i64 ek, sV et, .bool en, .int .i64 ed, .int .i64 ex, .int .i64 er, .int .i64 ec, .bool ef, .bool eg, .int .i64 er2, .int .i64 ec2, .bool ef2, .bool eg2, .int .i64 eq, .slice pk nk ck] 51) = w4) := h4
     have H5 : Hid (w4.alloc (.cells #[.int .i64 ek, sV et, .bool en, .int .i64 ed, .int .i64 ex, .int .i64 er, .int .i64 ec, .bool ef, .bool eg, .int .i64 er2, .int .i64 ec2, .bool ef2, .bool eg2, .int .i64 eq, .slice pk nk ck] 51) = w5) := h5
     have b14' : (w3.alloc (.cells #[.int .i64 ek, sV et, .bool en, .int .i64 ed, .int .i64 ex, .int .i64 er, .int .i64 ec, .bool ef, .bool eg, .int .i64 er2, .int .i64 ec2, .bool ef2, .bool eg2, .int .i64 eq, .slice pk nk ck] 51)).cell? ⟨gE, 14, none⟩ = some (.slice p1 j c1) := by rw [H4.out]; exact b14
     have VR' : (w3.alloc (.cells #[.int .i64 ek, sV et, .bool en, .int .i64 ed, .int .i64 ex, .int .i64 er, .int .i64 ec, .bool ef, .bool eg, .int .i64 er2, .int .i64 ec2, .bool ef2, .bool eg2, .int .i64 eq, .slice pk nk ck] 51)).rangeAt w3.heap.size 0 [.int .i64 ek, sV et, .bool en, .int .i64 ed, .int .i64 ex, .int .i64 er, .int .i64 ec, .bool ef, .bool eg, .int .i64 er2, .int .i64 ec2, .bool ef2, .bool eg2, .int .i64 eq, .slice pk nk ck] := by rw [H4.out]; exact VR4
     clear h4 h5 b14 VR4 hex
     go_wp2_with (first | (refine wpList_load_mid rfl 51 (.tmp 10) rfl w3.heap.size 0 rfl [.int .i64 ek, sV et, .bool en, .int .i64 ed, .int .i64 ex, .int .i64 er, .int .i64 ec, .bool ef, .bool eg, .int .i64 er2, .int .i64 ec2, .bool ef2, .bool eg2, .int .i64 eq, .slice pk nk ck] _ VR' Tryz.underlying51 rfl hi15E ?_; rw [H4.out]) | (at_builtin; rw [H5.out]; refine Lib.wpList_append_run _ rfl _ _ _ _ rfl _ _ rfl rfl _ _ hrun ?_))
     go_roundw
     case rel => exact ⟨j + 1, at2, by omega, by go_num, rfl, HL1⟩
     case measure => simp [intOf]; omega
    ·
     have TN : Hid (takeF (F + 1) ((⟨xk, xt', xn, xd', xx, xr', xc, xf, xg, xr2, xc2, xf2, xg2, (m : Int)⟩ : NT) :: r) = none) := by
      show takeF (F + 1) _ = none
      have hm : manyF (takeF F) (j + 1) r = none := by rw [manyF, HTL.out.1]; simp [hg]
      have hm2 := manyF_fail hm m hlt
      rw [takeF, if_pos ⟨by show (0 : Int) ≤ (m : Int); omega, by show (m : Int) ≤ 100; omega⟩]
      simp [hm2]
     have X4 := x1 w3 (.cells #[.int .i64 0, .string ⟨#[]⟩, .bool false, .int .i64 0, .int .i64 0, .int .i64 0, .int .i64 0, .bool false, .bool false, .int .i64 0, .int .i64 0, .bool false, .bool false, .int .i64 0, .slice none 0 0] 51)
     obtain ⟨w4, h4⟩ : ∃ z, w3.alloc (.cells #[.int .i64 0, .string ⟨#[]⟩, .bool false, .int .i64 0, .int .i64 0, .int .i64 0, .int .i64 0, .bool false, .bool false, .int .i64 0, .int .i64 0, .bool false, .bool false, .int .i64 0, .slice none 0 0] 51) = z := ⟨_, rfl⟩
     have H4 : Hid (w3.alloc (.cells #[.int .i64 0, .string ⟨#[]⟩, .bool false, .int .i64 0, .int .i64 0, .int .i64 0, .int .i64 0, .bool false, .bool false, .int .i64 0, .int .i64 0, .bool false, .bool false, .int .i64 0, .slice none 0 0] 51) = w4) := h4
     rw [h4] at X4
     have V4 := (HTL.out.2.2.2.2.1.later e3).later X4
     have VT := V4.there
     have VR := World.rangeAt_setCells_same w4 gR 0 [.int .i64 0, .string ⟨#[]⟩, .bool false, .int .i64 0, .int .i64 0, .int .i64 0, .int .i64 0, .bool false, .bool false, .int .i64 0, .int .i64 0, .bool false, .bool false, .int .i64 0, .slice none 0 0] VT
     have XR := Ext.setCells (b := gR) hwR [.int .i64 0, .string ⟨#[]⟩, .bool false, .int .i64 0, .int .i64 0, .int .i64 0, .int .i64 0, .bool false, .bool false, .int .i64 0, .int .i64 0, .bool false, .bool false, .int .i64 0, .slice none 0 0] 0 w4 (xt (xt HTL.out.2.2.2.2.2.1 e3) X4)
     obtain ⟨wq, hq⟩ : ∃ z, w4.setCells gR 0 [.int .i64 0, .string ⟨#[]⟩, .bool false, .int .i64 0, .int .i64 0, .int .i64 0, .int .i64 0, .bool false, .bool false, .int .i64 0, .int .i64 0, .bool false, .bool false, .int .i64 0, .slice none 0 0] = z := ⟨_, rfl⟩
     have HQ2 : Hid (w4.setCells gR 0 [.int .i64 0, .string ⟨#[]⟩, .bool false, .int .i64 0, .int .i64 0, .int .i64 0, .int .i64 0, .bool false, .bool false, .int .i64 0, .int .i64 0, .bool false, .bool false, .int .i64 0, .slice none 0 0] = wq) := hq
     rw [hq] at VR XR
     have q0 := rangeAt_cell VR (i := 0) rfl
     have q1 := rangeAt_cell VR (i := 1) rfl
     have q2 := rangeAt_cell VR (i := 2) rfl
     have q3 := rangeAt_cell VR (i := 3) rfl
     have q4 := rangeAt_cell VR (i := 4) rfl
     have q5 := rangeAt_cell VR (i := 5) rfl
     have q6 := rangeAt_cell VR (i := 6) rfl
     have q7 := rangeAt_cell VR (i := 7) rfl
     have q8 := rangeAt_cell VR (i := 8) rfl
     have q9 := rangeAt_cell VR (i := 9) rfl
     have q10 := rangeAt_cell VR (i := 10) rfl
     have q11 := rangeAt_cell VR (i := 11) rfl
     have q12 := rangeAt_cell VR (i := 12) rfl
     have q13 := rangeAt_cell VR (i := 13) rfl
     have q14 := rangeAt_cell VR (i := 14) rfl
     have one : (#[.int .i64 0, .string ⟨#[]⟩, .bool false, .int .i64 0, .int .i64 0, .int .i64 0, .int .i64 0, .bool false, .bool false, .int .i64 0, .int .i64 0, .bool false, .bool false, .int .i64 0, .slice none 0 0] : Array Value).all (·.oneCell') = true := by simp [Value.oneCell']
     have VT' : (w3.alloc (.cells #[.int .i64 0, .string ⟨#[]⟩, .bool false, .int .i64 0, .int .i64 0, .int .i64 0, .int .i64 0, .bool false, .bool false, .int .i64 0, .int .i64 0, .bool false, .bool false, .int .i64 0, .slice none 0 0] 51)).there gR 0 15 := by rw [H4.out]; exact VT
     clear VR VT V4 X4 h4 hq HTL hg IC
     go_wp2_with (refine wpList_store_mid rfl _ _ _ rfl gR 0 #[.int .i64 0, .string ⟨#[]⟩, .bool false, .int .i64 0, .int .i64 0, .int .i64 0, .int .i64 0, .bool false, .bool false, .int .i64 0, .int .i64 0, .bool false, .bool false, .int .i64 0, .slice none 0 0] rfl rfl VT' hi15E one ?_; show wpList _ _ _ _ _ ((w3.alloc (.cells #[.int .i64 0, .string ⟨#[]⟩, .bool false, .int .i64 0, .int .i64 0, .int .i64 0, .int .i64 0, .bool false, .bool false, .int .i64 0, .int .i64 0, .bool false, .bool false, .int .i64 0, .slice none 0 0] 51)).setCells gR 0 [.int .i64 0, .string ⟨#[]⟩, .bool false, .int .i64 0, .int .i64 0, .int .i64 0, .int .i64 0, .bool false, .bool false, .int .i64 0, .int .i64 0, .bool false, .bool false, .int .i64 0, .slice none 0 0]); rw [H4.out, HQ2.out])
     exact bodyPost_ret (v := .tuple #[.agg #[.int .i64 0, .string ⟨#[]⟩, .bool false, .int .i64 0, .int .i64 0, .int .i64 0, .int .i64 0, .bool false, .bool false, .int .i64 0, .int .i64 0, .bool false, .bool false, .int .i64 0, .slice none 0 0], .int .i64 (-1)]) (by simp [results, Tryz.results38, go_sem, q0, q1, q2, q3, q4, q5, q6, q7, q8, q9, q10, q11, q12, q13, q14]) rfl ⟨XR, Or.inr ⟨TN.out, rfl⟩⟩
   ·
    obtain rfl : j = m := by omega
    have k2 : ¬ (j : Int) < (j : Int) := by omega
    have VT := l6.there
    have VRE : wr.rangeAt gE 0 [.int .i64 xk, sV xt', .bool xn, .int .i64 xd', .int .i64 xx, .int .i64 xr', .int .i64 xc, .bool xf, .bool xg, .int .i64 xr2, .int .i64 xc2, .bool xf2, .bool xg2, .int .i64 (j : Int), .slice p1 j c1] := fun c u hu => by rw [Nat.zero_add]; exact (l5 c u hu).1
    have VR := World.rangeAt_setCells_same wr gR 0 [.int .i64 xk, sV xt', .bool xn, .int .i64 xd', .int .i64 xx, .int .i64 xr', .int .i64 xc, .bool xf, .bool xg, .int .i64 xr2, .int .i64 xc2, .bool xf2, .bool xg2, .int .i64 (j : Int), .slice p1 j c1] VT
    have XR := Ext.setCells (b := gR) hwR [.int .i64 xk, sV xt', .bool xn, .int .i64 xd', .int .i64 xx, .int .i64 xr', .int .i64 xc, .bool xf, .bool xg, .int .i64 xr2, .int .i64 xc2, .bool xf2, .bool xg2, .int .i64 (j : Int), .slice p1 j c1] 0 wr l7
    have KP : ∀ k, k ≠ gR → (wr.setCells gR 0 [.int .i64 xk, sV xt', .bool xn, .int .i64 xd', .int .i64 xx, .int .i64 xr', .int .i64 xc, .bool xf, .bool xg, .int .i64 xr2, .int .i64 xc2, .bool xf2, .bool xg2, .int .i64 (j : Int), .slice p1 j c1]).heap[k]? = wr.heap[k]? := fun k hk => heap_setCellsG _ _ _ _ hk
    have SP : (wr.setCells gR 0 [.int .i64 xk, sV xt', .bool xn, .int .i64 xd', .int .i64 xx, .int .i64 xr', .int .i64 xc, .bool xf, .bool xg, .int .i64 xr2, .int .i64 xc2, .bool xf2, .bool xg2, .int .i64 (j : Int), .slice p1 j c1]).heap.size = wr.heap.size := size_setCellsG _ _ _
    obtain ⟨wq, hq⟩ : ∃ z, wr.setCells gR 0 [.int .i64 xk, sV xt', .bool xn, .int .i64 xd', .int .i64 xx, .int .i64 xr', .int .i64 xc, .bool xf, .bool xg, .int .i64 xr2, .int .i64 xc2, .bool xf2, .bool xg2, .int .i64 (j : Int), .slice p1 j c1] = z := ⟨_, rfl⟩
    have HQ2 : Hid (wr.setCells gR 0 [.int .i64 xk, sV xt', .bool xn, .int .i64 xd', .int .i64 xx, .int .i64 xr', .int .i64 xc, .bool xf, .bool xg, .int .i64 xr2, .int .i64 xc2, .bool xf2, .bool xg2, .int .i64 (j : Int), .slice p1 j c1] = wq) := hq
    rw [hq] at VR XR KP SP
    have PO : Hid (TakePost f (F + 1) ((⟨xk, xt', xn, xd', xx, xr', xc, xf, xg, xr2, xc2, xf2, xg2, (j : Int)⟩ : NT) :: r) w (.returned (.tuple #[.agg #[.int .i64 xk, sV xt', .bool xn, .int .i64 xd', .int .i64 xx, .int .i64 xr', .int .i64 xc, .bool xf, .bool xg, .int .i64 xr2, .int .i64 xc2, .bool xf2, .bool xg2, .int .i64 (j : Int), .slice p1 j c1], .int .i64 (at' : Int)])) wq) := by
     refine ⟨XR, Or.inl ⟨.mk (⟨xk, xt', xn, xd', xx, xr', xc, xf, xg, xr2, xc2, xf2, xg2, (j : Int)⟩ : NT) (L.map (·.1)), r', .slice p1 j c1, ?_, by rw [l3]; rfl, ?_⟩⟩
     ·
      rw [takeF, if_pos ⟨by show (0 : Int) ≤ (j : Int); omega, by show (j : Int) ≤ 100; omega⟩]
      have : ((j : Int)).toNat = j := by omega
      show (match manyF (takeF F) ((j : Int)).toNat r with | none => none | some (ks, r) => some (ET.mk _ ks, r)) = _
      rw [this, l1]
     ·
      refine ownE_kids (ownE_keep l4 (fun k hk1 hk2 => KP k (by omega))) (fun g hg => ?_) (fun i z hz => (l9 i z hz).keep (fun k hk => KP k (by omega)) (fun k hk => ⟨by omega, by rw [SP]; exact hk.2.1⟩))
      have := ownE_block l4 g hg
      exact ⟨by omega, by rw [SP]; omega⟩
    have q0 := rangeAt_cell VR (i := 0) rfl
    have q1 := rangeAt_cell VR (i := 1) rfl
    have q2 := rangeAt_cell VR (i := 2) rfl
    have q3 := rangeAt_cell VR (i := 3) rfl
    have q4 := rangeAt_cell VR (i := 4) rfl
    have q5 := rangeAt_cell VR (i := 5) rfl
    have q6 := rangeAt_cell VR (i := 6) rfl
    have q7 := rangeAt_cell VR (i := 7) rfl
    have q8 := rangeAt_cell VR (i := 8) rfl
    have q9 := rangeAt_cell VR (i := 9) rfl
    have q10 := rangeAt_cell VR (i := 10) rfl
    have q11 := rangeAt_cell VR (i := 11) rfl
    have q12 := rangeAt_cell VR (i := 12) rfl
    have q13 := rangeAt_cell VR (i := 13) rfl
    have q14 := rangeAt_cell VR (i := 14) rfl
    have one : (#[.int .i64 xk, sV xt', .bool xn, .int .i64 xd', .int .i64 xx, .int .i64 xr', .int .i64 xc, .bool xf, .bool xg, .int .i64 xr2, .int .i64 xc2, .bool xf2, .bool xg2, .int .i64 (j : Int), .slice p1 j c1] : Array Value).all (·.oneCell') = true := by simp [Value.oneCell']
    clear VR KP SP XR hq HL HL0 l1 l2 l3 l4 l5 l6 l7 l8 l9 e14
    go_wp2_with (first | (refine wpList_load_mid rfl 51 (.tmp 8) rfl gE 0 rfl [.int .i64 xk, sV xt', .bool xn, .int .i64 xd', .int .i64 xx, .int .i64 xr', .int .i64 xc, .bool xf, .bool xg, .int .i64 xr2, .int .i64 xc2, .bool xf2, .bool xg2, .int .i64 (j : Int), .slice p1 j c1] _ VRE Tryz.underlying51 rfl hi15E ?_) | (refine wpList_store_mid rfl _ _ _ rfl gR 0 #[.int .i64 xk, sV xt', .bool xn, .int .i64 xd', .int .i64 xx, .int .i64 xr', .int .i64 xc, .bool xf, .bool xg, .int .i64 xr2, .int .i64 xc2, .bool xf2, .bool xg2, .int .i64 (j : Int), .slice p1 j c1] rfl rfl VT hi15E one ?_; show wpList _ _ _ _ _ (wr.setCells gR 0 [.int .i64 xk, sV xt', .bool xn, .int .i64 xd', .int .i64 xx, .int .i64 xr', .int .i64 xc, .bool xf, .bool xg, .int .i64 xr2, .int .i64 xc2, .bool xf2, .bool xg2, .int .i64 (j : Int), .slice p1 j c1]); rw [HQ2.out]))
    exact bodyPost_ret (v := .tuple #[.agg #[.int .i64 xk, sV xt', .bool xn, .int .i64 xd', .int .i64 xx, .int .i64 xr', .int .i64 xc, .bool xf, .bool xg, .int .i64 xr2, .int .i64 xc2, .bool xf2, .bool xg2, .int .i64 (j : Int), .slice p1 j c1], .int .i64 (at' : Int)]) (by simp [results, Tryz.results38, go_sem, q0, q1, q2, q3, q4, q5, q6, q7, q8, q9, q10, q11, q12, q13, q14]) rfl PO.out

theorem takeSE (w0 : World) (f : List NT) (p : Option Addr) (cap : Nat) (hf : NodesIn w0 (.slice p f.length cap) f) (hfl : f.length ≤ 300) : ∀ (F : Nat), F ≤ 41 → ∀ (rest : List NT) (w : World), rest <:+ f → Ext w0 w →
  Calls Tryz.prog 38 #[.slice p f.length cap, .int .i64 ((f.length - rest.length : Nat) : Int), .int .i64 (41 - (F : Int))] w fun e w' => TakePost f F rest w e w'
 | F, _, [], w, _, _ => take_nil f p cap F w
 | 0, _, x :: r, w, hs, _ => take_zero f p cap x r w hs
 | F + 1, hF, x :: r, w, hs, X => take_succ w0 f p cap hf hfl F hF (fun rest w hs X => takeSE w0 f p cap hf hfl F (by omega) rest w hs X) x r w hs X

end Go.Proofs.YtcjjobciokfehaaGreatDoor

