/-
  Chapter 12: values counted by a range over slices.Values.
-/
import Derived.RangeFuncNested
import Derived.RangeFuncBound
import Derived.RangeFuncCalls
import Derived.RangeFuncLeaves
import Derived.Shelf.Abstract
import Derived.WalkKit
import Derived.OwnWalkIn
import Derived.TacticsInMore
import Derived.LoopNIn
import Derived.LoopIn
import Derived.Test.YtfgohahfppabbaaGreatDoorG7
namespace Go.Proofs.YtfgohahfppabbaaGreatDoor
open Go.RowKit Go.Shelf

attribute [local go_sem] Oper.semAt_some

/-- A slice of values whose row, if it has one, lies below n₀. -/
def ValsBelow (n₀ : Nat) (w : World) (v : Value) (l : List VT) : Prop :=
 ∃ p cap, v = .slice p l.length cap ∧ l.length ≤ cap ∧ (0 < l.length → ∃ b o, p = some ⟨b, o, none⟩ ∧ b < n₀ ∧ RowV w b o l)
theorem RowV.below {n₀ b o : Nat} {w w' : World} {l : List VT} (h : RowV w b o l) (hb : b < n₀) (x : Below n₀ w w') : RowV w' b o l := fun i e hi c u hc => (x.cell (p := ⟨b, o + i * 5 + c, none⟩) hb).trans (h i e hi c u hc)
theorem ValsBelow.below {n₀ : Nat} {w w' : World} {v : Value} {l : List VT} (h : ValsBelow n₀ w v l) (x : Below n₀ w w') : ValsBelow n₀ w' v l := by
 obtain ⟨p, cap, h1, h2, h3⟩ := h
 refine ⟨p, cap, h1, h2, fun h0 => ?_⟩
 obtain ⟨b, o, h4, hb, h5⟩ := h3 h0
 exact ⟨b, o, h4, hb, h5.below hb x⟩
set_option maxRecDepth 100000 in
set_option maxHeartbeats 2000000 in
theorem valsV_in (F : Fence) (n : Nat) (hf : F.fn 47) (hro : F.round = none) (hn : 1 ≤ n) (l Bs n₀ b off cap : Nat) (zs : List VT) (hb : b < n₀) (J Jx : List VT → World → Prop)
  (hY : ∀ pre x W, J pre W → pre.length < zs.length → YieldAt F (n - 1) Tryz.prog l #[x.val] W fun e W' =>
   (e = .returned (.bool true) ∧ J (pre ++ [x]) W' ∧ Below n₀ W W') ∨ (e = .returned (.bool false) ∧ Jx (pre ++ [x]) W'))
  (hJa : ∀ pre W o, J pre W → J pre (W.alloc o))
  (hreach : zs.length ≤ 2000)
  (W : World) (hn0 : n₀ ≤ W.heap.size) (hBs : W.cell? ⟨Bs, 0, none⟩ = some (.slice (some ⟨b, off, none⟩) zs.length cap)) (hc : RowV W b off zs) (h0 : J [] W) :
  CallsIn F n Tryz.prog 47 #[.func (.yield l) #[] #[], .pointer (some ⟨Bs, 0, none⟩)] W fun e W' => (∃ v, e = .returned v) ∧
   (J zs W' ∨ ∃ pre, pre <+: zs ∧ Jx pre W') := by
 obtain ⟨len, hlen⟩ : ∃ len, zs.length = len := ⟨_, rfl⟩
 rw [hlen] at hY hreach hBs
 have HL : Hid (zs.length = len) := hlen
 have HC : Hid (RowV W b off zs) := hc
 have HA : Hid (∀ pre W o, J pre W → J pre (W.alloc o)) := hJa
 clear hlen hc hJa
 refine callsIn_of_wp Tryz.func47 rfl hf ?_ hro
 simp only [Tryz.ntmps47, List.size_toArray, List.length_cons, List.length_nil, Nat.reduceAdd, Nat.reduceSub, Array.replicate_succ, Array.replicate_zero, List.push_toArray, List.append_toArray, List.nil_append, List.cons_append]
 gi_wp2
 gi_loopw [7] (fun i wr => ∃ k : Nat, k ≤ len ∧ i = .int .i64 k ∧ J (zs.take k) wr ∧ Below n₀ W wr) (fun i _ => len - (intOf i).toNat)
 case atStart => exact ⟨0, Nat.zero_le _, rfl, by simpa using h0, Below.refl _ _⟩
 case round =>
  obtain ⟨k, hk, rfl, hJs, hnx⟩ := hrel
  by_cases hlt : k < len
  ·
   obtain ⟨x, hx⟩ : ∃ x, zs[k]? = some x := ⟨_, List.getElem?_eq_getElem (by rw [HL.out]; exact hlt)⟩
   obtain ⟨a0, a1, a2, a3, a4⟩ := (HC.out.below hb hnx).five hx
   have HT : Hid (zs.take (k + 1) = zs.take k ++ [x]) := by
    show _ = _
    rw [List.take_add_one, hx]
    rfl
   have hKa : Below n₀ wr (wr.alloc (.cells #[.int .i64 x.k, .bool x.n, .int .i64 x.d, .int .i64 x.x, sV x.t] 27)) := (Below.refl _ wr).alloc (by have := hnx.size; omega) _
   have KB := vec_made wr (valL x.k x.n x.d x.x x.t) 27
   change Vec (wr.alloc (.cells #[.int .i64 x.k, .bool x.n, .int .i64 x.d, .int .i64 x.x, sV x.t] 27)) _ _ at KB
   obtain ⟨fn, tmps, assign, body, hy, hR⟩ := hY _ x (wr.alloc (.cells #[.int .i64 x.k, .bool x.n, .int .i64 x.d, .int .i64 x.x, sV x.t] 27)) (HA.out _ _ _ hJs) (by rw [List.length_take, HL.out]; omega)
   obtain ⟨xk, xn, xd', xx, xt'⟩ := x
   dsimp only at a0 a1 a2 a3 a4 hy hR KB hKa
   obtain ⟨k0, k1, k2, k3, k4⟩ := Vec.five KB
   have i2 : (k : Int) < (len : Int) := by omega
   clear hx
   gi_wp2
   clear a0 a1 a2 a3 a4 k0 k1 k2 k3 k4
   refine hR.mono ?_
   rintro e W3 (⟨rfl, hJ3, hk3⟩ | ⟨rfl, hJx3⟩)
   ·
    gi_wp2
    go_roundw
    case rel => exact ⟨k + 1, by omega, by simp, by rw [HT.out]; exact hJ3, (hnx.trans hKa).trans hk3⟩
    case measure => simp [intOf]; omega
   ·
    gi_wp2
    refine bodyPost_ret (results_none rfl _ _ _) rfl ?_
    exact ⟨⟨_, rfl⟩, .inr ⟨_, by rw [← HT.out]; exact List.take_prefix _ _, hJx3⟩⟩
  ·
   have e : k = len := by omega
   subst e
   rw [← HL.out, List.take_length] at hJs
   gi_wp2
   go_end0
   exact ⟨⟨_, rfl⟩, .inl hJs⟩
set_option maxHeartbeats 1000000 in
theorem valsV_nil_in (F : Fence) (n : Nat) (hf : F.fn 47) (hro : F.round = none) (l Bs cap : Nat) (p : Option Addr) (J : List VT → World → Prop) (W : World) (hBs : W.cell? ⟨Bs, 0, none⟩ = some (.slice p 0 cap)) (h0 : J [] W) :
  CallsIn F n Tryz.prog 47 #[.func (.yield l) #[] #[], .pointer (some ⟨Bs, 0, none⟩)] W fun e W' => (∃ v, e = .returned v) ∧ J [] W' := by
 refine callsIn_of_wp Tryz.func47 rfl hf ?_ hro
 simp only [Tryz.ntmps47, List.size_toArray, List.length_cons, List.length_nil, Nat.reduceAdd, Nat.reduceSub, Array.replicate_succ, Array.replicate_zero, List.push_toArray, List.append_toArray, List.nil_append, List.cons_append]
 gi_wp2
 gi_loopw [7] (fun i wr => i = .int .i64 0 ∧ J [] wr) (fun _ _ => 0)
 case atStart => exact ⟨rfl, h0⟩
 case round =>
  obtain ⟨rfl, hJs⟩ := hrel
  gi_wp2
  go_end0
  exact ⟨⟨_, rfl⟩, hJs⟩
theorem valsV_stops (F : Fence) (n : Nat) (hf : F.fn 47) (hro : F.round = none) (hn : 1 ≤ n) (Bs n₀ : Nat) (sv : Value) (zs : List VT) (hreach : zs.length ≤ 2000) (w : World) (hBs : Bs < w.heap.size) (hn₀ : n₀ ≤ w.heap.size)
  (hc : w.cell? ⟨Bs, 0, none⟩ = some sv) (hI : ValsBelow n₀ w sv zs) :
  SeqStopsK F n Tryz.prog 47 #[.pointer (some ⟨Bs, 0, none⟩)] (fun x : VT => #[x.val]) (Below n₀) (fun ys => ys = zs) (fun pre => pre <+: zs) zs.length w := fun l J Jx W hW hJ _ hY h0 => by
 have hc' := (hW.cell (p := ⟨Bs, 0, none⟩) hBs).trans hc
 obtain ⟨p, cap, rfl, hcap, h3⟩ := hI.below (hW.mono hn₀)
 by_cases h : 0 < zs.length
 ·
  obtain ⟨b, o, rfl, hb, hcs⟩ := h3 h
  refine (valsV_in F n hf hro hn l Bs n₀ b o cap zs hb J Jx hY (fun pre W o hj => hJ pre W _ none hj (World.grownBy_alloc W o none) (fun r e => by cases e)) hreach W (by have := hW.size; omega) hc' hcs h0).mono ?_
  rintro e W' ⟨he, hj | ⟨pre, hp, hj⟩⟩
  ·
   exact ⟨he, .inl ⟨_, rfl, hj⟩⟩
  ·
   exact ⟨he, .inr ⟨_, hp, hj⟩⟩
 ·
  obtain rfl : zs = [] := List.eq_nil_of_length_eq_zero (by omega)
  exact (valsV_nil_in F n hf hro l Bs cap p J W hc' h0).mono fun e W' ⟨he, hj⟩ => ⟨he, .inl ⟨_, rfl, hj⟩⟩

end Go.Proofs.YtfgohahfppabbaaGreatDoor

