/-
  Several texts in one: V6b, V6c, V6d, V6j.
-/
import Derived.Test.YtkadkfmidlhedaaGreatDoorV6a
import Derived.Test.YtkadkfmidlhedaaGreatDoorShelc
import Derived.Lib.SlTrimSet
namespace Go.Proofs.YtkadkfmidlhedaaGreatDoor
open Go.RowKit

/-- Stores in a row, from an offset on. -/
def setL (w : World) (b : Nat) : Nat → List Value → World
  | _, [] => w
  | o, v :: vs => setL (w.setCell ⟨b, o, none⟩ v) b (o + 1) vs
theorem Vec.farL {b k : Nat} {l : List Value} (hk : k ≠ b) : ∀ (us : List Value) (o : Nat) {w : World}, Vec w b l → Vec (setL w k o us) b l
  | [], _, _, h => h
  | u :: us, o, _, h => Vec.farL hk us (o + 1) (h.far hk u)
theorem Ext.setL {a : World} {b : Nat} (hb : a.heap.size ≤ b) : ∀ (us : List Value) (o : Nat) {w : World}, Ext a w → Ext a (setL w b o us)
  | [], _, _, h => h
  | u :: us, o, _, h => Ext.setL hb us (o + 1) (xset h hb u)
theorem Vec.put5 {w : World} {b : Nat} {v0 v1 v2 v3 v4 : Value} (h : Vec w b [v0, v1, v2, v3, v4]) (u0 u1 u2 u3 u4 : Value) : Vec (setL w b 0 [u0, u1, u2, u3, u4]) b [u0, u1, u2, u3, u4] :=
  ((((h.put 0 (by simp) u0).put 1 (by simp) u1).put 2 (by simp) u2).put 3 (by simp) u3).put 4 (by simp) u4

set_option maxRecDepth 8000 in
set_option maxHeartbeats 1000000 in
theorem toValue (k : Int) (n : Bool) (d x : Int) (t : List UInt8) (w : World) :
    Calls Tryz.prog 21 #[valV k n d x t] w fun e w' => e = .returned (valV k n d x t) ∧ Ext w w' := by
  have X1 := x1 w (.cells #[.int .i64 k, .bool n, .int .i64 d, .int .i64 x, sV t] 44)
  have B1 := vec_made w (valL k n d x t) 44
  obtain ⟨wa, ha⟩ : ∃ wa, w.alloc (.cells #[.int .i64 k, .bool n, .int .i64 d, .int .i64 x, sV t] 44) = wa := ⟨_, rfl⟩
  have B2 := vec_made wa (valL 0 false 0 0 []) 26
  have X2 := x1 wa (.cells #[.int .i64 0, .bool false, .int .i64 0, .int .i64 0, sV []] 26)
  obtain ⟨wb, hb⟩ : ∃ wb, wa.alloc (.cells #[.int .i64 0, .bool false, .int .i64 0, .int .i64 0, sV []] 26) = wb := ⟨_, rfl⟩
  have B3 := vec_made wb (valL 0 false 0 0 []) 26
  have X3 := x1 wb (.cells #[.int .i64 0, .bool false, .int .i64 0, .int .i64 0, sV []] 26)
  have sa : wa.heap.size = w.heap.size + 1 := by rw [← ha, World.size_alloc]
  have sb : wb.heap.size = w.heap.size + 1 + 1 := by rw [← hb, World.size_alloc, sa]
  change Vec (w.alloc (.cells #[.int .i64 k, .bool n, .int .i64 d, .int .i64 x, sV t] 44)) _ _ at B1
  change Vec (wa.alloc (.cells #[.int .i64 0, .bool false, .int .i64 0, .int .i64 0, sV []] 26)) _ _ at B2
  change Vec (wb.alloc (.cells #[.int .i64 0, .bool false, .int .i64 0, .int .i64 0, sV []] 26)) _ _ at B3
  rw [ha] at X1 B1
  rw [hb] at X2 B2
  rw [sa] at B2
  rw [sb] at B3
  have X := xt (xt X1 X2) X3
  have B1 := (B1.later X2).later X3
  have B2 := B2.later X3
  clear X1 X2 X3
  obtain ⟨wc, hc⟩ : ∃ wc, wb.alloc (.cells #[.int .i64 0, .bool false, .int .i64 0, .int .i64 0, sV []] 26) = wc := ⟨_, rfl⟩
  rw [hc] at B1 B2 B3 X
  have a0 := (B1 0 _ rfl).1
  have a1 := (B1 1 _ rfl).1
  have a2 := (B1 2 _ rfl).1
  have a3 := (B1 3 _ rfl).1
  have c0 := (B3 0 _ rfl).1
  have f0 := (B3 0 _ rfl).2
  go_enter Tryz.func21, Tryz.ntmps21
  go_wp2_with fail
  clear ha hb hc sa sb a0 a1 a2 a3 c0 f0
  refine (toDec n d x _).mono ?_
  rintro e w1 ⟨rfl, e1⟩
  have C1 := (B1.far (p := ⟨w.heap.size + 1 + 1, 0, none⟩) (by show w.heap.size + 1 + 1 ≠ _; omega) (.int .i64 k)).later e1
  have C2 := (B2.far (p := ⟨w.heap.size + 1 + 1, 0, none⟩) (by show w.heap.size + 1 + 1 ≠ _; omega) (.int .i64 k)).later e1
  have C3 : Vec w1 (w.heap.size + 1 + 1) (valL k false 0 0 []) := (B3.put 0 (by simp) (.int .i64 k)).later e1
  have X1 := xt (xset X (p := ⟨w.heap.size + 1 + 1, 0, none⟩) (by show _ ≤ w.heap.size + 1 + 1; omega) (.int .i64 k)) e1
  clear B1 B2 B3 X e1
  obtain ⟨wd, hd⟩ : ∃ wd, setL w1 (w.heap.size + 1 + 1) 1 [.bool n, .int .i64 d, .int .i64 x, sV t] = wd := ⟨_, rfl⟩
  have D2 := C2.farL (k := w.heap.size + 1 + 1) (by omega) [.bool n, .int .i64 d, .int .i64 x, sV t] 1
  have D3 : Vec (setL w1 (w.heap.size + 1 + 1) 1 [.bool n, .int .i64 d, .int .i64 x, sV t]) (w.heap.size + 1 + 1) (valL k n d x t) := (((C3.put 1 (by simp) (.bool n)).put 2 (by simp) (.int .i64 d)).put 3 (by simp) (.int .i64 x)).put 4 (by simp) (sV t)
  have Y := Ext.setL (b := w.heap.size + 1 + 1) (by omega) [.bool n, .int .i64 d, .int .i64 x, sV t] 1 X1
  rw [hd] at D2 D3 Y
  have hd : (((w1.setCell ⟨w.heap.size + 1 + 1, 1, none⟩ (.bool n)).setCell ⟨w.heap.size + 1 + 1, 2, none⟩ (.int .i64 d)).setCell ⟨w.heap.size + 1 + 1, 3, none⟩ (.int .i64 x)).setCell ⟨w.heap.size + 1 + 1, 4, none⟩ (sV t) = wd := hd
  have G2 := D2.put5 (.int .i64 k) (.bool n) (.int .i64 d) (.int .i64 x) (sV t)
  have Z := Ext.setL (b := w.heap.size + 1) (by omega) [.int .i64 k, .bool n, .int .i64 d, .int .i64 x, sV t] 0 Y
  obtain ⟨wy, hy⟩ : ∃ wy, setL wd (w.heap.size + 1) 0 [.int .i64 k, .bool n, .int .i64 d, .int .i64 x, sV t] = wy := ⟨_, rfl⟩
  rw [hy] at G2 Z
  have hy : ((((wd.setCell ⟨w.heap.size + 1, 0, none⟩ (.int .i64 k)).setCell ⟨w.heap.size + 1, 1, none⟩ (.bool n)).setCell ⟨w.heap.size + 1, 2, none⟩ (.int .i64 d)).setCell ⟨w.heap.size + 1, 3, none⟩ (.int .i64 x)).setCell ⟨w.heap.size + 1, 4, none⟩ (sV t) = wy := hy
  have a4 := (C1 4 _ rfl).1
  have k0 := (C3 0 _ rfl).1
  have k1 := (C3 1 _ rfl).1
  have k2 := (C3 2 _ rfl).1
  have k3 := (C3 3 _ rfl).1
  have k4 := (C3 4 _ rfl).1
  have f1 := (C3 1 _ rfl).2
  have f2 := (C3 2 _ rfl).2
  have f3 := (C3 3 _ rfl).2
  have f4 := (C3 4 _ rfl).2
  have m0 := (D3 0 _ rfl).1
  have m1 := (D3 1 _ rfl).1
  have m2 := (D3 2 _ rfl).1
  have m3 := (D3 3 _ rfl).1
  have m4 := (D3 4 _ rfl).1
  have b0 := (D2 0 _ rfl).1
  have b1 := (D2 1 _ rfl).1
  have b2 := (D2 2 _ rfl).1
  have b3 := (D2 3 _ rfl).1
  have b4 := (D2 4 _ rfl).1
  have g0 := (D2 0 _ rfl).2
  have g1 := (D2 1 _ rfl).2
  have g2 := (D2 2 _ rfl).2
  have g3 := (D2 3 _ rfl).2
  have g4 := (D2 4 _ rfl).2
  have d0 := (G2 0 _ rfl).1
  have d1 := (G2 1 _ rfl).1
  have d2 := (G2 2 _ rfl).1
  have d3 := (G2 3 _ rfl).1
  have d4 := (G2 4 _ rfl).1
  clear C1 C2 C3 D2 D3 G2 X1 Y
  go_wp2_with fail
  exact bodyPost_ret (v := valV k n d x t) (by simp [results, Tryz.results21, go_sem, d0, d1, d2, d3, d4]) rfl ⟨rfl, Z⟩

set_option maxHeartbeats 1000000 in
theorem szValue (k : Int) (n : Bool) (d x : Int) (t : List UInt8) (m : Int) (w : World) (h0 : 0 ≤ m) (h1 : m ≤ 1048576) (hl : (t.length : Int) ≤ 9223372036854775807) :
    Calls Tryz.prog 20 #[valV k n d x t, .int .i64 m] w fun e w' => e = .returned (.int .i64 (if m < t.length then -1 else m - t.length)) ∧ Ext w w' := by
  have X0 := x1 w (.cells #[.int .i64 k, .bool n, .int .i64 d, .int .i64 x, sV t] 44)
  obtain ⟨L, hL⟩ : ∃ L, t.length = L := ⟨_, rfl⟩
  have hs : (⟨t.toArray⟩ : ByteArray).size = L := hL
  rw [hL] at hl ⊢
  clear hL
  by_cases hm : m < L
  · rw [if_pos hm]
    go_enter Tryz.func20, Tryz.ntmps20
    go_wp2_with fail
    go_ret
    exact ⟨rfl, X0⟩
  · rw [if_neg hm]
    go_enter Tryz.func20, Tryz.ntmps20
    go_wp2_with fail
    go_ret
    exact ⟨ret_int (by first | rfl | omega), X0⟩

end Go.Proofs.YtkadkfmidlhedaaGreatDoor

namespace Go.Proofs.YtkadkfmidlhedaaGreatDoor
open Go.RowKit

set_option maxHeartbeats 1000000 in
theorem eqDecV_same (n : Bool) (d x : Int) (w : World) :
    Calls Tryz.prog 72 #[decV n d x, decV n d x] w fun e w' => e = .returned (.bool true) ∧ Ext w w' := by
  go_enter Tryz.func72, Tryz.ntmps72
  go_wp2
  all_goals go_ret
  all_goals first | exact ⟨rfl, xa (x1 _ _) _⟩ | simp_all
set_option maxRecDepth 8000 in
set_option maxHeartbeats 1000000 in
theorem eqValue_same (k : Int) (n : Bool) (d x : Int) (t : List UInt8) (w : World) :
    Calls Tryz.prog 22 #[valV k n d x t, valV k n d x t] w fun e w' => e = .returned (.bool true) ∧ Ext w w' := by
  have B1 := vec_made w (valL k n d x t) 26
  have B2 := vec_made (w.alloc (.cells (valL k n d x t).toArray 26)) (valL k n d x t) 26
  have X := xa (x1 w (.cells #[.int .i64 k, .bool n, .int .i64 d, .int .i64 x, sV t] 26)) (.cells #[.int .i64 k, .bool n, .int .i64 d, .int .i64 x, sV t] 26)
  have B1 := B1.later (x1 _ (.cells #[.int .i64 k, .bool n, .int .i64 d, .int .i64 x, sV t] 26))
  rw [World.size_alloc] at B2
  have hp : (t == t) = true := by simp
  go_enter Tryz.func22, Tryz.ntmps22
  go_wp2_with fail
  refine (eqDecV_same _ _ _ _).mono ?_
  rintro e w1 ⟨rfl, e1⟩
  have a4 := ((B1.later e1) 4 _ rfl).1
  have b4 := ((B2.later e1) 4 _ rfl).1
  go_wp2_with fail
  go_ret
  exact ⟨rfl, xt X e1⟩


end Go.Proofs.YtkadkfmidlhedaaGreatDoor

namespace Go.Proofs.YtkadkfmidlhedaaGreatDoor
open Go.RowKit

abbrev errT : List UInt8 := [35, 86, 65, 76, 85, 69, 33]
abbrev trueT : List UInt8 := [84, 82, 85, 69]
abbrev falseT : List UInt8 := [70, 65, 76, 83, 69]
abbrev boolW (b : Bool) : Value := valV 3 false 0 0 (if b then trueT else falseT)
abbrev errW : Value := valV 4 false 0 0 errT
set_option maxHeartbeats 1000000 in
theorem textVI (l : List UInt8) (w : World) : Calls Tryz.prog 53 #[sV l] w fun e w' => e = .returned (valV 2 false 0 0 l) ∧ Ext w w' := by
  go_enter Tryz.func53, Tryz.ntmps53
  go_wp2
  exact bodyPost_ret (v := valV 2 false 0 0 l) (by simp [results, Tryz.results53, go_sem]) rfl ⟨rfl, by first | exact x1 _ _ | exact xa (x1 _ _) _⟩
set_option maxHeartbeats 1000000 in
theorem textVS (l : List UInt8) (w : World) : Calls Tryz.prog 81 #[sV l] w fun e w' => e = .returned (valV 2 false 0 0 l) ∧ Ext w w' := by
  go_enter Tryz.func81, Tryz.ntmps81
  go_wp2
  exact bodyPost_ret (v := valV 2 false 0 0 l) (by simp [results, Tryz.results81, go_sem]) rfl ⟨rfl, by first | exact x1 _ _ | exact xa (x1 _ _) _⟩
set_option maxHeartbeats 1000000 in
theorem errVI (l : List UInt8) (w : World) : Calls Tryz.prog 52 #[sV l] w fun e w' => e = .returned (valV 4 false 0 0 l) ∧ Ext w w' := by
  go_enter Tryz.func52, Tryz.ntmps52
  go_wp2
  exact bodyPost_ret (v := valV 4 false 0 0 l) (by simp [results, Tryz.results52, go_sem]) rfl ⟨rfl, by first | exact x1 _ _ | exact xa (x1 _ _) _⟩
set_option maxHeartbeats 1000000 in
theorem errVS (l : List UInt8) (w : World) : Calls Tryz.prog 69 #[sV l] w fun e w' => e = .returned (valV 4 false 0 0 l) ∧ Ext w w' := by
  go_enter Tryz.func69, Tryz.ntmps69
  go_wp2
  exact bodyPost_ret (v := valV 4 false 0 0 l) (by simp [results, Tryz.results69, go_sem]) rfl ⟨rfl, by first | exact x1 _ _ | exact xa (x1 _ _) _⟩
set_option maxHeartbeats 1000000 in
theorem numVI (n : Bool) (d x : Int) (w : World) : Calls Tryz.prog 48 #[decV n d x] w fun e w' => e = .returned (valV 1 n d x []) ∧ Ext w w' := by
  go_enter Tryz.func48, Tryz.ntmps48
  go_wp2
  exact bodyPost_ret (v := valV 1 n d x []) (by simp [results, Tryz.results48, go_sem]) rfl ⟨rfl, by first | exact x1 _ _ | exact xa (x1 _ _) _⟩
set_option maxHeartbeats 1000000 in
theorem numVS (n : Bool) (d x : Int) (w : World) : Calls Tryz.prog 84 #[decV n d x] w fun e w' => e = .returned (valV 1 n d x []) ∧ Ext w w' := by
  go_enter Tryz.func84, Tryz.ntmps84
  go_wp2
  exact bodyPost_ret (v := valV 1 n d x []) (by simp [results, Tryz.results84, go_sem]) rfl ⟨rfl, by first | exact x1 _ _ | exact xa (x1 _ _) _⟩
set_option maxHeartbeats 1000000 in
theorem boolVI (b : Bool) (w : World) : Calls Tryz.prog 50 #[.bool b] w fun e w' => e = .returned (boolW b) ∧ Ext w w' := by
  cases b
  · go_enter Tryz.func50, Tryz.ntmps50
    go_wp2
    exact bodyPost_ret (v := valV 3 false 0 0 falseT) (by simp [results, Tryz.results50, go_sem, falseT]) rfl ⟨rfl, x1 _ _⟩
  · go_enter Tryz.func50, Tryz.ntmps50
    go_wp2
    exact bodyPost_ret (v := valV 3 false 0 0 trueT) (by simp [results, Tryz.results50, go_sem, trueT]) rfl ⟨rfl, x1 _ _⟩
set_option maxHeartbeats 1000000 in
theorem boolVS (b : Bool) (w : World) : Calls Tryz.prog 83 #[.bool b] w fun e w' => e = .returned (boolW b) ∧ Ext w w' := by
  cases b
  · go_enter Tryz.func83, Tryz.ntmps83
    go_wp2
    exact bodyPost_ret (v := valV 3 false 0 0 falseT) (by simp [results, Tryz.results83, go_sem, falseT]) rfl ⟨rfl, x1 _ _⟩
  · go_enter Tryz.func83, Tryz.ntmps83
    go_wp2
    exact bodyPost_ret (v := valV 3 false 0 0 trueT) (by simp [results, Tryz.results83, go_sem, trueT]) rfl ⟨rfl, x1 _ _⟩
theorem goodV_num {n : Bool} {d x : Int} {t : List UInt8} (h : goodV 1 n d x t = true) : goodB n d x = true ∧ t = [] := by simpa [goodV] using h
theorem goodV_zero {k : Int} {n : Bool} {d x : Int} {t : List UInt8} (h : goodV k n d x t = true) (h1 : k ≠ 1) : n = false ∧ d = 0 ∧ x = 0 := by
  simp only [goodV, h1, if_false, Bool.and_eq_true] at h
  have := h.1
  simpa [zeroD, and_assoc] using this
theorem goodV_empty {n : Bool} {d x : Int} {t : List UInt8} (h : goodV 0 n d x t = true) : t = [] := by simpa [goodV] using (show _ ∧ _ by simpa [goodV] using h).2
theorem goodB_zero {n : Bool} {d x : Int} (h : goodB n d x = true) : zeroD n d x = decide (d = 0) := by
  by_cases hd : d = 0
  · have : n = false ∧ x = 0 := by simpa [goodB, hd] using h
    simp [zeroD, hd, this.1, this.2]
  · simp [zeroD, hd]
theorem ofV_val {f : Value} (g : Bool) (h : ∃ k2 n2 d2 x2 t2, f = valV k2 n2 d2 x2 t2) : ∃ k2 n2 d2 x2 t2, (if g then f else errW) = valV k2 n2 d2 x2 t2 := by
  cases g
  · exact ⟨_, _, _, _, _, rfl⟩
  · exact h

end Go.Proofs.YtkadkfmidlhedaaGreatDoor

namespace Go.Proofs.YtkadkfmidlhedaaGreatDoor
open Go.RowKit

def isB (c : UInt8) : Bool := decide (c = 32)
def ldrop (l : List UInt8) : List UInt8 := l.dropWhile isB
def rdrop (l : List UInt8) : List UInt8 := (l.reverse.dropWhile isB).reverse
theorem ldrop_cons (c : UInt8) (l : List UInt8) : ldrop (c :: l) = if isB c then ldrop l else c :: l := by
  unfold ldrop
  rw [List.dropWhile_cons]
theorem rdrop_snoc (c : UInt8) (l : List UInt8) : rdrop (l ++ [c]) = if isB c then rdrop l else l ++ [c] := by
  unfold rdrop
  rw [List.reverse_append, List.reverse_cons, List.reverse_nil, List.nil_append, List.singleton_append, List.dropWhile_cons]
  split
  · rfl
  · simp
theorem rdrop_cons (c : UInt8) (l : List UInt8) : rdrop (c :: l) = if rdrop l = [] ∧ isB c = true then [] else c :: rdrop l := by
  unfold rdrop
  rw [List.reverse_cons, List.dropWhile_append]
  cases h : l.reverse.dropWhile isB with
  | nil =>
    simp only [List.isEmpty_nil, if_true, List.reverse_nil, true_and]
    rw [List.dropWhile_cons]
    split
    · simp
    · simp
  | cons a m => simp
theorem trim_comm (l : List UInt8) : rdrop (ldrop l) = ldrop (rdrop l) := by
  induction l with
  | nil => rfl
  | cons c l ih =>
    rw [ldrop_cons, rdrop_cons]
    by_cases hc : isB c = true
    · rw [if_pos hc, ih]
      by_cases hr : rdrop l = []
      · rw [if_pos ⟨hr, hc⟩, hr]
      · rw [if_neg (fun h => hr h.1), ldrop_cons, if_pos hc]
    · rw [if_neg hc, if_neg (fun h => hc h.2), rdrop_cons, if_neg (fun h => hc h.2), ldrop_cons, if_neg hc]
def trimB (l : List UInt8) : List UInt8 := ldrop (rdrop l)
theorem contains32 : (fun c => ([32] : List UInt8).contains c) = isB := by
  funext c
  unfold isB
  simp
theorem trimS_blank (l : List UInt8) : Lib.trimS l [32] = trimB l := by
  unfold Lib.trimS Lib.trimLeftS Lib.trimRightS trimB ldrop rdrop
  rw [contains32]
theorem trimB_le (l : List UInt8) : (trimB l).length ≤ l.length := by
  unfold trimB ldrop rdrop
  refine Nat.le_trans ((List.dropWhile_sublist _).length_le) ?_
  rw [List.length_reverse]
  refine Nat.le_trans ((List.dropWhile_sublist _).length_le) ?_
  rw [List.length_reverse]
  exact Nat.le_refl _
def lenOf : Value → Nat
  | .string s => s.size
  | _ => 0

theorem data_drop1 (s : ByteArray) : (s.extract 1 s.size).data.toList = s.data.toList.drop 1 := by
  rw [ByteArray.data_extract, Array.toList_extract]
  show List.take (s.data.size - 1) (List.drop 1 s.data.toList) = _
  rw [List.take_of_length_le (by simp)]
theorem sV_eq {s : ByteArray} {l : List UInt8} (h : s.data.toList = l) : (.string s : Value) = sV l := by
  subst h
  rfl
theorem data_dropLast (s : ByteArray) (m : Nat) : (s.extract 0 m).data.toList = s.data.toList.take m := by
  rw [ByteArray.data_extract, Array.toList_extract]
  simp
set_option maxRecDepth 8000 in
set_option maxHeartbeats 2000000 in
theorem trimSp (l : List UInt8) (w : World) (hl : l.length ≤ 2000000) :
    Calls Tryz.prog 163 #[sV l] w fun e w' => e = .returned (sV (trimB l)) ∧ w' = w := by
  obtain ⟨s, hs⟩ : ∃ s : ByteArray, (⟨l.toArray⟩ : ByteArray) = s := ⟨_, rfl⟩
  have HS : Hid (s.data.toList = l) := by show _ = _; rw [← hs]
  have hsz : s.size ≤ 2000000 := by rw [← hs]; exact hl
  show Calls Tryz.prog 163 #[.string ⟨l.toArray⟩] w _
  rw [hs]
  clear hs
  go_enter Tryz.func163, Tryz.ntmps163
  go_wp2_with fail
  go_loop [0] (fun v => ∃ s : ByteArray, v = .string s ∧ s.size ≤ 2000000 ∧ Hid (ldrop s.data.toList = ldrop l)) (fun v => lenOf v)
  case atStart => exact ⟨s, rfl, hsz, by show _ = _; rw [HS.out]⟩
  case round =>
    clear HS hsz
    obtain ⟨s, rfl, hsz, HS⟩ := hrel
    obtain ⟨n, hn⟩ : ∃ n, s.size = n := ⟨_, rfl⟩
    rw [hn] at hsz
    by_cases h0 : n = 0
    · subst h0
      have HE : Hid (s.data.toList = ldrop l) := by
        show _ = _
        have e : s.data.toList = [] := by
          have : s.data.toList.length = 0 := by rw [Array.length_toList]; exact hn
          exact List.length_eq_zero_iff.1 this
        rw [← HS.out, e]
        rfl
      go_wp2_with fail
      go_loop [0] (fun v => ∃ s : ByteArray, v = .string s ∧ s.size ≤ 2000000 ∧ Hid (rdrop s.data.toList = rdrop (ldrop l))) (fun v => lenOf v)
      case atStart => exact ⟨s, rfl, by omega, by show _ = _; rw [HE.out]⟩
      case round =>
        obtain ⟨r, rfl, hrz, HR⟩ := hrel
        clear HE
        obtain ⟨n, hn'⟩ : ∃ n, r.size = n := ⟨_, rfl⟩
        rw [hn'] at hrz
        by_cases h0 : n = 0
        · subst h0
          have HT : Hid (r.data.toList = trimB l) := by
            show _ = _
            have e : r.data.toList = [] := by
              have : r.data.toList.length = 0 := by rw [Array.length_toList]; exact hn'
              exact List.length_eq_zero_iff.1 this
            have := HR.out
            rw [e] at this
            rw [trimB, ← trim_comm, ← this, e]
            rfl
          go_wp2_with fail
          go_ret
          exact ⟨congrArg Ending.returned (sV_eq HT.out), rfl⟩
        · obtain ⟨k, rfl⟩ : ∃ k, n = k + 1 := ⟨n - 1, by omega⟩
          have hk : k < r.size := by omega
          have hlen : r.data.toList.length = k + 1 := by rw [Array.length_toList]; exact hn'
          obtain ⟨m, c, hmc⟩ : ∃ m c, r.data.toList = m ++ [c] := by
            rcases List.eq_nil_or_concat r.data.toList with e | ⟨m, c, e⟩
            · rw [e] at hlen; simp at hlen
            · exact ⟨m, c, e.trans (List.concat_eq_append ..)⟩
          have hmk : m.length = k := by rw [hmc] at hlen; simpa using hlen
          have hb0 := byte_atA hmc hk
          have hb : ((r[k]'hk).toNat : Int) = (c.toNat : Int) := by
            rw [hb0, List.getD_eq_getElem?_getD, List.getElem?_append_right (by omega), hmk]
            simp
          have HC : Hid (r.data.toList = m ++ [c]) := hmc
          clear hb0 hmc hlen
          have hk2 : (k : Int) < (k : Int) + 1 := by omega
          by_cases hc : c = 32
          · subst hc
            have hb : ((r[k]'hk).toNat : Int) = 32 := hb
            go_wp2_with fail
            go_round
            case rel =>
              refine ⟨r.extract 0 k, rfl, by rw [ByteArray.size_extract]; omega, ?_⟩
              show _ = _
              rw [data_dropLast, HC.out, List.take_left' hmk, ← HR.out, HC.out, rdrop_snoc, if_pos (by decide)]
            case measure =>
              show (r.extract 0 k).size < r.size
              rw [ByteArray.size_extract]
              omega
          · have HT : Hid (r.data.toList = trimB l) := by
              show _ = _
              rw [trimB, ← trim_comm, ← HR.out, HC.out, rdrop_snoc, if_neg (by simpa [isB] using hc)]
            have hN : c.toNat ≠ 32 := fun e => hc (by apply UInt8.toNat_inj.1; rw [e]; rfl)
            obtain ⟨N, hNN⟩ : ∃ N : Int, (c.toNat : Int) = N := ⟨_, rfl⟩
            rw [hNN] at hb
            have hN2 : N ≠ 32 := by omega
            clear hN hNN hc HC hmk
            go_wp2_with fail
            go_ret
            exact ⟨congrArg Ending.returned (sV_eq HT.out), rfl⟩
    · obtain ⟨k, rfl⟩ : ∃ k, n = k + 1 := ⟨n - 1, by omega⟩
      have hk : 0 < s.size := by omega
      obtain ⟨c, m, hcm⟩ : ∃ c m, s.data.toList = c :: m := by
        cases e : s.data.toList with
        | nil =>
          have : s.data.toList.length = 0 := by rw [e]; rfl
          rw [Array.length_toList] at this
          have h2 : s.data.size = k + 1 := hn
          omega
        | cons c m => exact ⟨c, m, rfl⟩
      have hb0 := byte_atA hcm hk
      have hb : ((s[0]'hk).toNat : Int) = (c.toNat : Int) := by rw [hb0]; rfl
      have HC : Hid (s.data.toList = c :: m) := hcm
      clear hb0 hcm
      by_cases hc : c = 32
      · subst hc
        have hb : ((s[0]'hk).toNat : Int) = 32 := hb
        go_wp2_with fail
        go_round
        case rel =>
          refine ⟨s.extract 1 (k + 1), rfl, by rw [ByteArray.size_extract]; omega, ?_⟩
          show _ = _
          rw [← hn, data_drop1, HC.out]
          show ldrop m = _
          rw [← HS.out, HC.out, ldrop_cons, if_pos (by decide)]
        case measure =>
          show (s.extract 1 (k + 1)).size < s.size
          rw [ByteArray.size_extract]
          omega
      · have HE : Hid (s.data.toList = ldrop l) := by
          show _ = _
          rw [← HS.out, HC.out, ldrop_cons, if_neg (by simpa [isB] using hc)]
        have hN : c.toNat ≠ 32 := fun e => hc (by apply UInt8.toNat_inj.1; rw [e]; rfl)
        obtain ⟨N, hNN⟩ : ∃ N : Int, (c.toNat : Int) = N := ⟨_, rfl⟩
        rw [hNN] at hb
        have hN2 : N ≠ 32 := by omega
        clear hN hNN hc HC
        go_wp2_with fail
        go_loop [0] (fun v => ∃ s : ByteArray, v = .string s ∧ s.size ≤ 2000000 ∧ Hid (rdrop s.data.toList = rdrop (ldrop l))) (fun v => lenOf v)
        case atStart => exact ⟨s, rfl, by omega, by show _ = _; rw [HE.out]⟩
        case round =>
          obtain ⟨r, rfl, hrz, HR⟩ := hrel
          clear HE
          obtain ⟨n, hn'⟩ : ∃ n, r.size = n := ⟨_, rfl⟩
          rw [hn'] at hrz
          by_cases h0 : n = 0
          · subst h0
            have HT : Hid (r.data.toList = trimB l) := by
              show _ = _
              have e : r.data.toList = [] := by
                have : r.data.toList.length = 0 := by rw [Array.length_toList]; exact hn'
                exact List.length_eq_zero_iff.1 this
              have := HR.out
              rw [e] at this
              rw [trimB, ← trim_comm, ← this, e]
              rfl
            go_wp2_with fail
            go_ret
            exact ⟨congrArg Ending.returned (sV_eq HT.out), rfl⟩
          · obtain ⟨k, rfl⟩ : ∃ k, n = k + 1 := ⟨n - 1, by omega⟩
            have hk : k < r.size := by omega
            have hlen : r.data.toList.length = k + 1 := by rw [Array.length_toList]; exact hn'
            obtain ⟨m, c, hmc⟩ : ∃ m c, r.data.toList = m ++ [c] := by
              rcases List.eq_nil_or_concat r.data.toList with e | ⟨m, c, e⟩
              · rw [e] at hlen; simp at hlen
              · exact ⟨m, c, e.trans (List.concat_eq_append ..)⟩
            have hmk : m.length = k := by rw [hmc] at hlen; simpa using hlen
            have hb0 := byte_atA hmc hk
            have hb : ((r[k]'hk).toNat : Int) = (c.toNat : Int) := by
              rw [hb0, List.getD_eq_getElem?_getD, List.getElem?_append_right (by omega), hmk]
              simp
            have HC : Hid (r.data.toList = m ++ [c]) := hmc
            clear hb0 hmc hlen
            have hk2 : (k : Int) < (k : Int) + 1 := by omega
            by_cases hc : c = 32
            · subst hc
              have hb : ((r[k]'hk).toNat : Int) = 32 := hb
              go_wp2_with fail
              go_round
              case rel =>
                refine ⟨r.extract 0 k, rfl, by rw [ByteArray.size_extract]; omega, ?_⟩
                show _ = _
                rw [data_dropLast, HC.out, List.take_left' hmk, ← HR.out, HC.out, rdrop_snoc, if_pos (by decide)]
              case measure =>
                show (r.extract 0 k).size < r.size
                rw [ByteArray.size_extract]
                omega
            · have HT : Hid (r.data.toList = trimB l) := by
                show _ = _
                rw [trimB, ← trim_comm, ← HR.out, HC.out, rdrop_snoc, if_neg (by simpa [isB] using hc)]
              have hN : c.toNat ≠ 32 := fun e => hc (by apply UInt8.toNat_inj.1; rw [e]; rfl)
              obtain ⟨N, hNN⟩ : ∃ N : Int, (c.toNat : Int) = N := ⟨_, rfl⟩
              rw [hNN] at hb
              have hN2 : N ≠ 32 := by omega
              clear hN hNN hc HC hmk
              go_wp2_with fail
              go_ret
              exact ⟨congrArg Ending.returned (sV_eq HT.out), rfl⟩

end Go.Proofs.YtkadkfmidlhedaaGreatDoor

