/-
  Rows handed over and compared: Shown.
-/
import Derived.Test.YtbipmeldmgpknaaS8c
import Derived.Deep.RegionHeld3
namespace Go.Proofs.Ytbipmeldmgpknaa
open Go.RowKit

theorem infoS : (Try.prog.info? 42).map (fun i => (i.zero, i.size, i.bytes)) = some (some (.agg #[.int .i64 0, .int .i64 0, .int .i64 0, .bool false, .int .i64 0, .int .i64 0, sV [], .bool false]), 8, 72) := by kernel_rfl
theorem makeRowS (n : Nat) (hn : n ≤ 2000000) (w : World) :
    (Instr.makeSlice 24 (.int .i64 (n : Int)) (.int .i64 (n : Int))).run Try.prog w = .ok (.slice (some ⟨w.heap.size, 0, none⟩) n n) (w.alloc (.cells (madeCells #[.int .i64 0, .int .i64 0, .int .i64 0, .bool false, .int .i64 0, .int .i64 0, sV [], .bool false] (n * 8)) 42)) := by
  obtain ⟨i, hi, hzz⟩ := Option.map_eq_some_iff.1 infoS
  simp only [Prod.mk.injEq] at hzz
  obtain ⟨hz, hs, hb⟩ := hzz
  have hr := run_make (P := Try.prog) w 24 42 i _ Try.underlying24 hi hz .i64 .i64 n n (by omega) (Int.le_refl _) (by rw [hb]; omega) (by omega)
  simp only [Int.toNat_natCast, hs] at hr
  exact hr
/-- What is handed over by an index. -/
def mixS (l : List ST) (k : Nat) : List ST := l.take k ++ List.replicate (l.length - k) zeroST
theorem mixS_length (l : List ST) (k : Nat) (h : k ≤ l.length) : (mixS l k).length = l.length := by simp [mixS]; omega
theorem mixS_zero (l : List ST) : mixS l 0 = List.replicate l.length zeroST := by simp [mixS]
theorem mixS_all (l : List ST) : mixS l l.length = l := by simp [mixS]
theorem mixS_at {l : List ST} {k : Nat} (h : k < l.length) : (mixS l k)[k]? = some zeroST := by
  unfold mixS
  rw [List.getElem?_append_right (by simp; omega), List.getElem?_replicate, if_pos (by rw [List.length_take]; omega)]
theorem mixS_succ {l : List ST} {k : Nat} {e : ST} (h : l[k]? = some e) : (mixS l k).set k e = mixS l (k + 1) := by
  have hk : k < l.length := (List.getElem?_eq_some_iff.1 h).1
  apply List.ext_getElem?
  intro i
  rw [List.getElem?_set]
  unfold mixS
  by_cases e1 : k = i
  · subst e1
    rw [if_pos rfl, if_pos (by simp; omega), List.getElem?_append_left (by simp; omega), List.getElem?_take, if_pos (by omega), h]
  · rw [if_neg e1]
    rcases Nat.lt_or_ge i k with hi | hi
    · rw [List.getElem?_append_left (by simp; omega), List.getElem?_append_left (by simp; omega), List.getElem?_take, List.getElem?_take, if_pos hi, if_pos (by omega)]
    · rw [List.getElem?_append_right (by simp; omega), List.getElem?_append_right (by simp; omega), List.getElem?_replicate, List.getElem?_replicate]
      simp only [List.length_take]
      by_cases h2 : i < l.length
      · rw [if_pos (by omega), if_pos (by omega)]
      · rw [if_neg (by omega), if_neg (by omega)]

set_option maxRecDepth 8000 in
set_option maxHeartbeats 1000000 in
theorem toShowns (v : Value) (l : List ST) (w : World) (h : ShownsIn w v l) (hl : l.length ≤ 2000000) :
    Calls Try.prog 6 #[v] w fun e w' => (∃ g, e = .returned (.slice (some ⟨g, 0, none⟩) l.length l.length) ∧ w.heap.size ≤ g ∧ OwnS w' g l) ∧ Ext w w' := by
  obtain ⟨p, cap, rfl, hcap, hrow⟩ := h
  obtain ⟨n, hn⟩ : ∃ n, l.length = n := ⟨_, rfl⟩
  have HN : Hid (l.length = n) := hn
  have hmk := makeRowS n (by omega)
  have O0 := OwnS.made w n 42
  have X0 := x1 w (.cells (madeCells #[.int .i64 0, .int .i64 0, .int .i64 0, .bool false, .int .i64 0, .int .i64 0, sV [], .bool false] (n * 8)) 42)
  rw [hn] at hcap hl hrow ⊢
  have HRow : Hid (0 < n → ∃ b o, p = some ⟨b, o, none⟩ ∧ RowS w b o l) := hrow
  obtain ⟨wa, ha⟩ : ∃ wa, w.alloc (.cells (madeCells #[.int .i64 0, .int .i64 0, .int .i64 0, .bool false, .int .i64 0, .int .i64 0, sV [], .bool false] (n * 8)) 42) = wa := ⟨_, rfl⟩
  rw [ha] at O0 X0
  have HO : Hid (OwnS wa w.heap.size (mixS l 0)) := by show OwnS _ _ _; rw [mixS_zero, hn]; exact O0
  obtain ⟨g, hg⟩ : ∃ g, w.heap.size = g := ⟨_, rfl⟩
  have HG : Hid (w.heap.size ≤ g) := by show _ ≤ _; omega
  rw [hg] at HO
  clear hn hrow O0
  go_enter Try.func6, Try.ntmps6
  go_wp2_with fail
  clear hmk ha
  go_loopw [4] (fun i wr => ∃ k : Nat, k ≤ n ∧ i = .int .i64 k ∧ Hid (OwnS wr g (mixS l k)) ∧ Ext w wr) (fun i _ => n - (intOf i).toNat)
  case atStart => exact ⟨0, by omega, rfl, HO, X0⟩
  case round =>
    obtain ⟨k, hk, rfl, HK, X⟩ := hrel
    by_cases hlt : k < n
    · obtain ⟨e, he⟩ : ∃ e, l[k]? = some e := ⟨_, List.getElem?_eq_getElem (by rw [HN.out]; exact hlt)⟩
      obtain ⟨b, o, rfl, hR⟩ := HRow.out (by omega)
      obtain ⟨a0, a1, a2, a3, a4, a5, a6, a7⟩ := (hR.later X).all he
      have HP : Hid (∀ W, OwnS W g (mixS l k) → OwnS ((((((((W.setCell ⟨g, k * 8, none⟩ (.int .i64 e.r)).setCell ⟨g, k * 8 + 1, none⟩ (.int .i64 e.c)).setCell ⟨g, k * 8 + 2, none⟩ (.int .i64 e.k)).setCell ⟨g, k * 8 + 3, none⟩ (.bool e.n)).setCell ⟨g, k * 8 + 4, none⟩ (.int .i64 e.d)).setCell ⟨g, k * 8 + 5, none⟩ (.int .i64 e.x)).setCell ⟨g, k * 8 + 6, none⟩ (sV e.t)).setCell ⟨g, k * 8 + 7, none⟩ (.bool e.q)) g (mixS l (k + 1))) := fun W hW => by
        rw [← mixS_succ he]
        exact hW.put (by rw [mixS_length _ _ (by rw [HN.out]; exact hk), HN.out]; exact hlt) e
      obtain ⟨er, ec, ek, en, ed, ex, et, eq⟩ := e
      have i2 : (k : Int) < (n : Int) := by omega
      clear hR he
      dsimp only at a0 a1 a2 a3 a4 a5 a6 a7 HP
      go_wp2_with fail
      clear a0 a1 a2 a3 a4 a5 a6 a7
      refine (toShown er ec ek en ed ex et eq _).mono ?_
      rintro r w' ⟨rfl, E⟩
      have HK' := HK.out.later E
      obtain ⟨⟨b0, b1, b2, b3, b4, b5, b6, b7⟩, f0, f1, f2, f3, f4, f5, f6, f7⟩ := HK'.all (mixS_at (by rw [HN.out]; exact hlt))
      have X' := xt X E
      obtain ⟨wy, hy⟩ : ∃ wy, ((((((((w'.setCell ⟨g, k * 8, none⟩ (.int .i64 er)).setCell ⟨g, k * 8 + 1, none⟩ (.int .i64 ec)).setCell ⟨g, k * 8 + 2, none⟩ (.int .i64 ek)).setCell ⟨g, k * 8 + 3, none⟩ (.bool en)).setCell ⟨g, k * 8 + 4, none⟩ (.int .i64 ed)).setCell ⟨g, k * 8 + 5, none⟩ (.int .i64 ex)).setCell ⟨g, k * 8 + 6, none⟩ (sV et)).setCell ⟨g, k * 8 + 7, none⟩ (.bool eq)) = wy := ⟨_, rfl⟩
      have HQ : Hid (OwnS wy g (mixS l (k + 1))) := by show OwnS _ _ _; rw [← hy]; exact HP.out _ HK'
      have HX : Hid (Ext w wy) := by
        show Ext _ _
        rw [← hy]
        exact (xset (xset (xset (xset (xset (xset (xset (xset X' HG.out _) HG.out _) HG.out _) HG.out _) HG.out _) HG.out _) HG.out _) HG.out _)
      clear HK' HK HP X X' E
      go_wp2_with fail
      go_roundw
      case rel => exact ⟨k + 1, by omega, by go_num, HQ, HX.out⟩
      case measure => simp [intOf]; omega
    · obtain rfl : k = n := by omega
      have HF : Hid (OwnS wr g l) := by have := HK.out; rw [← HN.out, mixS_all] at this; exact this
      clear HK
      go_wp2_with fail
      go_ret
      exact ⟨⟨g, rfl, HG.out, HF.out⟩, X⟩

set_option maxRecDepth 8000 in
set_option maxHeartbeats 2000000 in
theorem eqShown_same (r : Int) (c : Int) (k : Int) (n : Bool) (d : Int) (x : Int) (t : List UInt8) (q : Bool) (w : World) :
    Calls Try.prog 20 #[shownV r c k n d x t q, shownV r c k n d x t q] w fun e w' => e = .returned (.bool true) ∧ Ext w w' := by
  have X1 := x1 w (.cells #[.int .i64 r, .int .i64 c, .int .i64 k, .bool n, .int .i64 d, .int .i64 x, sV t, .bool q] 42)
  have B1 := vec_made w [.int .i64 r, .int .i64 c, .int .i64 k, .bool n, .int .i64 d, .int .i64 x, sV t, .bool q] 42
  obtain ⟨wa, ha⟩ : ∃ wa, w.alloc (.cells #[.int .i64 r, .int .i64 c, .int .i64 k, .bool n, .int .i64 d, .int .i64 x, sV t, .bool q] 42) = wa := ⟨_, rfl⟩
  have B2 := vec_made wa [.int .i64 r, .int .i64 c, .int .i64 k, .bool n, .int .i64 d, .int .i64 x, sV t, .bool q] 42
  have X2 := x1 wa (.cells #[.int .i64 r, .int .i64 c, .int .i64 k, .bool n, .int .i64 d, .int .i64 x, sV t, .bool q] 42)
  obtain ⟨wb, hb⟩ : ∃ wb, wa.alloc (.cells #[.int .i64 r, .int .i64 c, .int .i64 k, .bool n, .int .i64 d, .int .i64 x, sV t, .bool q] 42) = wb := ⟨_, rfl⟩
  have sa : wa.heap.size = w.heap.size + 1 := by rw [← ha, World.size_alloc]
  change Vec (w.alloc (.cells #[.int .i64 r, .int .i64 c, .int .i64 k, .bool n, .int .i64 d, .int .i64 x, sV t, .bool q] 42)) _ _ at B1
  change Vec (wa.alloc (.cells #[.int .i64 r, .int .i64 c, .int .i64 k, .bool n, .int .i64 d, .int .i64 x, sV t, .bool q] 42)) _ _ at B2
  rw [ha] at X1 B1
  rw [hb] at X2 B2
  rw [sa] at B2
  have X := xt X1 X2
  have B1 := B1.later X2
  clear X1 X2
  have a0 := (B1 0 _ rfl).1
  have a1 := (B1 1 _ rfl).1
  have a2 := (B1 2 _ rfl).1
  have a3 := (B1 3 _ rfl).1
  have a4 := (B1 4 _ rfl).1
  have a5 := (B1 5 _ rfl).1
  have a6 := (B1 6 _ rfl).1
  have c0 := (B2 0 _ rfl).1
  have c1 := (B2 1 _ rfl).1
  have c2 := (B2 2 _ rfl).1
  have c3 := (B2 3 _ rfl).1
  have c4 := (B2 4 _ rfl).1
  have c5 := (B2 5 _ rfl).1
  have c6 := (B2 6 _ rfl).1
  go_enter Try.func20, Try.ntmps20
  go_wp2_with fail
  clear ha hb sa a0 c0 a1 c1 a2 c2 a3 c3 a4 c4 a5 c5 a6 c6
  refine (eqValue_same k n d x t wb).mono ?_
  rintro e w1 ⟨rfl, e1⟩
  have C1 := B1.later e1
  have C2 := B2.later e1
  have X1 := xt X e1
  clear B1 B2
  have a7 := (C1 7 _ rfl).1
  have c7 := (C2 7 _ rfl).1
  go_wp2_with fail
  go_ret
  exact ⟨rfl, X1⟩
set_option maxRecDepth 8000 in
set_option maxHeartbeats 2000000 in
theorem eqShowns (v v' : Value) (l : List ST) (w : World) (h : ShownsIn w v l) (h' : ShownsIn w v' l) (hl : l.length ≤ 4000000) :
    Calls Try.prog 8 #[v, v'] w fun e w' => e = .returned (.bool true) ∧ Ext w w' := by
  obtain ⟨p, cap, rfl, hcap, hrow⟩ := h
  obtain ⟨p', cap', rfl, hcap', hrow'⟩ := h'
  obtain ⟨n, hn⟩ : ∃ n, l.length = n := ⟨_, rfl⟩
  have HN : Hid (l.length = n) := hn
  rw [hn] at hcap hcap' hl hrow hrow' ⊢
  have HRow : Hid (0 < n → ∃ b o, p = some ⟨b, o, none⟩ ∧ RowS w b o l) := hrow
  have HRow' : Hid (0 < n → ∃ b o, p' = some ⟨b, o, none⟩ ∧ RowS w b o l) := hrow'
  clear hn hrow hrow'
  go_enter Try.func8, Try.ntmps8
  go_wp2_with fail
  go_loopw [5] (fun i wr => ∃ k : Nat, k ≤ n ∧ i = .int .i64 k ∧ Ext w wr) (fun i _ => n - (intOf i).toNat)
  case atStart => exact ⟨0, by omega, rfl, xr _⟩
  case round =>
    obtain ⟨k, hk, rfl, X⟩ := hrel
    by_cases hlt : k < n
    · obtain ⟨e, he⟩ : ∃ e, l[k]? = some e := ⟨_, List.getElem?_eq_getElem (by rw [HN.out]; exact hlt)⟩
      obtain ⟨b, o, rfl, hR⟩ := HRow.out (by omega)
      obtain ⟨b', o', rfl, hR'⟩ := HRow'.out (by omega)
      obtain ⟨a0, a1, a2, a3, a4, a5, a6, a7⟩ := (hR.later X).all he
      obtain ⟨c0, c1, c2, c3, c4, c5, c6, c7⟩ := (hR'.later X).all he
      obtain ⟨er, ec, ek, en, ed, ex, et, eq⟩ := e
      have i2 : (k : Int) < (n : Int) := by omega
      clear hR hR' he
      dsimp only at a0 a1 a2 a3 a4 a5 a6 a7 c0 c1 c2 c3 c4 c5 c6 c7
      go_wp2_with fail
      go_region_held3 (fun w' => (w'.cell? ⟨b, o + k * 8, none⟩ = some (.int .i64 er) ∧ w'.cell? ⟨b, o + k * 8 + 1, none⟩ = some (.int .i64 ec) ∧ w'.cell? ⟨b, o + k * 8 + 2, none⟩ = some (.int .i64 ek) ∧ w'.cell? ⟨b, o + k * 8 + 3, none⟩ = some (.bool en) ∧ w'.cell? ⟨b, o + k * 8 + 4, none⟩ = some (.int .i64 ed) ∧ w'.cell? ⟨b, o + k * 8 + 5, none⟩ = some (.int .i64 ex) ∧ w'.cell? ⟨b, o + k * 8 + 6, none⟩ = some (sV et) ∧ w'.cell? ⟨b, o + k * 8 + 7, none⟩ = some (.bool eq)) ∧ w'.cell? ⟨b', o' + k * 8, none⟩ = some (.int .i64 er) ∧ w'.cell? ⟨b', o' + k * 8 + 1, none⟩ = some (.int .i64 ec) ∧ w'.cell? ⟨b', o' + k * 8 + 2, none⟩ = some (.int .i64 ek) ∧ w'.cell? ⟨b', o' + k * 8 + 3, none⟩ = some (.bool en) ∧ w'.cell? ⟨b', o' + k * 8 + 4, none⟩ = some (.int .i64 ed) ∧ w'.cell? ⟨b', o' + k * 8 + 5, none⟩ = some (.int .i64 ex) ∧ w'.cell? ⟨b', o' + k * 8 + 6, none⟩ = some (sV et) ∧ w'.cell? ⟨b', o' + k * 8 + 7, none⟩ = some (.bool eq)) (go_keep)
        (first
          | (go_at_call 20; refine (eqShown_same er ec ek en ed ex et eq _).mono ?_; rintro e w' ⟨rfl, E⟩; have Y := xt (xd (xr _)) E; have r0 := cell_later Y a0; have r1 := cell_later Y a1; have r2 := cell_later Y a2; have r3 := cell_later Y a3; have r4 := cell_later Y a4; have r5 := cell_later Y a5; have r6 := cell_later Y a6; have r7 := cell_later Y a7; have s0 := cell_later Y c0; have s1 := cell_later Y c1; have s2 := cell_later Y c2; have s3 := cell_later Y c3; have s4 := cell_later Y c4; have s5 := cell_later Y c5; have s6 := cell_later Y c6; have s7 := cell_later Y c7))
      go_wp2_with fail
      go_roundw
      case rel => exact ⟨k + 1, by omega, by go_num, xt X Y⟩
      case measure => simp [intOf]; omega
    · obtain rfl : k = n := by omega
      go_wp2_with fail
      go_ret
      exact ⟨rfl, X⟩

end Go.Proofs.Ytbipmeldmgpknaa
