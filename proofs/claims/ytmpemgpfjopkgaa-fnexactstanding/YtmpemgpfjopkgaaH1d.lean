/-
  Rows handed over and compared: Change.
-/
import Derived.Test.YtmpemgpfjopkgaaH1c
import Derived.Deep.RegionHeld3
namespace Go.Proofs.Ytmpemgpfjopkgaa
open Go.RowKit

theorem infoCh : (Try.prog.info? 53).map (fun i => (i.zero, i.size, i.bytes)) = some (some (.agg #[.int .i64 0, .int .i64 0, sV []]), 3, 32) := by kernel_rfl
theorem makeRowCh (n : Nat) (hn : n ≤ 2000000) (w : World) :
    (Instr.makeSlice 39 (.int .i64 (n : Int)) (.int .i64 (n : Int))).run Try.prog w = .ok (.slice (some ⟨w.heap.size, 0, none⟩) n n) (w.alloc (.cells (madeCells #[.int .i64 0, .int .i64 0, sV []] (n * 3)) 53)) := by
  obtain ⟨i, hi, hzz⟩ := Option.map_eq_some_iff.1 infoCh
  simp only [Prod.mk.injEq] at hzz
  obtain ⟨hz, hs, hb⟩ := hzz
  have hr := run_make (P := Try.prog) w 39 53 i _ Try.underlying39 hi hz .i64 .i64 n n (by omega) (Int.le_refl _) (by rw [hb]; omega) (by omega)
  simp only [Int.toNat_natCast, hs] at hr
  exact hr
/-- What is handed over by an index. -/
def mixCh (l : List CH) (k : Nat) : List CH := l.take k ++ List.replicate (l.length - k) zeroCH
theorem mixCh_length (l : List CH) (k : Nat) (h : k ≤ l.length) : (mixCh l k).length = l.length := by simp [mixCh]; omega
theorem mixCh_zero (l : List CH) : mixCh l 0 = List.replicate l.length zeroCH := by simp [mixCh]
theorem mixCh_all (l : List CH) : mixCh l l.length = l := by simp [mixCh]
theorem mixCh_at {l : List CH} {k : Nat} (h : k < l.length) : (mixCh l k)[k]? = some zeroCH := by
  unfold mixCh
  rw [List.getElem?_append_right (by simp; omega), List.getElem?_replicate, if_pos (by rw [List.length_take]; omega)]
theorem mixCh_succ {l : List CH} {k : Nat} {e : CH} (h : l[k]? = some e) : (mixCh l k).set k e = mixCh l (k + 1) := by
  have hk : k < l.length := (List.getElem?_eq_some_iff.1 h).1
  apply List.ext_getElem?
  intro i
  rw [List.getElem?_set]
  unfold mixCh
  by_cases e1 : k = i
  · subst e1
    rw [if_pos rfl, if_pos (by simp; omega), List.getElem?_append_left (by simp; omega), List.getElem?_take, if_pos (by omega), h]
  · rw [if_neg e1]
    rcases Nat.lt_or_ge i k with hi | hi
    · rw [List.getElem?_append_left (by simp; omega), List.getElem?_append_left (by simp; omega), List.getElem?_take, List.getElem?_take, if_pos hi, if_pos (by omega)]
    · rw [List.getElem?_append_right (by simp; omega), List.getElem?_append_right (by simp; omega), List.getElem?_replicate, List.getElem?_replicate]
      simp only [List.length_take]
      by_cases h2 : i < l.length
      · rw [if_pos (by omega), if_pos (by omega)]
      · rw [if_neg (by omega), if_neg (by omega)]

set_option maxRecDepth 8000 in
set_option maxHeartbeats 1000000 in
theorem toChanges (v : Value) (l : List CH) (w : World) (h : ChangesIn w v l) (hl : l.length ≤ 2000000) :
    Calls Try.prog 29 #[v] w fun e w' => (∃ g, e = .returned (.slice (some ⟨g, 0, none⟩) l.length l.length) ∧ w.heap.size ≤ g ∧ OwnCh w' g l) ∧ Ext w w' := by
  obtain ⟨p, cap, rfl, hcap, hrow⟩ := h
  obtain ⟨n, hn⟩ : ∃ n, l.length = n := ⟨_, rfl⟩
  have HN : Hid (l.length = n) := hn
  have hmk := makeRowCh n (by omega)
  have O0 := OwnCh.made w n 53
  have X0 := x1 w (.cells (madeCells #[.int .i64 0, .int .i64 0, sV []] (n * 3)) 53)
  rw [hn] at hcap hl hrow ⊢
  have HRow : Hid (0 < n → ∃ b o, p = some ⟨b, o, none⟩ ∧ RowCh w b o l) := hrow
  obtain ⟨wa, ha⟩ : ∃ wa, w.alloc (.cells (madeCells #[.int .i64 0, .int .i64 0, sV []] (n * 3)) 53) = wa := ⟨_, rfl⟩
  rw [ha] at O0 X0
  have HO : Hid (OwnCh wa w.heap.size (mixCh l 0)) := by show OwnCh _ _ _; rw [mixCh_zero, hn]; exact O0
  obtain ⟨g, hg⟩ : ∃ g, w.heap.size = g := ⟨_, rfl⟩
  have HG : Hid (w.heap.size ≤ g) := by show _ ≤ _; omega
  rw [hg] at HO
  clear hn hrow O0
  go_enter Try.func29, Try.ntmps29
  go_wp2_with fail
  clear hmk ha
  go_loopw [4] (fun i wr => ∃ k : Nat, k ≤ n ∧ i = .int .i64 k ∧ Hid (OwnCh wr g (mixCh l k)) ∧ Ext w wr) (fun i _ => n - (intOf i).toNat)
  case atStart => exact ⟨0, by omega, rfl, HO, X0⟩
  case round =>
    obtain ⟨k, hk, rfl, HK, X⟩ := hrel
    by_cases hlt : k < n
    · obtain ⟨e, he⟩ : ∃ e, l[k]? = some e := ⟨_, List.getElem?_eq_getElem (by rw [HN.out]; exact hlt)⟩
      obtain ⟨b, o, rfl, hR⟩ := HRow.out (by omega)
      obtain ⟨a0, a1, a2⟩ := (hR.later X).all he
      have HP : Hid (∀ W, OwnCh W g (mixCh l k) → OwnCh (((W.setCell ⟨g, k * 3, none⟩ (.int .i64 e.r)).setCell ⟨g, k * 3 + 1, none⟩ (.int .i64 e.c)).setCell ⟨g, k * 3 + 2, none⟩ (sV e.t)) g (mixCh l (k + 1))) := fun W hW => by
        rw [← mixCh_succ he]
        exact hW.put (by rw [mixCh_length _ _ (by rw [HN.out]; exact hk), HN.out]; exact hlt) e
      obtain ⟨er, ec, et⟩ := e
      have i2 : (k : Int) < (n : Int) := by omega
      clear hR he
      dsimp only at a0 a1 a2 HP
      go_wp2_with fail
      clear a0 a1 a2
      refine (toChange er ec et _).mono ?_
      rintro r w' ⟨rfl, E⟩
      have HK' := HK.out.later E
      obtain ⟨⟨b0, b1, b2⟩, f0, f1, f2⟩ := HK'.all (mixCh_at (by rw [HN.out]; exact hlt))
      have X' := xt X E
      obtain ⟨wy, hy⟩ : ∃ wy, (((w'.setCell ⟨g, k * 3, none⟩ (.int .i64 er)).setCell ⟨g, k * 3 + 1, none⟩ (.int .i64 ec)).setCell ⟨g, k * 3 + 2, none⟩ (sV et)) = wy := ⟨_, rfl⟩
      have HQ : Hid (OwnCh wy g (mixCh l (k + 1))) := by show OwnCh _ _ _; rw [← hy]; exact HP.out _ HK'
      have HX : Hid (Ext w wy) := by
        show Ext _ _
        rw [← hy]
        exact (xset (xset (xset X' HG.out _) HG.out _) HG.out _)
      clear HK' HK HP X X' E
      go_wp2_with fail
      go_roundw
      case rel => exact ⟨k + 1, by omega, by go_num, HQ, HX.out⟩
      case measure => simp [intOf]; omega
    · obtain rfl : k = n := by omega
      have HF : Hid (OwnCh wr g l) := by have := HK.out; rw [← HN.out, mixCh_all] at this; exact this
      clear HK
      go_wp2_with fail
      go_ret
      exact ⟨⟨g, rfl, HG.out, HF.out⟩, X⟩

set_option maxRecDepth 8000 in
set_option maxHeartbeats 2000000 in
theorem eqChange_same (r : Int) (c : Int) (t : List UInt8) (w : World) :
    Calls Try.prog 41 #[changeV r c t, changeV r c t] w fun e w' => e = .returned (.bool true) ∧ Ext w w' := by
  have X1 := x1 w (.cells #[.int .i64 r, .int .i64 c, sV t] 53)
  have B1 := vec_made w [.int .i64 r, .int .i64 c, sV t] 53
  obtain ⟨wa, ha⟩ : ∃ wa, w.alloc (.cells #[.int .i64 r, .int .i64 c, sV t] 53) = wa := ⟨_, rfl⟩
  have B2 := vec_made wa [.int .i64 r, .int .i64 c, sV t] 53
  have X2 := x1 wa (.cells #[.int .i64 r, .int .i64 c, sV t] 53)
  obtain ⟨wb, hb⟩ : ∃ wb, wa.alloc (.cells #[.int .i64 r, .int .i64 c, sV t] 53) = wb := ⟨_, rfl⟩
  have sa : wa.heap.size = w.heap.size + 1 := by rw [← ha, World.size_alloc]
  change Vec (w.alloc (.cells #[.int .i64 r, .int .i64 c, sV t] 53)) _ _ at B1
  change Vec (wa.alloc (.cells #[.int .i64 r, .int .i64 c, sV t] 53)) _ _ at B2
  rw [ha] at X1 B1
  rw [hb] at X2 B2
  rw [sa] at B2
  have X := xt X1 X2
  have B1 := B1.later X2
  clear X1 X2
  have hpt : (t == t) = true := by simp
  have a0 := (B1 0 _ rfl).1
  have a1 := (B1 1 _ rfl).1
  have a2 := (B1 2 _ rfl).1
  have c0 := (B2 0 _ rfl).1
  have c1 := (B2 1 _ rfl).1
  have c2 := (B2 2 _ rfl).1
  go_enter Try.func41, Try.ntmps41
  go_wp2_with fail
  go_ret
  exact ⟨rfl, X⟩
set_option maxRecDepth 8000 in
set_option maxHeartbeats 2000000 in
theorem eqChanges (v v' : Value) (l : List CH) (w : World) (h : ChangesIn w v l) (h' : ChangesIn w v' l) (hl : l.length ≤ 2000000) :
    Calls Try.prog 33 #[v, v'] w fun e w' => e = .returned (.bool true) ∧ Ext w w' := by
  obtain ⟨p, cap, rfl, hcap, hrow⟩ := h
  obtain ⟨p', cap', rfl, hcap', hrow'⟩ := h'
  obtain ⟨n, hn⟩ : ∃ n, l.length = n := ⟨_, rfl⟩
  have HN : Hid (l.length = n) := hn
  rw [hn] at hcap hcap' hl hrow hrow' ⊢
  have HRow : Hid (0 < n → ∃ b o, p = some ⟨b, o, none⟩ ∧ RowCh w b o l) := hrow
  have HRow' : Hid (0 < n → ∃ b o, p' = some ⟨b, o, none⟩ ∧ RowCh w b o l) := hrow'
  clear hn hrow hrow'
  go_enter Try.func33, Try.ntmps33
  go_wp2_with fail
  go_loopw [5] (fun i wr => ∃ k : Nat, k ≤ n ∧ i = .int .i64 k ∧ Ext w wr) (fun i _ => n - (intOf i).toNat)
  case atStart => exact ⟨0, by omega, rfl, xr _⟩
  case round =>
    obtain ⟨k, hk, rfl, X⟩ := hrel
    by_cases hlt : k < n
    · obtain ⟨e, he⟩ : ∃ e, l[k]? = some e := ⟨_, List.getElem?_eq_getElem (by rw [HN.out]; exact hlt)⟩
      obtain ⟨b, o, rfl, hR⟩ := HRow.out (by omega)
      obtain ⟨b', o', rfl, hR'⟩ := HRow'.out (by omega)
      obtain ⟨a0, a1, a2⟩ := (hR.later X).all he
      obtain ⟨c0, c1, c2⟩ := (hR'.later X).all he
      obtain ⟨er, ec, et⟩ := e
      have i2 : (k : Int) < (n : Int) := by omega
      clear hR hR' he
      dsimp only at a0 a1 a2 c0 c1 c2
      go_wp2_with fail
      go_region_held3 (fun w' => (w'.cell? ⟨b, o + k * 3, none⟩ = some (.int .i64 er) ∧ w'.cell? ⟨b, o + k * 3 + 1, none⟩ = some (.int .i64 ec) ∧ w'.cell? ⟨b, o + k * 3 + 2, none⟩ = some (sV et)) ∧ w'.cell? ⟨b', o' + k * 3, none⟩ = some (.int .i64 er) ∧ w'.cell? ⟨b', o' + k * 3 + 1, none⟩ = some (.int .i64 ec) ∧ w'.cell? ⟨b', o' + k * 3 + 2, none⟩ = some (sV et)) (go_keep)
        (first
          | (go_at_call 41; refine (eqChange_same er ec et _).mono ?_; rintro e w' ⟨rfl, E⟩; have Y := xt (xd (xr _)) E; have r0 := cell_later Y a0; have r1 := cell_later Y a1; have r2 := cell_later Y a2; have s0 := cell_later Y c0; have s1 := cell_later Y c1; have s2 := cell_later Y c2))
      go_wp2_with fail
      go_roundw
      case rel => exact ⟨k + 1, by omega, by go_num, xt X Y⟩
      case measure => simp [intOf]; omega
    · obtain rfl : k = n := by omega
      go_wp2_with fail
      go_ret
      exact ⟨rfl, X⟩

end Go.Proofs.Ytmpemgpfjopkgaa
