/-
  Rows handed over and compared: Format.
-/
import Derived.Test.YthedbjjncnddbaaDoorKb
import Derived.Deep.RegionHeld3
namespace Go.Proofs.YthedbjjncnddbaaDoor
open Go.RowKit

theorem infoK : (Tryd.prog.info? 33).map (fun i => (i.zero, i.size, i.bytes)) = some (some (.agg #[.bool false, sV [], sV [], .int .i64 0, .int .i64 0, .int .i64 0, .bool false, .int .i64 0, sV []]), 9, 96) := by kernel_rfl
theorem makeRowK (n : Nat) (hn : n ≤ 2000000) (w : World) :
    (Instr.makeSlice 22 (.int .i64 (n : Int)) (.int .i64 (n : Int))).run Tryd.prog w = .ok (.slice (some ⟨w.heap.size, 0, none⟩) n n) (w.alloc (.cells (madeCells #[.bool false, sV [], sV [], .int .i64 0, .int .i64 0, .int .i64 0, .bool false, .int .i64 0, sV []] (n * 9)) 33)) := by
  obtain ⟨i, hi, hzz⟩ := Option.map_eq_some_iff.1 infoK
  simp only [Prod.mk.injEq] at hzz
  obtain ⟨hz, hs, hb⟩ := hzz
  have hr := run_make (P := Tryd.prog) w 22 33 i _ Tryd.underlying22 hi hz .i64 .i64 n n (by omega) (Int.le_refl _) (by rw [hb]; omega) (by omega)
  simp only [Int.toNat_natCast, hs] at hr
  exact hr
/-- What is handed over by an index. -/
def mixK (l : List KT) (k : Nat) : List KT := l.take k ++ List.replicate (l.length - k) zeroKT
theorem mixK_length (l : List KT) (k : Nat) (h : k ≤ l.length) : (mixK l k).length = l.length := by simp [mixK]; omega
theorem mixK_zero (l : List KT) : mixK l 0 = List.replicate l.length zeroKT := by simp [mixK]
theorem mixK_all (l : List KT) : mixK l l.length = l := by simp [mixK]
theorem mixK_at {l : List KT} {k : Nat} (h : k < l.length) : (mixK l k)[k]? = some zeroKT := by
  unfold mixK
  rw [List.getElem?_append_right (by simp; omega), List.getElem?_replicate, if_pos (by rw [List.length_take]; omega)]
theorem mixK_succ {l : List KT} {k : Nat} {e : KT} (h : l[k]? = some e) : (mixK l k).set k e = mixK l (k + 1) := by
  have hk : k < l.length := (List.getElem?_eq_some_iff.1 h).1
  apply List.ext_getElem?
  intro i
  rw [List.getElem?_set]
  unfold mixK
  by_cases e1 : k = i
  · subst e1
    rw [if_pos rfl, if_pos (by simp; omega), List.getElem?_append_left (by simp; omega), List.getElem?_take, if_pos (by omega), h]
  · rw [if_neg e1]
    rcases Nat.lt_or_ge i k with hi | hi
    · rw [List.getElem?_append_left (by simp; omega), List.getElem?_append_left (by simp; omega), List.getElem?_take, List.getElem?_take, if_pos hi, if_pos (by omega)]
    · rw [List.getElem?_append_right (by simp; omega), List.getElem?_append_right (by simp; omega), List.getElem?_replicate, List.getElem?_replicate]
      simp only [List.length_take]
      by_cases h2 : i < l.length
      · rw [if_pos (by omega), if_pos (by omega)]
      · rw [if_neg (by omega), if_neg (by omega)]

set_option maxRecDepth 8000 in
set_option maxHeartbeats 1000000 in
theorem toFormats (v : Value) (l : List KT) (w : World) (h : FormatsIn w v l) (hl : l.length ≤ 2000000) :
    Calls Tryd.prog 12 #[v] w fun e w' => (∃ g, e = .returned (.slice (some ⟨g, 0, none⟩) l.length l.length) ∧ w.heap.size ≤ g ∧ OwnK w' g l) ∧ Ext w w' := by
  obtain ⟨p, cap, rfl, hcap, hrow⟩ := h
  obtain ⟨n, hn⟩ : ∃ n, l.length = n := ⟨_, rfl⟩
  have HN : Hid (l.length = n) := hn
  have hmk := makeRowK n (by omega)
  have O0 := OwnK.made w n 33
  have X0 := x1 w (.cells (madeCells #[.bool false, sV [], sV [], .int .i64 0, .int .i64 0, .int .i64 0, .bool false, .int .i64 0, sV []] (n * 9)) 33)
  rw [hn] at hcap hl hrow ⊢
  have HRow : Hid (0 < n → ∃ b o, p = some ⟨b, o, none⟩ ∧ RowK w b o l) := hrow
  obtain ⟨wa, ha⟩ : ∃ wa, w.alloc (.cells (madeCells #[.bool false, sV [], sV [], .int .i64 0, .int .i64 0, .int .i64 0, .bool false, .int .i64 0, sV []] (n * 9)) 33) = wa := ⟨_, rfl⟩
  rw [ha] at O0 X0
  have HO : Hid (OwnK wa w.heap.size (mixK l 0)) := by show OwnK _ _ _; rw [mixK_zero, hn]; exact O0
  obtain ⟨g, hg⟩ : ∃ g, w.heap.size = g := ⟨_, rfl⟩
  have HG : Hid (w.heap.size ≤ g) := by show _ ≤ _; omega
  rw [hg] at HO
  clear hn hrow O0
  go_enter Tryd.func12, Tryd.ntmps12
  go_wp2_with fail
  clear hmk ha
  go_loopw [4] (fun i wr => ∃ k : Nat, k ≤ n ∧ i = .int .i64 k ∧ Hid (OwnK wr g (mixK l k)) ∧ Ext w wr) (fun i _ => n - (intOf i).toNat)
  case atStart => exact ⟨0, by omega, rfl, HO, X0⟩
  case round =>
    obtain ⟨k, hk, rfl, HK, X⟩ := hrel
    by_cases hlt : k < n
    · obtain ⟨e, he⟩ : ∃ e, l[k]? = some e := ⟨_, List.getElem?_eq_getElem (by rw [HN.out]; exact hlt)⟩
      obtain ⟨b, o, rfl, hR⟩ := HRow.out (by omega)
      obtain ⟨a0, a1, a2, a3, a4, a5, a6, a7, a8⟩ := (hR.later X).all he
      have HP : Hid (∀ W, OwnK W g (mixK l k) → OwnK (((((((((W.setCell ⟨g, k * 9, none⟩ (.bool e.ng)).setCell ⟨g, k * 9 + 1, none⟩ (sV e.bf)).setCell ⟨g, k * 9 + 2, none⟩ (sV e.af)).setCell ⟨g, k * 9 + 3, none⟩ (.int .i64 e.wh)).setCell ⟨g, k * 9 + 4, none⟩ (.int .i64 e.pl)).setCell ⟨g, k * 9 + 5, none⟩ (.int .i64 e.mb)).setCell ⟨g, k * 9 + 6, none⟩ (.bool e.gr)).setCell ⟨g, k * 9 + 7, none⟩ (.int .i64 e.tm)).setCell ⟨g, k * 9 + 8, none⟩ (sV e.dt)) g (mixK l (k + 1))) := fun W hW => by
        rw [← mixK_succ he]
        exact hW.put (by rw [mixK_length _ _ (by rw [HN.out]; exact hk), HN.out]; exact hlt) e
      obtain ⟨eng, ebf, eaf, ewh, epl, emb, egr, etm, edt⟩ := e
      have i2 : (k : Int) < (n : Int) := by omega
      clear hR he
      dsimp only at a0 a1 a2 a3 a4 a5 a6 a7 a8 HP
      go_wp2_with fail
      clear a0 a1 a2 a3 a4 a5 a6 a7 a8
      refine (toFormat eng ebf eaf ewh epl emb egr etm edt _).mono ?_
      rintro r w' ⟨rfl, E⟩
      have HK' := HK.out.later E
      obtain ⟨⟨b0, b1, b2, b3, b4, b5, b6, b7, b8⟩, f0, f1, f2, f3, f4, f5, f6, f7, f8⟩ := HK'.all (mixK_at (by rw [HN.out]; exact hlt))
      have X' := xt X E
      obtain ⟨wy, hy⟩ : ∃ wy, (((((((((w'.setCell ⟨g, k * 9, none⟩ (.bool eng)).setCell ⟨g, k * 9 + 1, none⟩ (sV ebf)).setCell ⟨g, k * 9 + 2, none⟩ (sV eaf)).setCell ⟨g, k * 9 + 3, none⟩ (.int .i64 ewh)).setCell ⟨g, k * 9 + 4, none⟩ (.int .i64 epl)).setCell ⟨g, k * 9 + 5, none⟩ (.int .i64 emb)).setCell ⟨g, k * 9 + 6, none⟩ (.bool egr)).setCell ⟨g, k * 9 + 7, none⟩ (.int .i64 etm)).setCell ⟨g, k * 9 + 8, none⟩ (sV edt)) = wy := ⟨_, rfl⟩
      have HQ : Hid (OwnK wy g (mixK l (k + 1))) := by show OwnK _ _ _; rw [← hy]; exact HP.out _ HK'
      have HX : Hid (Ext w wy) := by
        show Ext _ _
        rw [← hy]
        exact (xset (xset (xset (xset (xset (xset (xset (xset (xset X' HG.out _) HG.out _) HG.out _) HG.out _) HG.out _) HG.out _) HG.out _) HG.out _) HG.out _)
      clear HK' HK HP X X' E
      go_wp2_with fail
      go_roundw
      case rel => exact ⟨k + 1, by omega, by go_num, HQ, HX.out⟩
      case measure => simp [intOf]; omega
    · obtain rfl : k = n := by omega
      have HF : Hid (OwnK wr g l) := by have := HK.out; rw [← HN.out, mixK_all] at this; exact this
      clear HK
      go_wp2_with fail
      go_ret
      exact ⟨⟨g, rfl, HG.out, HF.out⟩, X⟩

set_option maxRecDepth 8000 in
set_option maxHeartbeats 2000000 in
theorem eqFormat_same (ng : Bool) (bf : List UInt8) (af : List UInt8) (wh : Int) (pl : Int) (mb : Int) (gr : Bool) (tm : Int) (dt : List UInt8) (w : World) :
    Calls Tryd.prog 17 #[formatV ng bf af wh pl mb gr tm dt, formatV ng bf af wh pl mb gr tm dt] w fun e w' => e = .returned (.bool true) ∧ Ext w w' := by
  have X1 := x1 w (.cells #[.bool ng, sV bf, sV af, .int .i64 wh, .int .i64 pl, .int .i64 mb, .bool gr, .int .i64 tm, sV dt] 33)
  have B1 := vec_made w [.bool ng, sV bf, sV af, .int .i64 wh, .int .i64 pl, .int .i64 mb, .bool gr, .int .i64 tm, sV dt] 33
  obtain ⟨wa, ha⟩ : ∃ wa, w.alloc (.cells #[.bool ng, sV bf, sV af, .int .i64 wh, .int .i64 pl, .int .i64 mb, .bool gr, .int .i64 tm, sV dt] 33) = wa := ⟨_, rfl⟩
  have B2 := vec_made wa [.bool ng, sV bf, sV af, .int .i64 wh, .int .i64 pl, .int .i64 mb, .bool gr, .int .i64 tm, sV dt] 33
  have X2 := x1 wa (.cells #[.bool ng, sV bf, sV af, .int .i64 wh, .int .i64 pl, .int .i64 mb, .bool gr, .int .i64 tm, sV dt] 33)
  obtain ⟨wb, hb⟩ : ∃ wb, wa.alloc (.cells #[.bool ng, sV bf, sV af, .int .i64 wh, .int .i64 pl, .int .i64 mb, .bool gr, .int .i64 tm, sV dt] 33) = wb := ⟨_, rfl⟩
  have sa : wa.heap.size = w.heap.size + 1 := by rw [← ha, World.size_alloc]
  change Vec (w.alloc (.cells #[.bool ng, sV bf, sV af, .int .i64 wh, .int .i64 pl, .int .i64 mb, .bool gr, .int .i64 tm, sV dt] 33)) _ _ at B1
  change Vec (wa.alloc (.cells #[.bool ng, sV bf, sV af, .int .i64 wh, .int .i64 pl, .int .i64 mb, .bool gr, .int .i64 tm, sV dt] 33)) _ _ at B2
  rw [ha] at X1 B1
  rw [hb] at X2 B2
  rw [sa] at B2
  have X := xt X1 X2
  have B1 := B1.later X2
  clear X1 X2
  have hpbf : (bf == bf) = true := by simp
  have hpaf : (af == af) = true := by simp
  have hpdt : (dt == dt) = true := by simp
  have a0 := (B1 0 _ rfl).1
  have a1 := (B1 1 _ rfl).1
  have a2 := (B1 2 _ rfl).1
  have a3 := (B1 3 _ rfl).1
  have a4 := (B1 4 _ rfl).1
  have a5 := (B1 5 _ rfl).1
  have a6 := (B1 6 _ rfl).1
  have a7 := (B1 7 _ rfl).1
  have a8 := (B1 8 _ rfl).1
  have c0 := (B2 0 _ rfl).1
  have c1 := (B2 1 _ rfl).1
  have c2 := (B2 2 _ rfl).1
  have c3 := (B2 3 _ rfl).1
  have c4 := (B2 4 _ rfl).1
  have c5 := (B2 5 _ rfl).1
  have c6 := (B2 6 _ rfl).1
  have c7 := (B2 7 _ rfl).1
  have c8 := (B2 8 _ rfl).1
  go_enter Tryd.func17, Tryd.ntmps17
  go_wp2_with fail
  go_ret
  exact ⟨rfl, X⟩
set_option maxRecDepth 8000 in
set_option maxHeartbeats 2000000 in
theorem eqFormats (v v' : Value) (l : List KT) (w : World) (h : FormatsIn w v l) (h' : FormatsIn w v' l) (hl : l.length ≤ 2000000) :
    Calls Tryd.prog 7 #[v, v'] w fun e w' => e = .returned (.bool true) ∧ Ext w w' := by
  obtain ⟨p, cap, rfl, hcap, hrow⟩ := h
  obtain ⟨p', cap', rfl, hcap', hrow'⟩ := h'
  obtain ⟨n, hn⟩ : ∃ n, l.length = n := ⟨_, rfl⟩
  have HN : Hid (l.length = n) := hn
  rw [hn] at hcap hcap' hl hrow hrow' ⊢
  have HRow : Hid (0 < n → ∃ b o, p = some ⟨b, o, none⟩ ∧ RowK w b o l) := hrow
  have HRow' : Hid (0 < n → ∃ b o, p' = some ⟨b, o, none⟩ ∧ RowK w b o l) := hrow'
  clear hn hrow hrow'
  go_enter Tryd.func7, Tryd.ntmps7
  go_wp2_with fail
  go_loopw [5] (fun i wr => ∃ k : Nat, k ≤ n ∧ i = .int .i64 k ∧ Ext w wr) (fun i _ => n - (intOf i).toNat)
  case atStart => exact ⟨0, by omega, rfl, xr _⟩
  case round =>
    obtain ⟨k, hk, rfl, X⟩ := hrel
    by_cases hlt : k < n
    · obtain ⟨e, he⟩ : ∃ e, l[k]? = some e := ⟨_, List.getElem?_eq_getElem (by rw [HN.out]; exact hlt)⟩
      obtain ⟨b, o, rfl, hR⟩ := HRow.out (by omega)
      obtain ⟨b', o', rfl, hR'⟩ := HRow'.out (by omega)
      obtain ⟨a0, a1, a2, a3, a4, a5, a6, a7, a8⟩ := (hR.later X).all he
      obtain ⟨c0, c1, c2, c3, c4, c5, c6, c7, c8⟩ := (hR'.later X).all he
      obtain ⟨eng, ebf, eaf, ewh, epl, emb, egr, etm, edt⟩ := e
      have i2 : (k : Int) < (n : Int) := by omega
      clear hR hR' he
      dsimp only at a0 a1 a2 a3 a4 a5 a6 a7 a8 c0 c1 c2 c3 c4 c5 c6 c7 c8
      go_wp2_with fail
      go_region_held3 (fun w' => (w'.cell? ⟨b, o + k * 9, none⟩ = some (.bool eng) ∧ w'.cell? ⟨b, o + k * 9 + 1, none⟩ = some (sV ebf) ∧ w'.cell? ⟨b, o + k * 9 + 2, none⟩ = some (sV eaf) ∧ w'.cell? ⟨b, o + k * 9 + 3, none⟩ = some (.int .i64 ewh) ∧ w'.cell? ⟨b, o + k * 9 + 4, none⟩ = some (.int .i64 epl) ∧ w'.cell? ⟨b, o + k * 9 + 5, none⟩ = some (.int .i64 emb) ∧ w'.cell? ⟨b, o + k * 9 + 6, none⟩ = some (.bool egr) ∧ w'.cell? ⟨b, o + k * 9 + 7, none⟩ = some (.int .i64 etm) ∧ w'.cell? ⟨b, o + k * 9 + 8, none⟩ = some (sV edt)) ∧ w'.cell? ⟨b', o' + k * 9, none⟩ = some (.bool eng) ∧ w'.cell? ⟨b', o' + k * 9 + 1, none⟩ = some (sV ebf) ∧ w'.cell? ⟨b', o' + k * 9 + 2, none⟩ = some (sV eaf) ∧ w'.cell? ⟨b', o' + k * 9 + 3, none⟩ = some (.int .i64 ewh) ∧ w'.cell? ⟨b', o' + k * 9 + 4, none⟩ = some (.int .i64 epl) ∧ w'.cell? ⟨b', o' + k * 9 + 5, none⟩ = some (.int .i64 emb) ∧ w'.cell? ⟨b', o' + k * 9 + 6, none⟩ = some (.bool egr) ∧ w'.cell? ⟨b', o' + k * 9 + 7, none⟩ = some (.int .i64 etm) ∧ w'.cell? ⟨b', o' + k * 9 + 8, none⟩ = some (sV edt)) (go_keep)
        (first
          | (go_at_call 17; refine (eqFormat_same eng ebf eaf ewh epl emb egr etm edt _).mono ?_; rintro e w' ⟨rfl, E⟩; have Y := xt (xd (xr _)) E; have r0 := cell_later Y a0; have r1 := cell_later Y a1; have r2 := cell_later Y a2; have r3 := cell_later Y a3; have r4 := cell_later Y a4; have r5 := cell_later Y a5; have r6 := cell_later Y a6; have r7 := cell_later Y a7; have r8 := cell_later Y a8; have s0 := cell_later Y c0; have s1 := cell_later Y c1; have s2 := cell_later Y c2; have s3 := cell_later Y c3; have s4 := cell_later Y c4; have s5 := cell_later Y c5; have s6 := cell_later Y c6; have s7 := cell_later Y c7; have s8 := cell_later Y c8))
      go_wp2_with fail
      go_roundw
      case rel => exact ⟨k + 1, by omega, by go_num, xt X Y⟩
      case measure => simp [intOf]; omega
    · obtain rfl : k = n := by omega
      go_wp2_with fail
      go_ret
      exact ⟨rfl, X⟩

end Go.Proofs.YthedbjjncnddbaaDoor
