/-
  Chapter 10: a section scanned by the program.
-/
import Derived.Test.YthedbjjncnddbaaDoorK1
import Derived.Test.YthedbjjncnddbaaDoorKu
namespace Go.Proofs.YthedbjjncnddbaaDoor
open Go.RowKit

theorem ahead_at (p : Nat) (hp : p < 11) : aheadV[p]? = some (.int .u16 ((aheadT.getD p 0 : Nat) : Int)) ∧ aheadT.getD p 0 < 65536 := by
  match p, hp with
  | 0, _ => exact ⟨rfl, by decide⟩
  | 1, _ => exact ⟨rfl, by decide⟩
  | 2, _ => exact ⟨rfl, by decide⟩
  | 3, _ => exact ⟨rfl, by decide⟩
  | 4, _ => exact ⟨rfl, by decide⟩
  | 5, _ => exact ⟨rfl, by decide⟩
  | 6, _ => exact ⟨rfl, by decide⟩
  | 7, _ => exact ⟨rfl, by decide⟩
  | 8, _ => exact ⟨rfl, by decide⟩
  | 9, _ => exact ⟨rfl, by decide⟩
  | 10, _ => exact ⟨rfl, by decide⟩
theorem mayB_zero (last : Nat) : mayB 0 last = false := by unfold mayB aheadT; simp
theorem fit_start (last : Nat) (c : BL) : ∀ q, q < 1 → fitP last c q = false := fun q hq => by
  obtain rfl : q = 0 := by omega
  unfold fitP
  rw [mayB_zero]
  rfl
theorem next_at {last p : Nat} {l : BL} (hp : p < 10) (h : fitP last l p = true) (hn : ∀ q, q < p → fitP last l q = false) : nextP last l = some p := by
  unfold nextP
  rw [List.find?_eq_some_iff_getElem]
  refine ⟨h, p, by simpa using hp, by simp, fun j hj => ?_⟩
  simp only [List.getElem_range]
  rw [hn j hj]
  rfl
theorem next_none {last : Nat} {l : BL} (hn : ∀ q, q < 10 → fitP last l q = false) : nextP last l = none := by
  unfold nextP
  rw [List.find?_eq_none]
  intro q hq
  rw [hn q (by simpa using hq)]
  decide
theorem ext_head (l : BL) (k : Nat) : (⟨l.toArray⟩ : ByteArray).extract 0 k = ⟨(l.take k).toArray⟩ := by
  rw [ext_sub, List.drop_zero, Nat.sub_zero]
theorem ext_tail (l : BL) (k : Nat) : (⟨l.toArray⟩ : ByteArray).extract k l.length = ⟨(l.drop k).toArray⟩ := by
  rw [ext_sub, List.take_of_length_le (by rw [List.length_drop]; omega)]

set_option maxRecDepth 8000 in
set_option maxHeartbeats 4000000 in
theorem secIw (l : BL) (hl : l.length ≤ 1000) (w : World) (T : TabK w) :
    Calls Tryd.prog 15 #[sV l] w fun e w' => e = .returned (.tuple #[.agg (secI l).1.cells.toArray, sV (secI l).2.1, .bool (mayB 10 (secI l).2.2)]) ∧ Ext w w' := by
  obtain ⟨R, hR⟩ : ∃ R, secI l = R := ⟨_, rfl⟩
  have HR : Hid (scanK 10 0 l zeroKT = R) := hR
  rw [hR]
  clear hR
  obtain ⟨F, hF⟩ : ∃ F, w.heap.size = F := ⟨_, rfl⟩
  have HF : Hid (w.heap.size = F) := hF
  have V1 := vec_made w zsK 33
  have X1 := x1 w (.cells zsK.toArray 33)
  have V2 := vec_made (w.alloc (.cells zsK.toArray 33)) zsK 33
  have X2 := x1 (w.alloc (.cells zsK.toArray 33)) (.cells zsK.toArray 33)
  rw [World.size_alloc, hF] at V2
  rw [hF] at V1
  have S0 : Hid (Vec ((w.alloc (.cells zsK.toArray 33)).alloc (.cells zsK.toArray 33)) (F + 1) zeroKT.cells ∧ Vec ((w.alloc (.cells zsK.toArray 33)).alloc (.cells zsK.toArray 33)) F zsK ∧ Ext w ((w.alloc (.cells zsK.toArray 33)).alloc (.cells zsK.toArray 33))) := ⟨V2, V1.later X2, xt X1 X2⟩
  have HT : Hid (TabK w) := T
  clear V1 V2 X1 X2 T
  go_enter Tryd.func15, Tryd.ntmps15
  go_wp2_with fail
  go_step3
  go_wp2_with fail
  go_step3
  go_wp2_with fail
  clear hF
  go_loopg [0, 6] 10 (fun gk sc sl wr => ∃ (c : BL) (last : Nat) (f : KT) (k : Nat), Hid (last + gk = 10) ∧ sc = sV c ∧ sl = .int .i64 last ∧ c.length ≤ 1000 ∧ last ≤ 9 ∧ Hid (10 ≤ k + last ∧ scanK k last c f = R) ∧ Hid (Vec wr (F + 1) f.cells ∧ Vec wr F zsK ∧ Ext w wr))
  case atStart => exact ⟨l, 0, zeroKT, 10, by show _ = _; rfl, rfl, rfl, hl, by omega, ⟨by omega, HR.out⟩, S0⟩
  case round =>
    clear S0 HR hl
    obtain ⟨c, last, f, k, HG, rfl, rfl, hc, hlast, HK, HV⟩ := hrel
    go_wp2_with fail
    go_loopw [0, 6, 7] (fun sc sl i wx => ∃ (p : Nat), 1 ≤ p ∧ p ≤ 10 ∧ sc = sV c ∧ sl = .int .i64 last ∧ i = .int .i64 p ∧ Hid (∀ q, q < p → fitP last c q = false) ∧ Hid (Vec wx (F + 1) f.cells ∧ Vec wx F zsK ∧ Ext w wx)) (fun _ _ i _ => 10 - (intOf i).toNat)
    case atStart => exact ⟨1, by omega, by omega, rfl, rfl, rfl, fit_start last c, HV⟩
    case round =>
      clear HV
      obtain ⟨p, hp1, hp10, rfl, rfl, rfl, HN, HV⟩ := hrel
      by_cases hlt : p < 10
      · have i1 : (p : Int) < 10 := by omega
        obtain ⟨ha, hu⟩ := ahead_at p (by omega)
        have ga := (HT.out.later HV.out.2.2).2.1 p _ ha
        rw [Nat.zero_add] at ga
        have HI := fun W => hasI (aheadT.getD p 0) last hu (by omega) W
        obtain ⟨m, hm⟩ : ∃ m, mayB p last = m := ⟨_, rfl⟩
        have hm' : (aheadT.getD p 0 / 2 ^ last % 2 == 1) = m := hm
        simp only [hm'] at HI
        obtain ⟨u, huu⟩ : ∃ u : Int, ((aheadT.getD p 0 : Nat) : Int) = u := ⟨_, rfl⟩
        simp only [huu] at HI
        rw [huu] at ga
        clear ha hu hm' huu
        cases m
        · have HN2 : Hid (∀ q, q < p + 1 → fitP last c q = false) := fun q hq => by
            rcases Nat.lt_or_ge q p with h1 | h1
            · exact HN.out q h1
            · obtain rfl : q = p := by omega
              unfold fitP; rw [hm]; rfl
          clear HN hm
          go_wp2_with fail
          refine (HI _).mono ?_
          rintro e w2 ⟨rfl, h2⟩
          rw [h2]
          clear h2
          go_wp2_with fail
          go_roundw
          case rel => exact ⟨p + 1, by omega, by omega, rfl, rfl, by go_num, HN2, HV⟩
          case measure => simp [intOf]; omega
        · have PL := partLenI p hp1 (by omega) c hc wr (HT.out.later HV.out.2.2)
          have hle := partLen_le p c
          obtain ⟨n, hn⟩ : ∃ n, partLen p c = n := ⟨_, rfl⟩
          rw [hn] at PL hle
          have hmf : fitP last c p = decide (0 < n) := by unfold fitP; rw [hm, hn]; rfl
          by_cases hn0 : n = 0
          · have HN2 : Hid (∀ q, q < p + 1 → fitP last c q = false) := fun q hq => by
              rcases Nat.lt_or_ge q p with h1 | h1
              · exact HN.out q h1
              · obtain rfl : q = p := by omega
                rw [hmf, hn0]; rfl
            subst hn0
            have PL : Calls Tryd.prog 29 #[.int .i64 (p : Int), sV c] wr fun e w' => e = .returned (.int .i64 0) ∧ Ext wr w' := PL
            clear HN hm hmf hn
            go_wp2_with fail
            refine (HI _).mono ?_
            rintro e w2 ⟨rfl, h2⟩
            rw [h2]
            clear h2
            go_wp2_with fail
            refine PL.mono ?_
            rintro e w3 ⟨rfl, e3⟩
            have HV3 : Hid (Vec w3 (F + 1) f.cells ∧ Vec w3 F zsK ∧ Ext w w3) := ⟨HV.out.1.later e3, HV.out.2.1.later e3, xt HV.out.2.2 e3⟩
            clear e3 HV
            go_wp2_with fail
            go_roundw
            case rel => exact ⟨p + 1, by omega, by omega, rfl, rfl, by go_num, HN2, HV3⟩
            case measure => simp [intOf]; omega
          · have hfit : fitP last c p = true := by rw [hmf]; simp; omega
            have hnx := next_at (by omega) hfit HN.out
            have hlp : last < p := may_lt p (by omega) last (by omega) hm
            have HK2 : Hid (∃ k', 10 ≤ k' + p ∧ scanK k' p (c.drop n) (takeP p (c.take n) f) = R) := by
              obtain ⟨h1, h2⟩ := HK.out
              cases k with
              | zero => omega
              | succ k' =>
                refine ⟨k', by omega, ?_⟩
                rw [← h2]
                show _ = (match nextP last c with | none => _ | some p => _)
                rw [hnx, ← hn]
            have TK : ∀ W, Vec W (F + 1) f.cells → Calls Tryd.prog 30 #[.pointer (some ⟨F + 1, 0, none⟩), .int .i64 (p : Int), .string ((⟨c.toArray⟩ : ByteArray).extract 0 n)] W fun e w' => (∃ v, e = .returned v) ∧ Vec w' (F + 1) (takeP p (c.take n) f).cells ∧ OnlyK (F + 1) W w' := fun W hW => by
              rw [ext_head]
              exact takeI p hp1 (by omega) (F + 1) (c.take n) f W hW (by rw [List.length_take]; omega)
            have hz : (⟨c.toArray⟩ : ByteArray).size = c.length := rfl
            have HTl := ext_tail c n
            have hdl : (c.drop n).length ≤ 1000 := by rw [List.length_drop]; omega
            obtain ⟨L, hL⟩ : ∃ L, c.length = L := ⟨_, rfl⟩
            rw [hL] at hz HTl hle hc
            obtain ⟨S, hS⟩ : ∃ S, (⟨c.toArray⟩ : ByteArray) = S := ⟨_, rfl⟩
            obtain ⟨y, hy⟩ : ∃ y, S.extract 0 n = y := ⟨_, rfl⟩
            have HTl : Hid ((⟨c.toArray⟩ : ByteArray).extract n L = ⟨(c.drop n).toArray⟩) := HTl
            have i3 : 0 < (n : Int) := by omega
            have i4 : (n : Int) ≤ (L : Int) := by omega
            clear HN hm hmf hn hfit hnx HK hL hy hS
            go_wp2_with fail
            refine (HI _).mono ?_
            rintro e w2 ⟨rfl, h2⟩
            rw [h2]
            clear h2
            go_wp2_with fail
            refine PL.mono ?_
            rintro e w3 ⟨rfl, e3⟩
            go_wp2_with fail
            refine (TK _ (HV.out.1.later e3)).mono ?_
            rintro e w4 ⟨⟨v, rfl⟩, V4, o4⟩
            have HV4 : Hid (Vec w4 (F + 1) (takeP p (c.take n) f).cells ∧ Vec w4 F zsK ∧ Ext w w4) := ⟨V4, o4.vec (by omega) (HV.out.2.1.later e3), OnlyK.ext (xt HV.out.2.2 e3) o4 (by have := HF.out; omega)⟩
            clear e3 HV V4 o4 TK PL HI
            go_wp2_with fail
            go_roundg (10 - p)
            case measure => have := HG.out; omega
            case rel =>
              obtain ⟨k', h1, h2⟩ := HK2.out
              exact ⟨c.drop n, p, takeP p (c.take n) f, k', by show _ = _; omega, rfl, by go_num, hdl, by omega, ⟨h1, h2⟩, HV4⟩
      · obtain rfl : p = 10 := by omega
        have HE : Hid (R = (f, c, last)) := by
          show _ = _
          obtain ⟨h1, h2⟩ := HK.out
          cases k with
          | zero => omega
          | succ k' =>
            rw [← h2]
            show (match nextP last c with | none => _ | some p => _) = _
            rw [next_none HN.out]
        obtain ⟨ha, hu⟩ := ahead_at 10 (by omega)
        have ga : wr.cell? ⟨0, 10, none⟩ = some (.int .u16 1000) := (HT.out.later HV.out.2.2).2.1 10 _ ha
        have HI := fun W => hasI 1000 last (by omega) (by omega) W
        obtain ⟨m, hm⟩ : ∃ m, mayB 10 last = m := ⟨_, rfl⟩
        have hm' : (1000 / 2 ^ last % 2 == 1) = m := hm
        simp only [hm'] at HI
        have HM : Hid (mayB 10 last = m) := hm
        clear ha hu hm hm' HN HK
        obtain ⟨VF, VR, X⟩ := HV.out
        have a0 := (VF 0 _ rfl).1
        have a1 := (VF 1 _ rfl).1
        have a2 := (VF 2 _ rfl).1
        have a3 := (VF 3 _ rfl).1
        have a4 := (VF 4 _ rfl).1
        have a5 := (VF 5 _ rfl).1
        have a6 := (VF 6 _ rfl).1
        have a7 := (VF 7 _ rfl).1
        have a8 := (VF 8 _ rfl).1
        have b0 := (VR 0 _ rfl).1
        have b1 := (VR 1 _ rfl).1
        have b2 := (VR 2 _ rfl).1
        have b3 := (VR 3 _ rfl).1
        have b4 := (VR 4 _ rfl).1
        have b5 := (VR 5 _ rfl).1
        have b6 := (VR 6 _ rfl).1
        have b7 := (VR 7 _ rfl).1
        have b8 := (VR 8 _ rfl).1
        have f0 := (VR 0 _ rfl).2
        have f1 := (VR 1 _ rfl).2
        have f2 := (VR 2 _ rfl).2
        have f3 := (VR 3 _ rfl).2
        have f4 := (VR 4 _ rfl).2
        have f5 := (VR 5 _ rfl).2
        have f6 := (VR 6 _ rfl).2
        have f7 := (VR 7 _ rfl).2
        have f8 := (VR 8 _ rfl).2
        have D : Vec ((((((((((wr.setCell ⟨F, 0, none⟩ (.bool f.ng)).setCell ⟨F, 1, none⟩ (sV f.bf)).setCell ⟨F, 2, none⟩ (sV f.af)).setCell ⟨F, 3, none⟩ (.int .i64 f.wh)).setCell ⟨F, 4, none⟩ (.int .i64 f.pl)).setCell ⟨F, 5, none⟩ (.int .i64 f.mb)).setCell ⟨F, 6, none⟩ (.bool f.gr)).setCell ⟨F, 7, none⟩ (.int .i64 f.tm)).setCell ⟨F, 8, none⟩ (sV f.dt))).drew F f.cells := Vec.later ((((((((((VR.put 0 (by simp) (.bool f.ng)).put 1 (by simp) (sV f.bf)).put 2 (by simp) (sV f.af)).put 3 (by simp) (.int .i64 f.wh)).put 4 (by simp) (.int .i64 f.pl)).put 5 (by simp) (.int .i64 f.mb)).put 6 (by simp) (.bool f.gr)).put 7 (by simp) (.int .i64 f.tm)).put 8 (by simp) (sV f.dt))) (xd (xr _))
        have XD : Ext w ((((((((((wr.setCell ⟨F, 0, none⟩ (.bool f.ng)).setCell ⟨F, 1, none⟩ (sV f.bf)).setCell ⟨F, 2, none⟩ (sV f.af)).setCell ⟨F, 3, none⟩ (.int .i64 f.wh)).setCell ⟨F, 4, none⟩ (.int .i64 f.pl)).setCell ⟨F, 5, none⟩ (.int .i64 f.mb)).setCell ⟨F, 6, none⟩ (.bool f.gr)).setCell ⟨F, 7, none⟩ (.int .i64 f.tm)).setCell ⟨F, 8, none⟩ (sV f.dt))).drew := xd (xset (xset (xset (xset (xset (xset (xset (xset (xset X (p := ⟨F, 0, none⟩) (by show _ ≤ F; exact Nat.le_of_eq HF.out) (.bool f.ng)) (p := ⟨F, 1, none⟩) (by show _ ≤ F; exact Nat.le_of_eq HF.out) (sV f.bf)) (p := ⟨F, 2, none⟩) (by show _ ≤ F; exact Nat.le_of_eq HF.out) (sV f.af)) (p := ⟨F, 3, none⟩) (by show _ ≤ F; exact Nat.le_of_eq HF.out) (.int .i64 f.wh)) (p := ⟨F, 4, none⟩) (by show _ ≤ F; exact Nat.le_of_eq HF.out) (.int .i64 f.pl)) (p := ⟨F, 5, none⟩) (by show _ ≤ F; exact Nat.le_of_eq HF.out) (.int .i64 f.mb)) (p := ⟨F, 6, none⟩) (by show _ ≤ F; exact Nat.le_of_eq HF.out) (.bool f.gr)) (p := ⟨F, 7, none⟩) (by show _ ≤ F; exact Nat.le_of_eq HF.out) (.int .i64 f.tm)) (p := ⟨F, 8, none⟩) (by show _ ≤ F; exact Nat.le_of_eq HF.out) (sV f.dt))
        have d0 := (D 0 _ rfl).1
        have d1 := (D 1 _ rfl).1
        have d2 := (D 2 _ rfl).1
        have d3 := (D 3 _ rfl).1
        have d4 := (D 4 _ rfl).1
        have d5 := (D 5 _ rfl).1
        have d6 := (D 6 _ rfl).1
        have d7 := (D 7 _ rfl).1
        have d8 := (D 8 _ rfl).1
        clear VF VR D
        go_wp2_with fail
        go_region_with (first | (go_at_call 28; refine (HI _).mono ?_; rintro e w2 ⟨rfl, h2⟩; rw [h2]; clear h2))
        all_goals clear a0 a1 a2 a3 a4 a5 a6 a7 a8 b0 b1 b2 b3 b4 b5 b6 b7 b8 f0 f1 f2 f3 f4 f5 f6 f7 f8 ga HI
        all_goals go_wp2_with fail
        all_goals try rw [Exit.noGoto_ret]
        all_goals exact bodyPost_ret (v := .tuple #[.agg f.cells.toArray, sV c, .bool m]) (by simp [results, Tryd.results15, go_sem, d0, d1, d2, d3, d4, d5, d6, d7, d8]) rfl ⟨by rw [HE.out, HM.out], XD⟩

end Go.Proofs.YthedbjjncnddbaaDoor
