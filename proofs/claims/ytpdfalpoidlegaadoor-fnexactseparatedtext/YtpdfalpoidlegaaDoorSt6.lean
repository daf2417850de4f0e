/-
  Chapter 14: SeparatedText, of the program.
-/
import Derived.Test.YtpdfalpoidlegaaDoorSt5
namespace Go.Proofs.YtpdfalpoidlegaaDoor
open Go.RowKit

set_option maxHeartbeats 1000000 in
theorem markI14 (l : List UInt8) (w : World) : Calls Tryd.prog 13 #[sV l] w fun e w' => e = .returned (.bool (isMk l)) ∧ w' = w := by
  have HK : Hid (isMk l = (l == [44] || l == [59] || l == [9])) := rfl
  obtain ⟨K, hK⟩ : ∃ K, isMk l = K := ⟨_, rfl⟩
  rw [hK] at HK ⊢
  clear hK
  cases h1 : (l == [44])
  · cases h2 : (l == [59])
    · rw [h1, h2] at HK
      go_enter Tryd.func13, Tryd.ntmps13
      go_wp2_with fail
      go_ret
      exact ⟨ret_bool (by rw [HK.out]; simp), rfl⟩
    · rw [h1, h2] at HK
      go_enter Tryd.func13, Tryd.ntmps13
      go_wp2_with fail
      go_ret
      exact ⟨ret_bool (by rw [HK.out]; simp), rfl⟩
  · rw [h1] at HK
    go_enter Tryd.func13, Tryd.ntmps13
    go_wp2_with fail
    go_ret
    exact ⟨ret_bool (by rw [HK.out]; simp), rfl⟩

/-- A builder that holds a text. -/
abbrev Bld (w : World) (B b : Nat) (l : List UInt8) : Prop := Lib.IsBuilder 36 5 B b (Lib.byteCells l) w
theorem t72R : layReplAll_ren.t 72 = 36 := by kernel_rfl
theorem t5R : layReplAll_ren.t 5 = 5 := by kernel_rfl
theorem t72L : layBLen_ren.t 72 = 36 := by kernel_rfl
theorem t5L : layBLen_ren.t 5 = 5 := by kernel_rfl
theorem bldAt_later {w w' : World} {B b : Nat} {p : Value} {bs : List Value} (h : Lib.BuilderAt 36 5 B b p bs w) (x : Ext w w') : Lib.BuilderAt 36 5 B b p bs w' := by
  have hlt := h.lt
  obtain ⟨h1, v, h2, h3, h4⟩ := h
  refine ⟨h1, v, by rw [x.block b hlt]; exact h2, ⟨h3.1, h3.2.imp id ?_⟩, h4⟩
  rintro ⟨g, cap, cur, rfl, q2, q3, q4⟩
  have hg : g < w.heap.size := by
    rcases Nat.lt_or_ge g w.heap.size with h' | h'
    · exact h'
    · rw [Array.getElem?_eq_none h'] at q3; cases q3
  exact ⟨g, cap, cur, rfl, q2, by rw [x.block g hg]; exact q3, q4⟩
theorem bld_later {w w' : World} {B b : Nat} {l : List UInt8} (h : Bld w B b l) (x : Ext w w') : Bld w' B b l := h.imp (fun q => bldAt_later q x) (fun q => bldAt_later q x)
theorem byteCells_app (a b : List UInt8) : Lib.byteCells (a ++ b) = Lib.byteCells a ++ Lib.byteCells b := by simp [Lib.byteCells]
theorem writeI (B b : Nat) (l t : List UInt8) (w : World) (h : Bld w B b l) (hl : l.length + t.length ≤ 100000000) (hB : B ≤ w.heap.size) :
    Calls Tryd.prog 14 #[.pointer (some ⟨b, 0, none⟩), sV t] w fun e w' => e = .returned (.tuple #[.int .i64 t.length, .nilIface]) ∧ Bld w' B b (l ++ t) ∧ Below B w w' := by
  have q := Any.Builder_WriteString (P := Tryd.prog) (ρ := layReplAll_ren) { layReplAll with } extra14 B b (Lib.byteCells l) ⟨t.toArray⟩ w (by rw [t72R, t5R]; exact h) (by rw [Lib.byteCells_length]; show l.length + t.length ≤ _; omega) hB
  rw [fWrite14, t72R, t5R] at q
  refine q.mono fun e w' ⟨he, hb, hx⟩ => ⟨he, .inr ?_, hx⟩
  rw [byteCells_app]
  exact hb
theorem lenI14 (B b : Nat) (l : List UInt8) (w : World) (h : Bld w B b l) :
    Calls Tryd.prog 16 #[.pointer (some ⟨b, 0, none⟩)] w fun e w' => e = .returned (.int .i64 l.length) ∧ w' = w := by
  have q := Any.Builder_Len layBLen B b (Lib.byteCells l) w (by rw [t72L, t5L]; exact h)
  rw [fLen14, Lib.byteCells_length] at q
  exact q
theorem strI14 (B b : Nat) (l : List UInt8) (w : World) (h : Bld w B b l) (hB : B ≤ w.heap.size) :
    Calls Tryd.prog 17 #[.pointer (some ⟨b, 0, none⟩)] w fun e w' => e = .returned (sV l) ∧ Below B w w' := by
  have q := Any.Builder_String_any (P := Tryd.prog) (ρ := layReplAll_ren) { layReplAll with } extra14 B b l w (by rw [t72R, t5R]; exact h) hB
  rw [fString14] at q
  exact q

set_option maxRecDepth 8000 in
set_option maxHeartbeats 4000000 in
theorem sepI1 (v : Value) (L : List (List (List UInt8))) (m : UInt8) (w : World) (h : SsIn w v L) (hz : szTT L ≤ 1048576) (hmk : isMk [m] = true) (hm8 : m.toNat < 128) (TT : Tab14 w) :
    Calls Tryd.prog 7 #[v, sV [m]] w fun e w' => e = .returned (sV (sepR m L)) ∧ Ext w w' := by
  have HI : Hid (SsIn w v L) := h
  obtain ⟨p, cap, vs0, rfl, hcap, -, -, -⟩ := h
  obtain ⟨n, hn⟩ : ∃ n, L.length = n := ⟨_, rfl⟩
  have HN : Hid (L.length = n) := hn
  have hnb : n ≤ 1048576 := by unfold szTT at hz; omega
  have HZ : Hid (szTT L ≤ 1048576) := hz
  rw [hn] at hcap HI ⊢
  have CM := markI14 [m] w
  rw [hmk] at CM
  obtain ⟨mk, hmk2⟩ : ∃ mk : ByteArray, (⟨[m].toArray⟩ : ByteArray) = mk := ⟨_, rfl⟩
  have hms : 0 < mk.size := by rw [← hmk2]; simp [ByteArray.size]
  have hm0 : ((mk[0]'hms).toNat : Int) = (m.toNat : Int) := by
    have := byte_atA (l := [m]) (s := mk) (by rw [← hmk2]) hms
    rw [this]
    rfl
  obtain ⟨M, hM⟩ : ∃ M : Int, (m.toNat : Int) = M := ⟨_, rfl⟩
  have HM : Hid ((m.toNat : Int) = M) := hM
  rw [hM] at hm0
  change Calls Tryd.prog 13 #[.string ⟨[m].toArray⟩] w _ at CM
  show Calls Tryd.prog 7 #[.slice p n cap, .string ⟨[m].toArray⟩] w _
  rw [hmk2] at CM ⊢
  have HMK : Hid ((⟨[m].toArray⟩ : ByteArray) = mk) := hmk2
  clear hn hz hmk hmk2 hM HM hm0 hms
  have TT2 : Hid (Tab14 w) := TT
  have XB := x1 w (.cells #[.pointer none, .slice none 0 0] 36)
  have FB := Lib.fresh_isBuilder 36 5 w
  obtain ⟨wb, hwb⟩ : ∃ q, w.alloc (.cells #[.pointer none, .slice none 0 0] 36) = q := ⟨_, rfl⟩
  rw [hwb] at XB FB
  have H0 : Hid (Bld wb w.heap.size w.heap.size (allT m L 0) ∧ Ext w wb) := ⟨FB, XB⟩
  clear TT XB FB
  go_enter Tryd.func7, Tryd.ntmps7
  go_wp2_with fail
  refine CM.mono ?_
  rintro _ w0 ⟨rfl, rfl⟩
  clear CM
  go_wp2_with fail
  go_loopw [15] (fun i wr => ∃ k : Nat, k ≤ n ∧ i = .int .i64 k ∧ Hid (Bld wr w0.heap.size w0.heap.size (allT m L k) ∧ Ext w0 wr ∧ (allT m L k).length ≤ 20000 ∧ ∀ (i : Nat) (l : List (List UInt8)), i < k → L[i]? = some l → l ≠ [])) (fun i _ => n - (intOf i).toNat)
  case atStart => exact ⟨0, by omega, rfl, H0.out.1, H0.out.2, by simp [allT], fun i l hi => by omega⟩
  case round =>
    clear H0 hwb
    obtain ⟨k, hk, rfl, HO⟩ := hrel
    by_cases hlt : k < n
    · obtain ⟨l, hgl⟩ : ∃ l, L.getD k [] = l := ⟨_, rfl⟩
      have he : L[k]? = some l := by rw [← hgl, List.getD, List.getElem?_eq_getElem (by rw [HN.out]; exact hlt)]; rfl
      have HGL : Hid (L.getD k [] = l) := hgl
      have HE : Hid (L[k]? = some l) := he
      obtain ⟨b, o, u, rfl, c0, I1⟩ := HI.out.row he
      have c1 := cell_later HO.out.2.1 c0
      have HIT : Hid (TxtsIn w0 u l) := I1
      obtain ⟨p2, cap2, rfl, hcap2, -⟩ := I1
      have hml : l.length ≤ 1048576 := by
        have h1 := HZ.out
        have h2 := lenTT_next he
        have h3 := lenTT_le L (k + 1)
        unfold szTT at h1
        have h4 : l.length ≤ szT l := by unfold szT; omega
        omega
      have hlt' : (k : Int) < (n : Int) := by omega
      obtain ⟨y, hy⟩ : ∃ y, l.length = y := ⟨_, rfl⟩
      have HY : Hid (l.length = y) := hy
      have HTL : Hid (∀ e ∈ l, e.length ≤ 1048576) := by
        intro e hem
        have h1 := HZ.out
        have h2 := lenTT_next he
        have h3 := lenTT_le L (k + 1)
        unfold szTT at h1
        have h4 : e.length ≤ (l.map List.length).sum := le_sum_mem (List.mem_map_of_mem hem)
        have h5 : (l.map List.length).sum ≤ szT l := by unfold szT; omega
        omega
      rw [hy] at hcap2 hml c1 HIT
      clear hy he hgl c0
      by_cases hy0 : y = 0
      · have HF : Hid (sepR m L = []) := sepR_empty (i := k) (by rw [HE.out]; congr 1; exact List.eq_nil_of_length_eq_zero (by rw [HY.out]; exact hy0))
        have hyb : ((y : Int) == 0) = true := by simp [hy0]
        have HX : Hid (Ext w0 wr) := HO.out.2.1
        clear HO hy0
        go_wp2_with fail
        go_ret
        exact ⟨by rw [HF.out]; rfl, HX.out⟩
      · have hyb : ((y : Int) == 0) = false := by simp [hy0]
        obtain ⟨wo, hwo⟩ : ∃ wo, wo = wr := ⟨_, rfl⟩
        subst hwo
        have HS0 : Hid (Bld wo w0.heap.size w0.heap.size (allT m L k ++ partT m l 0) ∧ Ext w0 wo ∧ (allT m L k ++ partT m l 0).length ≤ 20000 ∧ (0 < 0 → (allT m L k ++ partT m l 0).length ≤ 19999)) := by
          obtain ⟨q1, q2, q3, _⟩ := HO.out
          rw [show partT m l 0 = [] from rfl, List.append_nil]
          exact ⟨q1, q2, q3, fun h => by omega⟩
        have HRS : Hid (∀ (i : Nat) (l : List (List UInt8)), i < k → L[i]? = some l → l ≠ []) := HO.out.2.2.2
        clear HO
        go_wp2_with fail
        clear c1
        go_loopw [24] (fun i wr => ∃ j : Nat, j ≤ y ∧ i = .int .i64 j ∧ Hid (Bld wr w0.heap.size w0.heap.size (allT m L k ++ partT m l j) ∧ Ext w0 wr ∧ (allT m L k ++ partT m l j).length ≤ 20000 ∧ (0 < j → (allT m L k ++ partT m l j).length ≤ 19999))) (fun i _ => y - (intOf i).toNat)
        case atStart => exact ⟨0, by omega, rfl, HS0⟩
        case round =>
          clear HS0
          obtain ⟨j, hj, rfl, HO⟩ := hrel
          by_cases hjy : j < y
          · obtain ⟨f, hf⟩ : ∃ f, l[j]? = some f := ⟨_, List.getElem?_eq_getElem (by rw [HY.out]; exact hjy)⟩
            have fl := HTL.out f (List.mem_of_getElem? hf)
            have hfd : l.getD j [] = f := by rw [List.getD, hf]; rfl
            have hjy' : (j : Int) < (y : Int) := by omega
            obtain ⟨p3, cap3, e3, _, hr3⟩ := HIT.out
            have e4 := (Value.slice.inj e3).1
            clear e3
            subst e4
            obtain ⟨b2, o2, rfl, hc2⟩ := hr3 (by rw [HY.out]; omega)
            have c2 := cell_later HO.out.2.1 (hc2 j f hf)
            have HOUT : Hid (partT m l (j + 1) = partT m l j ++ ((if j = 0 then [] else [m]) ++ fldT m (y == 1) f)) := by show _ = _; rw [← hfd, ← HY.out]; rfl
            have HPL : Hid (20000 < (allT m L k).length + (partT m l (j + 1)).length + 1 → sepR m L = []) := fun h => sepR_long k (j + 1) (by rw [HN.out]; exact hlt) (by rw [HGL.out, HY.out]; omega) (by rw [HGL.out]; exact h)
            clear hc2 hr3 HIT hf hfd
            go_upto_if 30 with fail
            obtain ⟨J, hJ⟩ : ∃ J, decide (0 < j) = J := ⟨_, rfl⟩
            rw [hJ]
            have HJ : Hid (decide (0 < j) = J) := hJ
            clear hJ
            go_cut [] (fun wc => Hid (Bld wc w0.heap.size w0.heap.size (allT m L k ++ partT m l j ++ (if j = 0 then [] else [m])) ∧ Ext w0 wc ∧ (allT m L k ++ partT m l j ++ (if j = 0 then [] else [m])).length ≤ 20001))
            case first =>
              obtain ⟨O, X, ln, _⟩ := HO.out
              cases J
              · have hj0 : j = 0 := by have := HJ.out; simp at this; exact this
                have HK : Hid (Bld wr w0.heap.size w0.heap.size (allT m L k ++ partT m l j ++ (if j = 0 then [] else [m])) ∧ Ext w0 wr ∧ (allT m L k ++ partT m l j ++ (if j = 0 then [] else [m])).length ≤ 20001) := by
                  rw [if_pos hj0, List.append_nil]
                  exact ⟨O, X, by omega⟩
                clear O X HO hj0
                go_wp2_with fail
                go_meet
                case rel => exact HK
              · have hj0 : j ≠ 0 := by have := HJ.out; simp at this; omega
                have CW := writeI w0.heap.size w0.heap.size _ [m] wr O (by rw [List.length_singleton]; omega) X.size
                change Calls Tryd.prog 14 #[.pointer (some ⟨w0.heap.size, 0, none⟩), .string ⟨[m].toArray⟩] wr _ at CW
                rw [HMK.out] at CW
                clear O HO
                go_wp2_with fail
                refine CW.mono ?_
                rintro _ w1 ⟨rfl, B1, X1⟩
                have HK : Hid (Bld w1 w0.heap.size w0.heap.size (allT m L k ++ partT m l j ++ (if j = 0 then [] else [m])) ∧ Ext w0 w1 ∧ (allT m L k ++ partT m l j ++ (if j = 0 then [] else [m])).length ≤ 20001) := by
                  rw [if_neg hj0]
                  exact ⟨B1, X.trans X1, by rw [List.length_append, List.length_singleton]; omega⟩
                clear B1 X1 CW X hj0
                go_wp2_with fail
                go_meet
                case rel => exact HK
            case rest =>
              have HO2 := hcut
              rename World => w1
              have HTX : Hid (fldT m (y == 1) f = fldT m ((y : Int) == 1) f) := by
                show _ = _
                congr 1
                cases hq : (y == 1) <;> simp at hq ⊢ <;> omega
              have CF := fieldI f m ((y : Int) == 1) w1 hm8 fl (TT2.out.later HO2.out.2.1)
              have hTl := fldT_length m (y == 1) f
              rw [← HTX.out] at CF
              obtain ⟨T, hT⟩ : ∃ T, fldT m (y == 1) f = T := ⟨_, rfl⟩
              rw [hT] at CF HOUT hTl
              change Calls Tryd.prog 15 #[sV f, .string ⟨[m].toArray⟩, _] w1 _ at CF
              rw [HMK.out] at CF
              obtain ⟨A1, hA1⟩ : ∃ A1, ((y : Int) == 1) = A1 := ⟨_, rfl⟩
              rw [hA1] at CF
              clear c2 HO HJ hT HTX hcut
              go_wp2_with fail
              refine CF.mono ?_
              rintro _ w2 ⟨rfl, e2⟩
              clear CF
              obtain ⟨O1, X1, ln1⟩ := HO2.out
              have X2 := xt X1 e2
              have CW := writeI w0.heap.size w0.heap.size _ T w2 (bld_later O1 e2) (by omega) X2.size
              clear O1
              go_wp2_with fail
              refine CW.mono ?_
              rintro _ w3 ⟨rfl, B3, X3⟩
              have X3 := X2.trans X3
              have CL := lenI14 _ _ _ w3 B3
              have HB3 : Hid (Bld w3 w0.heap.size w0.heap.size (allT m L k ++ partT m l (j + 1)) ∧ Ext w0 w3) := by
                rw [HOUT.out, ← List.append_assoc, ← List.append_assoc]
                exact ⟨B3, X3⟩
              obtain ⟨Z, hZ⟩ : ∃ Z, (allT m L k ++ partT m l j ++ (if j = 0 then [] else [m]) ++ T).length = Z := ⟨_, rfl⟩
              have HLE : Hid ((allT m L k ++ partT m l (j + 1)).length = Z) := by show _ = _; rw [← hZ, HOUT.out, ← List.append_assoc, ← List.append_assoc]
              have hZb : Z ≤ 3000000 := by rw [← hZ, List.length_append]; omega
              rw [hZ] at CL
              clear CW B3 X3 X2 X1 e2 HO2 hZ HOUT ln1
              go_wp2_with fail
              refine CL.mono ?_
              rintro _ w4 ⟨rfl, rfl⟩
              clear CL
              by_cases h20 : 20000 < Z + 1
              · have f1 : decide ((Z : Int) + 1 > 20000) = true := by simp; omega
                have f2 : (20000 : Int) < (Z : Int) + 1 := by omega
                have HF : Hid (sepR m L = []) := HPL.out (by have := HLE.out; rw [List.length_append] at this; omega)
                go_wp2_with fail
                go_ret
                exact ⟨by rw [HF.out]; rfl, HB3.out.2⟩
              · have f1 : decide ((Z : Int) + 1 > 20000) = false := by simp; omega
                have f2 : ¬ (20000 : Int) < (Z : Int) + 1 := by omega
                have HK : Hid (Bld w4 w0.heap.size w0.heap.size (allT m L k ++ partT m l (j + 1)) ∧ Ext w0 w4 ∧ (allT m L k ++ partT m l (j + 1)).length ≤ 20000 ∧ (0 < j + 1 → (allT m L k ++ partT m l (j + 1)).length ≤ 19999)) := ⟨HB3.out.1, HB3.out.2, by rw [HLE.out]; omega, fun _ => by rw [HLE.out]; omega⟩
                go_wp2_with fail
                go_roundw
                case rel => exact ⟨j + 1, by omega, by go_num, HK⟩
                case measure => simp [intOf]; omega
          · obtain rfl : j = y := by omega
            obtain ⟨O, X, ln, lnz⟩ := HO.out
            have CW := writeI w0.heap.size w0.heap.size _ [10] wr O (by rw [List.length_singleton]; omega) X.size
            have HAL : allT m L (k + 1) = allT m L k ++ partT m l j ++ [10] := by
              show allT m L k ++ rowT m (L.getD k []) = _
              rw [HGL.out]
              unfold rowT
              rw [HY.out, List.append_assoc]
            have HNE : l ≠ [] := fun e => hy0 (by rw [← HY.out, e]; rfl)
            have HKK : Hid (∀ w1, Bld w1 w0.heap.size w0.heap.size (allT m L k ++ partT m l j ++ [10]) → Below w0.heap.size wr w1 → Bld w1 w0.heap.size w0.heap.size (allT m L (k + 1)) ∧ Ext w0 w1 ∧ (allT m L (k + 1)).length ≤ 20000 ∧ ∀ (i : Nat) (l : List (List UInt8)), i < k + 1 → L[i]? = some l → l ≠ []) := by
              intro w1 B1 X1
              rw [HAL]
              refine ⟨B1, X.trans X1, ?_, fun i l' hi hl' => ?_⟩
              · rw [List.length_append, List.length_singleton]
                have := lnz (by omega)
                omega
              · by_cases e : i = k
                · subst e
                  rw [HE.out] at hl'
                  cases hl'
                  exact HNE
                · exact HRS.out i l' (by omega) hl'
            clear HO O X ln lnz HAL HNE
            go_wp2_with fail
            refine CW.mono ?_
            rintro _ w1 ⟨rfl, B1, X1⟩
            have HK : Hid _ := HKK.out w1 B1 X1
            clear CW B1 X1 HKK
            go_wp2_with fail
            go_roundw
            case rel => exact ⟨k + 1, by omega, by go_num, HK⟩
            case measure => simp [intOf]; omega
    · obtain rfl : k = n := by omega
      obtain ⟨O, X, ln, HE⟩ := HO.out
      have CS := strI14 _ _ _ wr O X.size
      have HR : Hid (sepR m L = allT m L k) := by
        show _ = _
        rw [sepR_end (m := m) (L := L) (fun i l hi => HE i l (by have := (List.getElem?_eq_some_iff.1 hi).1; rw [HN.out] at this; exact this) hi), HN.out, if_neg (by omega)]
      have HX : Hid (Ext w0 wr) := X
      clear HO O X HE
      go_wp2_with fail
      refine CS.mono ?_
      rintro _ w1 ⟨rfl, X1⟩
      go_wp2_with fail
      go_ret
      exact ⟨by rw [HR.out]; rfl, HX.out.trans X1⟩

set_option maxHeartbeats 1000000 in
theorem sepI (v : Value) (L : List (List (List UInt8))) (mk : List UInt8) (w : World) (h : SsIn w v L) (hz : szTT L ≤ 1048576) (T : Tab14 w) :
    Calls Tryd.prog 7 #[v, sV mk] w fun e w' => e = .returned (sV (sepA mk L)) ∧ Ext w w' := by
  cases hm : isMk mk
  · have CM := markI14 mk w
    rw [hm] at CM
    have HF : Hid (sepA mk L = []) := by show _ = _; unfold sepA; rw [hm]; rfl
    obtain ⟨p, cap, vs0, rfl, hcap, -, -, -⟩ := h
    clear hm hcap hz
    go_enter Tryd.func7, Tryd.ntmps7
    go_wp2_with fail
    refine CM.mono ?_
    rintro _ w0 ⟨rfl, rfl⟩
    go_wp2_with fail
    go_ret
    exact ⟨by rw [HF.out]; rfl, xr _⟩
  · obtain ⟨m, rfl, hm3⟩ := isMk_one hm
    have : sepA [m] L = sepR m L := by unfold sepA; rw [if_pos hm]; rfl
    rw [this]
    exact sepI1 v L m w h hz hm (by rcases hm3 with rfl | rfl | rfl <;> decide) T

end Go.Proofs.YtpdfalpoidlegaaDoor
