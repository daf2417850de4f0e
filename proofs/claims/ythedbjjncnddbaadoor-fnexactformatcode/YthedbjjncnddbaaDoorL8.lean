/-
  Chapter 10: codes told by the program: the whole.
-/
import Derived.Test.YthedbjjncnddbaaDoorL7
namespace Go.Proofs.YthedbjjncnddbaaDoor
open Go.RowKit

theorem codeP_len (f : KT) (hc : cntB f = true) (hb : f.bf.length ≤ 1048576) (ha : f.af.length ≤ 1048576) (hd : f.dt.length ≤ 1048576) : (codeP f).length ≤ 3200000 := by
  have hcc : 0 ≤ f.wh ∧ 0 ≤ f.pl ∧ 0 ≤ f.mb ∧ 0 ≤ f.tm ∧ f.wh ≤ 9 ∧ f.pl ≤ 9 ∧ f.mb ≤ 9 ∧ f.tm ≤ 9 := of_decide_eq_true hc
  unfold codeP
  have q1 := quoB_len f.bf
  have q2 := quoB_len f.af
  have r1 := repF_le [48] f.wh.toNat rfl
  have r2 := repF_le [48] f.pl.toNat rfl
  have r3 := repF_le [35] f.mb.toNat rfl
  have r4 := repF_le [37] f.tm.toNat rfl
  have g : (if f.gr then ([35, 44] : BL) else []).length ≤ 2 := by split <;> simp
  have h : (if (decide (0 < f.pl + f.mb)) then (46 :: (repF [48] f.pl.toNat ++ repF [35] f.mb.toNat) : BL) else []).length ≤ 30 := by
    split
    · simp only [List.length_cons, List.length_append]; rw [r2, r3]; omega
    · simp
  simp only [List.length_append]
  rw [r1, r4]
  omega
theorem join_len (l : List BL) (h3 : l.length ≤ 3) (hm : ∀ x ∈ l, x.length ≤ 3200000) : (Lib.join l [59]).length ≤ 100000000 := by
  match l, h3, hm with
  | [], _, _ => simp [Lib.join, List.intercalate]
  | [a], _, hm => have := hm a (by simp); simp [Lib.join, List.intercalate]; omega
  | [a, b], _, hm =>
    have := hm a (by simp)
    have := hm b (by simp)
    simp [Lib.join, List.intercalate]; omega
  | [a, b, c], _, hm =>
    have := hm a (by simp)
    have := hm b (by simp)
    have := hm c (by simp)
    simp [Lib.join, List.intercalate]; omega
  | _ :: _ :: _ :: _ :: _, h3, _ => simp at h3

set_option maxRecDepth 8000 in
set_option maxHeartbeats 8000000 in
theorem toldPI (v : Value) (l : List KT) (w : World) (h : FormatsIn w v l) (hl : l.length ≤ 2000000) (ht : ∀ f ∈ l, f.bf.length ≤ 1048576 ∧ f.af.length ≤ 1048576 ∧ f.dt.length ≤ 1048576) (T : TabK w) :
    Calls Tryd.prog 13 #[v] w fun e w' => e = .returned (sV (toldP l)) ∧ Ext w w' := by
  have HI : Hid (FormatsIn w v l) := h
  obtain ⟨p, cap, rfl, hcap, hrow⟩ := h
  obtain ⟨n, hn⟩ : ∃ n, l.length = n := ⟨_, rfl⟩
  have HN : Hid (l.length = n) := hn
  obtain ⟨R, hR⟩ : ∃ R, toldP l = R := ⟨_, rfl⟩
  have HR : Hid ((if 3 < n then [] else if l.any (fun f => !cntB f) then [] else if readF (Lib.join (l.map codeP) [59]) = l then Lib.join (l.map codeP) [59] else []) = R) := by show _ = _; rw [← hR, ← hn]; rfl
  rw [hR]
  rw [hn] at hcap hl hrow HI ⊢
  have HRow : Hid (0 < n → ∃ b o, p = some ⟨b, o, none⟩ ∧ RowK w b o l) := hrow
  have HTx : Hid (∀ f ∈ l, f.bf.length ≤ 1048576 ∧ f.af.length ≤ 1048576 ∧ f.dt.length ≤ 1048576) := ht
  have HT : Hid (TabK w) := T
  clear hn hR hrow ht T
  by_cases hlen : 3 < n
  · have HE : Hid (R = []) := by show _ = _; rw [← HR.out, if_pos hlen]
    have i2 : 3 < (n : Int) := by omega
    clear HR HI
    go_enter Tryd.func13, Tryd.ntmps13
    go_wp2_with fail
    go_ret
    exact ⟨by rw [HE.out] <;> rfl, xr _⟩
  · have i2 : (n : Int) ≤ 3 := by omega
    have HQ : Hid ((if l.any (fun f => !cntB f) then [] else if readF (Lib.join (l.map codeP) [59]) = l then Lib.join (l.map codeP) [59] else []) = R) := by show _ = _; rw [← HR.out, if_neg hlen]
    have hn3 : n ≤ 3 := by omega
    clear hlen HR
    obtain ⟨B, hB⟩ : ∃ B, w.heap.size = B := ⟨_, rfl⟩
    have HB : Hid (w.heap.size = B) := hB
    clear hB
    go_enter Tryd.func13, Tryd.ntmps13
    go_wp2_with fail
    have T0 := ownT_nil w B
    go_loopw [3, 12] (fun s i wr => ∃ k : Nat, k ≤ n ∧ i = .int .i64 k ∧ OwnT wr B s ((l.take k).map codeP) ∧ Hid (∀ f ∈ l.take k, cntB f = true) ∧ Ext w wr) (fun _ i _ => n - (intOf i).toNat)
    case atStart => exact ⟨0, by omega, rfl, T0, fun f hf => by simp at hf, xr _⟩
    case round =>
      clear T0
      obtain ⟨k, hk, rfl, OT, HW, X⟩ := hrel
      by_cases hlt : k < n
      · obtain ⟨f, hf⟩ : ∃ f, l[k]? = some f := ⟨_, List.getElem?_eq_getElem (by rw [HN.out]; exact hlt)⟩
        have hmem : f ∈ l := List.mem_of_getElem? hf
        obtain ⟨b, o, rfl, hRw⟩ := HRow.out (by omega)
        obtain ⟨a0, a1, a2, a3, a4, a5, a6, a7, a8⟩ := (hRw.later X).all hf
        obtain ⟨S, hS⟩ : ∃ S, (l.take k).map codeP = S := ⟨_, rfl⟩
        have HS : Hid ((l.take k).map codeP = S) := hS
        have lS : S.length ≤ 3 := by rw [← hS, List.length_map, List.length_take, HN.out]; omega
        rw [hS] at OT
        obtain ⟨p3, c3, rfl, hc3⟩ := ownT_slice OT
        have OTH : Hid (OwnT wr B (.slice p3 S.length c3) S) := OT
        clear hS
        have CN := fun W => cntI f W
        obtain ⟨cb, hcb⟩ : ∃ cb, cntB f = cb := ⟨_, rfl⟩
        simp only [hcb] at CN
        have j2 : (k : Int) < (n : Int) := by omega
        have j1 : (0 : Int) ≤ (k : Int) := by omega
        have E1 := x1 wr (.cells f.cells.toArray 33)
        have V1 := vec_made wr f.cells 33
        cases cb with
        | false =>
          have HE : Hid (R = []) := by
            show _ = _
            rw [← HQ.out, if_pos]
            rw [List.any_eq_true]
            exact ⟨f, hmem, by rw [hcb]; rfl⟩
          clear HQ HW hf hmem hRw OT HI V1
          go_wp2_with fail
          refine (CN _).mono ?_
          rintro e w2 ⟨rfl, e2⟩
          go_wp2_with fail
          go_ret
          exact ⟨by rw [HE.out] <;> rfl, xt (xt X E1) e2⟩
        | true =>
          obtain ⟨t1, t2, t3⟩ := HTx.out f hmem
          have CC := fun W => codePI f W hcb t1 t2 t3
          have HW2 : Hid (∀ f ∈ l.take (k + 1), cntB f = true) := fun g hg => by
            rw [List.take_add_one, hf] at hg
            rcases List.mem_append.1 hg with hg | hg
            · exact HW.out g hg
            · have : g = f := by simpa using hg
              rw [this]; exact hcb
          have HM : Hid ((l.take (k + 1)).map codeP = S ++ [codeP f]) := by
            show _ = _
            rw [List.take_add_one, hf, List.map_append, HS.out]; rfl
          obtain ⟨c, hc⟩ : ∃ c, codeP f = c := ⟨_, rfl⟩
          simp only [hc] at CC
          rw [hc] at HM
          obtain ⟨inf, hi, hz, hz1, hz2⟩ := infoT
          have HV1 : Hid (Vec (wr.alloc (.cells f.cells.toArray 33)) wr.heap.size f.cells) := V1
          clear HQ HW hf hmem hRw OT HI hcb hc t1 t2 t3 V1
          go_wp2_with fail
          refine (CN _).mono ?_
          rintro e w2 ⟨rfl, e2⟩
          have V2 := HV1.out.later e2
          have d0 := (V2 0 _ rfl).1
          have d1 := (V2 1 _ rfl).1
          have d2 := (V2 2 _ rfl).1
          have d3 := (V2 3 _ rfl).1
          have d4 := (V2 4 _ rfl).1
          have d5 := (V2 5 _ rfl).1
          have d6 := (V2 6 _ rfl).1
          have d7 := (V2 7 _ rfl).1
          have d8 := (V2 8 _ rfl).1
          clear V2 HV1
          go_wp2_with fail
          refine (CC _).mono ?_
          rintro e w3 ⟨rfl, e3⟩
          have E3 := xt (xt E1 e2) e3
          have OQ : Hid (OwnT w3 B (.slice p3 S.length c3) S) := ownT_later OTH.out E3
          have X3 := xt X E3
          have S3 : B ≤ w3.heap.size := by have := X3.size; have := HB.out; omega
          clear d0 d1 d2 d3 d4 d5 d6 d7 d8 E1 e2 e3 E3 OTH CC CN a0 a1 a2 a3 a4 a5 a6 a7 a8
          go_wp2_with (at_builtin; refine wpList_append_own _ rfl _ _ 44 rfl B 9 inf (.string ByteArray.empty) 1 16 Tryd.underlying44 hi hz hz1 hz2 rfl (by decide) _ _ _ rfl (OQ.out.alloc _) ⟨w3.heap.size, 0, none⟩ 1 1 [sV c] rfl rfl (World.news_of_block (heap_alloc_new w3 (.cells [sV c].toArray 9))) (by simp [Value.oneCell']) (by simp only [maxLen]; omega) (by omega) (by simp; omega) ?_)
          intro v7 wC ownC gC _
          have XA := xa X3 (.cells [sV c].toArray 9)
          have HOB := ownT_block OQ.out
          have XC : Ext w wC := XA.grown gC XA.size (fun q hq => by have := (HOB q hq).1; have := HB.out; omega)
          have OC : OwnT wC B v7 (S ++ [c]) := by
            show World.ownsRow _ _ _ _ _ _ _
            rw [List.map_append, List.length_append]
            exact ownC
          obtain ⟨p7, c7, hv7, hc7⟩ := ownT_slice OC
          obtain ⟨L7, hL7⟩ : ∃ L7, (S ++ [c]).length = L7 := ⟨_, rfl⟩
          rw [hL7] at hv7
          subst hv7
          have HOC : Hid (OwnT wC B (.slice p7 L7 c7) ((l.take (k + 1)).map codeP)) := by rw [HM.out]; exact OC
          clear gC ownC OQ XA X3 hi hz hz1 hz2 HOB OC HM hc3 hc7 hL7
          go_wp2_with fail
          go_roundw
          case rel => exact ⟨k + 1, by omega, by go_num, HOC.out, HW2, XC⟩
          case measure => simp [intOf]; omega
      · obtain rfl : k = n := by omega
        have htl : l.take k = l := List.take_of_length_le (by rw [HN.out]; exact Nat.le_refl _)
        rw [htl] at OT HW
        have HQ2 : Hid ((if readF (Lib.join (l.map codeP) [59]) = l then Lib.join (l.map codeP) [59] else []) = R) := by
          show _ = _
          rw [← HQ.out]
          have : l.any (fun f => !cntB f) = false := by
            rw [List.any_eq_false]
            intro f hf
            rw [HW.out f hf]
            decide
          rw [this]; rfl
        have hjl := join_len (l.map codeP) (by rw [List.length_map, HN.out]; exact hn3) (fun x hx => by
          obtain ⟨f, hf, rfl⟩ := List.mem_map.1 hx
          obtain ⟨t1, t2, t3⟩ := HTx.out f hf
          exact codeP_len f (HW.out f hf) t1 t2 t3)
        have JC := joinI _ (l.map codeP) B wr OT (by rw [List.length_map, HN.out]; omega) hjl
        obtain ⟨J, hJ⟩ : ∃ J, Lib.join (l.map codeP) [59] = J := ⟨_, rfl⟩
        rw [hJ] at JC HQ2 hjl
        have RC := fun W (hW : TabK W) => readI J W hjl hW
        simp only [readF_same] at RC
        obtain ⟨D, hD⟩ : ∃ D, readF J = D := ⟨_, rfl⟩
        simp only [hD] at RC
        rw [hD] at HQ2
        have hdl : D.length ≤ 2000000 := by have := readL_len4 J; rw [hD] at this; omega
        obtain ⟨p3, c3, hv3, hc3⟩ := ownT_slice OT
        obtain ⟨L3, hL3⟩ : ∃ L3, (l.map codeP).length = L3 := ⟨_, rfl⟩
        rw [hL3] at hv3
        subst hv3
        clear hJ hD HQ HW htl OT hL3 hc3
        go_wp2_with fail
        refine JC.mono ?_
        rintro e w2 ⟨rfl, e2⟩
        have X2 := xt X e2
        clear e2 JC X
        go_wp2_with fail
        refine (RC w2 (HT.out.later X2)).mono ?_
        rintro e w3 ⟨⟨v3, rfl, V3⟩, e3⟩
        have X3 := xt X2 e3
        have EQ := equalF v3 _ D l w3 (ownF_in V3) (HI.out.later X3) hdl
        obtain ⟨q, hq⟩ : ∃ q, decide (D = l) = q := ⟨_, rfl⟩
        rw [hq] at EQ
        clear e3 RC X2 V3
        cases q with
        | true =>
          have HE : Hid (R = J) := by show _ = _; rw [← HQ2.out, if_pos (of_decide_eq_true hq)]
          clear hq HQ2
          go_wp2_with fail
          refine EQ.mono ?_
          rintro e w4 ⟨rfl, e4⟩
          go_wp2_with fail
          go_ret
          exact ⟨by rw [HE.out] <;> rfl, xt X3 e4⟩
        | false =>
          have HE : Hid (R = []) := by show _ = _; rw [← HQ2.out, if_neg (of_decide_eq_false hq)]
          clear hq HQ2
          go_wp2_with fail
          refine EQ.mono ?_
          rintro e w4 ⟨rfl, e4⟩
          go_wp2_with fail
          go_ret
          exact ⟨by rw [HE.out] <;> rfl, xt X3 e4⟩

end Go.Proofs.YthedbjjncnddbaaDoor
