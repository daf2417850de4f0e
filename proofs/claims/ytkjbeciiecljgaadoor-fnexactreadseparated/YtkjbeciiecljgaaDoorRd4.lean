/-
  Chapter 14: a field, by the program.
-/
import Derived.Test.YtkjbeciiecljgaaDoorRd3
namespace Go.Proofs.YtkjbeciiecljgaaDoor
open Go.RowKit

/-- What the program answers of a field. -/
def fldA (e1 e2 : Value) (i : Nat) : FU → Value
  | .ok f _ => .tuple #[sV f, .nilIface]
  | .bad e n => .tuple #[sV [], faultV (if e = 1 then e1 else e2) (i + n)]
/-- Where the reader stands after a field. -/
def FldOK (w : World) (b : Nat) (t : List UInt8) (m : UInt8) (i : Nat) : FU → Prop
  | .ok _ n => Rdr w b t m (i + n)
  | .bad _ _ => True
/-- The two faults of a field lie in the program's variables. -/
def Flt (w : World) (t1 : TypeId) (p1 : Value) (t2 : TypeId) (p2 : Value) : Prop :=
  w.cell? ⟨1, 0, none⟩ = some (.iface t1 p1) ∧ w.cell? ⟨2, 0, none⟩ = some (.iface t2 p2)
theorem Flt.later {w w' : World} {t1 t2 : TypeId} {p1 p2 : Value} (h : Flt w t1 p1 t2 p2) (x : Ext w w') : Flt w' t1 p1 t2 p2 := ⟨cell_later x h.1, cell_later x h.2⟩
theorem fieldU_short {m : UInt8} {r : List UInt8} (h : quoU r = none) : fieldU m (34 :: r) = .bad 1 (r.length + 1) := by
  show (match quoU r with | none => FU.bad 1 (r.length + 1) | some (f, n) => if stopU m (r.drop n) = true then .ok f (n + 1) else .bad 2 (n + 1)) = _
  rw [h]
theorem fieldU_quo {m : UInt8} {r f : List UInt8} {n : Nat} (h : quoU r = some (f, n)) : fieldU m (34 :: r) = if stopU m (r.drop n) = true then .ok f (n + 1) else .bad 2 (n + 1) := by
  show (match quoU r with | none => FU.bad 1 (r.length + 1) | some (f, n) => if stopU m (r.drop n) = true then .ok f (n + 1) else .bad 2 (n + 1)) = _
  rw [h]
set_option maxRecDepth 8000 in
set_option maxHeartbeats 4000000 in
theorem quotedFieldI (b : Nat) (t : List UInt8) (m : UInt8) (i : Nat) (r : List UInt8) (t1 : TypeId) (p1 : Value) (t2 : TypeId) (p2 : Value) (w : World) (h : Rdr w b t m i) (hr : t.drop i = 34 :: r) (ht : t.length ≤ 30000)
    (he : Flt w t1 p1 t2 p2) :
    Calls Tryd.prog 35 #[.pointer (some ⟨b, 0, none⟩)] w fun e w' =>
      e = .returned (fldA (.iface t1 p1) (.iface t2 p2) i (fieldU m (34 :: r))) ∧ FldOK w' b t m i (fieldU m (34 :: r)) ∧ Sole b w w' := by
  have hlen : i + (r.length + 1) = t.length := by
    have := congrArg List.length hr
    rw [List.length_drop, List.length_cons] at this
    omega
  have CR := restI b t m i w h (by omega)
  rw [hr] at CR
  have CU := fun W => unquotedI r W (by omega)
  have HR : Hid (Rdr w b t m i) := h
  have HE : Hid (Flt w t1 p1 t2 p2) := he
  have hib : i ≤ 30000 := by omega
  have hrb : r.length + 1 ≤ 30000 := by omega
  have hsz : (⟨(34 :: r).toArray⟩ : ByteArray).size = r.length + 1 := rfl
  have HX : Hid (∀ n, (.string ((⟨(34 :: r).toArray⟩ : ByteArray).extract (n + 1) (r.length + 1)) : Value) = sV (r.drop n)) := fun n => by
    rw [ext_subH, List.drop_succ_cons, List.take_of_length_le (by rw [List.length_drop]; omega)]
  obtain ⟨s, hs⟩ : ∃ s : ByteArray, (⟨(34 :: r).toArray⟩ : ByteArray) = s := ⟨_, rfl⟩
  change Calls Tryd.prog 18 #[.pointer (some ⟨b, 0, none⟩)] w fun e w' => e = .returned (.string ⟨(34 :: r).toArray⟩) ∧ Ext w w' at CR
  change ∀ W, Calls Tryd.prog 40 #[.string ⟨(34 :: r).toArray⟩] W fun e w' => e = .returned (unqV r) ∧ w' = W at CU
  rw [hs] at CR CU hsz HX
  clear hs h he
  match hq : quoU r with
  | none =>
    have hF : fieldU m (34 :: r) = .bad 1 (r.length + 1) := fieldU_short hq
    rw [hF]
    have hU : unqV r = .tuple #[sV [], .int .i64 0] := by unfold unqV; rw [hq]
    rw [hU] at CU
    clear hF hU hq hr
    go_enter Tryd.func35, Tryd.ntmps35
    go_wp2_with fail
    refine CR.mono ?_
    rintro _ w1 ⟨rfl, e1⟩
    have CF := faultI b t m i t1 p1 (r.length + 1) w1 (HR.out.later e1) hib hrb
    have ge := (HE.out.later e1).1
    have HT : Hid (Sole b w w1) := (Sole.refl _ w).step e1
    obtain ⟨fv, hfv⟩ : ∃ fv, faultV (.iface t1 p1) (i + (r.length + 1)) = fv := ⟨_, rfl⟩
    have HA : Hid (fldA (.iface t1 p1) (.iface t2 p2) i (.bad 1 (r.length + 1)) = .tuple #[sV [], fv]) := by show _ = _; rw [← hfv]; rfl
    rw [hfv] at CF
    clear hfv CR
    go_wp2_with fail
    refine (CU _).mono ?_
    rintro _ w2 ⟨rfl, rfl⟩
    go_wp2_with fail
    refine CF.mono ?_
    rintro _ w3 ⟨rfl, rfl⟩
    go_wp2_with fail
    exact bodyPost_ret (v := fldA (.iface t1 p1) (.iface t2 p2) i (.bad 1 (r.length + 1))) (by rw [HA.out]; simp [results, Tryd.results35, go_sem]) rfl ⟨rfl, trivial, HT.out⟩
  | some (f, n) =>
    have hn := quoU_le _ _ _ hq
    have hn1 : n ≤ r.length := hn.1
    have hF := fieldU_quo (m := m) hq
    have hU : unqV r = .tuple #[sV f, .int .i64 ((n + 1 : Nat) : Int)] := by unfold unqV; rw [hq]
    rw [hU] at CU
    have CE := fun W h => endsI b t m i (r.drop n) W h
    rw [← HX.out n] at CE
    obtain ⟨sv, hsv⟩ : ∃ sv : Value, sV f = sv := ⟨_, rfl⟩
    rw [hsv] at CU
    have HSV : Hid (sV f = sv) := hsv
    obtain ⟨Q, hQ⟩ : ∃ Q, stopU m (r.drop n) = Q := ⟨_, rfl⟩
    rw [hQ] at CE hF
    rw [hF]
    have hz0 : ((n + 1 : Nat) : Int) ≠ 0 := by omega
    have hz1 : ((n + 1 : Nat) : Int) ≤ ((r.length + 1 : Nat) : Int) := by omega
    have hz2 : (0 : Int) ≤ ((n + 1 : Nat) : Int) := by omega
    clear hF hU hq hr hQ hsv hn HX
    obtain ⟨k, hk⟩ : ∃ k : Nat, n + 1 = k := ⟨_, rfl⟩
    obtain ⟨l, hl⟩ : ∃ l : Nat, r.length + 1 = l := ⟨_, rfl⟩
    rw [hk] at hz0 hz1 hz2 CU CE ⊢
    rw [hl] at hz1 CE hrb hsz hlen
    have hkb : k ≤ 30000 := by omega
    have hkl : k ≤ l := by omega
    clear hk hl
    cases Q
    · rw [if_neg (by simp)]
      go_enter Tryd.func35, Tryd.ntmps35
      go_wp2_with fail
      refine CR.mono ?_
      rintro _ w1 ⟨rfl, e1⟩
      have CF := faultI b t m i t2 p2 k w1 (HR.out.later e1) hib hkb
      have CE := CE w1 (HR.out.later e1)
      have ge := (HE.out.later e1).2
      have HT : Hid (Sole b w w1) := (Sole.refl _ w).step e1
      obtain ⟨fv, hfv⟩ : ∃ fv, faultV (.iface t2 p2) (i + k) = fv := ⟨_, rfl⟩
      have HA : Hid (fldA (.iface t1 p1) (.iface t2 p2) i (.bad 2 k) = .tuple #[sV [], fv]) := by show _ = _; rw [← hfv]; rfl
      rw [hfv] at CF
      clear hfv CR
      go_wp2_with fail
      refine (CU _).mono ?_
      rintro _ w2 ⟨rfl, rfl⟩
      go_wp2_with fail
      refine CE.mono ?_
      rintro _ w3 ⟨rfl, rfl⟩
      go_wp2_with fail
      refine CF.mono ?_
      rintro _ w4 ⟨rfl, rfl⟩
      go_wp2_with fail
      exact bodyPost_ret (v := fldA (.iface t1 p1) (.iface t2 p2) i (.bad 2 k)) (by rw [HA.out]; simp [results, Tryd.results35, go_sem]) rfl ⟨rfl, trivial, HT.out⟩
    · rw [if_pos rfl]
      go_enter Tryd.func35, Tryd.ntmps35
      go_wp2_with fail
      refine CR.mono ?_
      rintro _ w1 ⟨rfl, e1⟩
      have R1 := HR.out.later e1
      have CE := CE w1 R1
      obtain ⟨⟨q0, q1, q2⟩, z0, z1, z2⟩ := id R1
      obtain ⟨jj, hjj⟩ : ∃ jj : Nat, i + k = jj := ⟨_, rfl⟩
      have hji : (i : Int) + (k : Int) = (jj : Int) := by omega
      have HFN : Hid (FldOK (w1.setCell ⟨b, 2, none⟩ (.int .i64 jj)) b t m i (.ok f k) ∧ Sole b w (w1.setCell ⟨b, 2, none⟩ (.int .i64 jj)) ∧ fldA (.iface t1 p1) (.iface t2 p2) i (.ok f k) = .tuple #[sv, .nilIface]) := by
        refine ⟨?_, ((Sole.refl _ w).step e1).put 2 _, ?_⟩
        · show Rdr _ _ _ _ (i + k)
          rw [hjj]
          exact R1.put jj
        · rw [← HSV.out]; rfl
      clear R1 CR
      go_wp2_with fail
      refine (CU _).mono ?_
      rintro _ w2 ⟨rfl, rfl⟩
      go_wp2_with fail
      refine CE.mono ?_
      rintro _ w3 ⟨rfl, rfl⟩
      go_wp2_with fail
      exact bodyPost_ret (v := fldA (.iface t1 p1) (.iface t2 p2) i (.ok f k)) (by rw [HFN.out.2.2]; simp [results, Tryd.results35, go_sem]) rfl ⟨rfl, HFN.out.1, HFN.out.2.1⟩
/-- A field, by the program. -/
theorem fldA_pln (e1 e2 : Value) (m : UInt8) (f : List UInt8) (i : Nat) (h : pfxB f [34] = false) : plnA e2 f i (plnU m f) = fldA e1 e2 i (fieldU m f) := by
  have hF : fieldU m f = if (plnU m f).2 = true then .bad 2 (plnU m f).1 else .ok (f.take (plnU m f).1) (plnU m f).1 := by
    unfold fieldU
    split
    · rw [pfxB_one] at h; simp at h
    · rfl
  rw [hF]
  unfold plnA
  split
  · rfl
  · rfl
theorem FldOK_pln {w : World} {b : Nat} {t : List UInt8} {m : UInt8} {i : Nat} {f : List UInt8} (h : pfxB f [34] = false) (hp : PlnOK w b t m i (plnU m f)) : FldOK w b t m i (fieldU m f) := by
  have hF : fieldU m f = if (plnU m f).2 = true then .bad 2 (plnU m f).1 else .ok (f.take (plnU m f).1) (plnU m f).1 := by
    unfold fieldU
    split
    · rw [pfxB_one] at h; simp at h
    · rfl
  rw [hF]
  split
  · trivial
  · next hn => exact hp (by simpa using hn)
theorem fldA_two (e1 e2 : Value) (i : Nat) (F : FU) : ∃ x y, fldA e1 e2 i F = .tuple #[x, y] := by
  cases F
  · exact ⟨_, _, rfl⟩
  · exact ⟨_, _, rfl⟩
set_option maxRecDepth 8000 in
set_option maxHeartbeats 1000000 in
theorem fieldI (b : Nat) (t : List UInt8) (m : UInt8) (i : Nat) (t1 : TypeId) (p1 : Value) (t2 : TypeId) (p2 : Value) (w : World) (h : Rdr w b t m i) (hi : i ≤ t.length) (ht : t.length ≤ 30000) (hm : m.toNat < 128)
    (he : Flt w t1 p1 t2 p2) :
    Calls Tryd.prog 26 #[.pointer (some ⟨b, 0, none⟩)] w fun e w' =>
      e = .returned (fldA (.iface t1 p1) (.iface t2 p2) i (fieldU m (t.drop i))) ∧ FldOK w' b t m i (fieldU m (t.drop i)) ∧ Sole b w w' := by
  have CR := restI b t m i w h hi
  have CH := fun W => hasPrefI (t.drop i) [34] W
  have HR : Hid (Rdr w b t m i ∧ Flt w t1 p1 t2 p2) := ⟨h, he⟩
  obtain ⟨q, hq⟩ : ∃ q, pfxB (t.drop i) [34] = q := ⟨_, rfl⟩
  rw [hq] at CH
  have HQ : Hid (pfxB (t.drop i) [34] = q) := hq
  have HB : Hid (i ≤ t.length ∧ t.length ≤ 30000 ∧ m.toNat < 128) := ⟨hi, ht, hm⟩
  obtain ⟨F, hF⟩ : ∃ F, fieldU m (t.drop i) = F := ⟨_, rfl⟩
  have HF : Hid (fieldU m (t.drop i) = F) := hF
  obtain ⟨x, y, hxy⟩ := fldA_two (.iface t1 p1) (.iface t2 p2) i F
  have HXY : Hid (fldA (.iface t1 p1) (.iface t2 p2) i F = .tuple #[x, y]) := hxy
  rw [hF, hxy]
  clear h he hq hi ht hm hF hxy
  cases q
  · go_enter Tryd.func26, Tryd.ntmps26
    go_wp2_with fail
    refine CR.mono ?_
    rintro _ w1 ⟨rfl, e1⟩
    have CP := plainFieldI b t m i t2 p2 w1 (HR.out.1.later e1) HB.out.1 HB.out.2.1 HB.out.2.2 (HR.out.2.later e1).2
    rw [fldA_pln (.iface t1 p1) (.iface t2 p2) m _ i HQ.out, HF.out, HXY.out] at CP
    have HT : Hid (Sole b w w1) := (Sole.refl _ w).step e1
    clear CR
    go_wp2_with fail
    refine (CH _).mono ?_
    rintro _ w2 ⟨rfl, rfl⟩
    go_wp2_with fail
    refine CP.mono ?_
    rintro _ w3 ⟨rfl, h1, h2⟩
    have HK : Hid (FldOK w3 b t m i F ∧ Sole b w w3) := ⟨by rw [← HF.out]; exact FldOK_pln HQ.out h1, HT.out.trans h2⟩
    clear h1 h2
    go_wp2_with fail
    exact bodyPost_ret (v := .tuple #[x, y]) (by simp [results, Tryd.results26, go_sem]) rfl ⟨rfl, HK.out.1, HK.out.2⟩
  · obtain ⟨r, hr⟩ : ∃ r, t.drop i = 34 :: r := by
      have := HQ.out
      rw [pfxB_one] at this
      match hd : t.drop i, this with
      | [], h => simp at h
      | a :: r, h => exact ⟨r, by simp at h; rw [h]⟩
    have HRR : Hid (t.drop i = 34 :: r) := hr
    clear hr
    go_enter Tryd.func26, Tryd.ntmps26
    go_wp2_with fail
    refine CR.mono ?_
    rintro _ w1 ⟨rfl, e1⟩
    have CP := quotedFieldI b t m i r t1 p1 t2 p2 w1 (HR.out.1.later e1) HRR.out HB.out.2.1 (HR.out.2.later e1)
    rw [← HRR.out, HF.out, HXY.out] at CP
    have HT : Hid (Sole b w w1) := (Sole.refl _ w).step e1
    clear CR
    go_wp2_with fail
    refine (CH _).mono ?_
    rintro _ w2 ⟨rfl, rfl⟩
    go_wp2_with fail
    refine CP.mono ?_
    rintro _ w3 ⟨rfl, h1, h2⟩
    have HK : Hid (FldOK w3 b t m i F ∧ Sole b w w3) := ⟨h1, HT.out.trans h2⟩
    clear h1 h2
    go_wp2_with fail
    exact bodyPost_ret (v := .tuple #[x, y]) (by simp [results, Tryd.results26, go_sem]) rfl ⟨rfl, HK.out.1, HK.out.2⟩
end Go.Proofs.YtkjbeciiecljgaaDoor
