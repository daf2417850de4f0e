/-
  Chapter 14: a field without quotes, by the program.
-/
import Derived.Test.YtkjbeciiecljgaaDoorRd2
import Derived.Test.YtkjbeciiecljgaaDoorDpa
import Derived.Deep.LoopGhost
namespace Go.Proofs.YtkjbeciiecljgaaDoor
open Go.RowKit

theorem plnU_stop {m : UInt8} {s : List UInt8} (h : stopU m s = true) : plnU m s = (0, false) := by
  cases s with
  | nil => rfl
  | cons b r => unfold plnU; rw [if_pos h]
theorem plnU_quote {m : UInt8} {r : List UInt8} (h : stopU m (34 :: r) = false) : plnU m (34 :: r) = (0, true) := by
  unfold plnU
  rw [if_neg (by rw [h]; simp), if_pos rfl]
theorem plnU_next {m b : UInt8} {r : List UInt8} (h : stopU m (b :: r) = false) (hb : b ≠ 34) : plnU m (b :: r) = ((plnU m r).1 + 1, (plnU m r).2) := by
  rw [plnU, if_neg (by rw [h]; simp), if_neg hb]
theorem stopU_high {m b : UInt8} {r : List UInt8} (hm : m.toNat < 128) (hb : 128 ≤ b.toNat) : stopU m (b :: r) = false := by
  have ne : ∀ y : UInt8, y.toNat < 128 → b ≠ y := fun y hy e => by subst e; omega
  have h1 : endU (b :: r) = 0 := by
    unfold endU
    split
    · next h => cases h; exact absurd rfl (ne 10 (by decide))
    · next h => cases h; exact absurd rfl (ne 13 (by decide))
    · rfl
  unfold stopU
  rw [h1]
  simp
  exact ne m hm
/-- Bytes from 128 on are passed by. -/
theorem plnU_pass {m : UInt8} {s : List UInt8} (hm : m.toNat < 128) (p z : Nat) (h : ∀ k b, p ≤ k → k < p + z → s[k]? = some b → 128 ≤ b.toNat) (hl : p + z ≤ s.length) :
    plnU m (s.drop p) = ((plnU m (s.drop (p + z))).1 + z, (plnU m (s.drop (p + z))).2) := by
  induction z generalizing p with
  | zero => simp
  | succ z ih =>
    have hp : p < s.length := by omega
    have e : s.drop p = s[p] :: s.drop (p + 1) := List.drop_eq_getElem_cons hp
    have hb := h p s[p] (Nat.le_refl _) (by omega) (List.getElem?_eq_getElem hp)
    have := ih (p + 1) (fun k b h1 h2 => h k b (by omega) (by omega)) (by omega)
    rw [e, plnU_next (stopU_high hm hb) (fun e => by rw [e] at hb; simp at hb), this]
    rw [show p + 1 + z = p + (z + 1) by omega]
    simp
    omega
/-- What the program answers of a field without quotes. -/
def plnA (ev : Value) (f : List UInt8) (i : Nat) (P : Nat × Bool) : Value :=
  if P.2 = true then .tuple #[sV [], faultV ev (i + P.1)] else .tuple #[sV (f.take P.1), .nilIface]
/-- Where the reader stands after a field. -/
def PlnOK (w : World) (b : Nat) (t : List UInt8) (m : UInt8) (i : Nat) (P : Nat × Bool) : Prop := P.2 = false → Rdr w b t m (i + P.1)
theorem plnA_bad (ev : Value) (f : List UInt8) (i p : Nat) : plnA ev f i (p, true) = .tuple #[sV [], faultV ev (i + p)] := rfl
theorem plnA_ok (ev : Value) (f : List UInt8) (i p : Nat) : plnA ev f i (p, false) = .tuple #[sV (f.take p), .nilIface] := rfl
theorem PlnOK_bad (w : World) (b : Nat) (t : List UInt8) (m : UInt8) (i p : Nat) : PlnOK w b t m i (p, true) := fun h => by cases h
set_option maxRecDepth 8000 in
set_option maxHeartbeats 4000000 in
theorem plainFieldI (b : Nat) (t : List UInt8) (m : UInt8) (i : Nat) (ty : TypeId) (pv : Value) (w : World) (h : Rdr w b t m i) (hi : i ≤ t.length) (ht : t.length ≤ 30000) (hm : m.toNat < 128)
    (he : w.cell? ⟨2, 0, none⟩ = some (.iface ty pv)) :
    Calls Tryd.prog 36 #[.pointer (some ⟨b, 0, none⟩)] w fun e w' =>
      e = .returned (plnA (.iface ty pv) (t.drop i) i (plnU m (t.drop i))) ∧ PlnOK w' b t m i (plnU m (t.drop i)) ∧ Sole b w w' := by
  have CR := restI b t m i w h hi
  have HR : Hid (Rdr w b t m i) := h
  have HE : Hid (w.cell? ⟨2, 0, none⟩ = some (.iface ty pv)) := he
  obtain ⟨f, hf⟩ : ∃ f, t.drop i = f := ⟨_, rfl⟩
  have hfl : f.length ≤ 30000 := by rw [← hf, List.length_drop]; omega
  have HFL : Hid (i + f.length = t.length) := by show _ = _; rw [← hf, List.length_drop]; omega
  rw [hf] at CR ⊢
  obtain ⟨s, hs⟩ : ∃ s : ByteArray, (⟨f.toArray⟩ : ByteArray) = s := ⟨_, rfl⟩
  have HS : Hid ((⟨f.toArray⟩ : ByteArray) = s ∧ s.data.toList = f) := ⟨hs, by rw [← hs]⟩
  have hsz : s.size = f.length := by rw [← hs]; rfl
  change Calls Tryd.prog 18 #[.pointer (some ⟨b, 0, none⟩)] w fun e w' => e = .returned (.string ⟨f.toArray⟩) ∧ Ext w w' at CR
  rw [hs] at CR
  obtain ⟨n, hn⟩ : ∃ n, f.length = n := ⟨_, rfl⟩
  have HN : Hid (f.length = n) := hn
  rw [hn] at hsz hfl HFL
  obtain ⟨P, hP⟩ : ∃ P, plnU m f = P := ⟨_, rfl⟩
  have HP : Hid (plnU m f = P) := hP
  rw [hP]
  have hib : i ≤ 30000 := by omega
  clear hf hs hn hP h he hi ht
  go_enter Tryd.func36, Tryd.ntmps36
  go_wp2_with fail
  refine CR.mono ?_
  rintro _ w1 ⟨rfl, e1⟩
  clear CR
  have HK0 : Hid ((w1.iter s 0).heap[w1.heap.size]? = some (.stringIter s 0) ∧ Ext w1 (w1.iter s 0) ∧ P = ((plnU m (f.drop 0)).1 + 0, (plnU m (f.drop 0)).2)) := ⟨World.iter_heap _ _ _, iter_ext _ _ _, by rw [← HP.out]; simp⟩
  go_wp2_with fail
  go_loopg [5, 6, 7] n (fun g a _ _ wx => a = .int .i64 n ∧ ∃ p : Nat, p ≤ n ∧ n ≤ p + g ∧ Hid (wx.heap[w1.heap.size]? = some (.stringIter s p) ∧ Ext w1 wx ∧ P = ((plnU m (f.drop p)).1 + p, (plnU m (f.drop p)).2)))
  case atStart => exact ⟨rfl, 0, by omega, by omega, HK0⟩
  case round =>
    clear HK0
    obtain ⟨rfl, p, hpn, hpg, HI⟩ := hrel
    by_cases hlt : p < n
    · obtain ⟨g, rfl⟩ : ∃ g, gk = g + 1 := ⟨gk - 1, by omega⟩
      have hi : p < s.size := by omega
      have hnx := fun ty => Lib.run_next_any_at (P := Tryd.prog) wr w1.heap.size s p ty HI.out.1 hi
      obtain ⟨x, hx⟩ : ∃ x : UInt8, s[p]'hi = x := ⟨_, rfl⟩
      have hpf : p < f.length := by rw [HN.out]; exact hlt
      have hxf : f[p]? = some x := by
        have h1 := byte_atA HS.out.2 hi
        rw [hx] at h1
        rw [List.getElem?_eq_getElem hpf]
        congr 1
        rw [h1, List.getD, List.getElem?_eq_getElem hpf]
        rfl
      have hdr : f.drop p = x :: f.drop (p + 1) := by
        rw [List.drop_eq_getElem_cons hpf]
        rw [List.getElem?_eq_getElem hpf] at hxf
        rw [Option.some.inj hxf]
      have hplt : (p : Int) ≤ (n : Int) := by omega
      have hp0 : (0 : Int) ≤ (p : Int) := by omega
      obtain ⟨⟨R, Z⟩, hRZ⟩ : ∃ q : Nat × Nat, Utf8.decode s p = q := ⟨_, rfl⟩
      have HDA : Hid (x.toNat < 128 → R = x.toNat ∧ Z = 1) := fun h => by
        have hd := decode_ascii s p hi (by rw [hx]; exact h)
        rw [hx, hRZ] at hd
        exact ⟨congrArg Prod.fst hd, congrArg Prod.snd hd⟩
      have HDH : Hid (128 ≤ x.toNat → 128 ≤ R ∧ 1 ≤ Z ∧ p + Z ≤ n ∧ ∀ k b, p ≤ k → k < p + Z → f[k]? = some b → 128 ≤ b.toNat) := fun h => by
        have hh : 128 ≤ (s[p]'hi).toNat := by rw [hx]; exact h
        have hd := decode_high s p hi hh
        have hps := decode_pass s p hi hh
        rw [hRZ] at hd hps
        refine ⟨hd.1, hd.2, by have := hps.1; omega, fun k b h1 h2 hb => ?_⟩
        have hk : k < s.size := by have := hps.1; dsimp only at this; omega
        have h4 := hps.2 k hk h1 h2
        rw [byte_atA HS.out.2 hk, List.getD, hb] at h4
        exact h4
      rw [hRZ] at hnx
      dsimp only at hnx
      have HIT := Lib.iterAt_heap wr w1.heap.size s p (p + Z) HI.out.1
      have HXT := iterAt_ext s (p + Z) HI.out.2.1 (Nat.le_refl _)
      obtain ⟨w2, hw2⟩ : ∃ q, wr.iterAt w1.heap.size s (p + Z) = q := ⟨_, rfl⟩
      rw [hw2] at HIT HXT
      have XW := xt e1 HXT
      have RW := HR.out.later XW
      have CE := endsI b t m i (f.drop p) w2 RW
      have HEX : (.string (s.extract p n) : Value) = sV (f.drop p) := by
        rw [← HS.out.1, ext_subH, List.take_of_length_le (by rw [List.length_drop, HN.out]; exact Nat.le_refl _)]
      rw [← HEX] at CE
      obtain ⟨Q, hQ⟩ : ∃ Q, stopU m (f.drop p) = Q := ⟨_, rfl⟩
      rw [hQ] at CE
      have HPQ := HI.out.2.2
      clear HEX hRZ hx hi
      cases Q
      · by_cases hx34 : x = 34
        · subst hx34
          obtain ⟨hR, hZ⟩ := HDA.out (by decide)
          have HPP : Hid (P = (p, true)) := by
            show _ = _
            rw [HPQ, hdr, plnU_quote (by rw [← hdr]; exact hQ)]
            simp
          have hR2 : ((R : Int) == 34) = true := by rw [hR]; rfl
          have ge := cell_later XW HE.out
          have CF := faultI b t m i ty pv p w2 RW hib (by omega)
          have HFN : Hid (Sole b w w2 ∧ P.2 = true) := ⟨(Sole.refl _ w).step XW, by rw [HPP.out]⟩
          obtain ⟨fv, hfv⟩ : ∃ fv, faultV (.iface ty pv) (i + p) = fv := ⟨_, rfl⟩
          rw [hfv] at CF
          have HPV : Hid (plnA (.iface ty pv) f i P = .tuple #[sV [], fv]) := by show _ = _; rw [HPP.out, plnA_bad, hfv]
          have HPV2 : Hid (PlnOK w2 b t m i P) := by rw [HPP.out]; exact PlnOK_bad _ _ _ _ _ _
          clear HPQ HIT HXT XW RW hR hZ hQ hdr hxf HI HPP hfv
          go_wp2_with (first | (go_at_call 42; refine CE.mono ?_; rintro _ w3 ⟨rfl, hw⟩; rw [hw]) | (go_at_call 41; refine CF.mono ?_; rintro _ w3 ⟨rfl, hw⟩; rw [hw]))
          exact bodyPost_ret (v := plnA (.iface ty pv) f i P) (by rw [HPV.out]; simp [results, Tryd.results36, go_sem]) rfl ⟨rfl, HPV2.out, HFN.out.1⟩
        · have HK : Hid (w2.heap[w1.heap.size]? = some (.stringIter s (p + Z)) ∧ Ext w1 w2 ∧ P = ((plnU m (f.drop (p + Z))).1 + (p + Z), (plnU m (f.drop (p + Z))).2)) := by
            refine ⟨HIT, HXT, ?_⟩
            by_cases h128 : x.toNat < 128
            · obtain ⟨_, rfl⟩ := HDA.out h128
              rw [HPQ, hdr, plnU_next (by rw [← hdr]; exact hQ) hx34]
              simp
              omega
            · obtain ⟨_, _, h3, h4⟩ := HDH.out (by omega)
              rw [HPQ, plnU_pass hm p Z h4 (by rw [HN.out]; exact h3)]
              simp
              omega
          have hzz : 1 ≤ Z ∧ p + Z ≤ n ∧ R ≠ 34 := by
            by_cases h128 : x.toNat < 128
            · obtain ⟨h1, h2⟩ := HDA.out h128
              refine ⟨by omega, by omega, fun e => hx34 (UInt8.toNat_inj.1 ?_)⟩
              rw [← h1, e]; rfl
            · obtain ⟨h1, h2, h3, _⟩ := HDH.out (by omega)
              exact ⟨h2, h3, by omega⟩
          have hR2 : ((R : Int) == 34) = false := by simp; omega
          clear HPQ HIT HXT XW RW hQ hdr hxf HI
          go_wp2_with (first | (go_at_call 42; refine CE.mono ?_; rintro _ w3 ⟨rfl, hw⟩; rw [hw]))
          go_roundg g
          case measure => omega
          case rel => exact ⟨rfl, p + Z, by omega, by omega, HK⟩
      · have HPP : Hid (P = (p, false)) := by
          show _ = _
          rw [HPQ, plnU_stop hQ]
          simp
        obtain ⟨⟨q0, q1, q2⟩, z0, z1, z2⟩ := id RW
        obtain ⟨jj, hjj⟩ : ∃ jj : Nat, i + p = jj := ⟨_, rfl⟩
        have hji : (i : Int) + (p : Int) = (jj : Int) := by omega
        have HFN : Hid (PlnOK (w2.setCell ⟨b, 2, none⟩ (.int .i64 jj)) b t m i P ∧ Sole b w (w2.setCell ⟨b, 2, none⟩ (.int .i64 jj)) ∧ plnA (.iface ty pv) f i P = .tuple #[.string (s.extract 0 p), .nilIface]) := by
          refine ⟨?_, ((Sole.refl _ w).step XW).put 2 _, ?_⟩
          · rw [HPP.out]
            intro _
            dsimp only
            rw [hjj]
            exact RW.put jj
          · rw [HPP.out, plnA_ok, ← HS.out.1, ext_subH]
            rfl
        clear HPQ HIT HXT XW RW hQ hdr hxf HI
        go_wp2_with (first | (go_at_call 42; refine CE.mono ?_; rintro _ w3 ⟨rfl, hw⟩; rw [hw]))
        exact bodyPost_ret (v := plnA (.iface ty pv) f i P) (by rw [HFN.out.2.2]; simp [results, Tryd.results36, go_sem]) rfl ⟨rfl, HFN.out.1, HFN.out.2.1⟩
    · obtain rfl : p = n := by omega
      have hnx := fun ty => Lib.run_next_end_at (P := Tryd.prog) wr w1.heap.size s p ty HI.out.1 (by omega)
      have HPP : Hid (P = (p, false)) := by
        show _ = _
        rw [HI.out.2.2, List.drop_of_length_le (by rw [HN.out]; omega)]
        simp [plnU]
      have XW := xt e1 HI.out.2.1
      have RW := HR.out.later XW
      obtain ⟨⟨q0, q1, q2⟩, z0, z1, z2⟩ := id RW
      obtain ⟨jj, hjj⟩ : ∃ jj : Nat, i + p = jj := ⟨_, rfl⟩
      have hji : (i : Int) + (p : Int) = (jj : Int) := by omega
      have HFN : Hid (PlnOK (wr.setCell ⟨b, 2, none⟩ (.int .i64 jj)) b t m i P ∧ Sole b w (wr.setCell ⟨b, 2, none⟩ (.int .i64 jj)) ∧ plnA (.iface ty pv) f i P = .tuple #[.string (s.extract 0 p), .nilIface]) := by
        refine ⟨?_, ((Sole.refl _ w).step XW).put 2 _, ?_⟩
        · rw [HPP.out]
          intro _
          dsimp only
          rw [hjj]
          exact RW.put jj
        · rw [HPP.out, plnA_ok, ← HS.out.1, ext_subH]
          rfl
      clear HI XW RW
      go_wp2_with fail
      exact bodyPost_ret (v := plnA (.iface ty pv) f i P) (by rw [HFN.out.2.2]; simp [results, Tryd.results36, go_sem]) rfl ⟨rfl, HFN.out.1, HFN.out.2.1⟩

end Go.Proofs.YtkjbeciiecljgaaDoor
