/-
  Chapter 10: a section, as the specification reads it.
-/
import Derived.Test.YthedbjjncnddbaaDoorKt
import Derived.Test.YthedbjjncnddbaaDoorRg
namespace Go.Proofs.YthedbjjncnddbaaDoor
open Go.RowKit

abbrev zsK : List Value := [.bool false, sV [], sV [], .int .i64 0, .int .i64 0, .int .i64 0, .bool false, .int .i64 0, sV []]
/-- What is known on the way through a section: the reader, the format, what will be answered. -/
def SecW (w W : World) (b F : Nat) (l : BL) (k : Nat) (cs : List Value) : Prop := AtK W b l k ∧ Vec W (F + 1) cs ∧ Vec W F zsK ∧ OnlyK b w W
theorem OnlyK.new {b q i : Nat} {w W : World} (h : OnlyK b w W) (hq : w.heap.size ≤ q) (u : Value) : OnlyK b w (W.setCell ⟨q, i, none⟩ u) :=
  ⟨h.os, h.tape, h.output, by have := h.size; simpa [World.setCell] using this, fun k hk hl => (Below.heap_setCell _ _ _ _ (by show k ≠ q; omega)).trans (h.block k hk hl)⟩
theorem SecW.call {w W W' : World} {b F k k' : Nat} {l : BL} {cs : List Value} (h : SecW w W b F l k cs) (hb : b < F) (a : AtK W' b l k') (o : OnlyK b W W') : SecW w W' b F l k' cs :=
  ⟨a, o.vec (by omega) h.2.1, o.vec (by omega) h.2.2.1, h.2.2.2.trans o⟩
theorem SecW.later {w W W' : World} {b F k : Nat} {l : BL} {cs : List Value} (h : SecW w W b F l k cs) (x : Ext W W') : SecW w W' b F l k cs :=
  ⟨h.1.later x, h.2.1.later x, h.2.2.1.later x, h.2.2.2.trans (OnlyK.of_ext x)⟩
theorem SecW.put {w W : World} {b F k : Nat} {l : BL} {cs : List Value} (h : SecW w W b F l k cs) (hb : b < F) (hF : w.heap.size ≤ F) (i : Nat) (hi : i < cs.length) (u : Value) : SecW w (W.setCell ⟨F + 1, i, none⟩ u) b F l k (cs.set i u) :=
  ⟨⟨h.1.1.far (p := ⟨F + 1, i, none⟩) (by show F + 1 ≠ b; omega) u, h.1.2⟩, h.2.1.put i hi u, h.2.2.1.far (p := ⟨F + 1, i, none⟩) (by show F + 1 ≠ F; omega) u, h.2.2.2.new (by omega) u⟩
theorem SecW.drewN {w W : World} {b F k : Nat} {l : BL} {cs : List Value} (h : SecW w W b F l k cs) (n : Nat) : SecW w (W.drewN n) b F l k cs :=
  h.later (xdNk (xr _) n)
theorem SecW.move {w W : World} {b F k : Nat} {l : BL} {cs : List Value} (h : SecW w W b F l k cs) (hb : b < F) (j : Nat) (hj : j ≤ l.length) : SecW w (W.setCell ⟨b, 1, none⟩ (.int .i64 (j : Int))) b F l j cs :=
  ⟨h.1.put j hj, h.2.1.far (p := ⟨b, 1, none⟩) (by show b ≠ F + 1; omega) _, h.2.2.1.far (p := ⟨b, 1, none⟩) (by show b ≠ F; omega) _, h.2.2.2.set _⟩
theorem SecW.is {w W : World} {b F k : Nat} {l : BL} {cs : List Value} (h : SecW w W b F l k cs) (s : BL) (hs : s.length ≤ 1000) :
    Calls Tryd.prog 40 #[.pointer (some ⟨b, 0, none⟩), sV s] W fun e w' => e = .returned (.bool (Lib.hasPrefix (l.drop k) s)) ∧ SecW w w' b F l k cs :=
  (isK b l s k W h.1 hs).mono fun _ _ ⟨he, n, hw⟩ => ⟨he, by rw [hw]; exact h.drewN n⟩
theorem SecW.take {w W : World} {b F k : Nat} {l : BL} {cs : List Value} (h : SecW w W b F l k cs) (hb : b < F) (s : BL) (hs : s.length ≤ 1000) :
    Calls Tryd.prog 27 #[.pointer (some ⟨b, 0, none⟩), sV s] W fun e w' => e = .returned (.bool (Lib.hasPrefix (l.drop k) s)) ∧ SecW w w' b F l (if Lib.hasPrefix (l.drop k) s then k + s.length else k) cs :=
  (takeK b l s k W h.1 hs).mono fun _ _ ⟨he, a, o⟩ => ⟨he, h.call hb a o⟩
theorem SecW.many {w W : World} {b F k : Nat} {l : BL} {cs : List Value} (h : SecW w W b F l k cs) (hb : b < F) (c : UInt8) (m : Nat) (hm : m ≤ 100) :
    Calls Tryd.prog 41 #[.pointer (some ⟨b, 0, none⟩), sV [c], .int .i64 (m : Int)] W fun e w' => e = .returned (.int .i64 (runF c m (l.drop k) : Nat)) ∧ SecW w w' b F l (k + runF c m (l.drop k)) cs :=
  (manyK b l c m k W h.1 hm).mono fun _ _ ⟨he, a, o⟩ => ⟨he, h.call hb a o⟩
theorem SecW.quoted {w W : World} {b F k : Nat} {l : BL} {cs : List Value} (h : SecW w W b F l k cs) (hb : b < F) :
    Calls Tryd.prog 39 #[.pointer (some ⟨b, 0, none⟩)] W fun e w' => ∃ k', SecW w w' b F l k' cs ∧ ((∃ x, quoS (l.drop k) = some x ∧ e = .returned (.tuple #[sV x.1, .bool true]) ∧ l.drop k' = x.2) ∨ (quoS (l.drop k) = none ∧ e = .returned (.tuple #[sV [], .bool false]))) :=
  (quotedK b l k W h.1).mono fun _ _ ⟨⟨k', a, q⟩, o⟩ => ⟨k', h.call hb a o, q.imp (fun ⟨x, h1, h2, h3, _⟩ => ⟨x, h1, h2, h3⟩) id⟩
theorem SecW.done {w W : World} {b F k : Nat} {l : BL} {cs : List Value} (h : SecW w W b F l k cs) (hb : b < F) (hF : w.heap.size ≤ F) (u0 u1 u2 u3 u4 u5 u6 u7 u8 : Value) :
    Vec (((((((((W.setCell ⟨F, 0, none⟩ (u0)).setCell ⟨F, 1, none⟩ (u1)).setCell ⟨F, 2, none⟩ (u2)).setCell ⟨F, 3, none⟩ (u3)).setCell ⟨F, 4, none⟩ (u4)).setCell ⟨F, 5, none⟩ (u5)).setCell ⟨F, 6, none⟩ (u6)).setCell ⟨F, 7, none⟩ (u7)).setCell ⟨F, 8, none⟩ (u8)) F [u0, u1, u2, u3, u4, u5, u6, u7, u8] ∧ AtK (((((((((W.setCell ⟨F, 0, none⟩ (u0)).setCell ⟨F, 1, none⟩ (u1)).setCell ⟨F, 2, none⟩ (u2)).setCell ⟨F, 3, none⟩ (u3)).setCell ⟨F, 4, none⟩ (u4)).setCell ⟨F, 5, none⟩ (u5)).setCell ⟨F, 6, none⟩ (u6)).setCell ⟨F, 7, none⟩ (u7)).setCell ⟨F, 8, none⟩ (u8)) b l k ∧ OnlyK b w (((((((((W.setCell ⟨F, 0, none⟩ (u0)).setCell ⟨F, 1, none⟩ (u1)).setCell ⟨F, 2, none⟩ (u2)).setCell ⟨F, 3, none⟩ (u3)).setCell ⟨F, 4, none⟩ (u4)).setCell ⟨F, 5, none⟩ (u5)).setCell ⟨F, 6, none⟩ (u6)).setCell ⟨F, 7, none⟩ (u7)).setCell ⟨F, 8, none⟩ (u8)) :=
  ⟨(((((((((h.2.2.1.put 0 (by simp) u0).put 1 (by simp) u1).put 2 (by simp) u2).put 3 (by simp) u3).put 4 (by simp) u4).put 5 (by simp) u5).put 6 (by simp) u6).put 7 (by simp) u7).put 8 (by simp) u8), ⟨(((((((((h.1.1.far (p := ⟨F, 0, none⟩) (by show F ≠ b; omega) u0).far (p := ⟨F, 1, none⟩) (by show F ≠ b; omega) u1).far (p := ⟨F, 2, none⟩) (by show F ≠ b; omega) u2).far (p := ⟨F, 3, none⟩) (by show F ≠ b; omega) u3).far (p := ⟨F, 4, none⟩) (by show F ≠ b; omega) u4).far (p := ⟨F, 5, none⟩) (by show F ≠ b; omega) u5).far (p := ⟨F, 6, none⟩) (by show F ≠ b; omega) u6).far (p := ⟨F, 7, none⟩) (by show F ≠ b; omega) u7).far (p := ⟨F, 8, none⟩) (by show F ≠ b; omega) u8), h.1.2⟩, (((((((((h.2.2.2.new hF u0).new hF u1).new hF u2).new hF u3).new hF u4).new hF u5).new hF u6).new hF u7).new hF u8)⟩

theorem drop_if (l : BL) (k n : Nat) (g : Bool) : (if g = true then (l.drop k).drop n else l.drop k) = l.drop (if g = true then k + n else k) := by
  cases g <;> simp
theorem numS_at (b l : BL) (k : Nat) {g pt : Bool} {k2 k4 wn pn mn tn : Nat} (hg : Lib.hasPrefix (l.drop k) [35, 44] = g) (hk2 : (if g = true then k + 2 else k) = k2) (hw : runF 48 9 (l.drop k2) = wn)
    (hpt : Lib.hasPrefix (l.drop (k2 + wn)) [46] = pt) (hk4 : (if pt = true then k2 + wn + 1 else k2 + wn) = k4) (hpn : (if pt = true then runF 48 9 (l.drop k4) else 0) = pn) (hmn : (if pt = true then runF 35 9 (l.drop (k4 + pn)) else 0) = mn) (htn : runF 37 3 (l.drop (k4 + pn + mn)) = tn) :
    numS b (l.drop k) = if wn = 0 then none else if pt = true ∧ pn + mn = 0 then none else (quoS (l.drop (k4 + pn + mn + tn))).map fun x => (⟨false, b, x.1, wn, pn, mn, g, tn, []⟩, x.2) := by
  unfold numS
  simp only [hg]
  rw [drop_if, hk2, hw, List.drop_drop, hpt, drop_if, hk4, hpn, List.drop_drop, hmn, List.drop_drop, htn, List.drop_drop]
theorem dateS_at (b l : BL) (k j : Nat) {T : BL} (hT : (l.drop k).takeWhile sepC = T) (hj : j = k + T.length) : dateS b (l.drop k) = if partsOK T then (quoS (l.drop j)).map fun x => (⟨false, b, x.1, 0, 0, 0, false, 0, T⟩, x.2) else none := by
  unfold dateS
  simp only [hT]
  rw [List.drop_drop, ← hj]

set_option maxRecDepth 8000 in
set_option maxHeartbeats 8000000 in
theorem sectionK (b : Nat) (l : BL) (k : Nat) (w : World) (h : AtK w b l k) :
    Calls Tryd.prog 26 #[.pointer (some ⟨b, 0, none⟩)] w fun e w' => (∃ k', AtK w' b l k' ∧ ((∃ x, secS (l.drop k) = some x ∧ e = .returned (.tuple #[.agg x.1.cells.toArray, .bool true]) ∧ l.drop k' = x.2) ∨ (secS (l.drop k) = none ∧ ∃ f : KT, e = .returned (.tuple #[.agg f.cells.toArray, .bool false])))) ∧ OnlyK b w w' := by
  have hb : b < w.heap.size := World.block_lt_of_cell? _ _ (h.1 0 _ rfl).1
  obtain ⟨F, hF⟩ : ∃ F, w.heap.size = F := ⟨_, rfl⟩
  have HF : Hid (w.heap.size = F) := hF
  have V1 := vec_made w zsK 33
  have X1 := x1 w (.cells zsK.toArray 33)
  have V2 := vec_made (w.alloc (.cells zsK.toArray 33)) zsK 33
  have X2 := x1 (w.alloc (.cells zsK.toArray 33)) (.cells zsK.toArray 33)
  rw [World.size_alloc, hF] at V2
  rw [hF] at V1 hb
  have S0 : SecW w ((w.alloc (.cells zsK.toArray 33)).alloc (.cells zsK.toArray 33)) b F l k zsK := ⟨(h.later X1).later X2, V2, V1.later X2, OnlyK.of_ext (xt X1 X2)⟩
  have hl : l.length ≤ 1000 := h.2.2
  clear V1 V2 X1 X2 h
  have HS : Hid (secS (l.drop k) = match quoS (l.drop k) with
    | none => none
    | some x => if Lib.hasPrefix x.2 [35, 44] || Lib.hasPrefix x.2 [48] then numS x.1 x.2 else dateS x.1 x.2) := rfl
  obtain ⟨SS, hSS⟩ : ∃ SS, secS (l.drop k) = SS := ⟨_, rfl⟩
  rw [hSS] at HS ⊢
  clear hSS
  go_enter Tryd.func26, Tryd.ntmps26
  go_wp2_with fail
  clear hF
  refine (S0.quoted hb).mono ?_
  rintro e w1 ⟨k1, S1, hq | hq⟩
  · obtain ⟨⟨xb, xr⟩, hx, rfl, hd1⟩ := hq
    have hd1 : l.drop k1 = xr := hd1
    rw [hx] at HS
    subst hd1
    have HS : Hid (SS = if Lib.hasPrefix (l.drop k1) [35, 44] || Lib.hasPrefix (l.drop k1) [48] then numS xb (l.drop k1) else dateS xb (l.drop k1)) := HS
    clear S0 hx
    have S2 := S1.put hb (Nat.le_of_eq HF.out) 1 (by simp) (sV xb)
    have a1 := (S1.2.1 1 _ rfl).1
    have f1 := (S1.2.1 1 _ rfl).2
    clear S1
    go_wp2_with fail
    clear a1 f1
    have I1 := S2.is [35, 44] (by decide)
    obtain ⟨g, hg⟩ : ∃ g, Lib.hasPrefix (l.drop k1) [35, 44] = g := ⟨_, rfl⟩
    rw [hg] at I1 HS
    refine I1.mono ?_
    rintro e w2 ⟨rfl, S3⟩
    clear I1 S2
    have HG : Hid (Lib.hasPrefix (l.drop k1) [35, 44] = g) := hg
    clear hg
    cases g
    · have I2 := S3.is [48] (by decide)
      obtain ⟨z, hz⟩ : ∃ z, Lib.hasPrefix (l.drop k1) [48] = z := ⟨_, rfl⟩
      rw [hz] at HS I2
      go_wp2_with fail
      refine I2.mono ?_
      rintro e w3 ⟨rfl, S30⟩
      clear I2 S3
      cases z
      · have HN : Hid (SS = dateS xb (l.drop k1)) := HS.out
        clear HS hz
        have hk1 := S30.1.2.1
        obtain ⟨c1, f1⟩ := S30.1.1 1 _ rfl
        go_wp2_with fail
        clear c1 f1
        go_loopg [] (l.length - k1) (fun gk wr => ∃ j : Nat, Hid (j + gk = l.length) ∧ Hid (SecW w wr b F l j [.bool false, sV xb, sV [], .int .i64 0, .int .i64 0, .int .i64 0, .bool false, .int .i64 0, sV []]) ∧ Hid (SeekK l k1 j sepC))
        case atStart => exact ⟨k1, by show _ = _; omega, S30, SeekK.start hk1⟩
        case round =>
          clear S30
          obtain ⟨j, HGk, HA, HSk⟩ := hrel
          have hj := HA.out.1.2.1
          have c0 : wr.cell? ⟨b, 0, none⟩ = some (.string ⟨l.toArray⟩) := (HA.out.1.1 0 _ rfl).1
          obtain ⟨c1, f1⟩ := HA.out.1.1 1 _ rfl
          obtain ⟨s, hs⟩ : ∃ s : ByteArray, (⟨l.toArray⟩ : ByteArray) = s := ⟨_, rfl⟩
          have HSL : Hid (s.data.toList = l) := by show _ = _; rw [← hs]
          have hsz := size_ofL' HSL.out
          have EX := ext_sub l k1 j
          rw [hs] at c0 EX
          clear hs
          obtain ⟨n, hn⟩ : ∃ n, l.length = n := ⟨_, rfl⟩
          have HNn : Hid (l.length = n) := hn
          rw [hn] at hj hl hk1 hsz
          clear hn
          by_cases hgo : j < n ∧ sepC (l.getD j 0) = true
          · obtain ⟨hlt, hq⟩ := hgo
            have hks : j < s.size := by omega
            have hb0 := byte_atA HSL.out hks
            have HS2 : Hid (SeekK l k1 (j + 1) sepC) := HSk.out.step (by rw [HNn.out]; exact hlt) hq
            obtain ⟨c, hcc⟩ : ∃ c, l.getD j 0 = c := ⟨_, rfl⟩
            rw [hcc] at hb0 hq
            have hb1 : ((s[j]'hks).toNat : Int) = (c.toNat : Int) := by rw [hb0]
            have hcn : c.toNat ≠ 34 ∧ c.toNat ≠ 59 := by
              refine ⟨fun e => ?_, fun e => ?_⟩
              · have : c = 34 := UInt8.toNat_inj.1 (by rw [e]; rfl)
                rw [this] at hq; cases hq
              · have : c = 59 := UInt8.toNat_inj.1 (by rw [e]; rfl)
                rw [this] at hq; cases hq
            obtain ⟨M, hM⟩ : ∃ M : Int, (c.toNat : Int) = M := ⟨_, rfl⟩
            rw [hM] at hb1
            have n1 : M ≠ 34 := by omega
            have n2 : M ≠ 59 := by omega
            have n3 : (M != 34) = true := by simpa using n1
            have n4 : (M != 59) = true := by simpa using n2
            have i2 : (j : Int) < (n : Int) := by omega
            have HP : Hid (∀ q, SecW w ((wr.drewN q).setCell ⟨b, 1, none⟩ (.int .i64 ((j : Int) + 1))) b F l (j + 1) [.bool false, sV xb, sV [], .int .i64 0, .int .i64 0, .int .i64 0, .bool false, .int .i64 0, sV []]) := fun q => by
              have := (HA.out.drewN q).move hb (j + 1) (by rw [HNn.out]; omega)
              rw [Int.natCast_add] at this
              exact this
            clear hM hcc hb0 hq hcn HSk HA EX HN
            go_wp2_with fail
            go_quiet (fail)
            go_wp2_with fail
            go_roundg (gk - 1)
            case measure => have := HGk.out; have := HNn.out; omega
            case rel => exact ⟨j + 1, by show _ = _; have := HGk.out; have := HNn.out; omega, HP.out _, HS2⟩
          · have hst : j = n ∨ sepC (l.getD j 0) = false := by
              by_cases h1 : j < n
              · right
                cases hc : sepC (l.getD j 0) with
                | false => rfl
                | true => exact absurd ⟨h1, hc⟩ hgo
              · left; omega
            obtain ⟨hT, hjT, hD⟩ := HSk.out.stop (by rw [HNn.out]; exact hst)
            have hkj := HSk.out.1
            rw [← hT] at EX
            obtain ⟨T, hTT⟩ : ∃ T, (l.drop k1).takeWhile sepC = T := ⟨_, rfl⟩
            have HT0 := dateS_at xb l k1 j hTT (by rw [hjT, hTT])
            rw [← HN.out] at HT0
            have HT0 : Hid (SS = if partsOK T then (quoS (l.drop j)).map fun x => (⟨false, xb, x.1, 0, 0, 0, false, 0, T⟩, x.2) else none) := HT0
            rw [hTT] at EX hjT
            clear hT hTT HN HSk hgo hD
            obtain ⟨X, hX⟩ : ∃ X, s.extract k1 j = X := ⟨_, rfl⟩
            rw [hX] at EX
            have hTl : T.length ≤ 1000 := by omega
            have PT : ∀ W, Calls Tryd.prog 42 #[.string X] W fun e w' => (∃ v, e = .returned (.tuple #[v, .bool (partsOK T)])) ∧ Ext W w' := fun W => by rw [EX]; exact (partsK T W hTl).mono fun _ _ ⟨⟨v, h1, _⟩, h2⟩ => ⟨⟨v, h1⟩, h2⟩
            have HX : Hid (X = ⟨T.toArray⟩) := EX
            have i1 : (k1 : Int) ≤ (j : Int) := by omega
            have i3 : (j : Int) ≤ (n : Int) := by omega
            have a8 := (HA.out.2.1 8 _ rfl).1
            have f8 := (HA.out.2.1 8 _ rfl).2
            have HP8 : Hid (∀ q, SecW w ((wr.drewN q).setCell ⟨F + 1, 8, none⟩ (.string X)) b F l j [.bool false, sV xb, sV [], .int .i64 0, .int .i64 0, .int .i64 0, .bool false, .int .i64 0, .string X]) := fun q => by
              exact (HA.out.drewN q).put hb (Nat.le_of_eq HF.out) 8 (by simp) (.string X)
            have HP9 : Hid (∀ q q2, SecW w (((wr.drewN q).setCell ⟨F + 1, 8, none⟩ (.string X)).drewN q2) b F l j [.bool false, sV xb, sV [], .int .i64 0, .int .i64 0, .int .i64 0, .bool false, .int .i64 0, .string X]) := fun q q2 => (HP8.out q).drewN q2
            obtain ⟨ok, hok⟩ : ∃ ok, partsOK T = ok := ⟨_, rfl⟩
            rw [hok] at HT0
            simp only [hok] at PT
            clear EX hjT hok HA
            have hcase : (¬ j < n) ∨ (∃ h : j < s.size, ((s[j]'h).toNat : Int) = 34) ∨ (∃ h : j < s.size, ((s[j]'h).toNat : Int) = 59) := by
              by_cases h1 : j < n
              · right
                have hks : j < s.size := by omega
                have hb0 := byte_atA HSL.out hks
                have hq : sepC (l.getD j 0) = false := by
                  rcases hst with h2 | h2
                  · omega
                  · exact h2
                rw [← hb0] at hq
                have hq2 : (s[j]'hks) = 34 ∨ (s[j]'hks) = 59 := by
                  unfold sepC at hq
                  rw [Bool.and_eq_false_iff] at hq
                  rcases hq with hq | hq
                  · left; simpa using hq
                  · right; simpa using hq
                rcases hq2 with hq2 | hq2
                · left; exact ⟨hks, by rw [hq2]; rfl⟩
                · right; exact ⟨hks, by rw [hq2]; rfl⟩
              · left; exact h1
            clear hst
            rcases hcase with hc | ⟨hks, hb1⟩ | ⟨hks, hb1⟩
            · have i2 : (n : Int) ≤ (j : Int) := by omega
              go_wp2_with fail
              go_quiet (fail)
              go_wp2_with fail
              go_region
              have S8 : SecW w ((wr.drewN (nq + 1)).setCell ⟨F + 1, 8, none⟩ (.string X)) b F l j [.bool false, sV xb, sV [], .int .i64 0, .int .i64 0, .int .i64 0, .bool false, .int .i64 0, sV T] := by
                have := HP8.out (nq + 1)
                rw [show Value.string X = sV T by rw [HX.out]] at this ⊢
                exact this
              obtain ⟨w8, hw8⟩ : ∃ w8, (wr.drewN (nq + 1)).setCell ⟨F + 1, 8, none⟩ (.string X) = w8 := ⟨_, rfl⟩
              rw [hw8] at S8 ⊢
              clear hw8 a8 f8 c0 c1 f1 HP8 HP9
              have a8 : w8.cell? ⟨F + 1, 8, none⟩ = some (.string X) := by rw [HX.out]; exact (S8.2.1 8 _ rfl).1
              go_wp2_with fail
              refine (PT _).mono ?_
              rintro e w9 ⟨⟨pv, rfl⟩, e9⟩
              have S9 := S8.later e9
              clear S8 e9 a8 PT
              cases ok
              · have HE : Hid (SS = none) := by show _ = _; rw [HT0.out]; rfl
                obtain ⟨A, VF, VR, O⟩ := id S9
                have a0 := (VF 0 _ rfl).1
                have a1 := (VF 1 _ rfl).1
                have a2 := (VF 2 _ rfl).1
                have a3 := (VF 3 _ rfl).1
                have a4 := (VF 4 _ rfl).1
                have a5 := (VF 5 _ rfl).1
                have a6 := (VF 6 _ rfl).1
                have a7 := (VF 7 _ rfl).1
                have a8 := (VF 8 _ rfl).1
                have b0 := (VR 0 _ rfl).1
                have b1 := (VR 1 _ rfl).1
                have b2 := (VR 2 _ rfl).1
                have b3 := (VR 3 _ rfl).1
                have b4 := (VR 4 _ rfl).1
                have b5 := (VR 5 _ rfl).1
                have b6 := (VR 6 _ rfl).1
                have b7 := (VR 7 _ rfl).1
                have b8 := (VR 8 _ rfl).1
                have f0 := (VR 0 _ rfl).2
                have f1 := (VR 1 _ rfl).2
                have f2 := (VR 2 _ rfl).2
                have f3 := (VR 3 _ rfl).2
                have f4 := (VR 4 _ rfl).2
                have f5 := (VR 5 _ rfl).2
                have f6 := (VR 6 _ rfl).2
                have f7 := (VR 7 _ rfl).2
                have f8 := (VR 8 _ rfl).2
                obtain ⟨D, AD, OD⟩ := S9.done hb (Nat.le_of_eq HF.out) (.bool false) (sV xb) (sV []) (.int .i64 0) (.int .i64 0) (.int .i64 0) (.bool false) (.int .i64 0) (sV T)
                have d0 := (D 0 _ rfl).1
                have d1 := (D 1 _ rfl).1
                have d2 := (D 2 _ rfl).1
                have d3 := (D 3 _ rfl).1
                have d4 := (D 4 _ rfl).1
                have d5 := (D 5 _ rfl).1
                have d6 := (D 6 _ rfl).1
                have d7 := (D 7 _ rfl).1
                have d8 := (D 8 _ rfl).1
                clear VF VR A O D S9
                go_wp2_with fail
                exact bodyPost_ret (v := .tuple #[.agg #[.bool false, sV xb, sV [], .int .i64 0, .int .i64 0, .int .i64 0, .bool false, .int .i64 0, sV T], .bool false]) (by simp [results, Tryd.results26, go_sem, d0, d1, d2, d3, d4, d5, d6, d7, d8]) rfl ⟨⟨j, AD, .inr ⟨HE.out, ⟨false, xb, [], 0, 0, 0, false, 0, T⟩, rfl⟩⟩, OD⟩
              · have HT : Hid (SS = (quoS (l.drop j)).map fun x => (⟨false, xb, x.1, 0, 0, 0, false, 0, T⟩, x.2)) := by show _ = _; rw [HT0.out]; rfl
                have Q := S9.quoted hb
                clear S9
                go_wp2_with fail
                refine Q.mono ?_
                rintro e w11 ⟨kq, S12, hq | hq⟩
                · obtain ⟨⟨ya, yr⟩, hy, rfl, hdq⟩ := hq
                  have HE : Hid (SS = some ((⟨false, xb, ya, 0, 0, 0, false, 0, T⟩ : KT), yr)) := by show _ = _; rw [HT.out, hy]; rfl
                  have HD : Hid (l.drop kq = yr) := hdq
                  clear HT hy hdq Q
                  have S13 := S12.put hb (Nat.le_of_eq HF.out) 2 (by simp) (sV ya)
                  have a2 := (S12.2.1 2 _ rfl).1
                  have f2 := (S12.2.1 2 _ rfl).2
                  clear S12
                  have g2 := a2
                  have h2 := f2
                  clear a2 f2
                  obtain ⟨A, VF, VR, O⟩ := id S13
                  have a0 := (VF 0 _ rfl).1
                  have a1 := (VF 1 _ rfl).1
                  have a2 := (VF 2 _ rfl).1
                  have a3 := (VF 3 _ rfl).1
                  have a4 := (VF 4 _ rfl).1
                  have a5 := (VF 5 _ rfl).1
                  have a6 := (VF 6 _ rfl).1
                  have a7 := (VF 7 _ rfl).1
                  have a8 := (VF 8 _ rfl).1
                  have b0 := (VR 0 _ rfl).1
                  have b1 := (VR 1 _ rfl).1
                  have b2 := (VR 2 _ rfl).1
                  have b3 := (VR 3 _ rfl).1
                  have b4 := (VR 4 _ rfl).1
                  have b5 := (VR 5 _ rfl).1
                  have b6 := (VR 6 _ rfl).1
                  have b7 := (VR 7 _ rfl).1
                  have b8 := (VR 8 _ rfl).1
                  have f0 := (VR 0 _ rfl).2
                  have f1 := (VR 1 _ rfl).2
                  have f2 := (VR 2 _ rfl).2
                  have f3 := (VR 3 _ rfl).2
                  have f4 := (VR 4 _ rfl).2
                  have f5 := (VR 5 _ rfl).2
                  have f6 := (VR 6 _ rfl).2
                  have f7 := (VR 7 _ rfl).2
                  have f8 := (VR 8 _ rfl).2
                  obtain ⟨D, AD, OD⟩ := S13.done hb (Nat.le_of_eq HF.out) (.bool false) (sV xb) (sV ya) (.int .i64 0) (.int .i64 0) (.int .i64 0) (.bool false) (.int .i64 0) (sV T)
                  have d0 := (D 0 _ rfl).1
                  have d1 := (D 1 _ rfl).1
                  have d2 := (D 2 _ rfl).1
                  have d3 := (D 3 _ rfl).1
                  have d4 := (D 4 _ rfl).1
                  have d5 := (D 5 _ rfl).1
                  have d6 := (D 6 _ rfl).1
                  have d7 := (D 7 _ rfl).1
                  have d8 := (D 8 _ rfl).1
                  clear VF VR A O D S13
                  go_wp2_with fail
                  exact bodyPost_ret (v := .tuple #[.agg #[.bool false, sV xb, sV ya, .int .i64 0, .int .i64 0, .int .i64 0, .bool false, .int .i64 0, sV T], .bool true]) (by simp [results, Tryd.results26, go_sem, d0, d1, d2, d3, d4, d5, d6, d7, d8]) rfl ⟨⟨kq, AD, .inl ⟨_, HE.out, rfl, HD.out⟩⟩, OD⟩
                · obtain ⟨hy, rfl⟩ := hq
                  have HE : Hid (SS = none) := by show _ = _; rw [HT.out, hy]; rfl
                  clear HT hy Q
                  have S14 := S12.put hb (Nat.le_of_eq HF.out) 2 (by simp) (sV [])
                  have a2 := (S12.2.1 2 _ rfl).1
                  have f2 := (S12.2.1 2 _ rfl).2
                  clear S12
                  have g2 := a2
                  have h2 := f2
                  clear a2 f2
                  obtain ⟨A, VF, VR, O⟩ := id S14
                  have a0 := (VF 0 _ rfl).1
                  have a1 := (VF 1 _ rfl).1
                  have a2 := (VF 2 _ rfl).1
                  have a3 := (VF 3 _ rfl).1
                  have a4 := (VF 4 _ rfl).1
                  have a5 := (VF 5 _ rfl).1
                  have a6 := (VF 6 _ rfl).1
                  have a7 := (VF 7 _ rfl).1
                  have a8 := (VF 8 _ rfl).1
                  have b0 := (VR 0 _ rfl).1
                  have b1 := (VR 1 _ rfl).1
                  have b2 := (VR 2 _ rfl).1
                  have b3 := (VR 3 _ rfl).1
                  have b4 := (VR 4 _ rfl).1
                  have b5 := (VR 5 _ rfl).1
                  have b6 := (VR 6 _ rfl).1
                  have b7 := (VR 7 _ rfl).1
                  have b8 := (VR 8 _ rfl).1
                  have f0 := (VR 0 _ rfl).2
                  have f1 := (VR 1 _ rfl).2
                  have f2 := (VR 2 _ rfl).2
                  have f3 := (VR 3 _ rfl).2
                  have f4 := (VR 4 _ rfl).2
                  have f5 := (VR 5 _ rfl).2
                  have f6 := (VR 6 _ rfl).2
                  have f7 := (VR 7 _ rfl).2
                  have f8 := (VR 8 _ rfl).2
                  obtain ⟨D, AD, OD⟩ := S14.done hb (Nat.le_of_eq HF.out) (.bool false) (sV xb) (sV []) (.int .i64 0) (.int .i64 0) (.int .i64 0) (.bool false) (.int .i64 0) (sV T)
                  have d0 := (D 0 _ rfl).1
                  have d1 := (D 1 _ rfl).1
                  have d2 := (D 2 _ rfl).1
                  have d3 := (D 3 _ rfl).1
                  have d4 := (D 4 _ rfl).1
                  have d5 := (D 5 _ rfl).1
                  have d6 := (D 6 _ rfl).1
                  have d7 := (D 7 _ rfl).1
                  have d8 := (D 8 _ rfl).1
                  clear VF VR A O D S14
                  go_wp2_with fail
                  exact bodyPost_ret (v := .tuple #[.agg #[.bool false, sV xb, sV [], .int .i64 0, .int .i64 0, .int .i64 0, .bool false, .int .i64 0, sV T], .bool false]) (by simp [results, Tryd.results26, go_sem, d0, d1, d2, d3, d4, d5, d6, d7, d8]) rfl ⟨⟨kq, AD, .inr ⟨HE.out, (⟨false, xb, [], 0, 0, 0, false, 0, T⟩ : KT), rfl⟩⟩, OD⟩
            · have i2 : (j : Int) < (n : Int) := by omega
              have i5 : j < n := by omega
              go_wp2_with fail
              go_quiet (fail)
              go_wp2_with fail
              go_region
              have S8 : SecW w ((wr.drewN (nq + 1)).setCell ⟨F + 1, 8, none⟩ (.string X)) b F l j [.bool false, sV xb, sV [], .int .i64 0, .int .i64 0, .int .i64 0, .bool false, .int .i64 0, sV T] := by
                have := HP8.out (nq + 1)
                rw [show Value.string X = sV T by rw [HX.out]] at this ⊢
                exact this
              obtain ⟨w8, hw8⟩ : ∃ w8, (wr.drewN (nq + 1)).setCell ⟨F + 1, 8, none⟩ (.string X) = w8 := ⟨_, rfl⟩
              rw [hw8] at S8 ⊢
              clear hw8 a8 f8 c0 c1 f1 HP8 HP9
              have a8 : w8.cell? ⟨F + 1, 8, none⟩ = some (.string X) := by rw [HX.out]; exact (S8.2.1 8 _ rfl).1
              go_wp2_with fail
              refine (PT _).mono ?_
              rintro e w9 ⟨⟨pv, rfl⟩, e9⟩
              have S9 := S8.later e9
              clear S8 e9 a8 PT
              cases ok
              · have HE : Hid (SS = none) := by show _ = _; rw [HT0.out]; rfl
                obtain ⟨A, VF, VR, O⟩ := id S9
                have a0 := (VF 0 _ rfl).1
                have a1 := (VF 1 _ rfl).1
                have a2 := (VF 2 _ rfl).1
                have a3 := (VF 3 _ rfl).1
                have a4 := (VF 4 _ rfl).1
                have a5 := (VF 5 _ rfl).1
                have a6 := (VF 6 _ rfl).1
                have a7 := (VF 7 _ rfl).1
                have a8 := (VF 8 _ rfl).1
                have b0 := (VR 0 _ rfl).1
                have b1 := (VR 1 _ rfl).1
                have b2 := (VR 2 _ rfl).1
                have b3 := (VR 3 _ rfl).1
                have b4 := (VR 4 _ rfl).1
                have b5 := (VR 5 _ rfl).1
                have b6 := (VR 6 _ rfl).1
                have b7 := (VR 7 _ rfl).1
                have b8 := (VR 8 _ rfl).1
                have f0 := (VR 0 _ rfl).2
                have f1 := (VR 1 _ rfl).2
                have f2 := (VR 2 _ rfl).2
                have f3 := (VR 3 _ rfl).2
                have f4 := (VR 4 _ rfl).2
                have f5 := (VR 5 _ rfl).2
                have f6 := (VR 6 _ rfl).2
                have f7 := (VR 7 _ rfl).2
                have f8 := (VR 8 _ rfl).2
                obtain ⟨D, AD, OD⟩ := S9.done hb (Nat.le_of_eq HF.out) (.bool false) (sV xb) (sV []) (.int .i64 0) (.int .i64 0) (.int .i64 0) (.bool false) (.int .i64 0) (sV T)
                have d0 := (D 0 _ rfl).1
                have d1 := (D 1 _ rfl).1
                have d2 := (D 2 _ rfl).1
                have d3 := (D 3 _ rfl).1
                have d4 := (D 4 _ rfl).1
                have d5 := (D 5 _ rfl).1
                have d6 := (D 6 _ rfl).1
                have d7 := (D 7 _ rfl).1
                have d8 := (D 8 _ rfl).1
                clear VF VR A O D S9
                go_wp2_with fail
                exact bodyPost_ret (v := .tuple #[.agg #[.bool false, sV xb, sV [], .int .i64 0, .int .i64 0, .int .i64 0, .bool false, .int .i64 0, sV T], .bool false]) (by simp [results, Tryd.results26, go_sem, d0, d1, d2, d3, d4, d5, d6, d7, d8]) rfl ⟨⟨j, AD, .inr ⟨HE.out, ⟨false, xb, [], 0, 0, 0, false, 0, T⟩, rfl⟩⟩, OD⟩
              · have HT : Hid (SS = (quoS (l.drop j)).map fun x => (⟨false, xb, x.1, 0, 0, 0, false, 0, T⟩, x.2)) := by show _ = _; rw [HT0.out]; rfl
                have Q := S9.quoted hb
                clear S9
                go_wp2_with fail
                refine Q.mono ?_
                rintro e w15 ⟨kq, S16, hq | hq⟩
                · obtain ⟨⟨ya, yr⟩, hy, rfl, hdq⟩ := hq
                  have HE : Hid (SS = some ((⟨false, xb, ya, 0, 0, 0, false, 0, T⟩ : KT), yr)) := by show _ = _; rw [HT.out, hy]; rfl
                  have HD : Hid (l.drop kq = yr) := hdq
                  clear HT hy hdq Q
                  have S17 := S16.put hb (Nat.le_of_eq HF.out) 2 (by simp) (sV ya)
                  have a2 := (S16.2.1 2 _ rfl).1
                  have f2 := (S16.2.1 2 _ rfl).2
                  clear S16
                  have g2 := a2
                  have h2 := f2
                  clear a2 f2
                  obtain ⟨A, VF, VR, O⟩ := id S17
                  have a0 := (VF 0 _ rfl).1
                  have a1 := (VF 1 _ rfl).1
                  have a2 := (VF 2 _ rfl).1
                  have a3 := (VF 3 _ rfl).1
                  have a4 := (VF 4 _ rfl).1
                  have a5 := (VF 5 _ rfl).1
                  have a6 := (VF 6 _ rfl).1
                  have a7 := (VF 7 _ rfl).1
                  have a8 := (VF 8 _ rfl).1
                  have b0 := (VR 0 _ rfl).1
                  have b1 := (VR 1 _ rfl).1
                  have b2 := (VR 2 _ rfl).1
                  have b3 := (VR 3 _ rfl).1
                  have b4 := (VR 4 _ rfl).1
                  have b5 := (VR 5 _ rfl).1
                  have b6 := (VR 6 _ rfl).1
                  have b7 := (VR 7 _ rfl).1
                  have b8 := (VR 8 _ rfl).1
                  have f0 := (VR 0 _ rfl).2
                  have f1 := (VR 1 _ rfl).2
                  have f2 := (VR 2 _ rfl).2
                  have f3 := (VR 3 _ rfl).2
                  have f4 := (VR 4 _ rfl).2
                  have f5 := (VR 5 _ rfl).2
                  have f6 := (VR 6 _ rfl).2
                  have f7 := (VR 7 _ rfl).2
                  have f8 := (VR 8 _ rfl).2
                  obtain ⟨D, AD, OD⟩ := S17.done hb (Nat.le_of_eq HF.out) (.bool false) (sV xb) (sV ya) (.int .i64 0) (.int .i64 0) (.int .i64 0) (.bool false) (.int .i64 0) (sV T)
                  have d0 := (D 0 _ rfl).1
                  have d1 := (D 1 _ rfl).1
                  have d2 := (D 2 _ rfl).1
                  have d3 := (D 3 _ rfl).1
                  have d4 := (D 4 _ rfl).1
                  have d5 := (D 5 _ rfl).1
                  have d6 := (D 6 _ rfl).1
                  have d7 := (D 7 _ rfl).1
                  have d8 := (D 8 _ rfl).1
                  clear VF VR A O D S17
                  go_wp2_with fail
                  exact bodyPost_ret (v := .tuple #[.agg #[.bool false, sV xb, sV ya, .int .i64 0, .int .i64 0, .int .i64 0, .bool false, .int .i64 0, sV T], .bool true]) (by simp [results, Tryd.results26, go_sem, d0, d1, d2, d3, d4, d5, d6, d7, d8]) rfl ⟨⟨kq, AD, .inl ⟨_, HE.out, rfl, HD.out⟩⟩, OD⟩
                · obtain ⟨hy, rfl⟩ := hq
                  have HE : Hid (SS = none) := by show _ = _; rw [HT.out, hy]; rfl
                  clear HT hy Q
                  have S18 := S16.put hb (Nat.le_of_eq HF.out) 2 (by simp) (sV [])
                  have a2 := (S16.2.1 2 _ rfl).1
                  have f2 := (S16.2.1 2 _ rfl).2
                  clear S16
                  have g2 := a2
                  have h2 := f2
                  clear a2 f2
                  obtain ⟨A, VF, VR, O⟩ := id S18
                  have a0 := (VF 0 _ rfl).1
                  have a1 := (VF 1 _ rfl).1
                  have a2 := (VF 2 _ rfl).1
                  have a3 := (VF 3 _ rfl).1
                  have a4 := (VF 4 _ rfl).1
                  have a5 := (VF 5 _ rfl).1
                  have a6 := (VF 6 _ rfl).1
                  have a7 := (VF 7 _ rfl).1
                  have a8 := (VF 8 _ rfl).1
                  have b0 := (VR 0 _ rfl).1
                  have b1 := (VR 1 _ rfl).1
                  have b2 := (VR 2 _ rfl).1
                  have b3 := (VR 3 _ rfl).1
                  have b4 := (VR 4 _ rfl).1
                  have b5 := (VR 5 _ rfl).1
                  have b6 := (VR 6 _ rfl).1
                  have b7 := (VR 7 _ rfl).1
                  have b8 := (VR 8 _ rfl).1
                  have f0 := (VR 0 _ rfl).2
                  have f1 := (VR 1 _ rfl).2
                  have f2 := (VR 2 _ rfl).2
                  have f3 := (VR 3 _ rfl).2
                  have f4 := (VR 4 _ rfl).2
                  have f5 := (VR 5 _ rfl).2
                  have f6 := (VR 6 _ rfl).2
                  have f7 := (VR 7 _ rfl).2
                  have f8 := (VR 8 _ rfl).2
                  obtain ⟨D, AD, OD⟩ := S18.done hb (Nat.le_of_eq HF.out) (.bool false) (sV xb) (sV []) (.int .i64 0) (.int .i64 0) (.int .i64 0) (.bool false) (.int .i64 0) (sV T)
                  have d0 := (D 0 _ rfl).1
                  have d1 := (D 1 _ rfl).1
                  have d2 := (D 2 _ rfl).1
                  have d3 := (D 3 _ rfl).1
                  have d4 := (D 4 _ rfl).1
                  have d5 := (D 5 _ rfl).1
                  have d6 := (D 6 _ rfl).1
                  have d7 := (D 7 _ rfl).1
                  have d8 := (D 8 _ rfl).1
                  clear VF VR A O D S18
                  go_wp2_with fail
                  exact bodyPost_ret (v := .tuple #[.agg #[.bool false, sV xb, sV [], .int .i64 0, .int .i64 0, .int .i64 0, .bool false, .int .i64 0, sV T], .bool false]) (by simp [results, Tryd.results26, go_sem, d0, d1, d2, d3, d4, d5, d6, d7, d8]) rfl ⟨⟨kq, AD, .inr ⟨HE.out, (⟨false, xb, [], 0, 0, 0, false, 0, T⟩ : KT), rfl⟩⟩, OD⟩
            · have i2 : (j : Int) < (n : Int) := by omega
              have i5 : j < n := by omega
              go_wp2_with fail
              go_quiet (fail)
              go_wp2_with fail
              go_region
              have S8 : SecW w ((wr.drewN (nq + 1)).setCell ⟨F + 1, 8, none⟩ (.string X)) b F l j [.bool false, sV xb, sV [], .int .i64 0, .int .i64 0, .int .i64 0, .bool false, .int .i64 0, sV T] := by
                have := HP8.out (nq + 1)
                rw [show Value.string X = sV T by rw [HX.out]] at this ⊢
                exact this
              obtain ⟨w8, hw8⟩ : ∃ w8, (wr.drewN (nq + 1)).setCell ⟨F + 1, 8, none⟩ (.string X) = w8 := ⟨_, rfl⟩
              rw [hw8] at S8 ⊢
              clear hw8 a8 f8 c0 c1 f1 HP8 HP9
              have a8 : w8.cell? ⟨F + 1, 8, none⟩ = some (.string X) := by rw [HX.out]; exact (S8.2.1 8 _ rfl).1
              go_wp2_with fail
              refine (PT _).mono ?_
              rintro e w9 ⟨⟨pv, rfl⟩, e9⟩
              have S9 := S8.later e9
              clear S8 e9 a8 PT
              cases ok
              · have HE : Hid (SS = none) := by show _ = _; rw [HT0.out]; rfl
                obtain ⟨A, VF, VR, O⟩ := id S9
                have a0 := (VF 0 _ rfl).1
                have a1 := (VF 1 _ rfl).1
                have a2 := (VF 2 _ rfl).1
                have a3 := (VF 3 _ rfl).1
                have a4 := (VF 4 _ rfl).1
                have a5 := (VF 5 _ rfl).1
                have a6 := (VF 6 _ rfl).1
                have a7 := (VF 7 _ rfl).1
                have a8 := (VF 8 _ rfl).1
                have b0 := (VR 0 _ rfl).1
                have b1 := (VR 1 _ rfl).1
                have b2 := (VR 2 _ rfl).1
                have b3 := (VR 3 _ rfl).1
                have b4 := (VR 4 _ rfl).1
                have b5 := (VR 5 _ rfl).1
                have b6 := (VR 6 _ rfl).1
                have b7 := (VR 7 _ rfl).1
                have b8 := (VR 8 _ rfl).1
                have f0 := (VR 0 _ rfl).2
                have f1 := (VR 1 _ rfl).2
                have f2 := (VR 2 _ rfl).2
                have f3 := (VR 3 _ rfl).2
                have f4 := (VR 4 _ rfl).2
                have f5 := (VR 5 _ rfl).2
                have f6 := (VR 6 _ rfl).2
                have f7 := (VR 7 _ rfl).2
                have f8 := (VR 8 _ rfl).2
                obtain ⟨D, AD, OD⟩ := S9.done hb (Nat.le_of_eq HF.out) (.bool false) (sV xb) (sV []) (.int .i64 0) (.int .i64 0) (.int .i64 0) (.bool false) (.int .i64 0) (sV T)
                have d0 := (D 0 _ rfl).1
                have d1 := (D 1 _ rfl).1
                have d2 := (D 2 _ rfl).1
                have d3 := (D 3 _ rfl).1
                have d4 := (D 4 _ rfl).1
                have d5 := (D 5 _ rfl).1
                have d6 := (D 6 _ rfl).1
                have d7 := (D 7 _ rfl).1
                have d8 := (D 8 _ rfl).1
                clear VF VR A O D S9
                go_wp2_with fail
                exact bodyPost_ret (v := .tuple #[.agg #[.bool false, sV xb, sV [], .int .i64 0, .int .i64 0, .int .i64 0, .bool false, .int .i64 0, sV T], .bool false]) (by simp [results, Tryd.results26, go_sem, d0, d1, d2, d3, d4, d5, d6, d7, d8]) rfl ⟨⟨j, AD, .inr ⟨HE.out, ⟨false, xb, [], 0, 0, 0, false, 0, T⟩, rfl⟩⟩, OD⟩
              · have HT : Hid (SS = (quoS (l.drop j)).map fun x => (⟨false, xb, x.1, 0, 0, 0, false, 0, T⟩, x.2)) := by show _ = _; rw [HT0.out]; rfl
                have Q := S9.quoted hb
                clear S9
                go_wp2_with fail
                refine Q.mono ?_
                rintro e w19 ⟨kq, S20, hq | hq⟩
                · obtain ⟨⟨ya, yr⟩, hy, rfl, hdq⟩ := hq
                  have HE : Hid (SS = some ((⟨false, xb, ya, 0, 0, 0, false, 0, T⟩ : KT), yr)) := by show _ = _; rw [HT.out, hy]; rfl
                  have HD : Hid (l.drop kq = yr) := hdq
                  clear HT hy hdq Q
                  have S21 := S20.put hb (Nat.le_of_eq HF.out) 2 (by simp) (sV ya)
                  have a2 := (S20.2.1 2 _ rfl).1
                  have f2 := (S20.2.1 2 _ rfl).2
                  clear S20
                  have g2 := a2
                  have h2 := f2
                  clear a2 f2
                  obtain ⟨A, VF, VR, O⟩ := id S21
                  have a0 := (VF 0 _ rfl).1
                  have a1 := (VF 1 _ rfl).1
                  have a2 := (VF 2 _ rfl).1
                  have a3 := (VF 3 _ rfl).1
                  have a4 := (VF 4 _ rfl).1
                  have a5 := (VF 5 _ rfl).1
                  have a6 := (VF 6 _ rfl).1
                  have a7 := (VF 7 _ rfl).1
                  have a8 := (VF 8 _ rfl).1
                  have b0 := (VR 0 _ rfl).1
                  have b1 := (VR 1 _ rfl).1
                  have b2 := (VR 2 _ rfl).1
                  have b3 := (VR 3 _ rfl).1
                  have b4 := (VR 4 _ rfl).1
                  have b5 := (VR 5 _ rfl).1
                  have b6 := (VR 6 _ rfl).1
                  have b7 := (VR 7 _ rfl).1
                  have b8 := (VR 8 _ rfl).1
                  have f0 := (VR 0 _ rfl).2
                  have f1 := (VR 1 _ rfl).2
                  have f2 := (VR 2 _ rfl).2
                  have f3 := (VR 3 _ rfl).2
                  have f4 := (VR 4 _ rfl).2
                  have f5 := (VR 5 _ rfl).2
                  have f6 := (VR 6 _ rfl).2
                  have f7 := (VR 7 _ rfl).2
                  have f8 := (VR 8 _ rfl).2
                  obtain ⟨D, AD, OD⟩ := S21.done hb (Nat.le_of_eq HF.out) (.bool false) (sV xb) (sV ya) (.int .i64 0) (.int .i64 0) (.int .i64 0) (.bool false) (.int .i64 0) (sV T)
                  have d0 := (D 0 _ rfl).1
                  have d1 := (D 1 _ rfl).1
                  have d2 := (D 2 _ rfl).1
                  have d3 := (D 3 _ rfl).1
                  have d4 := (D 4 _ rfl).1
                  have d5 := (D 5 _ rfl).1
                  have d6 := (D 6 _ rfl).1
                  have d7 := (D 7 _ rfl).1
                  have d8 := (D 8 _ rfl).1
                  clear VF VR A O D S21
                  go_wp2_with fail
                  exact bodyPost_ret (v := .tuple #[.agg #[.bool false, sV xb, sV ya, .int .i64 0, .int .i64 0, .int .i64 0, .bool false, .int .i64 0, sV T], .bool true]) (by simp [results, Tryd.results26, go_sem, d0, d1, d2, d3, d4, d5, d6, d7, d8]) rfl ⟨⟨kq, AD, .inl ⟨_, HE.out, rfl, HD.out⟩⟩, OD⟩
                · obtain ⟨hy, rfl⟩ := hq
                  have HE : Hid (SS = none) := by show _ = _; rw [HT.out, hy]; rfl
                  clear HT hy Q
                  have S22 := S20.put hb (Nat.le_of_eq HF.out) 2 (by simp) (sV [])
                  have a2 := (S20.2.1 2 _ rfl).1
                  have f2 := (S20.2.1 2 _ rfl).2
                  clear S20
                  have g2 := a2
                  have h2 := f2
                  clear a2 f2
                  obtain ⟨A, VF, VR, O⟩ := id S22
                  have a0 := (VF 0 _ rfl).1
                  have a1 := (VF 1 _ rfl).1
                  have a2 := (VF 2 _ rfl).1
                  have a3 := (VF 3 _ rfl).1
                  have a4 := (VF 4 _ rfl).1
                  have a5 := (VF 5 _ rfl).1
                  have a6 := (VF 6 _ rfl).1
                  have a7 := (VF 7 _ rfl).1
                  have a8 := (VF 8 _ rfl).1
                  have b0 := (VR 0 _ rfl).1
                  have b1 := (VR 1 _ rfl).1
                  have b2 := (VR 2 _ rfl).1
                  have b3 := (VR 3 _ rfl).1
                  have b4 := (VR 4 _ rfl).1
                  have b5 := (VR 5 _ rfl).1
                  have b6 := (VR 6 _ rfl).1
                  have b7 := (VR 7 _ rfl).1
                  have b8 := (VR 8 _ rfl).1
                  have f0 := (VR 0 _ rfl).2
                  have f1 := (VR 1 _ rfl).2
                  have f2 := (VR 2 _ rfl).2
                  have f3 := (VR 3 _ rfl).2
                  have f4 := (VR 4 _ rfl).2
                  have f5 := (VR 5 _ rfl).2
                  have f6 := (VR 6 _ rfl).2
                  have f7 := (VR 7 _ rfl).2
                  have f8 := (VR 8 _ rfl).2
                  obtain ⟨D, AD, OD⟩ := S22.done hb (Nat.le_of_eq HF.out) (.bool false) (sV xb) (sV []) (.int .i64 0) (.int .i64 0) (.int .i64 0) (.bool false) (.int .i64 0) (sV T)
                  have d0 := (D 0 _ rfl).1
                  have d1 := (D 1 _ rfl).1
                  have d2 := (D 2 _ rfl).1
                  have d3 := (D 3 _ rfl).1
                  have d4 := (D 4 _ rfl).1
                  have d5 := (D 5 _ rfl).1
                  have d6 := (D 6 _ rfl).1
                  have d7 := (D 7 _ rfl).1
                  have d8 := (D 8 _ rfl).1
                  clear VF VR A O D S22
                  go_wp2_with fail
                  exact bodyPost_ret (v := .tuple #[.agg #[.bool false, sV xb, sV [], .int .i64 0, .int .i64 0, .int .i64 0, .bool false, .int .i64 0, sV T], .bool false]) (by simp [results, Tryd.results26, go_sem, d0, d1, d2, d3, d4, d5, d6, d7, d8]) rfl ⟨⟨kq, AD, .inr ⟨HE.out, (⟨false, xb, [], 0, 0, 0, false, 0, T⟩ : KT), rfl⟩⟩, OD⟩
      · have HN : Hid (SS = numS xb (l.drop k1)) := HS.out
        clear HS hz
        obtain ⟨k2, hk2⟩ : ∃ k2, (if (false : Bool) = true then k1 + 2 else k1) = k2 := ⟨_, rfl⟩
        obtain ⟨wn, hwn⟩ : ∃ wn, runF 48 9 (l.drop k2) = wn := ⟨_, rfl⟩
        have bw : wn ≤ 9 := by rw [← hwn]; exact run_le _ _ _
        have HK2 : Hid ((if (false : Bool) = true then k1 + 2 else k1) = k2) := hk2
        clear hk2
        have M26 : Calls Tryd.prog 27 #[.pointer (some ⟨b, 0, none⟩), sV [35, 44]] w3 fun e w' => e = .returned (.bool false) ∧ SecW w w' b F l (k2) [.bool false, sV xb, sV [], .int .i64 0, .int .i64 0, .int .i64 0, .bool false, .int .i64 0, sV []] := by
          have q := S30.take hb [35, 44] (by decide)
          rw [HG.out] at q
          rw [← HK2.out]
          exact q
        clear S30
        go_wp2_with fail
        refine M26.mono ?_
        rintro e w23 ⟨rfl, S24⟩
        clear M26
        have S25 := S24.put hb (Nat.le_of_eq HF.out) 6 (by simp) (.bool false)
        have a6 := (S24.2.1 6 _ rfl).1
        have f6 := (S24.2.1 6 _ rfl).2
        clear S24
        have aa := a6
        have ff := f6
        clear a6 f6
        rcases Nat.eq_zero_or_pos wn with hw0 | hw0
        · subst hw0
          have HE : Hid (SS = none) := by show _ = _; rw [HN.out, numS_at xb l k1 HG.out HK2.out hwn rfl rfl rfl rfl rfl]; rfl
          have M30 : Calls Tryd.prog 41 #[.pointer (some ⟨b, 0, none⟩), sV [48], .int .i64 9] (w23.setCell ⟨F + 1, 6, none⟩ (.bool false)) fun e w' => e = .returned (.int .i64 0) ∧ SecW w w' b F l (k2 + 0) [.bool false, sV xb, sV [], .int .i64 0, .int .i64 0, .int .i64 0, .bool false, .int .i64 0, sV []] := by
            have q := S25.many hb 48 9 (by decide)
            rw [hwn] at q
            exact q
          clear S25
          go_wp2_with fail
          refine M30.mono ?_
          rintro e w27 ⟨rfl, S28⟩
          clear M30
          clear aa ff
          have S29 := S28.put hb (Nat.le_of_eq HF.out) 3 (by simp) (.int .i64 0)
          have a3 := (S28.2.1 3 _ rfl).1
          have f3 := (S28.2.1 3 _ rfl).2
          clear S28
          have g3 := a3
          have h3 := f3
          clear a3 f3
          obtain ⟨A, VF, VR, O⟩ := id S29
          have a0 := (VF 0 _ rfl).1
          have a1 := (VF 1 _ rfl).1
          have a2 := (VF 2 _ rfl).1
          have a3 := (VF 3 _ rfl).1
          have a4 := (VF 4 _ rfl).1
          have a5 := (VF 5 _ rfl).1
          have a6 := (VF 6 _ rfl).1
          have a7 := (VF 7 _ rfl).1
          have a8 := (VF 8 _ rfl).1
          have b0 := (VR 0 _ rfl).1
          have b1 := (VR 1 _ rfl).1
          have b2 := (VR 2 _ rfl).1
          have b3 := (VR 3 _ rfl).1
          have b4 := (VR 4 _ rfl).1
          have b5 := (VR 5 _ rfl).1
          have b6 := (VR 6 _ rfl).1
          have b7 := (VR 7 _ rfl).1
          have b8 := (VR 8 _ rfl).1
          have f0 := (VR 0 _ rfl).2
          have f1 := (VR 1 _ rfl).2
          have f2 := (VR 2 _ rfl).2
          have f3 := (VR 3 _ rfl).2
          have f4 := (VR 4 _ rfl).2
          have f5 := (VR 5 _ rfl).2
          have f6 := (VR 6 _ rfl).2
          have f7 := (VR 7 _ rfl).2
          have f8 := (VR 8 _ rfl).2
          obtain ⟨D, AD, OD⟩ := S29.done hb (Nat.le_of_eq HF.out) (.bool false) (sV xb) (sV []) (.int .i64 0) (.int .i64 0) (.int .i64 0) (.bool false) (.int .i64 0) (sV [])
          have d0 := (D 0 _ rfl).1
          have d1 := (D 1 _ rfl).1
          have d2 := (D 2 _ rfl).1
          have d3 := (D 3 _ rfl).1
          have d4 := (D 4 _ rfl).1
          have d5 := (D 5 _ rfl).1
          have d6 := (D 6 _ rfl).1
          have d7 := (D 7 _ rfl).1
          have d8 := (D 8 _ rfl).1
          clear VF VR A O D S29
          go_wp2_with fail
          exact bodyPost_ret (v := .tuple #[.agg #[.bool false, sV xb, sV [], .int .i64 0, .int .i64 0, .int .i64 0, .bool false, .int .i64 0, sV []], .bool false]) (by simp [results, Tryd.results26, go_sem, d0, d1, d2, d3, d4, d5, d6, d7, d8]) rfl ⟨⟨k2 + 0, AD, .inr ⟨HE.out, ⟨false, xb, [], 0, 0, 0, false, 0, []⟩, rfl⟩⟩, OD⟩
        · have iw : 1 ≤ ((wn : Nat) : Int) := by omega
          obtain ⟨pt, hpt⟩ : ∃ pt, Lib.hasPrefix (l.drop (k2 + wn)) [46] = pt := ⟨_, rfl⟩
          have M34 : Calls Tryd.prog 41 #[.pointer (some ⟨b, 0, none⟩), sV [48], .int .i64 9] (w23.setCell ⟨F + 1, 6, none⟩ (.bool false)) fun e w' => e = .returned (.int .i64 ((wn : Nat) : Int)) ∧ SecW w w' b F l (k2 + wn) [.bool false, sV xb, sV [], .int .i64 0, .int .i64 0, .int .i64 0, .bool false, .int .i64 0, sV []] := by
            have q := S25.many hb 48 9 (by decide)
            rw [hwn] at q
            exact q
          clear S25
          go_wp2_with fail
          refine M34.mono ?_
          rintro e w31 ⟨rfl, S32⟩
          clear M34
          clear aa ff
          have S33 := S32.put hb (Nat.le_of_eq HF.out) 3 (by simp) (.int .i64 ((wn : Nat) : Int))
          have a3 := (S32.2.1 3 _ rfl).1
          have f3 := (S32.2.1 3 _ rfl).2
          clear S32
          have aa := a3
          have ff := f3
          have c3 := (S33.2.1 3 _ rfl).1
          clear a3 f3
          cases pt
          · obtain ⟨tn, htn⟩ : ∃ tn, runF 37 3 (l.drop (k2 + wn)) = tn := ⟨_, rfl⟩
            have bt : tn ≤ 3 := by rw [← htn]; exact run_le _ _ _
            have HT : Hid (SS = (quoS (l.drop (k2 + wn + tn))).map fun x => (⟨false, xb, x.1, wn, 0, 0, false, tn, []⟩, x.2)) := by
              show _ = _
              rw [HN.out, numS_at xb l k1 HG.out HK2.out hwn hpt rfl rfl rfl htn, if_neg (by omega), if_neg (by simp)]
              rfl
            have M37 : Calls Tryd.prog 27 #[.pointer (some ⟨b, 0, none⟩), sV [46]] (w31.setCell ⟨F + 1, 3, none⟩ (.int .i64 ((wn : Nat) : Int))) fun e w' => e = .returned (.bool false) ∧ SecW w w' b F l (k2 + wn) [.bool false, sV xb, sV [], .int .i64 ((wn : Nat) : Int), .int .i64 0, .int .i64 0, .bool false, .int .i64 0, sV []] := by
              have q := S33.take hb [46] (by decide)
              rw [hpt] at q
              exact q
            clear S33
            go_wp2_with fail
            refine M37.mono ?_
            rintro e w35 ⟨rfl, S36⟩
            clear M37
            clear aa ff c3 hpt HN
            have M41 : Calls Tryd.prog 41 #[.pointer (some ⟨b, 0, none⟩), sV [37], .int .i64 3] w35 fun e w' => e = .returned (.int .i64 ((tn : Nat) : Int)) ∧ SecW w w' b F l (k2 + wn + tn) [.bool false, sV xb, sV [], .int .i64 ((wn : Nat) : Int), .int .i64 0, .int .i64 0, .bool false, .int .i64 0, sV []] := by
              have q := S36.many hb 37 3 (by decide)
              rw [htn] at q
              exact q
            clear S36
            go_wp2_with fail
            refine M41.mono ?_
            rintro e w38 ⟨rfl, S39⟩
            clear M41
            have S40 := S39.put hb (Nat.le_of_eq HF.out) 7 (by simp) (.int .i64 ((tn : Nat) : Int))
            have a7 := (S39.2.1 7 _ rfl).1
            have f7 := (S39.2.1 7 _ rfl).2
            clear S39
            have Q := S40.quoted hb
            clear S40
            go_wp2_with fail
            refine Q.mono ?_
            rintro e w42 ⟨kq, S43, hq | hq⟩
            · obtain ⟨⟨ya, yr⟩, hy, rfl, hdq⟩ := hq
              have HE : Hid (SS = some ((⟨false, xb, ya, wn, 0, 0, false, tn, []⟩ : KT), yr)) := by show _ = _; rw [HT.out, hy]; rfl
              have HD : Hid (l.drop kq = yr) := hdq
              clear HT hy hdq Q
              have S44 := S43.put hb (Nat.le_of_eq HF.out) 2 (by simp) (sV ya)
              have a2 := (S43.2.1 2 _ rfl).1
              have f2 := (S43.2.1 2 _ rfl).2
              clear S43
              have g2 := a2
              have h2 := f2
              clear a2 f2
              obtain ⟨A, VF, VR, O⟩ := id S44
              have a0 := (VF 0 _ rfl).1
              have a1 := (VF 1 _ rfl).1
              have a2 := (VF 2 _ rfl).1
              have a3 := (VF 3 _ rfl).1
              have a4 := (VF 4 _ rfl).1
              have a5 := (VF 5 _ rfl).1
              have a6 := (VF 6 _ rfl).1
              have a7 := (VF 7 _ rfl).1
              have a8 := (VF 8 _ rfl).1
              have b0 := (VR 0 _ rfl).1
              have b1 := (VR 1 _ rfl).1
              have b2 := (VR 2 _ rfl).1
              have b3 := (VR 3 _ rfl).1
              have b4 := (VR 4 _ rfl).1
              have b5 := (VR 5 _ rfl).1
              have b6 := (VR 6 _ rfl).1
              have b7 := (VR 7 _ rfl).1
              have b8 := (VR 8 _ rfl).1
              have f0 := (VR 0 _ rfl).2
              have f1 := (VR 1 _ rfl).2
              have f2 := (VR 2 _ rfl).2
              have f3 := (VR 3 _ rfl).2
              have f4 := (VR 4 _ rfl).2
              have f5 := (VR 5 _ rfl).2
              have f6 := (VR 6 _ rfl).2
              have f7 := (VR 7 _ rfl).2
              have f8 := (VR 8 _ rfl).2
              obtain ⟨D, AD, OD⟩ := S44.done hb (Nat.le_of_eq HF.out) (.bool false) (sV xb) (sV ya) (.int .i64 ((wn : Nat) : Int)) (.int .i64 0) (.int .i64 0) (.bool false) (.int .i64 ((tn : Nat) : Int)) (sV [])
              have d0 := (D 0 _ rfl).1
              have d1 := (D 1 _ rfl).1
              have d2 := (D 2 _ rfl).1
              have d3 := (D 3 _ rfl).1
              have d4 := (D 4 _ rfl).1
              have d5 := (D 5 _ rfl).1
              have d6 := (D 6 _ rfl).1
              have d7 := (D 7 _ rfl).1
              have d8 := (D 8 _ rfl).1
              clear VF VR A O D S44
              go_wp2_with fail
              exact bodyPost_ret (v := .tuple #[.agg #[.bool false, sV xb, sV ya, .int .i64 ((wn : Nat) : Int), .int .i64 0, .int .i64 0, .bool false, .int .i64 ((tn : Nat) : Int), sV []], .bool true]) (by simp [results, Tryd.results26, go_sem, d0, d1, d2, d3, d4, d5, d6, d7, d8]) rfl ⟨⟨kq, AD, .inl ⟨_, HE.out, rfl, HD.out⟩⟩, OD⟩
            · obtain ⟨hy, rfl⟩ := hq
              have HE : Hid (SS = none) := by show _ = _; rw [HT.out, hy]; rfl
              clear HT hy Q
              have S45 := S43.put hb (Nat.le_of_eq HF.out) 2 (by simp) (sV [])
              have a2 := (S43.2.1 2 _ rfl).1
              have f2 := (S43.2.1 2 _ rfl).2
              clear S43
              have g2 := a2
              have h2 := f2
              clear a2 f2
              obtain ⟨A, VF, VR, O⟩ := id S45
              have a0 := (VF 0 _ rfl).1
              have a1 := (VF 1 _ rfl).1
              have a2 := (VF 2 _ rfl).1
              have a3 := (VF 3 _ rfl).1
              have a4 := (VF 4 _ rfl).1
              have a5 := (VF 5 _ rfl).1
              have a6 := (VF 6 _ rfl).1
              have a7 := (VF 7 _ rfl).1
              have a8 := (VF 8 _ rfl).1
              have b0 := (VR 0 _ rfl).1
              have b1 := (VR 1 _ rfl).1
              have b2 := (VR 2 _ rfl).1
              have b3 := (VR 3 _ rfl).1
              have b4 := (VR 4 _ rfl).1
              have b5 := (VR 5 _ rfl).1
              have b6 := (VR 6 _ rfl).1
              have b7 := (VR 7 _ rfl).1
              have b8 := (VR 8 _ rfl).1
              have f0 := (VR 0 _ rfl).2
              have f1 := (VR 1 _ rfl).2
              have f2 := (VR 2 _ rfl).2
              have f3 := (VR 3 _ rfl).2
              have f4 := (VR 4 _ rfl).2
              have f5 := (VR 5 _ rfl).2
              have f6 := (VR 6 _ rfl).2
              have f7 := (VR 7 _ rfl).2
              have f8 := (VR 8 _ rfl).2
              obtain ⟨D, AD, OD⟩ := S45.done hb (Nat.le_of_eq HF.out) (.bool false) (sV xb) (sV []) (.int .i64 ((wn : Nat) : Int)) (.int .i64 0) (.int .i64 0) (.bool false) (.int .i64 ((tn : Nat) : Int)) (sV [])
              have d0 := (D 0 _ rfl).1
              have d1 := (D 1 _ rfl).1
              have d2 := (D 2 _ rfl).1
              have d3 := (D 3 _ rfl).1
              have d4 := (D 4 _ rfl).1
              have d5 := (D 5 _ rfl).1
              have d6 := (D 6 _ rfl).1
              have d7 := (D 7 _ rfl).1
              have d8 := (D 8 _ rfl).1
              clear VF VR A O D S45
              go_wp2_with fail
              exact bodyPost_ret (v := .tuple #[.agg #[.bool false, sV xb, sV [], .int .i64 ((wn : Nat) : Int), .int .i64 0, .int .i64 0, .bool false, .int .i64 ((tn : Nat) : Int), sV []], .bool false]) (by simp [results, Tryd.results26, go_sem, d0, d1, d2, d3, d4, d5, d6, d7, d8]) rfl ⟨⟨kq, AD, .inr ⟨HE.out, (⟨false, xb, [], wn, 0, 0, false, tn, []⟩ : KT), rfl⟩⟩, OD⟩
          · obtain ⟨pn, hpn⟩ : ∃ pn, runF 48 9 (l.drop (k2 + wn + 1)) = pn := ⟨_, rfl⟩
            obtain ⟨mn, hmn⟩ : ∃ mn, runF 35 9 (l.drop (k2 + wn + 1 + pn)) = mn := ⟨_, rfl⟩
            obtain ⟨tn, htn⟩ : ∃ tn, runF 37 3 (l.drop (k2 + wn + 1 + pn + mn)) = tn := ⟨_, rfl⟩
            have bp : pn ≤ 9 := by rw [← hpn]; exact run_le _ _ _
            have bm : mn ≤ 9 := by rw [← hmn]; exact run_le _ _ _
            have bt : tn ≤ 3 := by rw [← htn]; exact run_le _ _ _
            have HT : Hid (SS = if pn + mn = 0 then none else (quoS (l.drop (k2 + wn + 1 + pn + mn + tn))).map fun x => (⟨false, xb, x.1, wn, pn, mn, false, tn, []⟩, x.2)) := by
              show _ = _
              rw [HN.out, numS_at xb l k1 HG.out HK2.out hwn hpt rfl hpn hmn htn, if_neg (by omega)]
              simp
            have M46 : Calls Tryd.prog 27 #[.pointer (some ⟨b, 0, none⟩), sV [46]] (w31.setCell ⟨F + 1, 3, none⟩ (.int .i64 ((wn : Nat) : Int))) fun e w' => e = .returned (.bool true) ∧ SecW w w' b F l (k2 + wn + 1) [.bool false, sV xb, sV [], .int .i64 ((wn : Nat) : Int), .int .i64 0, .int .i64 0, .bool false, .int .i64 0, sV []] := by
              have q := S33.take hb [46] (by decide)
              rw [hpt] at q
              exact q
            clear S33
            go_wp2_with fail
            refine M46.mono ?_
            rintro e w35 ⟨rfl, S36⟩
            clear M46
            clear aa ff c3 hpt HN
            by_cases h0 : pn = 0 ∧ mn = 0
            · obtain ⟨rfl, rfl⟩ := h0
              have HE : Hid (SS = none) := by show _ = _; rw [HT.out]; rfl
              have M50 : Calls Tryd.prog 41 #[.pointer (some ⟨b, 0, none⟩), sV [48], .int .i64 9] w35 fun e w' => e = .returned (.int .i64 0) ∧ SecW w w' b F l (k2 + wn + 1 + 0) [.bool false, sV xb, sV [], .int .i64 ((wn : Nat) : Int), .int .i64 0, .int .i64 0, .bool false, .int .i64 0, sV []] := by
                have q := S36.many hb 48 9 (by decide)
                rw [hpn] at q
                exact q
              clear S36
              go_wp2_with fail
              refine M50.mono ?_
              rintro e w48 ⟨rfl, S47⟩
              clear M50
              have S49 := S47.put hb (Nat.le_of_eq HF.out) 4 (by simp) (.int .i64 0)
              have a4 := (S47.2.1 4 _ rfl).1
              have f4 := (S47.2.1 4 _ rfl).2
              clear S47
              have aa := a4
              have ff := f4
              clear a4 f4
              have M54 : Calls Tryd.prog 41 #[.pointer (some ⟨b, 0, none⟩), sV [35], .int .i64 9] (w48.setCell ⟨F + 1, 4, none⟩ (.int .i64 0)) fun e w' => e = .returned (.int .i64 0) ∧ SecW w w' b F l (k2 + wn + 1 + 0 + 0) [.bool false, sV xb, sV [], .int .i64 ((wn : Nat) : Int), .int .i64 0, .int .i64 0, .bool false, .int .i64 0, sV []] := by
                have q := S49.many hb 35 9 (by decide)
                rw [hmn] at q
                exact q
              clear S49
              go_wp2_with fail
              refine M54.mono ?_
              rintro e w52 ⟨rfl, S51⟩
              clear M54
              clear aa ff
              have S53 := S51.put hb (Nat.le_of_eq HF.out) 5 (by simp) (.int .i64 0)
              have a5 := (S51.2.1 5 _ rfl).1
              have f5 := (S51.2.1 5 _ rfl).2
              clear S51
              have g5 := a5
              have h5 := f5
              clear a5 f5
              obtain ⟨A, VF, VR, O⟩ := id S53
              have a0 := (VF 0 _ rfl).1
              have a1 := (VF 1 _ rfl).1
              have a2 := (VF 2 _ rfl).1
              have a3 := (VF 3 _ rfl).1
              have a4 := (VF 4 _ rfl).1
              have a5 := (VF 5 _ rfl).1
              have a6 := (VF 6 _ rfl).1
              have a7 := (VF 7 _ rfl).1
              have a8 := (VF 8 _ rfl).1
              have b0 := (VR 0 _ rfl).1
              have b1 := (VR 1 _ rfl).1
              have b2 := (VR 2 _ rfl).1
              have b3 := (VR 3 _ rfl).1
              have b4 := (VR 4 _ rfl).1
              have b5 := (VR 5 _ rfl).1
              have b6 := (VR 6 _ rfl).1
              have b7 := (VR 7 _ rfl).1
              have b8 := (VR 8 _ rfl).1
              have f0 := (VR 0 _ rfl).2
              have f1 := (VR 1 _ rfl).2
              have f2 := (VR 2 _ rfl).2
              have f3 := (VR 3 _ rfl).2
              have f4 := (VR 4 _ rfl).2
              have f5 := (VR 5 _ rfl).2
              have f6 := (VR 6 _ rfl).2
              have f7 := (VR 7 _ rfl).2
              have f8 := (VR 8 _ rfl).2
              obtain ⟨D, AD, OD⟩ := S53.done hb (Nat.le_of_eq HF.out) (.bool false) (sV xb) (sV []) (.int .i64 ((wn : Nat) : Int)) (.int .i64 0) (.int .i64 0) (.bool false) (.int .i64 0) (sV [])
              have d0 := (D 0 _ rfl).1
              have d1 := (D 1 _ rfl).1
              have d2 := (D 2 _ rfl).1
              have d3 := (D 3 _ rfl).1
              have d4 := (D 4 _ rfl).1
              have d5 := (D 5 _ rfl).1
              have d6 := (D 6 _ rfl).1
              have d7 := (D 7 _ rfl).1
              have d8 := (D 8 _ rfl).1
              clear VF VR A O D S53
              go_wp2_with fail
              exact bodyPost_ret (v := .tuple #[.agg #[.bool false, sV xb, sV [], .int .i64 ((wn : Nat) : Int), .int .i64 0, .int .i64 0, .bool false, .int .i64 0, sV []], .bool false]) (by simp [results, Tryd.results26, go_sem, d0, d1, d2, d3, d4, d5, d6, d7, d8]) rfl ⟨⟨k2 + wn + 1 + 0 + 0, AD, .inr ⟨HE.out, ⟨false, xb, [], wn, 0, 0, false, 0, []⟩, rfl⟩⟩, OD⟩
            · have HT : Hid (SS = (quoS (l.drop (k2 + wn + 1 + pn + mn + tn))).map fun x => (⟨false, xb, x.1, wn, pn, mn, false, tn, []⟩, x.2)) := by show _ = _; rw [HT.out, if_neg (by omega)]
              have M58 : Calls Tryd.prog 41 #[.pointer (some ⟨b, 0, none⟩), sV [48], .int .i64 9] w35 fun e w' => e = .returned (.int .i64 ((pn : Nat) : Int)) ∧ SecW w w' b F l (k2 + wn + 1 + pn) [.bool false, sV xb, sV [], .int .i64 ((wn : Nat) : Int), .int .i64 0, .int .i64 0, .bool false, .int .i64 0, sV []] := by
                have q := S36.many hb 48 9 (by decide)
                rw [hpn] at q
                exact q
              clear S36
              go_wp2_with fail
              refine M58.mono ?_
              rintro e w56 ⟨rfl, S55⟩
              clear M58
              have S57 := S55.put hb (Nat.le_of_eq HF.out) 4 (by simp) (.int .i64 ((pn : Nat) : Int))
              have a4 := (S55.2.1 4 _ rfl).1
              have f4 := (S55.2.1 4 _ rfl).2
              clear S55
              have aa := a4
              have ff := f4
              clear a4 f4
              have M62 : Calls Tryd.prog 41 #[.pointer (some ⟨b, 0, none⟩), sV [35], .int .i64 9] (w56.setCell ⟨F + 1, 4, none⟩ (.int .i64 ((pn : Nat) : Int))) fun e w' => e = .returned (.int .i64 ((mn : Nat) : Int)) ∧ SecW w w' b F l (k2 + wn + 1 + pn + mn) [.bool false, sV xb, sV [], .int .i64 ((wn : Nat) : Int), .int .i64 ((pn : Nat) : Int), .int .i64 0, .bool false, .int .i64 0, sV []] := by
                have q := S57.many hb 35 9 (by decide)
                rw [hmn] at q
                exact q
              clear S57
              go_wp2_with fail
              refine M62.mono ?_
              rintro e w60 ⟨rfl, S59⟩
              clear M62
              clear aa ff
              have S61 := S59.put hb (Nat.le_of_eq HF.out) 5 (by simp) (.int .i64 ((mn : Nat) : Int))
              have a5 := (S59.2.1 5 _ rfl).1
              have f5 := (S59.2.1 5 _ rfl).2
              clear S59
              have is : ((pn : Nat) : Int) + ((mn : Nat) : Int) ≠ 0 := by omega
              have c4 := (S61.2.1 4 _ rfl).1
              have c5 := (S61.2.1 5 _ rfl).1
              have aa := a5
              have ff := f5
              clear a5 f5
              have M66 : Calls Tryd.prog 41 #[.pointer (some ⟨b, 0, none⟩), sV [37], .int .i64 3] (w60.setCell ⟨F + 1, 5, none⟩ (.int .i64 ((mn : Nat) : Int))) fun e w' => e = .returned (.int .i64 ((tn : Nat) : Int)) ∧ SecW w w' b F l (k2 + wn + 1 + pn + mn + tn) [.bool false, sV xb, sV [], .int .i64 ((wn : Nat) : Int), .int .i64 ((pn : Nat) : Int), .int .i64 ((mn : Nat) : Int), .bool false, .int .i64 0, sV []] := by
                have q := S61.many hb 37 3 (by decide)
                rw [htn] at q
                exact q
              clear S61
              go_wp2_with fail
              refine M66.mono ?_
              rintro e w63 ⟨rfl, S64⟩
              clear M66
              have S65 := S64.put hb (Nat.le_of_eq HF.out) 7 (by simp) (.int .i64 ((tn : Nat) : Int))
              have a7 := (S64.2.1 7 _ rfl).1
              have f7 := (S64.2.1 7 _ rfl).2
              clear S64
              have Q := S65.quoted hb
              clear S65
              go_wp2_with fail
              refine Q.mono ?_
              rintro e w67 ⟨kq, S68, hq | hq⟩
              · obtain ⟨⟨ya, yr⟩, hy, rfl, hdq⟩ := hq
                have HE : Hid (SS = some ((⟨false, xb, ya, wn, pn, mn, false, tn, []⟩ : KT), yr)) := by show _ = _; rw [HT.out, hy]; rfl
                have HD : Hid (l.drop kq = yr) := hdq
                clear HT hy hdq Q
                have S69 := S68.put hb (Nat.le_of_eq HF.out) 2 (by simp) (sV ya)
                have a2 := (S68.2.1 2 _ rfl).1
                have f2 := (S68.2.1 2 _ rfl).2
                clear S68
                have g2 := a2
                have h2 := f2
                clear a2 f2
                obtain ⟨A, VF, VR, O⟩ := id S69
                have a0 := (VF 0 _ rfl).1
                have a1 := (VF 1 _ rfl).1
                have a2 := (VF 2 _ rfl).1
                have a3 := (VF 3 _ rfl).1
                have a4 := (VF 4 _ rfl).1
                have a5 := (VF 5 _ rfl).1
                have a6 := (VF 6 _ rfl).1
                have a7 := (VF 7 _ rfl).1
                have a8 := (VF 8 _ rfl).1
                have b0 := (VR 0 _ rfl).1
                have b1 := (VR 1 _ rfl).1
                have b2 := (VR 2 _ rfl).1
                have b3 := (VR 3 _ rfl).1
                have b4 := (VR 4 _ rfl).1
                have b5 := (VR 5 _ rfl).1
                have b6 := (VR 6 _ rfl).1
                have b7 := (VR 7 _ rfl).1
                have b8 := (VR 8 _ rfl).1
                have f0 := (VR 0 _ rfl).2
                have f1 := (VR 1 _ rfl).2
                have f2 := (VR 2 _ rfl).2
                have f3 := (VR 3 _ rfl).2
                have f4 := (VR 4 _ rfl).2
                have f5 := (VR 5 _ rfl).2
                have f6 := (VR 6 _ rfl).2
                have f7 := (VR 7 _ rfl).2
                have f8 := (VR 8 _ rfl).2
                obtain ⟨D, AD, OD⟩ := S69.done hb (Nat.le_of_eq HF.out) (.bool false) (sV xb) (sV ya) (.int .i64 ((wn : Nat) : Int)) (.int .i64 ((pn : Nat) : Int)) (.int .i64 ((mn : Nat) : Int)) (.bool false) (.int .i64 ((tn : Nat) : Int)) (sV [])
                have d0 := (D 0 _ rfl).1
                have d1 := (D 1 _ rfl).1
                have d2 := (D 2 _ rfl).1
                have d3 := (D 3 _ rfl).1
                have d4 := (D 4 _ rfl).1
                have d5 := (D 5 _ rfl).1
                have d6 := (D 6 _ rfl).1
                have d7 := (D 7 _ rfl).1
                have d8 := (D 8 _ rfl).1
                clear VF VR A O D S69
                go_wp2_with fail
                exact bodyPost_ret (v := .tuple #[.agg #[.bool false, sV xb, sV ya, .int .i64 ((wn : Nat) : Int), .int .i64 ((pn : Nat) : Int), .int .i64 ((mn : Nat) : Int), .bool false, .int .i64 ((tn : Nat) : Int), sV []], .bool true]) (by simp [results, Tryd.results26, go_sem, d0, d1, d2, d3, d4, d5, d6, d7, d8]) rfl ⟨⟨kq, AD, .inl ⟨_, HE.out, rfl, HD.out⟩⟩, OD⟩
              · obtain ⟨hy, rfl⟩ := hq
                have HE : Hid (SS = none) := by show _ = _; rw [HT.out, hy]; rfl
                clear HT hy Q
                have S70 := S68.put hb (Nat.le_of_eq HF.out) 2 (by simp) (sV [])
                have a2 := (S68.2.1 2 _ rfl).1
                have f2 := (S68.2.1 2 _ rfl).2
                clear S68
                have g2 := a2
                have h2 := f2
                clear a2 f2
                obtain ⟨A, VF, VR, O⟩ := id S70
                have a0 := (VF 0 _ rfl).1
                have a1 := (VF 1 _ rfl).1
                have a2 := (VF 2 _ rfl).1
                have a3 := (VF 3 _ rfl).1
                have a4 := (VF 4 _ rfl).1
                have a5 := (VF 5 _ rfl).1
                have a6 := (VF 6 _ rfl).1
                have a7 := (VF 7 _ rfl).1
                have a8 := (VF 8 _ rfl).1
                have b0 := (VR 0 _ rfl).1
                have b1 := (VR 1 _ rfl).1
                have b2 := (VR 2 _ rfl).1
                have b3 := (VR 3 _ rfl).1
                have b4 := (VR 4 _ rfl).1
                have b5 := (VR 5 _ rfl).1
                have b6 := (VR 6 _ rfl).1
                have b7 := (VR 7 _ rfl).1
                have b8 := (VR 8 _ rfl).1
                have f0 := (VR 0 _ rfl).2
                have f1 := (VR 1 _ rfl).2
                have f2 := (VR 2 _ rfl).2
                have f3 := (VR 3 _ rfl).2
                have f4 := (VR 4 _ rfl).2
                have f5 := (VR 5 _ rfl).2
                have f6 := (VR 6 _ rfl).2
                have f7 := (VR 7 _ rfl).2
                have f8 := (VR 8 _ rfl).2
                obtain ⟨D, AD, OD⟩ := S70.done hb (Nat.le_of_eq HF.out) (.bool false) (sV xb) (sV []) (.int .i64 ((wn : Nat) : Int)) (.int .i64 ((pn : Nat) : Int)) (.int .i64 ((mn : Nat) : Int)) (.bool false) (.int .i64 ((tn : Nat) : Int)) (sV [])
                have d0 := (D 0 _ rfl).1
                have d1 := (D 1 _ rfl).1
                have d2 := (D 2 _ rfl).1
                have d3 := (D 3 _ rfl).1
                have d4 := (D 4 _ rfl).1
                have d5 := (D 5 _ rfl).1
                have d6 := (D 6 _ rfl).1
                have d7 := (D 7 _ rfl).1
                have d8 := (D 8 _ rfl).1
                clear VF VR A O D S70
                go_wp2_with fail
                exact bodyPost_ret (v := .tuple #[.agg #[.bool false, sV xb, sV [], .int .i64 ((wn : Nat) : Int), .int .i64 ((pn : Nat) : Int), .int .i64 ((mn : Nat) : Int), .bool false, .int .i64 ((tn : Nat) : Int), sV []], .bool false]) (by simp [results, Tryd.results26, go_sem, d0, d1, d2, d3, d4, d5, d6, d7, d8]) rfl ⟨⟨kq, AD, .inr ⟨HE.out, (⟨false, xb, [], wn, pn, mn, false, tn, []⟩ : KT), rfl⟩⟩, OD⟩
    · have HN : Hid (SS = numS xb (l.drop k1)) := HS.out
      clear HS
      obtain ⟨k2, hk2⟩ : ∃ k2, (if (true : Bool) = true then k1 + 2 else k1) = k2 := ⟨_, rfl⟩
      obtain ⟨wn, hwn⟩ : ∃ wn, runF 48 9 (l.drop k2) = wn := ⟨_, rfl⟩
      have bw : wn ≤ 9 := by rw [← hwn]; exact run_le _ _ _
      have HK2 : Hid ((if (true : Bool) = true then k1 + 2 else k1) = k2) := hk2
      clear hk2
      have M74 : Calls Tryd.prog 27 #[.pointer (some ⟨b, 0, none⟩), sV [35, 44]] w2 fun e w' => e = .returned (.bool true) ∧ SecW w w' b F l (k2) [.bool false, sV xb, sV [], .int .i64 0, .int .i64 0, .int .i64 0, .bool false, .int .i64 0, sV []] := by
        have q := S3.take hb [35, 44] (by decide)
        rw [HG.out] at q
        rw [← HK2.out]
        exact q
      clear S3
      go_wp2_with fail
      refine M74.mono ?_
      rintro e w71 ⟨rfl, S72⟩
      clear M74
      have S73 := S72.put hb (Nat.le_of_eq HF.out) 6 (by simp) (.bool true)
      have a6 := (S72.2.1 6 _ rfl).1
      have f6 := (S72.2.1 6 _ rfl).2
      clear S72
      have aa := a6
      have ff := f6
      clear a6 f6
      rcases Nat.eq_zero_or_pos wn with hw0 | hw0
      · subst hw0
        have HE : Hid (SS = none) := by show _ = _; rw [HN.out, numS_at xb l k1 HG.out HK2.out hwn rfl rfl rfl rfl rfl]; rfl
        have M78 : Calls Tryd.prog 41 #[.pointer (some ⟨b, 0, none⟩), sV [48], .int .i64 9] (w71.setCell ⟨F + 1, 6, none⟩ (.bool true)) fun e w' => e = .returned (.int .i64 0) ∧ SecW w w' b F l (k2 + 0) [.bool false, sV xb, sV [], .int .i64 0, .int .i64 0, .int .i64 0, .bool true, .int .i64 0, sV []] := by
          have q := S73.many hb 48 9 (by decide)
          rw [hwn] at q
          exact q
        clear S73
        go_wp2_with fail
        refine M78.mono ?_
        rintro e w75 ⟨rfl, S76⟩
        clear M78
        clear aa ff
        have S77 := S76.put hb (Nat.le_of_eq HF.out) 3 (by simp) (.int .i64 0)
        have a3 := (S76.2.1 3 _ rfl).1
        have f3 := (S76.2.1 3 _ rfl).2
        clear S76
        have g3 := a3
        have h3 := f3
        clear a3 f3
        obtain ⟨A, VF, VR, O⟩ := id S77
        have a0 := (VF 0 _ rfl).1
        have a1 := (VF 1 _ rfl).1
        have a2 := (VF 2 _ rfl).1
        have a3 := (VF 3 _ rfl).1
        have a4 := (VF 4 _ rfl).1
        have a5 := (VF 5 _ rfl).1
        have a6 := (VF 6 _ rfl).1
        have a7 := (VF 7 _ rfl).1
        have a8 := (VF 8 _ rfl).1
        have b0 := (VR 0 _ rfl).1
        have b1 := (VR 1 _ rfl).1
        have b2 := (VR 2 _ rfl).1
        have b3 := (VR 3 _ rfl).1
        have b4 := (VR 4 _ rfl).1
        have b5 := (VR 5 _ rfl).1
        have b6 := (VR 6 _ rfl).1
        have b7 := (VR 7 _ rfl).1
        have b8 := (VR 8 _ rfl).1
        have f0 := (VR 0 _ rfl).2
        have f1 := (VR 1 _ rfl).2
        have f2 := (VR 2 _ rfl).2
        have f3 := (VR 3 _ rfl).2
        have f4 := (VR 4 _ rfl).2
        have f5 := (VR 5 _ rfl).2
        have f6 := (VR 6 _ rfl).2
        have f7 := (VR 7 _ rfl).2
        have f8 := (VR 8 _ rfl).2
        obtain ⟨D, AD, OD⟩ := S77.done hb (Nat.le_of_eq HF.out) (.bool false) (sV xb) (sV []) (.int .i64 0) (.int .i64 0) (.int .i64 0) (.bool true) (.int .i64 0) (sV [])
        have d0 := (D 0 _ rfl).1
        have d1 := (D 1 _ rfl).1
        have d2 := (D 2 _ rfl).1
        have d3 := (D 3 _ rfl).1
        have d4 := (D 4 _ rfl).1
        have d5 := (D 5 _ rfl).1
        have d6 := (D 6 _ rfl).1
        have d7 := (D 7 _ rfl).1
        have d8 := (D 8 _ rfl).1
        clear VF VR A O D S77
        go_wp2_with fail
        exact bodyPost_ret (v := .tuple #[.agg #[.bool false, sV xb, sV [], .int .i64 0, .int .i64 0, .int .i64 0, .bool true, .int .i64 0, sV []], .bool false]) (by simp [results, Tryd.results26, go_sem, d0, d1, d2, d3, d4, d5, d6, d7, d8]) rfl ⟨⟨k2 + 0, AD, .inr ⟨HE.out, ⟨false, xb, [], 0, 0, 0, true, 0, []⟩, rfl⟩⟩, OD⟩
      · have iw : 1 ≤ ((wn : Nat) : Int) := by omega
        obtain ⟨pt, hpt⟩ : ∃ pt, Lib.hasPrefix (l.drop (k2 + wn)) [46] = pt := ⟨_, rfl⟩
        have M82 : Calls Tryd.prog 41 #[.pointer (some ⟨b, 0, none⟩), sV [48], .int .i64 9] (w71.setCell ⟨F + 1, 6, none⟩ (.bool true)) fun e w' => e = .returned (.int .i64 ((wn : Nat) : Int)) ∧ SecW w w' b F l (k2 + wn) [.bool false, sV xb, sV [], .int .i64 0, .int .i64 0, .int .i64 0, .bool true, .int .i64 0, sV []] := by
          have q := S73.many hb 48 9 (by decide)
          rw [hwn] at q
          exact q
        clear S73
        go_wp2_with fail
        refine M82.mono ?_
        rintro e w79 ⟨rfl, S80⟩
        clear M82
        clear aa ff
        have S81 := S80.put hb (Nat.le_of_eq HF.out) 3 (by simp) (.int .i64 ((wn : Nat) : Int))
        have a3 := (S80.2.1 3 _ rfl).1
        have f3 := (S80.2.1 3 _ rfl).2
        clear S80
        have aa := a3
        have ff := f3
        have c3 := (S81.2.1 3 _ rfl).1
        clear a3 f3
        cases pt
        · obtain ⟨tn, htn⟩ : ∃ tn, runF 37 3 (l.drop (k2 + wn)) = tn := ⟨_, rfl⟩
          have bt : tn ≤ 3 := by rw [← htn]; exact run_le _ _ _
          have HT : Hid (SS = (quoS (l.drop (k2 + wn + tn))).map fun x => (⟨false, xb, x.1, wn, 0, 0, true, tn, []⟩, x.2)) := by
            show _ = _
            rw [HN.out, numS_at xb l k1 HG.out HK2.out hwn hpt rfl rfl rfl htn, if_neg (by omega), if_neg (by simp)]
            rfl
          have M85 : Calls Tryd.prog 27 #[.pointer (some ⟨b, 0, none⟩), sV [46]] (w79.setCell ⟨F + 1, 3, none⟩ (.int .i64 ((wn : Nat) : Int))) fun e w' => e = .returned (.bool false) ∧ SecW w w' b F l (k2 + wn) [.bool false, sV xb, sV [], .int .i64 ((wn : Nat) : Int), .int .i64 0, .int .i64 0, .bool true, .int .i64 0, sV []] := by
            have q := S81.take hb [46] (by decide)
            rw [hpt] at q
            exact q
          clear S81
          go_wp2_with fail
          refine M85.mono ?_
          rintro e w83 ⟨rfl, S84⟩
          clear M85
          clear aa ff c3 hpt HN
          have M89 : Calls Tryd.prog 41 #[.pointer (some ⟨b, 0, none⟩), sV [37], .int .i64 3] w83 fun e w' => e = .returned (.int .i64 ((tn : Nat) : Int)) ∧ SecW w w' b F l (k2 + wn + tn) [.bool false, sV xb, sV [], .int .i64 ((wn : Nat) : Int), .int .i64 0, .int .i64 0, .bool true, .int .i64 0, sV []] := by
            have q := S84.many hb 37 3 (by decide)
            rw [htn] at q
            exact q
          clear S84
          go_wp2_with fail
          refine M89.mono ?_
          rintro e w86 ⟨rfl, S87⟩
          clear M89
          have S88 := S87.put hb (Nat.le_of_eq HF.out) 7 (by simp) (.int .i64 ((tn : Nat) : Int))
          have a7 := (S87.2.1 7 _ rfl).1
          have f7 := (S87.2.1 7 _ rfl).2
          clear S87
          have Q := S88.quoted hb
          clear S88
          go_wp2_with fail
          refine Q.mono ?_
          rintro e w90 ⟨kq, S91, hq | hq⟩
          · obtain ⟨⟨ya, yr⟩, hy, rfl, hdq⟩ := hq
            have HE : Hid (SS = some ((⟨false, xb, ya, wn, 0, 0, true, tn, []⟩ : KT), yr)) := by show _ = _; rw [HT.out, hy]; rfl
            have HD : Hid (l.drop kq = yr) := hdq
            clear HT hy hdq Q
            have S92 := S91.put hb (Nat.le_of_eq HF.out) 2 (by simp) (sV ya)
            have a2 := (S91.2.1 2 _ rfl).1
            have f2 := (S91.2.1 2 _ rfl).2
            clear S91
            have g2 := a2
            have h2 := f2
            clear a2 f2
            obtain ⟨A, VF, VR, O⟩ := id S92
            have a0 := (VF 0 _ rfl).1
            have a1 := (VF 1 _ rfl).1
            have a2 := (VF 2 _ rfl).1
            have a3 := (VF 3 _ rfl).1
            have a4 := (VF 4 _ rfl).1
            have a5 := (VF 5 _ rfl).1
            have a6 := (VF 6 _ rfl).1
            have a7 := (VF 7 _ rfl).1
            have a8 := (VF 8 _ rfl).1
            have b0 := (VR 0 _ rfl).1
            have b1 := (VR 1 _ rfl).1
            have b2 := (VR 2 _ rfl).1
            have b3 := (VR 3 _ rfl).1
            have b4 := (VR 4 _ rfl).1
            have b5 := (VR 5 _ rfl).1
            have b6 := (VR 6 _ rfl).1
            have b7 := (VR 7 _ rfl).1
            have b8 := (VR 8 _ rfl).1
            have f0 := (VR 0 _ rfl).2
            have f1 := (VR 1 _ rfl).2
            have f2 := (VR 2 _ rfl).2
            have f3 := (VR 3 _ rfl).2
            have f4 := (VR 4 _ rfl).2
            have f5 := (VR 5 _ rfl).2
            have f6 := (VR 6 _ rfl).2
            have f7 := (VR 7 _ rfl).2
            have f8 := (VR 8 _ rfl).2
            obtain ⟨D, AD, OD⟩ := S92.done hb (Nat.le_of_eq HF.out) (.bool false) (sV xb) (sV ya) (.int .i64 ((wn : Nat) : Int)) (.int .i64 0) (.int .i64 0) (.bool true) (.int .i64 ((tn : Nat) : Int)) (sV [])
            have d0 := (D 0 _ rfl).1
            have d1 := (D 1 _ rfl).1
            have d2 := (D 2 _ rfl).1
            have d3 := (D 3 _ rfl).1
            have d4 := (D 4 _ rfl).1
            have d5 := (D 5 _ rfl).1
            have d6 := (D 6 _ rfl).1
            have d7 := (D 7 _ rfl).1
            have d8 := (D 8 _ rfl).1
            clear VF VR A O D S92
            go_wp2_with fail
            exact bodyPost_ret (v := .tuple #[.agg #[.bool false, sV xb, sV ya, .int .i64 ((wn : Nat) : Int), .int .i64 0, .int .i64 0, .bool true, .int .i64 ((tn : Nat) : Int), sV []], .bool true]) (by simp [results, Tryd.results26, go_sem, d0, d1, d2, d3, d4, d5, d6, d7, d8]) rfl ⟨⟨kq, AD, .inl ⟨_, HE.out, rfl, HD.out⟩⟩, OD⟩
          · obtain ⟨hy, rfl⟩ := hq
            have HE : Hid (SS = none) := by show _ = _; rw [HT.out, hy]; rfl
            clear HT hy Q
            have S93 := S91.put hb (Nat.le_of_eq HF.out) 2 (by simp) (sV [])
            have a2 := (S91.2.1 2 _ rfl).1
            have f2 := (S91.2.1 2 _ rfl).2
            clear S91
            have g2 := a2
            have h2 := f2
            clear a2 f2
            obtain ⟨A, VF, VR, O⟩ := id S93
            have a0 := (VF 0 _ rfl).1
            have a1 := (VF 1 _ rfl).1
            have a2 := (VF 2 _ rfl).1
            have a3 := (VF 3 _ rfl).1
            have a4 := (VF 4 _ rfl).1
            have a5 := (VF 5 _ rfl).1
            have a6 := (VF 6 _ rfl).1
            have a7 := (VF 7 _ rfl).1
            have a8 := (VF 8 _ rfl).1
            have b0 := (VR 0 _ rfl).1
            have b1 := (VR 1 _ rfl).1
            have b2 := (VR 2 _ rfl).1
            have b3 := (VR 3 _ rfl).1
            have b4 := (VR 4 _ rfl).1
            have b5 := (VR 5 _ rfl).1
            have b6 := (VR 6 _ rfl).1
            have b7 := (VR 7 _ rfl).1
            have b8 := (VR 8 _ rfl).1
            have f0 := (VR 0 _ rfl).2
            have f1 := (VR 1 _ rfl).2
            have f2 := (VR 2 _ rfl).2
            have f3 := (VR 3 _ rfl).2
            have f4 := (VR 4 _ rfl).2
            have f5 := (VR 5 _ rfl).2
            have f6 := (VR 6 _ rfl).2
            have f7 := (VR 7 _ rfl).2
            have f8 := (VR 8 _ rfl).2
            obtain ⟨D, AD, OD⟩ := S93.done hb (Nat.le_of_eq HF.out) (.bool false) (sV xb) (sV []) (.int .i64 ((wn : Nat) : Int)) (.int .i64 0) (.int .i64 0) (.bool true) (.int .i64 ((tn : Nat) : Int)) (sV [])
            have d0 := (D 0 _ rfl).1
            have d1 := (D 1 _ rfl).1
            have d2 := (D 2 _ rfl).1
            have d3 := (D 3 _ rfl).1
            have d4 := (D 4 _ rfl).1
            have d5 := (D 5 _ rfl).1
            have d6 := (D 6 _ rfl).1
            have d7 := (D 7 _ rfl).1
            have d8 := (D 8 _ rfl).1
            clear VF VR A O D S93
            go_wp2_with fail
            exact bodyPost_ret (v := .tuple #[.agg #[.bool false, sV xb, sV [], .int .i64 ((wn : Nat) : Int), .int .i64 0, .int .i64 0, .bool true, .int .i64 ((tn : Nat) : Int), sV []], .bool false]) (by simp [results, Tryd.results26, go_sem, d0, d1, d2, d3, d4, d5, d6, d7, d8]) rfl ⟨⟨kq, AD, .inr ⟨HE.out, (⟨false, xb, [], wn, 0, 0, true, tn, []⟩ : KT), rfl⟩⟩, OD⟩
        · obtain ⟨pn, hpn⟩ : ∃ pn, runF 48 9 (l.drop (k2 + wn + 1)) = pn := ⟨_, rfl⟩
          obtain ⟨mn, hmn⟩ : ∃ mn, runF 35 9 (l.drop (k2 + wn + 1 + pn)) = mn := ⟨_, rfl⟩
          obtain ⟨tn, htn⟩ : ∃ tn, runF 37 3 (l.drop (k2 + wn + 1 + pn + mn)) = tn := ⟨_, rfl⟩
          have bp : pn ≤ 9 := by rw [← hpn]; exact run_le _ _ _
          have bm : mn ≤ 9 := by rw [← hmn]; exact run_le _ _ _
          have bt : tn ≤ 3 := by rw [← htn]; exact run_le _ _ _
          have HT : Hid (SS = if pn + mn = 0 then none else (quoS (l.drop (k2 + wn + 1 + pn + mn + tn))).map fun x => (⟨false, xb, x.1, wn, pn, mn, true, tn, []⟩, x.2)) := by
            show _ = _
            rw [HN.out, numS_at xb l k1 HG.out HK2.out hwn hpt rfl hpn hmn htn, if_neg (by omega)]
            simp
          have M94 : Calls Tryd.prog 27 #[.pointer (some ⟨b, 0, none⟩), sV [46]] (w79.setCell ⟨F + 1, 3, none⟩ (.int .i64 ((wn : Nat) : Int))) fun e w' => e = .returned (.bool true) ∧ SecW w w' b F l (k2 + wn + 1) [.bool false, sV xb, sV [], .int .i64 ((wn : Nat) : Int), .int .i64 0, .int .i64 0, .bool true, .int .i64 0, sV []] := by
            have q := S81.take hb [46] (by decide)
            rw [hpt] at q
            exact q
          clear S81
          go_wp2_with fail
          refine M94.mono ?_
          rintro e w83 ⟨rfl, S84⟩
          clear M94
          clear aa ff c3 hpt HN
          by_cases h0 : pn = 0 ∧ mn = 0
          · obtain ⟨rfl, rfl⟩ := h0
            have HE : Hid (SS = none) := by show _ = _; rw [HT.out]; rfl
            have M98 : Calls Tryd.prog 41 #[.pointer (some ⟨b, 0, none⟩), sV [48], .int .i64 9] w83 fun e w' => e = .returned (.int .i64 0) ∧ SecW w w' b F l (k2 + wn + 1 + 0) [.bool false, sV xb, sV [], .int .i64 ((wn : Nat) : Int), .int .i64 0, .int .i64 0, .bool true, .int .i64 0, sV []] := by
              have q := S84.many hb 48 9 (by decide)
              rw [hpn] at q
              exact q
            clear S84
            go_wp2_with fail
            refine M98.mono ?_
            rintro e w96 ⟨rfl, S95⟩
            clear M98
            have S97 := S95.put hb (Nat.le_of_eq HF.out) 4 (by simp) (.int .i64 0)
            have a4 := (S95.2.1 4 _ rfl).1
            have f4 := (S95.2.1 4 _ rfl).2
            clear S95
            have aa := a4
            have ff := f4
            clear a4 f4
            have M102 : Calls Tryd.prog 41 #[.pointer (some ⟨b, 0, none⟩), sV [35], .int .i64 9] (w96.setCell ⟨F + 1, 4, none⟩ (.int .i64 0)) fun e w' => e = .returned (.int .i64 0) ∧ SecW w w' b F l (k2 + wn + 1 + 0 + 0) [.bool false, sV xb, sV [], .int .i64 ((wn : Nat) : Int), .int .i64 0, .int .i64 0, .bool true, .int .i64 0, sV []] := by
              have q := S97.many hb 35 9 (by decide)
              rw [hmn] at q
              exact q
            clear S97
            go_wp2_with fail
            refine M102.mono ?_
            rintro e w100 ⟨rfl, S99⟩
            clear M102
            clear aa ff
            have S101 := S99.put hb (Nat.le_of_eq HF.out) 5 (by simp) (.int .i64 0)
            have a5 := (S99.2.1 5 _ rfl).1
            have f5 := (S99.2.1 5 _ rfl).2
            clear S99
            have g5 := a5
            have h5 := f5
            clear a5 f5
            obtain ⟨A, VF, VR, O⟩ := id S101
            have a0 := (VF 0 _ rfl).1
            have a1 := (VF 1 _ rfl).1
            have a2 := (VF 2 _ rfl).1
            have a3 := (VF 3 _ rfl).1
            have a4 := (VF 4 _ rfl).1
            have a5 := (VF 5 _ rfl).1
            have a6 := (VF 6 _ rfl).1
            have a7 := (VF 7 _ rfl).1
            have a8 := (VF 8 _ rfl).1
            have b0 := (VR 0 _ rfl).1
            have b1 := (VR 1 _ rfl).1
            have b2 := (VR 2 _ rfl).1
            have b3 := (VR 3 _ rfl).1
            have b4 := (VR 4 _ rfl).1
            have b5 := (VR 5 _ rfl).1
            have b6 := (VR 6 _ rfl).1
            have b7 := (VR 7 _ rfl).1
            have b8 := (VR 8 _ rfl).1
            have f0 := (VR 0 _ rfl).2
            have f1 := (VR 1 _ rfl).2
            have f2 := (VR 2 _ rfl).2
            have f3 := (VR 3 _ rfl).2
            have f4 := (VR 4 _ rfl).2
            have f5 := (VR 5 _ rfl).2
            have f6 := (VR 6 _ rfl).2
            have f7 := (VR 7 _ rfl).2
            have f8 := (VR 8 _ rfl).2
            obtain ⟨D, AD, OD⟩ := S101.done hb (Nat.le_of_eq HF.out) (.bool false) (sV xb) (sV []) (.int .i64 ((wn : Nat) : Int)) (.int .i64 0) (.int .i64 0) (.bool true) (.int .i64 0) (sV [])
            have d0 := (D 0 _ rfl).1
            have d1 := (D 1 _ rfl).1
            have d2 := (D 2 _ rfl).1
            have d3 := (D 3 _ rfl).1
            have d4 := (D 4 _ rfl).1
            have d5 := (D 5 _ rfl).1
            have d6 := (D 6 _ rfl).1
            have d7 := (D 7 _ rfl).1
            have d8 := (D 8 _ rfl).1
            clear VF VR A O D S101
            go_wp2_with fail
            exact bodyPost_ret (v := .tuple #[.agg #[.bool false, sV xb, sV [], .int .i64 ((wn : Nat) : Int), .int .i64 0, .int .i64 0, .bool true, .int .i64 0, sV []], .bool false]) (by simp [results, Tryd.results26, go_sem, d0, d1, d2, d3, d4, d5, d6, d7, d8]) rfl ⟨⟨k2 + wn + 1 + 0 + 0, AD, .inr ⟨HE.out, ⟨false, xb, [], wn, 0, 0, true, 0, []⟩, rfl⟩⟩, OD⟩
          · have HT : Hid (SS = (quoS (l.drop (k2 + wn + 1 + pn + mn + tn))).map fun x => (⟨false, xb, x.1, wn, pn, mn, true, tn, []⟩, x.2)) := by show _ = _; rw [HT.out, if_neg (by omega)]
            have M106 : Calls Tryd.prog 41 #[.pointer (some ⟨b, 0, none⟩), sV [48], .int .i64 9] w83 fun e w' => e = .returned (.int .i64 ((pn : Nat) : Int)) ∧ SecW w w' b F l (k2 + wn + 1 + pn) [.bool false, sV xb, sV [], .int .i64 ((wn : Nat) : Int), .int .i64 0, .int .i64 0, .bool true, .int .i64 0, sV []] := by
              have q := S84.many hb 48 9 (by decide)
              rw [hpn] at q
              exact q
            clear S84
            go_wp2_with fail
            refine M106.mono ?_
            rintro e w104 ⟨rfl, S103⟩
            clear M106
            have S105 := S103.put hb (Nat.le_of_eq HF.out) 4 (by simp) (.int .i64 ((pn : Nat) : Int))
            have a4 := (S103.2.1 4 _ rfl).1
            have f4 := (S103.2.1 4 _ rfl).2
            clear S103
            have aa := a4
            have ff := f4
            clear a4 f4
            have M110 : Calls Tryd.prog 41 #[.pointer (some ⟨b, 0, none⟩), sV [35], .int .i64 9] (w104.setCell ⟨F + 1, 4, none⟩ (.int .i64 ((pn : Nat) : Int))) fun e w' => e = .returned (.int .i64 ((mn : Nat) : Int)) ∧ SecW w w' b F l (k2 + wn + 1 + pn + mn) [.bool false, sV xb, sV [], .int .i64 ((wn : Nat) : Int), .int .i64 ((pn : Nat) : Int), .int .i64 0, .bool true, .int .i64 0, sV []] := by
              have q := S105.many hb 35 9 (by decide)
              rw [hmn] at q
              exact q
            clear S105
            go_wp2_with fail
            refine M110.mono ?_
            rintro e w108 ⟨rfl, S107⟩
            clear M110
            clear aa ff
            have S109 := S107.put hb (Nat.le_of_eq HF.out) 5 (by simp) (.int .i64 ((mn : Nat) : Int))
            have a5 := (S107.2.1 5 _ rfl).1
            have f5 := (S107.2.1 5 _ rfl).2
            clear S107
            have is : ((pn : Nat) : Int) + ((mn : Nat) : Int) ≠ 0 := by omega
            have c4 := (S109.2.1 4 _ rfl).1
            have c5 := (S109.2.1 5 _ rfl).1
            have aa := a5
            have ff := f5
            clear a5 f5
            have M114 : Calls Tryd.prog 41 #[.pointer (some ⟨b, 0, none⟩), sV [37], .int .i64 3] (w108.setCell ⟨F + 1, 5, none⟩ (.int .i64 ((mn : Nat) : Int))) fun e w' => e = .returned (.int .i64 ((tn : Nat) : Int)) ∧ SecW w w' b F l (k2 + wn + 1 + pn + mn + tn) [.bool false, sV xb, sV [], .int .i64 ((wn : Nat) : Int), .int .i64 ((pn : Nat) : Int), .int .i64 ((mn : Nat) : Int), .bool true, .int .i64 0, sV []] := by
              have q := S109.many hb 37 3 (by decide)
              rw [htn] at q
              exact q
            clear S109
            go_wp2_with fail
            refine M114.mono ?_
            rintro e w111 ⟨rfl, S112⟩
            clear M114
            have S113 := S112.put hb (Nat.le_of_eq HF.out) 7 (by simp) (.int .i64 ((tn : Nat) : Int))
            have a7 := (S112.2.1 7 _ rfl).1
            have f7 := (S112.2.1 7 _ rfl).2
            clear S112
            have Q := S113.quoted hb
            clear S113
            go_wp2_with fail
            refine Q.mono ?_
            rintro e w115 ⟨kq, S116, hq | hq⟩
            · obtain ⟨⟨ya, yr⟩, hy, rfl, hdq⟩ := hq
              have HE : Hid (SS = some ((⟨false, xb, ya, wn, pn, mn, true, tn, []⟩ : KT), yr)) := by show _ = _; rw [HT.out, hy]; rfl
              have HD : Hid (l.drop kq = yr) := hdq
              clear HT hy hdq Q
              have S117 := S116.put hb (Nat.le_of_eq HF.out) 2 (by simp) (sV ya)
              have a2 := (S116.2.1 2 _ rfl).1
              have f2 := (S116.2.1 2 _ rfl).2
              clear S116
              have g2 := a2
              have h2 := f2
              clear a2 f2
              obtain ⟨A, VF, VR, O⟩ := id S117
              have a0 := (VF 0 _ rfl).1
              have a1 := (VF 1 _ rfl).1
              have a2 := (VF 2 _ rfl).1
              have a3 := (VF 3 _ rfl).1
              have a4 := (VF 4 _ rfl).1
              have a5 := (VF 5 _ rfl).1
              have a6 := (VF 6 _ rfl).1
              have a7 := (VF 7 _ rfl).1
              have a8 := (VF 8 _ rfl).1
              have b0 := (VR 0 _ rfl).1
              have b1 := (VR 1 _ rfl).1
              have b2 := (VR 2 _ rfl).1
              have b3 := (VR 3 _ rfl).1
              have b4 := (VR 4 _ rfl).1
              have b5 := (VR 5 _ rfl).1
              have b6 := (VR 6 _ rfl).1
              have b7 := (VR 7 _ rfl).1
              have b8 := (VR 8 _ rfl).1
              have f0 := (VR 0 _ rfl).2
              have f1 := (VR 1 _ rfl).2
              have f2 := (VR 2 _ rfl).2
              have f3 := (VR 3 _ rfl).2
              have f4 := (VR 4 _ rfl).2
              have f5 := (VR 5 _ rfl).2
              have f6 := (VR 6 _ rfl).2
              have f7 := (VR 7 _ rfl).2
              have f8 := (VR 8 _ rfl).2
              obtain ⟨D, AD, OD⟩ := S117.done hb (Nat.le_of_eq HF.out) (.bool false) (sV xb) (sV ya) (.int .i64 ((wn : Nat) : Int)) (.int .i64 ((pn : Nat) : Int)) (.int .i64 ((mn : Nat) : Int)) (.bool true) (.int .i64 ((tn : Nat) : Int)) (sV [])
              have d0 := (D 0 _ rfl).1
              have d1 := (D 1 _ rfl).1
              have d2 := (D 2 _ rfl).1
              have d3 := (D 3 _ rfl).1
              have d4 := (D 4 _ rfl).1
              have d5 := (D 5 _ rfl).1
              have d6 := (D 6 _ rfl).1
              have d7 := (D 7 _ rfl).1
              have d8 := (D 8 _ rfl).1
              clear VF VR A O D S117
              go_wp2_with fail
              exact bodyPost_ret (v := .tuple #[.agg #[.bool false, sV xb, sV ya, .int .i64 ((wn : Nat) : Int), .int .i64 ((pn : Nat) : Int), .int .i64 ((mn : Nat) : Int), .bool true, .int .i64 ((tn : Nat) : Int), sV []], .bool true]) (by simp [results, Tryd.results26, go_sem, d0, d1, d2, d3, d4, d5, d6, d7, d8]) rfl ⟨⟨kq, AD, .inl ⟨_, HE.out, rfl, HD.out⟩⟩, OD⟩
            · obtain ⟨hy, rfl⟩ := hq
              have HE : Hid (SS = none) := by show _ = _; rw [HT.out, hy]; rfl
              clear HT hy Q
              have S118 := S116.put hb (Nat.le_of_eq HF.out) 2 (by simp) (sV [])
              have a2 := (S116.2.1 2 _ rfl).1
              have f2 := (S116.2.1 2 _ rfl).2
              clear S116
              have g2 := a2
              have h2 := f2
              clear a2 f2
              obtain ⟨A, VF, VR, O⟩ := id S118
              have a0 := (VF 0 _ rfl).1
              have a1 := (VF 1 _ rfl).1
              have a2 := (VF 2 _ rfl).1
              have a3 := (VF 3 _ rfl).1
              have a4 := (VF 4 _ rfl).1
              have a5 := (VF 5 _ rfl).1
              have a6 := (VF 6 _ rfl).1
              have a7 := (VF 7 _ rfl).1
              have a8 := (VF 8 _ rfl).1
              have b0 := (VR 0 _ rfl).1
              have b1 := (VR 1 _ rfl).1
              have b2 := (VR 2 _ rfl).1
              have b3 := (VR 3 _ rfl).1
              have b4 := (VR 4 _ rfl).1
              have b5 := (VR 5 _ rfl).1
              have b6 := (VR 6 _ rfl).1
              have b7 := (VR 7 _ rfl).1
              have b8 := (VR 8 _ rfl).1
              have f0 := (VR 0 _ rfl).2
              have f1 := (VR 1 _ rfl).2
              have f2 := (VR 2 _ rfl).2
              have f3 := (VR 3 _ rfl).2
              have f4 := (VR 4 _ rfl).2
              have f5 := (VR 5 _ rfl).2
              have f6 := (VR 6 _ rfl).2
              have f7 := (VR 7 _ rfl).2
              have f8 := (VR 8 _ rfl).2
              obtain ⟨D, AD, OD⟩ := S118.done hb (Nat.le_of_eq HF.out) (.bool false) (sV xb) (sV []) (.int .i64 ((wn : Nat) : Int)) (.int .i64 ((pn : Nat) : Int)) (.int .i64 ((mn : Nat) : Int)) (.bool true) (.int .i64 ((tn : Nat) : Int)) (sV [])
              have d0 := (D 0 _ rfl).1
              have d1 := (D 1 _ rfl).1
              have d2 := (D 2 _ rfl).1
              have d3 := (D 3 _ rfl).1
              have d4 := (D 4 _ rfl).1
              have d5 := (D 5 _ rfl).1
              have d6 := (D 6 _ rfl).1
              have d7 := (D 7 _ rfl).1
              have d8 := (D 8 _ rfl).1
              clear VF VR A O D S118
              go_wp2_with fail
              exact bodyPost_ret (v := .tuple #[.agg #[.bool false, sV xb, sV [], .int .i64 ((wn : Nat) : Int), .int .i64 ((pn : Nat) : Int), .int .i64 ((mn : Nat) : Int), .bool true, .int .i64 ((tn : Nat) : Int), sV []], .bool false]) (by simp [results, Tryd.results26, go_sem, d0, d1, d2, d3, d4, d5, d6, d7, d8]) rfl ⟨⟨kq, AD, .inr ⟨HE.out, (⟨false, xb, [], wn, pn, mn, true, tn, []⟩ : KT), rfl⟩⟩, OD⟩
  · obtain ⟨hx, rfl⟩ := hq
    have HE : Hid (SS = none) := by show _ = _; rw [HS.out, hx]
    clear S0 HS hx
    obtain ⟨A, VF, VR, O⟩ := id S1
    have a0 := (VF 0 _ rfl).1
    have a1 := (VF 1 _ rfl).1
    have a2 := (VF 2 _ rfl).1
    have a3 := (VF 3 _ rfl).1
    have a4 := (VF 4 _ rfl).1
    have a5 := (VF 5 _ rfl).1
    have a6 := (VF 6 _ rfl).1
    have a7 := (VF 7 _ rfl).1
    have a8 := (VF 8 _ rfl).1
    have b0 := (VR 0 _ rfl).1
    have b1 := (VR 1 _ rfl).1
    have b2 := (VR 2 _ rfl).1
    have b3 := (VR 3 _ rfl).1
    have b4 := (VR 4 _ rfl).1
    have b5 := (VR 5 _ rfl).1
    have b6 := (VR 6 _ rfl).1
    have b7 := (VR 7 _ rfl).1
    have b8 := (VR 8 _ rfl).1
    have f0 := (VR 0 _ rfl).2
    have f1 := (VR 1 _ rfl).2
    have f2 := (VR 2 _ rfl).2
    have f3 := (VR 3 _ rfl).2
    have f4 := (VR 4 _ rfl).2
    have f5 := (VR 5 _ rfl).2
    have f6 := (VR 6 _ rfl).2
    have f7 := (VR 7 _ rfl).2
    have f8 := (VR 8 _ rfl).2
    obtain ⟨D, AD, OD⟩ := S1.done hb (Nat.le_of_eq HF.out) (.bool false) (sV []) (sV []) (.int .i64 0) (.int .i64 0) (.int .i64 0) (.bool false) (.int .i64 0) (sV [])
    have d0 := (D 0 _ rfl).1
    have d1 := (D 1 _ rfl).1
    have d2 := (D 2 _ rfl).1
    have d3 := (D 3 _ rfl).1
    have d4 := (D 4 _ rfl).1
    have d5 := (D 5 _ rfl).1
    have d6 := (D 6 _ rfl).1
    have d7 := (D 7 _ rfl).1
    have d8 := (D 8 _ rfl).1
    clear VF VR A O D S1
    go_wp2_with fail
    exact bodyPost_ret (v := .tuple #[.agg #[.bool false, sV [], sV [], .int .i64 0, .int .i64 0, .int .i64 0, .bool false, .int .i64 0, sV []], .bool false]) (by simp [results, Tryd.results26, go_sem, d0, d1, d2, d3, d4, d5, d6, d7, d8]) rfl ⟨⟨k1, AD, .inr ⟨HE.out, zeroKT, rfl⟩⟩, OD⟩

end Go.Proofs.YthedbjjncnddbaaDoor
