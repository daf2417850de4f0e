/-
  Chapter 14: a row, by the program.
-/
import Derived.Test.YtkjbeciiecljgaaDoorRd4
import Derived.Test.YtkjbeciiecljgaaDoorAs0
import Derived.Deep.AppendLies
namespace Go.Proofs.YtkjbeciiecljgaaDoor
open Go.RowKit

/-- A row of texts of one's own, that may grow. -/
abbrev OwnX (w : World) (base : Nat) (v : Value) (l : List (List UInt8)) : Prop := w.ownsRow base 9 1 v l.length (l.map sV)
theorem ownX_nil (w : World) (base : Nat) : OwnX w base (.slice none 0 0) [] := World.ownsRow_nil _ _ _ _
theorem ownX_lt {w : World} {base : Nat} {v : Value} {l : List (List UInt8)} (h : OwnX w base v l) : ∀ r, v.ownBlock = some r → base ≤ r ∧ r < w.heap.size := by
  intro r hr
  rcases h.2 with ⟨rfl, _⟩ | ⟨g, cap, cur, rfl, h2, h3, _⟩
  · cases hr
  · have : g = r := by simpa [Value.ownBlock] using hr
    subst this
    refine ⟨h2, ?_⟩
    rcases Nat.lt_or_ge g w.heap.size with h' | h'
    · exact h'
    · rw [Array.getElem?_eq_none h'] at h3; cases h3
theorem ownX_block {w w' : World} {base : Nat} {v : Value} {l : List (List UInt8)} (h : OwnX w base v l) (hx : ∀ r, v.ownBlock = some r → w'.heap[r]? = w.heap[r]?) : OwnX w' base v l := by
  refine ⟨h.1, h.2.imp id ?_⟩
  rintro ⟨g, cap, cur, rfl, h2, h3, h4⟩
  exact ⟨g, cap, cur, rfl, h2, by rw [hx g rfl]; exact h3, h4⟩
theorem ownX_later {w w' : World} {base : Nat} {v : Value} {l : List (List UInt8)} (h : OwnX w base v l) (hx : Ext w w') : OwnX w' base v l := ownX_block h fun r hr => hx.block r (ownX_lt h r hr).2
theorem ownX_sole {w w' : World} {b base : Nat} {v : Value} {l : List (List UInt8)} (h : OwnX w base v l) (hx : Sole b w w') (hb : b < base) : OwnX w' base v l :=
  ownX_block h fun r hr => hx.block r (by have := (ownX_lt h r hr).1; omega) (ownX_lt h r hr).2
theorem ownX_slice {w : World} {base : Nat} {v : Value} {l : List (List UInt8)} (h : OwnX w base v l) : ∃ p c, v = .slice p l.length c ∧ l.length ≤ c := by
  rcases h.2 with ⟨rfl, h0⟩ | ⟨g, cap, cur, rfl, _, _, h3, _⟩
  · exact ⟨none, 0, by rw [h0], by omega⟩
  · exact ⟨_, _, rfl, h3⟩
theorem infoX : ∃ inf, Tryd.prog.info? 9 = some inf ∧ inf.zero = some (.string ByteArray.empty) ∧ inf.size = 1 ∧ inf.bytes = 16 := by
  have h : (Tryd.prog.info? 9).map (fun i => (i.zero, i.size, i.bytes)) = some (some (.string ByteArray.empty), 1, 16) := by kernel_rfl
  cases h' : Tryd.prog.info? 9 with
  | none => rw [h'] at h; cases h
  | some inf =>
    rw [h'] at h
    simp at h
    exact ⟨inf, rfl, h.1, h.2.1, h.2.2⟩
theorem Rdr.grown {w w' : World} {b : Nat} {t : List UInt8} {m : UInt8} {i : Nat} (h : Rdr w b t m i) {row : Option Nat} (g : w.grownBy w' row) (hr : ∀ r, row = some r → b ≠ r) : Rdr w' b t m i := by
  have hb : w'.heap[b]? = w.heap[b]? := g.block b (World.block_lt_of_cell? _ _ h.1.1) (fun e => hr b e.symm rfl)
  unfold Rdr Box3 World.cell? World.frozen? at *
  simp only [hb]
  exact h
/-- A row: its fields and where it ends, or why there is none and where. -/
inductive WU where
  | ok (l : List (List UInt8)) (n : Nat)
  | bad (e n : Nat)
def rowU (m : UInt8) (t : List UInt8) : Nat → Nat → List (List UInt8) → WU
  | 0, _, _ => .bad 0 0
  | k + 1, i, row => match fieldU m (t.drop i) with
    | .bad e n => .bad e (i + n)
    | .ok f n => if pfxB (t.drop (i + n)) [m] = true then rowU m t k (i + n + 1) (row ++ [f]) else .ok (row ++ [f]) (i + n + endU (t.drop (i + n)))
theorem endU_pfx (s : List UInt8) : endU s = if pfxB s [10] = true then 1 else if pfxB s [13, 10] = true then 2 else 0 := by
  rw [pfxB_one]
  unfold endU pfxB
  match s with
  | [] => rfl
  | [b] =>
    by_cases h : b = 10
    · subst h; rfl
    · by_cases h3 : b = 13
      · subst h3; rfl
      · simp [h]
  | b :: c :: r =>
    by_cases h : b = 10
    · subst h; simp
    · by_cases h3 : b = 13
      · subst h3
        by_cases h4 : c = 10
        · subst h4; simp
        · simp [h4]
      · simp [h, h3]
/-- What the program answers of a row. -/
def rowA (e1 e2 : Value) (v : Value) : WU → Value
  | .ok _ _ => .tuple #[v, .nilIface]
  | .bad e n => .tuple #[.slice none 0 0, faultV (if e = 1 then e1 else e2) n]
def RowOK (w : World) (b : Nat) (t : List UInt8) (m : UInt8) (base : Nat) (v : Value) : WU → Prop
  | .ok l n => Rdr w b t m n ∧ OwnX w base v l
  | .bad _ _ => True
set_option maxRecDepth 8000 in
set_option maxHeartbeats 4000000 in
theorem rowI (b : Nat) (t : List UInt8) (m : UInt8) (i0 : Nat) (t1 : TypeId) (p1 : Value) (t2 : TypeId) (p2 : Value) (w : World) (h : Rdr w b t m i0) (hi : i0 ≤ t.length) (ht : t.length ≤ 30000) (hm : m.toNat < 128)
    (he : Flt w t1 p1 t2 p2) (hb : 9 ≤ b) :
    Calls Tryd.prog 19 #[.pointer (some ⟨b, 0, none⟩)] w fun e w' => ∃ v,
      e = .returned (rowA (.iface t1 p1) (.iface t2 p2) v (rowU m t (t.length - i0 + 1) i0 [])) ∧ RowOK w' b t m w.heap.size v (rowU m t (t.length - i0 + 1) i0 []) ∧ Sole b w w' := by
  have HR : Hid (Rdr w b t m i0) := h
  have HE : Hid (Flt w t1 p1 t2 p2) := he
  have HB : Hid (i0 ≤ t.length ∧ t.length ≤ 30000 ∧ m.toNat < 128 ∧ 9 ≤ b) := ⟨hi, ht, hm, hb⟩
  have HBW : Hid (b < w.heap.size) := World.block_lt_of_cell? _ _ h.1.1
  obtain ⟨R, hR⟩ : ∃ R, rowU m t (t.length - i0 + 1) i0 [] = R := ⟨_, rfl⟩
  have HRR : Hid (rowU m t (t.length - i0 + 1) i0 [] = R) := hR
  rw [hR]
  clear h he hi ht hm hb hR
  go_enter Tryd.func19, Tryd.ntmps19
  have HS0 : Hid (OwnX w w.heap.size (.slice none 0 0) [] ∧ i0 ≤ t.length ∧ Sole b w w ∧ Rdr w b t m i0 ∧ ([] : List (List UInt8)).length ≤ i0 + 1) := ⟨ownX_nil _ _, HB.out.1, Sole.refl _ _, HR.out, by simp⟩
  obtain ⟨G, hG⟩ : ∃ G, t.length - i0 + 1 = G := ⟨_, rfl⟩
  have HG : Hid (t.length + 1 ≤ i0 + G ∧ rowU m t G i0 [] = R) := ⟨by omega, by rw [← hG]; exact HRR.out⟩
  clear hG HRR HR
  go_wp2_with fail
  go_loopg [4, 5] G (fun g v q wr => ∃ (i : Nat) (row : List (List UInt8)) (mb : Bool), q = .bool mb ∧ Hid (OwnX wr w.heap.size v row ∧ i ≤ t.length ∧ Sole b w wr ∧ Rdr wr b t m i ∧ row.length ≤ i + 1) ∧ Hid (mb = true → t.length + 1 ≤ i + g ∧ row.length ≤ i ∧ rowU m t g i row = R) ∧ Hid (mb = false → R = .ok row (i + endU (t.drop i))))
  case atStart => exact ⟨i0, [], true, rfl, HS0, fun _ => ⟨HG.out.1, by simp, HG.out.2⟩, fun h => by cases h⟩
  case round =>
    clear HS0 HG
    obtain ⟨i, row, mb, rfl, HI, HT, HF⟩ := hrel
    obtain ⟨p4, c4, hv4, hc4⟩ := ownX_slice HI.out.1
    subst hv4
    cases mb
    · have HRv : Hid (R = .ok row (i + endU (t.drop i))) := HF.out rfl
      clear HT HF
      obtain ⟨OX, hil, SW, RW, -⟩ := id HI.out
      have C1 := passesI b t m i [10] wr RW hil HB.out.2.1 (by decide)
      have HEN := endU_pfx (t.drop i)
      obtain ⟨A, hA⟩ : ∃ A, pfxB (t.drop i) [10] = A := ⟨_, rfl⟩
      rw [hA] at C1 HEN
      have HEN' : Hid (endU (t.drop i) = if A = true then 1 else if pfxB (t.drop i) [13, 10] = true then 2 else 0) := HEN
      have HSW : Hid (Sole b w wr) := SW
      clear HEN hA OX SW RW
      cases A
      · go_wp2_with fail
        refine C1.mono ?_
        rintro _ w1 ⟨rfl, R1, S1⟩
        have HW1 : Hid (Sole b w w1 ∧ OwnX w1 w.heap.size (.slice p4 row.length c4) row) := ⟨HSW.out.trans S1, ownX_sole HI.out.1 S1 HBW.out⟩
        have C2 := passesI b t m i [13, 10] w1 R1 hil HB.out.2.1 (by decide)
        obtain ⟨A, hA⟩ : ∃ A, pfxB (t.drop i) [13, 10] = A := ⟨_, rfl⟩
        rw [hA] at C2
        have HA : Hid (pfxB (t.drop i) [13, 10] = A) := hA
        clear hA C1 R1 S1
        go_wp2_with fail
        refine C2.mono ?_
        rintro _ w2 ⟨rfl, R2, S2⟩
        have HW2 : Hid (Sole b w w2 ∧ RowOK w2 b t m w.heap.size (.slice p4 row.length c4) R ∧ rowA (.iface t1 p1) (.iface t2 p2) (.slice p4 row.length c4) R = .tuple #[.slice p4 row.length c4, .nilIface]) := by
          refine ⟨HW1.out.1.trans S2, ?_, by rw [HRv.out]; rfl⟩
          rw [HRv.out]
          refine ⟨?_, ownX_sole HW1.out.2 S2 HBW.out⟩
          rw [HEN'.out, HA.out]
          cases A
          · exact R2
          · exact R2
        clear R2 S2 C2
        go_wp2_with fail
        exact bodyPost_ret (v := .tuple #[.slice p4 row.length c4, .nilIface]) (by simp [results, Tryd.results19, go_sem]) rfl ⟨_, by rw [HW2.out.2.2], HW2.out.2.1, HW2.out.1⟩
      · go_wp2_with fail
        refine C1.mono ?_
        rintro _ w2 ⟨rfl, R2, S2⟩
        have HW2 : Hid (Sole b w w2 ∧ RowOK w2 b t m w.heap.size (.slice p4 row.length c4) R ∧ rowA (.iface t1 p1) (.iface t2 p2) (.slice p4 row.length c4) R = .tuple #[.slice p4 row.length c4, .nilIface]) := by
          refine ⟨HSW.out.trans S2, ?_, by rw [HRv.out]; rfl⟩
          rw [HRv.out]
          refine ⟨?_, ownX_sole HI.out.1 S2 HBW.out⟩
          rw [HEN'.out]
          exact R2
        clear R2 S2 C1
        go_wp2_with fail
        exact bodyPost_ret (v := .tuple #[.slice p4 row.length c4, .nilIface]) (by simp [results, Tryd.results19, go_sem]) rfl ⟨_, by rw [HW2.out.2.2], HW2.out.2.1, HW2.out.1⟩
    · obtain ⟨hg1, hrl, hgR⟩ := HT.out rfl
      clear HF HT
      obtain ⟨OX, hil, SW, RW, -⟩ := id HI.out
      obtain ⟨g, rfl⟩ : ∃ g, gk = g + 1 := ⟨gk - 1, by omega⟩
      have HFL : Hid (∀ u v2, Sole b w u → w.cell? v2 = some (.iface t1 p1) → v2.block ≠ b → u.cell? v2 = some (.iface t1 p1)) := fun u v2 s hc hn => s.cell hn hc
      have F0 : Flt wr t1 p1 t2 p2 := ⟨SW.cell (by show 1 ≠ b; have := HB.out.2.2.2; omega) HE.out.1, SW.cell (by show 2 ≠ b; have := HB.out.2.2.2; omega) HE.out.2⟩
      have CF := fieldI b t m i t1 p1 t2 p2 wr RW hil HB.out.2.1 HB.out.2.2.1 F0
      obtain ⟨F, hF⟩ : ∃ F, fieldU m (t.drop i) = F := ⟨_, rfl⟩
      rw [hF] at CF
      have HSW : Hid (Sole b w wr) := SW
      have HGR : Hid (rowU m t (g + 1) i row = R) := hgR
      have HFF : Hid (fieldU m (t.drop i) = F) := hF
      clear F0 HFL OX SW RW hgR hF
      cases F with
      | bad e n =>
        have HRv : Hid (R = .bad e (i + n)) := by
          show _ = _
          rw [← HGR.out]
          unfold rowU
          rw [HFF.out]
        change Calls Tryd.prog 26 #[.pointer (some ⟨b, 0, none⟩)] wr fun e' w' => e' = .returned (.tuple #[sV [], .iface 47 (.agg #[if e = 1 then .iface t1 p1 else .iface t2 p2, .int .i64 ((i + n : Nat) : Int)])]) ∧ True ∧ Sole b wr w' at CF
        obtain ⟨fv, hfv⟩ : ∃ fv : Value, .agg #[if e = 1 then .iface t1 p1 else .iface t2 p2, .int .i64 ((i + n : Nat) : Int)] = fv := ⟨_, rfl⟩
        rw [hfv] at CF
        have HA : Hid (rowA (.iface t1 p1) (.iface t2 p2) (.slice none 0 0) R = .tuple #[.slice none 0 0, .iface 47 fv]) := by
          show _ = _
          rw [HRv.out, ← hfv]
          rfl
        clear hfv
        go_wp2_with fail
        refine CF.mono ?_
        rintro _ w1 ⟨rfl, -, S1⟩
        have HK : Hid (RowOK w1 b t m w.heap.size (.slice none 0 0) R ∧ Sole b w w1) := ⟨by rw [HRv.out]; trivial, HSW.out.trans S1⟩
        clear CF S1
        go_wp2_with fail
        exact bodyPost_ret (v := .tuple #[.slice none 0 0, .iface 47 fv]) (by simp [results, Tryd.results19, go_sem]) rfl ⟨_, by rw [HA.out], HK.out.1, HK.out.2⟩
      | ok f n =>
        have hfl := fieldU_le HFF.out
        rw [List.length_drop] at hfl
        have hin : i + n ≤ t.length := by omega
        have HRv : Hid (R = if pfxB (t.drop (i + n)) [m] = true then rowU m t g (i + n + 1) (row ++ [f]) else .ok (row ++ [f]) (i + n + endU (t.drop (i + n)))) := by
          show _ = _
          rw [← HGR.out]
          conv => lhs; unfold rowU
          rw [HFF.out]
        change Calls Tryd.prog 26 #[.pointer (some ⟨b, 0, none⟩)] wr fun e' w' => e' = .returned (.tuple #[sV f, .nilIface]) ∧ Rdr w' b t m (i + n) ∧ Sole b wr w' at CF
        go_wp2_with fail
        refine CF.mono ?_
        rintro _ w1 ⟨rfl, R1, S1⟩
        have HOB : Hid (∀ r, (Value.slice p4 row.length c4).ownBlock = some r → w.heap.size ≤ r ∧ r < wr.heap.size) := ownX_lt HI.out.1
        have OQ : Hid (OwnX w1 w.heap.size (.slice p4 row.length c4) row) := ownX_sole HI.out.1 S1 HBW.out
        have S2 := HSW.out.trans S1
        have hw1 : w.heap.size ≤ w1.heap.size := S2.size
        have hL : row.length ≤ 30000 := by have := HB.out.2.1; omega
        obtain ⟨sf, hsf⟩ : ∃ sf : ByteArray, (⟨f.toArray⟩ : ByteArray) = sf := ⟨_, rfl⟩
        have HSF : Hid ((.string sf : Value) = sV f) := by show _ = _; rw [← hsf]
        clear CF HSW HI HFF HGR hsf
        rw [← HSF.out]
        obtain ⟨inf, hi, hz, hz1, hz2⟩ := infoX
        go_wp2_with (at_builtin; refine wpList_append_own _ rfl _ _ 30 rfl w.heap.size 9 inf (.string ByteArray.empty) 1 16 Tryd.underlying30 hi hz hz1 hz2 rfl (by decide) _ _ _ rfl (OQ.out.alloc _) ⟨w1.heap.size, 0, none⟩ 1 1 [.string sf] rfl rfl (World.news_of_block (heap_alloc_new w1 (.cells [.string sf].toArray 9))) (by simp [Value.oneCell']) (by simp only [maxLen]; omega) (by omega) (by simp; omega) ?_)
        intro v7 wC ownC gC _
        have EA := x1 w1 (.cells #[.string sf] 9)
        have hrb : ∀ r, (Value.slice p4 row.length c4).ownBlock = some r → w.heap.size ≤ r := fun r hr => (HOB.out r hr).1
        have SC := (S2.step EA).grown gC hrb
        have RC : Rdr wC b t m (i + n) := (R1.later EA).grown gC (fun r hr => by have := hrb r hr; have := HBW.out; omega)
        have OC : OwnX wC w.heap.size v7 (row ++ [f]) := by
          show World.ownsRow _ _ _ _ _ _ _
          rw [List.map_append, List.length_append, List.map_singleton, ← HSF.out]
          exact ownC
        obtain ⟨p7, q7, hv7, hq7⟩ := ownX_slice OC
        subst hv7
        have HC : Hid (Sole b w wC ∧ OwnX wC w.heap.size (.slice p7 (row ++ [f]).length q7) (row ++ [f])) := ⟨SC, OC⟩
        obtain ⟨⟨q0, q1, q2⟩, z0, z1, z2⟩ := id RC
        have CP := passesI b t m (i + n) [m] wC RC hin HB.out.2.1 (by simp)
        obtain ⟨A, hA⟩ : ∃ A, pfxB (t.drop (i + n)) [m] = A := ⟨_, rfl⟩
        have HRW : Hid (R = if A = true then rowU m t g (i + n + 1) (row ++ [f]) else .ok (row ++ [f]) (i + n + endU (t.drop (i + n)))) := by show _ = _; rw [← hA]; exact HRv.out
        rw [hA] at CP
        have HIN : Hid (A = true → i + n + 1 ≤ t.length) := fun h => by
          rw [h, pfxB_one] at hA
          rcases Nat.lt_or_ge (i + n) t.length with h' | h'
          · omega
          · rw [List.drop_of_length_le h'] at hA
            simp at hA
        obtain ⟨mv, hmv⟩ : ∃ mv : Value, sV [m] = mv := ⟨_, rfl⟩
        rw [hmv] at CP q1
        obtain ⟨L7, hL7⟩ : ∃ L7, (row ++ [f]).length = L7 := ⟨_, rfl⟩
        have HL7 : Hid (L7 = row.length + 1) := by show _ = _; rw [← hL7]; simp
        rw [hL7] at HC hq7 ⊢
        have HLE : Hid ((row ++ [f]).length = L7) := hL7
        clear hL7 hmv hA HRv SC RC OC EA gC ownC OQ S2 R1 S1 HSF hi hz hz1 hz2 q0 q2 z0 z1 z2 hrb HOB
        cases A
        · have HRW2 : Hid (R = .ok (row ++ [f]) (i + n + endU (t.drop (i + n)))) := HRW.out
          clear HRW HIN
          go_wp2_with fail
          refine CP.mono ?_
          rintro _ w2 ⟨rfl, R2, S2⟩
          have HK : Hid (OwnX w2 w.heap.size (.slice p7 L7 q7) (row ++ [f]) ∧ i + n ≤ t.length ∧ Sole b w w2 ∧ Rdr w2 b t m (i + n) ∧ (row ++ [f]).length ≤ (i + n) + 1) := ⟨ownX_sole HC.out.2 S2 HBW.out, hin, HC.out.1.trans S2, R2, by rw [HLE.out, HL7.out]; omega⟩
          clear CP R2 S2
          go_wp2_with fail
          go_roundg g
          case measure => omega
          case rel => exact ⟨i + n, row ++ [f], false, rfl, HK, (fun h => by cases h), (fun _ => HRW2.out)⟩
        · have HRW2 : Hid (R = rowU m t g (i + n + 1) (row ++ [f])) := HRW.out
          have HIN2 : Hid (i + n + 1 ≤ t.length) := HIN.out rfl
          clear HRW HIN
          go_wp2_with fail
          refine CP.mono ?_
          rintro _ w2 ⟨rfl, R2, S2⟩
          have HK : Hid (OwnX w2 w.heap.size (.slice p7 L7 q7) (row ++ [f]) ∧ i + n + 1 ≤ t.length ∧ Sole b w w2 ∧ Rdr w2 b t m (i + n + 1) ∧ (row ++ [f]).length ≤ (i + n + 1) + 1) := ⟨ownX_sole HC.out.2 S2 HBW.out, HIN2.out, HC.out.1.trans S2, R2, by rw [HLE.out, HL7.out]; omega⟩
          clear CP R2 S2
          go_wp2_with fail
          go_roundg g
          case measure => omega
          case rel => exact ⟨i + n + 1, row ++ [f], true, rfl, HK, fun _ => ⟨by omega, by rw [HLE.out, HL7.out]; omega, HRW2.out.symm⟩, (fun h => by cases h)⟩
end Go.Proofs.YtkjbeciiecljgaaDoor
